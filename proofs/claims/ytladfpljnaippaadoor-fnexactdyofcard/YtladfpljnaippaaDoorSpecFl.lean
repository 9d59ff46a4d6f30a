/-
  The model's value of a float.
-/
import Derived.Test.YtladfpljnaippaaDoorNumF
import Derived.Test.YtladfpljnaippaaDoorDy6
import Derived.Test.YtladfpljnaippaaDoorSpecS2
namespace Go.Proofs.YtladfpljnaippaaDoor
open Go.RowKit

set_option maxHeartbeats 4000000 in
theorem float2_bp (b : Int) (w : World) (h0 : 0 ≤ b) (h1 : b < 4294967296) (hE : 0 < b / 8388608 % 256) (hS : ¬ 2147483648 ≤ b) :
    Calls Tryd.prog 19 #[.int .u32 b] w fun e w' => NormOut w 2 (fNum b) (fExp b - 150) 32 e w' := by
  have HX : Hid (b % 8388608 + 8388608 = fNum b) := by
    unfold Hid fNum fMag
    rw [if_neg (by omega)]
    rw [if_neg (by omega)]
  have HY : Hid (b / 8388608 % 256 - 150 = fExp b - 150) := by
    unfold Hid fExp
    rw [if_neg (by omega)]
  have HX1 : Hid (-4294967296 < fNum b ∧ fNum b < 4294967296) := by
    unfold Hid
    rw [← HX.out]
    omega
  have HY1 : Hid (-150 ≤ fExp b - 150 ∧ fExp b - 150 ≤ 200) := by
    unfold Hid
    rw [← HY.out]
    omega
  have HB0 : Hid (∀ t, Has3 w.heap.size (w.alloc (.cells #[.bool false, .slice none 0 0, .int .i64 0] t))) := fun t => Has3.new w t
  go_enter Tryd.func19, Tryd.ntmps19
  go_wp2_with fail
  rw [HX.out]
  refine (small2_any (fNum b) _ HX1.out.1 HX1.out.2).mono ?_
  rintro e w1 ⟨g1, a1, c1, ds, rfl, hl1, hL1, hF1, hb1⟩
  have K1 : Hid (Has3 w.heap.size w1) := (HB0.out _).later hb1
  have B1 : Hid (Below w.heap.size w w1) := (bel0 _ _).trans (hb1.mono (by simp))
  have HL1 : Hid (L1 w1 g1 a1 c1 ds (fNum b)) := hL1
  clear hb1 hF1 hL1
  go_wp2_with fail
  rw [HY.out]
  refine (norm_any g1 a1 c1 ds _ _ _ (by omega) (by have := HY1.out; omega) (by have := HY1.out; omega) HL1.out).mono ?_
  rintro e w2 ⟨m, e', hnf, g2, a2, c2, fs, rfl, hl2, hL2, hF2, hb2⟩
  have K2 : Hid (Has3 w.heap.size w2) := K1.out.later hb2
  have B2 : Hid (Below w.heap.size w w2) := B1.out.trans (hb2.mono B1.out.size)
  have HL2 : Hid (L1 w2 g2 a2 c2 fs m) := hL2
  have HF2 : Hid (Far (w.heap.size + 1) a2 fs) := hF2.down K1.out.lt
  have HN : Hid (NormOf (fNum b) (fExp b - 150) m e' 32) := by
    rcases hnf with h | ⟨h1, t, h2, h3, h4, h5⟩
    · exact .inl h
    · exact .inr ⟨h1, t, h2, h3, h4, by omega⟩
  have r1 := K2.out.r1
  have r2 := K2.out.r2
  have r3 := K2.out.r3
  have r4 := K2.out.r4
  clear hL2 hF2 hb2 hnf HB0
  go_wp2
  refine bodyPost_ret (v := .agg #[.bool g2, .slice a2 fs.length c2, .int .i64 e']) (by simp [results, Tryd.results19, go_sem, r1, r2, r3]) rfl ?_
  refine ⟨m, e', HN.out, g2, a2, c2, fs, rfl, by omega, ?_, HF2.out.down (by omega), ?_⟩
  · exact ((HL2.out.setFar HF2.out (by simp) _).setFar HF2.out (by simp) _).setFar HF2.out (by simp) _
  · exact ((B2.out.setCell (by simp) _).setCell (by simp) _).setCell (by simp) _

set_option maxHeartbeats 4000000 in
theorem float2_bn (b : Int) (w : World) (h0 : 0 ≤ b) (h1 : b < 4294967296) (hE : 0 < b / 8388608 % 256) (hS : 2147483648 ≤ b) :
    Calls Tryd.prog 19 #[.int .u32 b] w fun e w' => NormOut w 2 (fNum b) (fExp b - 150) 32 e w' := by
  have HX : Hid (-(b % 8388608 + 8388608) = fNum b) := by
    unfold Hid fNum fMag
    rw [if_pos hS]
    rw [if_neg (by omega)]
  have HY : Hid (b / 8388608 % 256 - 150 = fExp b - 150) := by
    unfold Hid fExp
    rw [if_neg (by omega)]
  have HX1 : Hid (-4294967296 < fNum b ∧ fNum b < 4294967296) := by
    unfold Hid
    rw [← HX.out]
    omega
  have HY1 : Hid (-150 ≤ fExp b - 150 ∧ fExp b - 150 ≤ 200) := by
    unfold Hid
    rw [← HY.out]
    omega
  have HB0 : Hid (∀ t, Has3 w.heap.size (w.alloc (.cells #[.bool false, .slice none 0 0, .int .i64 0] t))) := fun t => Has3.new w t
  go_enter Tryd.func19, Tryd.ntmps19
  go_wp2_with fail
  rw [HX.out]
  refine (small2_any (fNum b) _ HX1.out.1 HX1.out.2).mono ?_
  rintro e w1 ⟨g1, a1, c1, ds, rfl, hl1, hL1, hF1, hb1⟩
  have K1 : Hid (Has3 w.heap.size w1) := (HB0.out _).later hb1
  have B1 : Hid (Below w.heap.size w w1) := (bel0 _ _).trans (hb1.mono (by simp))
  have HL1 : Hid (L1 w1 g1 a1 c1 ds (fNum b)) := hL1
  clear hb1 hF1 hL1
  go_wp2_with fail
  rw [HY.out]
  refine (norm_any g1 a1 c1 ds _ _ _ (by omega) (by have := HY1.out; omega) (by have := HY1.out; omega) HL1.out).mono ?_
  rintro e w2 ⟨m, e', hnf, g2, a2, c2, fs, rfl, hl2, hL2, hF2, hb2⟩
  have K2 : Hid (Has3 w.heap.size w2) := K1.out.later hb2
  have B2 : Hid (Below w.heap.size w w2) := B1.out.trans (hb2.mono B1.out.size)
  have HL2 : Hid (L1 w2 g2 a2 c2 fs m) := hL2
  have HF2 : Hid (Far (w.heap.size + 1) a2 fs) := hF2.down K1.out.lt
  have HN : Hid (NormOf (fNum b) (fExp b - 150) m e' 32) := by
    rcases hnf with h | ⟨h1, t, h2, h3, h4, h5⟩
    · exact .inl h
    · exact .inr ⟨h1, t, h2, h3, h4, by omega⟩
  have r1 := K2.out.r1
  have r2 := K2.out.r2
  have r3 := K2.out.r3
  have r4 := K2.out.r4
  clear hL2 hF2 hb2 hnf HB0
  go_wp2
  refine bodyPost_ret (v := .agg #[.bool g2, .slice a2 fs.length c2, .int .i64 e']) (by simp [results, Tryd.results19, go_sem, r1, r2, r3]) rfl ?_
  refine ⟨m, e', HN.out, g2, a2, c2, fs, rfl, by omega, ?_, HF2.out.down (by omega), ?_⟩
  · exact ((HL2.out.setFar HF2.out (by simp) _).setFar HF2.out (by simp) _).setFar HF2.out (by simp) _
  · exact ((B2.out.setCell (by simp) _).setCell (by simp) _).setCell (by simp) _

set_option maxHeartbeats 4000000 in
theorem float2_sp (b : Int) (w : World) (h0 : 0 ≤ b) (h1 : b < 4294967296) (hE : ¬ 0 < b / 8388608 % 256) (hS : ¬ 2147483648 ≤ b) :
    Calls Tryd.prog 19 #[.int .u32 b] w fun e w' => NormOut w 2 (fNum b) (fExp b - 150) 32 e w' := by
  have HX : Hid (b % 8388608 = fNum b) := by
    unfold Hid fNum fMag
    rw [if_neg (by omega)]
    rw [if_pos (by omega)]
  have HY : Hid (-149 = fExp b - 150) := by
    unfold Hid fExp
    rw [if_pos (by omega)]
    rfl
  have HX1 : Hid (-4294967296 < fNum b ∧ fNum b < 4294967296) := by
    unfold Hid
    rw [← HX.out]
    omega
  have HY1 : Hid (-150 ≤ fExp b - 150 ∧ fExp b - 150 ≤ 200) := by
    unfold Hid
    rw [← HY.out]
    omega
  have HB0 : Hid (∀ t, Has3 w.heap.size (w.alloc (.cells #[.bool false, .slice none 0 0, .int .i64 0] t))) := fun t => Has3.new w t
  go_enter Tryd.func19, Tryd.ntmps19
  go_wp2_with fail
  rw [HX.out]
  refine (small2_any (fNum b) _ HX1.out.1 HX1.out.2).mono ?_
  rintro e w1 ⟨g1, a1, c1, ds, rfl, hl1, hL1, hF1, hb1⟩
  have K1 : Hid (Has3 w.heap.size w1) := (HB0.out _).later hb1
  have B1 : Hid (Below w.heap.size w w1) := (bel0 _ _).trans (hb1.mono (by simp))
  have HL1 : Hid (L1 w1 g1 a1 c1 ds (fNum b)) := hL1
  clear hb1 hF1 hL1
  go_wp2_with fail
  rw [HY.out]
  refine (norm_any g1 a1 c1 ds _ _ _ (by omega) (by have := HY1.out; omega) (by have := HY1.out; omega) HL1.out).mono ?_
  rintro e w2 ⟨m, e', hnf, g2, a2, c2, fs, rfl, hl2, hL2, hF2, hb2⟩
  have K2 : Hid (Has3 w.heap.size w2) := K1.out.later hb2
  have B2 : Hid (Below w.heap.size w w2) := B1.out.trans (hb2.mono B1.out.size)
  have HL2 : Hid (L1 w2 g2 a2 c2 fs m) := hL2
  have HF2 : Hid (Far (w.heap.size + 1) a2 fs) := hF2.down K1.out.lt
  have HN : Hid (NormOf (fNum b) (fExp b - 150) m e' 32) := by
    rcases hnf with h | ⟨h1, t, h2, h3, h4, h5⟩
    · exact .inl h
    · exact .inr ⟨h1, t, h2, h3, h4, by omega⟩
  have r1 := K2.out.r1
  have r2 := K2.out.r2
  have r3 := K2.out.r3
  have r4 := K2.out.r4
  clear hL2 hF2 hb2 hnf HB0
  go_wp2
  refine bodyPost_ret (v := .agg #[.bool g2, .slice a2 fs.length c2, .int .i64 e']) (by simp [results, Tryd.results19, go_sem, r1, r2, r3]) rfl ?_
  refine ⟨m, e', HN.out, g2, a2, c2, fs, rfl, by omega, ?_, HF2.out.down (by omega), ?_⟩
  · exact ((HL2.out.setFar HF2.out (by simp) _).setFar HF2.out (by simp) _).setFar HF2.out (by simp) _
  · exact ((B2.out.setCell (by simp) _).setCell (by simp) _).setCell (by simp) _

set_option maxHeartbeats 4000000 in
theorem float2_sn (b : Int) (w : World) (h0 : 0 ≤ b) (h1 : b < 4294967296) (hE : ¬ 0 < b / 8388608 % 256) (hS : 2147483648 ≤ b) :
    Calls Tryd.prog 19 #[.int .u32 b] w fun e w' => NormOut w 2 (fNum b) (fExp b - 150) 32 e w' := by
  have HX : Hid (-(b % 8388608) = fNum b) := by
    unfold Hid fNum fMag
    rw [if_pos hS]
    rw [if_pos (by omega)]
  have HY : Hid (-149 = fExp b - 150) := by
    unfold Hid fExp
    rw [if_pos (by omega)]
    rfl
  have HX1 : Hid (-4294967296 < fNum b ∧ fNum b < 4294967296) := by
    unfold Hid
    rw [← HX.out]
    omega
  have HY1 : Hid (-150 ≤ fExp b - 150 ∧ fExp b - 150 ≤ 200) := by
    unfold Hid
    rw [← HY.out]
    omega
  have HB0 : Hid (∀ t, Has3 w.heap.size (w.alloc (.cells #[.bool false, .slice none 0 0, .int .i64 0] t))) := fun t => Has3.new w t
  go_enter Tryd.func19, Tryd.ntmps19
  go_wp2_with fail
  rw [HX.out]
  refine (small2_any (fNum b) _ HX1.out.1 HX1.out.2).mono ?_
  rintro e w1 ⟨g1, a1, c1, ds, rfl, hl1, hL1, hF1, hb1⟩
  have K1 : Hid (Has3 w.heap.size w1) := (HB0.out _).later hb1
  have B1 : Hid (Below w.heap.size w w1) := (bel0 _ _).trans (hb1.mono (by simp))
  have HL1 : Hid (L1 w1 g1 a1 c1 ds (fNum b)) := hL1
  clear hb1 hF1 hL1
  go_wp2_with fail
  rw [HY.out]
  refine (norm_any g1 a1 c1 ds _ _ _ (by omega) (by have := HY1.out; omega) (by have := HY1.out; omega) HL1.out).mono ?_
  rintro e w2 ⟨m, e', hnf, g2, a2, c2, fs, rfl, hl2, hL2, hF2, hb2⟩
  have K2 : Hid (Has3 w.heap.size w2) := K1.out.later hb2
  have B2 : Hid (Below w.heap.size w w2) := B1.out.trans (hb2.mono B1.out.size)
  have HL2 : Hid (L1 w2 g2 a2 c2 fs m) := hL2
  have HF2 : Hid (Far (w.heap.size + 1) a2 fs) := hF2.down K1.out.lt
  have HN : Hid (NormOf (fNum b) (fExp b - 150) m e' 32) := by
    rcases hnf with h | ⟨h1, t, h2, h3, h4, h5⟩
    · exact .inl h
    · exact .inr ⟨h1, t, h2, h3, h4, by omega⟩
  have r1 := K2.out.r1
  have r2 := K2.out.r2
  have r3 := K2.out.r3
  have r4 := K2.out.r4
  clear hL2 hF2 hb2 hnf HB0
  go_wp2
  refine bodyPost_ret (v := .agg #[.bool g2, .slice a2 fs.length c2, .int .i64 e']) (by simp [results, Tryd.results19, go_sem, r1, r2, r3]) rfl ?_
  refine ⟨m, e', HN.out, g2, a2, c2, fs, rfl, by omega, ?_, HF2.out.down (by omega), ?_⟩
  · exact ((HL2.out.setFar HF2.out (by simp) _).setFar HF2.out (by simp) _).setFar HF2.out (by simp) _
  · exact ((B2.out.setCell (by simp) _).setCell (by simp) _).setCell (by simp) _

theorem float2_any (b : Int) (w : World) (h0 : 0 ≤ b) (h1 : b < 4294967296) :
    Calls Tryd.prog 19 #[.int .u32 b] w fun e w' => NormOut w 2 (fNum b) (fExp b - 150) 32 e w' := by
  by_cases hE : 0 < b / 8388608 % 256
  · by_cases hS : 2147483648 ≤ b
    · exact float2_bn b w h0 h1 hE hS
    · exact float2_bp b w h0 h1 hE hS
  · by_cases hS : 2147483648 ≤ b
    · exact float2_sn b w h0 h1 hE hS
    · exact float2_sp b w h0 h1 hE hS

end Go.Proofs.YtladfpljnaippaaDoor

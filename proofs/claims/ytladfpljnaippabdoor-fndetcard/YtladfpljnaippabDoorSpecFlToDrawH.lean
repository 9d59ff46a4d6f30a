/-
  The model's value of a float.
-/
import Derived.Test.YtladfpljnaippabDoorDraw4DrawGNumFDy6SpecS2
import Derived.Test.YtladfpljnaippabDoorRes
import Derived.Test.YtladfpljnaippabDoorNumS
import Derived.Test.YtladfpljnaippabDoorNumD
import Derived.Test.YtladfpljnaippabDoorDy1h
namespace Go.Proofs.YtladfpljnaippabDoor
open Go.RowKit

set_option maxHeartbeats 4000000 in
theorem float2_bp (b : Int) (w : World) (h0 : 0 ≤ b) (h1 : b < 4294967296) (hE : 0 < b / 8388608 % 256) (hS : ¬ 2147483648 ≤ b) :
    Calls Tryd.prog 37 #[.int .u32 b] w fun e w' => NormOut w 2 (fNum b) (fExp b - 150) 32 e w' := by
  have HX : Hid (b % 8388608 + 8388608 = fNum b) := by
    unfold Hid fNum fMag
    rw [if_neg (by omega)]
    rw [if_neg (by omega)]
  have HY : Hid (b / 8388608 % 256 - 150 = fExp b - 150) := by
    unfold Hid fExp
    rw [if_neg (by omega)]
  have HX1 : Hid (-4294967296 < fNum b ∧ fNum b < 4294967296) := by
    unfold Hid
    rw [← HX.out]
    omega
  have HY1 : Hid (-150 ≤ fExp b - 150 ∧ fExp b - 150 ≤ 200) := by
    unfold Hid
    rw [← HY.out]
    omega
  have HB0 : Hid (∀ t, Has3 w.heap.size (w.alloc (.cells #[.bool false, .slice none 0 0, .int .i64 0] t))) := fun t => Has3.new w t
  go_enter Tryd.func37, Tryd.ntmps37
  go_wp2_with fail
  rw [HX.out]
  refine (small2_any (fNum b) _ HX1.out.1 HX1.out.2).mono ?_
  rintro e w1 ⟨g1, a1, c1, ds, rfl, hl1, hL1, hF1, hb1⟩
  have K1 : Hid (Has3 w.heap.size w1) := (HB0.out _).later hb1
  have B1 : Hid (Below w.heap.size w w1) := (bel0 _ _).trans (hb1.mono (by simp))
  have HL1 : Hid (L1 w1 g1 a1 c1 ds (fNum b)) := hL1
  clear hb1 hF1 hL1
  go_wp2_with fail
  rw [HY.out]
  refine (norm_any g1 a1 c1 ds _ _ _ (by omega) (by have := HY1.out; omega) (by have := HY1.out; omega) HL1.out).mono ?_
  rintro e w2 ⟨m, e', hnf, g2, a2, c2, fs, rfl, hl2, hL2, hF2, hb2⟩
  have K2 : Hid (Has3 w.heap.size w2) := K1.out.later hb2
  have B2 : Hid (Below w.heap.size w w2) := B1.out.trans (hb2.mono B1.out.size)
  have HL2 : Hid (L1 w2 g2 a2 c2 fs m) := hL2
  have HF2 : Hid (Far (w.heap.size + 1) a2 fs) := hF2.down K1.out.lt
  have HN : Hid (NormOf (fNum b) (fExp b - 150) m e' 32) := by
    rcases hnf with h | ⟨h1, t, h2, h3, h4, h5⟩
    · exact .inl h
    · exact .inr ⟨h1, t, h2, h3, h4, by omega⟩
  have r1 := K2.out.r1
  have r2 := K2.out.r2
  have r3 := K2.out.r3
  have r4 := K2.out.r4
  clear hL2 hF2 hb2 hnf HB0
  go_wp2
  refine bodyPost_ret (v := .agg #[.bool g2, .slice a2 fs.length c2, .int .i64 e']) (by simp [results, Tryd.results37, go_sem, r1, r2, r3]) rfl ?_
  refine ⟨m, e', HN.out, g2, a2, c2, fs, rfl, by omega, ?_, HF2.out.down (by omega), ?_⟩
  · exact ((HL2.out.setFar HF2.out (by simp) _).setFar HF2.out (by simp) _).setFar HF2.out (by simp) _
  · exact ((B2.out.setCell (by simp) _).setCell (by simp) _).setCell (by simp) _

set_option maxHeartbeats 4000000 in
theorem float2_bn (b : Int) (w : World) (h0 : 0 ≤ b) (h1 : b < 4294967296) (hE : 0 < b / 8388608 % 256) (hS : 2147483648 ≤ b) :
    Calls Tryd.prog 37 #[.int .u32 b] w fun e w' => NormOut w 2 (fNum b) (fExp b - 150) 32 e w' := by
  have HX : Hid (-(b % 8388608 + 8388608) = fNum b) := by
    unfold Hid fNum fMag
    rw [if_pos hS]
    rw [if_neg (by omega)]
  have HY : Hid (b / 8388608 % 256 - 150 = fExp b - 150) := by
    unfold Hid fExp
    rw [if_neg (by omega)]
  have HX1 : Hid (-4294967296 < fNum b ∧ fNum b < 4294967296) := by
    unfold Hid
    rw [← HX.out]
    omega
  have HY1 : Hid (-150 ≤ fExp b - 150 ∧ fExp b - 150 ≤ 200) := by
    unfold Hid
    rw [← HY.out]
    omega
  have HB0 : Hid (∀ t, Has3 w.heap.size (w.alloc (.cells #[.bool false, .slice none 0 0, .int .i64 0] t))) := fun t => Has3.new w t
  go_enter Tryd.func37, Tryd.ntmps37
  go_wp2_with fail
  rw [HX.out]
  refine (small2_any (fNum b) _ HX1.out.1 HX1.out.2).mono ?_
  rintro e w1 ⟨g1, a1, c1, ds, rfl, hl1, hL1, hF1, hb1⟩
  have K1 : Hid (Has3 w.heap.size w1) := (HB0.out _).later hb1
  have B1 : Hid (Below w.heap.size w w1) := (bel0 _ _).trans (hb1.mono (by simp))
  have HL1 : Hid (L1 w1 g1 a1 c1 ds (fNum b)) := hL1
  clear hb1 hF1 hL1
  go_wp2_with fail
  rw [HY.out]
  refine (norm_any g1 a1 c1 ds _ _ _ (by omega) (by have := HY1.out; omega) (by have := HY1.out; omega) HL1.out).mono ?_
  rintro e w2 ⟨m, e', hnf, g2, a2, c2, fs, rfl, hl2, hL2, hF2, hb2⟩
  have K2 : Hid (Has3 w.heap.size w2) := K1.out.later hb2
  have B2 : Hid (Below w.heap.size w w2) := B1.out.trans (hb2.mono B1.out.size)
  have HL2 : Hid (L1 w2 g2 a2 c2 fs m) := hL2
  have HF2 : Hid (Far (w.heap.size + 1) a2 fs) := hF2.down K1.out.lt
  have HN : Hid (NormOf (fNum b) (fExp b - 150) m e' 32) := by
    rcases hnf with h | ⟨h1, t, h2, h3, h4, h5⟩
    · exact .inl h
    · exact .inr ⟨h1, t, h2, h3, h4, by omega⟩
  have r1 := K2.out.r1
  have r2 := K2.out.r2
  have r3 := K2.out.r3
  have r4 := K2.out.r4
  clear hL2 hF2 hb2 hnf HB0
  go_wp2
  refine bodyPost_ret (v := .agg #[.bool g2, .slice a2 fs.length c2, .int .i64 e']) (by simp [results, Tryd.results37, go_sem, r1, r2, r3]) rfl ?_
  refine ⟨m, e', HN.out, g2, a2, c2, fs, rfl, by omega, ?_, HF2.out.down (by omega), ?_⟩
  · exact ((HL2.out.setFar HF2.out (by simp) _).setFar HF2.out (by simp) _).setFar HF2.out (by simp) _
  · exact ((B2.out.setCell (by simp) _).setCell (by simp) _).setCell (by simp) _

set_option maxHeartbeats 4000000 in
theorem float2_sp (b : Int) (w : World) (h0 : 0 ≤ b) (h1 : b < 4294967296) (hE : ¬ 0 < b / 8388608 % 256) (hS : ¬ 2147483648 ≤ b) :
    Calls Tryd.prog 37 #[.int .u32 b] w fun e w' => NormOut w 2 (fNum b) (fExp b - 150) 32 e w' := by
  have HX : Hid (b % 8388608 = fNum b) := by
    unfold Hid fNum fMag
    rw [if_neg (by omega)]
    rw [if_pos (by omega)]
  have HY : Hid (-149 = fExp b - 150) := by
    unfold Hid fExp
    rw [if_pos (by omega)]
    rfl
  have HX1 : Hid (-4294967296 < fNum b ∧ fNum b < 4294967296) := by
    unfold Hid
    rw [← HX.out]
    omega
  have HY1 : Hid (-150 ≤ fExp b - 150 ∧ fExp b - 150 ≤ 200) := by
    unfold Hid
    rw [← HY.out]
    omega
  have HB0 : Hid (∀ t, Has3 w.heap.size (w.alloc (.cells #[.bool false, .slice none 0 0, .int .i64 0] t))) := fun t => Has3.new w t
  go_enter Tryd.func37, Tryd.ntmps37
  go_wp2_with fail
  rw [HX.out]
  refine (small2_any (fNum b) _ HX1.out.1 HX1.out.2).mono ?_
  rintro e w1 ⟨g1, a1, c1, ds, rfl, hl1, hL1, hF1, hb1⟩
  have K1 : Hid (Has3 w.heap.size w1) := (HB0.out _).later hb1
  have B1 : Hid (Below w.heap.size w w1) := (bel0 _ _).trans (hb1.mono (by simp))
  have HL1 : Hid (L1 w1 g1 a1 c1 ds (fNum b)) := hL1
  clear hb1 hF1 hL1
  go_wp2_with fail
  rw [HY.out]
  refine (norm_any g1 a1 c1 ds _ _ _ (by omega) (by have := HY1.out; omega) (by have := HY1.out; omega) HL1.out).mono ?_
  rintro e w2 ⟨m, e', hnf, g2, a2, c2, fs, rfl, hl2, hL2, hF2, hb2⟩
  have K2 : Hid (Has3 w.heap.size w2) := K1.out.later hb2
  have B2 : Hid (Below w.heap.size w w2) := B1.out.trans (hb2.mono B1.out.size)
  have HL2 : Hid (L1 w2 g2 a2 c2 fs m) := hL2
  have HF2 : Hid (Far (w.heap.size + 1) a2 fs) := hF2.down K1.out.lt
  have HN : Hid (NormOf (fNum b) (fExp b - 150) m e' 32) := by
    rcases hnf with h | ⟨h1, t, h2, h3, h4, h5⟩
    · exact .inl h
    · exact .inr ⟨h1, t, h2, h3, h4, by omega⟩
  have r1 := K2.out.r1
  have r2 := K2.out.r2
  have r3 := K2.out.r3
  have r4 := K2.out.r4
  clear hL2 hF2 hb2 hnf HB0
  go_wp2
  refine bodyPost_ret (v := .agg #[.bool g2, .slice a2 fs.length c2, .int .i64 e']) (by simp [results, Tryd.results37, go_sem, r1, r2, r3]) rfl ?_
  refine ⟨m, e', HN.out, g2, a2, c2, fs, rfl, by omega, ?_, HF2.out.down (by omega), ?_⟩
  · exact ((HL2.out.setFar HF2.out (by simp) _).setFar HF2.out (by simp) _).setFar HF2.out (by simp) _
  · exact ((B2.out.setCell (by simp) _).setCell (by simp) _).setCell (by simp) _

set_option maxHeartbeats 4000000 in
theorem float2_sn (b : Int) (w : World) (h0 : 0 ≤ b) (h1 : b < 4294967296) (hE : ¬ 0 < b / 8388608 % 256) (hS : 2147483648 ≤ b) :
    Calls Tryd.prog 37 #[.int .u32 b] w fun e w' => NormOut w 2 (fNum b) (fExp b - 150) 32 e w' := by
  have HX : Hid (-(b % 8388608) = fNum b) := by
    unfold Hid fNum fMag
    rw [if_pos hS]
    rw [if_pos (by omega)]
  have HY : Hid (-149 = fExp b - 150) := by
    unfold Hid fExp
    rw [if_pos (by omega)]
    rfl
  have HX1 : Hid (-4294967296 < fNum b ∧ fNum b < 4294967296) := by
    unfold Hid
    rw [← HX.out]
    omega
  have HY1 : Hid (-150 ≤ fExp b - 150 ∧ fExp b - 150 ≤ 200) := by
    unfold Hid
    rw [← HY.out]
    omega
  have HB0 : Hid (∀ t, Has3 w.heap.size (w.alloc (.cells #[.bool false, .slice none 0 0, .int .i64 0] t))) := fun t => Has3.new w t
  go_enter Tryd.func37, Tryd.ntmps37
  go_wp2_with fail
  rw [HX.out]
  refine (small2_any (fNum b) _ HX1.out.1 HX1.out.2).mono ?_
  rintro e w1 ⟨g1, a1, c1, ds, rfl, hl1, hL1, hF1, hb1⟩
  have K1 : Hid (Has3 w.heap.size w1) := (HB0.out _).later hb1
  have B1 : Hid (Below w.heap.size w w1) := (bel0 _ _).trans (hb1.mono (by simp))
  have HL1 : Hid (L1 w1 g1 a1 c1 ds (fNum b)) := hL1
  clear hb1 hF1 hL1
  go_wp2_with fail
  rw [HY.out]
  refine (norm_any g1 a1 c1 ds _ _ _ (by omega) (by have := HY1.out; omega) (by have := HY1.out; omega) HL1.out).mono ?_
  rintro e w2 ⟨m, e', hnf, g2, a2, c2, fs, rfl, hl2, hL2, hF2, hb2⟩
  have K2 : Hid (Has3 w.heap.size w2) := K1.out.later hb2
  have B2 : Hid (Below w.heap.size w w2) := B1.out.trans (hb2.mono B1.out.size)
  have HL2 : Hid (L1 w2 g2 a2 c2 fs m) := hL2
  have HF2 : Hid (Far (w.heap.size + 1) a2 fs) := hF2.down K1.out.lt
  have HN : Hid (NormOf (fNum b) (fExp b - 150) m e' 32) := by
    rcases hnf with h | ⟨h1, t, h2, h3, h4, h5⟩
    · exact .inl h
    · exact .inr ⟨h1, t, h2, h3, h4, by omega⟩
  have r1 := K2.out.r1
  have r2 := K2.out.r2
  have r3 := K2.out.r3
  have r4 := K2.out.r4
  clear hL2 hF2 hb2 hnf HB0
  go_wp2
  refine bodyPost_ret (v := .agg #[.bool g2, .slice a2 fs.length c2, .int .i64 e']) (by simp [results, Tryd.results37, go_sem, r1, r2, r3]) rfl ?_
  refine ⟨m, e', HN.out, g2, a2, c2, fs, rfl, by omega, ?_, HF2.out.down (by omega), ?_⟩
  · exact ((HL2.out.setFar HF2.out (by simp) _).setFar HF2.out (by simp) _).setFar HF2.out (by simp) _
  · exact ((B2.out.setCell (by simp) _).setCell (by simp) _).setCell (by simp) _

theorem float2_any (b : Int) (w : World) (h0 : 0 ≤ b) (h1 : b < 4294967296) :
    Calls Tryd.prog 37 #[.int .u32 b] w fun e w' => NormOut w 2 (fNum b) (fExp b - 150) 32 e w' := by
  by_cases hE : 0 < b / 8388608 % 256
  · by_cases hS : 2147483648 ≤ b
    · exact float2_bn b w h0 h1 hE hS
    · exact float2_bp b w h0 h1 hE hS
  · by_cases hS : 2147483648 ≤ b
    · exact float2_sn b w h0 h1 hE hS
    · exact float2_sp b w h0 h1 hE hS

end Go.Proofs.YtladfpljnaippabDoor

/-
  What a shift is: up, a product; down, a quotient that is rounded down. Beyond 16384 bits nothing changes.
-/
namespace Go.Proofs.YtladfpljnaippabDoor

def shN (x n : Int) : Int := if 0 ≤ n then x * 2 ^ (min n 16384).toNat else x / 2 ^ (min (-n) 16384).toNat

theorem shN_up {x n : Int} (h0 : 0 ≤ n) (h1 : n ≤ 16384) : shN x n = x * 2 ^ n.toNat := by
  unfold shN
  rw [if_pos h0, show min n 16384 = n by omega]

theorem shN_zero (n : Int) : shN 0 n = 0 := by
  unfold shN
  split <;> simp

theorem shN_down {x n : Int} (h0 : n < 0) : shN x n = x / 2 ^ (min (-n) 16384).toNat := by
  unfold shN
  rw [if_neg (by omega)]

/-- A negative number shifted down. -/
theorem neg_div (v : Int) (q : Int) (hq : 0 < q) : (-v) / q = if v % q = 0 then -(v / q) else -(v / q) - 1 := by
  have h := Int.mul_ediv_add_emod v q
  have h0 := Int.emod_nonneg v (show q ≠ 0 by omega)
  have h1 := Int.emod_lt_of_pos v hq
  split
  · rename_i h2
    rw [h2, Int.add_zero] at h
    rw [← h, ← Int.mul_neg, Int.mul_ediv_cancel_left _ (by omega), Int.mul_ediv_cancel_left _ (by omega)]
  · rename_i h2
    have e : -v = q * (-(v / q) - 1) + (q - v % q) := by
      rw [Int.mul_sub, Int.mul_neg, Int.mul_one]
      omega
    rw [e, Int.add_comm, Int.add_mul_ediv_left _ _ (by omega), Int.ediv_eq_zero_of_lt (by omega) (by omega)]
    omega

/-- What is too far up has too many limbs. -/
theorem res_far {g : Bool} {zs : List Int} {x n : Int} (h : B1 g zs x) (hne : zs ≠ []) (hn : 16384 < n) : Res true (shN x n) false [] 2 := by
  refine .inr ⟨rfl, g, List.replicate 512 0 ++ zs, ⟨canon_up (by decide) h.can hne 512, ?_, fun _ e => hne (List.append_eq_nil_iff.1 e).2⟩, .inr ⟨?_, rfl, rfl, rfl⟩⟩
  · unfold shN
    rw [if_pos (by omega), show (min n 16384).toNat = 32 * 512 by omega, Int.pow_mul, val_up, h.num, show (2 : Int) ^ 32 = 4294967296 from rfl]
    cases g
    · simp only [sg]; exact Int.mul_comm _ _
    · simp only [sg, if_true]; rw [Int.neg_mul, Int.mul_comm]
  · have hl : zs.length ≠ 0 := fun e => hne (List.length_eq_zero_iff.1 e)
    rw [List.length_append, List.length_replicate]
    omega

theorem res_zero {n : Int} : Res true (shN 0 n) false [] 0 :=
  .inr ⟨rfl, false, [], ⟨⟨Dig.nil _, rfl⟩, by rw [shN_zero]; simp [sg, val], fun h => by cases h⟩, .inl ⟨by simp, rfl, rfl, rfl⟩⟩

end Go.Proofs.YtladfpljnaippabDoor

/-
  Which numbers fit into 512 limbs, and what the program then answers.
-/
namespace Go.Proofs.YtladfpljnaippabDoor

/-- The number has at most 512 limbs. -/
def Fits (x : Int) : Prop := -(4294967296 ^ 512 : Int) < x ∧ x < (4294967296 ^ 512 : Int)

theorem pow_mono {B : Int} (hB : 1 ≤ B) {a b : Nat} (h : a ≤ b) : B ^ a ≤ B ^ b := by
  obtain ⟨d, rfl⟩ := Nat.le.dest h
  have h1 : 0 < B ^ a := Int.pow_pos (by omega)
  have h2 : 0 < B ^ d := Int.pow_pos (by omega)
  have h3 : B ^ a * 1 ≤ B ^ a * B ^ d := Int.mul_le_mul_of_nonneg_left (by omega) (by omega)
  rw [Int.pow_add]
  omega

theorem canon_ge {B : Int} (hB : 0 < B) {zs : List Int} (h : Canon B zs) (hne : zs.length ≠ 0) : B ^ (zs.length - 1) ≤ val B zs := by
  have hz : zs ≠ [] := fun e => hne (by simp [e])
  have e := List.dropLast_concat_getLast hz
  have hl := last_of_canon h.2 hne
  have hg : zs.getLast hz = zs.getD (zs.length - 1) 0 := by
    rw [List.getLast_eq_getElem]
    simp [List.getD_eq_getElem?_getD, show zs.length - 1 < zs.length by omega]
  have hd := h.1.at hB (zs.length - 1)
  have hv : val B zs = val B zs.dropLast + B ^ zs.dropLast.length * val B [zs.getLast hz] := by
    have h2 := val_append B [zs.getLast hz] zs.dropLast
    rw [e] at h2
    exact h2
  have hnn : 0 ≤ val B zs.dropLast := val_nonneg hB (by rw [List.dropLast_eq_take]; exact h.1.take _)
  have hp : 0 < B ^ zs.dropLast.length := Int.pow_pos hB
  have h1 : B ^ zs.dropLast.length * 1 ≤ B ^ zs.dropLast.length * zs.getLast hz := Int.mul_le_mul_of_nonneg_left (by rw [hg]; omega) (by omega)
  rw [hv]
  simp only [val, Int.mul_zero, Int.add_zero]
  rw [List.length_dropLast] at h1 ⊢
  omega

theorem len_of_lt {B : Int} (hB : 1 < B) {zs : List Int} (h : Canon B zs) {k : Nat} (hv : val B zs < B ^ k) : zs.length ≤ k := by
  by_cases h0 : zs.length = 0
  · omega
  · by_cases hk : zs.length ≤ k
    · exact hk
    · have h1 := canon_ge (by omega) h h0
      have h2 : B ^ k ≤ B ^ (zs.length - 1) := pow_mono (by omega) (by omega)
      omega

theorem B1.len {g : Bool} {zs : List Int} {x : Int} (h : B1 g zs x) (hx : Fits x) : zs.length ≤ 512 := by
  have h0 := val_nonneg (B := 4294967296) (by decide) h.can.1
  refine len_of_lt (B := 4294967296) (by decide) h.can ?_
  have hn := h.num
  obtain ⟨h1, h2⟩ := hx
  cases g
  · simp only [sg] at hn
    have hn : x = val 4294967296 zs := hn
    omega
  · simp only [sg, if_true] at hn
    omega

theorem B1.fits {g : Bool} {zs : List Int} {x : Int} (h : B1 g zs x) (hl : zs.length ≤ 512) : Fits x := by
  have h0 := val_nonneg (B := 4294967296) (by decide) h.can.1
  have h1 := val_lt_pow (B := 4294967296) (by decide) h.can.1
  have h2 : (4294967296 : Int) ^ zs.length ≤ 4294967296 ^ 512 := pow_mono (by decide) hl
  have hn := h.num
  unfold Fits
  cases g
  · have hn : x = val 4294967296 zs := hn
    omega
  · simp only [sg, if_true] at hn
    omega

/-- What fits is answered. -/
theorem Res.ok {x : Int} {G : Bool} {Z : List Int} {K : Int} (h : Res true x G Z K) (hx : Fits x) : K = 0 ∧ B1 G Z x ∧ Z.length ≤ 512 := by
  rcases h with ⟨h0, _⟩ | ⟨_, g, Z0, hb, ⟨c1, c2, c3, c4⟩ | ⟨c1, _⟩⟩
  · cases h0
  · subst c2 c3
    exact ⟨c4, hb, c1⟩
  · have := hb.len hx
    omega

/-- What is answered fits. -/
theorem Res.of_ok {x : Int} {G : Bool} {Z : List Int} {K : Int} (h : Res true x G Z K) (hK : K = 0) : B1 G Z x ∧ Z.length ≤ 512 ∧ Fits x := by
  rcases h with ⟨h0, _⟩ | ⟨_, g, Z0, hb, ⟨c1, c2, c3, c4⟩ | ⟨c1, _, _, c4⟩⟩
  · cases h0
  · subst c2 c3
    exact ⟨hb, c1, hb.fits c1⟩
  · omega

theorem B1.valid {g : Bool} {zs : List Int} {x : Int} (h : B1 g zs x) (hl : zs.length ≤ 512) : validB g zs = true := by
  unfold validB
  by_cases h0 : zs.length = 0
  · rw [if_pos h0]
    cases g
    · rfl
    · exact absurd (List.length_eq_zero_iff.1 h0) (h.zero rfl)
  · rw [if_neg h0]
    have := last_of_canon h.can.2 h0
    simp only [Bool.and_eq_true, decide_eq_true_eq, bne_iff_ne, ne_eq]
    exact ⟨hl, this⟩

theorem B1.sg {g : Bool} {zs : List Int} {x : Int} (h : B1 g zs x) : Go.Proofs.YtladfpljnaippabDoor.sg g (val 4294967296 zs) = x := h.num.symm

theorem B1.pos {g : Bool} {zs : List Int} {x : Int} (h : B1 g zs x) (hx : 0 ≤ x) : g = false := by
  cases g
  · rfl
  · have := val_pos (B := 4294967296) (by decide) h.can (h.zero rfl)
    have hn := h.num
    simp only [Go.Proofs.YtladfpljnaippabDoor.sg, if_true] at hn
    omega

theorem B1.u32 {g : Bool} {zs : List Int} {x : Int} (h : B1 g zs x) : U32 zs := h.can.1

/-! ### Shifts by a few bits -/
theorem shN_back {x n : Int} (h0 : 0 ≤ n) (h1 : n ≤ 16384) : shN x (-n) = x / 2 ^ n.toNat := by
  by_cases h : n = 0
  · subst h
    unfold shN
    rw [if_pos (by omega), show (min (-0) 16384 : Int).toNat = 0 by decide]
    simp
  · rw [shN_down (by omega), show min (- -n) 16384 = n by omega]

theorem two_fits {n : Int} (h1 : n ≤ 200) : 0 < (2 : Int) ^ n.toNat ∧ Fits (2 ^ n.toNat) := by
  have h0 : (0 : Int) < 2 ^ n.toNat := Int.pow_pos (by decide)
  have h2 : (2 : Int) ^ n.toNat ≤ 2 ^ 200 := two_pow_le (by omega)
  have h3 : (4294967296 : Int) ^ 7 ≤ 4294967296 ^ 512 := pow_mono (by decide) (by decide)
  have h4 : (2 : Int) ^ 200 < 4294967296 ^ 7 := by decide
  exact ⟨h0, by unfold Fits; omega⟩

theorem div_fits {x q : Int} (hq : 0 < q) (hx : Fits x) : Fits (x / q) := by
  obtain ⟨h1, h2⟩ := hx
  unfold Fits
  by_cases h : 0 ≤ x
  · have h3 : 0 ≤ x / q := Int.ediv_nonneg h (by omega)
    have h4 : x / q ≤ x := Int.ediv_le_self _ h
    omega
  · have h3 : x ≤ x / q := (Int.le_ediv_iff_mul_le hq).2 (by
      have : x * q ≤ x * 1 := Int.mul_le_mul_of_nonpos_left (by omega) (by omega)
      omega)
    have h4 : x / q < 0 := Int.ediv_neg_of_neg_of_pos (by omega) hq
    have h5 : (0 : Int) < 4294967296 ^ 512 := Int.pow_pos (by decide)
    omega

theorem low_fits {x q : Int} (hq : 0 < q) (hx : Fits x) (hxq : Fits (x * q)) : Fits (x / q * q) := by
  obtain ⟨h1, h2⟩ := hx
  obtain ⟨h3, h4⟩ := hxq
  have h5 := Int.mul_ediv_add_emod x q
  have h6 := Int.emod_nonneg x (show q ≠ 0 by omega)
  rw [Int.mul_comm] at h5
  unfold Fits
  by_cases h : 0 ≤ x
  · have h7 : 0 ≤ x / q := Int.ediv_nonneg h (by omega)
    have h8 := Int.mul_nonneg h7 (Int.le_of_lt hq)
    omega
  · have h7 : x ≤ x / q := (Int.le_ediv_iff_mul_le hq).2 (by
      have : x * q ≤ x * 1 := Int.mul_le_mul_of_nonpos_left (by omega) (by omega)
      omega)
    have h8 : x * q ≤ x / q * q := Int.mul_le_mul_of_nonneg_right h7 (by omega)
    omega

theorem rest_of {x q : Int} (hq : 0 < q) : x - x / q * q = x % q ∧ 0 ≤ x % q ∧ x % q < q := by
  have h5 := Int.mul_ediv_add_emod x q
  rw [Int.mul_comm] at h5
  exact ⟨by omega, Int.emod_nonneg x (by omega), Int.emod_lt_of_pos x hq⟩

end Go.Proofs.YtladfpljnaippabDoor

/-
  Plain mathematics: the one normal form of a dyadic number.
-/
namespace Go.Proofs.YtladfpljnaippabDoor

/-- m * 2^e is the normal form of the number that is v in units of 2^-100000. -/
def Norm (v m e : Int) : Prop := (v = 0 ∧ m = 0 ∧ e = 0) ∨ (v ≠ 0 ∧ m % 2 = 1 ∧ 0 ≤ e + 100000 ∧ v = m * 2 ^ (e + 100000).toNat)

theorem odd_two {m m' : Int} {s t : Nat} (hm : m % 2 = 1) (hm' : m' % 2 = 1) (h : m * 2 ^ s = m' * 2 ^ t) : s = t ∧ m = m' := by
  rcases Nat.lt_trichotomy s t with hst | hst | hst
  · exfalso
    have e : m = m' * 2 ^ (t - s) := by
      have hp : (0 : Int) < 2 ^ s := Int.pow_pos (by decide)
      apply Int.eq_of_mul_eq_mul_right (Int.ne_of_gt hp)
      rw [h, Int.mul_assoc, ← Int.pow_add, show t - s + s = t by omega]
    have e2 : m = 2 * (m' * 2 ^ (t - s - 1)) := by
      rw [e, show t - s = (t - s - 1) + 1 by omega, Int.pow_succ]
      simp only [Nat.add_sub_cancel]
      rw [← Int.mul_assoc, Int.mul_comm _ 2]
    omega
  · subst hst
    have hp : (0 : Int) < 2 ^ s := Int.pow_pos (by decide)
    exact ⟨rfl, Int.eq_of_mul_eq_mul_right (Int.ne_of_gt hp) h⟩
  · exfalso
    have e : m' = m * 2 ^ (s - t) := by
      have hp : (0 : Int) < 2 ^ t := Int.pow_pos (by decide)
      apply Int.eq_of_mul_eq_mul_right (Int.ne_of_gt hp)
      rw [← h, Int.mul_assoc, ← Int.pow_add, show s - t + t = s by omega]
    have e2 : m' = 2 * (m * 2 ^ (s - t - 1)) := by
      rw [e, show s - t = (s - t - 1) + 1 by omega, Int.pow_succ]
      simp only [Nat.add_sub_cancel]
      rw [← Int.mul_assoc, Int.mul_comm _ 2]
    omega

theorem Norm.inj {v m e m' e' : Int} (h : Norm v m e) (h' : Norm v m' e') : m = m' ∧ e = e' := by
  rcases h with ⟨h0, h1, h2⟩ | ⟨h0, h1, h2, h3⟩
  · rcases h' with ⟨_, k1, k2⟩ | ⟨k0, _⟩
    · exact ⟨by rw [h1, k1], by rw [h2, k2]⟩
    · exact absurd h0 k0
  · rcases h' with ⟨k0, _⟩ | ⟨_, k1, k2, k3⟩
    · exact absurd k0 h0
    · obtain ⟨e1, e2⟩ := odd_two h1 k1 (h3.symm.trans k3)
      exact ⟨e2, by omega⟩

theorem Norm.of_normOf {x e0 m e' : Int} {T : Nat} (h : NormOf x e0 m e' T) (he : -100000 ≤ e0) : Norm (atK 100000 x e0) m e' := by
  have hat := h.at (K := 100000) (by omega)
  rcases h with ⟨h0, h1, h2⟩ | ⟨h0, t, h2, h3, h4, _⟩
  · exact .inl ⟨by rw [h0]; simp [atK], h1, h2⟩
  · refine .inr ⟨?_, h4, by omega, by rw [← hat]; rfl⟩
    unfold atK
    intro hz
    rcases Int.mul_eq_zero.1 hz with h5 | h5
    · exact h0 h5
    · have : (0 : Int) < 2 ^ (e0 + 100000).toNat := Int.pow_pos (by decide)
      omega

/-- What DyAdd, DyMul, DyDet answer of the number v. -/
def ResD (ok : Bool) (v : Int) (G : Bool) (Z : List Int) (E K : Int) : Prop :=
  (ok = false ∧ G = false ∧ Z = [] ∧ E = 0 ∧ K = 1) ∨ (ok = true ∧ ∃ m e, Norm v m e ∧ (((Fits m ∧ -20000 ≤ e ∧ e ≤ 20000) ∧ B1 G Z m ∧ E = e ∧ K = 0) ∨ (¬ (Fits m ∧ -20000 ≤ e ∧ e ≤ 20000) ∧ G = false ∧ Z = [] ∧ E = 0 ∧ K = 2)))

theorem ResD.inj {ok : Bool} {v : Int} {G G' : Bool} {Z Z' : List Int} {E E' K K' : Int} (h : ResD ok v G Z E K) (h' : ResD ok v G' Z' E' K') : G = G' ∧ Z = Z' ∧ E = E' ∧ K = K' := by
  rcases h with ⟨h0, h1, h2, h3, h4⟩ | ⟨h0, m, e, hN, hc⟩
  · rcases h' with ⟨_, k1, k2, k3, k4⟩ | ⟨k0, _⟩
    · rw [h1, h2, h3, h4, k1, k2, k3, k4]
      exact ⟨rfl, rfl, rfl, rfl⟩
    · rw [h0] at k0
      cases k0
  · rcases h' with ⟨k0, _⟩ | ⟨_, m', e', hN', hc'⟩
    · rw [h0] at k0
      cases k0
    · obtain ⟨e1, e2⟩ := hN.inj hN'
      subst e1 e2
      rcases hc with ⟨c0, c1, c3, c4⟩ | ⟨c0, c1, c2, c3, c4⟩
      · rcases hc' with ⟨_, k1, k3, k4⟩ | ⟨k0, _⟩
        · obtain ⟨e3, e4⟩ := c1.inj k1
          exact ⟨e3, e4, by rw [c3, k3], by rw [c4, k4]⟩
        · exact absurd c0 k0
      · rcases hc' with ⟨k0, _⟩ | ⟨_, k1, k2, k3, k4⟩
        · exact absurd k0 c0
        · rw [c1, c2, c3, c4, k1, k2, k3, k4]
          exact ⟨rfl, rfl, rfl, rfl⟩

theorem ResD.len {ok : Bool} {v : Int} {G : Bool} {Z : List Int} {E K : Int} (h : ResD ok v G Z E K) : Z.length ≤ 512 ∧ U32 Z := by
  rcases h with ⟨_, _, h2, _⟩ | ⟨_, m, e, _, ⟨⟨c0, _⟩, hB, _⟩ | ⟨_, _, c2, _⟩⟩
  · subst h2
    exact ⟨by simp, fun z hz => by cases hz⟩
  · exact ⟨hB.len c0, hB.can.1⟩
  · subst c2
    exact ⟨by simp, fun z hz => by cases hz⟩

/-- The normal form found by counting twos. -/
theorem norm_twos {g : Bool} {zs : List Int} {x E : Int} {t : Nat} (h : B1 g zs x) (hne : zs ≠ []) (hE : -100000 ≤ E) (ht : Twos (val 4294967296 zs) t) : Norm (atK 100000 x E) (sg g (val 4294967296 zs / 2 ^ t)) (E + t) := by
  obtain ⟨n1, n2⟩ := norm_of h.num ht
  have hv := val_pos (B := 4294967296) (by decide) h.can hne
  have hp : (0 : Int) < 2 ^ (E + 100000).toNat := Int.pow_pos (by decide)
  refine .inr ⟨?_, n2, by omega, ?_⟩
  · unfold atK
    intro hz
    rcases Int.mul_eq_zero.1 hz with h5 | h5
    · rw [h.num] at h5
      cases g <;> simp [sg] at h5 <;> omega
    · omega
  · unfold atK
    rw [n1, Int.mul_assoc, ← Int.pow_add, show t + (E + 100000).toNat = (E + ↑t + 100000).toNat by omega]

end Go.Proofs.YtladfpljnaippabDoor

/-
  The model's answers of dyadic numbers.
-/
namespace Go.Proofs.YtladfpljnaippabDoor
open Go.RowKit

/-- What a function of the model answers that gives a Dyadic and a code. -/
def OutDS (w : World) (ok : Bool) (v : Int) (e : Ending) (w' : World) : Prop :=
  ∃ (G : Bool) (Z : List Int) (E K : Int) (a : Option Addr) (c : Nat), e = .returned (.tuple #[.agg #[.bool G, .slice a Z.length c, .int .i64 E], .int .i64 K]) ∧ ResD ok v G Z E K ∧ RowAt .u32 w' a Z ∧ Far w.heap.size a Z ∧ Below w.heap.size w w'

/-- Another number is laid into the argument's box. -/
theorem Bx3.put {w : World} {u v e u' v' e' : Value} {W : World} (h : Bx3 w u v e W) : Bx3 w u' v' e' (((W.setCell ⟨w.heap.size, 0, none⟩ u').setCell ⟨w.heap.size, 1, none⟩ v').setCell ⟨w.heap.size, 2, none⟩ e') := by
  have o := h.le
  refine ⟨?_, ?_, ?_, ?_, ?_, ?_, ?_, by simpa using o, ((h.bel.setCell (by simp) _).setCell (by simp) _).setCell (by simp) _⟩
  · rw [World.cell?_setCell_other _ _ _ _ (by simp), World.cell?_setCell_other _ _ _ _ (by simp)]
    exact World.cell?_setCell_same _ _ _ h.q0
  · rw [World.cell?_setCell_other _ _ _ _ (by simp)]
    refine World.cell?_setCell_same _ _ _ (u := v) ?_
    rw [World.cell?_setCell_other _ _ _ _ (by simp)]
    exact h.q1
  · refine World.cell?_setCell_same _ _ _ (u := e) ?_
    rw [World.cell?_setCell_other _ _ _ _ (by simp), World.cell?_setCell_other _ _ _ _ (by simp)]
    exact h.q2
  · rw [World.cell?_setCell_other _ _ _ _ (by simp), World.cell?_setCell_other _ _ _ _ (by simp), World.cell?_setCell_other _ _ _ _ (by simp)]
    exact h.r1
  · rw [World.cell?_setCell_other _ _ _ _ (by simp), World.cell?_setCell_other _ _ _ _ (by simp), World.cell?_setCell_other _ _ _ _ (by simp)]
    exact h.r2
  · rw [World.cell?_setCell_other _ _ _ _ (by simp), World.cell?_setCell_other _ _ _ _ (by simp), World.cell?_setCell_other _ _ _ _ (by simp)]
    exact h.r3
  · intro j
    rw [World.frozen?_setCell, World.frozen?_setCell, World.frozen?_setCell]
    exact h.r4 j

set_option maxRecDepth 100000 in
set_option maxHeartbeats 4000000 in
theorem out2_any (g : Bool) (a : Option Addr) (c : Nat) (ds : List Int) (x E : Int) (w : World) (hn : ds.length ≤ 60000) (he0 : -100000 ≤ E) (he1 : E ≤ 1000000) (h : L1 w g a c ds x) :
    Calls Tryd.prog 34 #[.agg #[.bool g, .slice a ds.length c, .int .i64 E]] w fun e w' => OutDS w true (atK 100000 x E) e w' := by
  have B0 : Hid (∀ t t', Bx3 w (.bool g) (.slice a ds.length c) (.int .i64 E) ((w.alloc (.cells #[.bool g, .slice a ds.length c, .int .i64 E] t)).alloc (.cells #[.bool false, .slice none 0 0, .int .i64 0] t'))) := fun t t' => Bx3.start w _ _ _ _ _
  obtain ⟨v, hv⟩ : ∃ v, v = atK 100000 x E := ⟨_, rfl⟩
  have HV : Hid (v = atK 100000 x E) := hv
  rw [← hv]
  clear hv
  go_enter Tryd.func34, Tryd.ntmps34
  go_wp2_with fail
  refine (norm_any g a c ds x E _ hn (by omega) he1 (h.later (bel2 _ _ _))).mono ?_
  rintro e w1 ⟨m, e', hnf, g1, a1, c1, fs, rfl, hl1, hL1, hF1, hb1⟩
  have HN : Hid (Norm v m e') := by unfold Hid; rw [HV.out]; exact Norm.of_normOf hnf he0
  have F1 : Hid (Bx3 w (.bool g) (.slice a ds.length c) (.int .i64 E) w1) := (B0.out _ _).later hb1
  have fz : ∀ j, w1.frozen? ⟨w.heap.size, j, none⟩ = false := by intro j; rw [hb1.frozen (by simp; omega)]; simp [go_sem]
  have hF1' : Far (w.heap.size + 1 + 1) a1 fs := hF1.down (by simp)
  have F2 : Hid (Bx3 w (.bool g1) (.slice a1 fs.length c1) (.int .i64 e') (((w1.setCell ⟨w.heap.size, 0, none⟩ (.bool g1)).setCell ⟨w.heap.size, 1, none⟩ (.slice a1 fs.length c1)).setCell ⟨w.heap.size, 2, none⟩ (.int .i64 e'))) := F1.out.put
  have HL2 : Hid (L1 (((w1.setCell ⟨w.heap.size, 0, none⟩ (.bool g1)).setCell ⟨w.heap.size, 1, none⟩ (.slice a1 fs.length c1)).setCell ⟨w.heap.size, 2, none⟩ (.int .i64 e')) g1 a1 c1 fs m) := ((hL1.setFar hF1' (by simp; omega) _).setFar hF1' (by simp; omega) _).setFar hF1' (by simp; omega) _
  have hbe : -100000 ≤ e' ∧ e' ≤ 2000000 := by have := hnf.bound; omega
  obtain ⟨hbe0, hbe1⟩ := hbe
  have q0 := F1.out.q0
  have q1 := F1.out.q1
  have q2 := F1.out.q2
  clear hnf hL1 hF1 hF1' hb1 B0
  go_wp2_with fail
  refine (big_any g1 a1 c1 fs _ (by omega) HL2.out.sl.row HL2.out.can.1).mono ?_
  rintro e w3 ⟨a5, c5, rfl, hr5, hf5, hb5⟩
  have F3 : Hid (Bx3 w (.bool g1) (.slice a1 fs.length c1) (.int .i64 e') w3) := F2.out.later hb5
  have HBL : Hid (B1 g1 (joinL fs) m) := B1.of_l1 HL2.out
  have hs2 := F2.out.le
  have r1 := F3.out.r1
  have r2 := F3.out.r2
  have r3 := F3.out.r3
  have r4 := F3.out.r4
  have p2 := F3.out.q2
  have hs4 : w.heap.size + 1 < w3.heap.size := F3.out.le
  have hs5 : w.heap.size < w3.heap.size := by omega
  clear q0 q1 q2 fz hb5
  by_cases h5 : (joinL fs).length ≤ 512
  · have hbo : bigOut g1 fs = (g1, joinL fs, 0) := by unfold bigOut; rw [if_pos h5]
    rw [hbo] at hr5 hf5 ⊢
    have HR5 : Hid (RowAt .u32 w3 a5 (joinL fs)) := hr5
    have HF5 : Hid (Far (w.heap.size + 1 + 1) a5 (joinL fs)) := Far.down hf5 hs2
    clear hbo hr5 hf5
    by_cases hr : e' < -20000 ∨ 20000 < e'
    · have HO : Hid (ResD true v false [] 0 2) := .inr ⟨rfl, _, _, HN.out, .inr ⟨by omega, rfl, rfl, rfl, rfl⟩⟩
      by_cases hr1 : e' < -20000
      · go_wp2
        refine bodyPost_ret (v := .tuple #[.agg #[.bool false, .slice none 0 0, .int .i64 0], .int .i64 2]) (by simp [results, Tryd.results34, go_sem, r1, r2, r3, hs4]) rfl ?_
        have hb0 := F3.out.bel
        have hbl := ((F3.out.bel.setCell (p := ⟨w.heap.size + 1, 0, none⟩) (by simp) (.bool false)).setCell (p := ⟨w.heap.size + 1, 1, none⟩) (by simp) (.slice none 0 0)).setCell (p := ⟨w.heap.size + 1, 2, none⟩) (by simp) (.int .i64 0)
        refine ⟨false, [], 0, 2, none, 0, rfl, HO.out, .inl rfl, .inl rfl, ?_⟩
        first
          | exact hbl.alloc hbl.size _
          | exact hb0.alloc hb0.size _
          | exact hbl
          | exact hb0
      · have hr2 : 20000 < e' := by omega
        go_wp2
        refine bodyPost_ret (v := .tuple #[.agg #[.bool false, .slice none 0 0, .int .i64 0], .int .i64 2]) (by simp [results, Tryd.results34, go_sem, r1, r2, r3, hs4]) rfl ?_
        have hb0 := F3.out.bel
        have hbl := ((F3.out.bel.setCell (p := ⟨w.heap.size + 1, 0, none⟩) (by simp) (.bool false)).setCell (p := ⟨w.heap.size + 1, 1, none⟩) (by simp) (.slice none 0 0)).setCell (p := ⟨w.heap.size + 1, 2, none⟩) (by simp) (.int .i64 0)
        refine ⟨false, [], 0, 2, none, 0, rfl, HO.out, .inl rfl, .inl rfl, ?_⟩
        first
          | exact hbl.alloc hbl.size _
          | exact hb0.alloc hb0.size _
          | exact hbl
          | exact hb0
    · have HO : Hid (ResD true v g1 (joinL fs) e' 0) := .inr ⟨rfl, _, _, HN.out, .inl ⟨⟨HBL.out.fits h5, by omega, by omega⟩, HBL.out, rfl, rfl⟩⟩
      have hr1 : ¬ e' < -20000 := by omega
      have hr2 : ¬ 20000 < e' := by omega
      generalize joinL fs = Z at *
      go_wp2
      refine bodyPost_ret (v := .tuple #[.agg #[.bool g1, .slice a5 Z.length c5, .int .i64 e'], .int .i64 0]) (by simp [results, Tryd.results34, go_sem, r1, r2, r3, hs4]) rfl ?_
      have hbl := ((F3.out.bel.setCell (p := ⟨w.heap.size + 1, 0, none⟩) (by simp) (.bool g1)).setCell (p := ⟨w.heap.size + 1, 1, none⟩) (by simp) (.slice a5 Z.length c5)).setCell (p := ⟨w.heap.size + 1, 2, none⟩) (by simp) (.int .i64 e')
      refine ⟨g1, Z, e', 0, a5, c5, rfl, HO.out, ?_, HF5.out.down (by omega), hbl.alloc hbl.size _⟩
      exact (((HR5.out.setAway (HF5.out.away (by simp)) _).setAway (HF5.out.away (by simp)) _).setAway (HF5.out.away (by simp)) _).later (bel0 _ _)
  · have hbo : bigOut g1 fs = (false, [], 2) := by unfold bigOut; rw [if_neg h5]
    have HO : Hid (ResD true v false [] 0 2) := .inr ⟨rfl, _, _, HN.out, .inr ⟨fun h => h5 (HBL.out.len h.1), rfl, rfl, rfl, rfl⟩⟩
    rw [hbo] at hr5 hf5 ⊢
    clear hbo hr5 hf5
    go_wp2
    refine bodyPost_ret (v := .tuple #[.agg #[.bool false, .slice none 0 0, .int .i64 0], .int .i64 2]) (by simp [results, Tryd.results34, go_sem, r1, r2, r3, hs4]) rfl ?_
    have hb0 := F3.out.bel
    have hbl := ((F3.out.bel.setCell (p := ⟨w.heap.size + 1, 0, none⟩) (by simp) (.bool false)).setCell (p := ⟨w.heap.size + 1, 1, none⟩) (by simp) (.slice none 0 0)).setCell (p := ⟨w.heap.size + 1, 2, none⟩) (by simp) (.int .i64 0)
    refine ⟨false, [], 0, 2, none, 0, rfl, HO.out, .inl rfl, .inl rfl, ?_⟩
    first
      | exact hbl.alloc hbl.size _
      | exact hb0.alloc hb0.size _
      | exact hbl
      | exact hb0

end Go.Proofs.YtladfpljnaippabDoor

/-
  The model's DyOf.
-/
namespace Go.Proofs.YtladfpljnaippabDoor
open Go.RowKit

theorem finD_any (b : Int) (w : World) (_h0 : 0 ≤ b) (_h1 : b < 4294967296) :
    Calls Tryd.prog 36 #[.int .u32 b] w fun e w' => e = .returned (.bool (fFin b)) ∧ Below w.heap.size w w' := by
  go_enter Tryd.func36, Tryd.ntmps36
  go_wp2
  go_ret
  exact ⟨by unfold fFin; rfl, Below.refl _ _⟩

set_option maxHeartbeats 2000000 in
theorem dyOfS_any (b : Int) (w : World) (h0 : 0 ≤ b) (h1 : b < 4294967296) :
    Calls Tryd.prog 8 #[.int .u32 b] w fun e w' => OutDS w (fFin b) (atK 100000 (fNum b) (fExp b - 150)) e w' := by
  have hex := fExp_pos h0
  have K0 : Hid (∀ t, Has3 w.heap.size (w.alloc (.cells #[.bool false, .slice none 0 0, .int .i64 0] t))) := fun t => Has3.new w t
  obtain ⟨v, hv⟩ : ∃ v, v = atK 100000 (fNum b) (fExp b - 150) := ⟨_, rfl⟩
  have HV : Hid (v = atK 100000 (fNum b) (fExp b - 150)) := hv
  rw [← hv]
  clear hv
  cases hf : fFin b
  · go_enter Tryd.func8, Tryd.ntmps8
    go_wp2_with fail
    refine (finD_any b _ h0 h1).mono ?_
    rintro e w1 ⟨rfl, hb1⟩
    rw [hf]
    have K1 : Hid (Has3 w.heap.size w1) := (K0.out _).later hb1
    have HB : Hid (Below w.heap.size w w1) := (bel0 _ _).trans (hb1.mono (by simp))
    have r1 := K1.out.r1
    have r2 := K1.out.r2
    have r3 := K1.out.r3
    have r4 := K1.out.r4
    clear hb1 K0
    go_wp2
    refine bodyPost_ret (v := .tuple #[.agg #[.bool false, .slice none 0 0, .int .i64 0], .int .i64 1]) (by simp [results, Tryd.results8, go_sem, r1, r2, r3]) rfl ?_
    refine ⟨false, [], 0, 1, none, 0, rfl, .inl ⟨rfl, rfl, rfl, rfl, rfl⟩, .inl rfl, .inl rfl, ?_⟩
    exact ((HB.out.setCell (by simp) _).setCell (by simp) _).setCell (by simp) _
  · go_enter Tryd.func8, Tryd.ntmps8
    go_wp2_with fail
    refine (finD_any b _ h0 h1).mono ?_
    rintro e w1 ⟨rfl, hb1⟩
    rw [hf]
    have K1 : Hid (Has3 w.heap.size w1) := (K0.out _).later hb1
    have HB1 : Hid (Below w.heap.size w w1) := (bel0 _ _).trans (hb1.mono (by simp))
    clear hb1 K0
    go_wp2_with fail
    refine (float2_any b _ h0 h1).mono ?_
    rintro e w2 ⟨m, e', hnf, g2, a2, c2, fs, rfl, hl2, hL2, hF2, hb2⟩
    have K2 : Hid (Has3 w.heap.size w2) := K1.out.later hb2
    have HB2 : Hid (Below w.heap.size w w2) := HB1.out.trans (hb2.mono HB1.out.size)
    have hbd : -100000 ≤ e' ∧ e' ≤ 1000000 := by have := hnf.bound; omega
    have HVV : Hid (atK 100000 m e' = v) := by unfold Hid; rw [HV.out]; exact hnf.at (by omega)
    have HL : Hid (L1 w2 g2 a2 c2 fs m) := hL2
    clear hb2 hnf hL2 hF2
    go_wp2_with fail
    refine (out2_any g2 a2 c2 fs m e' _ (by omega) hbd.1 hbd.2 HL.out).mono ?_
    rintro e w3 ⟨G, Z, E, K, a3, c3, rfl, hres, hr3, hf3, hb3⟩
    rw [HVV.out] at hres
    have K3 : Hid (Has3 w.heap.size w3) := K2.out.later hb3
    have HB3 : Hid (Below w.heap.size w w3) := HB2.out.trans (hb3.mono HB2.out.size)
    have HR : Hid (ResD true v G Z E K) := hres
    have HA : Hid (RowAt .u32 w3 a3 Z) := hr3
    have HF : Hid (Far (w.heap.size + 1) a3 Z) := Far.down hf3 K2.out.lt
    have r1 := K3.out.r1
    have r2 := K3.out.r2
    have r3 := K3.out.r3
    have r4 := K3.out.r4
    clear hb3 hres hr3 hf3
    go_wp2
    refine bodyPost_ret (v := .tuple #[.agg #[.bool G, .slice a3 Z.length c3, .int .i64 E], .int .i64 K]) (by simp [results, Tryd.results8, go_sem, r1, r2, r3]) rfl ?_
    refine ⟨G, Z, E, K, a3, c3, rfl, HR.out, ?_, HF.out.down (by omega), ?_⟩
    · exact ((HA.out.setAway (HF.out.away (by simp)) _).setAway (HF.out.away (by simp)) _).setAway (HF.out.away (by simp)) _
    · exact ((HB3.out.setCell (by simp) _).setCell (by simp) _).setCell (by simp) _

end Go.Proofs.YtladfpljnaippabDoor

/-
  Any drawn Big, and the bits of a drawn float, as functions of the reader's bytes.
-/
namespace Go.Proofs.YtladfpljnaippabDoor
open Go.RowKit

/-- Any drawn Big: sign, digits, the bytes that are left. -/
def anyF (rs : List Int) : Bool × List Int × List Int :=
  if rs.headD 0 % 14 = 0 then ((spoilF (drawG rs.tail) (drawZ rs.tail) (drawL rs.tail).2).1, (spoilF (drawG rs.tail) (drawZ rs.tail) (drawL rs.tail).2).2, (drawL rs.tail).2.tail)
  else (drawG rs.tail, drawZ rs.tail, (drawL rs.tail).2)

theorem Rz.outH {w W0 W : World} {P R : Nat} {G : Bool} {a : Option Addr} {c : Nat} {zs rs : List Int} (h : Rz w P R W0) (ha : Aside P W0 W) (hr : Rs P rs W) (hown : W.ownsRow W0.heap.size 33 1 (.slice a zs.length c) zs.length (vals .u32 zs)) (hu : U32 zs) (hn : zs.length ≤ 513) :
    DrawH P G zs rs w (.returned (.agg #[.bool G, .slice a zs.length c])) ((W.setCell ⟨R, 0, none⟩ (.bool G)).setCell ⟨R, 1, none⟩ (.slice a zs.length c)) := by
  obtain ⟨o1, o2, o3⟩ := h.ord
  have hs := h.asd.size
  refine ⟨a, c, rfl, hn, hu, own_mono (own_set (own_set hown (by simp; omega) _) (by simp; omega) _) (by omega), ?_, ((h.asd.trans ha).setHigh (by simp; omega) _).setHigh (by simp; omega) _⟩
  exact hr.above (B := P + 1) (((Below.refl _ _).setCell (by simp; omega) _).setCell (by simp; omega) _) (by omega)

set_option maxHeartbeats 4000000 in
theorem drawAnyH_any (P : Nat) (rs : List Int) (w : World) (h : Rs P rs w) :
    Calls Tryd.prog 73 #[.pointer (some ⟨P, 0, none⟩)] w fun e w' => DrawH P (anyF rs).1 (anyF rs).2.1 (anyF rs).2.2 w e w' := by
  have hl := h.lt
  obtain ⟨F, hF⟩ : ∃ F, F = anyF rs := ⟨_, rfl⟩
  rw [← hF]
  have HF : Hid (F = anyF rs) := hF
  clear hF
  go_enter Tryd.func73, Tryd.ntmps73
  go_wp2_with fail
  refine (nextF_any P rs _ (h.later (bel0 _ _))).mono ?_
  rintro e w1 ⟨rfl, hk0, hk1, hr1, ha1⟩
  obtain ⟨kk, hkk⟩ : ∃ kk, kk = rs.headD 0 := ⟨_, rfl⟩
  have HF2 : Hid (F = if kk % 14 = 0 then ((spoilF (drawG rs.tail) (drawZ rs.tail) (drawL rs.tail).2).1, (spoilF (drawG rs.tail) (drawZ rs.tail) (drawL rs.tail).2).2, (drawL rs.tail).2.tail) else (drawG rs.tail, drawZ rs.tail, (drawL rs.tail).2)) := by unfold Hid; rw [HF.out, hkk]; rfl
  rw [← hkk] at hk0 hk1 ⊢
  clear hkk HF
  have R1 : Hid (Rz w P w.heap.size w1) := (Rz.start w P hl _).aside ha1
  have HR1 : Hid (Rs P rs.tail w1) := hr1
  have hq0 : 0 ≤ kk % 14 := by omega
  clear hr1 ha1 h
  go_wp2_with fail
  refine (drawBigF_any P rs.tail _ HR1.out).mono ?_
  rintro e w2 ⟨a, c, rfl, hn2, hu2, hown2, hr2, ha2⟩
  obtain ⟨G, hG⟩ : ∃ G, G = drawG rs.tail := ⟨_, rfl⟩
  obtain ⟨zs, hzs⟩ : ∃ zs, zs = drawZ rs.tail := ⟨_, rfl⟩
  obtain ⟨rs2, hrs2⟩ : ∃ rs2, rs2 = (drawL rs.tail).2 := ⟨_, rfl⟩
  have HF3 : Hid (F = if kk % 14 = 0 then ((spoilF G zs rs2).1, (spoilF G zs rs2).2, rs2.tail) else (G, zs, rs2)) := by unfold Hid; rw [HF2.out, hG, hzs, hrs2]
  rw [← hzs] at hn2 hu2 hown2 ⊢
  rw [← hrs2] at hr2
  rw [← hG]
  clear hG hzs hrs2 HF2
  have R2 : Hid (Rz w P w.heap.size w2) := R1.out.aside ha2
  have oR : w.heap.size < w2.heap.size := R2.out.ord.2.1
  have r1 := R2.out.r1
  have r2 := R2.out.r2
  have r3 := R2.out.r3
  by_cases hz : kk % 14 = 0
  · have hz' : (kk % 14 == 0) = true := by rw [beq_iff_eq]; exact hz
    have HF4 : Hid (F = ((spoilF G zs rs2).1, (spoilF G zs rs2).2, rs2.tail)) := by unfold Hid; rw [HF3.out, if_pos hz]
    have hp1 : P < w1.heap.size := by have := R1.out.ord; omega
    have b0 : Below w2.heap.size w2 (w2.alloc (.cells #[.bool G, .slice a zs.length c] 27)) := bel0 _ _
    have S3 := spoilH_any P rs2 w1 (w2.alloc (.cells #[.bool G, .slice a zs.length c] 27)) G a c zs hp1 (hr2.later b0) (ha2.trans (Aside.of b0)) ((Aside.of (P := P) b0).own hown2 hp1) hu2 hn2
    have HS3 : Hid (Calls Tryd.prog 105 #[.agg #[.bool G, .slice a zs.length c], .pointer (some ⟨P, 0, none⟩)] (w2.alloc (.cells #[.bool G, .slice a zs.length c] 27)) fun e w' => DrawH P (spoilF G zs rs2).1 (spoilF G zs rs2).2 rs2.tail w1 e w') := S3
    clear S3 hown2 hr2 ha2 b0 hu2 hz HF3
    go_wp2_with fail
    refine HS3.out.mono ?_
    rintro e w3 ⟨a3, c3, rfl, hn3, hu3, hown3, hr3, ha3⟩
    obtain ⟨G3, hG3⟩ : ∃ G3, G3 = (spoilF G zs rs2).1 := ⟨_, rfl⟩
    obtain ⟨z3, hz3⟩ : ∃ z3, z3 = (spoilF G zs rs2).2 := ⟨_, rfl⟩
    have HF5 : Hid (F = (G3, z3, rs2.tail)) := by unfold Hid; rw [HF4.out, hG3, hz3]
    rw [← hz3] at hn3 hu3 hown3 ⊢
    rw [← hG3]
    clear hG3 hz3 HF4 HS3
    have HX : Hid (DrawH P G3 z3 rs2.tail w (.returned (.agg #[.bool G3, .slice a3 z3.length c3])) ((w3.setCell ⟨w.heap.size, 0, none⟩ (.bool G3)).setCell ⟨w.heap.size, 1, none⟩ (.slice a3 z3.length c3))) := R1.out.outH ha3 hr3 hown3 hu3 hn3
    have R3 : Hid (Rz w P w.heap.size w3) := R1.out.aside ha3
    have y1 := R3.out.r1
    have y2 := R3.out.r2
    have y3 := R3.out.r3
    clear hown3 hr3 ha3 hu3 r1 r2 r3
    go_wp2
    refine bodyPost_ret (v := .agg #[.bool G3, .slice a3 z3.length c3]) (by simp [results, Tryd.results73, go_sem, y1, y2]) rfl ?_
    rw [HF5.out]
    exact HX.out
  · have hz' : (kk % 14 == 0) = false := by rw [beq_eq_false_iff_ne]; exact hz
    have HF4 : Hid (F = (G, zs, rs2)) := by unfold Hid; rw [HF3.out, if_neg hz]
    have b0 : Below w2.heap.size w2 (w2.alloc (.cells #[.bool G, .slice a zs.length c] 27)) := bel0 _ _
    have hp1 : P < w1.heap.size := by have := R1.out.ord; omega
    have DX := R1.out.outH (G := G) (ha2.trans (Aside.of b0)) (hr2.later b0) ((Aside.of (P := P) b0).own hown2 hp1) hu2 (by omega)
    have HX : Hid (DrawH P G zs rs2 w (.returned (.agg #[.bool G, .slice a zs.length c])) (((w2.setCell ⟨w.heap.size, 0, none⟩ (.bool G)).setCell ⟨w.heap.size, 1, none⟩ (.slice a zs.length c)).alloc (.cells #[.bool G, .slice a zs.length c] 27))) := by
      unfold Hid
      simpa [go_sem, oR] using DX
    clear DX hown2 hr2 ha2 b0 hu2 hz HF3
    go_wp2
    refine bodyPost_ret (v := .agg #[.bool G, .slice a zs.length c]) (by simp [results, Tryd.results73, go_sem, r1, r2, oR]) rfl ?_
    rw [HF4.out]
    exact HX.out

def smallU : List Int := [0, 1065353216, 1073741824, 1077936128, 1082130432, 1084227584, 1086324736, 3212836864, 3221225472, 3225419776, 1056964608, 2147483648]
def oddU : List Int := [1, 2147483649, 8388607, 8388608, 2139095039, 4286578687, 1065353217, 872415232, 2139095040, 4286578688, 2143289344, 2139095041]

/-- The bits of a drawn float, and the bytes that are left. -/
def bitsF (wild : Bool) (rs : List Int) : Int × List Int :=
  if wild = false ∨ rs.headD 0 < 200 then (smallU.getD (rs.headD 0 % 12).toNat 0, rs.tail)
  else if rs.headD 0 < 224 then (oddU.getD (rs.headD 0 % 8).toNat 0, rs.tail)
  else if rs.headD 0 < 226 then (oddU.getD (8 + rs.tail.headD 0 % 4).toNat 0, rs.tail.tail)
  else (if fFin (bits .xor .u32 (rs.tail.headD 0 * 16843009) (rs.tail.tail.headD 0 * 66309)) = true then bits .xor .u32 (rs.tail.headD 0 * 16843009) (rs.tail.tail.headD 0 * 66309) else bits .xor .u32 (bits .xor .u32 (rs.tail.headD 0 * 16843009) (rs.tail.tail.headD 0 * 66309)) 1073741824, rs.tail.tail.tail)

/-- What l2drawBits hands back. -/
def BitsOut (P : Nat) (b : Int) (rs' : List Int) (w : World) (e : Ending) (w' : World) : Prop := e = .returned (.int .u32 b) ∧ 0 ≤ b ∧ b < 4294967296 ∧ Rs P rs' w' ∧ Aside P w w'

theorem smallU_row (w : World) (t : TypeId) : RowAt .u32 (w.alloc (.cells #[.int .u32 0, .int .u32 1065353216, .int .u32 1073741824, .int .u32 1077936128, .int .u32 1082130432, .int .u32 1084227584, .int .u32 1086324736, .int .u32 3212836864, .int .u32 3221225472, .int .u32 3225419776, .int .u32 1056964608, .int .u32 2147483648] t)) (some ⟨w.heap.size, 0, none⟩) smallU := by
  refine .inr ⟨w.heap.size, 0, rfl, by simp, fun j hj => ?_⟩
  rw [Nat.zero_add, World.cell?_alloc_at _ _ _ _ (by simp)]
  have : j < 12 := hj
  match j, this with
  | 0, _ => rfl
  | 1, _ => rfl
  | 2, _ => rfl
  | 3, _ => rfl
  | 4, _ => rfl
  | 5, _ => rfl
  | 6, _ => rfl
  | 7, _ => rfl
  | 8, _ => rfl
  | 9, _ => rfl
  | 10, _ => rfl
  | 11, _ => rfl

theorem smallU_cell {W : World} {T j : Nat} (h : RowAt .u32 W (some ⟨T, 0, none⟩) smallU) (hj : j < 12) : ∃ y, W.cell? ⟨T, j, none⟩ = some (.int .u32 y) ∧ 0 ≤ y ∧ y < 4294967296 ∧ y = smallU.getD j 0 := by
  rcases h with h | ⟨b, off, h1, _, h3⟩
  · cases h
  · have h4 := Option.some.inj h1
    have e1 : b = T := (congrArg Addr.block h4).symm
    have e2 : off = 0 := (congrArg Addr.off h4).symm
    subst e1 e2
    have := h3 j hj
    rw [Nat.zero_add] at this
    have hu : ∀ k, k < 12 → 0 ≤ smallU.getD k 0 ∧ smallU.getD k 0 < 4294967296 := by decide
    exact ⟨_, this, (hu j hj).1, (hu j hj).2, rfl⟩

theorem oddU_row (w : World) (t : TypeId) : RowAt .u32 (w.alloc (.cells #[.int .u32 1, .int .u32 2147483649, .int .u32 8388607, .int .u32 8388608, .int .u32 2139095039, .int .u32 4286578687, .int .u32 1065353217, .int .u32 872415232, .int .u32 2139095040, .int .u32 4286578688, .int .u32 2143289344, .int .u32 2139095041] t)) (some ⟨w.heap.size, 0, none⟩) oddU := by
  refine .inr ⟨w.heap.size, 0, rfl, by simp, fun j hj => ?_⟩
  rw [Nat.zero_add, World.cell?_alloc_at _ _ _ _ (by simp)]
  have : j < 12 := hj
  match j, this with
  | 0, _ => rfl
  | 1, _ => rfl
  | 2, _ => rfl
  | 3, _ => rfl
  | 4, _ => rfl
  | 5, _ => rfl
  | 6, _ => rfl
  | 7, _ => rfl
  | 8, _ => rfl
  | 9, _ => rfl
  | 10, _ => rfl
  | 11, _ => rfl

theorem oddU_cell {W : World} {T j : Nat} (h : RowAt .u32 W (some ⟨T, 0, none⟩) oddU) (hj : j < 12) : ∃ y, W.cell? ⟨T, j, none⟩ = some (.int .u32 y) ∧ 0 ≤ y ∧ y < 4294967296 ∧ y = oddU.getD j 0 := by
  rcases h with h | ⟨b, off, h1, _, h3⟩
  · cases h
  · have h4 := Option.some.inj h1
    have e1 : b = T := (congrArg Addr.block h4).symm
    have e2 : off = 0 := (congrArg Addr.off h4).symm
    subst e1 e2
    have := h3 j hj
    rw [Nat.zero_add] at this
    have hu : ∀ k, k < 12 → 0 ≤ oddU.getD k 0 ∧ oddU.getD k 0 < 4294967296 := by decide
    exact ⟨_, this, (hu j hj).1, (hu j hj).2, rfl⟩

set_option maxRecDepth 100000 in
set_option maxHeartbeats 8000000 in
theorem drawBits_any (P : Nat) (wild : Bool) (rs : List Int) (w : World) (h : Rs P rs w) :
    Calls Tryd.prog 31 #[.pointer (some ⟨P, 0, none⟩), .bool wild] w fun e w' => BitsOut P (bitsF wild rs).1 (bitsF wild rs).2 w e w' := by
  obtain ⟨F, hF⟩ : ∃ F, F = bitsF wild rs := ⟨_, rfl⟩
  rw [← hF]
  have HF : Hid (F = bitsF wild rs) := hF
  have HS : Hid (Rs P rs w) := h
  have hPl := h.lt
  clear hF h
  go_enter Tryd.func31, Tryd.ntmps31
  go_wp2_with fail
  refine (nextF_any P rs _ HS.out).mono ?_
  rintro e w1 ⟨rfl, hk0, hk1, hr1, ha1⟩
  obtain ⟨k, hk⟩ : ∃ k, k = rs.headD 0 := ⟨_, rfl⟩
  have HK : Hid (k = rs.headD 0) := hk
  rw [← hk] at hk0 hk1 ⊢
  clear hk
  have HR1 : Hid (Rs P rs.tail w1) := hr1
  have HA1 : Hid (Aside P w w1) := ha1
  have SR : Hid (∀ t, RowAt .u32 (w1.alloc (.cells #[.int .u32 0, .int .u32 1065353216, .int .u32 1073741824, .int .u32 1077936128, .int .u32 1082130432, .int .u32 1084227584, .int .u32 1086324736, .int .u32 3212836864, .int .u32 3221225472, .int .u32 3225419776, .int .u32 1056964608, .int .u32 2147483648] t)) (some ⟨w1.heap.size, 0, none⟩) smallU) := fun t => smallU_row w1 t
  obtain ⟨y, gy, hy0, hy1, hyo⟩ := smallU_cell (SR.out 33) (show (k % 12).toNat < 12 by omega)
  have HYO : Hid (y = smallU.getD (k % 12).toNat 0) := hyo
  have hj0 : 0 ≤ k % 12 := by omega
  have hj8 : k % 12 < 12 := by omega
  have hj9 : 0 ≤ k % 12 ∧ k % 12 < 12 := ⟨hj0, hj8⟩
  have hjt : k.tmod 12 = k % 12 := Int.tmod_eq_emod_of_nonneg hk0
  clear hr1 ha1 hyo HS SR
  by_cases hc : wild = false ∨ k < 200
  · have HF2 : Hid (F = (y, rs.tail)) := by unfold Hid; rw [HF.out]; unfold bitsF; rw [← HK.out, if_pos hc, HYO.out]
    have HO : Hid (∀ W, Below w1.heap.size w1 W → BitsOut P F.1 F.2 w (.returned (.int .u32 y)) W) := by
      intro W hW
      rw [HF2.out]
      exact ⟨rfl, hy0, hy1, HR1.out.later hW, HA1.out.trans (Aside.of hW)⟩
    clear HF2 HF
    rcases hc with rfl | hc
    · go_wp2
      go_ret
      exact HO.out _ (bel0 _ _)
    · cases wild
      · go_wp2
        go_ret
        exact HO.out _ (bel0 _ _)
      · go_wp2
        go_ret
        exact HO.out _ (bel0 _ _)
  · have hw : wild = true := by cases wild <;> simp_all
    have hk2 : ¬ k < 200 := fun h => hc (.inr h)
    subst hw
    clear gy hj0 hj8 hj9 hjt HYO hy0 hy1
    have hP1 : P < w1.heap.size := HR1.out.lt
    obtain ⟨W2, hW2⟩ : ∃ W2, W2 = (w1.alloc (.cells #[.int .u32 0, .int .u32 1065353216, .int .u32 1073741824, .int .u32 1077936128, .int .u32 1082130432, .int .u32 1084227584, .int .u32 1086324736, .int .u32 3212836864, .int .u32 3221225472, .int .u32 3225419776, .int .u32 1056964608, .int .u32 2147483648] 33)).alloc (.cells #[.int .u32 1, .int .u32 2147483649, .int .u32 8388607, .int .u32 8388608, .int .u32 2139095039, .int .u32 4286578687, .int .u32 1065353217, .int .u32 872415232, .int .u32 2139095040, .int .u32 4286578688, .int .u32 2143289344, .int .u32 2139095041] 33) := ⟨_, rfl⟩
    have OR : RowAt .u32 W2 (some ⟨w1.heap.size + 1, 0, none⟩) oddU := by
      rw [hW2]
      have := oddU_row (w1.alloc (.cells #[.int .u32 0, .int .u32 1065353216, .int .u32 1073741824, .int .u32 1077936128, .int .u32 1082130432, .int .u32 1084227584, .int .u32 1086324736, .int .u32 3212836864, .int .u32 3221225472, .int .u32 3225419776, .int .u32 1056964608, .int .u32 2147483648] 33)) 33
      simpa using this
    have HOR : Hid (RowAt .u32 W2 (some ⟨w1.heap.size + 1, 0, none⟩) oddU) := OR
    have hb2 : Below w1.heap.size w1 W2 := by rw [hW2]; exact bel2 _ _ _
    have hs2 : W2.heap.size = w1.heap.size + 2 := by rw [hW2]; simp
    have HR2 : Hid (Rs P rs.tail W2) := HR1.out.later hb2
    have HA2 : Hid (Aside P w W2) := HA1.out.trans (Aside.of hb2)
    by_cases hc2 : k < 224
    · obtain ⟨y, gy, hy0, hy1, hyo⟩ := oddU_cell OR (show (k % 8).toNat < 12 by omega)
      have HO : Hid (BitsOut P F.1 F.2 w (.returned (.int .u32 y)) W2) := by
        unfold Hid
        rw [HF.out]
        unfold bitsF
        rw [← HK.out, if_neg hc, if_pos hc2, ← hyo]
        exact ⟨rfl, hy0, hy1, HR2.out, HA2.out⟩
      have hj0 : 0 ≤ k % 8 := by omega
      have hj8 : k % 8 < 12 := by omega
      have hj9 : 0 ≤ k % 8 ∧ k % 8 < 12 := ⟨hj0, hj8⟩
      have hjt : k.tmod 8 = k % 8 := Int.tmod_eq_emod_of_nonneg hk0
      rw [hW2] at gy
      rw [hW2] at HO
      clear hyo HF hc hb2 OR hW2 HOR HR2 HA2 HR1 HA1 hs2
      go_wp2
      go_ret
      exact HO.out
    · by_cases hc3 : k < 226
      · have HF2 : Hid (F = (oddU.getD (8 + rs.tail.headD 0 % 4).toNat 0, rs.tail.tail)) := by unfold Hid; rw [HF.out]; unfold bitsF; rw [← HK.out, if_neg hc, if_neg hc2, if_pos hc3]
        have hn := nextF_any P rs.tail W2 HR2.out
        rw [hW2] at hn
        have HN : Hid (Calls Tryd.prog 29 #[.pointer (some ⟨P, 0, none⟩)] ((w1.alloc (.cells #[.int .u32 0, .int .u32 1065353216, .int .u32 1073741824, .int .u32 1077936128, .int .u32 1082130432, .int .u32 1084227584, .int .u32 1086324736, .int .u32 3212836864, .int .u32 3221225472, .int .u32 3225419776, .int .u32 1056964608, .int .u32 2147483648] 33)).alloc (.cells #[.int .u32 1, .int .u32 2147483649, .int .u32 8388607, .int .u32 8388608, .int .u32 2139095039, .int .u32 4286578687, .int .u32 1065353217, .int .u32 872415232, .int .u32 2139095040, .int .u32 4286578688, .int .u32 2143289344, .int .u32 2139095041] 33)) fun e w' => NextF P rs.tail ((w1.alloc (.cells #[.int .u32 0, .int .u32 1065353216, .int .u32 1073741824, .int .u32 1077936128, .int .u32 1082130432, .int .u32 1084227584, .int .u32 1086324736, .int .u32 3212836864, .int .u32 3221225472, .int .u32 3225419776, .int .u32 1056964608, .int .u32 2147483648] 33)).alloc (.cells #[.int .u32 1, .int .u32 2147483649, .int .u32 8388607, .int .u32 8388608, .int .u32 2139095039, .int .u32 4286578687, .int .u32 1065353217, .int .u32 872415232, .int .u32 2139095040, .int .u32 4286578688, .int .u32 2143289344, .int .u32 2139095041] 33)) e w') := hn
        clear hn HF hc
        go_wp2_with fail
        refine HN.out.mono ?_
        rw [← hW2]
        rintro e w3 ⟨rfl, hv0, hv1, hr3, ha3⟩
        obtain ⟨v, hv⟩ : ∃ v, v = rs.tail.headD 0 := ⟨_, rfl⟩
        rw [← hv] at hv0 hv1 HF2 ⊢
        obtain ⟨y, gy, hy0, hy1, hyo⟩ := oddU_cell OR (show (8 + v % 4).toNat < 12 by omega)
        have gy3 : w3.cell? ⟨w1.heap.size + 1, (8 + v % 4).toNat, none⟩ = some (.int .u32 y) := (ha3.cell (by simp; omega) (by simp; omega)).trans gy
        have HO : Hid (BitsOut P F.1 F.2 w (.returned (.int .u32 y)) w3) := by
          unfold Hid
          rw [HF2.out, ← hyo]
          exact ⟨rfl, hy0, hy1, hr3, HA2.out.trans ha3⟩
        have hj0 : 0 ≤ 8 + v % 4 := by omega
        have hj8 : 8 + v % 4 < 12 := by omega
        have hj9 : 0 ≤ 8 + v % 4 ∧ 8 + v % 4 < 12 := ⟨hj0, hj8⟩
        have hjt : v.tmod 4 = v % 4 := Int.tmod_eq_emod_of_nonneg hv0
        clear hyo HF2 hb2 OR hW2 HOR HR2 HA2 HR1 HA1 hs2 gy hr3 ha3 hv HN
        go_wp2
        go_ret
        exact HO.out
      · have HF2 : Hid (F = (if fFin (bits .xor .u32 (rs.tail.headD 0 * 16843009) (rs.tail.tail.headD 0 * 66309)) = true then bits .xor .u32 (rs.tail.headD 0 * 16843009) (rs.tail.tail.headD 0 * 66309) else bits .xor .u32 (bits .xor .u32 (rs.tail.headD 0 * 16843009) (rs.tail.tail.headD 0 * 66309)) 1073741824, rs.tail.tail.tail)) := by unfold Hid; rw [HF.out]; unfold bitsF; rw [← HK.out, if_neg hc, if_neg hc2, if_neg hc3]
        have hn := nextF_any P rs.tail W2 HR2.out
        rw [hW2] at hn
        have HN : Hid (Calls Tryd.prog 29 #[.pointer (some ⟨P, 0, none⟩)] ((w1.alloc (.cells #[.int .u32 0, .int .u32 1065353216, .int .u32 1073741824, .int .u32 1077936128, .int .u32 1082130432, .int .u32 1084227584, .int .u32 1086324736, .int .u32 3212836864, .int .u32 3221225472, .int .u32 3225419776, .int .u32 1056964608, .int .u32 2147483648] 33)).alloc (.cells #[.int .u32 1, .int .u32 2147483649, .int .u32 8388607, .int .u32 8388608, .int .u32 2139095039, .int .u32 4286578687, .int .u32 1065353217, .int .u32 872415232, .int .u32 2139095040, .int .u32 4286578688, .int .u32 2143289344, .int .u32 2139095041] 33)) fun e w' => NextF P rs.tail ((w1.alloc (.cells #[.int .u32 0, .int .u32 1065353216, .int .u32 1073741824, .int .u32 1077936128, .int .u32 1082130432, .int .u32 1084227584, .int .u32 1086324736, .int .u32 3212836864, .int .u32 3221225472, .int .u32 3225419776, .int .u32 1056964608, .int .u32 2147483648] 33)).alloc (.cells #[.int .u32 1, .int .u32 2147483649, .int .u32 8388607, .int .u32 8388608, .int .u32 2139095039, .int .u32 4286578687, .int .u32 1065353217, .int .u32 872415232, .int .u32 2139095040, .int .u32 4286578688, .int .u32 2143289344, .int .u32 2139095041] 33)) e w') := hn
        clear hn HF hc
        go_wp2_with fail
        refine HN.out.mono ?_
        rw [← hW2]
        rintro e w3 ⟨rfl, hv0, hv1, hr3, ha3⟩
        obtain ⟨v, hv⟩ : ∃ v, v = rs.tail.headD 0 := ⟨_, rfl⟩
        rw [← hv] at hv0 hv1 HF2 ⊢
        have HR3 : Hid (Rs P rs.tail.tail w3) := hr3
        have HA3 : Hid (Aside P w w3) := HA2.out.trans ha3
        clear hb2 OR hW2 HOR HR2 HA2 HR1 HA1 hs2 hr3 ha3 hv HN
        go_wp2_with fail
        refine (nextF_any P rs.tail.tail _ HR3.out).mono ?_
        rintro e w4 ⟨rfl, hu0, hu1, hr4, ha4⟩
        obtain ⟨u, hu⟩ : ∃ u, u = rs.tail.tail.headD 0 := ⟨_, rfl⟩
        rw [← hu] at hu0 hu1 HF2 ⊢
        have HR4 : Hid (Rs P rs.tail.tail.tail w4) := hr4
        have HA4 : Hid (Aside P w w4) := HA3.out.trans ha4
        have hbr := bits_range .xor (v * 16843009) (u * 66309)
        obtain ⟨B, hB⟩ : ∃ B, B = bits .xor .u32 (v * 16843009) (u * 66309) := ⟨_, rfl⟩
        have HB : Hid (B = bits .xor .u32 (v * 16843009) (u * 66309)) := hB
        rw [← hB] at hbr HF2
        obtain ⟨hB0, hB1⟩ := hbr
        have hbr2 := bits_range .xor B 1073741824
        clear hr4 ha4 hu HR3 HA3 hB
        go_wp2_with fail
        rw [← HB.out]
        refine (finD_any B _ hB0 hB1).mono ?_
        rintro e w5 ⟨rfl, hb5⟩
        have HR5 : Hid (Rs P rs.tail.tail.tail w5) := HR4.out.later hb5
        have HA5 : Hid (Aside P w w5) := HA4.out.trans (Aside.of hb5)
        clear hb5 HR4 HA4 HB
        cases hf : fFin B
        · have HO : Hid (BitsOut P F.1 F.2 w (.returned (.int .u32 (bits .xor .u32 B 1073741824))) w5) := by
            unfold Hid
            rw [HF2.out, if_neg (by rw [hf]; decide)]
            exact ⟨rfl, hbr2.1, hbr2.2, HR5.out, HA5.out⟩
          clear HF2
          go_wp2
          go_ret
          exact HO.out
        · have HO : Hid (BitsOut P F.1 F.2 w (.returned (.int .u32 B)) w5) := by
            unfold Hid
            rw [HF2.out, if_pos hf]
            exact ⟨rfl, hB0, hB1, HR5.out, HA5.out⟩
          clear HF2
          go_wp2
          go_ret
          exact HO.out

end Go.Proofs.YtladfpljnaippabDoor

/-
  The model's numbers of at most two digits, with a sign.
-/
import Derived.Test.YtfgpknglgbpebafDoorSpecG
import Derived.Test.YtfgpknglgbpebafDoorNumF
import Derived.Test.YtfgpknglgbpebafDoorNumWToNumFl
import Derived.Test.YtfgpknglgbpebafDoorDy1h
namespace Go.Proofs.YtfgpknglgbpebafDoor
open Go.RowKit

/-- The digits of a number below 2^32. -/
def sdig (V : Int) : List Int := if V = 0 then [] else if V < 65536 then [V] else [V % 65536, V / 65536]

theorem l1_sdig {w : World} {g : Bool} {a : Option Addr} {c : Nat} {v V : Int} (h0 : 0 ≤ V) (h1 : V < 4294967296) (hv : v = sg g V) (hg : g = true → V ≠ 0) (hc : c ≤ maxLen) (h : Sl .i64 w a c (sdig V)) : L1 w g a c (sdig V) v := by
  by_cases hz : V = 0
  · have e : sdig V = [] := by unfold sdig; rw [if_pos hz]
    rw [e] at h ⊢
    exact ⟨h, ⟨Dig.nil _, rfl⟩, by rw [hv, hz]; rfl, fun h2 => absurd hz (hg h2), hc⟩
  · by_cases hs : V < 65536
    · have e : sdig V = [V] := by unfold sdig; rw [if_neg hz, if_pos hs]
      rw [e] at h ⊢
      exact ⟨h, ⟨Dig.cons h0 hs (Dig.nil _), by simp [trimL, hz]⟩, by rw [hv]; simp [val], by simp, hc⟩
    · have e : sdig V = [V % 65536, V / 65536] := by unfold sdig; rw [if_neg hz, if_neg hs]
      have hq : V / 65536 ≠ 0 := by omega
      rw [e] at h ⊢
      exact ⟨h, ⟨Dig.cons (by omega) (by omega) (Dig.cons (by omega) (by omega) (Dig.nil _)), by simp [trimL, hq]⟩, by rw [hv]; congr 1; simp [val]; omega, by simp, hc⟩

/-- What l1small hands back. -/
def Small2Out (w : World) (v : Int) (e : Ending) (w' : World) : Prop :=
  ∃ (g : Bool) (a : Option Addr) (c : Nat) (ds : List Int), e = .returned (.agg #[.bool g, .slice a ds.length c]) ∧ ds.length ≤ 2 ∧ L1 w' g a c ds v ∧ Far (w.heap.size + 1) a ds ∧ Below w.heap.size w w'

theorem wrap_i64 {n : Int} (h0 : 0 ≤ n) (h1 : n < 9223372036854775808) : IntKind.i64.wrap n = n := by
  simp [IntKind.wrap, IntKind.bits, IntKind.signed]
  omega

set_option maxHeartbeats 4000000 in
theorem small2_pos (v : Int) (w : World) (h0 : 0 ≤ v) (h1 : v < 4294967296) :
    Calls Tryd.prog 45 #[.int .i64 v] w fun e w' => Small2Out w v e w' := by
  obtain ⟨V, hV⟩ : ∃ V, V = v := ⟨_, rfl⟩
  have hV0 : 0 ≤ V := by omega
  have hV1 : V < 4294967296 := by omega
  have HVV : Hid (V = v) := hV
  clear hV
  go_enter Tryd.func45, Tryd.ntmps45
  go_wp2
  go_loopw [4, 5] (fun su sd wr => ∃ (u : Int) (ys : List Int), su = .int .u64 u ∧ ((u = V ∧ ys = []) ∨ (u = V / 65536 ∧ ys = [V % 65536] ∧ 0 < V) ∨ (u = 0 ∧ ys = [V % 65536, V / 65536] ∧ 65536 ≤ V)) ∧ wr.ownsRow (w.heap.size + 1) 3 1 sd ys.length (vals .i64 ys) ∧ Below (w.heap.size + 1) (w.alloc (.cells #[.bool false, .slice none 0 0] 59)) wr ∧ w.heap.size + 1 ≤ wr.heap.size) (fun su _ _ => (intOf su).toNat)
  case atStart => exact ⟨V, [], by rw [HVV.out], .inl ⟨rfl, rfl⟩, own_nil _ _ _ _, Below.refl _ _, by simp⟩
  case round =>
    obtain ⟨u, ys, rfl, hcase, hown, hnx, hsz⟩ := hrel
    have hu0 : 0 ≤ u := by omega
    have hu1 : u < 4294967296 := by omega
    by_cases hu : 0 < u
    · have E1 : Hid (IntKind.i64.wrap (u % 65536) = u % 65536) := wrap_i64 (by omega) (by omega)
      rcases hcase with ⟨hc1, hc2⟩ | ⟨hc1, hc2, hc3⟩ | ⟨hc1, _, _⟩
      · subst hc2
        have HC : Hid (_ = _) := hc1
        clear hc1
        go_wp2_with (at_builtin; refine app1 rfl (.tmp 15) (.tmp 19) 57 rfl (w.heap.size + 1) 3 Tryd.underlying57 Tryd.info3 (by decide) _ _ rfl rfl hown (by simp) hsz ?_; intro a1 n1 c1 w1 hown1 hb1 hs1)
        go_roundw
        case rel => exact ⟨u / 65536, [u % 65536], rfl, .inr (.inl ⟨by rw [HC.out], by rw [HC.out], by have := HC.out; omega⟩), hown1, hnx.trans hb1, by omega⟩
        case measure => simp only [intOf]; omega
      · subst hc2
        have HC : Hid (_ = _) := hc1
        clear hc1
        go_wp2_with (at_builtin; refine app1 rfl (.tmp 15) (.tmp 19) 57 rfl (w.heap.size + 1) 3 Tryd.underlying57 Tryd.info3 (by decide) _ _ rfl rfl hown (by simp) hsz ?_; intro a1 n1 c1 w1 hown1 hb1 hs1)
        go_roundw
        case rel => exact ⟨u / 65536, [V % 65536, u % 65536], rfl, .inr (.inr ⟨by have := HC.out; omega, by have := HC.out; have e : u % 65536 = V / 65536 := (by omega); rw [e], by have := HC.out; omega⟩), hown1, hnx.trans hb1, by omega⟩
        case measure => simp only [intOf]; omega
      · omega
    · have hu00 : u = 0 := by omega
      subst hu00
      have hys : ys = sdig V := by
        unfold sdig
        rcases hcase with ⟨hc1, hc2⟩ | ⟨hc1, hc2, hc3⟩ | ⟨hc1, hc2, hc3⟩
        · rw [hc2, if_pos hc1.symm]
        · rw [hc2, if_neg (by omega), if_pos (by omega), Int.emod_eq_of_lt (by omega) (by omega)]
        · rw [hc2, if_neg (by omega), if_neg (by omega)]
      obtain ⟨a', c', rfl, hcm, hsl, hrn⟩ := own_row hown
      have r1 : wr.cell? ⟨w.heap.size, 0, none⟩ = some (.bool false) := by rw [hnx.cell (by simp)]; simp [go_sem]
      have r2 : wr.cell? ⟨w.heap.size, 1, none⟩ = some (.slice none 0 0) := by rw [hnx.cell (by simp)]; simp [go_sem]
      have r3 : ∀ j, wr.frozen? ⟨w.heap.size, j, none⟩ = false := by intro j; rw [hnx.frozen (by simp)]; simp [go_sem]
      have HF : Hid (Far (w.heap.size + 1) a' ys) := hrn.far (Nat.le_refl _) (Nat.le_refl _)
      have HL : Hid (L1 wr false a' c' ys v) := by unfold Hid; rw [hys] at hsl ⊢; exact l1_sdig hV0 hV1 (by have := HVV.out; simp [sg]; omega) (by intro h; cases h) hcm hsl
      have HB : Hid (Below w.heap.size w wr) := (bel0 _ _).trans (hnx.mono (by omega))
      have hyl : ys.length ≤ 2 := by rw [hys]; unfold sdig; split <;> (try split) <;> simp
      clear hown hnx hsl hrn hcase hys
      go_wp2
      refine bodyPost_ret (v := .agg #[.bool false, .slice a' ys.length c']) (by simp [results, Tryd.results45, go_sem, r1, r2, h0]) rfl ?_
      refine ⟨false, a', c', ys, rfl, hyl, ?_, HF.out, ?_⟩
      · exact (HL.out.setFar HF.out (by simp) _).setFar HF.out (by simp) _
      · exact (HB.out.setCell (by simp) _).setCell (by simp) _

set_option maxHeartbeats 4000000 in
theorem small2_neg (v : Int) (w : World) (h0 : v < 0) (h1 : -4294967296 < v) :
    Calls Tryd.prog 45 #[.int .i64 v] w fun e w' => Small2Out w v e w' := by
  obtain ⟨V, hV⟩ : ∃ V, V = -v := ⟨_, rfl⟩
  have hV0 : 0 ≤ V := by omega
  have hV1 : V < 4294967296 := by omega
  have HVV : Hid (V = -v) := hV
  clear hV
  go_enter Tryd.func45, Tryd.ntmps45
  go_wp2
  go_loopw [4, 5] (fun su sd wr => ∃ (u : Int) (ys : List Int), su = .int .u64 u ∧ ((u = V ∧ ys = []) ∨ (u = V / 65536 ∧ ys = [V % 65536] ∧ 0 < V) ∨ (u = 0 ∧ ys = [V % 65536, V / 65536] ∧ 65536 ≤ V)) ∧ wr.ownsRow (w.heap.size + 1) 3 1 sd ys.length (vals .i64 ys) ∧ Below (w.heap.size + 1) (w.alloc (.cells #[.bool false, .slice none 0 0] 59)) wr ∧ w.heap.size + 1 ≤ wr.heap.size) (fun su _ _ => (intOf su).toNat)
  case atStart => exact ⟨V, [], by rw [HVV.out]; exact congrArg _ (by simp [IntKind.wrap, IntKind.bits, IntKind.signed]; omega), .inl ⟨rfl, rfl⟩, own_nil _ _ _ _, Below.refl _ _, by simp⟩
  case round =>
    obtain ⟨u, ys, rfl, hcase, hown, hnx, hsz⟩ := hrel
    have hu0 : 0 ≤ u := by omega
    have hu1 : u < 4294967296 := by omega
    by_cases hu : 0 < u
    · have E1 : Hid (IntKind.i64.wrap (u % 65536) = u % 65536) := wrap_i64 (by omega) (by omega)
      rcases hcase with ⟨hc1, hc2⟩ | ⟨hc1, hc2, hc3⟩ | ⟨hc1, _, _⟩
      · subst hc2
        have HC : Hid (_ = _) := hc1
        clear hc1
        go_wp2_with (at_builtin; refine app1 rfl (.tmp 15) (.tmp 19) 57 rfl (w.heap.size + 1) 3 Tryd.underlying57 Tryd.info3 (by decide) _ _ rfl rfl hown (by simp) hsz ?_; intro a1 n1 c1 w1 hown1 hb1 hs1)
        go_roundw
        case rel => exact ⟨u / 65536, [u % 65536], rfl, .inr (.inl ⟨by rw [HC.out], by rw [HC.out], by have := HC.out; omega⟩), hown1, hnx.trans hb1, by omega⟩
        case measure => simp only [intOf]; omega
      · subst hc2
        have HC : Hid (_ = _) := hc1
        clear hc1
        go_wp2_with (at_builtin; refine app1 rfl (.tmp 15) (.tmp 19) 57 rfl (w.heap.size + 1) 3 Tryd.underlying57 Tryd.info3 (by decide) _ _ rfl rfl hown (by simp) hsz ?_; intro a1 n1 c1 w1 hown1 hb1 hs1)
        go_roundw
        case rel => exact ⟨u / 65536, [V % 65536, u % 65536], rfl, .inr (.inr ⟨by have := HC.out; omega, by have := HC.out; have e : u % 65536 = V / 65536 := (by omega); rw [e], by have := HC.out; omega⟩), hown1, hnx.trans hb1, by omega⟩
        case measure => simp only [intOf]; omega
      · omega
    · have hu00 : u = 0 := by omega
      subst hu00
      have hys : ys = sdig V := by
        unfold sdig
        rcases hcase with ⟨hc1, hc2⟩ | ⟨hc1, hc2, hc3⟩ | ⟨hc1, hc2, hc3⟩
        · rw [hc2, if_pos hc1.symm]
        · rw [hc2, if_neg (by omega), if_pos (by omega), Int.emod_eq_of_lt (by omega) (by omega)]
        · rw [hc2, if_neg (by omega), if_neg (by omega)]
      obtain ⟨a', c', rfl, hcm, hsl, hrn⟩ := own_row hown
      have r1 : wr.cell? ⟨w.heap.size, 0, none⟩ = some (.bool false) := by rw [hnx.cell (by simp)]; simp [go_sem]
      have r2 : wr.cell? ⟨w.heap.size, 1, none⟩ = some (.slice none 0 0) := by rw [hnx.cell (by simp)]; simp [go_sem]
      have r3 : ∀ j, wr.frozen? ⟨w.heap.size, j, none⟩ = false := by intro j; rw [hnx.frozen (by simp)]; simp [go_sem]
      have HF : Hid (Far (w.heap.size + 1) a' ys) := hrn.far (Nat.le_refl _) (Nat.le_refl _)
      have HL : Hid (L1 wr true a' c' ys v) := by unfold Hid; rw [hys] at hsl ⊢; exact l1_sdig hV0 hV1 (by have := HVV.out; simp [sg]; omega) (by have := HVV.out; intro _; omega) hcm hsl
      have HB : Hid (Below w.heap.size w wr) := (bel0 _ _).trans (hnx.mono (by omega))
      have hyl : ys.length ≤ 2 := by rw [hys]; unfold sdig; split <;> (try split) <;> simp
      clear hown hnx hsl hrn hcase hys
      go_wp2
      refine bodyPost_ret (v := .agg #[.bool true, .slice a' ys.length c']) (by simp [results, Tryd.results45, go_sem, r1, r2]) rfl ?_
      refine ⟨true, a', c', ys, rfl, hyl, ?_, HF.out, ?_⟩
      · exact (HL.out.setFar HF.out (by simp) _).setFar HF.out (by simp) _
      · exact (HB.out.setCell (by simp) _).setCell (by simp) _

theorem small2_any (v : Int) (w : World) (h0 : -4294967296 < v) (h1 : v < 4294967296) :
    Calls Tryd.prog 45 #[.int .i64 v] w fun e w' => Small2Out w v e w' := by
  by_cases h : 0 ≤ v
  · exact small2_pos v w h h1
  · exact small2_neg v w (by omega) h0

end Go.Proofs.YtfgpknglgbpebafDoor

/-
  The model's value of a float.
-/
namespace Go.Proofs.YtfgpknglgbpebafDoor
open Go.RowKit

set_option maxHeartbeats 4000000 in
theorem float2_bp (b : Int) (w : World) (h0 : 0 ≤ b) (h1 : b < 4294967296) (hE : 0 < b / 8388608 % 256) (hS : ¬ 2147483648 ≤ b) :
    Calls Tryd.prog 28 #[.int .u32 b] w fun e w' => NormOut w 2 (fNum b) (fExp b - 150) 32 e w' := by
  have HX : Hid (b % 8388608 + 8388608 = fNum b) := by
    unfold Hid fNum fMag
    rw [if_neg (by omega)]
    rw [if_neg (by omega)]
  have HY : Hid (b / 8388608 % 256 - 150 = fExp b - 150) := by
    unfold Hid fExp
    rw [if_neg (by omega)]
  have HX1 : Hid (-4294967296 < fNum b ∧ fNum b < 4294967296) := by
    unfold Hid
    rw [← HX.out]
    omega
  have HY1 : Hid (-150 ≤ fExp b - 150 ∧ fExp b - 150 ≤ 200) := by
    unfold Hid
    rw [← HY.out]
    omega
  have HB0 : Hid (∀ t, Has3 w.heap.size (w.alloc (.cells #[.bool false, .slice none 0 0, .int .i64 0] t))) := fun t => Has3.new w t
  go_enter Tryd.func28, Tryd.ntmps28
  go_wp2_with fail
  rw [HX.out]
  refine (small2_any (fNum b) _ HX1.out.1 HX1.out.2).mono ?_
  rintro e w1 ⟨g1, a1, c1, ds, rfl, hl1, hL1, hF1, hb1⟩
  have K1 : Hid (Has3 w.heap.size w1) := (HB0.out _).later hb1
  have B1 : Hid (Below w.heap.size w w1) := (bel0 _ _).trans (hb1.mono (by simp))
  have HL1 : Hid (L1 w1 g1 a1 c1 ds (fNum b)) := hL1
  clear hb1 hF1 hL1
  go_wp2_with fail
  rw [HY.out]
  refine (norm_any g1 a1 c1 ds _ _ _ (by omega) (by have := HY1.out; omega) (by have := HY1.out; omega) HL1.out).mono ?_
  rintro e w2 ⟨m, e', hnf, g2, a2, c2, fs, rfl, hl2, hL2, hF2, hb2⟩
  have K2 : Hid (Has3 w.heap.size w2) := K1.out.later hb2
  have B2 : Hid (Below w.heap.size w w2) := B1.out.trans (hb2.mono B1.out.size)
  have HL2 : Hid (L1 w2 g2 a2 c2 fs m) := hL2
  have HF2 : Hid (Far (w.heap.size + 1) a2 fs) := hF2.down K1.out.lt
  have HN : Hid (NormOf (fNum b) (fExp b - 150) m e' 32) := by
    rcases hnf with h | ⟨h1, t, h2, h3, h4, h5⟩
    · exact .inl h
    · exact .inr ⟨h1, t, h2, h3, h4, by omega⟩
  have r1 := K2.out.r1
  have r2 := K2.out.r2
  have r3 := K2.out.r3
  have r4 := K2.out.r4
  clear hL2 hF2 hb2 hnf HB0
  go_wp2
  refine bodyPost_ret (v := .agg #[.bool g2, .slice a2 fs.length c2, .int .i64 e']) (by simp [results, Tryd.results28, go_sem, r1, r2, r3]) rfl ?_
  refine ⟨m, e', HN.out, g2, a2, c2, fs, rfl, by omega, ?_, HF2.out.down (by omega), ?_⟩
  · exact ((HL2.out.setFar HF2.out (by simp) _).setFar HF2.out (by simp) _).setFar HF2.out (by simp) _
  · exact ((B2.out.setCell (by simp) _).setCell (by simp) _).setCell (by simp) _

set_option maxHeartbeats 4000000 in
theorem float2_bn (b : Int) (w : World) (h0 : 0 ≤ b) (h1 : b < 4294967296) (hE : 0 < b / 8388608 % 256) (hS : 2147483648 ≤ b) :
    Calls Tryd.prog 28 #[.int .u32 b] w fun e w' => NormOut w 2 (fNum b) (fExp b - 150) 32 e w' := by
  have HX : Hid (-(b % 8388608 + 8388608) = fNum b) := by
    unfold Hid fNum fMag
    rw [if_pos hS]
    rw [if_neg (by omega)]
  have HY : Hid (b / 8388608 % 256 - 150 = fExp b - 150) := by
    unfold Hid fExp
    rw [if_neg (by omega)]
  have HX1 : Hid (-4294967296 < fNum b ∧ fNum b < 4294967296) := by
    unfold Hid
    rw [← HX.out]
    omega
  have HY1 : Hid (-150 ≤ fExp b - 150 ∧ fExp b - 150 ≤ 200) := by
    unfold Hid
    rw [← HY.out]
    omega
  have HB0 : Hid (∀ t, Has3 w.heap.size (w.alloc (.cells #[.bool false, .slice none 0 0, .int .i64 0] t))) := fun t => Has3.new w t
  go_enter Tryd.func28, Tryd.ntmps28
  go_wp2_with fail
  rw [HX.out]
  refine (small2_any (fNum b) _ HX1.out.1 HX1.out.2).mono ?_
  rintro e w1 ⟨g1, a1, c1, ds, rfl, hl1, hL1, hF1, hb1⟩
  have K1 : Hid (Has3 w.heap.size w1) := (HB0.out _).later hb1
  have B1 : Hid (Below w.heap.size w w1) := (bel0 _ _).trans (hb1.mono (by simp))
  have HL1 : Hid (L1 w1 g1 a1 c1 ds (fNum b)) := hL1
  clear hb1 hF1 hL1
  go_wp2_with fail
  rw [HY.out]
  refine (norm_any g1 a1 c1 ds _ _ _ (by omega) (by have := HY1.out; omega) (by have := HY1.out; omega) HL1.out).mono ?_
  rintro e w2 ⟨m, e', hnf, g2, a2, c2, fs, rfl, hl2, hL2, hF2, hb2⟩
  have K2 : Hid (Has3 w.heap.size w2) := K1.out.later hb2
  have B2 : Hid (Below w.heap.size w w2) := B1.out.trans (hb2.mono B1.out.size)
  have HL2 : Hid (L1 w2 g2 a2 c2 fs m) := hL2
  have HF2 : Hid (Far (w.heap.size + 1) a2 fs) := hF2.down K1.out.lt
  have HN : Hid (NormOf (fNum b) (fExp b - 150) m e' 32) := by
    rcases hnf with h | ⟨h1, t, h2, h3, h4, h5⟩
    · exact .inl h
    · exact .inr ⟨h1, t, h2, h3, h4, by omega⟩
  have r1 := K2.out.r1
  have r2 := K2.out.r2
  have r3 := K2.out.r3
  have r4 := K2.out.r4
  clear hL2 hF2 hb2 hnf HB0
  go_wp2
  refine bodyPost_ret (v := .agg #[.bool g2, .slice a2 fs.length c2, .int .i64 e']) (by simp [results, Tryd.results28, go_sem, r1, r2, r3]) rfl ?_
  refine ⟨m, e', HN.out, g2, a2, c2, fs, rfl, by omega, ?_, HF2.out.down (by omega), ?_⟩
  · exact ((HL2.out.setFar HF2.out (by simp) _).setFar HF2.out (by simp) _).setFar HF2.out (by simp) _
  · exact ((B2.out.setCell (by simp) _).setCell (by simp) _).setCell (by simp) _

set_option maxHeartbeats 4000000 in
theorem float2_sp (b : Int) (w : World) (h0 : 0 ≤ b) (h1 : b < 4294967296) (hE : ¬ 0 < b / 8388608 % 256) (hS : ¬ 2147483648 ≤ b) :
    Calls Tryd.prog 28 #[.int .u32 b] w fun e w' => NormOut w 2 (fNum b) (fExp b - 150) 32 e w' := by
  have HX : Hid (b % 8388608 = fNum b) := by
    unfold Hid fNum fMag
    rw [if_neg (by omega)]
    rw [if_pos (by omega)]
  have HY : Hid (-149 = fExp b - 150) := by
    unfold Hid fExp
    rw [if_pos (by omega)]
    rfl
  have HX1 : Hid (-4294967296 < fNum b ∧ fNum b < 4294967296) := by
    unfold Hid
    rw [← HX.out]
    omega
  have HY1 : Hid (-150 ≤ fExp b - 150 ∧ fExp b - 150 ≤ 200) := by
    unfold Hid
    rw [← HY.out]
    omega
  have HB0 : Hid (∀ t, Has3 w.heap.size (w.alloc (.cells #[.bool false, .slice none 0 0, .int .i64 0] t))) := fun t => Has3.new w t
  go_enter Tryd.func28, Tryd.ntmps28
  go_wp2_with fail
  rw [HX.out]
  refine (small2_any (fNum b) _ HX1.out.1 HX1.out.2).mono ?_
  rintro e w1 ⟨g1, a1, c1, ds, rfl, hl1, hL1, hF1, hb1⟩
  have K1 : Hid (Has3 w.heap.size w1) := (HB0.out _).later hb1
  have B1 : Hid (Below w.heap.size w w1) := (bel0 _ _).trans (hb1.mono (by simp))
  have HL1 : Hid (L1 w1 g1 a1 c1 ds (fNum b)) := hL1
  clear hb1 hF1 hL1
  go_wp2_with fail
  rw [HY.out]
  refine (norm_any g1 a1 c1 ds _ _ _ (by omega) (by have := HY1.out; omega) (by have := HY1.out; omega) HL1.out).mono ?_
  rintro e w2 ⟨m, e', hnf, g2, a2, c2, fs, rfl, hl2, hL2, hF2, hb2⟩
  have K2 : Hid (Has3 w.heap.size w2) := K1.out.later hb2
  have B2 : Hid (Below w.heap.size w w2) := B1.out.trans (hb2.mono B1.out.size)
  have HL2 : Hid (L1 w2 g2 a2 c2 fs m) := hL2
  have HF2 : Hid (Far (w.heap.size + 1) a2 fs) := hF2.down K1.out.lt
  have HN : Hid (NormOf (fNum b) (fExp b - 150) m e' 32) := by
    rcases hnf with h | ⟨h1, t, h2, h3, h4, h5⟩
    · exact .inl h
    · exact .inr ⟨h1, t, h2, h3, h4, by omega⟩
  have r1 := K2.out.r1
  have r2 := K2.out.r2
  have r3 := K2.out.r3
  have r4 := K2.out.r4
  clear hL2 hF2 hb2 hnf HB0
  go_wp2
  refine bodyPost_ret (v := .agg #[.bool g2, .slice a2 fs.length c2, .int .i64 e']) (by simp [results, Tryd.results28, go_sem, r1, r2, r3]) rfl ?_
  refine ⟨m, e', HN.out, g2, a2, c2, fs, rfl, by omega, ?_, HF2.out.down (by omega), ?_⟩
  · exact ((HL2.out.setFar HF2.out (by simp) _).setFar HF2.out (by simp) _).setFar HF2.out (by simp) _
  · exact ((B2.out.setCell (by simp) _).setCell (by simp) _).setCell (by simp) _

set_option maxHeartbeats 4000000 in
theorem float2_sn (b : Int) (w : World) (h0 : 0 ≤ b) (h1 : b < 4294967296) (hE : ¬ 0 < b / 8388608 % 256) (hS : 2147483648 ≤ b) :
    Calls Tryd.prog 28 #[.int .u32 b] w fun e w' => NormOut w 2 (fNum b) (fExp b - 150) 32 e w' := by
  have HX : Hid (-(b % 8388608) = fNum b) := by
    unfold Hid fNum fMag
    rw [if_pos hS]
    rw [if_pos (by omega)]
  have HY : Hid (-149 = fExp b - 150) := by
    unfold Hid fExp
    rw [if_pos (by omega)]
    rfl
  have HX1 : Hid (-4294967296 < fNum b ∧ fNum b < 4294967296) := by
    unfold Hid
    rw [← HX.out]
    omega
  have HY1 : Hid (-150 ≤ fExp b - 150 ∧ fExp b - 150 ≤ 200) := by
    unfold Hid
    rw [← HY.out]
    omega
  have HB0 : Hid (∀ t, Has3 w.heap.size (w.alloc (.cells #[.bool false, .slice none 0 0, .int .i64 0] t))) := fun t => Has3.new w t
  go_enter Tryd.func28, Tryd.ntmps28
  go_wp2_with fail
  rw [HX.out]
  refine (small2_any (fNum b) _ HX1.out.1 HX1.out.2).mono ?_
  rintro e w1 ⟨g1, a1, c1, ds, rfl, hl1, hL1, hF1, hb1⟩
  have K1 : Hid (Has3 w.heap.size w1) := (HB0.out _).later hb1
  have B1 : Hid (Below w.heap.size w w1) := (bel0 _ _).trans (hb1.mono (by simp))
  have HL1 : Hid (L1 w1 g1 a1 c1 ds (fNum b)) := hL1
  clear hb1 hF1 hL1
  go_wp2_with fail
  rw [HY.out]
  refine (norm_any g1 a1 c1 ds _ _ _ (by omega) (by have := HY1.out; omega) (by have := HY1.out; omega) HL1.out).mono ?_
  rintro e w2 ⟨m, e', hnf, g2, a2, c2, fs, rfl, hl2, hL2, hF2, hb2⟩
  have K2 : Hid (Has3 w.heap.size w2) := K1.out.later hb2
  have B2 : Hid (Below w.heap.size w w2) := B1.out.trans (hb2.mono B1.out.size)
  have HL2 : Hid (L1 w2 g2 a2 c2 fs m) := hL2
  have HF2 : Hid (Far (w.heap.size + 1) a2 fs) := hF2.down K1.out.lt
  have HN : Hid (NormOf (fNum b) (fExp b - 150) m e' 32) := by
    rcases hnf with h | ⟨h1, t, h2, h3, h4, h5⟩
    · exact .inl h
    · exact .inr ⟨h1, t, h2, h3, h4, by omega⟩
  have r1 := K2.out.r1
  have r2 := K2.out.r2
  have r3 := K2.out.r3
  have r4 := K2.out.r4
  clear hL2 hF2 hb2 hnf HB0
  go_wp2
  refine bodyPost_ret (v := .agg #[.bool g2, .slice a2 fs.length c2, .int .i64 e']) (by simp [results, Tryd.results28, go_sem, r1, r2, r3]) rfl ?_
  refine ⟨m, e', HN.out, g2, a2, c2, fs, rfl, by omega, ?_, HF2.out.down (by omega), ?_⟩
  · exact ((HL2.out.setFar HF2.out (by simp) _).setFar HF2.out (by simp) _).setFar HF2.out (by simp) _
  · exact ((B2.out.setCell (by simp) _).setCell (by simp) _).setCell (by simp) _

theorem float2_any (b : Int) (w : World) (h0 : 0 ≤ b) (h1 : b < 4294967296) :
    Calls Tryd.prog 28 #[.int .u32 b] w fun e w' => NormOut w 2 (fNum b) (fExp b - 150) 32 e w' := by
  by_cases hE : 0 < b / 8388608 % 256
  · by_cases hS : 2147483648 ≤ b
    · exact float2_bn b w h0 h1 hE hS
    · exact float2_bp b w h0 h1 hE hS
  · by_cases hS : 2147483648 ≤ b
    · exact float2_sn b w h0 h1 hE hS
    · exact float2_sp b w h0 h1 hE hS

end Go.Proofs.YtfgpknglgbpebafDoor

/-
  The model's answers of dyadic numbers.
-/
namespace Go.Proofs.YtfgpknglgbpebafDoor
open Go.RowKit

/-- What a function of the model answers that gives a Dyadic and a code. -/
def OutDS (w : World) (ok : Bool) (v : Int) (e : Ending) (w' : World) : Prop :=
  ∃ (G : Bool) (Z : List Int) (E K : Int) (a : Option Addr) (c : Nat), e = .returned (.tuple #[.agg #[.bool G, .slice a Z.length c, .int .i64 E], .int .i64 K]) ∧ ResD ok v G Z E K ∧ RowAt .u32 w' a Z ∧ Far w.heap.size a Z ∧ Below w.heap.size w w'

/-- Another number is laid into the argument's box. -/
theorem Bx3.put {w : World} {u v e u' v' e' : Value} {W : World} (h : Bx3 w u v e W) : Bx3 w u' v' e' (((W.setCell ⟨w.heap.size, 0, none⟩ u').setCell ⟨w.heap.size, 1, none⟩ v').setCell ⟨w.heap.size, 2, none⟩ e') := by
  have o := h.le
  refine ⟨?_, ?_, ?_, ?_, ?_, ?_, ?_, by simpa using o, ((h.bel.setCell (by simp) _).setCell (by simp) _).setCell (by simp) _⟩
  · rw [World.cell?_setCell_other _ _ _ _ (by simp), World.cell?_setCell_other _ _ _ _ (by simp)]
    exact World.cell?_setCell_same _ _ _ h.q0
  · rw [World.cell?_setCell_other _ _ _ _ (by simp)]
    refine World.cell?_setCell_same _ _ _ (u := v) ?_
    rw [World.cell?_setCell_other _ _ _ _ (by simp)]
    exact h.q1
  · refine World.cell?_setCell_same _ _ _ (u := e) ?_
    rw [World.cell?_setCell_other _ _ _ _ (by simp), World.cell?_setCell_other _ _ _ _ (by simp)]
    exact h.q2
  · rw [World.cell?_setCell_other _ _ _ _ (by simp), World.cell?_setCell_other _ _ _ _ (by simp), World.cell?_setCell_other _ _ _ _ (by simp)]
    exact h.r1
  · rw [World.cell?_setCell_other _ _ _ _ (by simp), World.cell?_setCell_other _ _ _ _ (by simp), World.cell?_setCell_other _ _ _ _ (by simp)]
    exact h.r2
  · rw [World.cell?_setCell_other _ _ _ _ (by simp), World.cell?_setCell_other _ _ _ _ (by simp), World.cell?_setCell_other _ _ _ _ (by simp)]
    exact h.r3
  · intro j
    rw [World.frozen?_setCell, World.frozen?_setCell, World.frozen?_setCell]
    exact h.r4 j

set_option maxRecDepth 100000 in
set_option maxHeartbeats 4000000 in
theorem out2_any (g : Bool) (a : Option Addr) (c : Nat) (ds : List Int) (x E : Int) (w : World) (hn : ds.length ≤ 60000) (he0 : -100000 ≤ E) (he1 : E ≤ 1000000) (h : L1 w g a c ds x) :
    Calls Tryd.prog 27 #[.agg #[.bool g, .slice a ds.length c, .int .i64 E]] w fun e w' => OutDS w true (atK 100000 x E) e w' := by
  have B0 : Hid (∀ t t', Bx3 w (.bool g) (.slice a ds.length c) (.int .i64 E) ((w.alloc (.cells #[.bool g, .slice a ds.length c, .int .i64 E] t)).alloc (.cells #[.bool false, .slice none 0 0, .int .i64 0] t'))) := fun t t' => Bx3.start w _ _ _ _ _
  obtain ⟨v, hv⟩ : ∃ v, v = atK 100000 x E := ⟨_, rfl⟩
  have HV : Hid (v = atK 100000 x E) := hv
  rw [← hv]
  clear hv
  go_enter Tryd.func27, Tryd.ntmps27
  go_wp2_with fail
  refine (norm_any g a c ds x E _ hn (by omega) he1 (h.later (bel2 _ _ _))).mono ?_
  rintro e w1 ⟨m, e', hnf, g1, a1, c1, fs, rfl, hl1, hL1, hF1, hb1⟩
  have HN : Hid (Norm v m e') := by unfold Hid; rw [HV.out]; exact Norm.of_normOf hnf he0
  have F1 : Hid (Bx3 w (.bool g) (.slice a ds.length c) (.int .i64 E) w1) := (B0.out _ _).later hb1
  have fz : ∀ j, w1.frozen? ⟨w.heap.size, j, none⟩ = false := by intro j; rw [hb1.frozen (by simp; omega)]; simp [go_sem]
  have hF1' : Far (w.heap.size + 1 + 1) a1 fs := hF1.down (by simp)
  have F2 : Hid (Bx3 w (.bool g1) (.slice a1 fs.length c1) (.int .i64 e') (((w1.setCell ⟨w.heap.size, 0, none⟩ (.bool g1)).setCell ⟨w.heap.size, 1, none⟩ (.slice a1 fs.length c1)).setCell ⟨w.heap.size, 2, none⟩ (.int .i64 e'))) := F1.out.put
  have HL2 : Hid (L1 (((w1.setCell ⟨w.heap.size, 0, none⟩ (.bool g1)).setCell ⟨w.heap.size, 1, none⟩ (.slice a1 fs.length c1)).setCell ⟨w.heap.size, 2, none⟩ (.int .i64 e')) g1 a1 c1 fs m) := ((hL1.setFar hF1' (by simp; omega) _).setFar hF1' (by simp; omega) _).setFar hF1' (by simp; omega) _
  have hbe : -100000 ≤ e' ∧ e' ≤ 2000000 := by have := hnf.bound; omega
  obtain ⟨hbe0, hbe1⟩ := hbe
  have q0 := F1.out.q0
  have q1 := F1.out.q1
  have q2 := F1.out.q2
  clear hnf hL1 hF1 hF1' hb1 B0
  go_wp2_with fail
  refine (big_any g1 a1 c1 fs _ (by omega) HL2.out.sl.row HL2.out.can.1).mono ?_
  rintro e w3 ⟨a5, c5, rfl, hr5, hf5, hb5⟩
  have F3 : Hid (Bx3 w (.bool g1) (.slice a1 fs.length c1) (.int .i64 e') w3) := F2.out.later hb5
  have HBL : Hid (B1 g1 (joinL fs) m) := B1.of_l1 HL2.out
  have hs2 := F2.out.le
  have r1 := F3.out.r1
  have r2 := F3.out.r2
  have r3 := F3.out.r3
  have r4 := F3.out.r4
  have p2 := F3.out.q2
  have hs4 : w.heap.size + 1 < w3.heap.size := F3.out.le
  have hs5 : w.heap.size < w3.heap.size := by omega
  clear q0 q1 q2 fz hb5
  by_cases h5 : (joinL fs).length ≤ 512
  · have hbo : bigOut g1 fs = (g1, joinL fs, 0) := by unfold bigOut; rw [if_pos h5]
    rw [hbo] at hr5 hf5 ⊢
    have HR5 : Hid (RowAt .u32 w3 a5 (joinL fs)) := hr5
    have HF5 : Hid (Far (w.heap.size + 1 + 1) a5 (joinL fs)) := Far.down hf5 hs2
    clear hbo hr5 hf5
    by_cases hr : e' < -20000 ∨ 20000 < e'
    · have HO : Hid (ResD true v false [] 0 2) := .inr ⟨rfl, _, _, HN.out, .inr ⟨by omega, rfl, rfl, rfl, rfl⟩⟩
      by_cases hr1 : e' < -20000
      · go_wp2
        refine bodyPost_ret (v := .tuple #[.agg #[.bool false, .slice none 0 0, .int .i64 0], .int .i64 2]) (by simp [results, Tryd.results27, go_sem, r1, r2, r3, hs4]) rfl ?_
        have hb0 := F3.out.bel
        have hbl := ((F3.out.bel.setCell (p := ⟨w.heap.size + 1, 0, none⟩) (by simp) (.bool false)).setCell (p := ⟨w.heap.size + 1, 1, none⟩) (by simp) (.slice none 0 0)).setCell (p := ⟨w.heap.size + 1, 2, none⟩) (by simp) (.int .i64 0)
        refine ⟨false, [], 0, 2, none, 0, rfl, HO.out, .inl rfl, .inl rfl, ?_⟩
        first
          | exact hbl.alloc hbl.size _
          | exact hb0.alloc hb0.size _
          | exact hbl
          | exact hb0
      · have hr2 : 20000 < e' := by omega
        go_wp2
        refine bodyPost_ret (v := .tuple #[.agg #[.bool false, .slice none 0 0, .int .i64 0], .int .i64 2]) (by simp [results, Tryd.results27, go_sem, r1, r2, r3, hs4]) rfl ?_
        have hb0 := F3.out.bel
        have hbl := ((F3.out.bel.setCell (p := ⟨w.heap.size + 1, 0, none⟩) (by simp) (.bool false)).setCell (p := ⟨w.heap.size + 1, 1, none⟩) (by simp) (.slice none 0 0)).setCell (p := ⟨w.heap.size + 1, 2, none⟩) (by simp) (.int .i64 0)
        refine ⟨false, [], 0, 2, none, 0, rfl, HO.out, .inl rfl, .inl rfl, ?_⟩
        first
          | exact hbl.alloc hbl.size _
          | exact hb0.alloc hb0.size _
          | exact hbl
          | exact hb0
    · have HO : Hid (ResD true v g1 (joinL fs) e' 0) := .inr ⟨rfl, _, _, HN.out, .inl ⟨⟨HBL.out.fits h5, by omega, by omega⟩, HBL.out, rfl, rfl⟩⟩
      have hr1 : ¬ e' < -20000 := by omega
      have hr2 : ¬ 20000 < e' := by omega
      generalize joinL fs = Z at *
      go_wp2
      refine bodyPost_ret (v := .tuple #[.agg #[.bool g1, .slice a5 Z.length c5, .int .i64 e'], .int .i64 0]) (by simp [results, Tryd.results27, go_sem, r1, r2, r3, hs4]) rfl ?_
      have hbl := ((F3.out.bel.setCell (p := ⟨w.heap.size + 1, 0, none⟩) (by simp) (.bool g1)).setCell (p := ⟨w.heap.size + 1, 1, none⟩) (by simp) (.slice a5 Z.length c5)).setCell (p := ⟨w.heap.size + 1, 2, none⟩) (by simp) (.int .i64 e')
      refine ⟨g1, Z, e', 0, a5, c5, rfl, HO.out, ?_, HF5.out.down (by omega), hbl.alloc hbl.size _⟩
      exact (((HR5.out.setAway (HF5.out.away (by simp)) _).setAway (HF5.out.away (by simp)) _).setAway (HF5.out.away (by simp)) _).later (bel0 _ _)
  · have hbo : bigOut g1 fs = (false, [], 2) := by unfold bigOut; rw [if_neg h5]
    have HO : Hid (ResD true v false [] 0 2) := .inr ⟨rfl, _, _, HN.out, .inr ⟨fun h => h5 (HBL.out.len h.1), rfl, rfl, rfl, rfl⟩⟩
    rw [hbo] at hr5 hf5 ⊢
    clear hbo hr5 hf5
    go_wp2
    refine bodyPost_ret (v := .tuple #[.agg #[.bool false, .slice none 0 0, .int .i64 0], .int .i64 2]) (by simp [results, Tryd.results27, go_sem, r1, r2, r3, hs4]) rfl ?_
    have hb0 := F3.out.bel
    have hbl := ((F3.out.bel.setCell (p := ⟨w.heap.size + 1, 0, none⟩) (by simp) (.bool false)).setCell (p := ⟨w.heap.size + 1, 1, none⟩) (by simp) (.slice none 0 0)).setCell (p := ⟨w.heap.size + 1, 2, none⟩) (by simp) (.int .i64 0)
    refine ⟨false, [], 0, 2, none, 0, rfl, HO.out, .inl rfl, .inl rfl, ?_⟩
    first
      | exact hbl.alloc hbl.size _
      | exact hb0.alloc hb0.size _
      | exact hbl
      | exact hb0

end Go.Proofs.YtfgpknglgbpebafDoor

/-
  The model's DyOf.
-/
namespace Go.Proofs.YtfgpknglgbpebafDoor
open Go.RowKit

theorem finD_any (b : Int) (w : World) (_h0 : 0 ≤ b) (_h1 : b < 4294967296) :
    Calls Tryd.prog 26 #[.int .u32 b] w fun e w' => e = .returned (.bool (fFin b)) ∧ Below w.heap.size w w' := by
  go_enter Tryd.func26, Tryd.ntmps26
  go_wp2
  go_ret
  exact ⟨by unfold fFin; rfl, Below.refl _ _⟩

set_option maxHeartbeats 2000000 in
theorem dyOfS_any (b : Int) (w : World) (h0 : 0 ≤ b) (h1 : b < 4294967296) :
    Calls Tryd.prog 6 #[.int .u32 b] w fun e w' => OutDS w (fFin b) (atK 100000 (fNum b) (fExp b - 150)) e w' := by
  have hex := fExp_pos h0
  have K0 : Hid (∀ t, Has3 w.heap.size (w.alloc (.cells #[.bool false, .slice none 0 0, .int .i64 0] t))) := fun t => Has3.new w t
  obtain ⟨v, hv⟩ : ∃ v, v = atK 100000 (fNum b) (fExp b - 150) := ⟨_, rfl⟩
  have HV : Hid (v = atK 100000 (fNum b) (fExp b - 150)) := hv
  rw [← hv]
  clear hv
  cases hf : fFin b
  · go_enter Tryd.func6, Tryd.ntmps6
    go_wp2_with fail
    refine (finD_any b _ h0 h1).mono ?_
    rintro e w1 ⟨rfl, hb1⟩
    rw [hf]
    have K1 : Hid (Has3 w.heap.size w1) := (K0.out _).later hb1
    have HB : Hid (Below w.heap.size w w1) := (bel0 _ _).trans (hb1.mono (by simp))
    have r1 := K1.out.r1
    have r2 := K1.out.r2
    have r3 := K1.out.r3
    have r4 := K1.out.r4
    clear hb1 K0
    go_wp2
    refine bodyPost_ret (v := .tuple #[.agg #[.bool false, .slice none 0 0, .int .i64 0], .int .i64 1]) (by simp [results, Tryd.results6, go_sem, r1, r2, r3]) rfl ?_
    refine ⟨false, [], 0, 1, none, 0, rfl, .inl ⟨rfl, rfl, rfl, rfl, rfl⟩, .inl rfl, .inl rfl, ?_⟩
    exact ((HB.out.setCell (by simp) _).setCell (by simp) _).setCell (by simp) _
  · go_enter Tryd.func6, Tryd.ntmps6
    go_wp2_with fail
    refine (finD_any b _ h0 h1).mono ?_
    rintro e w1 ⟨rfl, hb1⟩
    rw [hf]
    have K1 : Hid (Has3 w.heap.size w1) := (K0.out _).later hb1
    have HB1 : Hid (Below w.heap.size w w1) := (bel0 _ _).trans (hb1.mono (by simp))
    clear hb1 K0
    go_wp2_with fail
    refine (float2_any b _ h0 h1).mono ?_
    rintro e w2 ⟨m, e', hnf, g2, a2, c2, fs, rfl, hl2, hL2, hF2, hb2⟩
    have K2 : Hid (Has3 w.heap.size w2) := K1.out.later hb2
    have HB2 : Hid (Below w.heap.size w w2) := HB1.out.trans (hb2.mono HB1.out.size)
    have hbd : -100000 ≤ e' ∧ e' ≤ 1000000 := by have := hnf.bound; omega
    have HVV : Hid (atK 100000 m e' = v) := by unfold Hid; rw [HV.out]; exact hnf.at (by omega)
    have HL : Hid (L1 w2 g2 a2 c2 fs m) := hL2
    clear hb2 hnf hL2 hF2
    go_wp2_with fail
    refine (out2_any g2 a2 c2 fs m e' _ (by omega) hbd.1 hbd.2 HL.out).mono ?_
    rintro e w3 ⟨G, Z, E, K, a3, c3, rfl, hres, hr3, hf3, hb3⟩
    rw [HVV.out] at hres
    have K3 : Hid (Has3 w.heap.size w3) := K2.out.later hb3
    have HB3 : Hid (Below w.heap.size w w3) := HB2.out.trans (hb3.mono HB2.out.size)
    have HR : Hid (ResD true v G Z E K) := hres
    have HA : Hid (RowAt .u32 w3 a3 Z) := hr3
    have HF : Hid (Far (w.heap.size + 1) a3 Z) := Far.down hf3 K2.out.lt
    have r1 := K3.out.r1
    have r2 := K3.out.r2
    have r3 := K3.out.r3
    have r4 := K3.out.r4
    clear hb3 hres hr3 hf3
    go_wp2
    refine bodyPost_ret (v := .tuple #[.agg #[.bool G, .slice a3 Z.length c3, .int .i64 E], .int .i64 K]) (by simp [results, Tryd.results6, go_sem, r1, r2, r3]) rfl ?_
    refine ⟨G, Z, E, K, a3, c3, rfl, HR.out, ?_, HF.out.down (by omega), ?_⟩
    · exact ((HA.out.setAway (HF.out.away (by simp)) _).setAway (HF.out.away (by simp)) _).setAway (HF.out.away (by simp)) _
    · exact ((HB3.out.setCell (by simp) _).setCell (by simp) _).setCell (by simp) _

end Go.Proofs.YtfgpknglgbpebafDoor

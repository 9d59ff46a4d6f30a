/-
  The model's value of a float.
-/
import Derived.Test.YtfgpknglgbpebaeDoorDraw4DrawGNumFDy6SpecS2
import Derived.Test.YtfgpknglgbpebaeDoorRes
import Derived.Test.YtfgpknglgbpebaeDoorNumS
import Derived.Test.YtfgpknglgbpebaeDoorNumD
namespace Go.Proofs.YtfgpknglgbpebaeDoor
open Go.RowKit

set_option maxHeartbeats 4000000 in
theorem float2_bp (b : Int) (w : World) (h0 : 0 ≤ b) (h1 : b < 4294967296) (hE : 0 < b / 8388608 % 256) (hS : ¬ 2147483648 ≤ b) :
    Calls Tryd.prog 22 #[.int .u32 b] w fun e w' => NormOut w 2 (fNum b) (fExp b - 150) 32 e w' := by
  have HX : Hid (b % 8388608 + 8388608 = fNum b) := by
    unfold Hid fNum fMag
    rw [if_neg (by omega)]
    rw [if_neg (by omega)]
  have HY : Hid (b / 8388608 % 256 - 150 = fExp b - 150) := by
    unfold Hid fExp
    rw [if_neg (by omega)]
  have HX1 : Hid (-4294967296 < fNum b ∧ fNum b < 4294967296) := by
    unfold Hid
    rw [← HX.out]
    omega
  have HY1 : Hid (-150 ≤ fExp b - 150 ∧ fExp b - 150 ≤ 200) := by
    unfold Hid
    rw [← HY.out]
    omega
  have HB0 : Hid (∀ t, Has3 w.heap.size (w.alloc (.cells #[.bool false, .slice none 0 0, .int .i64 0] t))) := fun t => Has3.new w t
  go_enter Tryd.func22, Tryd.ntmps22
  go_wp2_with fail
  rw [HX.out]
  refine (small2_any (fNum b) _ HX1.out.1 HX1.out.2).mono ?_
  rintro e w1 ⟨g1, a1, c1, ds, rfl, hl1, hL1, hF1, hb1⟩
  have K1 : Hid (Has3 w.heap.size w1) := (HB0.out _).later hb1
  have B1 : Hid (Below w.heap.size w w1) := (bel0 _ _).trans (hb1.mono (by simp))
  have HL1 : Hid (L1 w1 g1 a1 c1 ds (fNum b)) := hL1
  clear hb1 hF1 hL1
  go_wp2_with fail
  rw [HY.out]
  refine (norm_any g1 a1 c1 ds _ _ _ (by omega) (by have := HY1.out; omega) (by have := HY1.out; omega) HL1.out).mono ?_
  rintro e w2 ⟨m, e', hnf, g2, a2, c2, fs, rfl, hl2, hL2, hF2, hb2⟩
  have K2 : Hid (Has3 w.heap.size w2) := K1.out.later hb2
  have B2 : Hid (Below w.heap.size w w2) := B1.out.trans (hb2.mono B1.out.size)
  have HL2 : Hid (L1 w2 g2 a2 c2 fs m) := hL2
  have HF2 : Hid (Far (w.heap.size + 1) a2 fs) := hF2.down K1.out.lt
  have HN : Hid (NormOf (fNum b) (fExp b - 150) m e' 32) := by
    rcases hnf with h | ⟨h1, t, h2, h3, h4, h5⟩
    · exact .inl h
    · exact .inr ⟨h1, t, h2, h3, h4, by omega⟩
  have r1 := K2.out.r1
  have r2 := K2.out.r2
  have r3 := K2.out.r3
  have r4 := K2.out.r4
  clear hL2 hF2 hb2 hnf HB0
  go_wp2
  refine bodyPost_ret (v := .agg #[.bool g2, .slice a2 fs.length c2, .int .i64 e']) (by simp [results, Tryd.results22, go_sem, r1, r2, r3]) rfl ?_
  refine ⟨m, e', HN.out, g2, a2, c2, fs, rfl, by omega, ?_, HF2.out.down (by omega), ?_⟩
  · exact ((HL2.out.setFar HF2.out (by simp) _).setFar HF2.out (by simp) _).setFar HF2.out (by simp) _
  · exact ((B2.out.setCell (by simp) _).setCell (by simp) _).setCell (by simp) _

set_option maxHeartbeats 4000000 in
theorem float2_bn (b : Int) (w : World) (h0 : 0 ≤ b) (h1 : b < 4294967296) (hE : 0 < b / 8388608 % 256) (hS : 2147483648 ≤ b) :
    Calls Tryd.prog 22 #[.int .u32 b] w fun e w' => NormOut w 2 (fNum b) (fExp b - 150) 32 e w' := by
  have HX : Hid (-(b % 8388608 + 8388608) = fNum b) := by
    unfold Hid fNum fMag
    rw [if_pos hS]
    rw [if_neg (by omega)]
  have HY : Hid (b / 8388608 % 256 - 150 = fExp b - 150) := by
    unfold Hid fExp
    rw [if_neg (by omega)]
  have HX1 : Hid (-4294967296 < fNum b ∧ fNum b < 4294967296) := by
    unfold Hid
    rw [← HX.out]
    omega
  have HY1 : Hid (-150 ≤ fExp b - 150 ∧ fExp b - 150 ≤ 200) := by
    unfold Hid
    rw [← HY.out]
    omega
  have HB0 : Hid (∀ t, Has3 w.heap.size (w.alloc (.cells #[.bool false, .slice none 0 0, .int .i64 0] t))) := fun t => Has3.new w t
  go_enter Tryd.func22, Tryd.ntmps22
  go_wp2_with fail
  rw [HX.out]
  refine (small2_any (fNum b) _ HX1.out.1 HX1.out.2).mono ?_
  rintro e w1 ⟨g1, a1, c1, ds, rfl, hl1, hL1, hF1, hb1⟩
  have K1 : Hid (Has3 w.heap.size w1) := (HB0.out _).later hb1
  have B1 : Hid (Below w.heap.size w w1) := (bel0 _ _).trans (hb1.mono (by simp))
  have HL1 : Hid (L1 w1 g1 a1 c1 ds (fNum b)) := hL1
  clear hb1 hF1 hL1
  go_wp2_with fail
  rw [HY.out]
  refine (norm_any g1 a1 c1 ds _ _ _ (by omega) (by have := HY1.out; omega) (by have := HY1.out; omega) HL1.out).mono ?_
  rintro e w2 ⟨m, e', hnf, g2, a2, c2, fs, rfl, hl2, hL2, hF2, hb2⟩
  have K2 : Hid (Has3 w.heap.size w2) := K1.out.later hb2
  have B2 : Hid (Below w.heap.size w w2) := B1.out.trans (hb2.mono B1.out.size)
  have HL2 : Hid (L1 w2 g2 a2 c2 fs m) := hL2
  have HF2 : Hid (Far (w.heap.size + 1) a2 fs) := hF2.down K1.out.lt
  have HN : Hid (NormOf (fNum b) (fExp b - 150) m e' 32) := by
    rcases hnf with h | ⟨h1, t, h2, h3, h4, h5⟩
    · exact .inl h
    · exact .inr ⟨h1, t, h2, h3, h4, by omega⟩
  have r1 := K2.out.r1
  have r2 := K2.out.r2
  have r3 := K2.out.r3
  have r4 := K2.out.r4
  clear hL2 hF2 hb2 hnf HB0
  go_wp2
  refine bodyPost_ret (v := .agg #[.bool g2, .slice a2 fs.length c2, .int .i64 e']) (by simp [results, Tryd.results22, go_sem, r1, r2, r3]) rfl ?_
  refine ⟨m, e', HN.out, g2, a2, c2, fs, rfl, by omega, ?_, HF2.out.down (by omega), ?_⟩
  · exact ((HL2.out.setFar HF2.out (by simp) _).setFar HF2.out (by simp) _).setFar HF2.out (by simp) _
  · exact ((B2.out.setCell (by simp) _).setCell (by simp) _).setCell (by simp) _

set_option maxHeartbeats 4000000 in
theorem float2_sp (b : Int) (w : World) (h0 : 0 ≤ b) (h1 : b < 4294967296) (hE : ¬ 0 < b / 8388608 % 256) (hS : ¬ 2147483648 ≤ b) :
    Calls Tryd.prog 22 #[.int .u32 b] w fun e w' => NormOut w 2 (fNum b) (fExp b - 150) 32 e w' := by
  have HX : Hid (b % 8388608 = fNum b) := by
    unfold Hid fNum fMag
    rw [if_neg (by omega)]
    rw [if_pos (by omega)]
  have HY : Hid (-149 = fExp b - 150) := by
    unfold Hid fExp
    rw [if_pos (by omega)]
    rfl
  have HX1 : Hid (-4294967296 < fNum b ∧ fNum b < 4294967296) := by
    unfold Hid
    rw [← HX.out]
    omega
  have HY1 : Hid (-150 ≤ fExp b - 150 ∧ fExp b - 150 ≤ 200) := by
    unfold Hid
    rw [← HY.out]
    omega
  have HB0 : Hid (∀ t, Has3 w.heap.size (w.alloc (.cells #[.bool false, .slice none 0 0, .int .i64 0] t))) := fun t => Has3.new w t
  go_enter Tryd.func22, Tryd.ntmps22
  go_wp2_with fail
  rw [HX.out]
  refine (small2_any (fNum b) _ HX1.out.1 HX1.out.2).mono ?_
  rintro e w1 ⟨g1, a1, c1, ds, rfl, hl1, hL1, hF1, hb1⟩
  have K1 : Hid (Has3 w.heap.size w1) := (HB0.out _).later hb1
  have B1 : Hid (Below w.heap.size w w1) := (bel0 _ _).trans (hb1.mono (by simp))
  have HL1 : Hid (L1 w1 g1 a1 c1 ds (fNum b)) := hL1
  clear hb1 hF1 hL1
  go_wp2_with fail
  rw [HY.out]
  refine (norm_any g1 a1 c1 ds _ _ _ (by omega) (by have := HY1.out; omega) (by have := HY1.out; omega) HL1.out).mono ?_
  rintro e w2 ⟨m, e', hnf, g2, a2, c2, fs, rfl, hl2, hL2, hF2, hb2⟩
  have K2 : Hid (Has3 w.heap.size w2) := K1.out.later hb2
  have B2 : Hid (Below w.heap.size w w2) := B1.out.trans (hb2.mono B1.out.size)
  have HL2 : Hid (L1 w2 g2 a2 c2 fs m) := hL2
  have HF2 : Hid (Far (w.heap.size + 1) a2 fs) := hF2.down K1.out.lt
  have HN : Hid (NormOf (fNum b) (fExp b - 150) m e' 32) := by
    rcases hnf with h | ⟨h1, t, h2, h3, h4, h5⟩
    · exact .inl h
    · exact .inr ⟨h1, t, h2, h3, h4, by omega⟩
  have r1 := K2.out.r1
  have r2 := K2.out.r2
  have r3 := K2.out.r3
  have r4 := K2.out.r4
  clear hL2 hF2 hb2 hnf HB0
  go_wp2
  refine bodyPost_ret (v := .agg #[.bool g2, .slice a2 fs.length c2, .int .i64 e']) (by simp [results, Tryd.results22, go_sem, r1, r2, r3]) rfl ?_
  refine ⟨m, e', HN.out, g2, a2, c2, fs, rfl, by omega, ?_, HF2.out.down (by omega), ?_⟩
  · exact ((HL2.out.setFar HF2.out (by simp) _).setFar HF2.out (by simp) _).setFar HF2.out (by simp) _
  · exact ((B2.out.setCell (by simp) _).setCell (by simp) _).setCell (by simp) _

set_option maxHeartbeats 4000000 in
theorem float2_sn (b : Int) (w : World) (h0 : 0 ≤ b) (h1 : b < 4294967296) (hE : ¬ 0 < b / 8388608 % 256) (hS : 2147483648 ≤ b) :
    Calls Tryd.prog 22 #[.int .u32 b] w fun e w' => NormOut w 2 (fNum b) (fExp b - 150) 32 e w' := by
  have HX : Hid (-(b % 8388608) = fNum b) := by
    unfold Hid fNum fMag
    rw [if_pos hS]
    rw [if_pos (by omega)]
  have HY : Hid (-149 = fExp b - 150) := by
    unfold Hid fExp
    rw [if_pos (by omega)]
    rfl
  have HX1 : Hid (-4294967296 < fNum b ∧ fNum b < 4294967296) := by
    unfold Hid
    rw [← HX.out]
    omega
  have HY1 : Hid (-150 ≤ fExp b - 150 ∧ fExp b - 150 ≤ 200) := by
    unfold Hid
    rw [← HY.out]
    omega
  have HB0 : Hid (∀ t, Has3 w.heap.size (w.alloc (.cells #[.bool false, .slice none 0 0, .int .i64 0] t))) := fun t => Has3.new w t
  go_enter Tryd.func22, Tryd.ntmps22
  go_wp2_with fail
  rw [HX.out]
  refine (small2_any (fNum b) _ HX1.out.1 HX1.out.2).mono ?_
  rintro e w1 ⟨g1, a1, c1, ds, rfl, hl1, hL1, hF1, hb1⟩
  have K1 : Hid (Has3 w.heap.size w1) := (HB0.out _).later hb1
  have B1 : Hid (Below w.heap.size w w1) := (bel0 _ _).trans (hb1.mono (by simp))
  have HL1 : Hid (L1 w1 g1 a1 c1 ds (fNum b)) := hL1
  clear hb1 hF1 hL1
  go_wp2_with fail
  rw [HY.out]
  refine (norm_any g1 a1 c1 ds _ _ _ (by omega) (by have := HY1.out; omega) (by have := HY1.out; omega) HL1.out).mono ?_
  rintro e w2 ⟨m, e', hnf, g2, a2, c2, fs, rfl, hl2, hL2, hF2, hb2⟩
  have K2 : Hid (Has3 w.heap.size w2) := K1.out.later hb2
  have B2 : Hid (Below w.heap.size w w2) := B1.out.trans (hb2.mono B1.out.size)
  have HL2 : Hid (L1 w2 g2 a2 c2 fs m) := hL2
  have HF2 : Hid (Far (w.heap.size + 1) a2 fs) := hF2.down K1.out.lt
  have HN : Hid (NormOf (fNum b) (fExp b - 150) m e' 32) := by
    rcases hnf with h | ⟨h1, t, h2, h3, h4, h5⟩
    · exact .inl h
    · exact .inr ⟨h1, t, h2, h3, h4, by omega⟩
  have r1 := K2.out.r1
  have r2 := K2.out.r2
  have r3 := K2.out.r3
  have r4 := K2.out.r4
  clear hL2 hF2 hb2 hnf HB0
  go_wp2
  refine bodyPost_ret (v := .agg #[.bool g2, .slice a2 fs.length c2, .int .i64 e']) (by simp [results, Tryd.results22, go_sem, r1, r2, r3]) rfl ?_
  refine ⟨m, e', HN.out, g2, a2, c2, fs, rfl, by omega, ?_, HF2.out.down (by omega), ?_⟩
  · exact ((HL2.out.setFar HF2.out (by simp) _).setFar HF2.out (by simp) _).setFar HF2.out (by simp) _
  · exact ((B2.out.setCell (by simp) _).setCell (by simp) _).setCell (by simp) _

theorem float2_any (b : Int) (w : World) (h0 : 0 ≤ b) (h1 : b < 4294967296) :
    Calls Tryd.prog 22 #[.int .u32 b] w fun e w' => NormOut w 2 (fNum b) (fExp b - 150) 32 e w' := by
  by_cases hE : 0 < b / 8388608 % 256
  · by_cases hS : 2147483648 ≤ b
    · exact float2_bn b w h0 h1 hE hS
    · exact float2_bp b w h0 h1 hE hS
  · by_cases hS : 2147483648 ≤ b
    · exact float2_sn b w h0 h1 hE hS
    · exact float2_sp b w h0 h1 hE hS

end Go.Proofs.YtfgpknglgbpebaeDoor

/-
  What a shift is: up, a product; down, a quotient that is rounded down. Beyond 16384 bits nothing changes.
-/
namespace Go.Proofs.YtfgpknglgbpebaeDoor

def shN (x n : Int) : Int := if 0 ≤ n then x * 2 ^ (min n 16384).toNat else x / 2 ^ (min (-n) 16384).toNat

theorem shN_up {x n : Int} (h0 : 0 ≤ n) (h1 : n ≤ 16384) : shN x n = x * 2 ^ n.toNat := by
  unfold shN
  rw [if_pos h0, show min n 16384 = n by omega]

theorem shN_zero (n : Int) : shN 0 n = 0 := by
  unfold shN
  split <;> simp

theorem shN_down {x n : Int} (h0 : n < 0) : shN x n = x / 2 ^ (min (-n) 16384).toNat := by
  unfold shN
  rw [if_neg (by omega)]

/-- A negative number shifted down. -/
theorem neg_div (v : Int) (q : Int) (hq : 0 < q) : (-v) / q = if v % q = 0 then -(v / q) else -(v / q) - 1 := by
  have h := Int.mul_ediv_add_emod v q
  have h0 := Int.emod_nonneg v (show q ≠ 0 by omega)
  have h1 := Int.emod_lt_of_pos v hq
  split
  · rename_i h2
    rw [h2, Int.add_zero] at h
    rw [← h, ← Int.mul_neg, Int.mul_ediv_cancel_left _ (by omega), Int.mul_ediv_cancel_left _ (by omega)]
  · rename_i h2
    have e : -v = q * (-(v / q) - 1) + (q - v % q) := by
      rw [Int.mul_sub, Int.mul_neg, Int.mul_one]
      omega
    rw [e, Int.add_comm, Int.add_mul_ediv_left _ _ (by omega), Int.ediv_eq_zero_of_lt (by omega) (by omega)]
    omega

/-- What is too far up has too many limbs. -/
theorem res_far {g : Bool} {zs : List Int} {x n : Int} (h : B1 g zs x) (hne : zs ≠ []) (hn : 16384 < n) : Res true (shN x n) false [] 2 := by
  refine .inr ⟨rfl, g, List.replicate 512 0 ++ zs, ⟨canon_up (by decide) h.can hne 512, ?_, fun _ e => hne (List.append_eq_nil_iff.1 e).2⟩, .inr ⟨?_, rfl, rfl, rfl⟩⟩
  · unfold shN
    rw [if_pos (by omega), show (min n 16384).toNat = 32 * 512 by omega, Int.pow_mul, val_up, h.num, show (2 : Int) ^ 32 = 4294967296 from rfl]
    cases g
    · simp only [sg]; exact Int.mul_comm _ _
    · simp only [sg, if_true]; rw [Int.neg_mul, Int.mul_comm]
  · have hl : zs.length ≠ 0 := fun e => hne (List.length_eq_zero_iff.1 e)
    rw [List.length_append, List.length_replicate]
    omega

theorem res_zero {n : Int} : Res true (shN 0 n) false [] 0 :=
  .inr ⟨rfl, false, [], ⟨⟨Dig.nil _, rfl⟩, by rw [shN_zero]; simp [sg, val], fun h => by cases h⟩, .inl ⟨by simp, rfl, rfl, rfl⟩⟩

end Go.Proofs.YtfgpknglgbpebaeDoor

/-
  Which numbers fit into 512 limbs, and what the program then answers.
-/
namespace Go.Proofs.YtfgpknglgbpebaeDoor

/-- The number has at most 512 limbs. -/
def Fits (x : Int) : Prop := -(4294967296 ^ 512 : Int) < x ∧ x < (4294967296 ^ 512 : Int)

theorem pow_mono {B : Int} (hB : 1 ≤ B) {a b : Nat} (h : a ≤ b) : B ^ a ≤ B ^ b := by
  obtain ⟨d, rfl⟩ := Nat.le.dest h
  have h1 : 0 < B ^ a := Int.pow_pos (by omega)
  have h2 : 0 < B ^ d := Int.pow_pos (by omega)
  have h3 : B ^ a * 1 ≤ B ^ a * B ^ d := Int.mul_le_mul_of_nonneg_left (by omega) (by omega)
  rw [Int.pow_add]
  omega

theorem canon_ge {B : Int} (hB : 0 < B) {zs : List Int} (h : Canon B zs) (hne : zs.length ≠ 0) : B ^ (zs.length - 1) ≤ val B zs := by
  have hz : zs ≠ [] := fun e => hne (by simp [e])
  have e := List.dropLast_concat_getLast hz
  have hl := last_of_canon h.2 hne
  have hg : zs.getLast hz = zs.getD (zs.length - 1) 0 := by
    rw [List.getLast_eq_getElem]
    simp [List.getD_eq_getElem?_getD, show zs.length - 1 < zs.length by omega]
  have hd := h.1.at hB (zs.length - 1)
  have hv : val B zs = val B zs.dropLast + B ^ zs.dropLast.length * val B [zs.getLast hz] := by
    have h2 := val_append B [zs.getLast hz] zs.dropLast
    rw [e] at h2
    exact h2
  have hnn : 0 ≤ val B zs.dropLast := val_nonneg hB (by rw [List.dropLast_eq_take]; exact h.1.take _)
  have hp : 0 < B ^ zs.dropLast.length := Int.pow_pos hB
  have h1 : B ^ zs.dropLast.length * 1 ≤ B ^ zs.dropLast.length * zs.getLast hz := Int.mul_le_mul_of_nonneg_left (by rw [hg]; omega) (by omega)
  rw [hv]
  simp only [val, Int.mul_zero, Int.add_zero]
  rw [List.length_dropLast] at h1 ⊢
  omega

theorem len_of_lt {B : Int} (hB : 1 < B) {zs : List Int} (h : Canon B zs) {k : Nat} (hv : val B zs < B ^ k) : zs.length ≤ k := by
  by_cases h0 : zs.length = 0
  · omega
  · by_cases hk : zs.length ≤ k
    · exact hk
    · have h1 := canon_ge (by omega) h h0
      have h2 : B ^ k ≤ B ^ (zs.length - 1) := pow_mono (by omega) (by omega)
      omega

theorem B1.len {g : Bool} {zs : List Int} {x : Int} (h : B1 g zs x) (hx : Fits x) : zs.length ≤ 512 := by
  have h0 := val_nonneg (B := 4294967296) (by decide) h.can.1
  refine len_of_lt (B := 4294967296) (by decide) h.can ?_
  have hn := h.num
  obtain ⟨h1, h2⟩ := hx
  cases g
  · simp only [sg] at hn
    have hn : x = val 4294967296 zs := hn
    omega
  · simp only [sg, if_true] at hn
    omega

theorem B1.fits {g : Bool} {zs : List Int} {x : Int} (h : B1 g zs x) (hl : zs.length ≤ 512) : Fits x := by
  have h0 := val_nonneg (B := 4294967296) (by decide) h.can.1
  have h1 := val_lt_pow (B := 4294967296) (by decide) h.can.1
  have h2 : (4294967296 : Int) ^ zs.length ≤ 4294967296 ^ 512 := pow_mono (by decide) hl
  have hn := h.num
  unfold Fits
  cases g
  · have hn : x = val 4294967296 zs := hn
    omega
  · simp only [sg, if_true] at hn
    omega

/-- What fits is answered. -/
theorem Res.ok {x : Int} {G : Bool} {Z : List Int} {K : Int} (h : Res true x G Z K) (hx : Fits x) : K = 0 ∧ B1 G Z x ∧ Z.length ≤ 512 := by
  rcases h with ⟨h0, _⟩ | ⟨_, g, Z0, hb, ⟨c1, c2, c3, c4⟩ | ⟨c1, _⟩⟩
  · cases h0
  · subst c2 c3
    exact ⟨c4, hb, c1⟩
  · have := hb.len hx
    omega

/-- What is answered fits. -/
theorem Res.of_ok {x : Int} {G : Bool} {Z : List Int} {K : Int} (h : Res true x G Z K) (hK : K = 0) : B1 G Z x ∧ Z.length ≤ 512 ∧ Fits x := by
  rcases h with ⟨h0, _⟩ | ⟨_, g, Z0, hb, ⟨c1, c2, c3, c4⟩ | ⟨c1, _, _, c4⟩⟩
  · cases h0
  · subst c2 c3
    exact ⟨hb, c1, hb.fits c1⟩
  · omega

theorem B1.valid {g : Bool} {zs : List Int} {x : Int} (h : B1 g zs x) (hl : zs.length ≤ 512) : validB g zs = true := by
  unfold validB
  by_cases h0 : zs.length = 0
  · rw [if_pos h0]
    cases g
    · rfl
    · exact absurd (List.length_eq_zero_iff.1 h0) (h.zero rfl)
  · rw [if_neg h0]
    have := last_of_canon h.can.2 h0
    simp only [Bool.and_eq_true, decide_eq_true_eq, bne_iff_ne, ne_eq]
    exact ⟨hl, this⟩

theorem B1.sg {g : Bool} {zs : List Int} {x : Int} (h : B1 g zs x) : Go.Proofs.YtfgpknglgbpebaeDoor.sg g (val 4294967296 zs) = x := h.num.symm

theorem B1.pos {g : Bool} {zs : List Int} {x : Int} (h : B1 g zs x) (hx : 0 ≤ x) : g = false := by
  cases g
  · rfl
  · have := val_pos (B := 4294967296) (by decide) h.can (h.zero rfl)
    have hn := h.num
    simp only [Go.Proofs.YtfgpknglgbpebaeDoor.sg, if_true] at hn
    omega

theorem B1.u32 {g : Bool} {zs : List Int} {x : Int} (h : B1 g zs x) : U32 zs := h.can.1

/-! ### Shifts by a few bits -/
theorem shN_back {x n : Int} (h0 : 0 ≤ n) (h1 : n ≤ 16384) : shN x (-n) = x / 2 ^ n.toNat := by
  by_cases h : n = 0
  · subst h
    unfold shN
    rw [if_pos (by omega), show (min (-0) 16384 : Int).toNat = 0 by decide]
    simp
  · rw [shN_down (by omega), show min (- -n) 16384 = n by omega]

theorem two_fits {n : Int} (h1 : n ≤ 200) : 0 < (2 : Int) ^ n.toNat ∧ Fits (2 ^ n.toNat) := by
  have h0 : (0 : Int) < 2 ^ n.toNat := Int.pow_pos (by decide)
  have h2 : (2 : Int) ^ n.toNat ≤ 2 ^ 200 := two_pow_le (by omega)
  have h3 : (4294967296 : Int) ^ 7 ≤ 4294967296 ^ 512 := pow_mono (by decide) (by decide)
  have h4 : (2 : Int) ^ 200 < 4294967296 ^ 7 := by decide
  exact ⟨h0, by unfold Fits; omega⟩

theorem div_fits {x q : Int} (hq : 0 < q) (hx : Fits x) : Fits (x / q) := by
  obtain ⟨h1, h2⟩ := hx
  unfold Fits
  by_cases h : 0 ≤ x
  · have h3 : 0 ≤ x / q := Int.ediv_nonneg h (by omega)
    have h4 : x / q ≤ x := Int.ediv_le_self _ h
    omega
  · have h3 : x ≤ x / q := (Int.le_ediv_iff_mul_le hq).2 (by
      have : x * q ≤ x * 1 := Int.mul_le_mul_of_nonpos_left (by omega) (by omega)
      omega)
    have h4 : x / q < 0 := Int.ediv_neg_of_neg_of_pos (by omega) hq
    have h5 : (0 : Int) < 4294967296 ^ 512 := Int.pow_pos (by decide)
    omega

theorem low_fits {x q : Int} (hq : 0 < q) (hx : Fits x) (hxq : Fits (x * q)) : Fits (x / q * q) := by
  obtain ⟨h1, h2⟩ := hx
  obtain ⟨h3, h4⟩ := hxq
  have h5 := Int.mul_ediv_add_emod x q
  have h6 := Int.emod_nonneg x (show q ≠ 0 by omega)
  rw [Int.mul_comm] at h5
  unfold Fits
  by_cases h : 0 ≤ x
  · have h7 : 0 ≤ x / q := Int.ediv_nonneg h (by omega)
    have h8 := Int.mul_nonneg h7 (Int.le_of_lt hq)
    omega
  · have h7 : x ≤ x / q := (Int.le_ediv_iff_mul_le hq).2 (by
      have : x * q ≤ x * 1 := Int.mul_le_mul_of_nonpos_left (by omega) (by omega)
      omega)
    have h8 : x * q ≤ x / q * q := Int.mul_le_mul_of_nonneg_right h7 (by omega)
    omega

theorem rest_of {x q : Int} (hq : 0 < q) : x - x / q * q = x % q ∧ 0 ≤ x % q ∧ x % q < q := by
  have h5 := Int.mul_ediv_add_emod x q
  rw [Int.mul_comm] at h5
  exact ⟨by omega, Int.emod_nonneg x (by omega), Int.emod_lt_of_pos x hq⟩

end Go.Proofs.YtfgpknglgbpebaeDoor

/-
  Plain mathematics: the one normal form of a dyadic number.
-/
namespace Go.Proofs.YtfgpknglgbpebaeDoor

/-- m * 2^e is the normal form of the number that is v in units of 2^-100000. -/
def Norm (v m e : Int) : Prop := (v = 0 ∧ m = 0 ∧ e = 0) ∨ (v ≠ 0 ∧ m % 2 = 1 ∧ 0 ≤ e + 100000 ∧ v = m * 2 ^ (e + 100000).toNat)

theorem odd_two {m m' : Int} {s t : Nat} (hm : m % 2 = 1) (hm' : m' % 2 = 1) (h : m * 2 ^ s = m' * 2 ^ t) : s = t ∧ m = m' := by
  rcases Nat.lt_trichotomy s t with hst | hst | hst
  · exfalso
    have e : m = m' * 2 ^ (t - s) := by
      have hp : (0 : Int) < 2 ^ s := Int.pow_pos (by decide)
      apply Int.eq_of_mul_eq_mul_right (Int.ne_of_gt hp)
      rw [h, Int.mul_assoc, ← Int.pow_add, show t - s + s = t by omega]
    have e2 : m = 2 * (m' * 2 ^ (t - s - 1)) := by
      rw [e, show t - s = (t - s - 1) + 1 by omega, Int.pow_succ]
      simp only [Nat.add_sub_cancel]
      rw [← Int.mul_assoc, Int.mul_comm _ 2]
    omega
  · subst hst
    have hp : (0 : Int) < 2 ^ s := Int.pow_pos (by decide)
    exact ⟨rfl, Int.eq_of_mul_eq_mul_right (Int.ne_of_gt hp) h⟩
  · exfalso
    have e : m' = m * 2 ^ (s - t) := by
      have hp : (0 : Int) < 2 ^ t := Int.pow_pos (by decide)
      apply Int.eq_of_mul_eq_mul_right (Int.ne_of_gt hp)
      rw [← h, Int.mul_assoc, ← Int.pow_add, show s - t + t = s by omega]
    have e2 : m' = 2 * (m * 2 ^ (s - t - 1)) := by
      rw [e, show s - t = (s - t - 1) + 1 by omega, Int.pow_succ]
      simp only [Nat.add_sub_cancel]
      rw [← Int.mul_assoc, Int.mul_comm _ 2]
    omega

theorem Norm.inj {v m e m' e' : Int} (h : Norm v m e) (h' : Norm v m' e') : m = m' ∧ e = e' := by
  rcases h with ⟨h0, h1, h2⟩ | ⟨h0, h1, h2, h3⟩
  · rcases h' with ⟨_, k1, k2⟩ | ⟨k0, _⟩
    · exact ⟨by rw [h1, k1], by rw [h2, k2]⟩
    · exact absurd h0 k0
  · rcases h' with ⟨k0, _⟩ | ⟨_, k1, k2, k3⟩
    · exact absurd k0 h0
    · obtain ⟨e1, e2⟩ := odd_two h1 k1 (h3.symm.trans k3)
      exact ⟨e2, by omega⟩

theorem Norm.of_normOf {x e0 m e' : Int} {T : Nat} (h : NormOf x e0 m e' T) (he : -100000 ≤ e0) : Norm (atK 100000 x e0) m e' := by
  have hat := h.at (K := 100000) (by omega)
  rcases h with ⟨h0, h1, h2⟩ | ⟨h0, t, h2, h3, h4, _⟩
  · exact .inl ⟨by rw [h0]; simp [atK], h1, h2⟩
  · refine .inr ⟨?_, h4, by omega, by rw [← hat]; rfl⟩
    unfold atK
    intro hz
    rcases Int.mul_eq_zero.1 hz with h5 | h5
    · exact h0 h5
    · have : (0 : Int) < 2 ^ (e0 + 100000).toNat := Int.pow_pos (by decide)
      omega

/-- What DyAdd, DyMul, DyDet answer of the number v. -/
def ResD (ok : Bool) (v : Int) (G : Bool) (Z : List Int) (E K : Int) : Prop :=
  (ok = false ∧ G = false ∧ Z = [] ∧ E = 0 ∧ K = 1) ∨ (ok = true ∧ ∃ m e, Norm v m e ∧ (((Fits m ∧ -20000 ≤ e ∧ e ≤ 20000) ∧ B1 G Z m ∧ E = e ∧ K = 0) ∨ (¬ (Fits m ∧ -20000 ≤ e ∧ e ≤ 20000) ∧ G = false ∧ Z = [] ∧ E = 0 ∧ K = 2)))

theorem ResD.inj {ok : Bool} {v : Int} {G G' : Bool} {Z Z' : List Int} {E E' K K' : Int} (h : ResD ok v G Z E K) (h' : ResD ok v G' Z' E' K') : G = G' ∧ Z = Z' ∧ E = E' ∧ K = K' := by
  rcases h with ⟨h0, h1, h2, h3, h4⟩ | ⟨h0, m, e, hN, hc⟩
  · rcases h' with ⟨_, k1, k2, k3, k4⟩ | ⟨k0, _⟩
    · rw [h1, h2, h3, h4, k1, k2, k3, k4]
      exact ⟨rfl, rfl, rfl, rfl⟩
    · rw [h0] at k0
      cases k0
  · rcases h' with ⟨k0, _⟩ | ⟨_, m', e', hN', hc'⟩
    · rw [h0] at k0
      cases k0
    · obtain ⟨e1, e2⟩ := hN.inj hN'
      subst e1 e2
      rcases hc with ⟨c0, c1, c3, c4⟩ | ⟨c0, c1, c2, c3, c4⟩
      · rcases hc' with ⟨_, k1, k3, k4⟩ | ⟨k0, _⟩
        · obtain ⟨e3, e4⟩ := c1.inj k1
          exact ⟨e3, e4, by rw [c3, k3], by rw [c4, k4]⟩
        · exact absurd c0 k0
      · rcases hc' with ⟨k0, _⟩ | ⟨_, k1, k2, k3, k4⟩
        · exact absurd k0 c0
        · rw [c1, c2, c3, c4, k1, k2, k3, k4]
          exact ⟨rfl, rfl, rfl, rfl⟩

theorem ResD.len {ok : Bool} {v : Int} {G : Bool} {Z : List Int} {E K : Int} (h : ResD ok v G Z E K) : Z.length ≤ 512 ∧ U32 Z := by
  rcases h with ⟨_, _, h2, _⟩ | ⟨_, m, e, _, ⟨⟨c0, _⟩, hB, _⟩ | ⟨_, _, c2, _⟩⟩
  · subst h2
    exact ⟨by simp, fun z hz => by cases hz⟩
  · exact ⟨hB.len c0, hB.can.1⟩
  · subst c2
    exact ⟨by simp, fun z hz => by cases hz⟩

/-- The normal form found by counting twos. -/
theorem norm_twos {g : Bool} {zs : List Int} {x E : Int} {t : Nat} (h : B1 g zs x) (hne : zs ≠ []) (hE : -100000 ≤ E) (ht : Twos (val 4294967296 zs) t) : Norm (atK 100000 x E) (sg g (val 4294967296 zs / 2 ^ t)) (E + t) := by
  obtain ⟨n1, n2⟩ := norm_of h.num ht
  have hv := val_pos (B := 4294967296) (by decide) h.can hne
  have hp : (0 : Int) < 2 ^ (E + 100000).toNat := Int.pow_pos (by decide)
  refine .inr ⟨?_, n2, by omega, ?_⟩
  · unfold atK
    intro hz
    rcases Int.mul_eq_zero.1 hz with h5 | h5
    · rw [h.num] at h5
      cases g <;> simp [sg] at h5 <;> omega
    · omega
  · unfold atK
    rw [n1, Int.mul_assoc, ← Int.pow_add, show t + (E + 100000).toNat = (E + ↑t + 100000).toNat by omega]

end Go.Proofs.YtfgpknglgbpebaeDoor

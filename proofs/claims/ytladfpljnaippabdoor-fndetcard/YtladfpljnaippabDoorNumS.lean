/-
  Plain mathematics: digits shifted up and down.
-/
import Derived.Test.YtladfpljnaippabDoorNum
namespace Go.Proofs.YtladfpljnaippabDoor

theorem two_pow_le {a b : Nat} (h : a ≤ b) : (2 : Int) ^ a ≤ 2 ^ b := by
  obtain ⟨d, rfl⟩ := Nat.le.dest h
  have h1 : (0 : Int) < 2 ^ a := Int.pow_pos (by decide)
  have h2 : (0 : Int) < 2 ^ d := Int.pow_pos (by decide)
  have h3 : (2 : Int) ^ a * 1 ≤ 2 ^ a * 2 ^ d := Int.mul_le_mul_of_nonneg_left (by omega) (by omega)
  rw [Int.pow_add]
  omega

/-- Something is left over. -/
def lostB (m q : Int) : Bool := decide (m % q ≠ 0)

/-! ### Up -/
def timesL (q : Int) (zs : List Int) : List Int := zs.map (· * q)

theorem val_timesL (B q : Int) : ∀ zs : List Int, val B (timesL q zs) = val B zs * q
  | [] => by simp [timesL, val]
  | z :: zs => by
    have ih := val_timesL B q zs
    simp only [timesL, List.map_cons, val] at ih ⊢
    rw [ih, Int.add_mul, Int.mul_assoc]

theorem timesL_length (q : Int) (zs : List Int) : (timesL q zs).length = zs.length := by simp [timesL]

theorem timesL_drop {q : Int} {zs : List Int} {k : Nat} (h : k < zs.length) : timesL q (zs.drop k) = zs.getD k 0 * q :: timesL q (zs.drop (k + 1)) := by
  rw [List.drop_eq_getElem_cons h, List.getD_eq_getElem?_getD, List.getElem?_eq_getElem h]
  rfl

theorem val_zeros (B : Int) : ∀ n : Nat, val B (List.replicate n 0) = 0
  | 0 => rfl
  | n + 1 => by rw [List.replicate_succ]; simp [val, val_zeros B n]

theorem val_up (B : Int) (n : Nat) (zs : List Int) : val B (List.replicate n 0 ++ zs) = B ^ n * val B zs := by
  rw [val_append, val_zeros, List.length_replicate]
  omega

theorem Dig.zeros {B : Int} (hB : 0 < B) (n : Nat) : Dig B (List.replicate n 0) := by
  intro z hz
  have := List.eq_of_mem_replicate hz
  subst this
  exact ⟨Int.le_refl 0, hB⟩

theorem canon_up {B : Int} (hB : 0 < B) {zs : List Int} (h : Canon B zs) (hne : zs ≠ []) (n : Nat) : Canon B (List.replicate n 0 ++ zs) := by
  have hl : zs.length ≠ 0 := fun e => hne (List.length_eq_zero_iff.1 e)
  refine canon_last (Dig.append (Dig.zeros hB n) h.1) (by rw [List.length_append]; omega) ?_
  have := last_of_canon h.2 hl
  rw [List.getD_eq_getElem?_getD] at this ⊢
  rw [List.length_append, List.length_replicate, List.getElem?_append_right (by rw [List.length_replicate]; omega), List.length_replicate, show n + zs.length - 1 - n = zs.length - 1 by omega]
  exact this

/-- The carry of digits times q stays below q. -/
theorem times_carry {B q x c : Int} (hB : 0 < B) (hq : 0 < q) (hx0 : 0 ≤ x) (hx1 : x < B) (hc0 : 0 ≤ c) (hc1 : c < q) : 0 ≤ (x * q + c) / B ∧ (x * q + c) / B < q := by
  have h0 := Int.mul_nonneg hx0 (Int.le_of_lt hq)
  refine ⟨Int.ediv_nonneg (by omega) (by omega), Int.ediv_lt_of_lt_mul hB ?_⟩
  have h1 : (x + 1) * q ≤ B * q := Int.mul_le_mul_of_nonneg_right (by omega) (by omega)
  rw [Int.add_mul, Int.one_mul, Int.mul_comm B q] at h1
  omega

theorem dig_times {B q : Int} (hB : 0 < B) (hq : 0 < q) (hqB : q ≤ B) : ∀ (zs : List Int) (c : Int), Dig B zs → 0 ≤ c → c < q → Dig B (carryL B (timesL q zs) c)
  | [], c, _, h0, h1 => by
    simp only [timesL, List.map_nil, carryL]
    split
    · exact Dig.nil B
    · exact Dig.cons h0 (by omega) (Dig.nil B)
  | z :: zs, c, h, h0, h1 => by
    simp only [timesL, List.map_cons, carryL]
    have h2 := times_carry hB hq h.head.1 h.head.2 h0 h1
    exact Dig.cons (Int.emod_nonneg _ (by omega)) (Int.emod_lt_of_pos _ hB) (dig_times hB hq hqB zs _ h.tail h2.1 h2.2)

/-! ### Down -/
def downL (B q : Int) : List Int → List Int
  | [] => []
  | z :: zs => (z + B * zs.headD 0) / q % B :: downL B q zs

theorem down_length (B q : Int) : ∀ zs : List Int, (downL B q zs).length = zs.length
  | [] => rfl
  | z :: zs => by simp only [downL, List.length_cons, down_length B q zs]

theorem dig_down {B : Int} (hB : 0 < B) (q : Int) : ∀ zs : List Int, Dig B (downL B q zs)
  | [] => Dig.nil B
  | z :: zs => Dig.cons (Int.emod_nonneg _ (by omega)) (Int.emod_lt_of_pos _ hB) (dig_down hB q zs)

theorem headD_drop (zs : List Int) (k : Nat) : (zs.drop k).headD 0 = zs.getD k 0 := by
  rw [List.headD_eq_head?_getD, List.head?_drop, List.getD_eq_getElem?_getD]

theorem down_drop {B q : Int} {zs : List Int} {k : Nat} (h : k < zs.length) : downL B q (zs.drop k) = (zs.getD k 0 + B * zs.getD (k + 1) 0) / q % B :: downL B q (zs.drop (k + 1)) := by
  rw [List.drop_eq_getElem_cons h]
  simp only [downL]
  rw [headD_drop]
  simp [List.getD_eq_getElem?_getD, h]

theorem val_head (B : Int) (zs : List Int) : val B zs = zs.headD 0 + B * val B zs.tail := by
  cases zs <;> simp [val]

/-- One digit. -/
theorem down_digit {B q r z y : Int} (hBq : B = q * r) (hq : 0 < q) (hr : 0 < r) (hz0 : 0 ≤ z) (hz1 : z < B) : (z + B * y) / q % B = z / q + r * (y % q) := by
  have e1 : (z + B * y) / q = z / q + r * y := by
    rw [hBq, Int.mul_assoc]
    rw [Int.add_mul_ediv_left _ _ (by omega)]
  have e2 : r * y = B * (y / q) + r * (y % q) := by
    have h := Int.mul_add r (q * (y / q)) (y % q)
    rw [Int.mul_ediv_add_emod y q, ← Int.mul_assoc, Int.mul_comm r q, ← hBq] at h
    exact h
  have hd0 : 0 ≤ z / q := Int.ediv_nonneg hz0 (by omega)
  have hd1 : z / q < r := Int.ediv_lt_of_lt_mul hq (by rw [Int.mul_comm r q, ← hBq]; exact hz1)
  have hm0 := Int.emod_nonneg y (show q ≠ 0 by omega)
  have hm1 := Int.emod_lt_of_pos y hq
  have h3 : r * (y % q) ≤ r * (q - 1) := Int.mul_le_mul_of_nonneg_left (by omega) (by omega)
  have h4 : 0 ≤ r * (y % q) := Int.mul_nonneg (by omega) hm0
  rw [Int.mul_sub, Int.mul_one, Int.mul_comm r q, ← hBq] at h3
  rw [e1, e2, show z / q + (B * (y / q) + r * (y % q)) = (z / q + r * (y % q)) + B * (y / q) by omega, Int.add_mul_emod_self_left]
  exact Int.emod_eq_of_lt (by omega) (by omega)

theorem val_down {B q r : Int} (hBq : B = q * r) (hq : 0 < q) (hr : 0 < r) : ∀ {zs : List Int}, Dig B zs → val B (downL B q zs) = val B zs / q
  | [], _ => by simp [downL, val]
  | z :: zs, h => by
    have ih := val_down hBq hq hr h.tail
    simp only [downL, val]
    rw [ih, down_digit hBq hq hr h.head.1 h.head.2]
    have hv := val_head B zs
    have hBr : B * val B zs.tail = q * (r * val B zs.tail) := by rw [hBq, Int.mul_assoc]
    have e1 : val B zs / q = zs.headD 0 / q + r * val B zs.tail := by
      rw [hv, hBr, Int.add_mul_ediv_left _ _ (by omega)]
    have e2 : (z + B * val B zs) / q = z / q + r * val B zs := by
      rw [hBq, Int.mul_assoc, Int.add_mul_ediv_left _ _ (by omega)]
    have e3 : val B zs % q = zs.headD 0 % q := by
      rw [hv, hBr, Int.add_mul_emod_self_left]
    have e4 := Int.mul_ediv_add_emod (val B zs) q
    rw [e2, ← e3]
    have e5 : r * val B zs = B * (val B zs / q) + r * (val B zs % q) := by
      have h := Int.mul_add r (q * (val B zs / q)) (val B zs % q)
      rw [e4, ← Int.mul_assoc, Int.mul_comm r q, ← hBq] at h
      exact h
    omega

theorem val_parts (B : Int) (zs : List Int) (s : Nat) (hs : s ≤ zs.length) : val B zs = val B (zs.take s) + B ^ s * val B (zs.drop s) := by
  have h := val_append B (zs.drop s) (zs.take s)
  rw [List.take_append_drop, List.length_take, show min s zs.length = s by omega] at h
  exact h

theorem pow_pos' {B : Int} (hB : 0 < B) (s : Nat) : 0 < B ^ s := Int.pow_pos hB

/-- Cut at a whole digit and within the next one. -/
theorem val_cut {B q r : Int} (hBq : B = q * r) (hq : 0 < q) (hr : 0 < r) (hB : 0 < B) {zs : List Int} (h : Dig B zs) {s : Nat} (hs : s ≤ zs.length) : val B (downL B q (zs.drop s)) = val B zs / (B ^ s * q) := by
  rw [val_down hBq hq hr (h.drop s)]
  have hp := pow_pos' hB s
  rw [← Int.ediv_ediv_of_nonneg (by omega)]
  congr 1
  rw [val_parts B zs s hs, Int.add_mul_ediv_left _ _ (by omega)]
  have h0 := val_nonneg hB (h.take s)
  have h1 := val_lt_pow hB (h.take s)
  rw [List.length_take, show min s zs.length = s by omega] at h1
  rw [Int.ediv_eq_zero_of_lt h0 h1]
  omega

/-- Nothing is cut off: no digit below, and nothing of the next one. -/
theorem cut_exact {B q : Int} (hq : 0 < q) (hqB : ∃ r, B = q * r) (hB : 0 < B) {zs : List Int} (h : Dig B zs) {s : Nat} (hs : s ≤ zs.length) : val B zs % (B ^ s * q) = 0 ↔ val B (zs.take s) = 0 ∧ zs.getD s 0 % q = 0 := by
  have hp := pow_pos' hB s
  have h0 := val_nonneg hB (h.take s)
  have h1 := val_lt_pow hB (h.take s)
  rw [List.length_take, show min s zs.length = s by omega] at h1
  have hsp := val_parts B zs s hs
  have hd : val B (zs.drop s) % q = zs.getD s 0 % q := by
    obtain ⟨r, hr⟩ := hqB
    rw [val_head B (zs.drop s), headD_drop, show B * val B (zs.drop s).tail = q * (r * val B (zs.drop s).tail) by rw [hr, Int.mul_assoc], Int.add_mul_emod_self_left]
  rw [← hd]
  have hm0 := Int.emod_nonneg (val B (zs.drop s)) (show q ≠ 0 by omega)
  have hm1 := Int.emod_lt_of_pos (val B (zs.drop s)) hq
  have hde := Int.mul_ediv_add_emod (val B (zs.drop s)) q
  have e : val B zs = (val B (zs.take s) + B ^ s * (val B (zs.drop s) % q)) + B ^ s * q * (val B (zs.drop s) / q) := by
    rw [hsp, Int.mul_assoc, Int.add_assoc, ← Int.mul_add]
    congr 2
    omega
  have hlt : val B (zs.take s) + B ^ s * (val B (zs.drop s) % q) < B ^ s * q := by
    have : B ^ s * (val B (zs.drop s) % q) ≤ B ^ s * (q - 1) := Int.mul_le_mul_of_nonneg_left (by omega) (by omega)
    rw [Int.mul_sub, Int.mul_one] at this
    omega
  have hge : 0 ≤ B ^ s * (val B (zs.drop s) % q) := Int.mul_nonneg (by omega) hm0
  rw [e, Int.add_mul_emod_self_left, Int.emod_eq_of_lt (by omega) hlt]
  constructor
  · intro h2
    refine ⟨by omega, ?_⟩
    have h3 : B ^ s * (val B (zs.drop s) % q) = 0 := by omega
    rcases Int.mul_eq_zero.1 h3 with h4 | h4
    · omega
    · exact h4
  · rintro ⟨h2, h3⟩
    rw [h2, h3]
    simp

/-- Is any digit not 0? -/
def anyN (zs : List Int) : Bool := zs.any (· != 0)

theorem anyN_snoc (zs : List Int) (z : Int) : anyN (zs ++ [z]) = (anyN zs || (z != 0)) := by simp [anyN]

theorem anyN_take {zs : List Int} {k : Nat} (h : k < zs.length) : anyN (zs.take (k + 1)) = (anyN (zs.take k) || (zs.getD k 0 != 0)) := by
  rw [List.take_succ_eq_append_getElem h, anyN_snoc]
  simp [List.getD_eq_getElem?_getD, h]

theorem anyN_val {B : Int} (hB : 0 < B) : ∀ {zs : List Int}, Dig B zs → (anyN zs = true ↔ val B zs ≠ 0)
  | [], _ => by simp [anyN, val]
  | z :: zs, h => by
    have ih := anyN_val hB h.tail
    have h1 := val_nonneg hB h.tail
    have h2 := h.head
    have h3 := Int.mul_nonneg (Int.le_of_lt hB) h1
    have e : anyN (z :: zs) = ((z != 0) || anyN zs) := by simp [anyN]
    rw [e]
    simp only [Bool.or_eq_true, bne_iff_ne, ne_eq, val, ih]
    constructor
    · rintro (h4 | h4) h5
      · omega
      · have h6 : 0 < val B zs := by omega
        have h7 := Int.mul_pos hB h6
        omega
    · intro h4
      by_cases h5 : z = 0
      · right
        intro h6
        apply h4
        rw [h5, h6]
        simp
      · exact .inl h5

theorem trim_anyN : ∀ zs : List Int, trimL zs = [] ↔ anyN zs = false
  | [] => by simp [trimL, anyN]
  | z :: zs => by
    have ih := trim_anyN zs
    have e : anyN (z :: zs) = ((z != 0) || anyN zs) := by simp [anyN]
    rw [e]
    simp only [trimL]
    by_cases h : trimL zs = [] ∧ z = 0
    · rw [if_pos h]
      simp [h.2, ih.1 h.1]
    · rw [if_neg h]
      constructor
      · intro h'; cases h'
      · intro h'
        simp only [Bool.or_eq_false_iff, bne_eq_false_iff_eq] at h'
        exact absurd ⟨ih.2 h'.2, h'.1⟩ h

end Go.Proofs.YtladfpljnaippabDoor

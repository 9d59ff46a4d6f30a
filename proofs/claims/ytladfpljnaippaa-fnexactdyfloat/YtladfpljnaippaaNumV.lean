/-
  A whole number up to 2^24, at a place from -149 up, as a float of 64 bits and of 32.
-/
import Derived.Test.YtladfpljnaippaaNumG
namespace Go.Proofs.Ytladfpljnaippaa
open Go.RowKit

theorem s_consts : Ieee.single.signWeight = 2147483648 ∧ Ieee.single.binade = 8388608 ∧ Ieee.single.infRung = 2139095040 ∧ Ieee.single.leastPlace = -149 ∧ Ieee.single.fractionBits = 23 := by decide

/-- The number v, in parts. -/
theorem v_parts {v : Nat} (h0 : v ≠ 0) (h1 : v ≤ 16777216) : ∃ L f : Nat, L ≤ 24 ∧ 2 ^ L ≤ v ∧ v < 2 ^ (L + 1) ∧ (L = 24 → v = 16777216) ∧ f < 4503599627370496 ∧ v * 2 ^ (52 - L) = 4503599627370496 + f := by
  have a := Nat.log2_self_le h0
  have b : v < 2 ^ (v.log2 + 1) := Nat.lt_log2_self
  have hL : v.log2 ≤ 24 := Nat.lt_succ_iff.1 ((Nat.log2_lt h0).2 (by omega))
  obtain ⟨L, hLL⟩ : ∃ L, L = v.log2 := ⟨_, rfl⟩
  rw [← hLL] at a b hL
  have c1 : 2 ^ L * 2 ^ (52 - L) ≤ v * 2 ^ (52 - L) := Nat.mul_le_mul_right _ a
  have c2 : v * 2 ^ (52 - L) < 2 ^ (L + 1) * 2 ^ (52 - L) := Nat.mul_lt_mul_of_pos_right b (Nat.two_pow_pos _)
  rw [← Nat.pow_add, show L + (52 - L) = 52 by omega] at c1
  rw [← Nat.pow_add, show L + 1 + (52 - L) = 53 by omega] at c2
  have e1 : 2 ^ 52 = 4503599627370496 := rfl
  have e2 : 2 ^ 53 = 9007199254740992 := rfl
  refine ⟨L, v * 2 ^ (52 - L) - 4503599627370496, hL, a, b, ?_, by omega, by omega⟩
  intro h
  rw [h] at a
  omega

theorem of_int {v L f : Nat} (hL : L ≤ 24) (h1 : 2 ^ L ≤ v) (h2 : v < 2 ^ (L + 1)) (hf : v * 2 ^ (52 - L) = 4503599627370496 + f) : Ieee.double.nearest false v 0 = (L + 1023) * 4503599627370496 + f := by
  rw [double_write h1 h2 (by omega) (by omega) (by omega), hf]
  show ((0 : Int) + L + 1022).toNat * 4503599627370496 + (4503599627370496 + f) = _
  rw [show ((0 : Int) + L + 1022).toNat = L + 1022 by omega]
  omega

theorem read_normS {neg : Bool} {F f : Nat} (h1 : 1 ≤ F) (h2 : F ≤ 2046) (hf : f < 4503599627370496) : Ieee.double.read (Ieee.double.word neg (F * 4503599627370496 + f)) = .number neg (4503599627370496 + f) ((F : Int) - 1075) := by
  obtain ⟨e1, e2, e3, e4⟩ := d_consts
  unfold Ieee.Format.read Ieee.Format.word
  simp only [e1, e2, e3, e4]
  have hX : F * 4503599627370496 + f < 9218868437227405312 := by omega
  have hs : ((if neg = true then 9223372036854775808 + (F * 4503599627370496 + f) else F * 4503599627370496 + f) / 9223372036854775808 % 2 == 1) = neg := by
    cases neg
    · have : (F * 4503599627370496 + f) / 9223372036854775808 = 0 := Nat.div_eq_of_lt (by omega)
      simp [this]
    · have : (9223372036854775808 + (F * 4503599627370496 + f)) / 9223372036854775808 = 1 := by omega
      simp [this]
  have hr : (if neg = true then 9223372036854775808 + (F * 4503599627370496 + f) else F * 4503599627370496 + f) % 9223372036854775808 = F * 4503599627370496 + f := by
    cases neg
    · simp; omega
    · simp; omega
  rw [hs, hr, if_neg (by omega), if_pos hX]
  have q1 : (F * 4503599627370496 + f) % 4503599627370496 = f := by omega
  have q2 : (F * 4503599627370496 + f) / 4503599627370496 = F := by omega
  rw [q1, q2]
  congr 1
  omega

theorem min_a {q v : Nat} (h : v + q * 8388608 ≤ 2139095040) : min (q * 8388608 + v) 2139095040 = v + q * 8388608 := by
  omega

theorem min_b {q : Nat} (h : 16777216 + q * 8388608 ≤ 2139095040) : min ((q + 1) * 8388608 + 8388608) 2139095040 = 16777216 + q * 8388608 := by
  omega

/-- Written as a float of 32 bits: exactly. -/
theorem single_write {neg : Bool} {v L : Nat} {u : Int} (hL : L ≤ 24) (h1 : 2 ^ L ≤ v) (h2 : v < 2 ^ (L + 1)) (h24 : L = 24 → v = 16777216) (hu : -149 ≤ u) (hv : u = -149 ∨ 23 ≤ L) (hR : v + (u + 149).toNat * 8388608 ≤ 2139095040) :
    Ieee.single.nearest neg (v * 2 ^ (52 - L)) (L + u - 52) = Ieee.single.word neg (v + (u + 149).toNat * 8388608) := by
  obtain ⟨e1, e2, e3, e4, e5⟩ := s_consts
  have hv0 : v ≠ 0 := by have := Nat.two_pow_pos L; omega
  have hM : v * 2 ^ (52 - L) ≠ 0 := Nat.mul_ne_zero hv0 (Nat.ne_of_gt (Nat.two_pow_pos _))
  have hlog : (v * 2 ^ (52 - L)).log2 = 52 := by
    have c1 : 2 ^ L * 2 ^ (52 - L) ≤ v * 2 ^ (52 - L) := Nat.mul_le_mul_right _ h1
    have c2 : v * 2 ^ (52 - L) < 2 ^ (L + 1) * 2 ^ (52 - L) := Nat.mul_lt_mul_of_pos_right h2 (Nat.two_pow_pos _)
    rw [← Nat.pow_add, show L + (52 - L) = 52 by omega] at c1
    rw [← Nat.pow_add, show L + 1 + (52 - L) = 53 by omega] at c2
    apply Nat.le_antisymm
    · exact Nat.lt_succ_iff.1 ((Nat.log2_lt hM).2 c2)
    · exact (Nat.le_log2 hM).2 c1
  unfold Ieee.Format.nearest
  rw [if_neg hM]
  simp only [hlog, e2, e3, e4, e5]
  by_cases h : L = 24
  · subst h
    have hv := h24 rfl
    subst hv
    have hlast : max (((24 : Nat) : Int) + u - 52 + ((52 : Nat) : Int) - ((23 : Nat) : Int)) (-149) = u + 1 := by omega
    rw [hlast, show (((24 : Nat) : Int) + u - 52 - (u + 1)).toNat = 0 by omega, show (u + 1 - (((24 : Nat) : Int) + u - 52)).toNat = 29 by omega, Nat.shiftLeft_zero,
      show 16777216 * 2 ^ (52 - 24) = 8388608 * 2 ^ 29 by decide, cut_ieee (.inl rfl) (by decide)]
    rw [show (u + 1 - -149).toNat = (u + 149).toNat + 1 by omega]
    exact congrArg (Ieee.single.word neg) (min_b hR)
  · have hlast : max ((L : Int) + u - 52 + ((52 : Nat) : Int) - ((23 : Nat) : Int)) (-149) = u := by omega
    rw [hlast, show ((L : Int) + u - 52 - u).toNat = 0 by omega, show (u - ((L : Int) + u - 52)).toNat = 52 - L by omega, Nat.shiftLeft_zero, cut_ieee (.inl rfl) hv0]
    rw [show (u - -149).toNat = (u + 149).toNat by omega]
    exact congrArg (Ieee.single.word neg) (min_a hR)

theorem single_fin {neg : Bool} {X : Nat} (h : X < 2139095040) : (Ieee.single.read (Ieee.single.word neg X)).isInfinity = false := by
  obtain ⟨e1, e2, e3, e4, e5⟩ := s_consts
  unfold Ieee.Format.read Ieee.Format.word
  simp only [e1, e2, e3, e4]
  have hr : (if neg = true then 2147483648 + X else X) % 2147483648 = X := by
    cases neg
    · simp; omega
    · simp; omega
  rw [hr]
  by_cases h1 : X < 8388608
  · rw [if_pos h1]; rfl
  · rw [if_neg h1, if_pos h]; rfl

/-- From 64 bits to 32. -/
theorem conv_back {neg : Bool} {v L f : Nat} {u : Int} (hL : L ≤ 24) (h1 : 2 ^ L ≤ v) (h2 : v < 2 ^ (L + 1)) (h24 : L = 24 → v = 16777216) (hf : f < 4503599627370496) (hvf : v * 2 ^ (52 - L) = 4503599627370496 + f) (hu : -149 ≤ u) (hv : u = -149 ∨ 23 ≤ L) (hR : v + (u + 149).toNat * 8388608 < 2139095040)
    {G : Nat} (hG : (G : Int) = L + 1023 + u) : floatToFloatBits .f64 (Ieee.double.word neg (G * 4503599627370496 + f)) .f32 = some (Ieee.single.word neg (v + (u + 149).toNat * 8388608)) := by
  have hG1 : 1 ≤ G := by omega
  have hG2 : G ≤ 2046 := by omega
  have hr : FloatKind.f64.decode (Ieee.double.word neg (G * 4503599627370496 + f)) = .number neg (4503599627370496 + f) ((G : Int) - 1075) := read_normS hG1 hG2 hf
  have he : FloatKind.f32.encode (.number neg (4503599627370496 + f) ((G : Int) - 1075)) = Ieee.single.word neg (v + (u + 149).toNat * 8388608) := by
    show Ieee.single.nearest _ _ _ = _
    rw [← hvf, show (G : Int) - 1075 = L + u - 52 by omega]
    exact single_write hL h1 h2 h24 hu hv (by omega)
  unfold floatToFloatBits
  rw [if_neg (by decide), hr]
  simp only
  rw [he]
  have h3 : (FloatKind.f32.decode (Ieee.single.word neg (v + (u + 149).toNat * 8388608))).isInfinity = false := single_fin hR
  rw [h3]
  rfl

theorem conv_back0 (neg : Bool) : floatToFloatBits .f64 (Ieee.double.word neg 0) .f32 = some (Ieee.single.word neg 0) := by
  cases neg <;> decide

/-- Past the greatest float. -/
theorem past_max {v L f G : Nat} {u : Int} (hL : L ≤ 24) (h1 : 2 ^ L ≤ v) (h2 : v < 2 ^ (L + 1)) (h24 : L = 24 → v = 16777216) (hvf : v * 2 ^ (52 - L) = 4503599627370496 + f) (hf : f < 4503599627370496) (hu : -149 ≤ u) (hv : u = -149 ∨ 23 ≤ L) (hG : (G : Int) = L + 1023 + u) :
    5183643170566569984 < G * 4503599627370496 + f ↔ 2139095040 ≤ v + (u + 149).toNat * 8388608 := by
  by_cases hl : L = 24
  · subst hl
    have := h24 rfl
    subst this
    have e : 16777216 * 2 ^ (52 - 24) = 4503599627370496 := by decide
    omega
  · by_cases hl2 : L = 23
    · subst hl2
      have e : 2 ^ (52 - 23) = 536870912 := by decide
      have e2 : 2 ^ 23 = 8388608 := by decide
      have e3 : 2 ^ (23 + 1) = 16777216 := by decide
      rw [e] at hvf
      rw [e2] at h1
      rw [e3] at h2
      omega
    · have hu2 : u = -149 := by omega
      have hp : 2 ^ (L + 1) ≤ 2 ^ 23 := Nat.pow_le_pow_right (by decide) (by omega)
      have e2 : 2 ^ 23 = 8388608 := by decide
      omega

end Go.Proofs.Ytladfpljnaippaa

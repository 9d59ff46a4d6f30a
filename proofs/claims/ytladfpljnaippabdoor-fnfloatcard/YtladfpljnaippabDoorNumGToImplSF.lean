/-
  Plain mathematics: words of 64 bits: their order, their parts, floats widened.
-/
import Derived.Test.YtladfpljnaippabDoorNumFQF
import Derived.Laws.FloatArith
import Derived.Laws.Bits64b
import Derived.Test.YtladfpljnaippabDoorBaseQF
import Derived.Laws.Externs
import Derived.Test.YtladfpljnaippabDoorTzQF
import Derived.Test.YtladfpljnaippabDoorNumQF
import Derived.Test.YtladfpljnaippabDoorSpecDQF
import Derived.Test.YtladfpljnaippabDoorImplBQF
import Derived.Test.YtladfpljnaippabDoorNumSQF
import Derived.Test.YtladfpljnaippabDoorResQF
namespace Go.Proofs.YtladfpljnaippabDoor

/-- The magnitude that a positive word of 64 bits stands for, in units of the least. -/
def dMag (X : Nat) : Nat := if X < 4503599627370496 then X else (4503599627370496 + X % 4503599627370496) * 2 ^ (X / 4503599627370496 - 1)

theorem dMag_lt {X Y : Nat} (h : X < Y) : dMag X < dMag Y := by
  unfold dMag
  have hp : ∀ n, 0 < 2 ^ n := fun n => Nat.two_pow_pos n
  by_cases hX : X < 4503599627370496
  · rw [if_pos hX]
    by_cases hY : Y < 4503599627370496
    · rw [if_pos hY]; exact h
    · rw [if_neg hY]
      have h1 : (4503599627370496 + Y % 4503599627370496) * 1 ≤ (4503599627370496 + Y % 4503599627370496) * 2 ^ (Y / 4503599627370496 - 1) := Nat.mul_le_mul_left _ (hp _)
      omega
  · have hY : ¬ Y < 4503599627370496 := by omega
    rw [if_neg hX, if_neg hY]
    by_cases hF : X / 4503599627370496 = Y / 4503599627370496
    · rw [hF]
      exact Nat.mul_lt_mul_of_pos_right (by omega) (hp _)
    · obtain ⟨k, hk⟩ : ∃ k, Y / 4503599627370496 - 1 = (X / 4503599627370496 - 1) + (k + 1) := ⟨Y / 4503599627370496 - X / 4503599627370496 - 1, by omega⟩
      rw [hk, Nat.pow_add, Nat.pow_succ]
      have h2 : (4503599627370496 + X % 4503599627370496) * 2 ^ (X / 4503599627370496 - 1) < 9007199254740992 * 2 ^ (X / 4503599627370496 - 1) := Nat.mul_lt_mul_of_pos_right (by omega) (hp _)
      have h3 : 9007199254740992 * 2 ^ (X / 4503599627370496 - 1) ≤ (4503599627370496 + Y % 4503599627370496) * (2 ^ (X / 4503599627370496 - 1) * (2 ^ k * 2)) := by
        have h4 : 1 ≤ 2 ^ k := hp k
        have h5 : 9007199254740992 ≤ (4503599627370496 + Y % 4503599627370496) * (2 ^ k * 2) := by
          have : 4503599627370496 * (1 * 2) ≤ (4503599627370496 + Y % 4503599627370496) * (2 ^ k * 2) := Nat.mul_le_mul (by omega) (Nat.mul_le_mul h4 (Nat.le_refl _))
          omega
        calc 9007199254740992 * 2 ^ (X / 4503599627370496 - 1) ≤ ((4503599627370496 + Y % 4503599627370496) * (2 ^ k * 2)) * 2 ^ (X / 4503599627370496 - 1) := Nat.mul_le_mul_right _ h5
          _ = (4503599627370496 + Y % 4503599627370496) * (2 ^ (X / 4503599627370496 - 1) * (2 ^ k * 2)) := by rw [Nat.mul_assoc, Nat.mul_comm (2 ^ k * 2)]
      omega

theorem d_consts : Ieee.double.signWeight = 9223372036854775808 ∧ Ieee.double.binade = 4503599627370496 ∧ Ieee.double.infRung = 9218868437227405312 ∧ Ieee.double.leastPlace = -1074 := by decide

/-- Reading a word below the infinite one. -/
theorem double_read {X : Nat} (h : X < 9218868437227405312) : ∃ (m : Nat) (i : Int), Ieee.double.read X = .number false m i ∧ -1074 ≤ i ∧ m * 2 ^ (i + 1074).toNat = dMag X := by
  obtain ⟨e1, e2, e3, e4⟩ := d_consts
  unfold Ieee.Format.read dMag
  simp only [e1, e2, e3, e4]
  have hs : (X / 9223372036854775808 % 2 == 1) = false := by
    have : X / 9223372036854775808 = 0 := Nat.div_eq_of_lt (by omega)
    rw [this]; rfl
  rw [hs, Nat.mod_eq_of_lt (by omega)]
  by_cases hX : X < 4503599627370496
  · rw [if_pos hX, if_pos hX]
    exact ⟨X, -1074, rfl, by omega, by simp⟩
  · rw [if_neg hX, if_pos (by omega), if_neg hX]
    refine ⟨_, _, rfl, by omega, ?_⟩
    congr 2
    omega

theorem double_order {X Y : Nat} (hX : X < 9218868437227405312) (hY : Y < 9218868437227405312) : Ieee.double.order X Y = some (compare (X : Int) (Y : Int)) := by
  obtain ⟨m, i, e1, hi, h1⟩ := double_read hX
  obtain ⟨n, j, e2, hj, h2⟩ := double_read hY
  unfold Ieee.Format.order
  rw [e1, e2]
  simp only [Ieee.Datum.order, Ieee.signed, Bool.false_eq_true, if_false]
  congr 1
  have key : ∀ {m : Nat} {i b : Int}, b ≤ i → -1074 ≤ b → ((m <<< (i - b).toNat : Nat) : Int) * 2 ^ (b + 1074).toNat = ((m * 2 ^ (i + 1074).toNat : Nat) : Int) := by
    intro m i b hb hb'
    rw [Nat.shiftLeft_eq]
    push_cast
    rw [Int.mul_assoc, ← Int.pow_add, show (i - b).toNat + (b + 1074).toNat = (i + 1074).toNat by omega]
  have k1 := key (m := m) (i := i) (b := min i j) (by omega) (by omega)
  have k2 := key (m := n) (i := j) (b := min i j) (by omega) (by omega)
  rw [h1] at k1
  rw [h2] at k2
  have hp : (0 : Int) < 2 ^ (min i j + 1074).toNat := Int.pow_pos (by decide)
  generalize ((m <<< (i - min i j).toNat : Nat) : Int) = a at *
  generalize ((n <<< (j - min i j).toNat : Nat) : Int) = b at *
  generalize (2 : Int) ^ (min i j + 1074).toNat = p at *
  rcases Nat.lt_trichotomy X Y with h | h | h
  · have := dMag_lt h
    have h3 : a * p < b * p := by rw [k1, k2]; omega
    have h4 : a < b := Int.lt_of_mul_lt_mul_right h3 (Int.le_of_lt hp)
    rw [Int.compare_eq_lt.2 h4, Int.compare_eq_lt.2 (by omega)]
  · subst h
    have h3 : a * p = b * p := by rw [k1, k2]
    have h4 : a = b := Int.eq_of_mul_eq_mul_right (Int.ne_of_gt hp) h3
    rw [h4, Int.compare_eq_eq.2 rfl, Int.compare_eq_eq.2 rfl]
  · have := dMag_lt h
    have h3 : b * p < a * p := by rw [k1, k2]; omega
    have h4 : b < a := Int.lt_of_mul_lt_mul_right h3 (Int.le_of_lt hp)
    rw [Int.compare_eq_gt.2 h4, Int.compare_eq_gt.2 (by omega)]

theorem small_word {q B : Nat} (h2 : q ≤ 2045) (h1 : B < 2 ^ 53) : q * 4503599627370496 + B ≤ 9218868437227405312 := by
  have h3 : B < 9007199254740992 := h1
  omega

/-- A number whose digits fit is written exactly. -/
theorem double_write {neg : Bool} {M : Nat} {P : Int} {L : Nat} (hL : 2 ^ L ≤ M) (hL' : M < 2 ^ (L + 1)) (h52 : L ≤ 52) (hP : -1022 ≤ P + L) (hP' : P + L ≤ 1023) :
    Ieee.double.nearest neg M P = Ieee.double.word neg ((P + L + 1022).toNat * 4503599627370496 + M * 2 ^ (52 - L)) := by
  obtain ⟨e1, e2, e3, e4⟩ := d_consts
  have hM : M ≠ 0 := by have := Nat.two_pow_pos L; omega
  have hlog : M.log2 = L := by
    apply Nat.le_antisymm
    · exact Nat.lt_succ_iff.1 ((Nat.log2_lt hM).2 hL')
    · exact (Nat.le_log2 hM).2 hL
  unfold Ieee.Format.nearest
  rw [if_neg hM]
  simp only [hlog, e2, e3, e4]
  have hf : Ieee.double.fractionBits = 52 := rfl
  have hlast : max (P + (L : Int) - ((Ieee.double.fractionBits : Nat) : Int)) (-1074) = P + L - 52 := by rw [hf]; omega
  rw [hlast]
  have hcut : Ieee.Toward.even.cut neg (M <<< (P - (P + L - 52)).toNat) (P + L - 52 - P).toNat = M * 2 ^ (52 - L) := by
    rw [show (P - (P + (L : Int) - 52)).toNat = 52 - L by omega, show (P + (L : Int) - 52 - P).toNat = 0 by omega]
    unfold Ieee.Toward.cut
    simp only [Nat.zero_min, Nat.shiftLeft_zero, Nat.div_one, Nat.mod_one]
    rw [Nat.shiftLeft_eq]
    simp
  rw [hcut]
  congr 1
  have h1 : M * 2 ^ (52 - L) < 2 ^ (L + 1) * 2 ^ (52 - L) := Nat.mul_lt_mul_of_pos_right hL' (Nat.two_pow_pos _)
  rw [← Nat.pow_add, show L + 1 + (52 - L) = 53 by omega] at h1
  rw [show (P + (L : Int) - 52 - -1074).toNat = (P + L + 1022).toNat by omega]
  have h2 : (P + L + 1022).toNat ≤ 2045 := by omega
  generalize (P + L + 1022).toNat = q at *
  generalize M * 2 ^ (52 - L) = B at *
  exact Nat.min_eq_left (small_word h2 h1)
theorem wrapU64 (n : Nat) (h : n < 18446744073709551616) : IntKind.u64.wrap (n : Int) = n := by
  simp only [IntKind.wrap, IntKind.bits, IntKind.signed]
  simp
  omega

theorem ofInt64 (a : Nat) (h : a < 18446744073709551616) : (BitVec.ofInt 64 (a : Int)).toNat = a := by
  rw [BitVec.ofInt_natCast, BitVec.toNat_ofNat]
  exact Nat.mod_eq_of_lt (by omega)

theorem andNot_nat (a b : Nat) (ha : a < 18446744073709551616) (hb : b < 18446744073709551616) : bits .andNot .u64 (a : Int) (b : Int) = ((a &&& (18446744073709551615 - b) : Nat) : Int) := by
  have e : (BitVec.ofInt 64 (a : Int) &&& ~~~ BitVec.ofInt 64 (b : Int)).toNat = a &&& (18446744073709551615 - b) := by
    rw [BitVec.toNat_and, BitVec.toNat_not, ofInt64 a ha, ofInt64 b hb]
  show IntKind.u64.wrap ((BitVec.ofInt 64 (a : Int) &&& ~~~ BitVec.ofInt 64 (b : Int)).toNat : Int) = _
  rw [e]
  exact wrapU64 _ (Nat.lt_of_le_of_lt Nat.and_le_left ha)

/-- Without the sign. -/
theorem bits_abs (a : Nat) (h : a < 18446744073709551616) : bits .andNot .u64 (a : Int) 9223372036854775808 = ((a % 9223372036854775808 : Nat) : Int) := by
  have := andNot_nat a 9223372036854775808 h (by decide)
  rw [show ((9223372036854775808 : Nat) : Int) = 9223372036854775808 from rfl] at this
  rw [this]
  have e : a &&& (18446744073709551615 - 9223372036854775808) = a % 9223372036854775808 := by
    show a &&& (2 ^ 63 - 1) = a % 2 ^ 63
    exact Nat.and_two_pow_sub_one_eq_mod a 63
  rw [e]

/-- Without sign and exponent. -/
theorem bits_frac (a : Nat) (h : a < 9223372036854775808) : bits .andNot .u64 (a : Int) 9218868437227405312 = ((a % 4503599627370496 : Nat) : Int) := by
  have := andNot_nat a 9218868437227405312 (by omega) (by decide)
  rw [show ((9218868437227405312 : Nat) : Int) = 9218868437227405312 from rfl] at this
  rw [this]
  have hm : 18446744073709551615 - 9218868437227405312 = 2 ^ 63 ||| (2 ^ 52 - 1) := by decide
  have e : a &&& (18446744073709551615 - 9218868437227405312) = a % 2 ^ 52 := by
    rw [hm]
    apply Nat.eq_of_testBit_eq
    intro i
    rw [Nat.testBit_and, Nat.testBit_or, Nat.testBit_two_pow, Nat.testBit_two_pow_sub_one, Nat.testBit_mod_two_pow]
    by_cases hi : i = 63
    · subst hi
      have : a.testBit 63 = false := Nat.testBit_lt_two_pow h
      rw [this]
      simp
    · have h63 : (decide (63 = i)) = false := by simp; omega
      rw [h63, Bool.false_or, Bool.and_comm]
  rw [e]

theorem bits_exp (F : Nat) (h : F < 2048) : bits .and .u64 (F : Int) 2047 = F := by
  have := bits_and_u64_nat F 2047 (by omega) (by decide)
  rw [show ((2047 : Nat) : Int) = 2047 from rfl] at this
  rw [this]
  have e : F &&& 2047 = F := by
    show F &&& (2 ^ 11 - 1) = F
    rw [Nat.and_two_pow_sub_one_eq_mod]
    exact Nat.mod_eq_of_lt h
  rw [e]

theorem bits_expI (F : Nat) (h : F < 2048) : bits .and .i64 (F : Int) 2047 = F := by
  have e : (BitVec.ofInt 64 (F : Int) &&& BitVec.ofInt 64 2047).toNat = F := by
    rw [BitVec.toNat_and, ofInt64 F (by omega)]
    show F &&& (2 ^ 11 - 1) = F
    rw [Nat.and_two_pow_sub_one_eq_mod]
    exact Nat.mod_eq_of_lt h
  show IntKind.i64.wrap ((BitVec.ofInt 64 (F : Int) &&& BitVec.ofInt 64 2047).toNat : Int) = _
  rw [e]
  simp only [IntKind.wrap, IntKind.bits, IntKind.signed]
  simp
  omega

theorem bits_join (f G : Nat) (hf : f < 4503599627370496) (hG : G < 2048) : bits .or .u64 (f : Int) ((G * 4503599627370496 : Nat) : Int) = ((G * 4503599627370496 + f : Nat) : Int) := by
  have e : (BitVec.ofInt 64 (f : Int) ||| BitVec.ofInt 64 ((G * 4503599627370496 : Nat) : Int)).toNat = G * 4503599627370496 + f := by
    rw [BitVec.toNat_or, ofInt64 _ (by omega), ofInt64 _ (by omega)]
    have := Nat.shiftLeft_add_eq_or_of_lt (b := f) (i := 52) hf G
    rw [Nat.shiftLeft_eq] at this
    rw [Nat.or_comm]
    exact this.symm
  show IntKind.u64.wrap ((BitVec.ofInt 64 (f : Int) ||| BitVec.ofInt 64 ((G * 4503599627370496 : Nat) : Int)).toNat : Int) = _
  rw [e]
  exact wrapU64 _ (by omega)

/-- The word of 64 bits of a float's magnitude. -/
def dOf (b : Int) : Nat := if (fMag b).toNat = 0 then 0 else (fExp b - 150 + (fMag b).toNat.log2 + 1022).toNat * 4503599627370496 + (fMag b).toNat * 2 ^ (52 - (fMag b).toNat.log2)

theorem fMag_lt {b : Int} (_h0 : 0 ≤ b) : 0 ≤ fMag b ∧ fMag b < 16777216 := by
  unfold fMag
  split <;> omega

/-- The parts of the word: exponent and fraction. -/
theorem dOf_parts {b : Int} (h0 : 0 ≤ b) (hf : fFin b = true) (hM : (fMag b).toNat ≠ 0) : ∃ (L F f : Nat), L ≤ 23 ∧ 2 ^ L ≤ (fMag b).toNat ∧ (fMag b).toNat < 2 ^ (L + 1) ∧ (F : Int) = fExp b - 150 + L + 1023 ∧ 1 ≤ F ∧ F ≤ 1150 ∧ f < 4503599627370496 ∧ 4503599627370496 + f = (fMag b).toNat * 2 ^ (52 - L) ∧ dOf b = F * 4503599627370496 + f ∧ L = (fMag b).toNat.log2 := by
  have h1 := fMag_lt h0
  have h2 := fExp_pos h0
  have h3 : fExp b ≤ 254 := by
    have : b / 8388608 % 256 ≠ 255 := by simpa [fFin] using hf
    unfold fExp
    split <;> omega
  have hl1 := Nat.log2_self_le hM
  have hl2 : (fMag b).toNat < 2 ^ ((fMag b).toNat.log2 + 1) := Nat.lt_log2_self
  have hL : (fMag b).toNat.log2 ≤ 23 := by
    have : (fMag b).toNat.log2 < 24 := (Nat.log2_lt hM).2 (by show _ < 16777216; omega)
    omega
  have hd : dOf b = (fExp b - 150 + (fMag b).toNat.log2 + 1022).toNat * 4503599627370496 + (fMag b).toNat * 2 ^ (52 - (fMag b).toNat.log2) := by unfold dOf; rw [if_neg hM]
  obtain ⟨L, hLL⟩ : ∃ L, L = (fMag b).toNat.log2 := ⟨_, rfl⟩
  rw [← hLL] at hl1 hl2 hL hd
  have hlo : 2 ^ L * 2 ^ (52 - L) ≤ (fMag b).toNat * 2 ^ (52 - L) := Nat.mul_le_mul_right _ hl1
  have hhi : (fMag b).toNat * 2 ^ (52 - L) < 2 ^ (L + 1) * 2 ^ (52 - L) := Nat.mul_lt_mul_of_pos_right hl2 (Nat.two_pow_pos _)
  rw [← Nat.pow_add, show L + (52 - L) = 52 by omega] at hlo
  rw [← Nat.pow_add, show L + 1 + (52 - L) = 53 by omega] at hhi
  have hlo' : 4503599627370496 ≤ (fMag b).toNat * 2 ^ (52 - L) := hlo
  have hhi' : (fMag b).toNat * 2 ^ (52 - L) < 9007199254740992 := hhi
  refine ⟨L, (fExp b - 150 + L + 1023).toNat, (fMag b).toNat * 2 ^ (52 - L) - 4503599627370496, hL, hl1, hl2, by omega, by omega, by omega, by omega, by omega, ?_, hLL⟩
  rw [hd]
  generalize (fMag b).toNat * 2 ^ (52 - L) = m at *
  have : (fExp b - 150 + L + 1023).toNat = (fExp b - 150 + L + 1022).toNat + 1 := by omega
  rw [this, Nat.add_mul]
  omega

theorem read_fin {neg : Bool} {X : Nat} (h : X < 9218868437227405312) : (Ieee.double.read (Ieee.double.word neg X)).isInfinity = false := by
  obtain ⟨e1, e2, e3, e4⟩ := d_consts
  unfold Ieee.Format.read Ieee.Format.word
  simp only [e1, e2, e3, e4]
  have hr : (if neg = true then 9223372036854775808 + X else X) % 9223372036854775808 = X := by
    cases neg
    · simp; omega
    · simp; omega
  rw [hr]
  by_cases h1 : X < 4503599627370496
  · rw [if_pos h1]; rfl
  · rw [if_neg h1, if_pos h]; rfl

theorem conv_fin {b : Int} (h0 : 0 ≤ b) (h1 : b < 4294967296) (hf : fFin b = true) : floatToFloatBits .f32 b.toNat .f64 = some (Ieee.double.word (decide (2147483648 ≤ b)) (dOf b)) := by
  have hr : FloatKind.f32.decode b.toNat = .number (decide (2147483648 ≤ b)) (fMag b).toNat (fExp b - 150) := single_read h0 h1 hf
  have he : FloatKind.f64.encode (.number (decide (2147483648 ≤ b)) (fMag b).toNat (fExp b - 150)) = Ieee.double.word (decide (2147483648 ≤ b)) (dOf b) := by
    show Ieee.double.nearest _ _ _ = _
    by_cases hM : (fMag b).toNat = 0
    · unfold Ieee.Format.nearest dOf
      rw [if_pos hM, if_pos hM]
    · obtain ⟨L, F, f, hL, hl1, hl2, hF, hF1, hF2, hf1, hf2, hd, hLL⟩ := dOf_parts h0 hf hM
      rw [double_write hl1 hl2 (by omega) (by omega) (by omega)]
      congr 1
      unfold dOf
      rw [if_neg hM, ← hLL]
  have hlt : dOf b < 9218868437227405312 := by
    by_cases hM : (fMag b).toNat = 0
    · unfold dOf; rw [if_pos hM]; decide
    · obtain ⟨L, F, f, hL, hl1, hl2, hF, hF1, hF2, hf1, hf2, hd, hLL⟩ := dOf_parts h0 hf hM
      rw [hd]
      omega
  unfold floatToFloatBits
  rw [if_neg (by decide), hr]
  simp only
  rw [he]
  have h2 : (FloatKind.f64.decode (Ieee.double.word (decide (2147483648 ≤ b)) (dOf b))).isInfinity = false := read_fin hlt
  rw [h2]
  rfl

theorem read_norm {F f : Nat} (h1 : 1 ≤ F) (h2 : F ≤ 2046) (hf : f < 4503599627370496) : Ieee.double.read (F * 4503599627370496 + f) = .number false (4503599627370496 + f) ((F : Int) - 1075) := by
  obtain ⟨e1, e2, e3, e4⟩ := d_consts
  unfold Ieee.Format.read
  simp only [e1, e2, e3, e4]
  have hX : F * 4503599627370496 + f < 9218868437227405312 := by omega
  have hs : ((F * 4503599627370496 + f) / 9223372036854775808 % 2 == 1) = false := by
    have : (F * 4503599627370496 + f) / 9223372036854775808 = 0 := Nat.div_eq_of_lt (by omega)
    rw [this]; rfl
  rw [hs, Nat.mod_eq_of_lt (by omega), if_neg (by omega), if_pos hX]
  have q1 : (F * 4503599627370496 + f) % 4503599627370496 = f := by omega
  have q2 : (F * 4503599627370496 + f) / 4503599627370496 = F := by omega
  rw [q1, q2]
  congr 1
  omega

theorem cut_ieee {way : Ieee.Toward} (hw : way = .even ∨ way = .zero) {neg : Bool} {m k : Nat} (hm : m ≠ 0) : way.cut neg (m * 2 ^ k) k = m := by
  have hmk : m * 2 ^ k ≠ 0 := Nat.mul_ne_zero hm (Nat.ne_of_gt (Nat.two_pow_pos _))
  have hlog : k ≤ (m * 2 ^ k).log2 := (Nat.le_log2 hmk).2 (by
    have : 1 * 2 ^ k ≤ m * 2 ^ k := Nat.mul_le_mul_right _ (by omega)
    omega)
  have hmin : min k ((m * 2 ^ k).log2 + 2) = k := by omega
  unfold Ieee.Toward.cut
  simp only [hmin, Nat.shiftLeft_eq, Nat.one_mul]
  rw [Nat.mul_div_cancel _ (Nat.two_pow_pos _), Nat.mul_mod_left]
  rcases hw with rfl | rfl
  · have : (decide (2 ^ k < 2 * 0) || (2 ^ k == 2 * 0 && m % 2 == 1)) = false := by
      have hp := Nat.two_pow_pos k
      have h1 : decide (2 ^ k < 2 * 0) = false := by simp
      have h2 : (2 ^ k == 2 * 0) = false := by rw [beq_eq_false_iff_ne]; omega
      rw [h1, h2]; rfl
    simp only [this]
    rfl
  · rfl

theorem mul_one_word {F f : Nat} (h1 : 1 ≤ F) (h2 : F ≤ 2046) (hf : f < 4503599627370496) : floatBits .mul .f64 4607182418800017408 (F * 4503599627370496 + f) = some (F * 4503599627370496 + f) := by
  obtain ⟨e1, e2, e3, e4⟩ := d_consts
  have hone : Ieee.double.read 4607182418800017408 = .number false 4503599627370496 (-52) := by
    have := read_norm (F := 1023) (f := 0) (by decide) (by decide) (by decide)
    exact this
  show ((Ieee.double.read 4607182418800017408).product (Ieee.double.read (F * 4503599627370496 + f))).map Ieee.double.write = _
  rw [hone, read_norm h1 h2 hf]
  simp only [Ieee.Datum.product, Option.map_some, Bool.xor_self]
  congr 1
  show Ieee.double.nearest false (4503599627370496 * (4503599627370496 + f)) (-52 + ((F : Int) - 1075)) = _
  have hm : 4503599627370496 + f ≠ 0 := by omega
  have hne : 4503599627370496 * (4503599627370496 + f) ≠ 0 := Nat.mul_ne_zero (by decide) hm
  have hlog : (4503599627370496 * (4503599627370496 + f)).log2 = 104 := by
    apply Nat.le_antisymm
    · apply Nat.lt_succ_iff.1
      apply (Nat.log2_lt hne).2
      show 4503599627370496 * (4503599627370496 + f) < 4503599627370496 * 9007199254740992
      exact Nat.mul_lt_mul_of_pos_left (by omega) (by decide)
    · apply (Nat.le_log2 hne).2
      show 4503599627370496 * 4503599627370496 ≤ _
      exact Nat.mul_le_mul_left _ (by omega)
  unfold Ieee.Format.nearest
  rw [if_neg hne]
  simp only [hlog, e2, e3, e4]
  have hfb : Ieee.double.fractionBits = 52 := rfl
  have hlast : max (-52 + ((F : Int) - 1075) + ((104 : Nat) : Int) - ((Ieee.double.fractionBits : Nat) : Int)) (-1074) = (F : Int) - 1075 := by rw [hfb]; omega
  rw [hlast]
  have hcut : Ieee.Toward.even.cut false ((4503599627370496 * (4503599627370496 + f)) <<< (-52 + ((F : Int) - 1075) - ((F : Int) - 1075)).toNat) ((F : Int) - 1075 - (-52 + ((F : Int) - 1075))).toNat = 4503599627370496 + f := by
    rw [show (-52 + ((F : Int) - 1075) - ((F : Int) - 1075)).toNat = 0 by omega, show ((F : Int) - 1075 - (-52 + ((F : Int) - 1075))).toNat = 52 by omega, Nat.shiftLeft_zero, Nat.mul_comm]
    exact cut_ieee (way := .even) (neg := false) (m := 4503599627370496 + f) (k := 52) (.inl rfl) hm
  rw [hcut, show ((F : Int) - 1075 - -1074).toNat = F - 1 by omega]
  unfold Ieee.Format.word
  rw [if_neg (by decide)]
  have hle : (F - 1) * 4503599627370496 + (4503599627370496 + f) = F * 4503599627370496 + f := by omega
  rw [hle]
  exact Nat.min_eq_left (by omega)

theorem toInt_word {f n : Nat} (hf : f < 4503599627370496) (hn : 4503599627370496 + f = n * 536870912) : floatToIntVal .f64 (1046 * 4503599627370496 + f) .u32 = some (n : Int) := by
  have hn0 : n ≠ 0 := by omega
  have hd : (FloatKind.f64.decode (1046 * 4503599627370496 + f)).toInt .zero = some (n : Int) := by
    show (Ieee.double.read (1046 * 4503599627370496 + f)).toInt .zero = _
    rw [read_norm (by decide) (by decide) hf]
    simp only [Ieee.Datum.toInt, Ieee.Datum.integral]
    have hc : Ieee.Toward.zero.cut false ((4503599627370496 + f) <<< (((1046 : Nat) : Int) - 1075).toNat) (-(((1046 : Nat) : Int) - 1075)).toNat = n := by
      rw [show (((1046 : Nat) : Int) - 1075).toNat = 0 by decide, show (-(((1046 : Nat) : Int) - 1075)).toNat = 29 by decide, Nat.shiftLeft_zero, hn]
      exact cut_ieee (way := .zero) (neg := false) (m := n) (k := 29) (.inr rfl) hn0
    rw [hc]
    simp [Ieee.signed]
  unfold floatToIntVal
  rw [hd]
  simp only
  rw [if_pos ⟨by show (0 : Int) ≤ n; omega, by show (n : Int) ≤ 4294967295; omega⟩]

theorem toInt_zero : floatToIntVal .f64 0 .u32 = some 0 := by decide

end Go.Proofs.YtladfpljnaippabDoor

/-
  The library's functions on words of 64 bits: Abs, IsNaN, IsInf, Frexp, Ldexp, Signbit.
-/
namespace Go.Proofs.YtladfpljnaippabDoor
open Go.RowKit

theorem run_f64bits (n : Nat) (w : World) : (callFunc 89 #[.float .f64 n]).run Tryd.prog w = .ok (.value (.int .u64 n)) w := by
  rw [run_callFunc_extern (e := Extern.MathFloatBits.float64bits) Tryd.func89 (by kernel_rfl) (by kernel_rfl) (by kernel_rfl) (by kernel_rfl)]
  rfl

theorem run_f64from (b : Int) (w : World) : (callFunc 88 #[.int .u64 b]).run Tryd.prog w = .ok (.value (.float .f64 b.toNat)) w := by
  rw [run_callFunc_extern (e := Extern.MathFloatBits.float64frombits) Tryd.func88 (by kernel_rfl) (by kernel_rfl) (by kernel_rfl) (by kernel_rfl)]
  rfl

theorem run_frombits32 (b : Int) (w : World) : (callFunc 43 #[.int .u32 b]).run Tryd.prog w = .ok (.value (.float .f32 b.toNat)) w := by
  rw [run_callFunc_extern (e := Extern.MathFloatBits.float32frombits) Tryd.func43 (by kernel_rfl) (by kernel_rfl) (by kernel_rfl) (by kernel_rfl)]
  rfl

set_option maxHeartbeats 1000000 in
theorem absF_any (W X : Nat) (w : World) (hW : W < 18446744073709551616) (hX : W % 9223372036854775808 = X) :
    Calls Tryd.prog 47 #[.float .f64 W] w fun e w' => e = .returned (.float .f64 X) ∧ Below w.heap.size w w' := by
  have hb := bits_abs W hW
  rw [hX] at hb
  have h1 := run_f64bits
  have h2 := run_f64from
  clear hX hW
  go_enter Tryd.func47, Tryd.ntmps47
  go_wp2
  go_ret
  exact ⟨by simp, Below.refl _ _⟩

theorem isNaN64_any (W : Nat) (b : Bool) (w : World) (h : (FloatKind.f64.format.order W W != some .eq) = b) :
    Calls Tryd.prog 44 #[.float .f64 W] w fun e w' => e = .returned (.bool b) ∧ Below w.heap.size w w' := by
  go_enter Tryd.func44, Tryd.ntmps44
  go_wp2
  go_ret
  exact ⟨by rw [← h]; rfl, Below.refl _ _⟩

set_option maxHeartbeats 1000000 in
theorem isInf64_any (W X : Nat) (b : Bool) (w : World) (hW : W < 18446744073709551616) (hX : W % 9223372036854775808 = X) (h : (FloatKind.f64.format.order X 9218868437227405311 == some .gt) = b) :
    Calls Tryd.prog 45 #[.float .f64 W, .int .i64 0] w fun e w' => e = .returned (.bool b) ∧ Below w.heap.size w w' := by
  have HH : Hid ((FloatKind.f64.format.order X 9218868437227405311 == some .gt) = b) := h
  clear h
  go_enter Tryd.func45, Tryd.ntmps45
  go_wp2_with fail
  refine (absF_any W X _ hW hX).mono ?_
  rintro e w1 ⟨rfl, hb1⟩
  have HB : Hid (Below w.heap.size w w1) := hb1
  clear hb1
  go_wp2
  go_ret
  exact ⟨by rw [← HH.out]; rfl, HB.out⟩

theorem ord64 {X Y : Nat} (hX : X < 9218868437227405312) (hY : Y < 9218868437227405312) : FloatKind.f64.format.order X Y = some (compare (X : Int) (Y : Int)) := double_order hX hY

set_option maxHeartbeats 1000000 in
theorem normF_any (X : Nat) (w : World) (h1 : 4503599627370496 ≤ X) (h2 : X < 9218868437227405312) :
    Calls Tryd.prog 112 #[.float .f64 X] w fun e w' => e = .returned (.tuple #[.float .f64 X, .int .i64 0]) ∧ Below w.heap.size w w' := by
  have ho : (FloatKind.f64.format.order X 4503599627370496 == some .lt) = false := by
    rw [ord64 h2 (by decide), order_lt]
    simp
    omega
  go_enter Tryd.func112, Tryd.ntmps112
  go_wp2_with fail
  refine (absF_any X X _ (by omega) (Nat.mod_eq_of_lt (by omega))).mono ?_
  rintro e w1 ⟨rfl, hb1⟩
  have HB : Hid (Below w.heap.size w w1) := hb1
  clear hb1
  go_wp2
  refine bodyPost_ret (v := .tuple #[.float .f64 X, .int .i64 0]) (by simp [results, Tryd.results112, go_sem]) rfl ?_
  exact ⟨rfl, HB.out⟩

theorem fin64 {X : Nat} (h : X < 9218868437227405312) : (FloatKind.f64.format.order X X != some .eq) = false ∧ (FloatKind.f64.format.order X 9218868437227405311 == some .gt) = false := by
  constructor
  · rw [ord64 h h]
    exact order_self
  · rw [ord64 h (by decide), order_gt]
    simp
    omega

set_option maxHeartbeats 2000000 in
theorem frexp_any (X F f : Nat) (w : World) (hX : X = F * 4503599627370496 + f) (h1 : 1 ≤ F) (h2 : F ≤ 2046) (hf : f < 4503599627370496) :
    Calls Tryd.prog 46 #[.float .f64 X] w fun e w' => e = .returned (.tuple #[.float .f64 (1022 * 4503599627370496 + f), .int .i64 ((F : Int) - 1022)]) ∧ Below w.heap.size w w' := by
  have hlt : X < 9218868437227405312 := by omega
  obtain ⟨o1, o2⟩ := fin64 hlt
  have o3 : (FloatKind.f64.format.order X 0 == some .eq) = false := by
    rw [ord64 hlt (by decide), Int.compare_eq_gt.2 (by omega)]
    rfl
  have q1 : (X : Int) / 4503599627370496 = F := by omega
  have q2 := bits_exp F (by omega)
  have q3 := bits_frac X (by omega)
  rw [show X % 4503599627370496 = f by omega] at q3
  have q4 := bits_join f 1022 hf (by decide)
  rw [show ((1022 * 4503599627370496 : Nat) : Int) = 4602678819172646912 from rfl] at q4
  have e1 := run_f64bits
  have e2 := run_f64from
  have HX : Hid (X = F * 4503599627370496 + f) := hX
  clear hX
  have FR : ∀ w, Calls Tryd.prog 87 #[.float .f64 X] w fun e w' => e = .returned (.tuple #[.float .f64 (1022 * 4503599627370496 + f), .int .i64 ((F : Int) - 1022)]) ∧ Below w.heap.size w w' := by
    intro w
    go_enter Tryd.func87, Tryd.ntmps87
    go_wp2_with fail
    refine (isInf64_any X X false _ (by omega) (Nat.mod_eq_of_lt (by omega)) o2).mono ?_
    rintro e w1 ⟨rfl, hb1⟩
    go_wp2_with fail
    refine (isNaN64_any X false _ o1).mono ?_
    rintro e w2 ⟨rfl, hb2⟩
    go_wp2_with fail
    refine (normF_any X _ (by have := HX.out; omega) hlt).mono ?_
    rintro e w3 ⟨rfl, hb3⟩
    have HB : Hid (Below w.heap.size w w3) := (hb1.trans (hb2.mono hb1.size)).trans (hb3.mono (Nat.le_trans hb1.size hb2.size))
    clear hb1 hb2 hb3
    go_wp2
    refine bodyPost_ret (v := .tuple #[.float .f64 (1022 * 4503599627370496 + f), .int .i64 ((F : Int) - 1022)]) (by simp [results, Tryd.results87, go_sem]; omega) rfl ?_
    exact ⟨rfl, HB.out⟩
  go_enter Tryd.func46, Tryd.ntmps46
  go_wp2_with fail
  refine (FR _).mono ?_
  rintro e w1 ⟨rfl, hb1⟩
  have HB : Hid (Below w.heap.size w w1) := hb1
  clear hb1 FR
  go_wp2
  refine bodyPost_ret (v := .tuple #[.float .f64 (1022 * 4503599627370496 + f), .int .i64 ((F : Int) - 1022)]) (by simp [results, Tryd.results46, go_sem]) rfl ?_
  exact ⟨rfl, HB.out⟩

set_option maxHeartbeats 1000000 in
theorem frexp_zero (w : World) :
    Calls Tryd.prog 46 #[.float .f64 0] w fun e w' => e = .returned (.tuple #[.float .f64 0, .int .i64 0]) ∧ Below w.heap.size w w' := by
  have o3 : (FloatKind.f64.format.order 0 0 == some .eq) = true := by decide
  have FR : ∀ w, Calls Tryd.prog 87 #[.float .f64 0] w fun e w' => e = .returned (.tuple #[.float .f64 0, .int .i64 0]) ∧ Below w.heap.size w w' := by
    intro w
    go_enter Tryd.func87, Tryd.ntmps87
    go_wp2
    refine bodyPost_ret (v := .tuple #[.float .f64 0, .int .i64 0]) (by simp [results, Tryd.results87, go_sem]) rfl ?_
    exact ⟨rfl, Below.refl _ _⟩
  go_enter Tryd.func46, Tryd.ntmps46
  go_wp2_with fail
  refine (FR _).mono ?_
  rintro e w1 ⟨rfl, hb1⟩
  have HB : Hid (Below w.heap.size w w1) := hb1
  clear hb1 FR
  go_wp2
  refine bodyPost_ret (v := .tuple #[.float .f64 0, .int .i64 0]) (by simp [results, Tryd.results46, go_sem]) rfl ?_
  exact ⟨rfl, HB.out⟩

set_option maxHeartbeats 4000000 in
theorem ldexp_any (f : Nat) (w : World) (hf : f < 4503599627370496) :
    Calls Tryd.prog 48 #[.float .f64 (1022 * 4503599627370496 + f), .int .i64 24] w fun e w' => e = .returned (.float .f64 (1046 * 4503599627370496 + f)) ∧ Below w.heap.size w w' := by
  obtain ⟨X, hX⟩ : ∃ X, X = 1022 * 4503599627370496 + f := ⟨_, rfl⟩
  obtain ⟨Y, hY⟩ : ∃ Y, Y = 1046 * 4503599627370496 + f := ⟨_, rfl⟩
  rw [← hX, ← hY]
  have hlt : X < 9218868437227405312 := by omega
  obtain ⟨o1, o2⟩ := fin64 hlt
  have o3 : (FloatKind.f64.format.order X 0 == some .eq) = false := by
    rw [ord64 hlt (by decide), Int.compare_eq_gt.2 (by omega)]
    rfl
  have q1 : (X : Int) / 4503599627370496 = 1022 := by omega
  have q2 : bits .and .i64 1022 2047 = 1022 := bits_expI 1022 (by decide)
  have q3 := bits_frac X (by omega)
  rw [show X % 4503599627370496 = f by omega] at q3
  have q4 := bits_join f 1046 hf (by decide)
  rw [show ((1046 * 4503599627370496 : Nat) : Int) = 4710765210229538816 from rfl, ← hY] at q4
  have q5 := mul_one_word (F := 1046) (f := f) (by decide) (by decide) hf
  rw [← hY] at q5
  have hop : ∀ t w, (binOp .mul t (.float .f64 4607182418800017408) (.float .f64 Y)).run Tryd.prog w = .ok (.float .f64 Y) w := fun t w => run_float_arith w .mul t .f64 _ _ _ q5
  have e1 := run_f64bits
  have e2 := run_f64from
  have HX : Hid (X = 1022 * 4503599627370496 + f) := hX
  clear hX hY q5
  have LD : ∀ w, Calls Tryd.prog 91 #[.float .f64 X, .int .i64 24] w fun e w' => e = .returned (.float .f64 Y) ∧ Below w.heap.size w w' := by
    intro w
    go_enter Tryd.func91, Tryd.ntmps91
    go_wp2_with fail
    refine (isInf64_any X X false _ (by omega) (Nat.mod_eq_of_lt (by omega)) o2).mono ?_
    rintro e w1 ⟨rfl, hb1⟩
    go_wp2_with fail
    refine (isNaN64_any X false _ o1).mono ?_
    rintro e w2 ⟨rfl, hb2⟩
    go_wp2_with fail
    refine (normF_any X _ (by have := HX.out; omega) hlt).mono ?_
    rintro e w3 ⟨rfl, hb3⟩
    have HB : Hid (Below w.heap.size w w3) := (hb1.trans (hb2.mono hb1.size)).trans (hb3.mono (Nat.le_trans hb1.size hb2.size))
    clear hb1 hb2 hb3
    go_wp2
    go_ret
    exact ⟨by simp, HB.out⟩
  go_enter Tryd.func48, Tryd.ntmps48
  go_wp2_with fail
  refine (LD _).mono ?_
  rintro e w1 ⟨rfl, hb1⟩
  have HB : Hid (Below w.heap.size w w1) := hb1
  clear hb1 LD
  go_wp2
  go_ret
  exact ⟨rfl, HB.out⟩

set_option maxHeartbeats 1000000 in
theorem ldexp_zero (w : World) :
    Calls Tryd.prog 48 #[.float .f64 0, .int .i64 24] w fun e w' => e = .returned (.float .f64 0) ∧ Below w.heap.size w w' := by
  have o3 : (FloatKind.f64.format.order 0 0 == some .eq) = true := by decide
  have LD : ∀ w, Calls Tryd.prog 91 #[.float .f64 0, .int .i64 24] w fun e w' => e = .returned (.float .f64 0) ∧ Below w.heap.size w w' := by
    intro w
    go_enter Tryd.func91, Tryd.ntmps91
    go_wp2
    go_ret
    exact ⟨rfl, Below.refl _ _⟩
  go_enter Tryd.func48, Tryd.ntmps48
  go_wp2_with fail
  refine (LD _).mono ?_
  rintro e w1 ⟨rfl, hb1⟩
  have HB : Hid (Below w.heap.size w w1) := hb1
  clear hb1 LD
  go_wp2
  go_ret
  exact ⟨rfl, HB.out⟩

set_option maxHeartbeats 1000000 in
theorem signbit_any (neg : Bool) (X : Nat) (w : World) (hX : X < 9223372036854775808) :
    Calls Tryd.prog 51 #[.float .f64 (Ieee.double.word neg X)] w fun e w' => e = .returned (.bool neg) ∧ Below w.heap.size w w' := by
  obtain ⟨W, hW⟩ : ∃ W, W = Ieee.double.word neg X := ⟨_, rfl⟩
  rw [← hW]
  have e1 := run_f64bits
  cases neg
  · have h1 : W < 9223372036854775808 := by rw [hW]; exact hX
    clear hW
    go_enter Tryd.func51, Tryd.ntmps51
    go_wp2
    go_ret
    exact ⟨by first | (simp; done) | (simp; omega), Below.refl _ _⟩
  · have h1 : W = 9223372036854775808 + X := hW
    have h2 : 9223372036854775808 ≤ W := by omega
    have h3 : W < 18446744073709551616 := by omega
    clear hW h1
    go_enter Tryd.func51, Tryd.ntmps51
    go_wp2
    go_ret
    exact ⟨by simp [wrap64]; omega, Below.refl _ _⟩

end Go.Proofs.YtladfpljnaippabDoor

/-
  The program: the zeros below the lowest bit that is set.
-/
namespace Go.Proofs.YtladfpljnaippabDoor
open Go.RowKit

set_option maxHeartbeats 2000000 in
theorem lowZ_any (a : Option Addr) (c : Nat) (zs : List Int) (w : World) (hn : zs.length ≤ 100000) (hz : RowAt .u32 w a zs) (hcz : Canon 4294967296 zs) (hne : zs ≠ []) (hT : Tab w) :
    Calls Tryd.prog 79 #[.slice a zs.length c] w fun e w' => ∃ t : Nat, e = .returned (.int .i64 t) ∧ t ≤ 32 * zs.length ∧ Twos (val 4294967296 zs) t ∧ Below w.heap.size w w' := by
  have HP : Hid (0 < val 4294967296 zs) := val_pos (B := 4294967296) (by decide) hcz hne
  have HD : Hid (Dig 4294967296 zs) := hcz.1
  obtain ⟨b, off, rfl, hb, hc⟩ := hz.resolve_left hne
  have HC : Hid (∀ j, j < zs.length → w.cell? ⟨b, off + j, none⟩ = some (.int .u32 (zs.getD j 0))) := hc
  have HT : Hid (Tab w) := hT
  have hlen : zs.length ≠ 0 := fun e => hne (List.length_eq_zero_iff.1 e)
  clear hz hcz hne hc hT hb
  go_enter Tryd.func79, Tryd.ntmps79
  go_wp2
  go_loop [3, 4, 7] (fun _ _ i => ∃ j : Nat, j < zs.length ∧ i = .int .i64 j ∧ Hid (anyN (zs.take j) = false)) (fun _ _ i => zs.length - (intOf i).toNat)
  case atStart => exact ⟨0, by omega, rfl, rfl⟩
  case round =>
    obtain ⟨j, hj, rfl, hany⟩ := hrel
    have g1 := HC.out j hj
    have hst := anyN_take hj
    obtain ⟨y, hy⟩ : ∃ y, y = zs.getD j 0 := ⟨_, rfl⟩
    have hyb := HD.out.at (by decide) j
    rw [← hy] at g1 hst hyb
    have hji : (j : Int) < zs.length := by omega
    by_cases hy0 : y = 0
    · have hany2 : anyN (zs.take (j + 1)) = false := by rw [hst, hany.out, hy0]; rfl
      have hj2 : j + 1 < zs.length := by
        by_cases hp : j + 1 < zs.length
        · exact hp
        · have : zs.take (j + 1) = zs := List.take_of_length_le (by omega)
          rw [this, anyN_false (B := 4294967296) (by decide) HD.out] at hany2
          have := HP.out
          omega
      have HA : Hid (anyN (zs.take (j + 1)) = false) := hany2
      subst hy0
      clear hst hany hany2 hy
      go_wp2
      go_round
      case rel => exact ⟨j + 1, hj2, by go_num, HA⟩
      case measure => simp [intOf]; omega
    · have hy1 : (y != 0) = true := by rw [bne_iff_ne]; exact hy0
      have HV0 : Hid (val 4294967296 (zs.take j) = 0) := (anyN_false (B := 4294967296) (by decide) (HD.out.take j)).1 hany.out
      have HY : Hid (y = zs.getD j 0) := hy
      obtain ⟨hyb0, hyb1⟩ := hyb
      clear hst hany hy
      go_wp2_with fail
      refine (tz_any y _ (by omega) hyb1 HT.out).mono ?_
      rintro e w1 ⟨t, rfl, ht, ⟨q, hq, ho⟩, hb1⟩
      have HT2 : Hid (Twos (val 4294967296 zs) (32 * j + t)) := twos_of (b := 32) hj HV0.out (by rw [← HY.out]; exact hq) ho ht
      have HB : Hid (Below w.heap.size w w1) := hb1
      have ht' : (t : Int) < 32 := by omega
      clear hb1 hq ho
      go_wp2
      refine bodyPost_ret (v := .int .i64 (32 * (j : Int) + t)) (by simp [results, Tryd.results79, go_sem]) rfl ?_
      exact ⟨32 * j + t, by simp, by omega, HT2.out, HB.out⟩

end Go.Proofs.YtladfpljnaippabDoor

/-
  Magnitudes that the program hands back.
-/
namespace Go.Proofs.YtladfpljnaippabDoor
open Go.RowKit

/-- A magnitude in new memory: no zero at its upper end, of the value v, of at most n limbs. -/
def MagOut (w : World) (v : Int) (n : Nat) (e : Ending) (w' : World) : Prop :=
  ∃ (a : Option Addr) (c : Nat) (fs : List Int), e = .returned (.slice a fs.length c) ∧ fs.length ≤ c ∧ c ≤ maxLen ∧ Canon 4294967296 fs ∧ val 4294967296 fs = v ∧ fs.length ≤ n ∧ RowNew .u32 w' w.heap.size a fs ∧ Below w.heap.size w w'

theorem set_mid {l1 l2 : List Int} {z d : Int} {k : Nat} (h : l1.length = k) : (l1 ++ z :: l2).set k d = l1 ++ d :: l2 := by
  subst h
  simp

theorem own_step {out : List Int} {n k : Nat} {d : Int} (h : out.length = k) (hk : k < n) : (out ++ List.replicate (n + 1 - k) 0).set k d = (out ++ [d]) ++ List.replicate (n + 1 - (k + 1)) 0 := by
  rw [show n + 1 - k = (n + 1 - (k + 1)) + 1 by omega, List.replicate_succ, set_mid h]
  simp

theorem own_last {out : List Int} {n : Nat} {d : Int} (h : out.length = n) : (out ++ List.replicate (n + 1 - n) 0).set n d = out ++ [d] := by
  rw [show n + 1 - n = 0 + 1 by omega, List.replicate_succ, set_mid h]
  simp

end Go.Proofs.YtladfpljnaippabDoor

/-
  Plain mathematics and bits: a limb shifted up within the next one.
-/
namespace Go.Proofs.YtladfpljnaippabDoor

theorem pow32 (n : Int) (h : 0 ≤ n) : (4294967296 : Int) ^ (n / 32).toNat * 2 ^ (n % 32).toNat = 2 ^ n.toNat := by
  rw [show (4294967296 : Int) = 2 ^ 32 from rfl, ← Int.pow_mul, ← Int.pow_add]
  congr 1
  omega

/-- 2 to a count below 32. -/
theorem two32 (n : Int) : 0 < (2 : Int) ^ (n % 32).toNat ∧ (2 : Int) ^ (n % 32).toNat ≤ 2147483648 := by
  refine ⟨Int.pow_pos (by decide), ?_⟩
  have h : ∀ k, k < 32 → (2 : Int) ^ k ≤ 2147483648 := by decide
  exact h _ (by omega)

theorem two32r (n : Int) : (4294967296 : Int) = 2 ^ (n % 32).toNat * 2 ^ (32 - n % 32).toNat ∧ 0 < (2 : Int) ^ (32 - n % 32).toNat := by
  refine ⟨?_, Int.pow_pos (by decide)⟩
  rw [← Int.pow_add, show (n % 32).toNat + (32 - n % 32).toNat = 32 by omega]; rfl

/-- What is handed on from limb to limb. -/
theorem up_digit {B q r x c : Int} (hB : B = q * r) (hq : 0 < q) (hr : 0 < r) (hc0 : 0 ≤ c) (hc1 : c < q) : c + x * q % B = (x * q + c) % B ∧ x * q / B = (x * q + c) / B := by
  have hBp : 0 < B := by rw [hB]; exact Int.mul_pos hq hr
  have e1 : x * q % B = q * (x % r) := by rw [hB, Int.mul_comm x q, Int.mul_emod_mul_of_pos _ _ hq]
  have hm0 := Int.emod_nonneg x (show r ≠ 0 by omega)
  have hm1 := Int.emod_lt_of_pos x hr
  have h3 : q * (x % r) ≤ q * (r - 1) := Int.mul_le_mul_of_nonneg_left (by omega) (by omega)
  have h4 : 0 ≤ q * (x % r) := Int.mul_nonneg (by omega) hm0
  rw [Int.mul_sub, Int.mul_one, ← hB] at h3
  have h5 := Int.mul_ediv_add_emod (x * q) B
  rw [e1] at h5
  have e2 : x * q + c = (q * (x % r) + c) + B * (x * q / B) := by omega
  constructor
  · have e4 : (q * (x % r) + c) % B = q * (x % r) + c := Int.emod_eq_of_lt (by omega) (by omega)
    rw [e1, e2, Int.add_mul_emod_self_left, e4]
    omega
  · have e3 : (x * q + c) / B = (q * (x % r) + c + B * (x * q / B)) / B := by rw [← e2]
    have e4 : (q * (x % r) + c) / B = 0 := Int.ediv_eq_zero_of_lt (by omega) (by omega)
    rw [e3, Int.add_mul_ediv_left _ _ (by omega), e4]
    omega

theorem or32_nat (a b : Nat) (ha : a < 4294967296) (hb : b < 4294967296) : bits .or .u32 (a : Int) (b : Int) = ((a ||| b : Nat) : Int) := by
  have hx : a ||| b < 2 ^ 32 := Nat.or_lt_two_pow (by omega) (by omega)
  have h1 : (BitVec.ofInt 32 (a : Int)).toNat = a := by
    rw [BitVec.ofInt_natCast, BitVec.toNat_ofNat]; exact Nat.mod_eq_of_lt (by omega)
  have h2 : (BitVec.ofInt 32 (b : Int)).toNat = b := by
    rw [BitVec.ofInt_natCast, BitVec.toNat_ofNat]; exact Nat.mod_eq_of_lt (by omega)
  show IntKind.u32.wrap ((BitVec.ofInt 32 (a : Int) ||| BitVec.ofInt 32 (b : Int)).toNat : Int) = _
  rw [BitVec.toNat_or, h1, h2]
  simp only [IntKind.wrap, IntKind.bits, IntKind.signed]
  have h3 : (2 : Int) ^ 32 = 4294967296 := by decide
  have h4 : (2 : Nat) ^ 32 = 4294967296 := by decide
  simp
  omega

/-- The carry laid into the low bits of what was shifted up. -/
theorem or_up {x c : Int} (n : Int) (hc0 : 0 ≤ c) (hc1 : c < 2 ^ (n % 32).toNat) : bits .or .u32 c (x * 2 ^ (n % 32).toNat % 4294967296) = c + x * 2 ^ (n % 32).toNat % 4294967296 := by
  obtain ⟨e1, hr⟩ := two32r n
  obtain ⟨hq, hq1⟩ := two32 n
  obtain ⟨i, hi⟩ : ∃ i, i = (n % 32).toNat := ⟨_, rfl⟩
  have e2 : x * 2 ^ (n % 32).toNat % 4294967296 = 2 ^ (n % 32).toNat * (x % 2 ^ (32 - n % 32).toNat) := by
    rw [e1, Int.mul_comm x, Int.mul_emod_mul_of_pos _ _ hq]
  have hm0 := Int.emod_nonneg x (show (2 : Int) ^ (32 - n % 32).toNat ≠ 0 by omega)
  have hlt := Int.emod_lt_of_pos (x * 2 ^ (n % 32).toNat) (show (0 : Int) < 4294967296 by decide)
  rw [e2] at hlt ⊢
  rw [← hi] at hlt hc1 ⊢
  obtain ⟨y, hy⟩ := Int.eq_ofNat_of_zero_le hm0
  obtain ⟨b, rfl⟩ := Int.eq_ofNat_of_zero_le hc0
  rw [hy] at hlt ⊢
  have e3 : (2 : Int) ^ i * (y : Int) = ((2 ^ i * y : Nat) : Int) := by simp
  rw [e3] at hlt ⊢
  have hb : b < 2 ^ i := by
    have h : (b : Int) < ((2 ^ i : Nat) : Int) := by simpa using hc1
    omega
  have hbb : b < 4294967296 := by
    have h : (2 : Nat) ^ i ≤ 2 ^ 31 := Nat.pow_le_pow_right (by decide) (by omega)
    have h2 : (2 : Nat) ^ 31 = 2147483648 := by decide
    omega
  rw [or32_nat b (2 ^ i * y) hbb (by omega), Nat.or_comm, ← Nat.two_pow_add_eq_or_of_lt hb]
  omega

end Go.Proofs.YtladfpljnaippabDoor

/-
  The program's shifts up.
-/
namespace Go.Proofs.YtladfpljnaippabDoor
open Go.RowKit

/-- The row of a shift up that has come to limb k: zeros below, k limbs done, the carry, zeros above. -/
def upRow (s : Nat) (D : List Int) (c : Int) (m : Nat) : List Int := List.replicate s 0 ++ (D ++ c :: List.replicate m 0)

theorem upRow_length (s : Nat) (D : List Int) (c : Int) (m : Nat) : (upRow s D c m).length = s + (D.length + (m + 1)) := by simp [upRow]

theorem upRow_get (s : Nat) (D : List Int) (c : Int) (m : Nat) : (upRow s D c m).getD (s + D.length) 0 = c := by
  unfold upRow
  rw [List.getD_eq_getElem?_getD, List.getElem?_append_right (by simp), List.length_replicate, show s + D.length - s = D.length by omega, List.getElem?_append_right (Nat.le_refl _)]
  simp

theorem upRow_set (s : Nat) (D : List Int) (c d e : Int) (m : Nat) : ((upRow s D c (m + 1)).set (s + D.length) d).set (s + D.length + 1) e = upRow s (D ++ [d]) e m := by
  unfold upRow
  rw [List.replicate_succ]
  have h1 : (List.replicate s (0 : Int) ++ (D ++ c :: 0 :: List.replicate m 0)).set (s + D.length) d = List.replicate s 0 ++ (D ++ d :: 0 :: List.replicate m 0) := by
    rw [List.set_append_right _ _ (by simp), List.length_replicate, show s + D.length - s = D.length by omega, List.set_append_right _ _ (Nat.le_refl _)]
    simp
  rw [h1, List.set_append_right _ _ (by simp; omega), List.length_replicate, show s + D.length + 1 - s = D.length + 1 by omega, List.set_append_right _ _ (by omega)]
  simp

set_option maxHeartbeats 4000000 in
theorem upI_any (a : Option Addr) (p : Nat) (zs : List Int) (n : Int) (w : World) (hn : zs.length ≤ 100000) (n0 : 0 ≤ n) (n1 : n ≤ 1000000) (hz : RowAt .u32 w a zs) (hdz : Dig 4294967296 zs) :
    Calls Tryd.prog 93 #[.slice a zs.length p, .int .i64 n] w fun e w' => MagOut w (val 4294967296 zs * 2 ^ n.toNat) (zs.length + (n / 32).toNat + 1) e w' := by
  obtain ⟨q0, q1⟩ := two32 n
  obtain ⟨e1, r0⟩ := two32r n
  obtain ⟨s, hs⟩ : ∃ s : Nat, n / 32 = (s : Int) := ⟨(n / 32).toNat, by omega⟩
  have hsb : s ≤ 31250 := by omega
  have HV : Hid (4294967296 ^ s * (val 4294967296 zs * 2 ^ (n % 32).toNat) = val 4294967296 zs * 2 ^ n.toNat) := by
    unfold Hid
    rw [Int.mul_comm (val 4294967296 zs), ← Int.mul_assoc, show s = (n / 32).toNat by omega, pow32 n n0, Int.mul_comm]
  have HE1 : Hid ((4294967296 : Int) = 2 ^ (n % 32).toNat * 2 ^ (32 - n % 32).toNat) := e1
  have hmk := run_make_row' (P := Tryd.prog) 86 33 (.int .u32 0) 4 Tryd.underlying86 Tryd.info33 rfl .i64 .i64 (s + zs.length + 1) (by omega) (by omega)
  rw [show ((s + zs.length + 1 : Nat) : Int) = (s : Int) + (zs.length : Int) + 1 by omega] at hmk
  have HSN : Hid ((n / 32).toNat = s) := by unfold Hid; omega
  clear e1
  go_enter Tryd.func93, Tryd.ntmps93
  go_wp2
  go_loopw [23] (fun t wr => ∃ (k : Nat) (c : Int) (D : List Int), k ≤ zs.length ∧ D.length = k ∧ t = .int .i64 k ∧ 0 ≤ c ∧ c < 2 ^ (n % 32).toNat ∧ Hid (carryD 4294967296 (timesL (2 ^ (n % 32).toNat) zs) 0 = D ++ carryD 4294967296 (timesL (2 ^ (n % 32).toNat) (zs.drop k)) c) ∧ Hid (carryO 4294967296 (timesL (2 ^ (n % 32).toNat) zs) 0 = carryO 4294967296 (timesL (2 ^ (n % 32).toNat) (zs.drop k)) c) ∧
      Own .u32 wr w.heap.size 0 (upRow s D c (zs.length - k)) ∧ Below w.heap.size w wr) (fun t _ => zs.length - (intOf t).toNat)
  case atStart =>
    refine ⟨0, 0, [], Nat.zero_le _, rfl, rfl, by decide, q0, rfl, rfl, ?_, bel0 _ _⟩
    have := Own.made (k := .u32) w (s + zs.length + 1) 33
    have e : upRow s [] 0 (zs.length - 0) = List.replicate (s + zs.length + 1) 0 := by
      unfold upRow
      rw [Nat.sub_zero, List.nil_append, ← List.replicate_succ, List.replicate_append_replicate]
      congr 1
    rw [e]
    exact this
  case round =>
    obtain ⟨k, c, D, hk, hDl, rfl, hc0, hc1, hD, hO, hown, hnx⟩ := hrel
    by_cases hlt : k < zs.length
    · have hb1 := hdz.at (by decide) k
      obtain ⟨b, off, rfl, g1⟩ := row_cell hz hnx hlt
      have ht := timesL_drop (q := 2 ^ (n % 32).toNat) hlt
      obtain ⟨x, hx⟩ : ∃ x, x = zs.getD k 0 := ⟨_, rfl⟩
      rw [← hx] at hb1 g1 ht
      obtain ⟨hb10, hb11⟩ := hb1
      have hp0 := Int.mul_nonneg hb10 (Int.le_of_lt q0)
      have hp1 : x * 2 ^ (n % 32).toNat ≤ 4294967295 * 2147483648 := Int.mul_le_mul (by omega) q1 (by omega) (by decide)
      simp only [Int.reduceMul] at hp1
      have hcar := times_carry (B := 4294967296) (by decide) q0 hb10 hb11 hc0 hc1
      obtain ⟨u1, u2⟩ := up_digit (x := x) HE1.out q0 r0 hc0 hc1
      rw [← u2] at hcar
      have hor := or_up (x := x) n hc0 hc1
      rw [u1] at hor
      have HD : Hid (carryD 4294967296 (timesL (2 ^ (n % 32).toNat) zs) 0 = (D ++ [(x * 2 ^ (n % 32).toNat + c) % 4294967296]) ++ carryD 4294967296 (timesL (2 ^ (n % 32).toNat) (zs.drop (k + 1))) (x * 2 ^ (n % 32).toNat / 4294967296)) := by unfold Hid; rw [hD.out, ht, carryD, u2]; simp
      have HO : Hid (carryO 4294967296 (timesL (2 ^ (n % 32).toNat) zs) 0 = carryO 4294967296 (timesL (2 ^ (n % 32).toNat) (zs.drop (k + 1))) (x * 2 ^ (n % 32).toNat / 4294967296)) := by unfold Hid; rw [hO.out, ht, carryO, u2]
      have hlen := upRow_length s D c (zs.length - k)
      have g2 := hown.cell (s + k) (by rw [hlen]; omega)
      have g3 := hown.free (s + k) (by rw [hlen]; omega)
      have g4 := hown.cell (s + k + 1) (by rw [hlen]; omega)
      have g5 := hown.free (s + k + 1) (by rw [hlen]; omega)
      rw [Nat.zero_add] at g2 g3 g4 g5
      rw [show s + k = s + D.length by omega, upRow_get, hDl] at g2
      have h1 := hown.set (s + k) ((x * 2 ^ (n % 32).toNat + c) % 4294967296) (by rw [hlen]; omega)
      have h2 := h1.set (s + k + 1) (x * 2 ^ (n % 32).toNat / 4294967296) (by rw [List.length_set, hlen]; omega)
      rw [Nat.zero_add, Nat.zero_add, show zs.length - k = (zs.length - (k + 1)) + 1 by omega] at h2
      have h3 := upRow_set s D c ((x * 2 ^ (n % 32).toNat + c) % 4294967296) (x * 2 ^ (n % 32).toNat / 4294967296) (zs.length - (k + 1))
      rw [hDl] at h3
      rw [h3] at h2
      have HS : Hid (Own .u32 ((wr.setCell ⟨w.heap.size, s + k, none⟩ (.int .u32 ((x * 2 ^ (n % 32).toNat + c) % 4294967296))).setCell ⟨w.heap.size, s + k + 1, none⟩ (.int .u32 (x * 2 ^ (n % 32).toNat / 4294967296))) w.heap.size 0 (upRow s (D ++ [(x * 2 ^ (n % 32).toNat + c) % 4294967296]) (x * 2 ^ (n % 32).toNat / 4294967296) (zs.length - (k + 1)))) := h2
      have HB : Hid (Below w.heap.size w ((wr.setCell ⟨w.heap.size, s + k, none⟩ (.int .u32 ((x * 2 ^ (n % 32).toNat + c) % 4294967296))).setCell ⟨w.heap.size, s + k + 1, none⟩ (.int .u32 (x * 2 ^ (n % 32).toNat / 4294967296)))) := (hnx.setCell (Nat.le_refl _) _).setCell (Nat.le_refl _) _
      obtain ⟨hca, hcb⟩ := hcar
      have HCB : Hid (0 ≤ x * 2 ^ (n % 32).toNat / 4294967296 ∧ x * 2 ^ (n % 32).toNat / 4294967296 < 2 ^ (n % 32).toNat) := ⟨hca, hcb⟩
      have hcc : x * 2 ^ (n % 32).toNat / 4294967296 ≤ 4294967295 := by omega
      have HL : Hid (D.length = k) := hDl
      clear h1 h2 h3 u1 u2 hx ht hD hO hown hnx hz hdz hlen hcb
      go_wp2
      go_roundw
      case rel => exact ⟨k + 1, x * 2 ^ (n % 32).toNat / 4294967296, D ++ [(x * 2 ^ (n % 32).toNat + c) % 4294967296], by omega, by rw [List.length_append, HL.out]; rfl, by go_num, HCB.out.1, HCB.out.2, HD, HO, HS.out, HB.out⟩
      case measure => simp [intOf]; omega
    · have hkn : k = zs.length := by omega
      subst hkn
      have hlen := upRow_length s D c (zs.length - zs.length)
      have hDD : carryD 4294967296 (timesL (2 ^ (n % 32).toNat) zs) 0 = D := by
        rw [hD.out, List.drop_eq_nil_of_le (Nat.le_refl _)]; simp [timesL, carryD]
      have hOO : carryO 4294967296 (timesL (2 ^ (n % 32).toNat) zs) 0 = c := by
        rw [hO.out, List.drop_eq_nil_of_le (Nat.le_refl _)]; simp [timesL, carryO]
      have e : upRow s D c (zs.length - zs.length) = List.replicate s 0 ++ (D ++ [c]) := by simp [upRow]
      have hVV : val 4294967296 (upRow s D c (zs.length - zs.length)) = val 4294967296 zs * 2 ^ n.toNat := by
        rw [e, val_up, ← hDD, ← hOO, val_carryDO, val_timesL, Int.add_zero, HV.out]
      have hG : Dig 4294967296 (upRow s D c (zs.length - zs.length)) := by
        rw [e]
        refine Dig.append (Dig.zeros (by decide) _) (Dig.append ?_ (Dig.cons hc0 (by omega) (Dig.nil _)))
        rw [← hDD]
        exact dig_carryD (by decide) _ _
      rw [hDl] at hlen
      obtain ⟨R, hR⟩ : ∃ R, R = upRow s D c (zs.length - zs.length) := ⟨_, rfl⟩
      rw [← hR] at hVV hG hlen hown
      have HVV : Hid (val 4294967296 R = val 4294967296 zs * 2 ^ n.toNat) := hVV
      have HG : Hid (Dig 4294967296 R) := hG
      have HS : Hid (Own .u32 wr w.heap.size 0 R) := hown
      have HB : Hid (Below w.heap.size w wr) := hnx
      have hlen' : s + zs.length + 1 = R.length := by omega
      have HLR : Hid (s + zs.length + 1 = R.length) := hlen'
      clear e hR hVV hG hDD hOO hD hO hown hnx hz hdz hDl hlen hlen'
      go_wp2_with fail
      rw [HLR.out]
      have e1 := HLR.out
      refine (trimmed_any _ _ R _ w.heap.size (by rw [← e1]; omega) (by rw [← e1]; unfold maxLen; omega) (Nat.le_refl _) (fun h => by cases h) (HS.out.new (Nat.le_refl _))).mono ?_
      rintro e w1 ⟨a2, c2, rfl, hf2, hm2, hr2, hw⟩
      subst hw
      have HM : Hid (MagOut w (val 4294967296 zs * 2 ^ n.toNat) (zs.length + (n / 32).toNat + 1) (.returned (.slice a2 (trimL R).length c2)) w1) := by
        refine ⟨a2, c2, trimL R, rfl, hf2, hm2, canon_trim HG.out, by rw [val_trim, HVV.out], ?_, hr2, HB.out⟩
        have := trim_le R
        rw [HSN.out]
        omega
      clear hf2 hm2 hr2 HG HVV HB HS e1
      go_wp2
      go_ret
      exact HM.out

end Go.Proofs.YtladfpljnaippabDoor

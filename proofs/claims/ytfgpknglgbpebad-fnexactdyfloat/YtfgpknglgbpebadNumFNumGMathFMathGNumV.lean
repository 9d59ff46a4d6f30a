/-
  Plain mathematics: the bits of a float of 32 bits, and the order of two floats.
-/
import Derived.Test.YtfgpknglgbpebadNumD
import Ieee.Arith
import Derived.Laws.FloatArith
import Derived.Laws.Bits64b
import Derived.Test.YtfgpknglgbpebadBase
import Derived.Laws.Externs
namespace Go.Proofs.Ytfgpknglgbpebad

/-- The value of the bits of a float, as a whole number of the last place of its own. -/
def fMag (b : Int) : Int := if b / 8388608 % 256 = 0 then b % 8388608 else b % 8388608 + 8388608
def fExp (b : Int) : Int := if b / 8388608 % 256 = 0 then 1 else b / 8388608 % 256
def fNum (b : Int) : Int := if 2147483648 ≤ b then -(fMag b) else fMag b
def fFin (b : Int) : Bool := b / 8388608 % 256 != 255
/-- The value in units of 2^-149. -/
def fVal (b : Int) : Int := atK 150 (fNum b) (fExp b - 150)

theorem single_read {b : Int} (h0 : 0 ≤ b) (h1 : b < 4294967296) (hf : fFin b = true) : Ieee.single.read b.toNat = .number (decide (2147483648 ≤ b)) (fMag b).toNat (fExp b - 150) := by
  have hf' : b / 8388608 % 256 ≠ 255 := by simpa [fFin] using hf
  obtain ⟨n, rfl⟩ := Int.eq_ofNat_of_zero_le h0
  have e1 : Ieee.single.signWeight = 2147483648 := by decide
  have e2 : Ieee.single.binade = 8388608 := by decide
  have e3 : Ieee.single.infRung = 2139095040 := by decide
  have e4 : Ieee.single.leastPlace = -149 := by decide
  unfold Ieee.Format.read
  simp only [e1, e2, e3, e4, Int.toNat_natCast]
  have hs : (n / 2147483648 % 2 == 1) = decide ((2147483648 : Int) ≤ (n : Int)) := by
    by_cases h : 2147483648 ≤ n
    · have : n / 2147483648 % 2 = 1 := by omega
      rw [this]
      symm
      simp
      omega
    · have : n / 2147483648 % 2 = 0 := by omega
      rw [this]
      symm
      simp
      omega
  rw [hs]
  by_cases hr : n % 2147483648 < 8388608
  · have hz : (n : Int) / 8388608 % 256 = 0 := by omega
    rw [if_pos hr]
    simp only [fMag, fExp, hz, if_true]
    congr 1
    omega
  · have hz : ¬ ((n : Int) / 8388608 % 256 = 0) := by omega
    rw [if_neg hr, if_pos (by omega)]
    simp only [fMag, fExp, hz, if_false]
    congr 1 <;> omega

theorem fMag_nn {b : Int} (_h0 : 0 ≤ b) : 0 ≤ fMag b := by
  unfold fMag
  split <;> omega

theorem fExp_pos {b : Int} (_h0 : 0 ≤ b) : 1 ≤ fExp b ∧ fExp b ≤ 255 := by
  unfold fExp
  split <;> omega

theorem signed_eq {b : Int} (h0 : 0 ≤ b) (k : Nat) : Ieee.signed (decide (2147483648 ≤ b)) (fMag b).toNat k = fNum b * 2 ^ k := by
  have hm := fMag_nn h0
  have e : (((fMag b).toNat <<< k : Nat) : Int) = fMag b * 2 ^ k := by
    rw [Nat.shiftLeft_eq]
    push_cast
    rw [Int.toNat_of_nonneg hm]
  unfold Ieee.signed fNum
  by_cases h : 2147483648 ≤ b
  · rw [if_pos (by simpa using h), if_pos h, e, Int.neg_mul]
  · rw [if_neg (by simpa using h), if_neg h, e]

theorem single_order {a b : Int} (a0 : 0 ≤ a) (a1 : a < 4294967296) (b0 : 0 ≤ b) (b1 : b < 4294967296) (fa : fFin a = true) (fb : fFin b = true) : Ieee.single.order a.toNat b.toNat = some (compare (fVal a) (fVal b)) := by
  unfold Ieee.Format.order
  rw [single_read a0 a1 fa, single_read b0 b1 fb]
  have ea := fExp_pos a0
  have eb := fExp_pos b0
  simp only [Ieee.Datum.order]
  rw [signed_eq a0, signed_eq b0]
  obtain ⟨m, hm⟩ : ∃ m, m = min (fExp a - 150) (fExp b - 150) := ⟨_, rfl⟩
  rw [← hm]
  have hp : (0 : Int) < 2 ^ (m + 150).toNat := Int.pow_pos (by decide)
  have va : fVal a = fNum a * 2 ^ (fExp a - 150 - m).toNat * 2 ^ (m + 150).toNat := by
    unfold fVal atK
    rw [Int.mul_assoc, ← Int.pow_add, show (fExp a - 150 - m).toNat + (m + 150).toNat = (fExp a - 150 + 150).toNat by omega]
  have vb : fVal b = fNum b * 2 ^ (fExp b - 150 - m).toNat * 2 ^ (m + 150).toNat := by
    unfold fVal atK
    rw [Int.mul_assoc, ← Int.pow_add, show (fExp b - 150 - m).toNat + (m + 150).toNat = (fExp b - 150 + 150).toNat by omega]
  rw [va, vb]
  generalize fNum a * 2 ^ (fExp a - 150 - m).toNat = x
  generalize fNum b * 2 ^ (fExp b - 150 - m).toNat = y
  generalize (2 : Int) ^ (m + 150).toNat = p at hp
  congr 1
  rcases Int.lt_trichotomy x y with h | h | h
  · rw [Int.compare_eq_lt.2 h, Int.compare_eq_lt.2 (Int.mul_lt_mul_of_pos_right h hp)]
  · rw [h, Int.compare_eq_eq.2 rfl, Int.compare_eq_eq.2 rfl]
  · rw [Int.compare_eq_gt.2 h, Int.compare_eq_gt.2 (Int.mul_lt_mul_of_pos_right h hp)]

theorem order_lt {a b : Int} : ((some (compare a b) : Option Ordering) == some .lt) = decide (a < b) := by
  rcases Int.lt_trichotomy a b with h | h | h
  · rw [Int.compare_eq_lt.2 h]; simp [h]
  · subst h; rw [Int.compare_eq_eq.2 rfl]; simp
  · rw [Int.compare_eq_gt.2 h]; simp; omega

theorem order_gt {a b : Int} : ((some (compare a b) : Option Ordering) == some .gt) = decide (b < a) := by
  rcases Int.lt_trichotomy a b with h | h | h
  · rw [Int.compare_eq_lt.2 h]; simp; omega
  · subst h; rw [Int.compare_eq_eq.2 rfl]; simp
  · rw [Int.compare_eq_gt.2 h]; simp [h]

theorem order_self {a : Int} : ((some (compare a a) : Option Ordering) != some .eq) = false := by
  rw [Int.compare_eq_eq.2 rfl]; rfl

end Go.Proofs.Ytfgpknglgbpebad

/-
  Plain mathematics: words of 64 bits: their order, their parts, floats widened.
-/
namespace Go.Proofs.Ytfgpknglgbpebad

/-- The magnitude that a positive word of 64 bits stands for, in units of the least. -/
def dMag (X : Nat) : Nat := if X < 4503599627370496 then X else (4503599627370496 + X % 4503599627370496) * 2 ^ (X / 4503599627370496 - 1)

theorem dMag_lt {X Y : Nat} (h : X < Y) : dMag X < dMag Y := by
  unfold dMag
  have hp : ∀ n, 0 < 2 ^ n := fun n => Nat.two_pow_pos n
  by_cases hX : X < 4503599627370496
  · rw [if_pos hX]
    by_cases hY : Y < 4503599627370496
    · rw [if_pos hY]; exact h
    · rw [if_neg hY]
      have h1 : (4503599627370496 + Y % 4503599627370496) * 1 ≤ (4503599627370496 + Y % 4503599627370496) * 2 ^ (Y / 4503599627370496 - 1) := Nat.mul_le_mul_left _ (hp _)
      omega
  · have hY : ¬ Y < 4503599627370496 := by omega
    rw [if_neg hX, if_neg hY]
    by_cases hF : X / 4503599627370496 = Y / 4503599627370496
    · rw [hF]
      exact Nat.mul_lt_mul_of_pos_right (by omega) (hp _)
    · obtain ⟨k, hk⟩ : ∃ k, Y / 4503599627370496 - 1 = (X / 4503599627370496 - 1) + (k + 1) := ⟨Y / 4503599627370496 - X / 4503599627370496 - 1, by omega⟩
      rw [hk, Nat.pow_add, Nat.pow_succ]
      have h2 : (4503599627370496 + X % 4503599627370496) * 2 ^ (X / 4503599627370496 - 1) < 9007199254740992 * 2 ^ (X / 4503599627370496 - 1) := Nat.mul_lt_mul_of_pos_right (by omega) (hp _)
      have h3 : 9007199254740992 * 2 ^ (X / 4503599627370496 - 1) ≤ (4503599627370496 + Y % 4503599627370496) * (2 ^ (X / 4503599627370496 - 1) * (2 ^ k * 2)) := by
        have h4 : 1 ≤ 2 ^ k := hp k
        have h5 : 9007199254740992 ≤ (4503599627370496 + Y % 4503599627370496) * (2 ^ k * 2) := by
          have : 4503599627370496 * (1 * 2) ≤ (4503599627370496 + Y % 4503599627370496) * (2 ^ k * 2) := Nat.mul_le_mul (by omega) (Nat.mul_le_mul h4 (Nat.le_refl _))
          omega
        calc 9007199254740992 * 2 ^ (X / 4503599627370496 - 1) ≤ ((4503599627370496 + Y % 4503599627370496) * (2 ^ k * 2)) * 2 ^ (X / 4503599627370496 - 1) := Nat.mul_le_mul_right _ h5
          _ = (4503599627370496 + Y % 4503599627370496) * (2 ^ (X / 4503599627370496 - 1) * (2 ^ k * 2)) := by rw [Nat.mul_assoc, Nat.mul_comm (2 ^ k * 2)]
      omega

theorem d_consts : Ieee.double.signWeight = 9223372036854775808 ∧ Ieee.double.binade = 4503599627370496 ∧ Ieee.double.infRung = 9218868437227405312 ∧ Ieee.double.leastPlace = -1074 := by decide

/-- Reading a word below the infinite one. -/
theorem double_read {X : Nat} (h : X < 9218868437227405312) : ∃ (m : Nat) (i : Int), Ieee.double.read X = .number false m i ∧ -1074 ≤ i ∧ m * 2 ^ (i + 1074).toNat = dMag X := by
  obtain ⟨e1, e2, e3, e4⟩ := d_consts
  unfold Ieee.Format.read dMag
  simp only [e1, e2, e3, e4]
  have hs : (X / 9223372036854775808 % 2 == 1) = false := by
    have : X / 9223372036854775808 = 0 := Nat.div_eq_of_lt (by omega)
    rw [this]; rfl
  rw [hs, Nat.mod_eq_of_lt (by omega)]
  by_cases hX : X < 4503599627370496
  · rw [if_pos hX, if_pos hX]
    exact ⟨X, -1074, rfl, by omega, by simp⟩
  · rw [if_neg hX, if_pos (by omega), if_neg hX]
    refine ⟨_, _, rfl, by omega, ?_⟩
    congr 2
    omega

theorem double_order {X Y : Nat} (hX : X < 9218868437227405312) (hY : Y < 9218868437227405312) : Ieee.double.order X Y = some (compare (X : Int) (Y : Int)) := by
  obtain ⟨m, i, e1, hi, h1⟩ := double_read hX
  obtain ⟨n, j, e2, hj, h2⟩ := double_read hY
  unfold Ieee.Format.order
  rw [e1, e2]
  simp only [Ieee.Datum.order, Ieee.signed, Bool.false_eq_true, if_false]
  congr 1
  have key : ∀ {m : Nat} {i b : Int}, b ≤ i → -1074 ≤ b → ((m <<< (i - b).toNat : Nat) : Int) * 2 ^ (b + 1074).toNat = ((m * 2 ^ (i + 1074).toNat : Nat) : Int) := by
    intro m i b hb hb'
    rw [Nat.shiftLeft_eq]
    push_cast
    rw [Int.mul_assoc, ← Int.pow_add, show (i - b).toNat + (b + 1074).toNat = (i + 1074).toNat by omega]
  have k1 := key (m := m) (i := i) (b := min i j) (by omega) (by omega)
  have k2 := key (m := n) (i := j) (b := min i j) (by omega) (by omega)
  rw [h1] at k1
  rw [h2] at k2
  have hp : (0 : Int) < 2 ^ (min i j + 1074).toNat := Int.pow_pos (by decide)
  generalize ((m <<< (i - min i j).toNat : Nat) : Int) = a at *
  generalize ((n <<< (j - min i j).toNat : Nat) : Int) = b at *
  generalize (2 : Int) ^ (min i j + 1074).toNat = p at *
  rcases Nat.lt_trichotomy X Y with h | h | h
  · have := dMag_lt h
    have h3 : a * p < b * p := by rw [k1, k2]; omega
    have h4 : a < b := Int.lt_of_mul_lt_mul_right h3 (Int.le_of_lt hp)
    rw [Int.compare_eq_lt.2 h4, Int.compare_eq_lt.2 (by omega)]
  · subst h
    have h3 : a * p = b * p := by rw [k1, k2]
    have h4 : a = b := Int.eq_of_mul_eq_mul_right (Int.ne_of_gt hp) h3
    rw [h4, Int.compare_eq_eq.2 rfl, Int.compare_eq_eq.2 rfl]
  · have := dMag_lt h
    have h3 : b * p < a * p := by rw [k1, k2]; omega
    have h4 : b < a := Int.lt_of_mul_lt_mul_right h3 (Int.le_of_lt hp)
    rw [Int.compare_eq_gt.2 h4, Int.compare_eq_gt.2 (by omega)]

theorem small_word {q B : Nat} (h2 : q ≤ 2045) (h1 : B < 2 ^ 53) : q * 4503599627370496 + B ≤ 9218868437227405312 := by
  have h3 : B < 9007199254740992 := h1
  omega

/-- A number whose digits fit is written exactly. -/
theorem double_write {neg : Bool} {M : Nat} {P : Int} {L : Nat} (hL : 2 ^ L ≤ M) (hL' : M < 2 ^ (L + 1)) (h52 : L ≤ 52) (hP : -1022 ≤ P + L) (hP' : P + L ≤ 1023) :
    Ieee.double.nearest neg M P = Ieee.double.word neg ((P + L + 1022).toNat * 4503599627370496 + M * 2 ^ (52 - L)) := by
  obtain ⟨e1, e2, e3, e4⟩ := d_consts
  have hM : M ≠ 0 := by have := Nat.two_pow_pos L; omega
  have hlog : M.log2 = L := by
    apply Nat.le_antisymm
    · exact Nat.lt_succ_iff.1 ((Nat.log2_lt hM).2 hL')
    · exact (Nat.le_log2 hM).2 hL
  unfold Ieee.Format.nearest
  rw [if_neg hM]
  simp only [hlog, e2, e3, e4]
  have hf : Ieee.double.fractionBits = 52 := rfl
  have hlast : max (P + (L : Int) - ((Ieee.double.fractionBits : Nat) : Int)) (-1074) = P + L - 52 := by rw [hf]; omega
  rw [hlast]
  have hcut : Ieee.Toward.even.cut neg (M <<< (P - (P + L - 52)).toNat) (P + L - 52 - P).toNat = M * 2 ^ (52 - L) := by
    rw [show (P - (P + (L : Int) - 52)).toNat = 52 - L by omega, show (P + (L : Int) - 52 - P).toNat = 0 by omega]
    unfold Ieee.Toward.cut
    simp only [Nat.zero_min, Nat.shiftLeft_zero, Nat.div_one, Nat.mod_one]
    rw [Nat.shiftLeft_eq]
    simp
  rw [hcut]
  congr 1
  have h1 : M * 2 ^ (52 - L) < 2 ^ (L + 1) * 2 ^ (52 - L) := Nat.mul_lt_mul_of_pos_right hL' (Nat.two_pow_pos _)
  rw [← Nat.pow_add, show L + 1 + (52 - L) = 53 by omega] at h1
  rw [show (P + (L : Int) - 52 - -1074).toNat = (P + L + 1022).toNat by omega]
  have h2 : (P + L + 1022).toNat ≤ 2045 := by omega
  generalize (P + L + 1022).toNat = q at *
  generalize M * 2 ^ (52 - L) = B at *
  exact Nat.min_eq_left (small_word h2 h1)
theorem wrapU64 (n : Nat) (h : n < 18446744073709551616) : IntKind.u64.wrap (n : Int) = n := by
  simp only [IntKind.wrap, IntKind.bits, IntKind.signed]
  simp
  omega

theorem ofInt64 (a : Nat) (h : a < 18446744073709551616) : (BitVec.ofInt 64 (a : Int)).toNat = a := by
  rw [BitVec.ofInt_natCast, BitVec.toNat_ofNat]
  exact Nat.mod_eq_of_lt (by omega)

theorem andNot_nat (a b : Nat) (ha : a < 18446744073709551616) (hb : b < 18446744073709551616) : bits .andNot .u64 (a : Int) (b : Int) = ((a &&& (18446744073709551615 - b) : Nat) : Int) := by
  have e : (BitVec.ofInt 64 (a : Int) &&& ~~~ BitVec.ofInt 64 (b : Int)).toNat = a &&& (18446744073709551615 - b) := by
    rw [BitVec.toNat_and, BitVec.toNat_not, ofInt64 a ha, ofInt64 b hb]
  show IntKind.u64.wrap ((BitVec.ofInt 64 (a : Int) &&& ~~~ BitVec.ofInt 64 (b : Int)).toNat : Int) = _
  rw [e]
  exact wrapU64 _ (Nat.lt_of_le_of_lt Nat.and_le_left ha)

/-- Without the sign. -/
theorem bits_abs (a : Nat) (h : a < 18446744073709551616) : bits .andNot .u64 (a : Int) 9223372036854775808 = ((a % 9223372036854775808 : Nat) : Int) := by
  have := andNot_nat a 9223372036854775808 h (by decide)
  rw [show ((9223372036854775808 : Nat) : Int) = 9223372036854775808 from rfl] at this
  rw [this]
  have e : a &&& (18446744073709551615 - 9223372036854775808) = a % 9223372036854775808 := by
    show a &&& (2 ^ 63 - 1) = a % 2 ^ 63
    exact Nat.and_two_pow_sub_one_eq_mod a 63
  rw [e]

/-- Without sign and exponent. -/
theorem bits_frac (a : Nat) (h : a < 9223372036854775808) : bits .andNot .u64 (a : Int) 9218868437227405312 = ((a % 4503599627370496 : Nat) : Int) := by
  have := andNot_nat a 9218868437227405312 (by omega) (by decide)
  rw [show ((9218868437227405312 : Nat) : Int) = 9218868437227405312 from rfl] at this
  rw [this]
  have hm : 18446744073709551615 - 9218868437227405312 = 2 ^ 63 ||| (2 ^ 52 - 1) := by decide
  have e : a &&& (18446744073709551615 - 9218868437227405312) = a % 2 ^ 52 := by
    rw [hm]
    apply Nat.eq_of_testBit_eq
    intro i
    rw [Nat.testBit_and, Nat.testBit_or, Nat.testBit_two_pow, Nat.testBit_two_pow_sub_one, Nat.testBit_mod_two_pow]
    by_cases hi : i = 63
    · subst hi
      have : a.testBit 63 = false := Nat.testBit_lt_two_pow h
      rw [this]
      simp
    · have h63 : (decide (63 = i)) = false := by simp; omega
      rw [h63, Bool.false_or, Bool.and_comm]
  rw [e]

theorem bits_exp (F : Nat) (h : F < 2048) : bits .and .u64 (F : Int) 2047 = F := by
  have := bits_and_u64_nat F 2047 (by omega) (by decide)
  rw [show ((2047 : Nat) : Int) = 2047 from rfl] at this
  rw [this]
  have e : F &&& 2047 = F := by
    show F &&& (2 ^ 11 - 1) = F
    rw [Nat.and_two_pow_sub_one_eq_mod]
    exact Nat.mod_eq_of_lt h
  rw [e]

theorem bits_expI (F : Nat) (h : F < 2048) : bits .and .i64 (F : Int) 2047 = F := by
  have e : (BitVec.ofInt 64 (F : Int) &&& BitVec.ofInt 64 2047).toNat = F := by
    rw [BitVec.toNat_and, ofInt64 F (by omega)]
    show F &&& (2 ^ 11 - 1) = F
    rw [Nat.and_two_pow_sub_one_eq_mod]
    exact Nat.mod_eq_of_lt h
  show IntKind.i64.wrap ((BitVec.ofInt 64 (F : Int) &&& BitVec.ofInt 64 2047).toNat : Int) = _
  rw [e]
  simp only [IntKind.wrap, IntKind.bits, IntKind.signed]
  simp
  omega

theorem bits_join (f G : Nat) (hf : f < 4503599627370496) (hG : G < 2048) : bits .or .u64 (f : Int) ((G * 4503599627370496 : Nat) : Int) = ((G * 4503599627370496 + f : Nat) : Int) := by
  have e : (BitVec.ofInt 64 (f : Int) ||| BitVec.ofInt 64 ((G * 4503599627370496 : Nat) : Int)).toNat = G * 4503599627370496 + f := by
    rw [BitVec.toNat_or, ofInt64 _ (by omega), ofInt64 _ (by omega)]
    have := Nat.shiftLeft_add_eq_or_of_lt (b := f) (i := 52) hf G
    rw [Nat.shiftLeft_eq] at this
    rw [Nat.or_comm]
    exact this.symm
  show IntKind.u64.wrap ((BitVec.ofInt 64 (f : Int) ||| BitVec.ofInt 64 ((G * 4503599627370496 : Nat) : Int)).toNat : Int) = _
  rw [e]
  exact wrapU64 _ (by omega)

/-- The word of 64 bits of a float's magnitude. -/
def dOf (b : Int) : Nat := if (fMag b).toNat = 0 then 0 else (fExp b - 150 + (fMag b).toNat.log2 + 1022).toNat * 4503599627370496 + (fMag b).toNat * 2 ^ (52 - (fMag b).toNat.log2)

theorem fMag_lt {b : Int} (_h0 : 0 ≤ b) : 0 ≤ fMag b ∧ fMag b < 16777216 := by
  unfold fMag
  split <;> omega

/-- The parts of the word: exponent and fraction. -/
theorem dOf_parts {b : Int} (h0 : 0 ≤ b) (hf : fFin b = true) (hM : (fMag b).toNat ≠ 0) : ∃ (L F f : Nat), L ≤ 23 ∧ 2 ^ L ≤ (fMag b).toNat ∧ (fMag b).toNat < 2 ^ (L + 1) ∧ (F : Int) = fExp b - 150 + L + 1023 ∧ 1 ≤ F ∧ F ≤ 1150 ∧ f < 4503599627370496 ∧ 4503599627370496 + f = (fMag b).toNat * 2 ^ (52 - L) ∧ dOf b = F * 4503599627370496 + f ∧ L = (fMag b).toNat.log2 := by
  have h1 := fMag_lt h0
  have h2 := fExp_pos h0
  have h3 : fExp b ≤ 254 := by
    have : b / 8388608 % 256 ≠ 255 := by simpa [fFin] using hf
    unfold fExp
    split <;> omega
  have hl1 := Nat.log2_self_le hM
  have hl2 : (fMag b).toNat < 2 ^ ((fMag b).toNat.log2 + 1) := Nat.lt_log2_self
  have hL : (fMag b).toNat.log2 ≤ 23 := by
    have : (fMag b).toNat.log2 < 24 := (Nat.log2_lt hM).2 (by show _ < 16777216; omega)
    omega
  have hd : dOf b = (fExp b - 150 + (fMag b).toNat.log2 + 1022).toNat * 4503599627370496 + (fMag b).toNat * 2 ^ (52 - (fMag b).toNat.log2) := by unfold dOf; rw [if_neg hM]
  obtain ⟨L, hLL⟩ : ∃ L, L = (fMag b).toNat.log2 := ⟨_, rfl⟩
  rw [← hLL] at hl1 hl2 hL hd
  have hlo : 2 ^ L * 2 ^ (52 - L) ≤ (fMag b).toNat * 2 ^ (52 - L) := Nat.mul_le_mul_right _ hl1
  have hhi : (fMag b).toNat * 2 ^ (52 - L) < 2 ^ (L + 1) * 2 ^ (52 - L) := Nat.mul_lt_mul_of_pos_right hl2 (Nat.two_pow_pos _)
  rw [← Nat.pow_add, show L + (52 - L) = 52 by omega] at hlo
  rw [← Nat.pow_add, show L + 1 + (52 - L) = 53 by omega] at hhi
  have hlo' : 4503599627370496 ≤ (fMag b).toNat * 2 ^ (52 - L) := hlo
  have hhi' : (fMag b).toNat * 2 ^ (52 - L) < 9007199254740992 := hhi
  refine ⟨L, (fExp b - 150 + L + 1023).toNat, (fMag b).toNat * 2 ^ (52 - L) - 4503599627370496, hL, hl1, hl2, by omega, by omega, by omega, by omega, by omega, ?_, hLL⟩
  rw [hd]
  generalize (fMag b).toNat * 2 ^ (52 - L) = m at *
  have : (fExp b - 150 + L + 1023).toNat = (fExp b - 150 + L + 1022).toNat + 1 := by omega
  rw [this, Nat.add_mul]
  omega

theorem read_fin {neg : Bool} {X : Nat} (h : X < 9218868437227405312) : (Ieee.double.read (Ieee.double.word neg X)).isInfinity = false := by
  obtain ⟨e1, e2, e3, e4⟩ := d_consts
  unfold Ieee.Format.read Ieee.Format.word
  simp only [e1, e2, e3, e4]
  have hr : (if neg = true then 9223372036854775808 + X else X) % 9223372036854775808 = X := by
    cases neg
    · simp; omega
    · simp; omega
  rw [hr]
  by_cases h1 : X < 4503599627370496
  · rw [if_pos h1]; rfl
  · rw [if_neg h1, if_pos h]; rfl

theorem conv_fin {b : Int} (h0 : 0 ≤ b) (h1 : b < 4294967296) (hf : fFin b = true) : floatToFloatBits .f32 b.toNat .f64 = some (Ieee.double.word (decide (2147483648 ≤ b)) (dOf b)) := by
  have hr : FloatKind.f32.decode b.toNat = .number (decide (2147483648 ≤ b)) (fMag b).toNat (fExp b - 150) := single_read h0 h1 hf
  have he : FloatKind.f64.encode (.number (decide (2147483648 ≤ b)) (fMag b).toNat (fExp b - 150)) = Ieee.double.word (decide (2147483648 ≤ b)) (dOf b) := by
    show Ieee.double.nearest _ _ _ = _
    by_cases hM : (fMag b).toNat = 0
    · unfold Ieee.Format.nearest dOf
      rw [if_pos hM, if_pos hM]
    · obtain ⟨L, F, f, hL, hl1, hl2, hF, hF1, hF2, hf1, hf2, hd, hLL⟩ := dOf_parts h0 hf hM
      rw [double_write hl1 hl2 (by omega) (by omega) (by omega)]
      congr 1
      unfold dOf
      rw [if_neg hM, ← hLL]
  have hlt : dOf b < 9218868437227405312 := by
    by_cases hM : (fMag b).toNat = 0
    · unfold dOf; rw [if_pos hM]; decide
    · obtain ⟨L, F, f, hL, hl1, hl2, hF, hF1, hF2, hf1, hf2, hd, hLL⟩ := dOf_parts h0 hf hM
      rw [hd]
      omega
  unfold floatToFloatBits
  rw [if_neg (by decide), hr]
  simp only
  rw [he]
  have h2 : (FloatKind.f64.decode (Ieee.double.word (decide (2147483648 ≤ b)) (dOf b))).isInfinity = false := read_fin hlt
  rw [h2]
  rfl

theorem read_norm {F f : Nat} (h1 : 1 ≤ F) (h2 : F ≤ 2046) (hf : f < 4503599627370496) : Ieee.double.read (F * 4503599627370496 + f) = .number false (4503599627370496 + f) ((F : Int) - 1075) := by
  obtain ⟨e1, e2, e3, e4⟩ := d_consts
  unfold Ieee.Format.read
  simp only [e1, e2, e3, e4]
  have hX : F * 4503599627370496 + f < 9218868437227405312 := by omega
  have hs : ((F * 4503599627370496 + f) / 9223372036854775808 % 2 == 1) = false := by
    have : (F * 4503599627370496 + f) / 9223372036854775808 = 0 := Nat.div_eq_of_lt (by omega)
    rw [this]; rfl
  rw [hs, Nat.mod_eq_of_lt (by omega), if_neg (by omega), if_pos hX]
  have q1 : (F * 4503599627370496 + f) % 4503599627370496 = f := by omega
  have q2 : (F * 4503599627370496 + f) / 4503599627370496 = F := by omega
  rw [q1, q2]
  congr 1
  omega

theorem cut_ieee {way : Ieee.Toward} (hw : way = .even ∨ way = .zero) {neg : Bool} {m k : Nat} (hm : m ≠ 0) : way.cut neg (m * 2 ^ k) k = m := by
  have hmk : m * 2 ^ k ≠ 0 := Nat.mul_ne_zero hm (Nat.ne_of_gt (Nat.two_pow_pos _))
  have hlog : k ≤ (m * 2 ^ k).log2 := (Nat.le_log2 hmk).2 (by
    have : 1 * 2 ^ k ≤ m * 2 ^ k := Nat.mul_le_mul_right _ (by omega)
    omega)
  have hmin : min k ((m * 2 ^ k).log2 + 2) = k := by omega
  unfold Ieee.Toward.cut
  simp only [hmin, Nat.shiftLeft_eq, Nat.one_mul]
  rw [Nat.mul_div_cancel _ (Nat.two_pow_pos _), Nat.mul_mod_left]
  rcases hw with rfl | rfl
  · have : (decide (2 ^ k < 2 * 0) || (2 ^ k == 2 * 0 && m % 2 == 1)) = false := by
      have hp := Nat.two_pow_pos k
      have h1 : decide (2 ^ k < 2 * 0) = false := by simp
      have h2 : (2 ^ k == 2 * 0) = false := by rw [beq_eq_false_iff_ne]; omega
      rw [h1, h2]; rfl
    simp only [this]
    rfl
  · rfl

theorem mul_one_word {F f : Nat} (h1 : 1 ≤ F) (h2 : F ≤ 2046) (hf : f < 4503599627370496) : floatBits .mul .f64 4607182418800017408 (F * 4503599627370496 + f) = some (F * 4503599627370496 + f) := by
  obtain ⟨e1, e2, e3, e4⟩ := d_consts
  have hone : Ieee.double.read 4607182418800017408 = .number false 4503599627370496 (-52) := by
    have := read_norm (F := 1023) (f := 0) (by decide) (by decide) (by decide)
    exact this
  show ((Ieee.double.read 4607182418800017408).product (Ieee.double.read (F * 4503599627370496 + f))).map Ieee.double.write = _
  rw [hone, read_norm h1 h2 hf]
  simp only [Ieee.Datum.product, Option.map_some, Bool.xor_self]
  congr 1
  show Ieee.double.nearest false (4503599627370496 * (4503599627370496 + f)) (-52 + ((F : Int) - 1075)) = _
  have hm : 4503599627370496 + f ≠ 0 := by omega
  have hne : 4503599627370496 * (4503599627370496 + f) ≠ 0 := Nat.mul_ne_zero (by decide) hm
  have hlog : (4503599627370496 * (4503599627370496 + f)).log2 = 104 := by
    apply Nat.le_antisymm
    · apply Nat.lt_succ_iff.1
      apply (Nat.log2_lt hne).2
      show 4503599627370496 * (4503599627370496 + f) < 4503599627370496 * 9007199254740992
      exact Nat.mul_lt_mul_of_pos_left (by omega) (by decide)
    · apply (Nat.le_log2 hne).2
      show 4503599627370496 * 4503599627370496 ≤ _
      exact Nat.mul_le_mul_left _ (by omega)
  unfold Ieee.Format.nearest
  rw [if_neg hne]
  simp only [hlog, e2, e3, e4]
  have hfb : Ieee.double.fractionBits = 52 := rfl
  have hlast : max (-52 + ((F : Int) - 1075) + ((104 : Nat) : Int) - ((Ieee.double.fractionBits : Nat) : Int)) (-1074) = (F : Int) - 1075 := by rw [hfb]; omega
  rw [hlast]
  have hcut : Ieee.Toward.even.cut false ((4503599627370496 * (4503599627370496 + f)) <<< (-52 + ((F : Int) - 1075) - ((F : Int) - 1075)).toNat) ((F : Int) - 1075 - (-52 + ((F : Int) - 1075))).toNat = 4503599627370496 + f := by
    rw [show (-52 + ((F : Int) - 1075) - ((F : Int) - 1075)).toNat = 0 by omega, show ((F : Int) - 1075 - (-52 + ((F : Int) - 1075))).toNat = 52 by omega, Nat.shiftLeft_zero, Nat.mul_comm]
    exact cut_ieee (way := .even) (neg := false) (m := 4503599627370496 + f) (k := 52) (.inl rfl) hm
  rw [hcut, show ((F : Int) - 1075 - -1074).toNat = F - 1 by omega]
  unfold Ieee.Format.word
  rw [if_neg (by decide)]
  have hle : (F - 1) * 4503599627370496 + (4503599627370496 + f) = F * 4503599627370496 + f := by omega
  rw [hle]
  exact Nat.min_eq_left (by omega)

theorem toInt_word {f n : Nat} (hf : f < 4503599627370496) (hn : 4503599627370496 + f = n * 536870912) : floatToIntVal .f64 (1046 * 4503599627370496 + f) .u32 = some (n : Int) := by
  have hn0 : n ≠ 0 := by omega
  have hd : (FloatKind.f64.decode (1046 * 4503599627370496 + f)).toInt .zero = some (n : Int) := by
    show (Ieee.double.read (1046 * 4503599627370496 + f)).toInt .zero = _
    rw [read_norm (by decide) (by decide) hf]
    simp only [Ieee.Datum.toInt, Ieee.Datum.integral]
    have hc : Ieee.Toward.zero.cut false ((4503599627370496 + f) <<< (((1046 : Nat) : Int) - 1075).toNat) (-(((1046 : Nat) : Int) - 1075)).toNat = n := by
      rw [show (((1046 : Nat) : Int) - 1075).toNat = 0 by decide, show (-(((1046 : Nat) : Int) - 1075)).toNat = 29 by decide, Nat.shiftLeft_zero, hn]
      exact cut_ieee (way := .zero) (neg := false) (m := n) (k := 29) (.inr rfl) hn0
    rw [hc]
    simp [Ieee.signed]
  unfold floatToIntVal
  rw [hd]
  simp only
  rw [if_pos ⟨by show (0 : Int) ≤ n; omega, by show (n : Int) ≤ 4294967295; omega⟩]

theorem toInt_zero : floatToIntVal .f64 0 .u32 = some 0 := by decide

end Go.Proofs.Ytfgpknglgbpebad

/-
  The library's functions on words of 64 bits: Abs, IsNaN, IsInf, Frexp, Ldexp, Signbit.
-/
namespace Go.Proofs.Ytfgpknglgbpebad
open Go.RowKit

theorem run_f64bits (n : Nat) (w : World) : (callFunc 75 #[.float .f64 n]).run Try.prog w = .ok (.value (.int .u64 n)) w := by
  rw [run_callFunc_extern (e := Extern.MathFloatBits.float64bits) Try.func75 (by kernel_rfl) (by kernel_rfl) (by kernel_rfl) (by kernel_rfl)]
  rfl

theorem run_f64from (b : Int) (w : World) : (callFunc 74 #[.int .u64 b]).run Try.prog w = .ok (.value (.float .f64 b.toNat)) w := by
  rw [run_callFunc_extern (e := Extern.MathFloatBits.float64frombits) Try.func74 (by kernel_rfl) (by kernel_rfl) (by kernel_rfl) (by kernel_rfl)]
  rfl

set_option maxHeartbeats 1000000 in
theorem absF_any (W X : Nat) (w : World) (hW : W < 18446744073709551616) (hX : W % 9223372036854775808 = X) :
    Calls Try.prog 99 #[.float .f64 W] w fun e w' => e = .returned (.float .f64 X) ∧ Below w.heap.size w w' := by
  have hb := bits_abs W hW
  rw [hX] at hb
  have h1 := run_f64bits
  have h2 := run_f64from
  clear hX hW
  go_enter Try.func99, Try.ntmps99
  go_wp2
  go_ret
  exact ⟨by simp, Below.refl _ _⟩

theorem isNaN64_any (W : Nat) (b : Bool) (w : World) (h : (FloatKind.f64.format.order W W != some .eq) = b) :
    Calls Try.prog 91 #[.float .f64 W] w fun e w' => e = .returned (.bool b) ∧ Below w.heap.size w w' := by
  go_enter Try.func91, Try.ntmps91
  go_wp2
  go_ret
  exact ⟨by rw [← h]; rfl, Below.refl _ _⟩

set_option maxHeartbeats 1000000 in
theorem isInf64_any (W X : Nat) (b : Bool) (w : World) (hW : W < 18446744073709551616) (hX : W % 9223372036854775808 = X) (h : (FloatKind.f64.format.order X 9218868437227405311 == some .gt) = b) :
    Calls Try.prog 90 #[.float .f64 W, .int .i64 0] w fun e w' => e = .returned (.bool b) ∧ Below w.heap.size w w' := by
  have HH : Hid ((FloatKind.f64.format.order X 9218868437227405311 == some .gt) = b) := h
  clear h
  go_enter Try.func90, Try.ntmps90
  go_wp2_with fail
  refine (absF_any W X _ hW hX).mono ?_
  rintro e w1 ⟨rfl, hb1⟩
  have HB : Hid (Below w.heap.size w w1) := hb1
  clear hb1
  go_wp2
  go_ret
  exact ⟨by rw [← HH.out]; rfl, HB.out⟩

theorem ord64 {X Y : Nat} (hX : X < 9218868437227405312) (hY : Y < 9218868437227405312) : FloatKind.f64.format.order X Y = some (compare (X : Int) (Y : Int)) := double_order hX hY

set_option maxHeartbeats 1000000 in
theorem normF_any (X : Nat) (w : World) (h1 : 4503599627370496 ≤ X) (h2 : X < 9218868437227405312) :
    Calls Try.prog 92 #[.float .f64 X] w fun e w' => e = .returned (.tuple #[.float .f64 X, .int .i64 0]) ∧ Below w.heap.size w w' := by
  have ho : (FloatKind.f64.format.order X 4503599627370496 == some .lt) = false := by
    rw [ord64 h2 (by decide), order_lt]
    simp
    omega
  go_enter Try.func92, Try.ntmps92
  go_wp2_with fail
  refine (absF_any X X _ (by omega) (Nat.mod_eq_of_lt (by omega))).mono ?_
  rintro e w1 ⟨rfl, hb1⟩
  have HB : Hid (Below w.heap.size w w1) := hb1
  clear hb1
  go_wp2
  refine bodyPost_ret (v := .tuple #[.float .f64 X, .int .i64 0]) (by simp [results, Try.results92, go_sem]) rfl ?_
  exact ⟨rfl, HB.out⟩

theorem fin64 {X : Nat} (h : X < 9218868437227405312) : (FloatKind.f64.format.order X X != some .eq) = false ∧ (FloatKind.f64.format.order X 9218868437227405311 == some .gt) = false := by
  constructor
  · rw [ord64 h h]
    exact order_self
  · rw [ord64 h (by decide), order_gt]
    simp
    omega

set_option maxHeartbeats 4000000 in
theorem ldexp_any (f : Nat) (w : World) (hf : f < 4503599627370496) :
    Calls Try.prog 39 #[.float .f64 (1022 * 4503599627370496 + f), .int .i64 24] w fun e w' => e = .returned (.float .f64 (1046 * 4503599627370496 + f)) ∧ Below w.heap.size w w' := by
  obtain ⟨X, hX⟩ : ∃ X, X = 1022 * 4503599627370496 + f := ⟨_, rfl⟩
  obtain ⟨Y, hY⟩ : ∃ Y, Y = 1046 * 4503599627370496 + f := ⟨_, rfl⟩
  rw [← hX, ← hY]
  have hlt : X < 9218868437227405312 := by omega
  obtain ⟨o1, o2⟩ := fin64 hlt
  have o3 : (FloatKind.f64.format.order X 0 == some .eq) = false := by
    rw [ord64 hlt (by decide), Int.compare_eq_gt.2 (by omega)]
    rfl
  have q1 : (X : Int) / 4503599627370496 = 1022 := by omega
  have q2 : bits .and .i64 1022 2047 = 1022 := bits_expI 1022 (by decide)
  have q3 := bits_frac X (by omega)
  rw [show X % 4503599627370496 = f by omega] at q3
  have q4 := bits_join f 1046 hf (by decide)
  rw [show ((1046 * 4503599627370496 : Nat) : Int) = 4710765210229538816 from rfl, ← hY] at q4
  have q5 := mul_one_word (F := 1046) (f := f) (by decide) (by decide) hf
  rw [← hY] at q5
  have hop : ∀ t w, (binOp .mul t (.float .f64 4607182418800017408) (.float .f64 Y)).run Try.prog w = .ok (.float .f64 Y) w := fun t w => run_float_arith w .mul t .f64 _ _ _ q5
  have e1 := run_f64bits
  have e2 := run_f64from
  have HX : Hid (X = 1022 * 4503599627370496 + f) := hX
  clear hX hY q5
  have LD : ∀ w, Calls Try.prog 71 #[.float .f64 X, .int .i64 24] w fun e w' => e = .returned (.float .f64 Y) ∧ Below w.heap.size w w' := by
    intro w
    go_enter Try.func71, Try.ntmps71
    go_wp2_with fail
    refine (isInf64_any X X false _ (by omega) (Nat.mod_eq_of_lt (by omega)) o2).mono ?_
    rintro e w1 ⟨rfl, hb1⟩
    go_wp2_with fail
    refine (isNaN64_any X false _ o1).mono ?_
    rintro e w2 ⟨rfl, hb2⟩
    go_wp2_with fail
    refine (normF_any X _ (by have := HX.out; omega) hlt).mono ?_
    rintro e w3 ⟨rfl, hb3⟩
    have HB : Hid (Below w.heap.size w w3) := (hb1.trans (hb2.mono hb1.size)).trans (hb3.mono (Nat.le_trans hb1.size hb2.size))
    clear hb1 hb2 hb3
    go_wp2
    go_ret
    exact ⟨by simp, HB.out⟩
  go_enter Try.func39, Try.ntmps39
  go_wp2_with fail
  refine (LD _).mono ?_
  rintro e w1 ⟨rfl, hb1⟩
  have HB : Hid (Below w.heap.size w w1) := hb1
  clear hb1 LD
  go_wp2
  go_ret
  exact ⟨rfl, HB.out⟩

set_option maxHeartbeats 1000000 in
theorem ldexp_zero (w : World) :
    Calls Try.prog 39 #[.float .f64 0, .int .i64 24] w fun e w' => e = .returned (.float .f64 0) ∧ Below w.heap.size w w' := by
  have o3 : (FloatKind.f64.format.order 0 0 == some .eq) = true := by decide
  have LD : ∀ w, Calls Try.prog 71 #[.float .f64 0, .int .i64 24] w fun e w' => e = .returned (.float .f64 0) ∧ Below w.heap.size w w' := by
    intro w
    go_enter Try.func71, Try.ntmps71
    go_wp2
    go_ret
    exact ⟨rfl, Below.refl _ _⟩
  go_enter Try.func39, Try.ntmps39
  go_wp2_with fail
  refine (LD _).mono ?_
  rintro e w1 ⟨rfl, hb1⟩
  have HB : Hid (Below w.heap.size w w1) := hb1
  clear hb1 LD
  go_wp2
  go_ret
  exact ⟨rfl, HB.out⟩

end Go.Proofs.Ytfgpknglgbpebad

/-
  math.Ldexp by any power; math.Copysign.
-/
namespace Go.Proofs.Ytfgpknglgbpebad
open Go.RowKit

set_option maxHeartbeats 4000000 in
theorem ldexpG_any (F f : Nat) (u : Int) (G : Nat) (w : World) (hf : f < 4503599627370496) (F1 : 1 ≤ F) (F2 : F ≤ 2046) (hu : (G : Int) = F + u) (G1 : 1 ≤ G) (G2 : G ≤ 2046) :
    Calls Try.prog 39 #[.float .f64 (F * 4503599627370496 + f), .int .i64 u] w fun e w' => e = .returned (.float .f64 (G * 4503599627370496 + f)) ∧ Below w.heap.size w w' := by
  obtain ⟨X, hX⟩ : ∃ X, X = F * 4503599627370496 + f := ⟨_, rfl⟩
  obtain ⟨Y, hY⟩ : ∃ Y, Y = G * 4503599627370496 + f := ⟨_, rfl⟩
  rw [← hX, ← hY]
  have hlt : X < 9218868437227405312 := by omega
  obtain ⟨o1, o2⟩ := fin64 hlt
  have o3 : (FloatKind.f64.format.order X 0 == some .eq) = false := by
    rw [ord64 hlt (by decide), Int.compare_eq_gt.2 (by omega)]
    rfl
  have q1 : (X : Int) / 4503599627370496 = F := by omega
  have q2 : bits .and .i64 (F : Int) 2047 = F := bits_expI F (by omega)
  have q3 := bits_frac X (by omega)
  rw [show X % 4503599627370496 = f by omega] at q3
  have q4 := bits_join f G hf (by omega)
  rw [← hY] at q4
  have q5 := mul_one_word (F := G) (f := f) (by omega) (by omega) hf
  rw [← hY] at q5
  have hop : ∀ t w, (binOp .mul t (.float .f64 4607182418800017408) (.float .f64 Y)).run Try.prog w = .ok (.float .f64 Y) w := fun t w => run_float_arith w .mul t .f64 _ _ _ q5
  have e1 := run_f64bits
  have e2 := run_f64from
  have HX : Hid (X = F * 4503599627370496 + f) := hX
  have u1 : u = (G : Int) - F := by omega
  have v1 : (G : Int) ≤ 2046 := by omega
  have v2 : (1 : Int) ≤ G := by omega
  have v3 : (F : Int) ≤ 2046 := by omega
  have v4 : (1 : Int) ≤ F := by omega
  have q6 : (G : Int) * 4503599627370496 = ((G * 4503599627370496 : Nat) : Int) := by omega
  rw [← q6] at q4
  have hY0 : Y < 18446744073709551616 := by omega
  clear hX hY q5 hu q6
  subst u1
  have LD : ∀ w, Calls Try.prog 71 #[.float .f64 X, .int .i64 ((G : Int) - F)] w fun e w' => e = .returned (.float .f64 Y) ∧ Below w.heap.size w w' := by
    intro w
    go_enter Try.func71, Try.ntmps71
    go_wp2_with fail
    refine (isInf64_any X X false _ (by omega) (Nat.mod_eq_of_lt (by omega)) o2).mono ?_
    rintro e w1 ⟨rfl, hb1⟩
    go_wp2_with fail
    refine (isNaN64_any X false _ o1).mono ?_
    rintro e w2 ⟨rfl, hb2⟩
    go_wp2_with fail
    refine (normF_any X _ (by have := HX.out; omega) hlt).mono ?_
    rintro e w3 ⟨rfl, hb3⟩
    have HB : Hid (Below w.heap.size w w3) := (hb1.trans (hb2.mono hb1.size)).trans (hb3.mono (Nat.le_trans hb1.size hb2.size))
    have z1 : (G : Int) - F + (F - 1023) = G - 1023 := by omega
    have z2 : (G : Int) - 1023 + 1023 = G := by omega
    clear hb1 hb2 hb3
    go_wp2
    go_ret
    exact ⟨by simp, HB.out⟩
  go_enter Try.func39, Try.ntmps39
  go_wp2_with fail
  refine (LD _).mono ?_
  rintro e w1 ⟨rfl, hb1⟩
  have HB : Hid (Below w.heap.size w w1) := hb1
  clear hb1 LD
  go_wp2
  go_ret
  exact ⟨rfl, HB.out⟩

set_option maxHeartbeats 1000000 in
theorem inf_any (w : World) : Calls Try.prog 93 #[.int .i64 1] w fun e w' => e = .returned (.float .f64 9218868437227405312) ∧ Below w.heap.size w w' := by
  have e2 := run_f64from
  go_enter Try.func93, Try.ntmps93
  go_wp2
  go_ret
  exact ⟨by simp, Below.refl _ _⟩

set_option maxHeartbeats 4000000 in
theorem ldexpG_big (F f : Nat) (u : Int) (w : World) (hf : f < 4503599627370496) (F1 : 1 ≤ F) (F2 : F ≤ 2046) (u1 : 2046 < F + u) (u2 : u ≤ 1000000) :
    Calls Try.prog 39 #[.float .f64 (F * 4503599627370496 + f), .int .i64 u] w fun e w' => e = .returned (.float .f64 9218868437227405312) ∧ Below w.heap.size w w' := by
  obtain ⟨X, hX⟩ : ∃ X, X = F * 4503599627370496 + f := ⟨_, rfl⟩
  rw [← hX]
  have hlt : X < 9218868437227405312 := by omega
  obtain ⟨o1, o2⟩ := fin64 hlt
  have o3 : (FloatKind.f64.format.order X 0 == some .eq) = false := by
    rw [ord64 hlt (by decide), Int.compare_eq_gt.2 (by omega)]
    rfl
  have o4 : (FloatKind.f64.format.order X 0 == some .lt) = false := by
    rw [ord64 hlt (by decide), Int.compare_eq_gt.2 (by omega)]
    rfl
  have q1 : (X : Int) / 4503599627370496 = F := by omega
  have q2 : bits .and .i64 (F : Int) 2047 = F := bits_expI F (by omega)
  have e1 := run_f64bits
  have HX : Hid (X = F * 4503599627370496 + f) := hX
  have v3 : (F : Int) ≤ 2046 := by omega
  have v4 : (1 : Int) ≤ F := by omega
  have z1 : 1023 < u + (F - 1023) := by omega
  clear hX
  have LD : ∀ w, Calls Try.prog 71 #[.float .f64 X, .int .i64 u] w fun e w' => e = .returned (.float .f64 9218868437227405312) ∧ Below w.heap.size w w' := by
    intro w
    go_enter Try.func71, Try.ntmps71
    go_wp2_with fail
    refine (isInf64_any X X false _ (by omega) (Nat.mod_eq_of_lt (by omega)) o2).mono ?_
    rintro e w1 ⟨rfl, hb1⟩
    go_wp2_with fail
    refine (isNaN64_any X false _ o1).mono ?_
    rintro e w2 ⟨rfl, hb2⟩
    go_wp2_with fail
    refine (normF_any X _ (by have := HX.out; omega) hlt).mono ?_
    rintro e w3 ⟨rfl, hb3⟩
    have HB : Hid (Below w.heap.size w w3) := (hb1.trans (hb2.mono hb1.size)).trans (hb3.mono (Nat.le_trans hb1.size hb2.size))
    clear hb1 hb2 hb3
    go_wp2_with fail
    refine (inf_any _).mono ?_
    rintro e w4 ⟨rfl, hb4⟩
    have HB2 : Hid (Below w.heap.size w w4) := HB.out.trans (hb4.mono HB.out.size)
    clear hb4 HB
    go_wp2
    go_ret
    exact ⟨by simp, HB2.out⟩
  go_enter Try.func39, Try.ntmps39
  go_wp2_with fail
  refine (LD _).mono ?_
  rintro e w1 ⟨rfl, hb1⟩
  have HB : Hid (Below w.heap.size w w1) := hb1
  clear hb1 LD
  go_wp2
  go_ret
  exact ⟨rfl, HB.out⟩

set_option maxHeartbeats 1000000 in
theorem ldexpG_zero (u : Int) (w : World) :
    Calls Try.prog 39 #[.float .f64 0, .int .i64 u] w fun e w' => e = .returned (.float .f64 0) ∧ Below w.heap.size w w' := by
  have o3 : (FloatKind.f64.format.order 0 0 == some .eq) = true := by decide
  have LD : ∀ w, Calls Try.prog 71 #[.float .f64 0, .int .i64 u] w fun e w' => e = .returned (.float .f64 0) ∧ Below w.heap.size w w' := by
    intro w
    go_enter Try.func71, Try.ntmps71
    go_wp2
    go_ret
    exact ⟨rfl, Below.refl _ _⟩
  go_enter Try.func39, Try.ntmps39
  go_wp2_with fail
  refine (LD _).mono ?_
  rintro e w1 ⟨rfl, hb1⟩
  have HB : Hid (Below w.heap.size w w1) := hb1
  clear hb1 LD
  go_wp2
  go_ret
  exact ⟨rfl, HB.out⟩

theorem bits_neg (a : Nat) (h : a < 9223372036854775808) : bits .or .u64 (a : Int) 9223372036854775808 = ((9223372036854775808 + a : Nat) : Int) := by
  have e2 : (BitVec.ofInt 64 (a : Int) ||| BitVec.ofInt 64 9223372036854775808).toNat = 9223372036854775808 + a := by
    rw [BitVec.toNat_or, ofInt64 a (by omega), show (BitVec.ofInt 64 9223372036854775808).toNat = 2 ^ 63 * 1 by decide, Nat.or_comm, ← Nat.two_pow_add_eq_or_of_lt (by omega)]
  show IntKind.u64.wrap ((BitVec.ofInt 64 (a : Int) ||| BitVec.ofInt 64 9223372036854775808).toNat : Int) = _
  rw [e2]
  exact wrapU64 _ (by omega)

set_option maxHeartbeats 1000000 in
theorem copysign_any (X : Nat) (w : World) (h : X < 9223372036854775808) :
    Calls Try.prog 41 #[.float .f64 X, .float .f64 13830554455654793216] w fun e w' => e = .returned (.float .f64 (9223372036854775808 + X)) ∧ Below w.heap.size w w' := by
  have e1 := run_f64bits
  have e2 := run_f64from
  have q1 := bits_abs X (by omega)
  rw [Nat.mod_eq_of_lt h] at q1
  have q2 : bits .and .u64 13830554455654793216 9223372036854775808 = 9223372036854775808 := by decide
  have q3 := bits_neg X h
  go_enter Try.func41, Try.ntmps41
  go_wp2
  go_ret
  exact ⟨by simp, Below.refl _ _⟩

end Go.Proofs.Ytfgpknglgbpebad

/-
  A whole number up to 2^24, at a place from -149 up, as a float of 64 bits and of 32.
-/
namespace Go.Proofs.Ytfgpknglgbpebad
open Go.RowKit

theorem s_consts : Ieee.single.signWeight = 2147483648 ∧ Ieee.single.binade = 8388608 ∧ Ieee.single.infRung = 2139095040 ∧ Ieee.single.leastPlace = -149 ∧ Ieee.single.fractionBits = 23 := by decide

/-- The number v, in parts. -/
theorem v_parts {v : Nat} (h0 : v ≠ 0) (h1 : v ≤ 16777216) : ∃ L f : Nat, L ≤ 24 ∧ 2 ^ L ≤ v ∧ v < 2 ^ (L + 1) ∧ (L = 24 → v = 16777216) ∧ f < 4503599627370496 ∧ v * 2 ^ (52 - L) = 4503599627370496 + f := by
  have a := Nat.log2_self_le h0
  have b : v < 2 ^ (v.log2 + 1) := Nat.lt_log2_self
  have hL : v.log2 ≤ 24 := Nat.lt_succ_iff.1 ((Nat.log2_lt h0).2 (by omega))
  obtain ⟨L, hLL⟩ : ∃ L, L = v.log2 := ⟨_, rfl⟩
  rw [← hLL] at a b hL
  have c1 : 2 ^ L * 2 ^ (52 - L) ≤ v * 2 ^ (52 - L) := Nat.mul_le_mul_right _ a
  have c2 : v * 2 ^ (52 - L) < 2 ^ (L + 1) * 2 ^ (52 - L) := Nat.mul_lt_mul_of_pos_right b (Nat.two_pow_pos _)
  rw [← Nat.pow_add, show L + (52 - L) = 52 by omega] at c1
  rw [← Nat.pow_add, show L + 1 + (52 - L) = 53 by omega] at c2
  have e1 : 2 ^ 52 = 4503599627370496 := rfl
  have e2 : 2 ^ 53 = 9007199254740992 := rfl
  refine ⟨L, v * 2 ^ (52 - L) - 4503599627370496, hL, a, b, ?_, by omega, by omega⟩
  intro h
  rw [h] at a
  omega

theorem of_int {v L f : Nat} (hL : L ≤ 24) (h1 : 2 ^ L ≤ v) (h2 : v < 2 ^ (L + 1)) (hf : v * 2 ^ (52 - L) = 4503599627370496 + f) : Ieee.double.nearest false v 0 = (L + 1023) * 4503599627370496 + f := by
  rw [double_write h1 h2 (by omega) (by omega) (by omega), hf]
  show ((0 : Int) + L + 1022).toNat * 4503599627370496 + (4503599627370496 + f) = _
  rw [show ((0 : Int) + L + 1022).toNat = L + 1022 by omega]
  omega

theorem read_normS {neg : Bool} {F f : Nat} (h1 : 1 ≤ F) (h2 : F ≤ 2046) (hf : f < 4503599627370496) : Ieee.double.read (Ieee.double.word neg (F * 4503599627370496 + f)) = .number neg (4503599627370496 + f) ((F : Int) - 1075) := by
  obtain ⟨e1, e2, e3, e4⟩ := d_consts
  unfold Ieee.Format.read Ieee.Format.word
  simp only [e1, e2, e3, e4]
  have hX : F * 4503599627370496 + f < 9218868437227405312 := by omega
  have hs : ((if neg = true then 9223372036854775808 + (F * 4503599627370496 + f) else F * 4503599627370496 + f) / 9223372036854775808 % 2 == 1) = neg := by
    cases neg
    · have : (F * 4503599627370496 + f) / 9223372036854775808 = 0 := Nat.div_eq_of_lt (by omega)
      simp [this]
    · have : (9223372036854775808 + (F * 4503599627370496 + f)) / 9223372036854775808 = 1 := by omega
      simp [this]
  have hr : (if neg = true then 9223372036854775808 + (F * 4503599627370496 + f) else F * 4503599627370496 + f) % 9223372036854775808 = F * 4503599627370496 + f := by
    cases neg
    · simp; omega
    · simp; omega
  rw [hs, hr, if_neg (by omega), if_pos hX]
  have q1 : (F * 4503599627370496 + f) % 4503599627370496 = f := by omega
  have q2 : (F * 4503599627370496 + f) / 4503599627370496 = F := by omega
  rw [q1, q2]
  congr 1
  omega

theorem min_a {q v : Nat} (h : v + q * 8388608 ≤ 2139095040) : min (q * 8388608 + v) 2139095040 = v + q * 8388608 := by
  omega

theorem min_b {q : Nat} (h : 16777216 + q * 8388608 ≤ 2139095040) : min ((q + 1) * 8388608 + 8388608) 2139095040 = 16777216 + q * 8388608 := by
  omega

/-- Written as a float of 32 bits: exactly. -/
theorem single_write {neg : Bool} {v L : Nat} {u : Int} (hL : L ≤ 24) (h1 : 2 ^ L ≤ v) (h2 : v < 2 ^ (L + 1)) (h24 : L = 24 → v = 16777216) (hu : -149 ≤ u) (hv : u = -149 ∨ 23 ≤ L) (hR : v + (u + 149).toNat * 8388608 ≤ 2139095040) :
    Ieee.single.nearest neg (v * 2 ^ (52 - L)) (L + u - 52) = Ieee.single.word neg (v + (u + 149).toNat * 8388608) := by
  obtain ⟨e1, e2, e3, e4, e5⟩ := s_consts
  have hv0 : v ≠ 0 := by have := Nat.two_pow_pos L; omega
  have hM : v * 2 ^ (52 - L) ≠ 0 := Nat.mul_ne_zero hv0 (Nat.ne_of_gt (Nat.two_pow_pos _))
  have hlog : (v * 2 ^ (52 - L)).log2 = 52 := by
    have c1 : 2 ^ L * 2 ^ (52 - L) ≤ v * 2 ^ (52 - L) := Nat.mul_le_mul_right _ h1
    have c2 : v * 2 ^ (52 - L) < 2 ^ (L + 1) * 2 ^ (52 - L) := Nat.mul_lt_mul_of_pos_right h2 (Nat.two_pow_pos _)
    rw [← Nat.pow_add, show L + (52 - L) = 52 by omega] at c1
    rw [← Nat.pow_add, show L + 1 + (52 - L) = 53 by omega] at c2
    apply Nat.le_antisymm
    · exact Nat.lt_succ_iff.1 ((Nat.log2_lt hM).2 c2)
    · exact (Nat.le_log2 hM).2 c1
  unfold Ieee.Format.nearest
  rw [if_neg hM]
  simp only [hlog, e2, e3, e4, e5]
  by_cases h : L = 24
  · subst h
    have hv := h24 rfl
    subst hv
    have hlast : max (((24 : Nat) : Int) + u - 52 + ((52 : Nat) : Int) - ((23 : Nat) : Int)) (-149) = u + 1 := by omega
    rw [hlast, show (((24 : Nat) : Int) + u - 52 - (u + 1)).toNat = 0 by omega, show (u + 1 - (((24 : Nat) : Int) + u - 52)).toNat = 29 by omega, Nat.shiftLeft_zero,
      show 16777216 * 2 ^ (52 - 24) = 8388608 * 2 ^ 29 by decide, cut_ieee (.inl rfl) (by decide)]
    rw [show (u + 1 - -149).toNat = (u + 149).toNat + 1 by omega]
    exact congrArg (Ieee.single.word neg) (min_b hR)
  · have hlast : max ((L : Int) + u - 52 + ((52 : Nat) : Int) - ((23 : Nat) : Int)) (-149) = u := by omega
    rw [hlast, show ((L : Int) + u - 52 - u).toNat = 0 by omega, show (u - ((L : Int) + u - 52)).toNat = 52 - L by omega, Nat.shiftLeft_zero, cut_ieee (.inl rfl) hv0]
    rw [show (u - -149).toNat = (u + 149).toNat by omega]
    exact congrArg (Ieee.single.word neg) (min_a hR)

theorem single_fin {neg : Bool} {X : Nat} (h : X < 2139095040) : (Ieee.single.read (Ieee.single.word neg X)).isInfinity = false := by
  obtain ⟨e1, e2, e3, e4, e5⟩ := s_consts
  unfold Ieee.Format.read Ieee.Format.word
  simp only [e1, e2, e3, e4]
  have hr : (if neg = true then 2147483648 + X else X) % 2147483648 = X := by
    cases neg
    · simp; omega
    · simp; omega
  rw [hr]
  by_cases h1 : X < 8388608
  · rw [if_pos h1]; rfl
  · rw [if_neg h1, if_pos h]; rfl

/-- From 64 bits to 32. -/
theorem conv_back {neg : Bool} {v L f : Nat} {u : Int} (hL : L ≤ 24) (h1 : 2 ^ L ≤ v) (h2 : v < 2 ^ (L + 1)) (h24 : L = 24 → v = 16777216) (hf : f < 4503599627370496) (hvf : v * 2 ^ (52 - L) = 4503599627370496 + f) (hu : -149 ≤ u) (hv : u = -149 ∨ 23 ≤ L) (hR : v + (u + 149).toNat * 8388608 < 2139095040)
    {G : Nat} (hG : (G : Int) = L + 1023 + u) : floatToFloatBits .f64 (Ieee.double.word neg (G * 4503599627370496 + f)) .f32 = some (Ieee.single.word neg (v + (u + 149).toNat * 8388608)) := by
  have hG1 : 1 ≤ G := by omega
  have hG2 : G ≤ 2046 := by omega
  have hr : FloatKind.f64.decode (Ieee.double.word neg (G * 4503599627370496 + f)) = .number neg (4503599627370496 + f) ((G : Int) - 1075) := read_normS hG1 hG2 hf
  have he : FloatKind.f32.encode (.number neg (4503599627370496 + f) ((G : Int) - 1075)) = Ieee.single.word neg (v + (u + 149).toNat * 8388608) := by
    show Ieee.single.nearest _ _ _ = _
    rw [← hvf, show (G : Int) - 1075 = L + u - 52 by omega]
    exact single_write hL h1 h2 h24 hu hv (by omega)
  unfold floatToFloatBits
  rw [if_neg (by decide), hr]
  simp only
  rw [he]
  have h3 : (FloatKind.f32.decode (Ieee.single.word neg (v + (u + 149).toNat * 8388608))).isInfinity = false := single_fin hR
  rw [h3]
  rfl

theorem conv_back0 (neg : Bool) : floatToFloatBits .f64 (Ieee.double.word neg 0) .f32 = some (Ieee.single.word neg 0) := by
  cases neg <;> decide

/-- Past the greatest float. -/
theorem past_max {v L f G : Nat} {u : Int} (hL : L ≤ 24) (h1 : 2 ^ L ≤ v) (h2 : v < 2 ^ (L + 1)) (h24 : L = 24 → v = 16777216) (hvf : v * 2 ^ (52 - L) = 4503599627370496 + f) (hf : f < 4503599627370496) (hu : -149 ≤ u) (hv : u = -149 ∨ 23 ≤ L) (hG : (G : Int) = L + 1023 + u) :
    5183643170566569984 < G * 4503599627370496 + f ↔ 2139095040 ≤ v + (u + 149).toNat * 8388608 := by
  by_cases hl : L = 24
  · subst hl
    have := h24 rfl
    subst this
    have e : 16777216 * 2 ^ (52 - 24) = 4503599627370496 := by decide
    omega
  · by_cases hl2 : L = 23
    · subst hl2
      have e : 2 ^ (52 - 23) = 536870912 := by decide
      have e2 : 2 ^ 23 = 8388608 := by decide
      have e3 : 2 ^ (23 + 1) = 16777216 := by decide
      rw [e] at hvf
      rw [e2] at h1
      rw [e3] at h2
      omega
    · have hu2 : u = -149 := by omega
      have hp : 2 ^ (L + 1) ≤ 2 ^ 23 := Nat.pow_le_pow_right (by decide) (by omega)
      have e2 : 2 ^ 23 = 8388608 := by decide
      omega

end Go.Proofs.Ytfgpknglgbpebad

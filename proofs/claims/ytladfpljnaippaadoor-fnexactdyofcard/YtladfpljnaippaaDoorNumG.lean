/-
  Plain mathematics: words of 64 bits: their order, their parts, floats widened.
-/
import Derived.Test.YtladfpljnaippaaDoorNumF
import Derived.Laws.FloatArith
import Derived.Laws.Bits64b
namespace Go.Proofs.YtladfpljnaippaaDoor

/-- The magnitude that a positive word of 64 bits stands for, in units of the least. -/
def dMag (X : Nat) : Nat := if X < 4503599627370496 then X else (4503599627370496 + X % 4503599627370496) * 2 ^ (X / 4503599627370496 - 1)

theorem dMag_lt {X Y : Nat} (h : X < Y) : dMag X < dMag Y := by
  unfold dMag
  have hp : ∀ n, 0 < 2 ^ n := fun n => Nat.two_pow_pos n
  by_cases hX : X < 4503599627370496
  · rw [if_pos hX]
    by_cases hY : Y < 4503599627370496
    · rw [if_pos hY]; exact h
    · rw [if_neg hY]
      have h1 : (4503599627370496 + Y % 4503599627370496) * 1 ≤ (4503599627370496 + Y % 4503599627370496) * 2 ^ (Y / 4503599627370496 - 1) := Nat.mul_le_mul_left _ (hp _)
      omega
  · have hY : ¬ Y < 4503599627370496 := by omega
    rw [if_neg hX, if_neg hY]
    by_cases hF : X / 4503599627370496 = Y / 4503599627370496
    · rw [hF]
      exact Nat.mul_lt_mul_of_pos_right (by omega) (hp _)
    · obtain ⟨k, hk⟩ : ∃ k, Y / 4503599627370496 - 1 = (X / 4503599627370496 - 1) + (k + 1) := ⟨Y / 4503599627370496 - X / 4503599627370496 - 1, by omega⟩
      rw [hk, Nat.pow_add, Nat.pow_succ]
      have h2 : (4503599627370496 + X % 4503599627370496) * 2 ^ (X / 4503599627370496 - 1) < 9007199254740992 * 2 ^ (X / 4503599627370496 - 1) := Nat.mul_lt_mul_of_pos_right (by omega) (hp _)
      have h3 : 9007199254740992 * 2 ^ (X / 4503599627370496 - 1) ≤ (4503599627370496 + Y % 4503599627370496) * (2 ^ (X / 4503599627370496 - 1) * (2 ^ k * 2)) := by
        have h4 : 1 ≤ 2 ^ k := hp k
        have h5 : 9007199254740992 ≤ (4503599627370496 + Y % 4503599627370496) * (2 ^ k * 2) := by
          have : 4503599627370496 * (1 * 2) ≤ (4503599627370496 + Y % 4503599627370496) * (2 ^ k * 2) := Nat.mul_le_mul (by omega) (Nat.mul_le_mul h4 (Nat.le_refl _))
          omega
        calc 9007199254740992 * 2 ^ (X / 4503599627370496 - 1) ≤ ((4503599627370496 + Y % 4503599627370496) * (2 ^ k * 2)) * 2 ^ (X / 4503599627370496 - 1) := Nat.mul_le_mul_right _ h5
          _ = (4503599627370496 + Y % 4503599627370496) * (2 ^ (X / 4503599627370496 - 1) * (2 ^ k * 2)) := by rw [Nat.mul_assoc, Nat.mul_comm (2 ^ k * 2)]
      omega

theorem d_consts : Ieee.double.signWeight = 9223372036854775808 ∧ Ieee.double.binade = 4503599627370496 ∧ Ieee.double.infRung = 9218868437227405312 ∧ Ieee.double.leastPlace = -1074 := by decide

/-- Reading a word below the infinite one. -/
theorem double_read {X : Nat} (h : X < 9218868437227405312) : ∃ (m : Nat) (i : Int), Ieee.double.read X = .number false m i ∧ -1074 ≤ i ∧ m * 2 ^ (i + 1074).toNat = dMag X := by
  obtain ⟨e1, e2, e3, e4⟩ := d_consts
  unfold Ieee.Format.read dMag
  simp only [e1, e2, e3, e4]
  have hs : (X / 9223372036854775808 % 2 == 1) = false := by
    have : X / 9223372036854775808 = 0 := Nat.div_eq_of_lt (by omega)
    rw [this]; rfl
  rw [hs, Nat.mod_eq_of_lt (by omega)]
  by_cases hX : X < 4503599627370496
  · rw [if_pos hX, if_pos hX]
    exact ⟨X, -1074, rfl, by omega, by simp⟩
  · rw [if_neg hX, if_pos (by omega), if_neg hX]
    refine ⟨_, _, rfl, by omega, ?_⟩
    congr 2
    omega

theorem double_order {X Y : Nat} (hX : X < 9218868437227405312) (hY : Y < 9218868437227405312) : Ieee.double.order X Y = some (compare (X : Int) (Y : Int)) := by
  obtain ⟨m, i, e1, hi, h1⟩ := double_read hX
  obtain ⟨n, j, e2, hj, h2⟩ := double_read hY
  unfold Ieee.Format.order
  rw [e1, e2]
  simp only [Ieee.Datum.order, Ieee.signed, Bool.false_eq_true, if_false]
  congr 1
  have key : ∀ {m : Nat} {i b : Int}, b ≤ i → -1074 ≤ b → ((m <<< (i - b).toNat : Nat) : Int) * 2 ^ (b + 1074).toNat = ((m * 2 ^ (i + 1074).toNat : Nat) : Int) := by
    intro m i b hb hb'
    rw [Nat.shiftLeft_eq]
    push_cast
    rw [Int.mul_assoc, ← Int.pow_add, show (i - b).toNat + (b + 1074).toNat = (i + 1074).toNat by omega]
  have k1 := key (m := m) (i := i) (b := min i j) (by omega) (by omega)
  have k2 := key (m := n) (i := j) (b := min i j) (by omega) (by omega)
  rw [h1] at k1
  rw [h2] at k2
  have hp : (0 : Int) < 2 ^ (min i j + 1074).toNat := Int.pow_pos (by decide)
  generalize ((m <<< (i - min i j).toNat : Nat) : Int) = a at *
  generalize ((n <<< (j - min i j).toNat : Nat) : Int) = b at *
  generalize (2 : Int) ^ (min i j + 1074).toNat = p at *
  rcases Nat.lt_trichotomy X Y with h | h | h
  · have := dMag_lt h
    have h3 : a * p < b * p := by rw [k1, k2]; omega
    have h4 : a < b := Int.lt_of_mul_lt_mul_right h3 (Int.le_of_lt hp)
    rw [Int.compare_eq_lt.2 h4, Int.compare_eq_lt.2 (by omega)]
  · subst h
    have h3 : a * p = b * p := by rw [k1, k2]
    have h4 : a = b := Int.eq_of_mul_eq_mul_right (Int.ne_of_gt hp) h3
    rw [h4, Int.compare_eq_eq.2 rfl, Int.compare_eq_eq.2 rfl]
  · have := dMag_lt h
    have h3 : b * p < a * p := by rw [k1, k2]; omega
    have h4 : b < a := Int.lt_of_mul_lt_mul_right h3 (Int.le_of_lt hp)
    rw [Int.compare_eq_gt.2 h4, Int.compare_eq_gt.2 (by omega)]

theorem small_word {q B : Nat} (h2 : q ≤ 2045) (h1 : B < 2 ^ 53) : q * 4503599627370496 + B ≤ 9218868437227405312 := by
  have h3 : B < 9007199254740992 := h1
  omega

/-- A number whose digits fit is written exactly. -/
theorem double_write {neg : Bool} {M : Nat} {P : Int} {L : Nat} (hL : 2 ^ L ≤ M) (hL' : M < 2 ^ (L + 1)) (h52 : L ≤ 52) (hP : -1022 ≤ P + L) (hP' : P + L ≤ 1023) :
    Ieee.double.nearest neg M P = Ieee.double.word neg ((P + L + 1022).toNat * 4503599627370496 + M * 2 ^ (52 - L)) := by
  obtain ⟨e1, e2, e3, e4⟩ := d_consts
  have hM : M ≠ 0 := by have := Nat.two_pow_pos L; omega
  have hlog : M.log2 = L := by
    apply Nat.le_antisymm
    · exact Nat.lt_succ_iff.1 ((Nat.log2_lt hM).2 hL')
    · exact (Nat.le_log2 hM).2 hL
  unfold Ieee.Format.nearest
  rw [if_neg hM]
  simp only [hlog, e2, e3, e4]
  have hf : Ieee.double.fractionBits = 52 := rfl
  have hlast : max (P + (L : Int) - ((Ieee.double.fractionBits : Nat) : Int)) (-1074) = P + L - 52 := by rw [hf]; omega
  rw [hlast]
  have hcut : Ieee.Toward.even.cut neg (M <<< (P - (P + L - 52)).toNat) (P + L - 52 - P).toNat = M * 2 ^ (52 - L) := by
    rw [show (P - (P + (L : Int) - 52)).toNat = 52 - L by omega, show (P + (L : Int) - 52 - P).toNat = 0 by omega]
    unfold Ieee.Toward.cut
    simp only [Nat.zero_min, Nat.shiftLeft_zero, Nat.div_one, Nat.mod_one]
    rw [Nat.shiftLeft_eq]
    simp
  rw [hcut]
  congr 1
  have h1 : M * 2 ^ (52 - L) < 2 ^ (L + 1) * 2 ^ (52 - L) := Nat.mul_lt_mul_of_pos_right hL' (Nat.two_pow_pos _)
  rw [← Nat.pow_add, show L + 1 + (52 - L) = 53 by omega] at h1
  rw [show (P + (L : Int) - 52 - -1074).toNat = (P + L + 1022).toNat by omega]
  have h2 : (P + L + 1022).toNat ≤ 2045 := by omega
  generalize (P + L + 1022).toNat = q at *
  generalize M * 2 ^ (52 - L) = B at *
  exact Nat.min_eq_left (small_word h2 h1)
theorem wrapU64 (n : Nat) (h : n < 18446744073709551616) : IntKind.u64.wrap (n : Int) = n := by
  simp only [IntKind.wrap, IntKind.bits, IntKind.signed]
  simp
  omega

theorem ofInt64 (a : Nat) (h : a < 18446744073709551616) : (BitVec.ofInt 64 (a : Int)).toNat = a := by
  rw [BitVec.ofInt_natCast, BitVec.toNat_ofNat]
  exact Nat.mod_eq_of_lt (by omega)

theorem andNot_nat (a b : Nat) (ha : a < 18446744073709551616) (hb : b < 18446744073709551616) : bits .andNot .u64 (a : Int) (b : Int) = ((a &&& (18446744073709551615 - b) : Nat) : Int) := by
  have e : (BitVec.ofInt 64 (a : Int) &&& ~~~ BitVec.ofInt 64 (b : Int)).toNat = a &&& (18446744073709551615 - b) := by
    rw [BitVec.toNat_and, BitVec.toNat_not, ofInt64 a ha, ofInt64 b hb]
  show IntKind.u64.wrap ((BitVec.ofInt 64 (a : Int) &&& ~~~ BitVec.ofInt 64 (b : Int)).toNat : Int) = _
  rw [e]
  exact wrapU64 _ (Nat.lt_of_le_of_lt Nat.and_le_left ha)

/-- Without the sign. -/
theorem bits_abs (a : Nat) (h : a < 18446744073709551616) : bits .andNot .u64 (a : Int) 9223372036854775808 = ((a % 9223372036854775808 : Nat) : Int) := by
  have := andNot_nat a 9223372036854775808 h (by decide)
  rw [show ((9223372036854775808 : Nat) : Int) = 9223372036854775808 from rfl] at this
  rw [this]
  have e : a &&& (18446744073709551615 - 9223372036854775808) = a % 9223372036854775808 := by
    show a &&& (2 ^ 63 - 1) = a % 2 ^ 63
    exact Nat.and_two_pow_sub_one_eq_mod a 63
  rw [e]

/-- Without sign and exponent. -/
theorem bits_frac (a : Nat) (h : a < 9223372036854775808) : bits .andNot .u64 (a : Int) 9218868437227405312 = ((a % 4503599627370496 : Nat) : Int) := by
  have := andNot_nat a 9218868437227405312 (by omega) (by decide)
  rw [show ((9218868437227405312 : Nat) : Int) = 9218868437227405312 from rfl] at this
  rw [this]
  have hm : 18446744073709551615 - 9218868437227405312 = 2 ^ 63 ||| (2 ^ 52 - 1) := by decide
  have e : a &&& (18446744073709551615 - 9218868437227405312) = a % 2 ^ 52 := by
    rw [hm]
    apply Nat.eq_of_testBit_eq
    intro i
    rw [Nat.testBit_and, Nat.testBit_or, Nat.testBit_two_pow, Nat.testBit_two_pow_sub_one, Nat.testBit_mod_two_pow]
    by_cases hi : i = 63
    · subst hi
      have : a.testBit 63 = false := Nat.testBit_lt_two_pow h
      rw [this]
      simp
    · have h63 : (decide (63 = i)) = false := by simp; omega
      rw [h63, Bool.false_or, Bool.and_comm]
  rw [e]

theorem bits_exp (F : Nat) (h : F < 2048) : bits .and .u64 (F : Int) 2047 = F := by
  have := bits_and_u64_nat F 2047 (by omega) (by decide)
  rw [show ((2047 : Nat) : Int) = 2047 from rfl] at this
  rw [this]
  have e : F &&& 2047 = F := by
    show F &&& (2 ^ 11 - 1) = F
    rw [Nat.and_two_pow_sub_one_eq_mod]
    exact Nat.mod_eq_of_lt h
  rw [e]

theorem bits_expI (F : Nat) (h : F < 2048) : bits .and .i64 (F : Int) 2047 = F := by
  have e : (BitVec.ofInt 64 (F : Int) &&& BitVec.ofInt 64 2047).toNat = F := by
    rw [BitVec.toNat_and, ofInt64 F (by omega)]
    show F &&& (2 ^ 11 - 1) = F
    rw [Nat.and_two_pow_sub_one_eq_mod]
    exact Nat.mod_eq_of_lt h
  show IntKind.i64.wrap ((BitVec.ofInt 64 (F : Int) &&& BitVec.ofInt 64 2047).toNat : Int) = _
  rw [e]
  simp only [IntKind.wrap, IntKind.bits, IntKind.signed]
  simp
  omega

theorem bits_join (f G : Nat) (hf : f < 4503599627370496) (hG : G < 2048) : bits .or .u64 (f : Int) ((G * 4503599627370496 : Nat) : Int) = ((G * 4503599627370496 + f : Nat) : Int) := by
  have e : (BitVec.ofInt 64 (f : Int) ||| BitVec.ofInt 64 ((G * 4503599627370496 : Nat) : Int)).toNat = G * 4503599627370496 + f := by
    rw [BitVec.toNat_or, ofInt64 _ (by omega), ofInt64 _ (by omega)]
    have := Nat.shiftLeft_add_eq_or_of_lt (b := f) (i := 52) hf G
    rw [Nat.shiftLeft_eq] at this
    rw [Nat.or_comm]
    exact this.symm
  show IntKind.u64.wrap ((BitVec.ofInt 64 (f : Int) ||| BitVec.ofInt 64 ((G * 4503599627370496 : Nat) : Int)).toNat : Int) = _
  rw [e]
  exact wrapU64 _ (by omega)

/-- The word of 64 bits of a float's magnitude. -/
def dOf (b : Int) : Nat := if (fMag b).toNat = 0 then 0 else (fExp b - 150 + (fMag b).toNat.log2 + 1022).toNat * 4503599627370496 + (fMag b).toNat * 2 ^ (52 - (fMag b).toNat.log2)

theorem fMag_lt {b : Int} (_h0 : 0 ≤ b) : 0 ≤ fMag b ∧ fMag b < 16777216 := by
  unfold fMag
  split <;> omega

/-- The parts of the word: exponent and fraction. -/
theorem dOf_parts {b : Int} (h0 : 0 ≤ b) (hf : fFin b = true) (hM : (fMag b).toNat ≠ 0) : ∃ (L F f : Nat), L ≤ 23 ∧ 2 ^ L ≤ (fMag b).toNat ∧ (fMag b).toNat < 2 ^ (L + 1) ∧ (F : Int) = fExp b - 150 + L + 1023 ∧ 1 ≤ F ∧ F ≤ 1150 ∧ f < 4503599627370496 ∧ 4503599627370496 + f = (fMag b).toNat * 2 ^ (52 - L) ∧ dOf b = F * 4503599627370496 + f ∧ L = (fMag b).toNat.log2 := by
  have h1 := fMag_lt h0
  have h2 := fExp_pos h0
  have h3 : fExp b ≤ 254 := by
    have : b / 8388608 % 256 ≠ 255 := by simpa [fFin] using hf
    unfold fExp
    split <;> omega
  have hl1 := Nat.log2_self_le hM
  have hl2 : (fMag b).toNat < 2 ^ ((fMag b).toNat.log2 + 1) := Nat.lt_log2_self
  have hL : (fMag b).toNat.log2 ≤ 23 := by
    have : (fMag b).toNat.log2 < 24 := (Nat.log2_lt hM).2 (by show _ < 16777216; omega)
    omega
  have hd : dOf b = (fExp b - 150 + (fMag b).toNat.log2 + 1022).toNat * 4503599627370496 + (fMag b).toNat * 2 ^ (52 - (fMag b).toNat.log2) := by unfold dOf; rw [if_neg hM]
  obtain ⟨L, hLL⟩ : ∃ L, L = (fMag b).toNat.log2 := ⟨_, rfl⟩
  rw [← hLL] at hl1 hl2 hL hd
  have hlo : 2 ^ L * 2 ^ (52 - L) ≤ (fMag b).toNat * 2 ^ (52 - L) := Nat.mul_le_mul_right _ hl1
  have hhi : (fMag b).toNat * 2 ^ (52 - L) < 2 ^ (L + 1) * 2 ^ (52 - L) := Nat.mul_lt_mul_of_pos_right hl2 (Nat.two_pow_pos _)
  rw [← Nat.pow_add, show L + (52 - L) = 52 by omega] at hlo
  rw [← Nat.pow_add, show L + 1 + (52 - L) = 53 by omega] at hhi
  have hlo' : 4503599627370496 ≤ (fMag b).toNat * 2 ^ (52 - L) := hlo
  have hhi' : (fMag b).toNat * 2 ^ (52 - L) < 9007199254740992 := hhi
  refine ⟨L, (fExp b - 150 + L + 1023).toNat, (fMag b).toNat * 2 ^ (52 - L) - 4503599627370496, hL, hl1, hl2, by omega, by omega, by omega, by omega, by omega, ?_, hLL⟩
  rw [hd]
  generalize (fMag b).toNat * 2 ^ (52 - L) = m at *
  have : (fExp b - 150 + L + 1023).toNat = (fExp b - 150 + L + 1022).toNat + 1 := by omega
  rw [this, Nat.add_mul]
  omega

theorem read_fin {neg : Bool} {X : Nat} (h : X < 9218868437227405312) : (Ieee.double.read (Ieee.double.word neg X)).isInfinity = false := by
  obtain ⟨e1, e2, e3, e4⟩ := d_consts
  unfold Ieee.Format.read Ieee.Format.word
  simp only [e1, e2, e3, e4]
  have hr : (if neg = true then 9223372036854775808 + X else X) % 9223372036854775808 = X := by
    cases neg
    · simp; omega
    · simp; omega
  rw [hr]
  by_cases h1 : X < 4503599627370496
  · rw [if_pos h1]; rfl
  · rw [if_neg h1, if_pos h]; rfl

theorem conv_fin {b : Int} (h0 : 0 ≤ b) (h1 : b < 4294967296) (hf : fFin b = true) : floatToFloatBits .f32 b.toNat .f64 = some (Ieee.double.word (decide (2147483648 ≤ b)) (dOf b)) := by
  have hr : FloatKind.f32.decode b.toNat = .number (decide (2147483648 ≤ b)) (fMag b).toNat (fExp b - 150) := single_read h0 h1 hf
  have he : FloatKind.f64.encode (.number (decide (2147483648 ≤ b)) (fMag b).toNat (fExp b - 150)) = Ieee.double.word (decide (2147483648 ≤ b)) (dOf b) := by
    show Ieee.double.nearest _ _ _ = _
    by_cases hM : (fMag b).toNat = 0
    · unfold Ieee.Format.nearest dOf
      rw [if_pos hM, if_pos hM]
    · obtain ⟨L, F, f, hL, hl1, hl2, hF, hF1, hF2, hf1, hf2, hd, hLL⟩ := dOf_parts h0 hf hM
      rw [double_write hl1 hl2 (by omega) (by omega) (by omega)]
      congr 1
      unfold dOf
      rw [if_neg hM, ← hLL]
  have hlt : dOf b < 9218868437227405312 := by
    by_cases hM : (fMag b).toNat = 0
    · unfold dOf; rw [if_pos hM]; decide
    · obtain ⟨L, F, f, hL, hl1, hl2, hF, hF1, hF2, hf1, hf2, hd, hLL⟩ := dOf_parts h0 hf hM
      rw [hd]
      omega
  unfold floatToFloatBits
  rw [if_neg (by decide), hr]
  simp only
  rw [he]
  have h2 : (FloatKind.f64.decode (Ieee.double.word (decide (2147483648 ≤ b)) (dOf b))).isInfinity = false := read_fin hlt
  rw [h2]
  rfl

theorem read_norm {F f : Nat} (h1 : 1 ≤ F) (h2 : F ≤ 2046) (hf : f < 4503599627370496) : Ieee.double.read (F * 4503599627370496 + f) = .number false (4503599627370496 + f) ((F : Int) - 1075) := by
  obtain ⟨e1, e2, e3, e4⟩ := d_consts
  unfold Ieee.Format.read
  simp only [e1, e2, e3, e4]
  have hX : F * 4503599627370496 + f < 9218868437227405312 := by omega
  have hs : ((F * 4503599627370496 + f) / 9223372036854775808 % 2 == 1) = false := by
    have : (F * 4503599627370496 + f) / 9223372036854775808 = 0 := Nat.div_eq_of_lt (by omega)
    rw [this]; rfl
  rw [hs, Nat.mod_eq_of_lt (by omega), if_neg (by omega), if_pos hX]
  have q1 : (F * 4503599627370496 + f) % 4503599627370496 = f := by omega
  have q2 : (F * 4503599627370496 + f) / 4503599627370496 = F := by omega
  rw [q1, q2]
  congr 1
  omega

theorem cut_ieee {way : Ieee.Toward} (hw : way = .even ∨ way = .zero) {neg : Bool} {m k : Nat} (hm : m ≠ 0) : way.cut neg (m * 2 ^ k) k = m := by
  have hmk : m * 2 ^ k ≠ 0 := Nat.mul_ne_zero hm (Nat.ne_of_gt (Nat.two_pow_pos _))
  have hlog : k ≤ (m * 2 ^ k).log2 := (Nat.le_log2 hmk).2 (by
    have : 1 * 2 ^ k ≤ m * 2 ^ k := Nat.mul_le_mul_right _ (by omega)
    omega)
  have hmin : min k ((m * 2 ^ k).log2 + 2) = k := by omega
  unfold Ieee.Toward.cut
  simp only [hmin, Nat.shiftLeft_eq, Nat.one_mul]
  rw [Nat.mul_div_cancel _ (Nat.two_pow_pos _), Nat.mul_mod_left]
  rcases hw with rfl | rfl
  · have : (decide (2 ^ k < 2 * 0) || (2 ^ k == 2 * 0 && m % 2 == 1)) = false := by
      have hp := Nat.two_pow_pos k
      have h1 : decide (2 ^ k < 2 * 0) = false := by simp
      have h2 : (2 ^ k == 2 * 0) = false := by rw [beq_eq_false_iff_ne]; omega
      rw [h1, h2]; rfl
    simp only [this]
    rfl
  · rfl

theorem mul_one_word {F f : Nat} (h1 : 1 ≤ F) (h2 : F ≤ 2046) (hf : f < 4503599627370496) : floatBits .mul .f64 4607182418800017408 (F * 4503599627370496 + f) = some (F * 4503599627370496 + f) := by
  obtain ⟨e1, e2, e3, e4⟩ := d_consts
  have hone : Ieee.double.read 4607182418800017408 = .number false 4503599627370496 (-52) := by
    have := read_norm (F := 1023) (f := 0) (by decide) (by decide) (by decide)
    exact this
  show ((Ieee.double.read 4607182418800017408).product (Ieee.double.read (F * 4503599627370496 + f))).map Ieee.double.write = _
  rw [hone, read_norm h1 h2 hf]
  simp only [Ieee.Datum.product, Option.map_some, Bool.xor_self]
  congr 1
  show Ieee.double.nearest false (4503599627370496 * (4503599627370496 + f)) (-52 + ((F : Int) - 1075)) = _
  have hm : 4503599627370496 + f ≠ 0 := by omega
  have hne : 4503599627370496 * (4503599627370496 + f) ≠ 0 := Nat.mul_ne_zero (by decide) hm
  have hlog : (4503599627370496 * (4503599627370496 + f)).log2 = 104 := by
    apply Nat.le_antisymm
    · apply Nat.lt_succ_iff.1
      apply (Nat.log2_lt hne).2
      show 4503599627370496 * (4503599627370496 + f) < 4503599627370496 * 9007199254740992
      exact Nat.mul_lt_mul_of_pos_left (by omega) (by decide)
    · apply (Nat.le_log2 hne).2
      show 4503599627370496 * 4503599627370496 ≤ _
      exact Nat.mul_le_mul_left _ (by omega)
  unfold Ieee.Format.nearest
  rw [if_neg hne]
  simp only [hlog, e2, e3, e4]
  have hfb : Ieee.double.fractionBits = 52 := rfl
  have hlast : max (-52 + ((F : Int) - 1075) + ((104 : Nat) : Int) - ((Ieee.double.fractionBits : Nat) : Int)) (-1074) = (F : Int) - 1075 := by rw [hfb]; omega
  rw [hlast]
  have hcut : Ieee.Toward.even.cut false ((4503599627370496 * (4503599627370496 + f)) <<< (-52 + ((F : Int) - 1075) - ((F : Int) - 1075)).toNat) ((F : Int) - 1075 - (-52 + ((F : Int) - 1075))).toNat = 4503599627370496 + f := by
    rw [show (-52 + ((F : Int) - 1075) - ((F : Int) - 1075)).toNat = 0 by omega, show ((F : Int) - 1075 - (-52 + ((F : Int) - 1075))).toNat = 52 by omega, Nat.shiftLeft_zero, Nat.mul_comm]
    exact cut_ieee (way := .even) (neg := false) (m := 4503599627370496 + f) (k := 52) (.inl rfl) hm
  rw [hcut, show ((F : Int) - 1075 - -1074).toNat = F - 1 by omega]
  unfold Ieee.Format.word
  rw [if_neg (by decide)]
  have hle : (F - 1) * 4503599627370496 + (4503599627370496 + f) = F * 4503599627370496 + f := by omega
  rw [hle]
  exact Nat.min_eq_left (by omega)

theorem toInt_word {f n : Nat} (hf : f < 4503599627370496) (hn : 4503599627370496 + f = n * 536870912) : floatToIntVal .f64 (1046 * 4503599627370496 + f) .u32 = some (n : Int) := by
  have hn0 : n ≠ 0 := by omega
  have hd : (FloatKind.f64.decode (1046 * 4503599627370496 + f)).toInt .zero = some (n : Int) := by
    show (Ieee.double.read (1046 * 4503599627370496 + f)).toInt .zero = _
    rw [read_norm (by decide) (by decide) hf]
    simp only [Ieee.Datum.toInt, Ieee.Datum.integral]
    have hc : Ieee.Toward.zero.cut false ((4503599627370496 + f) <<< (((1046 : Nat) : Int) - 1075).toNat) (-(((1046 : Nat) : Int) - 1075)).toNat = n := by
      rw [show (((1046 : Nat) : Int) - 1075).toNat = 0 by decide, show (-(((1046 : Nat) : Int) - 1075)).toNat = 29 by decide, Nat.shiftLeft_zero, hn]
      exact cut_ieee (way := .zero) (neg := false) (m := n) (k := 29) (.inr rfl) hn0
    rw [hc]
    simp [Ieee.signed]
  unfold floatToIntVal
  rw [hd]
  simp only
  rw [if_pos ⟨by show (0 : Int) ≤ n; omega, by show (n : Int) ≤ 4294967295; omega⟩]

theorem toInt_zero : floatToIntVal .f64 0 .u32 = some 0 := by decide

end Go.Proofs.YtladfpljnaippaaDoor

/-
  Plain mathematics: the bits of a float of 32 bits, and the order of two floats.
-/
import Derived.Test.YtladfpljnaippabDoorNumDQF
import Ieee.Arith
namespace Go.Proofs.YtladfpljnaippabDoor

/-- The value of the bits of a float, as a whole number of the last place of its own. -/
def fMag (b : Int) : Int := if b / 8388608 % 256 = 0 then b % 8388608 else b % 8388608 + 8388608
def fExp (b : Int) : Int := if b / 8388608 % 256 = 0 then 1 else b / 8388608 % 256
def fNum (b : Int) : Int := if 2147483648 ≤ b then -(fMag b) else fMag b
def fFin (b : Int) : Bool := b / 8388608 % 256 != 255
/-- The value in units of 2^-149. -/
def fVal (b : Int) : Int := atK 150 (fNum b) (fExp b - 150)

theorem single_read {b : Int} (h0 : 0 ≤ b) (h1 : b < 4294967296) (hf : fFin b = true) : Ieee.single.read b.toNat = .number (decide (2147483648 ≤ b)) (fMag b).toNat (fExp b - 150) := by
  have hf' : b / 8388608 % 256 ≠ 255 := by simpa [fFin] using hf
  obtain ⟨n, rfl⟩ := Int.eq_ofNat_of_zero_le h0
  have e1 : Ieee.single.signWeight = 2147483648 := by decide
  have e2 : Ieee.single.binade = 8388608 := by decide
  have e3 : Ieee.single.infRung = 2139095040 := by decide
  have e4 : Ieee.single.leastPlace = -149 := by decide
  unfold Ieee.Format.read
  simp only [e1, e2, e3, e4, Int.toNat_natCast]
  have hs : (n / 2147483648 % 2 == 1) = decide ((2147483648 : Int) ≤ (n : Int)) := by
    by_cases h : 2147483648 ≤ n
    · have : n / 2147483648 % 2 = 1 := by omega
      rw [this]
      symm
      simp
      omega
    · have : n / 2147483648 % 2 = 0 := by omega
      rw [this]
      symm
      simp
      omega
  rw [hs]
  by_cases hr : n % 2147483648 < 8388608
  · have hz : (n : Int) / 8388608 % 256 = 0 := by omega
    rw [if_pos hr]
    simp only [fMag, fExp, hz, if_true]
    congr 1
    omega
  · have hz : ¬ ((n : Int) / 8388608 % 256 = 0) := by omega
    rw [if_neg hr, if_pos (by omega)]
    simp only [fMag, fExp, hz, if_false]
    congr 1 <;> omega

theorem fMag_nn {b : Int} (_h0 : 0 ≤ b) : 0 ≤ fMag b := by
  unfold fMag
  split <;> omega

theorem fExp_pos {b : Int} (_h0 : 0 ≤ b) : 1 ≤ fExp b ∧ fExp b ≤ 255 := by
  unfold fExp
  split <;> omega

theorem signed_eq {b : Int} (h0 : 0 ≤ b) (k : Nat) : Ieee.signed (decide (2147483648 ≤ b)) (fMag b).toNat k = fNum b * 2 ^ k := by
  have hm := fMag_nn h0
  have e : (((fMag b).toNat <<< k : Nat) : Int) = fMag b * 2 ^ k := by
    rw [Nat.shiftLeft_eq]
    push_cast
    rw [Int.toNat_of_nonneg hm]
  unfold Ieee.signed fNum
  by_cases h : 2147483648 ≤ b
  · rw [if_pos (by simpa using h), if_pos h, e, Int.neg_mul]
  · rw [if_neg (by simpa using h), if_neg h, e]

theorem single_order {a b : Int} (a0 : 0 ≤ a) (a1 : a < 4294967296) (b0 : 0 ≤ b) (b1 : b < 4294967296) (fa : fFin a = true) (fb : fFin b = true) : Ieee.single.order a.toNat b.toNat = some (compare (fVal a) (fVal b)) := by
  unfold Ieee.Format.order
  rw [single_read a0 a1 fa, single_read b0 b1 fb]
  have ea := fExp_pos a0
  have eb := fExp_pos b0
  simp only [Ieee.Datum.order]
  rw [signed_eq a0, signed_eq b0]
  obtain ⟨m, hm⟩ : ∃ m, m = min (fExp a - 150) (fExp b - 150) := ⟨_, rfl⟩
  rw [← hm]
  have hp : (0 : Int) < 2 ^ (m + 150).toNat := Int.pow_pos (by decide)
  have va : fVal a = fNum a * 2 ^ (fExp a - 150 - m).toNat * 2 ^ (m + 150).toNat := by
    unfold fVal atK
    rw [Int.mul_assoc, ← Int.pow_add, show (fExp a - 150 - m).toNat + (m + 150).toNat = (fExp a - 150 + 150).toNat by omega]
  have vb : fVal b = fNum b * 2 ^ (fExp b - 150 - m).toNat * 2 ^ (m + 150).toNat := by
    unfold fVal atK
    rw [Int.mul_assoc, ← Int.pow_add, show (fExp b - 150 - m).toNat + (m + 150).toNat = (fExp b - 150 + 150).toNat by omega]
  rw [va, vb]
  generalize fNum a * 2 ^ (fExp a - 150 - m).toNat = x
  generalize fNum b * 2 ^ (fExp b - 150 - m).toNat = y
  generalize (2 : Int) ^ (m + 150).toNat = p at hp
  congr 1
  rcases Int.lt_trichotomy x y with h | h | h
  · rw [Int.compare_eq_lt.2 h, Int.compare_eq_lt.2 (Int.mul_lt_mul_of_pos_right h hp)]
  · rw [h, Int.compare_eq_eq.2 rfl, Int.compare_eq_eq.2 rfl]
  · rw [Int.compare_eq_gt.2 h, Int.compare_eq_gt.2 (Int.mul_lt_mul_of_pos_right h hp)]

theorem order_lt {a b : Int} : ((some (compare a b) : Option Ordering) == some .lt) = decide (a < b) := by
  rcases Int.lt_trichotomy a b with h | h | h
  · rw [Int.compare_eq_lt.2 h]; simp [h]
  · subst h; rw [Int.compare_eq_eq.2 rfl]; simp
  · rw [Int.compare_eq_gt.2 h]; simp; omega

theorem order_gt {a b : Int} : ((some (compare a b) : Option Ordering) == some .gt) = decide (b < a) := by
  rcases Int.lt_trichotomy a b with h | h | h
  · rw [Int.compare_eq_lt.2 h]; simp; omega
  · subst h; rw [Int.compare_eq_eq.2 rfl]; simp
  · rw [Int.compare_eq_gt.2 h]; simp [h]

theorem order_self {a : Int} : ((some (compare a a) : Option Ordering) != some .eq) = false := by
  rw [Int.compare_eq_eq.2 rfl]; rfl

end Go.Proofs.YtladfpljnaippabDoor



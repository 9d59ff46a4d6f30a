/-
  A number N * 2^E, rounded to the floats' places: of two that are equally near the even one.
-/
import Derived.Test.YtladfpljnaippabDoorNumQF
namespace Go.Proofs.YtladfpljnaippabDoor

/-- N / 2^d, rounded to a whole number. -/
def rnd (N d : Int) : Int :=
  N * 2 ^ (1 - d).toNat / 2 ^ (d - 1).toNat / 2 +
    if N * 2 ^ (1 - d).toNat / 2 ^ (d - 1).toNat % 2 = 1 ∧ (N * 2 ^ (1 - d).toNat % 2 ^ (d - 1).toNat ≠ 0 ∨ N * 2 ^ (1 - d).toNat / 2 ^ (d - 1).toNat / 2 % 2 = 1) then 1 else 0

/-- What the last bit kept is worth. -/
def plc (N E : Int) : Int := max ((N.toNat.log2 : Int) + 1 + E - 24) (-149)

/-- The float's bits, the sign aside; at 255 * 2^23 and above there is none. -/
def flR (N E : Int) : Int := rnd N (plc N E - E) + (plc N E + 149) * 8388608

theorem log2_of {N : Int} {n : Nat} (h1 : 2 ^ n ≤ N) (h2 : N < 2 ^ (n + 1)) : N.toNat.log2 = n := by
  have hp : (0 : Int) < 2 ^ n := Int.pow_pos (by decide)
  obtain ⟨m, rfl⟩ := Int.eq_ofNat_of_zero_le (show 0 ≤ N by omega)
  have a : 2 ^ n ≤ m := by exact_mod_cast h1
  have b : m < 2 ^ (n + 1) := by exact_mod_cast h2
  have hm : m ≠ 0 := by
    have : 0 < 2 ^ n := Nat.two_pow_pos n
    omega
  rw [Int.toNat_natCast]
  have c : ¬ m.log2 < n := fun h => by
    have := (Nat.log2_lt hm).1 h
    omega
  have d := (Nat.log2_lt hm).2 b
  omega

theorem rnd_up {N d : Int} (h : d ≤ 0) : rnd N d = N * 2 ^ (-d).toNat := by
  have e1 : (d - 1).toNat = 0 := by omega
  have e2 : (1 - d).toNat = (-d).toNat + 1 := by omega
  unfold rnd
  rw [e1, e2, Int.pow_succ, Int.pow_zero, Int.ediv_one, ← Int.mul_assoc]
  generalize N * 2 ^ (-d).toNat = M
  rw [if_neg (by omega)]
  omega

theorem rnd_down {N d : Int} {c : Nat} (h : d = (c : Int) + 1) : rnd N d = N / 2 ^ (c + 1) + if N / 2 ^ c % 2 = 1 ∧ (N % 2 ^ c ≠ 0 ∨ N / 2 ^ (c + 1) % 2 = 1) then 1 else 0 := by
  have e1 : (d - 1).toNat = c := by omega
  have e2 : (1 - d).toNat = 0 := by omega
  have hp : (0 : Int) < 2 ^ c := Int.pow_pos (by decide)
  unfold rnd
  rw [e1, e2, Int.pow_zero, Int.mul_one, Int.pow_succ, Int.ediv_ediv_of_nonneg (Int.le_of_lt hp)]

theorem rnd_lo {N d : Int} {c : Nat} (h : d = (c : Int) + 1) : N / 2 ^ (c + 1) ≤ rnd N d ∧ rnd N d ≤ N / 2 ^ (c + 1) + 1 := by
  rw [rnd_down h]
  constructor <;> split <;> omega

theorem plc_ge (N E : Int) : -149 ≤ plc N E := Int.le_max_right _ _

theorem plc_of {N E : Int} {n : Nat} (h1 : 2 ^ n ≤ N) (h2 : N < 2 ^ (n + 1)) : plc N E = max ((n : Int) + 1 + E - 24) (-149) := by
  unfold plc
  rw [log2_of h1 h2]

theorem pow2_mono {a b : Nat} (h : a ≤ b) : (2 : Int) ^ a ≤ 2 ^ b := by
  obtain ⟨k, rfl⟩ : ∃ k, b = a + k := ⟨b - a, by omega⟩
  rw [Int.pow_add]
  have h1 : (0 : Int) < 2 ^ a := Int.pow_pos (by decide)
  have h2 : (0 : Int) < 2 ^ k := Int.pow_pos (by decide)
  have := Int.mul_le_mul_of_nonneg_left (show (1 : Int) ≤ 2 ^ k by omega) (Int.le_of_lt h1)
  omega

theorem rnd_le {N d : Int} {n : Nat} (h1 : 2 ^ n ≤ N) (h2 : N < 2 ^ (n + 1)) (hd : (n : Int) - 23 ≤ d) : 0 ≤ rnd N d ∧ rnd N d ≤ 16777216 := by
  have hp : (0 : Int) < 2 ^ n := Int.pow_pos (by decide)
  by_cases h : d ≤ 0
  · rw [rnd_up h]
    have hq : (0 : Int) < 2 ^ (-d).toNat := Int.pow_pos (by decide)
    have hm := Int.mul_lt_mul_of_pos_right h2 hq
    rw [← Int.pow_add] at hm
    have hm2 := pow2_mono (show n + 1 + (-d).toNat ≤ 24 by omega)
    have : (2 : Int) ^ 24 = 16777216 := by decide
    refine ⟨Int.mul_nonneg (by omega) (Int.le_of_lt hq), by omega⟩
  · obtain ⟨c, hc⟩ : ∃ c : Nat, d = (c : Int) + 1 := ⟨(d - 1).toNat, by omega⟩
    have hl := rnd_lo (N := N) hc
    have hq : (0 : Int) < 2 ^ (c + 1) := Int.pow_pos (by decide)
    have h0 := Int.ediv_nonneg (show 0 ≤ N by omega) (Int.le_of_lt hq)
    have h3 : N / 2 ^ (c + 1) < 16777216 := by
      rw [Int.ediv_lt_iff_lt_mul hq, show (16777216 : Int) = 2 ^ 24 by decide, ← Int.pow_add]
      have := pow2_mono (show n + 1 ≤ 24 + (c + 1) by omega)
      omega
    omega

theorem rnd_ge {N d : Int} {n : Nat} (h1 : 2 ^ n ≤ N) (hd : d ≤ (n : Int) - 23) : 8388608 ≤ rnd N d := by
  have hp : (0 : Int) < 2 ^ n := Int.pow_pos (by decide)
  by_cases h : d ≤ 0
  · rw [rnd_up h]
    have hq : (0 : Int) < 2 ^ (-d).toNat := Int.pow_pos (by decide)
    have hm := Int.mul_le_mul_of_nonneg_right h1 (Int.le_of_lt hq)
    rw [← Int.pow_add] at hm
    have hm2 := pow2_mono (show 23 ≤ n + (-d).toNat by omega)
    have : (2 : Int) ^ 23 = 8388608 := by decide
    omega
  · obtain ⟨c, hc⟩ : ∃ c : Nat, d = (c : Int) + 1 := ⟨(d - 1).toNat, by omega⟩
    have hl := rnd_lo (N := N) hc
    have hq : (0 : Int) < 2 ^ (c + 1) := Int.pow_pos (by decide)
    have h3 : 8388608 ≤ N / 2 ^ (c + 1) := by
      rw [Int.le_ediv_iff_mul_le hq, show (8388608 : Int) = 2 ^ 23 by decide, ← Int.pow_add]
      have := pow2_mono (show 23 + (c + 1) ≤ n by omega)
      omega
    omega

/-- What the rounded number is, at its place. -/
theorem rnd_plc {N E : Int} {n : Nat} (h1 : 2 ^ n ≤ N) (h2 : N < 2 ^ (n + 1)) : 0 ≤ rnd N (plc N E - E) ∧ rnd N (plc N E - E) ≤ 16777216 ∧ (plc N E ≠ -149 → 8388608 ≤ rnd N (plc N E - E)) := by
  have hp := plc_of (E := E) h1 h2
  have a := rnd_le (d := plc N E - E) h1 h2 (by omega)
  exact ⟨a.1, a.2, fun h => rnd_ge h1 (by omega)⟩

end Go.Proofs.YtladfpljnaippabDoor



/-
  A rounded number, whatever the form in which it is written.
-/
import Derived.Test.YtladfpljnaippabDoorNumRQF
namespace Go.Proofs.YtladfpljnaippabDoor

theorem rnd_two (m d : Int) : rnd (m * 2) d = rnd m (d - 1) := by
  rcases Int.lt_trichotomy d 1 with h | h | h
  · rw [rnd_up (by omega), rnd_up (by omega), show (-(d - 1)).toNat = (-d).toNat + 1 by omega, Int.pow_succ, Int.mul_assoc, Int.mul_comm 2]
  · subst h
    rw [rnd_down (c := 0) (by rfl), rnd_up (by omega)]
    simp
  · obtain ⟨c, hc⟩ : ∃ c : Nat, d = (c : Int) + 2 := ⟨(d - 2).toNat, by omega⟩
    rw [rnd_down (c := c + 1) (by omega), rnd_down (c := c) (by omega)]
    have hp : (0 : Int) < 2 ^ c := Int.pow_pos (by decide)
    have hp1 : (0 : Int) < 2 ^ (c + 1) := Int.pow_pos (by decide)
    have e1 : m * 2 / 2 ^ (c + 1) = m / 2 ^ c := by
      rw [Int.pow_succ]
      exact Int.mul_ediv_mul_of_pos_left _ _ (by decide)
    have e2 : m * 2 / 2 ^ (c + 1 + 1) = m / 2 ^ (c + 1) := by
      rw [Int.pow_succ 2 (c + 1)]
      exact Int.mul_ediv_mul_of_pos_left _ _ (by decide)
    have e3 : m * 2 % 2 ^ (c + 1) = m % 2 ^ c * 2 := by
      have a := Int.mul_ediv_add_emod (m * 2) (2 ^ (c + 1))
      have b := Int.mul_ediv_add_emod m (2 ^ c)
      rw [e1, Int.pow_succ] at a
      rw [Int.pow_succ]
      have e : 2 ^ c * 2 * (m / 2 ^ c) = 2 * (2 ^ c * (m / 2 ^ c)) := by
        rw [Int.mul_comm (2 ^ c) 2, Int.mul_assoc]
      omega
    rw [e1, e2, e3]
    have e4 : (m % 2 ^ c * 2 ≠ 0) = (m % 2 ^ c ≠ 0) := by
      apply propext
      omega
    simp only [e4]

theorem plc_two {m E : Int} (h : 0 < m) : plc (m * 2) E = plc m (E + 1) := by
  have hm : m.toNat ≠ 0 := by omega
  have k1 := Nat.log2_self_le hm
  have k2 : m.toNat < 2 ^ (m.toNat.log2 + 1) := Nat.lt_log2_self
  obtain ⟨n, hn⟩ : ∃ n, n = m.toNat.log2 := ⟨_, rfl⟩
  rw [← hn] at k1 k2
  have a1 : (2 : Int) ^ n ≤ m := by
    have h2 : ((2 ^ n : Nat) : Int) ≤ m := by omega
    exact_mod_cast h2
  have a2 : m < (2 : Int) ^ (n + 1) := by
    have h2 : m < ((2 ^ (n + 1) : Nat) : Int) := by omega
    exact_mod_cast h2
  have b1 : (2 : Int) ^ (n + 1) ≤ m * 2 := by rw [Int.pow_succ]; omega
  have b2 : m * 2 < (2 : Int) ^ (n + 1 + 1) := by rw [Int.pow_succ 2 (n + 1)]; omega
  rw [plc_of b1 b2, plc_of a1 a2]
  omega

theorem flR_two {m E : Int} (h : 0 < m) : flR (m * 2) E = flR m (E + 1) := by
  unfold flR
  rw [plc_two h, rnd_two]
  congr 2
  omega

theorem flR_pow {m : Int} (h : 0 < m) : ∀ (t : Nat) (E : Int), flR (m * 2 ^ t) E = flR m (E + t)
  | 0, E => by simp
  | t + 1, E => by
    have hp : (0 : Int) < 2 ^ t := Int.pow_pos (by decide)
    rw [Int.pow_succ, ← Int.mul_assoc, flR_two (Int.mul_pos h hp), flR_pow h t (E + 1)]
    congr 1
    omega

/-- What DyFloat answers. -/
def flB (ok g : Bool) (N E : Int) : Int := if ok = true ∧ N ≠ 0 ∧ flR N E < 2139095040 then flR N E + (if g = true then 2147483648 else 0) else 0
def flC (ok : Bool) (N E : Int) : Int := if ok = true then if N ≠ 0 ∧ 2139095040 ≤ flR N E then 2 else 0 else 1

end Go.Proofs.YtladfpljnaippabDoor



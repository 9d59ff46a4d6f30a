/-
  Plain mathematics: how often 2 divides a number that is written in digits.
-/
import Derived.Test.YtladfpljnaippabDoorNumS
namespace Go.Proofs.YtladfpljnaippabDoor

/-- The number is 2^t times an odd one. -/
def Twos (m : Int) (t : Nat) : Prop := ∃ q : Int, m = 2 ^ t * q ∧ q % 2 = 1

/-- The first digit that is not 0 decides. -/
theorem twos_of {b : Nat} {ds : List Int} {j k : Nat} {o : Int} (hj : j < ds.length) (h0 : val (2 ^ b) (ds.take j) = 0) (hd : ds.getD j 0 = 2 ^ k * o) (ho : o % 2 = 1) (hk : k < b) : Twos (val (2 ^ b) ds) (b * j + k) := by
  have hs := val_parts (2 ^ b) ds j (by omega)
  rw [h0, Int.zero_add] at hs
  have hh : val (2 ^ b) (ds.drop j) = ds.getD j 0 + 2 ^ b * val (2 ^ b) (ds.drop (j + 1)) := by
    rw [List.drop_eq_getElem_cons hj]
    simp [val, List.getD_eq_getElem?_getD, hj]
  refine ⟨o + 2 ^ (b - k) * val (2 ^ b) (ds.drop (j + 1)), ?_, ?_⟩
  · have e : (2 : Int) ^ b * val (2 ^ b) (ds.drop (j + 1)) = 2 ^ k * (2 ^ (b - k) * val (2 ^ b) (ds.drop (j + 1))) := by
      rw [← Int.mul_assoc, ← Int.pow_add, show k + (b - k) = b by omega]
    rw [hs, hh, hd, Int.pow_add, Int.pow_mul, Int.mul_assoc, Int.mul_add (2 ^ k) o, ← e]
  · obtain ⟨c, hc⟩ : ∃ c, b - k = c + 1 := ⟨b - k - 1, by omega⟩
    rw [hc, Int.pow_succ, Int.mul_comm (2 ^ c) 2, Int.mul_assoc, Int.add_mul_emod_self_left]
    exact ho

theorem Twos.emod {m : Int} {t : Nat} (h : Twos m t) : m % 2 ^ t = 0 := by
  obtain ⟨q, hq, _⟩ := h
  rw [hq]
  exact Int.mul_emod_right _ _

theorem Twos.ediv {m : Int} {t : Nat} (h : Twos m t) : m = m / 2 ^ t * 2 ^ t ∧ (m / 2 ^ t) % 2 = 1 := by
  obtain ⟨q, hq, h1⟩ := h
  have hp : (0 : Int) < 2 ^ t := Int.pow_pos (by decide)
  have e : m / 2 ^ t = q := by rw [hq]; exact Int.mul_ediv_cancel_left _ (by omega)
  rw [e]
  exact ⟨by rw [hq]; exact Int.mul_comm _ _, h1⟩

/-- A power of two that is at most a digit. -/
theorem pow_lt_of {k b : Nat} {v d : Int} (hd : d = 2 ^ k * v) (hv : 0 < v) (hlt : d < 2 ^ b) : k < b := by
  by_cases h : k < b
  · exact h
  · have h1 : (2 : Int) ^ b ≤ 2 ^ k := two_pow_le (by omega)
    have h2 : (2 : Int) ^ k * 1 ≤ 2 ^ k * v := Int.mul_le_mul_of_nonneg_left (by omega) (Int.le_of_lt (Int.pow_pos (by decide)))
    omega

theorem anyN_false {B : Int} (hB : 0 < B) {zs : List Int} (h : Dig B zs) : anyN zs = false ↔ val B zs = 0 := by
  have := anyN_val hB h
  cases hz : anyN zs
  · rw [hz] at this
    simp at this
    simp [this]
  · rw [hz] at this
    simp at this
    simp [this]

end Go.Proofs.YtladfpljnaippabDoor

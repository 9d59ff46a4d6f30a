/-
  Plain mathematics: dyadic numbers held at one low exponent.
-/
import Derived.Test.YtladfpljnaippabDoorDy2
namespace Go.Proofs.YtladfpljnaippabDoor

/-- m * 2^e in units of 2^(-K). -/
def atK (K m e : Int) : Int := m * 2 ^ (e + K).toNat

theorem sumAt_at {K m e m' e' : Int} (h : 0 ≤ e + K) (h' : 0 ≤ e' + K) : sumAt m e m' e' * 2 ^ (min e e' + K).toNat = atK K m e + atK K m' e' := by
  unfold sumAt atK
  rw [Int.add_mul, Int.mul_assoc, Int.mul_assoc, ← Int.pow_add, ← Int.pow_add]
  rw [show (e - min e e').toNat + (min e e' + K).toNat = (e + K).toNat by omega, show (e' - min e e').toNat + (min e e' + K).toNat = (e' + K).toNat by omega]

theorem NormOf.at {K x e0 m e' : Int} {T : Nat} (h : NormOf x e0 m e' T) (hK : 0 ≤ e0 + K) : atK K m e' = atK K x e0 := by
  unfold atK
  rcases h with ⟨h1, h2, _⟩ | ⟨_, t, h2, h3, _⟩
  · rw [h1, h2]; simp
  · rw [h2, h3, Int.mul_assoc, ← Int.pow_add]
    congr 2
    omega

theorem sgn_pos_mul {x p : Int} (hp : 0 < p) : sgn (x * p) = sgn x := by
  rcases sgn_cases x with ⟨h1, h2⟩ | ⟨h1, h2⟩ | ⟨h1, h2⟩
  · rw [h2]
    have : x * p < 0 := Int.mul_neg_of_neg_of_pos h1 hp
    unfold sgn
    rw [if_pos this]
  · rw [h2, h1]
    simp [sgn]
  · rw [h2]
    have : 0 < x * p := Int.mul_pos h1 hp
    unfold sgn
    rw [if_neg (by omega), if_neg (by omega)]

/-- The sign of a sum, at whatever exponent. -/
theorem sgn_sumAt {K m e m' e' : Int} (h : 0 ≤ e + K) (h' : 0 ≤ e' + K) : sgn (sumAt m e m' e') = sgn (atK K m e + atK K m' e') := by
  rw [← sumAt_at h h', sgn_pos_mul (Int.pow_pos (by decide))]

theorem atK_neg (K m e : Int) : atK K (-m) e = - atK K m e := by unfold atK; rw [Int.neg_mul]

theorem NormOf.bound {x e0 m e' : Int} {T : Nat} (h : NormOf x e0 m e' T) : (e' = 0 ∧ m = 0) ∨ (e0 ≤ e' ∧ e' ≤ e0 + T) := by
  rcases h with ⟨_, h2, h3⟩ | ⟨_, t, _, h3, _, h5⟩
  · exact .inl ⟨h3, h2⟩
  · exact .inr ⟨by omega, by omega⟩

end Go.Proofs.YtladfpljnaippabDoor

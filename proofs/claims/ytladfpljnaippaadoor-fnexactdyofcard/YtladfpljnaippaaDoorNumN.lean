/-
  Plain mathematics: the one normal form of a dyadic number.
-/
import Derived.Test.YtladfpljnaippaaDoorNumD
import Derived.Test.YtladfpljnaippaaDoorNumY
namespace Go.Proofs.YtladfpljnaippaaDoor

/-- m * 2^e is the normal form of the number that is v in units of 2^-100000. -/
def Norm (v m e : Int) : Prop := (v = 0 ∧ m = 0 ∧ e = 0) ∨ (v ≠ 0 ∧ m % 2 = 1 ∧ 0 ≤ e + 100000 ∧ v = m * 2 ^ (e + 100000).toNat)

theorem odd_two {m m' : Int} {s t : Nat} (hm : m % 2 = 1) (hm' : m' % 2 = 1) (h : m * 2 ^ s = m' * 2 ^ t) : s = t ∧ m = m' := by
  rcases Nat.lt_trichotomy s t with hst | hst | hst
  · exfalso
    have e : m = m' * 2 ^ (t - s) := by
      have hp : (0 : Int) < 2 ^ s := Int.pow_pos (by decide)
      apply Int.eq_of_mul_eq_mul_right (Int.ne_of_gt hp)
      rw [h, Int.mul_assoc, ← Int.pow_add, show t - s + s = t by omega]
    have e2 : m = 2 * (m' * 2 ^ (t - s - 1)) := by
      rw [e, show t - s = (t - s - 1) + 1 by omega, Int.pow_succ]
      simp only [Nat.add_sub_cancel]
      rw [← Int.mul_assoc, Int.mul_comm _ 2]
    omega
  · subst hst
    have hp : (0 : Int) < 2 ^ s := Int.pow_pos (by decide)
    exact ⟨rfl, Int.eq_of_mul_eq_mul_right (Int.ne_of_gt hp) h⟩
  · exfalso
    have e : m' = m * 2 ^ (s - t) := by
      have hp : (0 : Int) < 2 ^ t := Int.pow_pos (by decide)
      apply Int.eq_of_mul_eq_mul_right (Int.ne_of_gt hp)
      rw [← h, Int.mul_assoc, ← Int.pow_add, show s - t + t = s by omega]
    have e2 : m' = 2 * (m * 2 ^ (s - t - 1)) := by
      rw [e, show s - t = (s - t - 1) + 1 by omega, Int.pow_succ]
      simp only [Nat.add_sub_cancel]
      rw [← Int.mul_assoc, Int.mul_comm _ 2]
    omega

theorem Norm.inj {v m e m' e' : Int} (h : Norm v m e) (h' : Norm v m' e') : m = m' ∧ e = e' := by
  rcases h with ⟨h0, h1, h2⟩ | ⟨h0, h1, h2, h3⟩
  · rcases h' with ⟨_, k1, k2⟩ | ⟨k0, _⟩
    · exact ⟨by rw [h1, k1], by rw [h2, k2]⟩
    · exact absurd h0 k0
  · rcases h' with ⟨k0, _⟩ | ⟨_, k1, k2, k3⟩
    · exact absurd k0 h0
    · obtain ⟨e1, e2⟩ := odd_two h1 k1 (h3.symm.trans k3)
      exact ⟨e2, by omega⟩

theorem Norm.of_normOf {x e0 m e' : Int} {T : Nat} (h : NormOf x e0 m e' T) (he : -100000 ≤ e0) : Norm (atK 100000 x e0) m e' := by
  have hat := h.at (K := 100000) (by omega)
  rcases h with ⟨h0, h1, h2⟩ | ⟨h0, t, h2, h3, h4, _⟩
  · exact .inl ⟨by rw [h0]; simp [atK], h1, h2⟩
  · refine .inr ⟨?_, h4, by omega, by rw [← hat]; rfl⟩
    unfold atK
    intro hz
    rcases Int.mul_eq_zero.1 hz with h5 | h5
    · exact h0 h5
    · have : (0 : Int) < 2 ^ (e0 + 100000).toNat := Int.pow_pos (by decide)
      omega

/-- What DyAdd, DyMul, DyDet answer of the number v. -/
def ResD (ok : Bool) (v : Int) (G : Bool) (Z : List Int) (E K : Int) : Prop :=
  (ok = false ∧ G = false ∧ Z = [] ∧ E = 0 ∧ K = 1) ∨ (ok = true ∧ ∃ m e, Norm v m e ∧ (((Fits m ∧ -20000 ≤ e ∧ e ≤ 20000) ∧ B1 G Z m ∧ E = e ∧ K = 0) ∨ (¬ (Fits m ∧ -20000 ≤ e ∧ e ≤ 20000) ∧ G = false ∧ Z = [] ∧ E = 0 ∧ K = 2)))

theorem ResD.inj {ok : Bool} {v : Int} {G G' : Bool} {Z Z' : List Int} {E E' K K' : Int} (h : ResD ok v G Z E K) (h' : ResD ok v G' Z' E' K') : G = G' ∧ Z = Z' ∧ E = E' ∧ K = K' := by
  rcases h with ⟨h0, h1, h2, h3, h4⟩ | ⟨h0, m, e, hN, hc⟩
  · rcases h' with ⟨_, k1, k2, k3, k4⟩ | ⟨k0, _⟩
    · rw [h1, h2, h3, h4, k1, k2, k3, k4]
      exact ⟨rfl, rfl, rfl, rfl⟩
    · rw [h0] at k0
      cases k0
  · rcases h' with ⟨k0, _⟩ | ⟨_, m', e', hN', hc'⟩
    · rw [h0] at k0
      cases k0
    · obtain ⟨e1, e2⟩ := hN.inj hN'
      subst e1 e2
      rcases hc with ⟨c0, c1, c3, c4⟩ | ⟨c0, c1, c2, c3, c4⟩
      · rcases hc' with ⟨_, k1, k3, k4⟩ | ⟨k0, _⟩
        · obtain ⟨e3, e4⟩ := c1.inj k1
          exact ⟨e3, e4, by rw [c3, k3], by rw [c4, k4]⟩
        · exact absurd c0 k0
      · rcases hc' with ⟨k0, _⟩ | ⟨_, k1, k2, k3, k4⟩
        · exact absurd k0 c0
        · rw [c1, c2, c3, c4, k1, k2, k3, k4]
          exact ⟨rfl, rfl, rfl, rfl⟩

theorem ResD.len {ok : Bool} {v : Int} {G : Bool} {Z : List Int} {E K : Int} (h : ResD ok v G Z E K) : Z.length ≤ 512 ∧ U32 Z := by
  rcases h with ⟨_, _, h2, _⟩ | ⟨_, m, e, _, ⟨⟨c0, _⟩, hB, _⟩ | ⟨_, _, c2, _⟩⟩
  · subst h2
    exact ⟨by simp, fun z hz => by cases hz⟩
  · exact ⟨hB.len c0, hB.can.1⟩
  · subst c2
    exact ⟨by simp, fun z hz => by cases hz⟩

/-- The normal form found by counting twos. -/
theorem norm_twos {g : Bool} {zs : List Int} {x E : Int} {t : Nat} (h : B1 g zs x) (hne : zs ≠ []) (hE : -100000 ≤ E) (ht : Twos (val 4294967296 zs) t) : Norm (atK 100000 x E) (sg g (val 4294967296 zs / 2 ^ t)) (E + t) := by
  obtain ⟨n1, n2⟩ := norm_of h.num ht
  have hv := val_pos (B := 4294967296) (by decide) h.can hne
  have hp : (0 : Int) < 2 ^ (E + 100000).toNat := Int.pow_pos (by decide)
  refine .inr ⟨?_, n2, by omega, ?_⟩
  · unfold atK
    intro hz
    rcases Int.mul_eq_zero.1 hz with h5 | h5
    · rw [h.num] at h5
      cases g <;> simp [sg] at h5 <;> omega
    · omega
  · unfold atK
    rw [n1, Int.mul_assoc, ← Int.pow_add, show t + (E + 100000).toNat = (E + ↑t + 100000).toNat by omega]

end Go.Proofs.YtladfpljnaippaaDoor

/-
  Plain mathematics: decimal digits nine at a time.
-/
import Derived.Test.YtlbegmepmeimkabNumU
import Derived.Test.YtlbegmepmeimkabOff
namespace Go.Proofs.Ytlbegmepmeimkab

/-- The digits of the groups so far. -/
def flat9 (pre : List Int) : List Int := pre.flatMap (padF 9)

theorem flat9_snoc (pre : List Int) (x : Int) : flat9 (pre ++ [x]) = flat9 pre ++ padF 9 x := by simp [flat9]

theorem flat9_length : ∀ pre : List Int, (flat9 pre).length = 9 * pre.length
  | [] => rfl
  | x :: pre => by
    have h := flat9_length pre
    unfold flat9 at h ⊢
    rw [List.flatMap_cons, List.length_append, padF_length, h, List.length_cons]
    omega

theorem mod_tenth {n P : Int} (hP : 0 < P) : n % (P * 10) / 10 = n / 10 % P := by
  have h0 := Int.emod_nonneg n (show P * 10 ≠ 0 by omega)
  have h1 := Int.emod_lt_of_pos n (show 0 < P * 10 by omega)
  have h2 := Int.mul_ediv_add_emod n (P * 10)
  obtain ⟨q, hq⟩ : ∃ q, q = n / (P * 10) := ⟨_, rfl⟩
  obtain ⟨r, hr⟩ : ∃ r, r = n % (P * 10) := ⟨_, rfl⟩
  rw [← hq, ← hr] at h2
  rw [← hr] at h0 h1 ⊢
  have e : n / 10 = r / 10 + P * q := by
    have e1 : P * 10 * q = 10 * (P * q) := by rw [Int.mul_comm P 10, Int.mul_assoc]
    rw [e1] at h2
    omega
  rw [e, Int.add_mul_emod_self_left]
  exact (Int.emod_eq_of_lt (by omega) (by omega)).symm

theorem padF_mod : ∀ (f : Nat) (n : Int), padF f (n % (10 ^ f : Nat)) = padF f n
  | 0, _ => rfl
  | f + 1, n => by
    have hP : (0 : Int) < ((10 ^ f : Nat) : Int) := by
      have : 0 < 10 ^ f := Nat.pow_pos (by decide)
      omega
    have e : ((10 ^ (f + 1) : Nat) : Int) = ((10 ^ f : Nat) : Int) * 10 := by rw [Nat.pow_succ]; rfl
    simp only [padF]
    rw [e, mod_tenth hP, padF_mod f (n / 10), Int.emod_emod_of_dvd n ⟨((10 ^ f : Nat) : Int), Int.mul_comm _ _⟩]

/-- One group more. -/
theorem flat9_step {N : Int} {pre : List Int} (h : flat9 pre = padF (9 * pre.length) N) : flat9 (pre ++ [N / (10 ^ (9 * pre.length) : Nat) % 1000000000]) = padF (9 * (pre ++ [N / (10 ^ (9 * pre.length) : Nat) % 1000000000]).length) N := by
  have e := padF_mod 9 (N / (10 ^ (9 * pre.length) : Nat))
  have e9 : ((10 ^ 9 : Nat) : Int) = 1000000000 := by decide
  rw [e9] at e
  rw [flat9_snoc, h, e, List.length_append, List.length_singleton, show 9 * (pre.length + 1) = 9 * pre.length + 9 by omega, padF_add]

theorem next9 (N : Int) (k : Nat) : N / (10 ^ (9 * k) : Nat) / 1000000000 = N / (10 ^ (9 * (k + 1)) : Nat) := by
  rw [Int.ediv_ediv_of_nonneg (Int.natCast_nonneg _), show 9 * (k + 1) = 9 * k + 9 by omega, Nat.pow_add]
  rfl

/-- There are fewer than 600 groups. -/
theorem groups_few {N : Int} {k : Nat} (hN : N < (10 ^ 5000 : Nat)) (h : 0 < N / (10 ^ (9 * k) : Nat)) : k < 600 := by
  have hp : 0 < 10 ^ (9 * k) := Nat.pow_pos (by decide)
  have h1 : ((10 ^ (9 * k) : Nat) : Int) ≤ N := by
    have := (Int.le_ediv_iff_mul_le (show (0 : Int) < ((10 ^ (9 * k) : Nat) : Int) by omega)).1 (show 1 ≤ N / (10 ^ (9 * k) : Nat) by omega)
    omega
  have h2 : 10 ^ (9 * k) < 10 ^ 5000 := by
    have : ((10 ^ (9 * k) : Nat) : Int) < ((10 ^ 5000 : Nat) : Int) := Int.lt_of_le_of_lt h1 hN
    exact Int.ofNat_lt.1 this
  have h3 := (Nat.pow_lt_pow_iff_right (by decide : 1 < 10)).1 h2
  omega

theorem no_more {N : Int} {k : Nat} (h : N / (10 ^ (9 * k) : Nat) = 0) : N < (10 ^ (9 * k) : Nat) := by
  have hp : 0 < 10 ^ (9 * k) := Nat.pow_pos (by decide)
  have := Int.lt_mul_ediv_self_add (x := N) (k := ((10 ^ (9 * k) : Nat) : Int)) (by omega)
  rw [h] at this
  omega

end Go.Proofs.Ytlbegmepmeimkab

/-
  Plain mathematics: no float beside the rounded one is nearer.
-/
import Derived.Test.YtladfpljnaippabDoorNumRQF
namespace Go.Proofs.YtladfpljnaippabDoor

/-- What is lost by rounding: at most half, and half only where the answer is even. -/
theorem rnd_near {N d : Int} {c : Nat} (h : d = (c : Int) + 1) : -(2 ^ c) ≤ N - rnd N d * (2 * 2 ^ c) ∧ N - rnd N d * (2 * 2 ^ c) ≤ 2 ^ c ∧ ((N - rnd N d * (2 * 2 ^ c) = 2 ^ c ∨ N - rnd N d * (2 * 2 ^ c) = -(2 ^ c)) → rnd N d % 2 = 0) := by
  have hp : (0 : Int) < 2 ^ c := Int.pow_pos (by decide)
  rw [rnd_down h]
  have e1 : N / 2 ^ (c + 1) = N / 2 ^ c / 2 := by
    rw [Int.pow_succ, Int.ediv_ediv_of_nonneg (Int.le_of_lt hp)]
  rw [e1]
  have e2 := Int.emod_add_mul_ediv N (2 ^ c)
  have t0 := Int.emod_nonneg N (Int.ne_of_gt hp)
  have t1 := Int.emod_lt_of_pos N hp
  generalize (2 : Int) ^ c = P at *
  generalize N % P = t at *
  generalize hA : N / P = A at *
  obtain ⟨q, hq⟩ : ∃ q, q = A / 2 := ⟨_, rfl⟩
  rw [← hq]
  have hPQ : ∀ k : Int, (q + k) * (2 * P) = 2 * (P * q) + k * (2 * P) := by
    intro k
    rw [Int.add_mul, Int.mul_left_comm, Int.mul_comm q P]
  by_cases hodd : A % 2 = 1
  · have hA2 : A = 2 * q + 1 := by omega
    have hN : N = t + (2 * (P * q) + P) := by
      rw [← e2, hA2, Int.mul_add, Int.mul_one, Int.mul_left_comm]
    by_cases hc : t ≠ 0 ∨ q % 2 = 1
    · rw [if_pos ⟨hodd, hc⟩, hPQ, Int.one_mul]
      omega
    · rw [if_neg (fun h => hc h.2), hPQ, Int.zero_mul]
      omega
  · have hA2 : A = 2 * q := by omega
    have hN : N = t + 2 * (P * q) := by
      rw [← e2, hA2, Int.mul_left_comm]
    rw [if_neg (fun h => hodd h.1), hPQ, Int.zero_mul]
    omega

/-- The value of a float's bits (the sign aside) in units of 2^-149. -/
def rv (X : Int) : Int := if X < 8388608 then X else (8388608 + X % 8388608) * 2 ^ (X / 8388608 - 1).toNat

theorem rv_at {r : Int} {j : Nat} (h0 : 0 ≤ r) (h1 : r ≤ 16777216) (h2 : j ≠ 0 → 8388608 ≤ r) : rv (r + j * 8388608) = r * 2 ^ j := by
  unfold rv
  by_cases ha : r < 8388608
  · have hj : j = 0 := by
      by_cases h : j = 0
      · exact h
      · have := h2 h
        omega
    subst hj
    rw [if_pos (by omega)]
    simp
  · rw [if_neg (by omega)]
    by_cases hb : r < 16777216
    · rw [show (r + (j : Int) * 8388608) % 8388608 = r - 8388608 by omega, show ((r + (j : Int) * 8388608) / 8388608 - 1).toNat = j by omega, show 8388608 + (r - 8388608) = r by omega]
    · have : r = 16777216 := by omega
      subst this
      rw [show ((16777216 : Int) + (j : Int) * 8388608) % 8388608 = 0 by omega, show (((16777216 : Int) + (j : Int) * 8388608) / 8388608 - 1).toNat = j + 1 by omega, Int.pow_succ, Int.mul_comm (2 ^ j) 2, ← Int.mul_assoc]
      rfl

theorem rv_succ {r : Int} {j : Nat} (h0 : 0 ≤ r) (h1 : r ≤ 16777216) (h2 : j ≠ 0 → 8388608 ≤ r) : (r + 1) * 2 ^ j ≤ rv (r + j * 8388608 + 1) := by
  have hp : (0 : Int) < 2 ^ j := Int.pow_pos (by decide)
  by_cases hb : r < 16777216
  · rw [show r + (j : Int) * 8388608 + 1 = (r + 1) + j * 8388608 by omega, rv_at (by omega) (by omega) (fun h => by have := h2 h; omega)]
    exact Int.le_refl _
  · have : r = 16777216 := by omega
    subst this
    rw [show (16777216 : Int) + (j : Int) * 8388608 + 1 = 8388609 + ((j + 1 : Nat) : Int) * 8388608 by omega, rv_at (by decide) (by decide) (fun _ => by decide), Int.pow_succ, Int.mul_comm (2 ^ j) 2, ← Int.mul_assoc]
    exact Int.mul_le_mul_of_nonneg_right (by decide) (Int.le_of_lt hp)

theorem rv_pred {r : Int} {j : Nat} (h0 : 1 ≤ r + j * 8388608) (h1 : r ≤ 16777216) (h2 : j ≠ 0 → 8388608 ≤ r) (hr : 0 ≤ r) : rv (r + j * 8388608 - 1) = (r - 1) * 2 ^ j ∨ (j ≠ 0 ∧ r = 8388608 ∧ rv (r + j * 8388608 - 1) < r * 2 ^ j) := by
  have hp : (0 : Int) < 2 ^ j := Int.pow_pos (by decide)
  by_cases hj : j = 0
  · subst hj
    left
    rw [show r + ((0 : Nat) : Int) * 8388608 - 1 = (r - 1) + ((0 : Nat) : Int) * 8388608 by omega, rv_at (by omega) (by omega) (fun h => absurd rfl h)]
  · have h8 := h2 hj
    by_cases hb : r = 8388608
    · right
      refine ⟨hj, hb, ?_⟩
      subst hb
      obtain ⟨i, rfl⟩ : ∃ i, j = i + 1 := ⟨j - 1, by omega⟩
      rw [show (8388608 : Int) + ((i + 1 : Nat) : Int) * 8388608 - 1 = 16777215 + (i : Int) * 8388608 by omega, rv_at (by decide) (by decide) (fun _ => by decide), Int.pow_succ, Int.mul_comm (2 ^ i) 2, ← Int.mul_assoc]
      exact Int.mul_lt_mul_of_pos_right (by decide) (Int.pow_pos (by decide))
    · left
      rw [show r + (j : Int) * 8388608 - 1 = (r - 1) + j * 8388608 by omega, rv_at (by omega) (by omega) (fun _ => by omega)]

/-- The rounded number, held against its neighbours, in units of 2^-K. -/
theorem flR_near {N E K : Int} (hN : 0 < N) (hK : 149 ≤ K) (hE : 0 ≤ E + K) :
    ∃ U : Int, 0 < U ∧ 2 * (N * 2 ^ (E + K).toNat - rv (flR N E) * 2 ^ (K - 149).toNat).natAbs ≤ U ∧
      (2 * ((N * 2 ^ (E + K).toNat - rv (flR N E) * 2 ^ (K - 149).toNat).natAbs : Int) = U → flR N E % 2 = 0) ∧
      rv (flR N E) * 2 ^ (K - 149).toNat + U ≤ rv (flR N E + 1) * 2 ^ (K - 149).toNat ∧
      (1 ≤ flR N E → rv (flR N E - 1) * 2 ^ (K - 149).toNat = rv (flR N E) * 2 ^ (K - 149).toNat - U ∨ (rv (flR N E - 1) * 2 ^ (K - 149).toNat < rv (flR N E) * 2 ^ (K - 149).toNat ∧ rv (flR N E) * 2 ^ (K - 149).toNat ≤ N * 2 ^ (E + K).toNat)) := by
  obtain ⟨n, h1, h2⟩ : ∃ n : Nat, 2 ^ n ≤ N ∧ N < 2 ^ (n + 1) := by
    obtain ⟨m, rfl⟩ := Int.eq_ofNat_of_zero_le (Int.le_of_lt hN)
    have hm : m ≠ 0 := by omega
    exact ⟨m.log2, by exact_mod_cast Nat.log2_self_le hm, by exact_mod_cast Nat.lt_log2_self⟩
  have hpl := plc_of (E := E) h1 h2
  obtain ⟨r0, r1, r2⟩ := rnd_plc (E := E) h1 h2
  have hge := plc_ge N E
  obtain ⟨u, hu⟩ : ∃ u, u = plc N E := ⟨_, rfl⟩
  rw [← hu] at hpl r0 r1 r2 hge
  obtain ⟨r, hr⟩ : ∃ r, r = rnd N (u - E) := ⟨_, rfl⟩
  obtain ⟨j, hj⟩ : ∃ j : Nat, (j : Int) = u + 149 := ⟨(u + 149).toNat, by omega⟩
  have hX : flR N E = r + j * 8388608 := by
    unfold flR
    rw [← hu, ← hr, hj]
  rw [← hr] at r0 r1 r2
  have hjr : j ≠ 0 → 8388608 ≤ r := fun h => r2 (by omega)
  have hS : (0 : Int) < 2 ^ (K - 149).toNat := Int.pow_pos (by decide)
  have hJ : (0 : Int) < 2 ^ j := Int.pow_pos (by decide)
  have hrv := rv_at r0 r1 hjr
  have hsu := rv_succ r0 r1 hjr
  obtain ⟨S, hSd⟩ : ∃ S : Int, S = 2 ^ (K - 149).toNat := ⟨_, rfl⟩
  obtain ⟨T, hTd⟩ : ∃ T : Int, T = 2 ^ (E + K).toNat := ⟨_, rfl⟩
  have hT : 0 < T := by rw [hTd]; exact Int.pow_pos (by decide)
  rw [hX, ← hSd, ← hTd, hrv]
  rw [← hSd] at hS
  have hUp : 0 < 2 ^ j * S := Int.mul_pos hJ hS
  have g3 : r * 2 ^ j * S + 2 ^ j * S ≤ rv (r + j * 8388608 + 1) * S := by
    have h := Int.mul_le_mul_of_nonneg_right hsu (Int.le_of_lt hS)
    rw [Int.add_mul, Int.one_mul, Int.add_mul] at h
    exact h
  have hpow : ∀ a b : Nat, (2 : Int) ^ a * 2 ^ b = 2 ^ (a + b) := fun a b => (Int.pow_add 2 a b).symm
  have hU2 : 2 ^ j * S = 2 ^ (u + K).toNat := by
    rw [hSd, hpow, show j + (K - 149).toNat = (u + K).toNat by omega]
  by_cases hs : u - E ≤ 0
  · have key : r * 2 ^ j * S = N * T := by
      rw [hr, rnd_up hs, Int.mul_assoc, hU2, Int.mul_assoc, hpow, hTd, show (-(u - E)).toNat + (u + K).toNat = (E + K).toNat by omega]
    rw [← key]
    refine ⟨2 ^ j * S, hUp, ?_, ?_, g3, ?_⟩
    · rw [Int.sub_self]
      simp
      omega
    · intro h
      rw [Int.sub_self] at h
      simp at h
      omega
    · intro hx
      rcases rv_pred hx r1 hjr r0 with hp | ⟨_, _, hp⟩
      · left
        rw [hp, Int.sub_mul, Int.sub_mul, Int.one_mul]
      · right
        exact ⟨Int.mul_lt_mul_of_pos_right hp hS, Int.le_refl _⟩
  · obtain ⟨c, hc⟩ : ∃ c : Nat, u - E = (c : Int) + 1 := ⟨(u - E - 1).toNat, by omega⟩
    obtain ⟨n1, n2, n3⟩ := rnd_near (N := N) hc
    rw [← hr] at n1 n2 n3
    obtain ⟨P, hP⟩ : ∃ P : Int, P = 2 ^ c := ⟨_, rfl⟩
    rw [← hP] at n1 n2 n3
    have kU : 2 ^ j * S = 2 * (P * T) := by
      rw [hU2, hP, hTd, hpow, show (u + K).toNat = (c + (E + K).toNat) + 1 by omega, Int.pow_succ, Int.mul_comm]
    obtain ⟨D, hD⟩ : ∃ D : Int, D = N - r * (2 * P) := ⟨_, rfl⟩
    rw [← hD] at n1 n2 n3
    have key : N * T - r * 2 ^ j * S = D * T := by
      rw [hD, Int.sub_mul, Int.mul_assoc r, kU, Int.mul_assoc, Int.mul_assoc]
    have b1 : -(P * T) ≤ D * T := by
      have := Int.mul_le_mul_of_nonneg_right n1 (Int.le_of_lt hT)
      rw [Int.neg_mul] at this
      exact this
    have b2 : D * T ≤ P * T := Int.mul_le_mul_of_nonneg_right n2 (Int.le_of_lt hT)
    refine ⟨2 ^ j * S, hUp, ?_, ?_, g3, ?_⟩
    · rw [key, kU]
      omega
    · intro h
      rw [key, kU] at h
      have hev : r % 2 = 0 := by
        apply n3
        rcases (show D * T = P * T ∨ D * T = -(P * T) by omega) with h5 | h5
        · exact .inl (Int.eq_of_mul_eq_mul_right (Int.ne_of_gt hT) h5)
        · right
          rw [← Int.neg_mul] at h5
          exact Int.eq_of_mul_eq_mul_right (Int.ne_of_gt hT) h5
      omega
    · intro hx
      rcases rv_pred hx r1 hjr r0 with hp | ⟨hj0, hr8, hp⟩
      · left
        rw [hp, Int.sub_mul, Int.sub_mul, Int.one_mul]
      · right
        refine ⟨Int.mul_lt_mul_of_pos_right hp hS, ?_⟩
        have hn : (n : Int) = c + 24 := by omega
        have hN2 : r * (2 * P) ≤ N := by
          have e : r * (2 * P) = 2 ^ n := by
            rw [hr8, hP, show n = c + 24 by omega, Int.pow_add, Int.mul_comm, Int.mul_assoc, Int.mul_comm 2, Int.mul_assoc]
            rfl
          rw [e]
          exact h1
        have hD0 : 0 ≤ D := by omega
        have := Int.mul_nonneg hD0 (Int.le_of_lt hT)
        omega

end Go.Proofs.YtladfpljnaippabDoor



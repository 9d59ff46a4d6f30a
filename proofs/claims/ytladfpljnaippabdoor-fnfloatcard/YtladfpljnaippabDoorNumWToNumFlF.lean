/-
  What a shift is: up, a product; down, a quotient that is rounded down. Beyond 16384 bits nothing changes.
-/
import Derived.Test.YtladfpljnaippabDoorResQF
import Derived.Test.YtladfpljnaippabDoorNumSQF
import Derived.Test.YtladfpljnaippabDoorNumDQF
import Derived.Test.YtladfpljnaippabDoorNumNrQF
import Derived.Test.YtladfpljnaippabDoorNumR2QF
import Derived.Test.YtladfpljnaippabDoorNumFQF
import Derived.Test.YtladfpljnaippabDoorDy1hQF
import Derived.Test.YtladfpljnaippabDoorSpecFQF
import Derived.Test.YtladfpljnaippabDoorSpecHQF
import Derived.Deep.CutRange
import Derived.Deep.Light
namespace Go.Proofs.YtladfpljnaippabDoor

def shN (x n : Int) : Int := if 0 ≤ n then x * 2 ^ (min n 16384).toNat else x / 2 ^ (min (-n) 16384).toNat

theorem shN_up {x n : Int} (h0 : 0 ≤ n) (h1 : n ≤ 16384) : shN x n = x * 2 ^ n.toNat := by
  unfold shN
  rw [if_pos h0, show min n 16384 = n by omega]

theorem shN_zero (n : Int) : shN 0 n = 0 := by
  unfold shN
  split <;> simp

theorem shN_down {x n : Int} (h0 : n < 0) : shN x n = x / 2 ^ (min (-n) 16384).toNat := by
  unfold shN
  rw [if_neg (by omega)]

/-- A negative number shifted down. -/
theorem neg_div (v : Int) (q : Int) (hq : 0 < q) : (-v) / q = if v % q = 0 then -(v / q) else -(v / q) - 1 := by
  have h := Int.mul_ediv_add_emod v q
  have h0 := Int.emod_nonneg v (show q ≠ 0 by omega)
  have h1 := Int.emod_lt_of_pos v hq
  split
  · rename_i h2
    rw [h2, Int.add_zero] at h
    rw [← h, ← Int.mul_neg, Int.mul_ediv_cancel_left _ (by omega), Int.mul_ediv_cancel_left _ (by omega)]
  · rename_i h2
    have e : -v = q * (-(v / q) - 1) + (q - v % q) := by
      rw [Int.mul_sub, Int.mul_neg, Int.mul_one]
      omega
    rw [e, Int.add_comm, Int.add_mul_ediv_left _ _ (by omega), Int.ediv_eq_zero_of_lt (by omega) (by omega)]
    omega

/-- What is too far up has too many limbs. -/
theorem res_far {g : Bool} {zs : List Int} {x n : Int} (h : B1 g zs x) (hne : zs ≠ []) (hn : 16384 < n) : Res true (shN x n) false [] 2 := by
  refine .inr ⟨rfl, g, List.replicate 512 0 ++ zs, ⟨canon_up (by decide) h.can hne 512, ?_, fun _ e => hne (List.append_eq_nil_iff.1 e).2⟩, .inr ⟨?_, rfl, rfl, rfl⟩⟩
  · unfold shN
    rw [if_pos (by omega), show (min n 16384).toNat = 32 * 512 by omega, Int.pow_mul, val_up, h.num, show (2 : Int) ^ 32 = 4294967296 from rfl]
    cases g
    · simp only [sg]; exact Int.mul_comm _ _
    · simp only [sg, if_true]; rw [Int.neg_mul, Int.mul_comm]
  · have hl : zs.length ≠ 0 := fun e => hne (List.length_eq_zero_iff.1 e)
    rw [List.length_append, List.length_replicate]
    omega

theorem res_zero {n : Int} : Res true (shN 0 n) false [] 0 :=
  .inr ⟨rfl, false, [], ⟨⟨Dig.nil _, rfl⟩, by rw [shN_zero]; simp [sg, val], fun h => by cases h⟩, .inl ⟨by simp, rfl, rfl, rfl⟩⟩

end Go.Proofs.YtladfpljnaippabDoor

/-
  Which numbers fit into 512 limbs, and what the program then answers.
-/
namespace Go.Proofs.YtladfpljnaippabDoor

/-- The number has at most 512 limbs. -/
def Fits (x : Int) : Prop := -(4294967296 ^ 512 : Int) < x ∧ x < (4294967296 ^ 512 : Int)

theorem pow_mono {B : Int} (hB : 1 ≤ B) {a b : Nat} (h : a ≤ b) : B ^ a ≤ B ^ b := by
  obtain ⟨d, rfl⟩ := Nat.le.dest h
  have h1 : 0 < B ^ a := Int.pow_pos (by omega)
  have h2 : 0 < B ^ d := Int.pow_pos (by omega)
  have h3 : B ^ a * 1 ≤ B ^ a * B ^ d := Int.mul_le_mul_of_nonneg_left (by omega) (by omega)
  rw [Int.pow_add]
  omega

theorem canon_ge {B : Int} (hB : 0 < B) {zs : List Int} (h : Canon B zs) (hne : zs.length ≠ 0) : B ^ (zs.length - 1) ≤ val B zs := by
  have hz : zs ≠ [] := fun e => hne (by simp [e])
  have e := List.dropLast_concat_getLast hz
  have hl := last_of_canon h.2 hne
  have hg : zs.getLast hz = zs.getD (zs.length - 1) 0 := by
    rw [List.getLast_eq_getElem]
    simp [List.getD_eq_getElem?_getD, show zs.length - 1 < zs.length by omega]
  have hd := h.1.at hB (zs.length - 1)
  have hv : val B zs = val B zs.dropLast + B ^ zs.dropLast.length * val B [zs.getLast hz] := by
    have h2 := val_append B [zs.getLast hz] zs.dropLast
    rw [e] at h2
    exact h2
  have hnn : 0 ≤ val B zs.dropLast := val_nonneg hB (by rw [List.dropLast_eq_take]; exact h.1.take _)
  have hp : 0 < B ^ zs.dropLast.length := Int.pow_pos hB
  have h1 : B ^ zs.dropLast.length * 1 ≤ B ^ zs.dropLast.length * zs.getLast hz := Int.mul_le_mul_of_nonneg_left (by rw [hg]; omega) (by omega)
  rw [hv]
  simp only [val, Int.mul_zero, Int.add_zero]
  rw [List.length_dropLast] at h1 ⊢
  omega

theorem len_of_lt {B : Int} (hB : 1 < B) {zs : List Int} (h : Canon B zs) {k : Nat} (hv : val B zs < B ^ k) : zs.length ≤ k := by
  by_cases h0 : zs.length = 0
  · omega
  · by_cases hk : zs.length ≤ k
    · exact hk
    · have h1 := canon_ge (by omega) h h0
      have h2 : B ^ k ≤ B ^ (zs.length - 1) := pow_mono (by omega) (by omega)
      omega

theorem B1.len {g : Bool} {zs : List Int} {x : Int} (h : B1 g zs x) (hx : Fits x) : zs.length ≤ 512 := by
  have h0 := val_nonneg (B := 4294967296) (by decide) h.can.1
  refine len_of_lt (B := 4294967296) (by decide) h.can ?_
  have hn := h.num
  obtain ⟨h1, h2⟩ := hx
  cases g
  · simp only [sg] at hn
    have hn : x = val 4294967296 zs := hn
    omega
  · simp only [sg, if_true] at hn
    omega

theorem B1.fits {g : Bool} {zs : List Int} {x : Int} (h : B1 g zs x) (hl : zs.length ≤ 512) : Fits x := by
  have h0 := val_nonneg (B := 4294967296) (by decide) h.can.1
  have h1 := val_lt_pow (B := 4294967296) (by decide) h.can.1
  have h2 : (4294967296 : Int) ^ zs.length ≤ 4294967296 ^ 512 := pow_mono (by decide) hl
  have hn := h.num
  unfold Fits
  cases g
  · have hn : x = val 4294967296 zs := hn
    omega
  · simp only [sg, if_true] at hn
    omega

/-- What fits is answered. -/
theorem Res.ok {x : Int} {G : Bool} {Z : List Int} {K : Int} (h : Res true x G Z K) (hx : Fits x) : K = 0 ∧ B1 G Z x ∧ Z.length ≤ 512 := by
  rcases h with ⟨h0, _⟩ | ⟨_, g, Z0, hb, ⟨c1, c2, c3, c4⟩ | ⟨c1, _⟩⟩
  · cases h0
  · subst c2 c3
    exact ⟨c4, hb, c1⟩
  · have := hb.len hx
    omega

/-- What is answered fits. -/
theorem Res.of_ok {x : Int} {G : Bool} {Z : List Int} {K : Int} (h : Res true x G Z K) (hK : K = 0) : B1 G Z x ∧ Z.length ≤ 512 ∧ Fits x := by
  rcases h with ⟨h0, _⟩ | ⟨_, g, Z0, hb, ⟨c1, c2, c3, c4⟩ | ⟨c1, _, _, c4⟩⟩
  · cases h0
  · subst c2 c3
    exact ⟨hb, c1, hb.fits c1⟩
  · omega

theorem B1.valid {g : Bool} {zs : List Int} {x : Int} (h : B1 g zs x) (hl : zs.length ≤ 512) : validB g zs = true := by
  unfold validB
  by_cases h0 : zs.length = 0
  · rw [if_pos h0]
    cases g
    · rfl
    · exact absurd (List.length_eq_zero_iff.1 h0) (h.zero rfl)
  · rw [if_neg h0]
    have := last_of_canon h.can.2 h0
    simp only [Bool.and_eq_true, decide_eq_true_eq, bne_iff_ne, ne_eq]
    exact ⟨hl, this⟩

theorem B1.sg {g : Bool} {zs : List Int} {x : Int} (h : B1 g zs x) : Go.Proofs.YtladfpljnaippabDoor.sg g (val 4294967296 zs) = x := h.num.symm

theorem B1.pos {g : Bool} {zs : List Int} {x : Int} (h : B1 g zs x) (hx : 0 ≤ x) : g = false := by
  cases g
  · rfl
  · have := val_pos (B := 4294967296) (by decide) h.can (h.zero rfl)
    have hn := h.num
    simp only [Go.Proofs.YtladfpljnaippabDoor.sg, if_true] at hn
    omega

theorem B1.u32 {g : Bool} {zs : List Int} {x : Int} (h : B1 g zs x) : U32 zs := h.can.1

/-! ### Shifts by a few bits -/
theorem shN_back {x n : Int} (h0 : 0 ≤ n) (h1 : n ≤ 16384) : shN x (-n) = x / 2 ^ n.toNat := by
  by_cases h : n = 0
  · subst h
    unfold shN
    rw [if_pos (by omega), show (min (-0) 16384 : Int).toNat = 0 by decide]
    simp
  · rw [shN_down (by omega), show min (- -n) 16384 = n by omega]

theorem two_fits {n : Int} (h1 : n ≤ 200) : 0 < (2 : Int) ^ n.toNat ∧ Fits (2 ^ n.toNat) := by
  have h0 : (0 : Int) < 2 ^ n.toNat := Int.pow_pos (by decide)
  have h2 : (2 : Int) ^ n.toNat ≤ 2 ^ 200 := two_pow_le (by omega)
  have h3 : (4294967296 : Int) ^ 7 ≤ 4294967296 ^ 512 := pow_mono (by decide) (by decide)
  have h4 : (2 : Int) ^ 200 < 4294967296 ^ 7 := by decide
  exact ⟨h0, by unfold Fits; omega⟩

theorem div_fits {x q : Int} (hq : 0 < q) (hx : Fits x) : Fits (x / q) := by
  obtain ⟨h1, h2⟩ := hx
  unfold Fits
  by_cases h : 0 ≤ x
  · have h3 : 0 ≤ x / q := Int.ediv_nonneg h (by omega)
    have h4 : x / q ≤ x := Int.ediv_le_self _ h
    omega
  · have h3 : x ≤ x / q := (Int.le_ediv_iff_mul_le hq).2 (by
      have : x * q ≤ x * 1 := Int.mul_le_mul_of_nonpos_left (by omega) (by omega)
      omega)
    have h4 : x / q < 0 := Int.ediv_neg_of_neg_of_pos (by omega) hq
    have h5 : (0 : Int) < 4294967296 ^ 512 := Int.pow_pos (by decide)
    omega

theorem low_fits {x q : Int} (hq : 0 < q) (hx : Fits x) (hxq : Fits (x * q)) : Fits (x / q * q) := by
  obtain ⟨h1, h2⟩ := hx
  obtain ⟨h3, h4⟩ := hxq
  have h5 := Int.mul_ediv_add_emod x q
  have h6 := Int.emod_nonneg x (show q ≠ 0 by omega)
  rw [Int.mul_comm] at h5
  unfold Fits
  by_cases h : 0 ≤ x
  · have h7 : 0 ≤ x / q := Int.ediv_nonneg h (by omega)
    have h8 := Int.mul_nonneg h7 (Int.le_of_lt hq)
    omega
  · have h7 : x ≤ x / q := (Int.le_ediv_iff_mul_le hq).2 (by
      have : x * q ≤ x * 1 := Int.mul_le_mul_of_nonpos_left (by omega) (by omega)
      omega)
    have h8 : x * q ≤ x / q * q := Int.mul_le_mul_of_nonneg_right h7 (by omega)
    omega

theorem rest_of {x q : Int} (hq : 0 < q) : x - x / q * q = x % q ∧ 0 ≤ x % q ∧ x % q < q := by
  have h5 := Int.mul_ediv_add_emod x q
  rw [Int.mul_comm] at h5
  exact ⟨by omega, Int.emod_nonneg x (by omega), Int.emod_lt_of_pos x hq⟩

end Go.Proofs.YtladfpljnaippabDoor

/-
  Plain mathematics: the one normal form of a dyadic number.
-/
namespace Go.Proofs.YtladfpljnaippabDoor

/-- m * 2^e is the normal form of the number that is v in units of 2^-100000. -/
def Norm (v m e : Int) : Prop := (v = 0 ∧ m = 0 ∧ e = 0) ∨ (v ≠ 0 ∧ m % 2 = 1 ∧ 0 ≤ e + 100000 ∧ v = m * 2 ^ (e + 100000).toNat)

theorem odd_two {m m' : Int} {s t : Nat} (hm : m % 2 = 1) (hm' : m' % 2 = 1) (h : m * 2 ^ s = m' * 2 ^ t) : s = t ∧ m = m' := by
  rcases Nat.lt_trichotomy s t with hst | hst | hst
  · exfalso
    have e : m = m' * 2 ^ (t - s) := by
      have hp : (0 : Int) < 2 ^ s := Int.pow_pos (by decide)
      apply Int.eq_of_mul_eq_mul_right (Int.ne_of_gt hp)
      rw [h, Int.mul_assoc, ← Int.pow_add, show t - s + s = t by omega]
    have e2 : m = 2 * (m' * 2 ^ (t - s - 1)) := by
      rw [e, show t - s = (t - s - 1) + 1 by omega, Int.pow_succ]
      simp only [Nat.add_sub_cancel]
      rw [← Int.mul_assoc, Int.mul_comm _ 2]
    omega
  · subst hst
    have hp : (0 : Int) < 2 ^ s := Int.pow_pos (by decide)
    exact ⟨rfl, Int.eq_of_mul_eq_mul_right (Int.ne_of_gt hp) h⟩
  · exfalso
    have e : m' = m * 2 ^ (s - t) := by
      have hp : (0 : Int) < 2 ^ t := Int.pow_pos (by decide)
      apply Int.eq_of_mul_eq_mul_right (Int.ne_of_gt hp)
      rw [← h, Int.mul_assoc, ← Int.pow_add, show s - t + t = s by omega]
    have e2 : m' = 2 * (m * 2 ^ (s - t - 1)) := by
      rw [e, show s - t = (s - t - 1) + 1 by omega, Int.pow_succ]
      simp only [Nat.add_sub_cancel]
      rw [← Int.mul_assoc, Int.mul_comm _ 2]
    omega

theorem Norm.inj {v m e m' e' : Int} (h : Norm v m e) (h' : Norm v m' e') : m = m' ∧ e = e' := by
  rcases h with ⟨h0, h1, h2⟩ | ⟨h0, h1, h2, h3⟩
  · rcases h' with ⟨_, k1, k2⟩ | ⟨k0, _⟩
    · exact ⟨by rw [h1, k1], by rw [h2, k2]⟩
    · exact absurd h0 k0
  · rcases h' with ⟨k0, _⟩ | ⟨_, k1, k2, k3⟩
    · exact absurd k0 h0
    · obtain ⟨e1, e2⟩ := odd_two h1 k1 (h3.symm.trans k3)
      exact ⟨e2, by omega⟩

theorem Norm.of_normOf {x e0 m e' : Int} {T : Nat} (h : NormOf x e0 m e' T) (he : -100000 ≤ e0) : Norm (atK 100000 x e0) m e' := by
  have hat := h.at (K := 100000) (by omega)
  rcases h with ⟨h0, h1, h2⟩ | ⟨h0, t, h2, h3, h4, _⟩
  · exact .inl ⟨by rw [h0]; simp [atK], h1, h2⟩
  · refine .inr ⟨?_, h4, by omega, by rw [← hat]; rfl⟩
    unfold atK
    intro hz
    rcases Int.mul_eq_zero.1 hz with h5 | h5
    · exact h0 h5
    · have : (0 : Int) < 2 ^ (e0 + 100000).toNat := Int.pow_pos (by decide)
      omega

/-- What DyAdd, DyMul, DyDet answer of the number v. -/
def ResD (ok : Bool) (v : Int) (G : Bool) (Z : List Int) (E K : Int) : Prop :=
  (ok = false ∧ G = false ∧ Z = [] ∧ E = 0 ∧ K = 1) ∨ (ok = true ∧ ∃ m e, Norm v m e ∧ (((Fits m ∧ -20000 ≤ e ∧ e ≤ 20000) ∧ B1 G Z m ∧ E = e ∧ K = 0) ∨ (¬ (Fits m ∧ -20000 ≤ e ∧ e ≤ 20000) ∧ G = false ∧ Z = [] ∧ E = 0 ∧ K = 2)))

theorem ResD.inj {ok : Bool} {v : Int} {G G' : Bool} {Z Z' : List Int} {E E' K K' : Int} (h : ResD ok v G Z E K) (h' : ResD ok v G' Z' E' K') : G = G' ∧ Z = Z' ∧ E = E' ∧ K = K' := by
  rcases h with ⟨h0, h1, h2, h3, h4⟩ | ⟨h0, m, e, hN, hc⟩
  · rcases h' with ⟨_, k1, k2, k3, k4⟩ | ⟨k0, _⟩
    · rw [h1, h2, h3, h4, k1, k2, k3, k4]
      exact ⟨rfl, rfl, rfl, rfl⟩
    · rw [h0] at k0
      cases k0
  · rcases h' with ⟨k0, _⟩ | ⟨_, m', e', hN', hc'⟩
    · rw [h0] at k0
      cases k0
    · obtain ⟨e1, e2⟩ := hN.inj hN'
      subst e1 e2
      rcases hc with ⟨c0, c1, c3, c4⟩ | ⟨c0, c1, c2, c3, c4⟩
      · rcases hc' with ⟨_, k1, k3, k4⟩ | ⟨k0, _⟩
        · obtain ⟨e3, e4⟩ := c1.inj k1
          exact ⟨e3, e4, by rw [c3, k3], by rw [c4, k4]⟩
        · exact absurd c0 k0
      · rcases hc' with ⟨k0, _⟩ | ⟨_, k1, k2, k3, k4⟩
        · exact absurd k0 c0
        · rw [c1, c2, c3, c4, k1, k2, k3, k4]
          exact ⟨rfl, rfl, rfl, rfl⟩

theorem ResD.len {ok : Bool} {v : Int} {G : Bool} {Z : List Int} {E K : Int} (h : ResD ok v G Z E K) : Z.length ≤ 512 ∧ U32 Z := by
  rcases h with ⟨_, _, h2, _⟩ | ⟨_, m, e, _, ⟨⟨c0, _⟩, hB, _⟩ | ⟨_, _, c2, _⟩⟩
  · subst h2
    exact ⟨by simp, fun z hz => by cases hz⟩
  · exact ⟨hB.len c0, hB.can.1⟩
  · subst c2
    exact ⟨by simp, fun z hz => by cases hz⟩

/-- The normal form found by counting twos. -/
theorem norm_twos {g : Bool} {zs : List Int} {x E : Int} {t : Nat} (h : B1 g zs x) (hne : zs ≠ []) (hE : -100000 ≤ E) (ht : Twos (val 4294967296 zs) t) : Norm (atK 100000 x E) (sg g (val 4294967296 zs / 2 ^ t)) (E + t) := by
  obtain ⟨n1, n2⟩ := norm_of h.num ht
  have hv := val_pos (B := 4294967296) (by decide) h.can hne
  have hp : (0 : Int) < 2 ^ (E + 100000).toNat := Int.pow_pos (by decide)
  refine .inr ⟨?_, n2, by omega, ?_⟩
  · unfold atK
    intro hz
    rcases Int.mul_eq_zero.1 hz with h5 | h5
    · rw [h.num] at h5
      cases g <;> simp [sg] at h5 <;> omega
    · omega
  · unfold atK
    rw [n1, Int.mul_assoc, ← Int.pow_add, show t + (E + 100000).toNat = (E + ↑t + 100000).toNat by omega]

end Go.Proofs.YtladfpljnaippabDoor

/-
  Plain mathematics: a float's own number is rounded to its bits; what bits are worth.
-/
namespace Go.Proofs.YtladfpljnaippabDoor

/-- The number of a float, rounded, is its bits (the sign aside). -/
theorem flR_self {b : Int} (hm : fMag b ≠ 0) : flR (fMag b) (fExp b - 150) = b % 2147483648 := by
  unfold fMag fExp at *
  by_cases he : b / 8388608 % 256 = 0
  · rw [if_pos he] at hm ⊢
    rw [if_pos he]
    obtain ⟨M, hM⟩ : ∃ M, M = b % 8388608 := ⟨_, rfl⟩
    rw [← hM] at hm ⊢
    have hM0 : 0 < M := by omega
    have hM1 : M < 8388608 := by omega
    have hl : M.toNat.log2 < 23 := by
      rw [Nat.log2_lt (by omega)]
      omega
    have hp : plc M (1 - 150) = -149 := by
      unfold plc
      omega
    unfold flR
    rw [hp, rnd_up (by omega)]
    simp
    omega
  · rw [if_neg he] at hm ⊢
    rw [if_neg he]
    obtain ⟨M, hM⟩ : ∃ M, M = b % 8388608 + 8388608 := ⟨_, rfl⟩
    rw [← hM] at hm ⊢
    obtain ⟨x, hx⟩ : ∃ x, x = b / 8388608 % 256 := ⟨_, rfl⟩
    rw [← hx] at he ⊢
    have hl : M.toNat.log2 = 23 := log2_of (n := 23) (by omega) (by omega)
    have hp : plc M (x - 150) = x - 150 := by
      unfold plc
      rw [hl]
      omega
    unfold flR
    rw [hp, show x - 150 - (x - 150) = 0 by omega, rnd_up (by decide)]
    simp
    omega

/-- What a finite float's bits are worth. -/
theorem rv_val (b : Int) : fMag b * 2 ^ (fExp b - 1).toNat = rv (b % 2147483648) := by
  unfold fMag fExp rv
  by_cases he : b / 8388608 % 256 = 0
  · rw [if_pos he, if_pos he, if_pos (by omega)]
    simp
    omega
  · rw [if_neg he, if_neg he, if_neg (by omega), show b % 2147483648 % 8388608 = b % 8388608 by omega, show b % 2147483648 / 8388608 = b / 8388608 % 256 by omega, Int.add_comm]

theorem fVal_rv {b : Int} (h0 : 0 ≤ b) {p : Nat} (hp : p = 99851) : atK 100000 (fNum b) (fExp b - 150) = (if 2147483648 ≤ b then -(rv (b % 2147483648) * 2 ^ p) else rv (b % 2147483648) * 2 ^ p) := by
  have hx := fExp_pos h0
  have h1 : atK 100000 (fMag b) (fExp b - 150) = rv (b % 2147483648) * 2 ^ p := by
    unfold atK
    rw [← rv_val b, show (fExp b - 150 + 100000).toNat = (fExp b - 1).toNat + p by omega, Int.pow_add, Int.mul_assoc]
  unfold fNum
  by_cases h : 2147483648 ≤ b
  · rw [if_pos h, if_pos h, atK_neg, h1]
  · rw [if_neg h, if_neg h, h1]

/-- The value of bits in units of 2^-100000. -/
def vF (b : Int) : Int := atK 100000 (fNum b) (fExp b - 150)

/-- Nearer than b, or as near and even. -/
def Nearest (v f b : Int) : Prop := (v - vF f).natAbs ≤ (v - vF b).natAbs ∧ ((v - vF f).natAbs = (v - vF b).natAbs → f % 2 = 0)

theorem vF_pos {X : Int} (h0 : 0 ≤ X) (h1 : X < 2147483648) {p : Nat} (hp : p = 99851) : vF X = rv X * 2 ^ p := by
  unfold vF
  rw [fVal_rv h0 hp, if_neg (by omega), show X % 2147483648 = X by omega]
theorem vF_neg {X : Int} (h0 : 0 ≤ X) (h1 : X < 2147483648) {p : Nat} (hp : p = 99851) : vF (X + 2147483648) = -(rv X * 2 ^ p) := by
  unfold vF
  rw [fVal_rv (by omega) hp, if_pos (by omega), show (X + 2147483648) % 2147483648 = X by omega]

theorem rv_zero : rv 0 = 0 := rfl
theorem rv_one : rv 1 = 1 := rfl

section
variable {N E X : Int}

theorem near_core (hN : 0 < N) (hE : 0 ≤ E + 100000) (hX : flR N E = X) {p : Nat} (hp : p = 99851) :
    ((N * 2 ^ (E + 100000).toNat - rv X * 2 ^ p).natAbs ≤ (N * 2 ^ (E + 100000).toNat - rv (X + 1) * 2 ^ p).natAbs ∧ ((N * 2 ^ (E + 100000).toNat - rv X * 2 ^ p).natAbs = (N * 2 ^ (E + 100000).toNat - rv (X + 1) * 2 ^ p).natAbs → X % 2 = 0)) ∧
    (1 ≤ X → (N * 2 ^ (E + 100000).toNat - rv X * 2 ^ p).natAbs ≤ (N * 2 ^ (E + 100000).toNat - rv (X - 1) * 2 ^ p).natAbs ∧ ((N * 2 ^ (E + 100000).toNat - rv X * 2 ^ p).natAbs = (N * 2 ^ (E + 100000).toNat - rv (X - 1) * 2 ^ p).natAbs → X % 2 = 0)) := by
  obtain ⟨U, hU, n1, n2, n3, n4⟩ := flR_near hN (K := 100000) (by decide) hE
  rw [hX, show (100000 - 149 : Int).toNat = p by omega] at n1 n2 n3 n4
  generalize N * 2 ^ (E + 100000).toNat = V at *
  generalize rv X * 2 ^ p = F at *
  generalize rv (X + 1) * 2 ^ p = G at *
  generalize rv (X - 1) * 2 ^ p = H at *
  refine ⟨⟨by omega, fun h => n2 (by omega)⟩, fun hx => ?_⟩
  rcases n4 hx with h | ⟨h, h'⟩
  · exact ⟨by omega, fun e => n2 (by omega)⟩
  · exact ⟨by omega, fun e => by omega⟩

/-- The float above (further from zero). -/
theorem nst_up (g : Bool) (hN : 0 < N) (hE : 0 ≤ E + 100000) (hX : flR N E = X) (h0 : 0 ≤ X) (h1 : X < 2139095040) :
    Nearest (atK 100000 (sg g N) E) (X + if g = true then 2147483648 else 0) (X + (if g = true then 2147483648 else 0) + 1) := by
  obtain ⟨p, hp⟩ : ∃ p : Nat, p = 99851 := ⟨_, rfl⟩
  obtain ⟨⟨a1, a2⟩, _⟩ := near_core hN hE hX hp
  unfold Nearest
  cases g
  · rw [if_neg (by decide), Int.add_zero, vF_pos h0 (by omega) hp, vF_pos (by omega) (by omega) hp]
    have e : atK 100000 (sg false N) E = N * 2 ^ (E + 100000).toNat := rfl
    rw [e]
    exact ⟨a1, a2⟩
  · rw [if_pos rfl, show X + 2147483648 + 1 = (X + 1) + 2147483648 by omega, vF_neg h0 (by omega) hp, vF_neg (by omega) (by omega) hp]
    have e : atK 100000 (sg true N) E = -(N * 2 ^ (E + 100000).toNat) := by
      unfold atK sg
      rw [if_pos rfl, Int.neg_mul]
    rw [e]
    generalize N * 2 ^ (E + 100000).toNat = V at *
    generalize rv X * 2 ^ p = F at *
    generalize rv (X + 1) * 2 ^ p = G at *
    exact ⟨by omega, fun h => by have := a2 (by omega); omega⟩

/-- The float below, and behind zero the least of the other sign. -/
theorem nst_down (g : Bool) (hN : 0 < N) (hE : 0 ≤ E + 100000) (hX : flR N E = X) (h0 : 1 ≤ X) (h1 : X < 2139095040) :
    Nearest (atK 100000 (sg g N) E) (X + if g = true then 2147483648 else 0) (X + (if g = true then 2147483648 else 0) - 1) := by
  obtain ⟨p, hp⟩ : ∃ p : Nat, p = 99851 := ⟨_, rfl⟩
  obtain ⟨a1, a2⟩ := (near_core hN hE hX hp).2 h0
  unfold Nearest
  cases g
  · rw [if_neg (by decide), Int.add_zero, vF_pos (by omega) (by omega) hp, vF_pos (by omega) (by omega) hp]
    have e : atK 100000 (sg false N) E = N * 2 ^ (E + 100000).toNat := rfl
    rw [e]
    exact ⟨a1, a2⟩
  · rw [if_pos rfl, show X + 2147483648 - 1 = (X - 1) + 2147483648 by omega, vF_neg (by omega) (by omega) hp, vF_neg (by omega) (by omega) hp]
    have e : atK 100000 (sg true N) E = -(N * 2 ^ (E + 100000).toNat) := by
      unfold atK sg
      rw [if_pos rfl, Int.neg_mul]
    rw [e]
    generalize N * 2 ^ (E + 100000).toNat = V at *
    generalize rv X * 2 ^ p = F at *
    generalize rv (X - 1) * 2 ^ p = G at *
    exact ⟨by omega, fun h => by have := a2 (by omega); omega⟩

theorem nst_zero (g : Bool) (hN : 0 < N) : Nearest (atK 100000 (sg g N) E) (0 + if g = true then 2147483648 else 0) (if g = true then 1 else 2147483649) := by
  obtain ⟨p, hp⟩ : ∃ p : Nat, p = 99851 := ⟨_, rfl⟩
  have hV : 0 < N * 2 ^ (E + 100000).toNat := Int.mul_pos hN (Int.pow_pos (by decide))
  have hS : (0 : Int) < 2 ^ p := Int.pow_pos (by decide)
  unfold Nearest
  cases g
  · rw [if_neg (by decide), if_neg (by decide), Int.add_zero, vF_pos (by decide) (by decide) hp, show (2147483649 : Int) = 1 + 2147483648 from rfl, vF_neg (by decide) (by decide) hp, rv_zero, rv_one, Int.zero_mul, Int.one_mul]
    have e : atK 100000 (sg false N) E = N * 2 ^ (E + 100000).toNat := rfl
    rw [e]
    generalize N * 2 ^ (E + 100000).toNat = V at *
    generalize (2 : Int) ^ p = S at *
    exact ⟨by omega, fun _ => by decide⟩
  · rw [if_pos rfl, if_pos rfl, vF_neg (by decide) (by decide) hp, vF_pos (by decide) (by decide) hp, rv_zero, rv_one, Int.zero_mul, Int.one_mul]
    have e : atK 100000 (sg true N) E = -(N * 2 ^ (E + 100000).toNat) := by
      unfold atK sg
      rw [if_pos rfl, Int.neg_mul]
    rw [e]
    generalize N * 2 ^ (E + 100000).toNat = V at *
    generalize (2 : Int) ^ p = S at *
    exact ⟨by omega, fun _ => by decide⟩

end
end Go.Proofs.YtladfpljnaippabDoor

/-
  The model's dyadic numbers: valid ones, normal forms.
-/
namespace Go.Proofs.YtladfpljnaippabDoor
open Go.RowKit

/-- Is the Dyadic valid? -/
def validD (g : Bool) (zs : List Int) (E : Int) : Bool := validB g zs && (decide (-20000 ≤ E) && decide (E ≤ 20000))

set_option maxHeartbeats 1000000 in
theorem valid2S_any (g : Bool) (a : Option Addr) (c : Nat) (zs : List Int) (E : Int) (w : World) (hn : zs.length ≤ 1048576) (hz : RowAt .u32 w a zs) :
    Calls Tryd.prog 32 #[.agg #[.bool g, .slice a zs.length c, .int .i64 E]] w fun e w' => e = .returned (.bool (validD g zs E)) ∧ Below w.heap.size w w' := by
  unfold validD
  cases hv : validB g zs
  · go_enter Tryd.func32, Tryd.ntmps32
    go_wp2_with fail
    refine (validS_any g a c zs _ (by unfold maxLen; omega) (hz.later (bel0 _ _))).mono ?_
    rintro e w1 ⟨rfl, hb1⟩
    rw [hv]
    have HB : Hid (Below w.heap.size w w1) := (bel0 _ _).trans (hb1.mono (by simp))
    clear hb1
    go_wp2
    go_ret
    exact ⟨rfl, HB.out⟩
  · by_cases h1 : -20000 ≤ E
    · by_cases h2 : E ≤ 20000
      · have HR : Hid ((true && (decide (-20000 ≤ E) && decide (E ≤ 20000))) = true) := by unfold Hid; simp [h1, h2]
        rw [HR.out]
        go_enter Tryd.func32, Tryd.ntmps32
        go_wp2_with fail
        refine (validS_any g a c zs _ (by unfold maxLen; omega) (hz.later (bel0 _ _))).mono ?_
        rintro e w1 ⟨rfl, hb1⟩
        rw [hv]
        have HB : Hid (Below w.heap.size w w1) := (bel0 _ _).trans (hb1.mono (by simp))
        have q2 : w1.cell? ⟨w.heap.size, 2, none⟩ = some (.int .i64 E) := by rw [(bcell hb1).1 _ _ (by simp)]; simp [go_sem]
        clear hb1
        go_wp2
        go_ret
        exact ⟨ret_bool (by simp), HB.out⟩
      · have HR : Hid ((true && (decide (-20000 ≤ E) && decide (E ≤ 20000))) = false) := by unfold Hid; simp; omega
        rw [HR.out]
        go_enter Tryd.func32, Tryd.ntmps32
        go_wp2_with fail
        refine (validS_any g a c zs _ (by unfold maxLen; omega) (hz.later (bel0 _ _))).mono ?_
        rintro e w1 ⟨rfl, hb1⟩
        rw [hv]
        have HB : Hid (Below w.heap.size w w1) := (bel0 _ _).trans (hb1.mono (by simp))
        have q2 : w1.cell? ⟨w.heap.size, 2, none⟩ = some (.int .i64 E) := by rw [(bcell hb1).1 _ _ (by simp)]; simp [go_sem]
        clear hb1
        go_wp2
        go_ret
        exact ⟨ret_bool (by simp; omega), HB.out⟩
    · have HR : Hid ((true && (decide (-20000 ≤ E) && decide (E ≤ 20000))) = false) := by unfold Hid; simp; omega
      rw [HR.out]
      go_enter Tryd.func32, Tryd.ntmps32
      go_wp2_with fail
      refine (validS_any g a c zs _ (by unfold maxLen; omega) (hz.later (bel0 _ _))).mono ?_
      rintro e w1 ⟨rfl, hb1⟩
      rw [hv]
      have HB : Hid (Below w.heap.size w w1) := (bel0 _ _).trans (hb1.mono (by simp))
      have q2 : w1.cell? ⟨w.heap.size, 2, none⟩ = some (.int .i64 E) := by rw [(bcell hb1).1 _ _ (by simp)]; simp [go_sem]
      clear hb1
      go_wp2
      go_ret
      exact ⟨rfl, HB.out⟩

set_option maxHeartbeats 4000000 in
theorem of2_any (g : Bool) (a : Option Addr) (c : Nat) (zs : List Int) (E : Int) (w : World) (hn : zs.length ≤ 20000) (he0 : -1000000 ≤ E) (he1 : E ≤ 1000000) (hz : RowAt .u32 w a zs) (hu : U32 zs) :
    Calls Tryd.prog 33 #[.agg #[.bool g, .slice a zs.length c, .int .i64 E]] w fun e w' => NormOut w (2 * zs.length) (sg g (val 4294967296 zs)) E (32 * zs.length) e w' := by
  have B0 : Hid (∀ t t', Bx3 w (.bool g) (.slice a zs.length c) (.int .i64 E) ((w.alloc (.cells #[.bool g, .slice a zs.length c, .int .i64 E] t)).alloc (.cells #[.bool false, .slice none 0 0, .int .i64 0] t'))) := fun t t' => Bx3.start w _ _ _ _ _
  go_enter Tryd.func33, Tryd.ntmps33
  go_wp2
  obtain ⟨W0, hW0⟩ : ∃ W0, W0 = ((w.alloc (.cells #[.bool g, .slice a zs.length c, .int .i64 E] 29)).alloc (.cells #[.bool false, .slice none 0 0, .int .i64 0] 66)) := ⟨_, rfl⟩
  have F : Hid (Bx3 w (.bool g) (.slice a zs.length c) (.int .i64 E) W0) := by unfold Hid; rw [hW0]; exact B0.out _ _
  rw [← hW0]
  clear hW0 B0
  have zz : w.heap.size + 1 < W0.heap.size := F.out.le
  go_region_held3 (fun w' => w'.cell? ⟨w.heap.size, 0, none⟩ = some (.bool g) ∧ w'.cell? ⟨w.heap.size, 1, none⟩ = some (.slice a zs.length c) ∧ w'.cell? ⟨w.heap.size, 2, none⟩ = some (.int .i64 E) ∧ Below (w.heap.size + 1) W0 w')
    (first | exact F.out.held (Below.refl _ _).drew | exact F.out.held (by assumption) | exact F.out.held (Below.setCell (Below.setCell (Below.setCell (by assumption) (by simp) _) (by simp) _) (by simp) _))
    (first
      | (go_at_call 76; refine (of_any g a c zs _ (by omega) (hz.later F.out.bel.drew) hu).mono ?_; rintro e w1 ⟨g1, a1, c1, ds, rfl, hl1, hL1, hb1⟩; have hB1 : Below W0.heap.size W0 w1 := (Below.refl _ _).drew.trans hb1; have hB1' : Below (w.heap.size + 1) W0 w1 := hB1.mono (by omega))
      | (go_at_call 75; refine (norm_any g1 a1 c1 ds _ E _ (by omega) he0 he1 hL1).mono ?_; rintro e w2 ⟨m, e', hnf, g2, a2, c2, fs, rfl, hl2, hL2, hF2, hb2⟩; have hB2 : Below W0.heap.size W0 w2 := hB1.trans (hb2.mono hB1.size); have hB2' : Below (w.heap.size + 1) W0 w2 := hB2.mono (by omega); have F2 : Hid (Bx3 w (.bool g) (.slice a zs.length c) (.int .i64 E) w2) := F.out.later hB2; have r1 := F2.out.r1; have r2 := F2.out.r2; have r3 := F2.out.r3; have r4 := F2.out.r4))
  have HL2 : Hid (L1 w2 g2 a2 c2 fs m) := hL2
  have HF2 : Hid (Far (w.heap.size + 1 + 1) a2 fs) := hF2.down (by have := hB1.size; omega)
  have HN : Hid (NormOf (sg g (val 4294967296 zs)) E m e' (32 * zs.length)) := by
    rcases hnf with h | ⟨h1, t, h2, h3, h4, h5⟩
    · exact .inl h
    · exact .inr ⟨h1, t, h2, h3, h4, by omega⟩
  clear hL2 hF2 hB1 hB1' hB2 hB2' hb1 hb2 hL1 hnf
  go_wp2
  refine bodyPost_ret (v := .agg #[.bool g2, .slice a2 fs.length c2, .int .i64 e']) (by simp [results, Tryd.results33, go_sem, r1, r2, r3]) rfl ?_
  refine ⟨m, e', HN.out, g2, a2, c2, fs, rfl, by omega, ?_, HF2.out.down (by omega), ?_⟩
  · exact ((HL2.out.setFar HF2.out (by simp) _).setFar HF2.out (by simp) _).setFar HF2.out (by simp) _
  · exact ((F2.out.bel.setCell (by simp) _).setCell (by simp) _).setCell (by simp) _

end Go.Proofs.YtladfpljnaippabDoor

/-
  The parts of a valid Dyadic.
-/
namespace Go.Proofs.YtladfpljnaippabDoor
open Go.RowKit

theorem validD_parts {g : Bool} {zs : List Int} {E : Int} (h : validD g zs E = true) : validB g zs = true ∧ -20000 ≤ E ∧ E ≤ 20000 := by
  unfold validD at h
  simp only [Bool.and_eq_true, decide_eq_true_eq] at h
  exact ⟨h.1, h.2.1, h.2.2⟩

end Go.Proofs.YtladfpljnaippabDoor

/-
  Plain mathematics: what a function of Dyadics answers with CodeOK.
-/
namespace Go.Proofs.YtladfpljnaippabDoor

/-- What a function answers with CodeOK. -/
theorem ResD.good {ok : Bool} {v : Int} {G : Bool} {Z : List Int} {E : Int} (h : ResD ok v G Z E 0) : ok = true ∧ validD G Z E = true ∧ atK 100000 (sg G (val 4294967296 Z)) E = v ∧ -20000 ≤ E := by
  rcases h with ⟨_, _, _, _, h⟩ | ⟨h0, m, e, hN, hc⟩
  · cases h
  · rcases hc with ⟨⟨h1, h2, h3⟩, hB, hE, _⟩ | ⟨_, _, _, _, h⟩
    · subst hE
      refine ⟨h0, ?_, ?_, h2⟩
      · unfold validD
        rw [hB.valid (hB.len h1)]
        simp
        omega
      · rw [hB.sg]
        unfold atK
        rcases hN with ⟨n1, n2, _⟩ | ⟨_, _, _, n4⟩
        · rw [n1, n2]; simp
        · exact n4.symm
    · cases h

end Go.Proofs.YtladfpljnaippabDoor

/-
  Plain mathematics: numbers that are small enough to be answered; distances.
-/
namespace Go.Proofs.YtladfpljnaippabDoor

/-- v is k * 2^98000, and k is small. -/
def GoodV (q : Nat) (v : Int) : Prop := ∃ k : Int, v = k * 2 ^ 98000 ∧ k.natAbs < 2 ^ q

theorem pow_natAbs (k : Int) (n : Nat) : (k * 2 ^ n).natAbs = k.natAbs * 2 ^ n := by
  rw [Int.natAbs_mul, Int.natAbs_pow]
  rfl

theorem p2_mono {a b : Nat} (h : a ≤ b) : 2 ^ a ≤ 2 ^ b := Nat.pow_le_pow_right (by decide) h

theorem GoodV.of {q : Nat} {m e : Int} {a : Nat} (he : -2000 ≤ e) (hm : m.natAbs < 2 ^ a) (hq : (a : Int) + e + 2000 ≤ q) : GoodV q (atK 100000 m e) := by
  obtain ⟨p, hp⟩ : ∃ p : Nat, p = 98000 := ⟨_, rfl⟩
  unfold GoodV
  rw [← hp]
  refine ⟨m * 2 ^ (e + 2000).toNat, ?_, ?_⟩
  · unfold atK
    rw [Int.mul_assoc, ← Int.pow_add, show (e + 100000).toNat = (e + 2000).toNat + p by omega]
  · rw [pow_natAbs]
    have h1 : m.natAbs * 2 ^ (e + 2000).toNat < 2 ^ a * 2 ^ (e + 2000).toNat := Nat.mul_lt_mul_of_pos_right hm (Nat.pow_pos (by decide))
    rw [← Nat.pow_add] at h1
    exact Nat.lt_of_lt_of_le h1 (p2_mono (by omega))

theorem GoodV.sub {q : Nat} {v v' : Int} (h : GoodV q v) (h' : GoodV q v') : GoodV (q + 1) (v - v') := by
  obtain ⟨k, h1, h2⟩ := h
  obtain ⟨k', h3, h4⟩ := h'
  refine ⟨k - k', by rw [h1, h3, Int.sub_mul], ?_⟩
  rw [Nat.pow_succ]
  omega

theorem GoodV.neg {q : Nat} {v : Int} (h : GoodV q v) : GoodV q (-v) := by
  obtain ⟨k, h1, h2⟩ := h
  exact ⟨-k, by rw [h1, Int.neg_mul], by rw [Int.natAbs_neg]; exact h2⟩

theorem GoodV.mono {q q' : Nat} {v : Int} (h : GoodV q v) (hq : q ≤ q') : GoodV q' v := by
  obtain ⟨k, h1, h2⟩ := h
  exact ⟨k, h1, Nat.lt_of_lt_of_le h2 (p2_mono hq)⟩

theorem fits_of {m : Int} {q : Nat} (h : m.natAbs < 2 ^ q) (hq : q ≤ 7000) : Fits m := by
  obtain ⟨a, ha⟩ : ∃ a : Nat, a = 16384 := ⟨_, rfl⟩
  have e : (4294967296 ^ 512 : Int) = ((2 ^ a : Nat) : Int) := by
    rw [ha]
    decide +kernel
  have h1 : m.natAbs < 2 ^ a := Nat.lt_of_lt_of_le h (p2_mono (by omega))
  unfold Fits
  rw [e]
  omega

/-- Such a number is answered. -/
theorem GoodV.ok {q : Nat} {v : Int} {G : Bool} {Z : List Int} {E K : Int} (h : GoodV q v) (hq : q ≤ 7000) (hr : ResD true v G Z E K) : K = 0 := by
  obtain ⟨p, hp⟩ : ∃ p : Nat, p = 98000 := ⟨_, rfl⟩
  obtain ⟨k, h1, h2⟩ := h
  rw [← hp] at h1
  rcases hr with ⟨h, _⟩ | ⟨_, m, e, hN, hc⟩
  · cases h
  · have hgood : Fits m ∧ -20000 ≤ e ∧ e ≤ 20000 := by
      rcases hN with ⟨_, n2, n3⟩ | ⟨n0, n1, n2, n3⟩
      · rw [n2, n3]
        exact ⟨fits_of (m := 0) (q := 0) (by decide) (by decide), by decide, by decide⟩
      · have hlow : 0 ≤ e + 2000 := by
          apply Classical.byContradiction
          intro hneg
          obtain ⟨t, ht⟩ : ∃ t : Nat, p = (e + 100000).toNat + (t + 1) := ⟨p - (e + 100000).toNat - 1, by omega⟩
          rw [h1, ht, Int.pow_add, Int.mul_comm (2 ^ (e + 100000).toNat), ← Int.mul_assoc] at n3
          have h5 := Int.eq_of_mul_eq_mul_right (Int.ne_of_gt (Int.pow_pos (by decide))) n3
          rw [Int.pow_succ, ← Int.mul_assoc] at h5
          omega
        have hk : k = m * 2 ^ (e + 2000).toNat := by
          rw [h1, show (e + 100000).toNat = (e + 2000).toNat + p by omega, Int.pow_add, ← Int.mul_assoc] at n3
          exact Int.eq_of_mul_eq_mul_right (Int.ne_of_gt (Int.pow_pos (by decide))) n3
        have hk2 : k.natAbs = m.natAbs * 2 ^ (e + 2000).toNat := by rw [hk, pow_natAbs]
        have hm0 : 0 < m.natAbs := by omega
        have hpos : 0 < 2 ^ (e + 2000).toNat := Nat.pow_pos (by decide)
        have hle1 : m.natAbs ≤ k.natAbs := by rw [hk2]; exact Nat.le_mul_of_pos_right _ hpos
        have hle2 : 2 ^ (e + 2000).toNat ≤ k.natAbs := by rw [hk2]; exact Nat.le_mul_of_pos_left _ hm0
        have hlt : 2 ^ (e + 2000).toNat < 2 ^ q := Nat.lt_of_le_of_lt hle2 h2
        have := (Nat.pow_lt_pow_iff_right (by decide : 1 < 2)).1 hlt
        exact ⟨fits_of (Nat.lt_of_le_of_lt hle1 h2) hq, by omega, by omega⟩
    rcases hc with ⟨_, _, _, hK⟩ | ⟨hn, _⟩
    · exact hK
    · exact absurd hgood hn

/-- A finite float is such a number. -/
theorem vF_good {b : Int} (h0 : 0 ≤ b) : GoodV 6000 (vF b) := by
  unfold vF
  have hx := fExp_pos h0
  refine GoodV.of (a := 24) (by omega) ?_ (by omega)
  unfold fNum fMag
  have : (2 : Nat) ^ 24 = 16777216 := by decide
  rw [this]
  split <;> split <;> omega

/-- A number without its sign. -/
theorem abs_good {v : Int} {G : Bool} {Z : List Int} {E : Int} (h : ResD true v G Z E 0) : validD false Z E = true ∧ atK 100000 (val 4294967296 Z) E = (v.natAbs : Int) := by
  obtain ⟨_, h1, h2, _⟩ := h.good
  obtain ⟨hb, h3, h4⟩ := validD_parts h1
  have hv : 0 ≤ val 4294967296 Z := val_nonneg (by decide) h.len.2
  refine ⟨?_, ?_⟩
  · unfold validD
    unfold validB at hb ⊢
    by_cases hz : Z.length = 0
    · rw [if_pos hz]
      simp
      omega
    · rw [if_neg hz] at hb ⊢
      rw [hb]
      simp
      omega
  · rw [← h2]
    unfold atK sg
    have hp : (0 : Int) < 2 ^ (E + 100000).toNat := Int.pow_pos (by decide)
    have := Int.mul_nonneg hv (Int.le_of_lt hp)
    cases G
    · simp
      omega
    · simp [Int.neg_mul]
      omega

end Go.Proofs.YtladfpljnaippabDoor

/-
  The boxes of two Dyadics; an l2dy in a box.
-/
namespace Go.Proofs.YtladfpljnaippabDoor
open Go.RowKit

/-- The boxes of two Dyadics behind w. -/
structure Bx6 (w : World) (u v e u' v' e' : Value) (W : World) : Prop where
  q0 : W.cell? ⟨w.heap.size, 0, none⟩ = some u
  q1 : W.cell? ⟨w.heap.size, 1, none⟩ = some v
  q2 : W.cell? ⟨w.heap.size, 2, none⟩ = some e
  p0 : W.cell? ⟨w.heap.size + 1, 0, none⟩ = some u'
  p1 : W.cell? ⟨w.heap.size + 1, 1, none⟩ = some v'
  p2 : W.cell? ⟨w.heap.size + 1, 2, none⟩ = some e'
  le : w.heap.size + 1 + 1 ≤ W.heap.size
  bel : Below w.heap.size w W

theorem Bx6.start (w : World) (u v e u' v' e' : Value) (t t' : TypeId) : Bx6 w u v e u' v' e' ((w.alloc (.cells #[u, v, e] t)).alloc (.cells #[u', v', e'] t')) := by
  refine ⟨?_, ?_, ?_, ?_, ?_, ?_, ?_, bel2 _ _ _⟩
  all_goals simp [go_sem]

theorem Bx6.later {w : World} {u v e u' v' e' : Value} {W W' : World} (h : Bx6 w u v e u' v' e' W) (hb : Below W.heap.size W W') : Bx6 w u v e u' v' e' W' := by
  have hl := h.le
  exact ⟨(hb.cell (by simp; omega)).trans h.q0, (hb.cell (by simp; omega)).trans h.q1, (hb.cell (by simp; omega)).trans h.q2, (hb.cell (by simp; omega)).trans h.p0, (hb.cell (by simp; omega)).trans h.p1, (hb.cell (by simp; omega)).trans h.p2, Nat.le_trans h.le hb.size, h.bel.trans (hb.mono (by omega))⟩

theorem Bx6.held {w : World} {u v e u' v' e' : Value} {W W' : World} (h : Bx6 w u v e u' v' e' W) (hb : Below W.heap.size W W') : W'.cell? ⟨w.heap.size, 0, none⟩ = some u ∧ W'.cell? ⟨w.heap.size, 1, none⟩ = some v ∧ W'.cell? ⟨w.heap.size, 2, none⟩ = some e ∧ W'.cell? ⟨w.heap.size + 1, 0, none⟩ = some u' ∧ W'.cell? ⟨w.heap.size + 1, 1, none⟩ = some v' ∧ W'.cell? ⟨w.heap.size + 1, 2, none⟩ = some e' ∧ Below W.heap.size W W' :=
  ⟨(h.later hb).q0, (h.later hb).q1, (h.later hb).q2, (h.later hb).p0, (h.later hb).p1, (h.later hb).p2, hb⟩

theorem held7 {p q r s t u v : Prop} (h : p ∧ q ∧ r ∧ s ∧ t ∧ u ∧ v) : v := h.2.2.2.2.2.2

/-- An l2dy in a box. -/
structure L2In (T : Nat) (g : Bool) (a : Option Addr) (c : Nat) (ds : List Int) (m e : Int) (W : World) : Prop where
  q0 : W.cell? ⟨T, 0, none⟩ = some (.bool g)
  q1 : W.cell? ⟨T, 1, none⟩ = some (.slice a ds.length c)
  l1 : L1 W g a c ds m

/-- A box of a struct of three that is still zero. -/
structure Has3 (b : Nat) (W : World) : Prop where
  r1 : W.cell? ⟨b, 0, none⟩ = some (.bool false)
  r2 : W.cell? ⟨b, 1, none⟩ = some (.slice none 0 0)
  r3 : W.cell? ⟨b, 2, none⟩ = some (.int .i64 0)
  r4 : ∀ j, W.frozen? ⟨b, j, none⟩ = false
  lt : b < W.heap.size

theorem Has3.new (W : World) (t : TypeId) : Has3 W.heap.size (W.alloc (.cells #[.bool false, .slice none 0 0, .int .i64 0] t)) := ⟨by simp [go_sem], by simp [go_sem], by simp [go_sem], by intro j; simp [go_sem], by simp⟩

theorem Has3.later {b : Nat} {W W' : World} (h : Has3 b W) (hb : Below W.heap.size W W') : Has3 b W' :=
  ⟨(hb.cell (p := ⟨b, 0, none⟩) h.lt).trans h.r1, (hb.cell (p := ⟨b, 1, none⟩) h.lt).trans h.r2, (hb.cell (p := ⟨b, 2, none⟩) h.lt).trans h.r3, fun j => (hb.frozen (p := ⟨b, j, none⟩) h.lt).trans (h.r4 j), Nat.lt_of_lt_of_le h.lt hb.size⟩

theorem L2In.start {g : Bool} {a : Option Addr} {c : Nat} {ds : List Int} {m e : Int} {W : World} (t : TypeId) (h : L1 W g a c ds m) : L2In W.heap.size g a c ds m e (W.alloc (.cells #[.bool g, .slice a ds.length c, .int .i64 e] t)) :=
  ⟨by simp [go_sem], by simp [go_sem], h.later (bel0 _ _)⟩

theorem L2In.set {b B : Nat} {g : Bool} {a : Option Addr} {c : Nat} {ds : List Int} {m e : Int} {W : World} (h : L1 W g a c ds m) (hf : Far B a ds) (hb : b < B) (hh : Has3 b W) : L2In b g a c ds m e (((W.setCell ⟨b, 0, none⟩ (.bool g)).setCell ⟨b, 1, none⟩ (.slice a ds.length c)).setCell ⟨b, 2, none⟩ (.int .i64 e)) := by
  refine ⟨?_, ?_, ((h.setFar hf (by simpa using hb) _).setFar hf (by simpa using hb) _).setFar hf (by simpa using hb) _⟩
  · rw [World.cell?_setCell_other _ _ _ _ (by simp), World.cell?_setCell_other _ _ _ _ (by simp)]
    exact World.cell?_setCell_same _ _ _ hh.r1
  · rw [World.cell?_setCell_other _ _ _ _ (by simp)]
    refine World.cell?_setCell_same _ _ _ (u := .slice none 0 0) ?_
    rw [World.cell?_setCell_other _ _ _ _ (by simp)]
    exact hh.r2

end Go.Proofs.YtladfpljnaippabDoor

/-
  The model's negatives.
-/
namespace Go.Proofs.YtladfpljnaippabDoor
open Go.RowKit

set_option maxHeartbeats 1000000 in
theorem neg_any (g : Bool) (a : Option Addr) (c : Nat) (ds : List Int) (x : Int) (w : World) (hn : ds.length ≤ 1048576) (h : L1 w g a c ds x) :
    Calls Tryd.prog 94 #[.agg #[.bool g, .slice a ds.length c]] w fun e w' => ∃ g' ds', e = .returned (.agg #[.bool g', .slice a ds'.length c]) ∧ ds'.length ≤ ds.length ∧ L1 w' g' a c ds' (-x) ∧ Below w.heap.size w w' := by
  have hx : sg (!g) (val 65536 ds) = -x := by rw [sg_not, h.num]
  have HX : Hid (sg (!g) (val 65536 ds) = -x) := hx
  clear hx
  go_enter Tryd.func94, Tryd.ntmps94
  go_wp2_with fail
  refine (make_any (!g) a c ds _ hn h.cap (h.sl.later (bel2 _ _ _)) h.can.1).mono ?_
  rintro e w1 ⟨g', ds', rfl, hle, hL, hb1⟩
  have hb2 := hb1
  simp at hb2
  have r1 : w1.cell? ⟨w.heap.size + 1, 0, none⟩ = some (.bool false) := by rw [(bcell hb1).1 _ _ (by simp)]; simp [go_sem]
  have r2 : w1.cell? ⟨w.heap.size + 1, 1, none⟩ = some (.slice none 0 0) := by rw [(bcell hb1).1 _ _ (by simp)]; simp [go_sem]
  have r3 : ∀ j, w1.frozen? ⟨w.heap.size + 1, j, none⟩ = false := by intro j; rw [(bcell hb1).2 _ _ (by simp)]; simp [go_sem]
  have HB : Hid (Below w.heap.size w w1) := (bel2 _ _ _).trans (hb1.mono (by simp; omega))
  rw [HX.out] at hL
  have HL : Hid (L1 w1 g' a c ds' (-x)) := hL
  clear hL hb1 hb2
  go_wp2
  refine bodyPost_ret (v := .agg #[.bool g', .slice a ds'.length c]) (by simp [results, Tryd.results94, go_sem, r1, r2]) rfl ⟨g', ds', rfl, hle, ?_, ?_⟩
  · exact (HL.out.setNew h.sl.row hle (by simp) _).setNew h.sl.row hle (by simp) _
  · exact (HB.out.setCell (by simp) _).setCell (by simp) _

end Go.Proofs.YtladfpljnaippabDoor

/-
  The model's differences.
-/
namespace Go.Proofs.YtladfpljnaippabDoor
open Go.RowKit

end Go.Proofs.YtladfpljnaippabDoor

/-
  The model's signs.
-/
namespace Go.Proofs.YtladfpljnaippabDoor
open Go.RowKit

theorem L1.sgn {w : World} {g : Bool} {a : Option Addr} {c : Nat} {ds : List Int} {x : Int} (h : L1 w g a c ds x) : (ds.length = 0 → x = 0) ∧ (ds.length ≠ 0 → g = true → x < 0) ∧ (ds.length ≠ 0 → g = false → 0 < x) := by
  refine ⟨fun h0 => ?_, fun h0 hg => ?_, fun h0 hg => ?_⟩
  · have : ds = [] := List.length_eq_zero_iff.1 h0
    rw [h.num, this]
    cases g <;> simp [sg, val]
  · have := val_pos (B := 65536) (by decide) h.can (fun e => h0 (by simp [e]))
    rw [h.num, hg]
    simp [sg]
    omega
  · have := val_pos (B := 65536) (by decide) h.can (fun e => h0 (by simp [e]))
    rw [h.num, hg]
    simpa [sg] using this

end Go.Proofs.YtladfpljnaippabDoor

/-
  The model's dyadic numbers: negatives.
-/
namespace Go.Proofs.YtladfpljnaippabDoor
open Go.RowKit

set_option maxHeartbeats 4000000 in
theorem neg2_any (g : Bool) (a : Option Addr) (c : Nat) (ds : List Int) (m E : Int) (w : World) (hn : ds.length ≤ 1048576) (h : L1 w g a c ds m) :
    Calls Tryd.prog 57 #[.agg #[.bool g, .slice a ds.length c, .int .i64 E]] w fun e w' => ∃ g' ds', e = .returned (.agg #[.bool g', .slice a ds'.length c, .int .i64 E]) ∧ ds'.length ≤ ds.length ∧ L1 w' g' a c ds' (-m) ∧ Below w.heap.size w w' := by
  have B0 : Hid (∀ t t', Bx3 w (.bool g) (.slice a ds.length c) (.int .i64 E) ((w.alloc (.cells #[.bool g, .slice a ds.length c, .int .i64 E] t)).alloc (.cells #[.bool false, .slice none 0 0, .int .i64 0] t'))) := fun t t' => Bx3.start w _ _ _ _ _
  go_enter Tryd.func57, Tryd.ntmps57
  go_wp2
  obtain ⟨W0, hW0⟩ : ∃ W0, W0 = ((w.alloc (.cells #[.bool g, .slice a ds.length c, .int .i64 E] 66)).alloc (.cells #[.bool false, .slice none 0 0, .int .i64 0] 66)) := ⟨_, rfl⟩
  have F : Hid (Bx3 w (.bool g) (.slice a ds.length c) (.int .i64 E) W0) := by unfold Hid; rw [hW0]; exact B0.out _ _
  rw [← hW0]
  clear hW0 B0
  have zz : w.heap.size + 1 < W0.heap.size := F.out.le
  go_region_held3 (fun w' => w'.cell? ⟨w.heap.size, 0, none⟩ = some (.bool g) ∧ w'.cell? ⟨w.heap.size, 1, none⟩ = some (.slice a ds.length c) ∧ w'.cell? ⟨w.heap.size, 2, none⟩ = some (.int .i64 E) ∧ Below (w.heap.size + 1) W0 w')
    (first | exact F.out.held (Below.refl _ _).drew | exact F.out.held (by assumption) | exact F.out.held (Below.setCell (Below.setCell (Below.setCell (by assumption) (by simp) _) (by simp) _) (by simp) _))
    (first
      | (go_at_call 94; refine (neg_any g a c ds m _ hn (h.later F.out.bel.drew)).mono ?_; rintro e w2 ⟨g2, ds2, rfl, hl2, hL2, hb2⟩; have hB2 : Below W0.heap.size W0 w2 := (Below.refl _ _).drew.trans hb2; have hB2' : Below (w.heap.size + 1) W0 w2 := hB2.mono (by omega); have F2 : Hid (Bx3 w (.bool g) (.slice a ds.length c) (.int .i64 E) w2) := F.out.later hB2; have r1 := F2.out.r1; have r2 := F2.out.r2; have r3 := F2.out.r3; have r4 := F2.out.r4))
  have HL2 : Hid (L1 w2 g2 a c ds2 (-m)) := hL2
  clear hL2 hB2 hB2' hb2
  go_wp2
  refine bodyPost_ret (v := .agg #[.bool g2, .slice a ds2.length c, .int .i64 E]) (by simp [results, Tryd.results57, go_sem, r1, r2, r3]) rfl ?_
  refine ⟨g2, ds2, rfl, by omega, ?_, ?_⟩
  · exact ((HL2.out.setNew h.sl.row hl2 (by simp) _).setNew h.sl.row hl2 (by simp) _).setNew h.sl.row hl2 (by simp) _
  · exact ((F2.out.bel.setCell (by simp) _).setCell (by simp) _).setCell (by simp) _

end Go.Proofs.YtladfpljnaippabDoor

/-
  The model's dyadic numbers in boxes; what their order leans on.
-/
namespace Go.Proofs.YtladfpljnaippabDoor

end Go.Proofs.YtladfpljnaippabDoor

/-
  The model's DyCmp.
-/
namespace Go.Proofs.YtladfpljnaippabDoor
open Go.RowKit

/-- What DyCmp answers. -/
def cmpD (g g' : Bool) (zs ys : List Int) (E E' : Int) : Int := if validD g zs E = true ∧ validD g' ys E' = true then sgn (atK 20000 (sg g (val 4294967296 zs)) E - atK 20000 (sg g' (val 4294967296 ys)) E') else 0
def codeD (g g' : Bool) (zs ys : List Int) (E E' : Int) : Int := if validD g zs E = true ∧ validD g' ys E' = true then 0 else 1

theorem cmpD_sgn {x y E E' m1 e1 m2 e2 : Int} {T T' : Nat} (h1 : NormOf x E m1 e1 T) (h2 : NormOf y E' m2 e2 T') (hE : -20000 ≤ E) (hE' : -20000 ≤ E') : sgn (sumAt m1 e1 (-m2) e2) = sgn (atK 20000 x E - atK 20000 y E') := by
  have b1 := h1.bound
  have b2 := h2.bound
  rw [sgn_sumAt (K := 20000) (by omega) (by omega), atK_neg, h1.at (by omega), h2.at (by omega), Int.sub_eq_add_neg]

end Go.Proofs.YtladfpljnaippabDoor

/-
  Plain mathematics: floats to numbers and back; which float is nearer.
-/
namespace Go.Proofs.YtladfpljnaippabDoor

theorem flR_same {N M e e' : Int} (hN : N % 2 = 1) (hN0 : 0 < N) (he : 0 ≤ e + 100000) (he' : 0 ≤ e' + 100000) (h : N * 2 ^ (e + 100000).toNat = M * 2 ^ (e' + 100000).toNat) : flR N e = flR M e' := by
  have hle : e' ≤ e := by
    apply Classical.byContradiction
    intro hn
    obtain ⟨t, ht⟩ : ∃ t : Nat, (e' + 100000).toNat = (e + 100000).toNat + (t + 1) := ⟨(e' - e - 1).toNat, by omega⟩
    rw [ht, Int.pow_add, Int.mul_comm (2 ^ (e + 100000).toNat), ← Int.mul_assoc] at h
    have h5 := Int.eq_of_mul_eq_mul_right (Int.ne_of_gt (Int.pow_pos (by decide))) h
    rw [Int.pow_succ, ← Int.mul_assoc] at h5
    omega
  obtain ⟨t, ht⟩ : ∃ t : Nat, e = e' + t := ⟨(e - e').toNat, by omega⟩
  have hM : N * 2 ^ t = M := by
    rw [show (e + 100000).toNat = t + (e' + 100000).toNat by omega, Int.pow_add, ← Int.mul_assoc] at h
    exact Int.eq_of_mul_eq_mul_right (Int.ne_of_gt (Int.pow_pos (by decide))) h
  rw [← hM, flR_pow hN0, ht]

theorem sg_neg_iff {G : Bool} {N x : Int} (hN : 0 < N) (h : sg G N = x) : (G = true ↔ x < 0) ∧ N = (x.natAbs : Int) := by
  unfold sg at h
  cases G
  · simp at h
    subst h
    constructor
    · simp
      omega
    · omega
  · simp at h
    subst h
    constructor
    · simp
      omega
    · omega

/-- A float's number, rounded, is its bits, but the positive zero for both. -/
theorem round_trip {b : Int} {G : Bool} {Z : List Int} {E : Int} (h0 : 0 ≤ b) (h1 : b < 4294967296) (hf : fFin b = true) (h : ResD true (vF b) G Z E 0) : flB true G (val 4294967296 Z) E = (if b = 2147483648 then 0 else b) ∧ flC true (val 4294967296 Z) E = 0 := by
  have hx := fExp_pos h0
  have hU := h.len.2
  rcases h with ⟨h, _⟩ | ⟨_, m, e, hN, hc⟩
  · cases h
  · rcases hc with ⟨_, hB, hE, _⟩ | ⟨_, _, _, _, h⟩
    · subst hE
      have hsg := hB.sg
      have hv0 : 0 ≤ val 4294967296 Z := val_nonneg (by decide) hU
      by_cases hm : fMag b = 0
      · have hv : vF b = 0 := by
          unfold vF fNum atK
          rw [hm]
          split <;> simp
        rcases hN with ⟨_, n2, _⟩ | ⟨n0, _⟩
        · have hz : val 4294967296 Z = 0 := by
            rw [n2] at hsg
            unfold sg at hsg
            split at hsg <;> omega
          have hbz : b = 0 ∨ b = 2147483648 := by
            unfold fMag at hm
            unfold fFin at hf
            split at hm <;> omega
          rw [hz]
          unfold flB flC
          rcases hbz with rfl | rfl
          · simp
          · simp
        · exact absurd hv n0
      · have hfm := fMag_nn h0
        have hv : vF b ≠ 0 := by
          unfold vF fNum atK
          have hp : (0 : Int) < 2 ^ (fExp b - 150 + 100000).toNat := Int.pow_pos (by decide)
          have := Int.mul_pos (show 0 < fMag b by omega) hp
          split
          · rw [Int.neg_mul]; omega
          · omega
        rcases hN with ⟨n0, _⟩ | ⟨_, n1, n2, n3⟩
        · exact absurd n0 hv
        · have hm0 : m ≠ 0 := by omega
          have hNp : 0 < val 4294967296 Z := by
            apply Classical.byContradiction
            intro hn
            have : val 4294967296 Z = 0 := by omega
            rw [this] at hsg
            unfold sg at hsg
            split at hsg <;> omega
          obtain ⟨hG, hNa⟩ := sg_neg_iff hNp hsg
          have hpe : (0 : Int) < 2 ^ (E + 100000).toNat := Int.pow_pos (by decide)
          have hpf : (0 : Int) < 2 ^ (fExp b - 150 + 100000).toNat := Int.pow_pos (by decide)
          have hvF : vF b = fNum b * 2 ^ (fExp b - 150 + 100000).toNat := rfl
          have habs : val 4294967296 Z * 2 ^ (E + 100000).toNat = fMag b * 2 ^ (fExp b - 150 + 100000).toNat ∧ (m < 0 ↔ 2147483648 ≤ b) := by
            rw [n3] at hvF
            unfold fNum at hvF
            by_cases hs : 2147483648 ≤ b
            · rw [if_pos hs, Int.neg_mul] at hvF
              have hpos := Int.mul_pos (show 0 < fMag b by omega) hpf
              have hneg : m < 0 := by
                apply Classical.byContradiction
                intro hn
                have := Int.mul_nonneg (show 0 ≤ m by omega) (Int.le_of_lt hpe)
                omega
              refine ⟨?_, by simp [hneg, hs]⟩
              rw [hNa, show (m.natAbs : Int) = -m by omega, Int.neg_mul, hvF, Int.neg_neg]
            · rw [if_neg hs] at hvF
              have hpos := Int.mul_pos (show 0 < fMag b by omega) hpf
              have hnn : 0 < m := by
                apply Classical.byContradiction
                intro hn
                have := Int.mul_nonneg (show 0 ≤ -m by omega) (Int.le_of_lt hpe)
                rw [Int.neg_mul] at this
                omega
              refine ⟨?_, by omega⟩
              rw [hNa, show (m.natAbs : Int) = m by omega, hvF]
          have hodd : val 4294967296 Z % 2 = 1 := by omega
          have hR : flR (val 4294967296 Z) E = b % 2147483648 := by
            rw [flR_same hodd hNp n2 (by omega) habs.1, flR_self hm]
          have hfin : b % 2147483648 < 2139095040 := by
            unfold fFin at hf
            simp at hf
            omega
          have hb8 : b ≠ 2147483648 := by
            intro hb
            subst hb
            exact hm (by decide)
          unfold flB flC
          rw [hR]
          constructor
          · rw [if_pos ⟨rfl, by omega, hfin⟩, if_neg hb8]
            by_cases hs : 2147483648 ≤ b
            · rw [if_pos (hG.2 (habs.2.2 hs))]
              omega
            · rw [if_neg (fun h => hs (habs.2.1 (hG.1 h)))]
              omega
          · rw [if_pos rfl, if_neg (by omega)]
    · cases h

/-- The float beside f, below it or behind zero. -/
def nbD (f : Int) : Int := if f % 2147483648 = 0 then (if f = 0 then 2147483649 else 2147483649 - f) else f - 1

theorem flB_near {g : Bool} {N E : Int} (hN : 0 ≤ N) (hE : 0 ≤ E + 100000) (hc : flC true N E = 0) :
    0 ≤ flB true g N E ∧ flB true g N E < 4286578688 ∧ fFin (flB true g N E) = true ∧ Nearest (atK 100000 (sg g N) E) (flB true g N E) (nbD (flB true g N E)) ∧ Nearest (atK 100000 (sg g N) E) (flB true g N E) (flB true g N E + 1) := by
  by_cases h0 : N = 0
  · have hf : flB true g N E = 0 := by unfold flB; rw [if_neg (by simp [h0])]
    have hv : atK 100000 (sg g N) E = 0 := by
      rw [h0]
      unfold atK sg
      cases g <;> simp
    have hz : vF 0 = 0 := by decide +kernel
    rw [hf, hv]
    unfold Nearest
    rw [hz]
    exact ⟨by decide, by decide, by decide, ⟨by simp, fun _ => by decide⟩, ⟨by simp, fun _ => by decide⟩⟩
  · have hNp : 0 < N := by omega
    obtain ⟨X, hX⟩ : ∃ X, flR N E = X := ⟨_, rfl⟩
    have hXi : X < 2139095040 := by
      unfold flC at hc
      rw [if_pos rfl, hX] at hc
      apply Classical.byContradiction
      intro hn
      rw [if_pos ⟨h0, by omega⟩] at hc
      cases hc
    have hX0 : 0 ≤ X := by
      obtain ⟨n, h1, h2⟩ : ∃ n : Nat, 2 ^ n ≤ N ∧ N < 2 ^ (n + 1) := by
        obtain ⟨m, rfl⟩ := Int.eq_ofNat_of_zero_le hN
        have hm : m ≠ 0 := by omega
        exact ⟨m.log2, by exact_mod_cast Nat.log2_self_le hm, by exact_mod_cast Nat.lt_log2_self⟩
      have := (rnd_plc (E := E) h1 h2).1
      have := plc_ge N E
      rw [← hX]
      unfold flR
      omega
    have hf : flB true g N E = X + (if g = true then 2147483648 else 0) := by
      unfold flB
      rw [hX, if_pos ⟨rfl, h0, hXi⟩]
    have hup := nst_up g hNp hE hX hX0 hXi
    rw [hf]
    refine ⟨by split <;> omega, by split <;> omega, ?_, ?_, hup⟩
    · unfold fFin
      simp
      split <;> omega
    · unfold nbD
      by_cases hx : X = 0
      · have hz := nst_zero (N := N) (E := E) g hNp
        subst hx
        cases g
        · simpa using hz
        · simpa using hz
      · have hd := nst_down g hNp hE hX (by omega) hXi
        have hne : ¬ (X + (if g = true then 2147483648 else 0)) % 2147483648 = 0 := by split <;> omega
        rw [if_neg hne]
        exact hd

theorem sgn_scale {x y E E' : Int} (h : -20000 ≤ E) (h' : -20000 ≤ E') : sgn (atK 20000 x E - atK 20000 y E') = sgn (atK 100000 x E - atK 100000 y E') := by
  obtain ⟨p, hp⟩ : ∃ p : Nat, p = 80000 := ⟨_, rfl⟩
  have e1 : atK 100000 x E = atK 20000 x E * 2 ^ p := by
    unfold atK
    rw [show (E + 100000).toNat = (E + 20000).toNat + p by omega, Int.pow_add, Int.mul_assoc]
  have e2 : atK 100000 y E' = atK 20000 y E' * 2 ^ p := by
    unfold atK
    rw [show (E' + 100000).toNat = (E' + 20000).toNat + p by omega, Int.pow_add, Int.mul_assoc]
  rw [e1, e2, ← Int.sub_mul, sgn_pos_mul (Int.pow_pos (by decide))]

/-- Two distances compared. -/
theorem cmp_near {v f b : Int} {Z Y : List Int} {E E' : Int} (h : Nearest v f b) (hz : validD false Z E = true) (hy : validD false Y E' = true) (h1 : atK 100000 (val 4294967296 Z) E = ((v - vF f).natAbs : Int)) (h2 : atK 100000 (val 4294967296 Y) E' = ((v - vF b).natAbs : Int)) :
    cmpD false false Z Y E E' ≤ 0 ∧ (cmpD false false Z Y E E' = 0 → f % 2 = 0) ∧ codeD false false Z Y E E' = 0 := by
  obtain ⟨_, z1, _⟩ := validD_parts hz
  obtain ⟨_, y1, _⟩ := validD_parts hy
  obtain ⟨n1, n2⟩ := h
  have e : cmpD false false Z Y E E' = sgn ((v - vF f).natAbs - (v - vF b).natAbs : Int) := by
    unfold cmpD
    rw [if_pos ⟨hz, hy⟩]
    have s1 : ∀ x : Int, sg false x = x := fun _ => rfl
    rw [s1, s1, sgn_scale z1 y1, h1, h2]
  have hc : codeD false false Z Y E E' = 0 := by unfold codeD; rw [if_pos ⟨hz, hy⟩]
  rw [e]
  generalize (v - vF f).natAbs = p at *
  generalize (v - vF b).natAbs = q at *
  rcases sgn_cases ((p : Int) - q) with ⟨c1, c2⟩ | ⟨c1, c2⟩ | ⟨c1, c2⟩
  · rw [c2]; exact ⟨by decide, (fun h => by cases h), hc⟩
  · rw [c2]; exact ⟨by decide, (fun _ => n2 (by omega)), hc⟩
  · omega

end Go.Proofs.YtladfpljnaippabDoor

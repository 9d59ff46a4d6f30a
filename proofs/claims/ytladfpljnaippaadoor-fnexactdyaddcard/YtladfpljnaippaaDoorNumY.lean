/-
  Which numbers fit into 512 limbs, and what the program then answers.
-/
import Derived.Test.YtladfpljnaippaaDoorNumW
namespace Go.Proofs.YtladfpljnaippaaDoor

/-- The number has at most 512 limbs. -/
def Fits (x : Int) : Prop := -(4294967296 ^ 512 : Int) < x ∧ x < (4294967296 ^ 512 : Int)

theorem pow_mono {B : Int} (hB : 1 ≤ B) {a b : Nat} (h : a ≤ b) : B ^ a ≤ B ^ b := by
  obtain ⟨d, rfl⟩ := Nat.le.dest h
  have h1 : 0 < B ^ a := Int.pow_pos (by omega)
  have h2 : 0 < B ^ d := Int.pow_pos (by omega)
  have h3 : B ^ a * 1 ≤ B ^ a * B ^ d := Int.mul_le_mul_of_nonneg_left (by omega) (by omega)
  rw [Int.pow_add]
  omega

theorem canon_ge {B : Int} (hB : 0 < B) {zs : List Int} (h : Canon B zs) (hne : zs.length ≠ 0) : B ^ (zs.length - 1) ≤ val B zs := by
  have hz : zs ≠ [] := fun e => hne (by simp [e])
  have e := List.dropLast_concat_getLast hz
  have hl := last_of_canon h.2 hne
  have hg : zs.getLast hz = zs.getD (zs.length - 1) 0 := by
    rw [List.getLast_eq_getElem]
    simp [List.getD_eq_getElem?_getD, show zs.length - 1 < zs.length by omega]
  have hd := h.1.at hB (zs.length - 1)
  have hv : val B zs = val B zs.dropLast + B ^ zs.dropLast.length * val B [zs.getLast hz] := by
    have h2 := val_append B [zs.getLast hz] zs.dropLast
    rw [e] at h2
    exact h2
  have hnn : 0 ≤ val B zs.dropLast := val_nonneg hB (by rw [List.dropLast_eq_take]; exact h.1.take _)
  have hp : 0 < B ^ zs.dropLast.length := Int.pow_pos hB
  have h1 : B ^ zs.dropLast.length * 1 ≤ B ^ zs.dropLast.length * zs.getLast hz := Int.mul_le_mul_of_nonneg_left (by rw [hg]; omega) (by omega)
  rw [hv]
  simp only [val, Int.mul_zero, Int.add_zero]
  rw [List.length_dropLast] at h1 ⊢
  omega

theorem len_of_lt {B : Int} (hB : 1 < B) {zs : List Int} (h : Canon B zs) {k : Nat} (hv : val B zs < B ^ k) : zs.length ≤ k := by
  by_cases h0 : zs.length = 0
  · omega
  · by_cases hk : zs.length ≤ k
    · exact hk
    · have h1 := canon_ge (by omega) h h0
      have h2 : B ^ k ≤ B ^ (zs.length - 1) := pow_mono (by omega) (by omega)
      omega

theorem B1.len {g : Bool} {zs : List Int} {x : Int} (h : B1 g zs x) (hx : Fits x) : zs.length ≤ 512 := by
  have h0 := val_nonneg (B := 4294967296) (by decide) h.can.1
  refine len_of_lt (B := 4294967296) (by decide) h.can ?_
  have hn := h.num
  obtain ⟨h1, h2⟩ := hx
  cases g
  · simp only [sg] at hn
    have hn : x = val 4294967296 zs := hn
    omega
  · simp only [sg, if_true] at hn
    omega

theorem B1.fits {g : Bool} {zs : List Int} {x : Int} (h : B1 g zs x) (hl : zs.length ≤ 512) : Fits x := by
  have h0 := val_nonneg (B := 4294967296) (by decide) h.can.1
  have h1 := val_lt_pow (B := 4294967296) (by decide) h.can.1
  have h2 : (4294967296 : Int) ^ zs.length ≤ 4294967296 ^ 512 := pow_mono (by decide) hl
  have hn := h.num
  unfold Fits
  cases g
  · have hn : x = val 4294967296 zs := hn
    omega
  · simp only [sg, if_true] at hn
    omega

/-- What fits is answered. -/
theorem Res.ok {x : Int} {G : Bool} {Z : List Int} {K : Int} (h : Res true x G Z K) (hx : Fits x) : K = 0 ∧ B1 G Z x ∧ Z.length ≤ 512 := by
  rcases h with ⟨h0, _⟩ | ⟨_, g, Z0, hb, ⟨c1, c2, c3, c4⟩ | ⟨c1, _⟩⟩
  · cases h0
  · subst c2 c3
    exact ⟨c4, hb, c1⟩
  · have := hb.len hx
    omega

/-- What is answered fits. -/
theorem Res.of_ok {x : Int} {G : Bool} {Z : List Int} {K : Int} (h : Res true x G Z K) (hK : K = 0) : B1 G Z x ∧ Z.length ≤ 512 ∧ Fits x := by
  rcases h with ⟨h0, _⟩ | ⟨_, g, Z0, hb, ⟨c1, c2, c3, c4⟩ | ⟨c1, _, _, c4⟩⟩
  · cases h0
  · subst c2 c3
    exact ⟨hb, c1, hb.fits c1⟩
  · omega

theorem B1.valid {g : Bool} {zs : List Int} {x : Int} (h : B1 g zs x) (hl : zs.length ≤ 512) : validB g zs = true := by
  unfold validB
  by_cases h0 : zs.length = 0
  · rw [if_pos h0]
    cases g
    · rfl
    · exact absurd (List.length_eq_zero_iff.1 h0) (h.zero rfl)
  · rw [if_neg h0]
    have := last_of_canon h.can.2 h0
    simp only [Bool.and_eq_true, decide_eq_true_eq, bne_iff_ne, ne_eq]
    exact ⟨hl, this⟩

theorem B1.sg {g : Bool} {zs : List Int} {x : Int} (h : B1 g zs x) : Go.Proofs.YtladfpljnaippaaDoor.sg g (val 4294967296 zs) = x := h.num.symm

theorem B1.pos {g : Bool} {zs : List Int} {x : Int} (h : B1 g zs x) (hx : 0 ≤ x) : g = false := by
  cases g
  · rfl
  · have := val_pos (B := 4294967296) (by decide) h.can (h.zero rfl)
    have hn := h.num
    simp only [Go.Proofs.YtladfpljnaippaaDoor.sg, if_true] at hn
    omega

theorem B1.u32 {g : Bool} {zs : List Int} {x : Int} (h : B1 g zs x) : U32 zs := h.can.1

/-! ### Shifts by a few bits -/
theorem shN_back {x n : Int} (h0 : 0 ≤ n) (h1 : n ≤ 16384) : shN x (-n) = x / 2 ^ n.toNat := by
  by_cases h : n = 0
  · subst h
    unfold shN
    rw [if_pos (by omega), show (min (-0) 16384 : Int).toNat = 0 by decide]
    simp
  · rw [shN_down (by omega), show min (- -n) 16384 = n by omega]

theorem two_fits {n : Int} (h1 : n ≤ 200) : 0 < (2 : Int) ^ n.toNat ∧ Fits (2 ^ n.toNat) := by
  have h0 : (0 : Int) < 2 ^ n.toNat := Int.pow_pos (by decide)
  have h2 : (2 : Int) ^ n.toNat ≤ 2 ^ 200 := two_pow_le (by omega)
  have h3 : (4294967296 : Int) ^ 7 ≤ 4294967296 ^ 512 := pow_mono (by decide) (by decide)
  have h4 : (2 : Int) ^ 200 < 4294967296 ^ 7 := by decide
  exact ⟨h0, by unfold Fits; omega⟩

theorem div_fits {x q : Int} (hq : 0 < q) (hx : Fits x) : Fits (x / q) := by
  obtain ⟨h1, h2⟩ := hx
  unfold Fits
  by_cases h : 0 ≤ x
  · have h3 : 0 ≤ x / q := Int.ediv_nonneg h (by omega)
    have h4 : x / q ≤ x := Int.ediv_le_self _ h
    omega
  · have h3 : x ≤ x / q := (Int.le_ediv_iff_mul_le hq).2 (by
      have : x * q ≤ x * 1 := Int.mul_le_mul_of_nonpos_left (by omega) (by omega)
      omega)
    have h4 : x / q < 0 := Int.ediv_neg_of_neg_of_pos (by omega) hq
    have h5 : (0 : Int) < 4294967296 ^ 512 := Int.pow_pos (by decide)
    omega

theorem low_fits {x q : Int} (hq : 0 < q) (hx : Fits x) (hxq : Fits (x * q)) : Fits (x / q * q) := by
  obtain ⟨h1, h2⟩ := hx
  obtain ⟨h3, h4⟩ := hxq
  have h5 := Int.mul_ediv_add_emod x q
  have h6 := Int.emod_nonneg x (show q ≠ 0 by omega)
  rw [Int.mul_comm] at h5
  unfold Fits
  by_cases h : 0 ≤ x
  · have h7 : 0 ≤ x / q := Int.ediv_nonneg h (by omega)
    have h8 := Int.mul_nonneg h7 (Int.le_of_lt hq)
    omega
  · have h7 : x ≤ x / q := (Int.le_ediv_iff_mul_le hq).2 (by
      have : x * q ≤ x * 1 := Int.mul_le_mul_of_nonpos_left (by omega) (by omega)
      omega)
    have h8 : x * q ≤ x / q * q := Int.mul_le_mul_of_nonneg_right h7 (by omega)
    omega

theorem rest_of {x q : Int} (hq : 0 < q) : x - x / q * q = x % q ∧ 0 ≤ x % q ∧ x % q < q := by
  have h5 := Int.mul_ediv_add_emod x q
  rw [Int.mul_comm] at h5
  exact ⟨by omega, Int.emod_nonneg x (by omega), Int.emod_lt_of_pos x hq⟩

end Go.Proofs.YtladfpljnaippaaDoor

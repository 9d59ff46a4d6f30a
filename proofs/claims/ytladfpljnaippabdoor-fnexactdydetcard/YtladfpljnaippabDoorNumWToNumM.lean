/-
  What a shift is: up, a product; down, a quotient that is rounded down. Beyond 16384 bits nothing changes.
-/
import Derived.Test.YtladfpljnaippabDoorRes
import Derived.Test.YtladfpljnaippabDoorNumS
import Derived.Test.YtladfpljnaippabDoorNumD
import Derived.Test.YtladfpljnaippabDoorDy1
import Derived.Test.YtladfpljnaippabDoorSpecF
import Derived.Test.YtladfpljnaippabDoorSpecH
import Derived.Test.YtladfpljnaippabDoorDy1h
import Derived.Test.YtladfpljnaippabDoorNum
namespace Go.Proofs.YtladfpljnaippabDoor

def shN (x n : Int) : Int := if 0 ≤ n then x * 2 ^ (min n 16384).toNat else x / 2 ^ (min (-n) 16384).toNat

theorem shN_up {x n : Int} (h0 : 0 ≤ n) (h1 : n ≤ 16384) : shN x n = x * 2 ^ n.toNat := by
  unfold shN
  rw [if_pos h0, show min n 16384 = n by omega]

theorem shN_zero (n : Int) : shN 0 n = 0 := by
  unfold shN
  split <;> simp

theorem shN_down {x n : Int} (h0 : n < 0) : shN x n = x / 2 ^ (min (-n) 16384).toNat := by
  unfold shN
  rw [if_neg (by omega)]

/-- A negative number shifted down. -/
theorem neg_div (v : Int) (q : Int) (hq : 0 < q) : (-v) / q = if v % q = 0 then -(v / q) else -(v / q) - 1 := by
  have h := Int.mul_ediv_add_emod v q
  have h0 := Int.emod_nonneg v (show q ≠ 0 by omega)
  have h1 := Int.emod_lt_of_pos v hq
  split
  · rename_i h2
    rw [h2, Int.add_zero] at h
    rw [← h, ← Int.mul_neg, Int.mul_ediv_cancel_left _ (by omega), Int.mul_ediv_cancel_left _ (by omega)]
  · rename_i h2
    have e : -v = q * (-(v / q) - 1) + (q - v % q) := by
      rw [Int.mul_sub, Int.mul_neg, Int.mul_one]
      omega
    rw [e, Int.add_comm, Int.add_mul_ediv_left _ _ (by omega), Int.ediv_eq_zero_of_lt (by omega) (by omega)]
    omega

/-- What is too far up has too many limbs. -/
theorem res_far {g : Bool} {zs : List Int} {x n : Int} (h : B1 g zs x) (hne : zs ≠ []) (hn : 16384 < n) : Res true (shN x n) false [] 2 := by
  refine .inr ⟨rfl, g, List.replicate 512 0 ++ zs, ⟨canon_up (by decide) h.can hne 512, ?_, fun _ e => hne (List.append_eq_nil_iff.1 e).2⟩, .inr ⟨?_, rfl, rfl, rfl⟩⟩
  · unfold shN
    rw [if_pos (by omega), show (min n 16384).toNat = 32 * 512 by omega, Int.pow_mul, val_up, h.num, show (2 : Int) ^ 32 = 4294967296 from rfl]
    cases g
    · simp only [sg]; exact Int.mul_comm _ _
    · simp only [sg, if_true]; rw [Int.neg_mul, Int.mul_comm]
  · have hl : zs.length ≠ 0 := fun e => hne (List.length_eq_zero_iff.1 e)
    rw [List.length_append, List.length_replicate]
    omega

theorem res_zero {n : Int} : Res true (shN 0 n) false [] 0 :=
  .inr ⟨rfl, false, [], ⟨⟨Dig.nil _, rfl⟩, by rw [shN_zero]; simp [sg, val], fun h => by cases h⟩, .inl ⟨by simp, rfl, rfl, rfl⟩⟩

end Go.Proofs.YtladfpljnaippabDoor

/-
  Which numbers fit into 512 limbs, and what the program then answers.
-/
namespace Go.Proofs.YtladfpljnaippabDoor

/-- The number has at most 512 limbs. -/
def Fits (x : Int) : Prop := -(4294967296 ^ 512 : Int) < x ∧ x < (4294967296 ^ 512 : Int)

theorem pow_mono {B : Int} (hB : 1 ≤ B) {a b : Nat} (h : a ≤ b) : B ^ a ≤ B ^ b := by
  obtain ⟨d, rfl⟩ := Nat.le.dest h
  have h1 : 0 < B ^ a := Int.pow_pos (by omega)
  have h2 : 0 < B ^ d := Int.pow_pos (by omega)
  have h3 : B ^ a * 1 ≤ B ^ a * B ^ d := Int.mul_le_mul_of_nonneg_left (by omega) (by omega)
  rw [Int.pow_add]
  omega

theorem canon_ge {B : Int} (hB : 0 < B) {zs : List Int} (h : Canon B zs) (hne : zs.length ≠ 0) : B ^ (zs.length - 1) ≤ val B zs := by
  have hz : zs ≠ [] := fun e => hne (by simp [e])
  have e := List.dropLast_concat_getLast hz
  have hl := last_of_canon h.2 hne
  have hg : zs.getLast hz = zs.getD (zs.length - 1) 0 := by
    rw [List.getLast_eq_getElem]
    simp [List.getD_eq_getElem?_getD, show zs.length - 1 < zs.length by omega]
  have hd := h.1.at hB (zs.length - 1)
  have hv : val B zs = val B zs.dropLast + B ^ zs.dropLast.length * val B [zs.getLast hz] := by
    have h2 := val_append B [zs.getLast hz] zs.dropLast
    rw [e] at h2
    exact h2
  have hnn : 0 ≤ val B zs.dropLast := val_nonneg hB (by rw [List.dropLast_eq_take]; exact h.1.take _)
  have hp : 0 < B ^ zs.dropLast.length := Int.pow_pos hB
  have h1 : B ^ zs.dropLast.length * 1 ≤ B ^ zs.dropLast.length * zs.getLast hz := Int.mul_le_mul_of_nonneg_left (by rw [hg]; omega) (by omega)
  rw [hv]
  simp only [val, Int.mul_zero, Int.add_zero]
  rw [List.length_dropLast] at h1 ⊢
  omega

theorem len_of_lt {B : Int} (hB : 1 < B) {zs : List Int} (h : Canon B zs) {k : Nat} (hv : val B zs < B ^ k) : zs.length ≤ k := by
  by_cases h0 : zs.length = 0
  · omega
  · by_cases hk : zs.length ≤ k
    · exact hk
    · have h1 := canon_ge (by omega) h h0
      have h2 : B ^ k ≤ B ^ (zs.length - 1) := pow_mono (by omega) (by omega)
      omega

theorem B1.len {g : Bool} {zs : List Int} {x : Int} (h : B1 g zs x) (hx : Fits x) : zs.length ≤ 512 := by
  have h0 := val_nonneg (B := 4294967296) (by decide) h.can.1
  refine len_of_lt (B := 4294967296) (by decide) h.can ?_
  have hn := h.num
  obtain ⟨h1, h2⟩ := hx
  cases g
  · simp only [sg] at hn
    have hn : x = val 4294967296 zs := hn
    omega
  · simp only [sg, if_true] at hn
    omega

theorem B1.fits {g : Bool} {zs : List Int} {x : Int} (h : B1 g zs x) (hl : zs.length ≤ 512) : Fits x := by
  have h0 := val_nonneg (B := 4294967296) (by decide) h.can.1
  have h1 := val_lt_pow (B := 4294967296) (by decide) h.can.1
  have h2 : (4294967296 : Int) ^ zs.length ≤ 4294967296 ^ 512 := pow_mono (by decide) hl
  have hn := h.num
  unfold Fits
  cases g
  · have hn : x = val 4294967296 zs := hn
    omega
  · simp only [sg, if_true] at hn
    omega

/-- What fits is answered. -/
theorem Res.ok {x : Int} {G : Bool} {Z : List Int} {K : Int} (h : Res true x G Z K) (hx : Fits x) : K = 0 ∧ B1 G Z x ∧ Z.length ≤ 512 := by
  rcases h with ⟨h0, _⟩ | ⟨_, g, Z0, hb, ⟨c1, c2, c3, c4⟩ | ⟨c1, _⟩⟩
  · cases h0
  · subst c2 c3
    exact ⟨c4, hb, c1⟩
  · have := hb.len hx
    omega

/-- What is answered fits. -/
theorem Res.of_ok {x : Int} {G : Bool} {Z : List Int} {K : Int} (h : Res true x G Z K) (hK : K = 0) : B1 G Z x ∧ Z.length ≤ 512 ∧ Fits x := by
  rcases h with ⟨h0, _⟩ | ⟨_, g, Z0, hb, ⟨c1, c2, c3, c4⟩ | ⟨c1, _, _, c4⟩⟩
  · cases h0
  · subst c2 c3
    exact ⟨hb, c1, hb.fits c1⟩
  · omega

theorem B1.valid {g : Bool} {zs : List Int} {x : Int} (h : B1 g zs x) (hl : zs.length ≤ 512) : validB g zs = true := by
  unfold validB
  by_cases h0 : zs.length = 0
  · rw [if_pos h0]
    cases g
    · rfl
    · exact absurd (List.length_eq_zero_iff.1 h0) (h.zero rfl)
  · rw [if_neg h0]
    have := last_of_canon h.can.2 h0
    simp only [Bool.and_eq_true, decide_eq_true_eq, bne_iff_ne, ne_eq]
    exact ⟨hl, this⟩

theorem B1.sg {g : Bool} {zs : List Int} {x : Int} (h : B1 g zs x) : Go.Proofs.YtladfpljnaippabDoor.sg g (val 4294967296 zs) = x := h.num.symm

theorem B1.pos {g : Bool} {zs : List Int} {x : Int} (h : B1 g zs x) (hx : 0 ≤ x) : g = false := by
  cases g
  · rfl
  · have := val_pos (B := 4294967296) (by decide) h.can (h.zero rfl)
    have hn := h.num
    simp only [Go.Proofs.YtladfpljnaippabDoor.sg, if_true] at hn
    omega

theorem B1.u32 {g : Bool} {zs : List Int} {x : Int} (h : B1 g zs x) : U32 zs := h.can.1

/-! ### Shifts by a few bits -/
theorem shN_back {x n : Int} (h0 : 0 ≤ n) (h1 : n ≤ 16384) : shN x (-n) = x / 2 ^ n.toNat := by
  by_cases h : n = 0
  · subst h
    unfold shN
    rw [if_pos (by omega), show (min (-0) 16384 : Int).toNat = 0 by decide]
    simp
  · rw [shN_down (by omega), show min (- -n) 16384 = n by omega]

theorem two_fits {n : Int} (h1 : n ≤ 200) : 0 < (2 : Int) ^ n.toNat ∧ Fits (2 ^ n.toNat) := by
  have h0 : (0 : Int) < 2 ^ n.toNat := Int.pow_pos (by decide)
  have h2 : (2 : Int) ^ n.toNat ≤ 2 ^ 200 := two_pow_le (by omega)
  have h3 : (4294967296 : Int) ^ 7 ≤ 4294967296 ^ 512 := pow_mono (by decide) (by decide)
  have h4 : (2 : Int) ^ 200 < 4294967296 ^ 7 := by decide
  exact ⟨h0, by unfold Fits; omega⟩

theorem div_fits {x q : Int} (hq : 0 < q) (hx : Fits x) : Fits (x / q) := by
  obtain ⟨h1, h2⟩ := hx
  unfold Fits
  by_cases h : 0 ≤ x
  · have h3 : 0 ≤ x / q := Int.ediv_nonneg h (by omega)
    have h4 : x / q ≤ x := Int.ediv_le_self _ h
    omega
  · have h3 : x ≤ x / q := (Int.le_ediv_iff_mul_le hq).2 (by
      have : x * q ≤ x * 1 := Int.mul_le_mul_of_nonpos_left (by omega) (by omega)
      omega)
    have h4 : x / q < 0 := Int.ediv_neg_of_neg_of_pos (by omega) hq
    have h5 : (0 : Int) < 4294967296 ^ 512 := Int.pow_pos (by decide)
    omega

theorem low_fits {x q : Int} (hq : 0 < q) (hx : Fits x) (hxq : Fits (x * q)) : Fits (x / q * q) := by
  obtain ⟨h1, h2⟩ := hx
  obtain ⟨h3, h4⟩ := hxq
  have h5 := Int.mul_ediv_add_emod x q
  have h6 := Int.emod_nonneg x (show q ≠ 0 by omega)
  rw [Int.mul_comm] at h5
  unfold Fits
  by_cases h : 0 ≤ x
  · have h7 : 0 ≤ x / q := Int.ediv_nonneg h (by omega)
    have h8 := Int.mul_nonneg h7 (Int.le_of_lt hq)
    omega
  · have h7 : x ≤ x / q := (Int.le_ediv_iff_mul_le hq).2 (by
      have : x * q ≤ x * 1 := Int.mul_le_mul_of_nonpos_left (by omega) (by omega)
      omega)
    have h8 : x * q ≤ x / q * q := Int.mul_le_mul_of_nonneg_right h7 (by omega)
    omega

theorem rest_of {x q : Int} (hq : 0 < q) : x - x / q * q = x % q ∧ 0 ≤ x % q ∧ x % q < q := by
  have h5 := Int.mul_ediv_add_emod x q
  rw [Int.mul_comm] at h5
  exact ⟨by omega, Int.emod_nonneg x (by omega), Int.emod_lt_of_pos x hq⟩

end Go.Proofs.YtladfpljnaippabDoor

/-
  How great the numbers are that the model's determinant meets.
-/
namespace Go.Proofs.YtladfpljnaippabDoor
open Go.RowKit

/-- m * 2^e: its exponent is at least -K, and it is less than 2^(B - K). -/
def Bd (K : Int) (B : Nat) (m e : Int) : Prop := 0 ≤ e + K ∧ (m = 0 → e = 0) ∧ m.natAbs * 2 ^ (e + K).toNat < 2 ^ B

theorem pow2d_pos (n : Nat) : 0 < 2 ^ n := Nat.pow_pos (by decide)

theorem Bd.top {K : Int} {B : Nat} {m e : Int} (h : Bd K B m e) (hK : K ≤ B) : e + K ≤ B := by
  obtain ⟨h1, h2, h3⟩ := h
  by_cases hm : m = 0
  · rw [h2 hm]
    omega
  · have h4 : 2 ^ (e + K).toNat < 2 ^ B := Nat.lt_of_le_of_lt (Nat.le_mul_of_pos_left _ (by omega)) h3
    have h5 := (Nat.pow_lt_pow_iff_right (by decide)).1 h4
    omega

theorem sg_abs {g : Bool} {v : Int} (hv : 0 ≤ v) : ((sg g v).natAbs : Int) = v := by
  unfold sg
  cases g <;> simp <;> omega

theorem pow32d (n : Nat) : (4294967296 : Int) ^ n = ((2 ^ (32 * n) : Nat) : Int) := by
  rw [Nat.pow_mul]
  simp

theorem Bd.len {K : Int} {B : Nat} {m e : Int} (h : Bd K B m e) {w : World} {g : Bool} {a : Option Addr} {c : Nat} {ds : List Int} (hL : L1 w g a c ds m) : ds.length ≤ B / 16 + 1 := by
  obtain ⟨_, _, h3⟩ := h
  have h4 : m.natAbs < 2 ^ B := Nat.lt_of_le_of_lt (Nat.le_mul_of_pos_right _ (pow2d_pos _)) h3
  have hv : ((m.natAbs : Nat) : Int) = val 65536 ds := by
    rw [hL.num]
    exact sg_abs (val_nonneg (by decide) hL.can.1)
  refine len_of_lt (B := 65536) (by decide) hL.can ?_
  rw [← hv]
  have h5 : (65536 : Int) ^ (B / 16 + 1) = ((2 ^ (16 * (B / 16 + 1)) : Nat) : Int) := by
    rw [Nat.pow_mul]
    simp
  rw [h5]
  have h6 : 2 ^ B ≤ 2 ^ (16 * (B / 16 + 1)) := Nat.pow_le_pow_right (by decide) (by omega)
  exact Int.ofNat_lt.2 (Nat.lt_of_lt_of_le h4 h6)

theorem Bd.neg {K : Int} {B : Nat} {m e : Int} (h : Bd K B m e) : Bd K B (-m) e :=
  ⟨h.1, fun hm => h.2.1 (by omega), by rw [Int.natAbs_neg]; exact h.2.2⟩

theorem Bd.of_norm {K : Int} {B : Nat} {x E m e : Int} {T : Nat} (hn : NormOf x E m e T) (hE : 0 ≤ E + K) (hK : 0 ≤ K) (h : x.natAbs * 2 ^ (E + K).toNat < 2 ^ B) : Bd K B m e := by
  rcases hn with ⟨h1, h2, h3⟩ | ⟨h1, t, h2, h3, h4, _⟩
  · rw [h2, h3]
    exact ⟨by omega, fun _ => rfl, by simp [pow2d_pos]⟩
  · refine ⟨by omega, (fun hm => by rw [hm] at h4; cases h4), ?_⟩
    rw [h2, Int.natAbs_mul, Int.natAbs_pow, Nat.mul_assoc] at h
    have h5 : (2 : Int).natAbs = 2 := rfl
    rw [h5, ← Nat.pow_add, show t + (E + K).toNat = (e + K).toNat by omega] at h
    exact h

theorem Bd.mul {K K' : Int} {B B' : Nat} {m m' e e' m3 e3 : Int} {T : Nat} (h : Bd K B m e) (h' : Bd K' B' m' e') (hK : 0 ≤ K + K') (hn : NormOf (m * m') (e + e') m3 e3 T) : Bd (K + K') (B + B') m3 e3 := by
  obtain ⟨h1, _, h3⟩ := h
  obtain ⟨g1, _, g3⟩ := h'
  refine Bd.of_norm hn (by omega) hK ?_
  rw [show e + e' + (K + K') = (e + K) + (e' + K') by omega, show (e + K + (e' + K')).toNat = (e + K).toNat + (e' + K').toNat by omega, Nat.pow_add, Nat.pow_add, Int.natAbs_mul]
  have h4 : m.natAbs * m'.natAbs * (2 ^ (e + K).toNat * 2 ^ (e' + K').toNat) = (m.natAbs * 2 ^ (e + K).toNat) * (m'.natAbs * 2 ^ (e' + K').toNat) := by
    simp only [Nat.mul_assoc, Nat.mul_left_comm]
  rw [h4]
  exact Nat.mul_lt_mul'' h3 g3

/-- A sum of k such numbers. -/
def Sm (B k : Nat) (m e : Int) : Prop := 0 ≤ e + 60000 ∧ e ≤ 0 ∧ m.natAbs * 2 ^ (e + 60000).toNat ≤ k * 2 ^ B

theorem Sm.add {B k : Nat} {m e m' e' : Int} (h : Sm B k m e) (h' : Bd 60000 B m' e') : Sm B (k + 1) (sumAt m e m' e') (min e e') := by
  obtain ⟨h1, h2, h3⟩ := h
  obtain ⟨g1, _, g3⟩ := h'
  refine ⟨by omega, by omega, ?_⟩
  have h4 := sumAt_at (K := 60000) (m := m) (e := e) (m' := m') (e' := e') h1 g1
  have h5 : (sumAt m e m' e' * 2 ^ (min e e' + 60000).toNat).natAbs ≤ m.natAbs * 2 ^ (e + 60000).toNat + m'.natAbs * 2 ^ (e' + 60000).toNat := by
    rw [h4]
    refine Nat.le_trans (Int.natAbs_add_le _ _) ?_
    unfold atK
    rw [Int.natAbs_mul, Int.natAbs_mul, Int.natAbs_pow, Int.natAbs_pow]
    exact Nat.le_refl _
  rw [Int.natAbs_mul, Int.natAbs_pow] at h5
  have h6 : (2 : Int).natAbs = 2 := rfl
  rw [h6] at h5
  rw [Nat.add_mul, Nat.one_mul]
  omega

theorem Sm.len {B k : Nat} {m e : Int} (h : Sm B k m e) (hk : k ≤ 6) {w : World} {g : Bool} {a : Option Addr} {c : Nat} {ds : List Int} (hL : L1 w g a c ds m) : ds.length ≤ (B + 3) / 16 + 1 := by
  obtain ⟨h1, h2, h3⟩ := h
  by_cases hm : m = 0
  · subst hm
    exact Bd.len (K := 0) (e := 0) ⟨by omega, fun _ => rfl, by simp [pow2d_pos]⟩ hL
  · refine Bd.len (K := 60000 - (e + 60000)) (e := e) ⟨by omega, fun hm' => absurd hm' hm, ?_⟩ hL
    rw [show e + (60000 - (e + 60000)) = 0 by omega]
    have h4 : m.natAbs ≤ k * 2 ^ B := Nat.le_trans (Nat.le_mul_of_pos_right _ (pow2d_pos _)) h3
    have h5 : k * 2 ^ B ≤ 6 * 2 ^ B := Nat.mul_le_mul_right _ hk
    have h6 : 2 ^ (B + 3) = 2 ^ B * 8 := by rw [Nat.pow_add]
    have h7 := pow2d_pos B
    have h8 : m.natAbs * 2 ^ Int.toNat 0 = m.natAbs := by simp
    omega

theorem lt_mul_pow {x a b q : Nat} (h5 : x < 2 ^ a) (h : q ≤ b) : x * 2 ^ q < 2 ^ (a + b) := by
  rw [Nat.pow_add]
  exact Nat.lt_of_lt_of_le (Nat.mul_lt_mul_of_pos_right h5 (pow2d_pos _)) (Nat.mul_le_mul_left _ (Nat.pow_le_pow_right (by decide) h))

/-- A valid number. -/
theorem Bd.of_valid2 {p q : Nat} (hp : p = 16384) (hq : q = 40000) {g : Bool} {zs : List Int} {E m e : Int} {T : Nat} (hd : Dig 4294967296 zs) (hn : zs.length ≤ 512) (hE : -20000 ≤ E) (hE' : E ≤ 20000) (h : NormOf (sg g (val 4294967296 zs)) E m e T) : Bd 20000 (p + q) m e := by
  refine Bd.of_norm h (by omega) (by decide) ?_
  have h1 : ((sg g (val 4294967296 zs)).natAbs : Int) = val 4294967296 zs := sg_abs (val_nonneg (by decide) hd)
  have h2 := val_lt_pow (B := 4294967296) (by decide) hd
  obtain ⟨n5, hn5⟩ : ∃ n5 : Nat, n5 = 512 := ⟨_, rfl⟩
  have h3 : (4294967296 : Int) ^ zs.length ≤ 4294967296 ^ n5 := pow_mono (by decide) (by omega)
  rw [pow32d n5, show 32 * n5 = p by omega] at h3
  have h5 : (sg g (val 4294967296 zs)).natAbs < 2 ^ p := Int.ofNat_lt.1 (by rw [h1]; exact Int.lt_of_lt_of_le h2 h3)
  exact lt_mul_pow h5 (by omega)

theorem Bd.of_valid {A : Nat} (hA : A = 56384) {g : Bool} {zs : List Int} {E m e : Int} {T : Nat} (hd : Dig 4294967296 zs) (hn : zs.length ≤ 512) (hE : -20000 ≤ E) (hE' : E ≤ 20000) (h : NormOf (sg g (val 4294967296 zs)) E m e T) : Bd 20000 A m e := by
  obtain ⟨p, hp⟩ : ∃ p : Nat, p = 16384 := ⟨_, rfl⟩
  obtain ⟨q, hq⟩ : ∃ q : Nat, q = 40000 := ⟨_, rfl⟩
  have h1 := Bd.of_valid2 hp hq hd hn hE hE' h
  rw [show p + q = A by omega] at h1
  exact h1

end Go.Proofs.YtladfpljnaippabDoor

/-
  The model's negatives.
-/
namespace Go.Proofs.YtladfpljnaippabDoor
open Go.RowKit

set_option maxHeartbeats 1000000 in
theorem neg_any (g : Bool) (a : Option Addr) (c : Nat) (ds : List Int) (x : Int) (w : World) (hn : ds.length ≤ 1048576) (h : L1 w g a c ds x) :
    Calls Tryd.prog 94 #[.agg #[.bool g, .slice a ds.length c]] w fun e w' => ∃ g' ds', e = .returned (.agg #[.bool g', .slice a ds'.length c]) ∧ ds'.length ≤ ds.length ∧ L1 w' g' a c ds' (-x) ∧ Below w.heap.size w w' := by
  have hx : sg (!g) (val 65536 ds) = -x := by rw [sg_not, h.num]
  have HX : Hid (sg (!g) (val 65536 ds) = -x) := hx
  clear hx
  go_enter Tryd.func94, Tryd.ntmps94
  go_wp2_with fail
  refine (make_any (!g) a c ds _ hn h.cap (h.sl.later (bel2 _ _ _)) h.can.1).mono ?_
  rintro e w1 ⟨g', ds', rfl, hle, hL, hb1⟩
  have hb2 := hb1
  simp at hb2
  have r1 : w1.cell? ⟨w.heap.size + 1, 0, none⟩ = some (.bool false) := by rw [(bcell hb1).1 _ _ (by simp)]; simp [go_sem]
  have r2 : w1.cell? ⟨w.heap.size + 1, 1, none⟩ = some (.slice none 0 0) := by rw [(bcell hb1).1 _ _ (by simp)]; simp [go_sem]
  have r3 : ∀ j, w1.frozen? ⟨w.heap.size + 1, j, none⟩ = false := by intro j; rw [(bcell hb1).2 _ _ (by simp)]; simp [go_sem]
  have HB : Hid (Below w.heap.size w w1) := (bel2 _ _ _).trans (hb1.mono (by simp; omega))
  rw [HX.out] at hL
  have HL : Hid (L1 w1 g' a c ds' (-x)) := hL
  clear hL hb1 hb2
  go_wp2
  refine bodyPost_ret (v := .agg #[.bool g', .slice a ds'.length c]) (by simp [results, Tryd.results94, go_sem, r1, r2]) rfl ⟨g', ds', rfl, hle, ?_, ?_⟩
  · exact (HL.out.setNew h.sl.row hle (by simp) _).setNew h.sl.row hle (by simp) _
  · exact (HB.out.setCell (by simp) _).setCell (by simp) _

end Go.Proofs.YtladfpljnaippabDoor

/-
  The model's differences.
-/
namespace Go.Proofs.YtladfpljnaippabDoor
open Go.RowKit

end Go.Proofs.YtladfpljnaippabDoor

/-
  The model's dyadic numbers: negatives.
-/
namespace Go.Proofs.YtladfpljnaippabDoor
open Go.RowKit

set_option maxHeartbeats 4000000 in
theorem neg2_any (g : Bool) (a : Option Addr) (c : Nat) (ds : List Int) (m E : Int) (w : World) (hn : ds.length ≤ 1048576) (h : L1 w g a c ds m) :
    Calls Tryd.prog 57 #[.agg #[.bool g, .slice a ds.length c, .int .i64 E]] w fun e w' => ∃ g' ds', e = .returned (.agg #[.bool g', .slice a ds'.length c, .int .i64 E]) ∧ ds'.length ≤ ds.length ∧ L1 w' g' a c ds' (-m) ∧ Below w.heap.size w w' := by
  have B0 : Hid (∀ t t', Bx3 w (.bool g) (.slice a ds.length c) (.int .i64 E) ((w.alloc (.cells #[.bool g, .slice a ds.length c, .int .i64 E] t)).alloc (.cells #[.bool false, .slice none 0 0, .int .i64 0] t'))) := fun t t' => Bx3.start w _ _ _ _ _
  go_enter Tryd.func57, Tryd.ntmps57
  go_wp2
  obtain ⟨W0, hW0⟩ : ∃ W0, W0 = ((w.alloc (.cells #[.bool g, .slice a ds.length c, .int .i64 E] 66)).alloc (.cells #[.bool false, .slice none 0 0, .int .i64 0] 66)) := ⟨_, rfl⟩
  have F : Hid (Bx3 w (.bool g) (.slice a ds.length c) (.int .i64 E) W0) := by unfold Hid; rw [hW0]; exact B0.out _ _
  rw [← hW0]
  clear hW0 B0
  have zz : w.heap.size + 1 < W0.heap.size := F.out.le
  go_region_held3 (fun w' => w'.cell? ⟨w.heap.size, 0, none⟩ = some (.bool g) ∧ w'.cell? ⟨w.heap.size, 1, none⟩ = some (.slice a ds.length c) ∧ w'.cell? ⟨w.heap.size, 2, none⟩ = some (.int .i64 E) ∧ Below (w.heap.size + 1) W0 w')
    (first | exact F.out.held (Below.refl _ _).drew | exact F.out.held (by assumption) | exact F.out.held (Below.setCell (Below.setCell (Below.setCell (by assumption) (by simp) _) (by simp) _) (by simp) _))
    (first
      | (go_at_call 94; refine (neg_any g a c ds m _ hn (h.later F.out.bel.drew)).mono ?_; rintro e w2 ⟨g2, ds2, rfl, hl2, hL2, hb2⟩; have hB2 : Below W0.heap.size W0 w2 := (Below.refl _ _).drew.trans hb2; have hB2' : Below (w.heap.size + 1) W0 w2 := hB2.mono (by omega); have F2 : Hid (Bx3 w (.bool g) (.slice a ds.length c) (.int .i64 E) w2) := F.out.later hB2; have r1 := F2.out.r1; have r2 := F2.out.r2; have r3 := F2.out.r3; have r4 := F2.out.r4))
  have HL2 : Hid (L1 w2 g2 a c ds2 (-m)) := hL2
  clear hL2 hB2 hB2' hb2
  go_wp2
  refine bodyPost_ret (v := .agg #[.bool g2, .slice a ds2.length c, .int .i64 E]) (by simp [results, Tryd.results57, go_sem, r1, r2, r3]) rfl ?_
  refine ⟨g2, ds2, rfl, by omega, ?_, ?_⟩
  · exact ((HL2.out.setNew h.sl.row hl2 (by simp) _).setNew h.sl.row hl2 (by simp) _).setNew h.sl.row hl2 (by simp) _
  · exact ((F2.out.bel.setCell (by simp) _).setCell (by simp) _).setCell (by simp) _

end Go.Proofs.YtladfpljnaippabDoor

/-
  Plain mathematics: products, digit by digit.
-/
namespace Go.Proofs.YtladfpljnaippabDoor

/-- x times the digits ys, added to the digits ms. -/
def mulsL (x : Int) : List Int → List Int → List Int
  | [], _ => []
  | y :: ys, [] => (x * y) :: mulsL x ys []
  | y :: ys, m :: ms => (x * y + m) :: mulsL x ys ms

theorem muls_length (x : Int) : ∀ ys ms : List Int, (mulsL x ys ms).length = ys.length
  | [], _ => rfl
  | y :: ys, [] => by simp only [mulsL, List.length_cons, muls_length x ys []]
  | y :: ys, m :: ms => by simp only [mulsL, List.length_cons, muls_length x ys ms]

theorem val_muls (B x : Int) : ∀ ys ms : List Int, val B (mulsL x ys ms) = x * val B ys + val B (ms.take ys.length)
  | [], _ => by simp [mulsL, val]
  | y :: ys, [] => by
    have ih := val_muls B x ys []
    simp only [mulsL, val, ih, List.take_nil, Int.add_zero, Int.mul_add]
    rw [Int.mul_left_comm]
  | y :: ys, m :: ms => by
    have ih := val_muls B x ys ms
    simp only [mulsL, val, ih, List.length_cons, List.take_succ_cons, Int.mul_add]
    rw [Int.mul_left_comm x B]
    omega

theorem muls_drop (x : Int) {ys ms : List Int} {j : Nat} (h : j < ys.length) : mulsL x (ys.drop j) (ms.drop j) = (x * ys.getD j 0 + ms.getD j 0) :: mulsL x (ys.drop (j + 1)) (ms.drop (j + 1)) := by
  rw [List.drop_eq_getElem_cons h]
  by_cases h2 : j < ms.length
  · rw [List.drop_eq_getElem_cons h2]
    simp [mulsL, List.getD_eq_getElem?_getD, h, h2]
  · rw [List.drop_eq_nil_of_le (show ms.length ≤ j by omega), List.drop_eq_nil_of_le (show ms.length ≤ j + 1 by omega)]
    rw [List.getD_eq_getElem?_getD, List.getD_eq_getElem?_getD, List.getElem?_eq_none (show ms.length ≤ j by omega), List.getElem?_eq_getElem h]
    simp [mulsL]

theorem mul_step {B x c s : Int} {ys ms : List Int} {j : Nat} (h : j < ys.length) (hs : s = x * ys.getD j 0 + ms.getD j 0 + c) :
    carryD B (mulsL x (ys.drop j) (ms.drop j)) c = s % B :: carryD B (mulsL x (ys.drop (j + 1)) (ms.drop (j + 1))) (s / B) ∧ carryO B (mulsL x (ys.drop j) (ms.drop j)) c = carryO B (mulsL x (ys.drop (j + 1)) (ms.drop (j + 1))) (s / B) := by
  rw [muls_drop x h, hs]
  exact ⟨rfl, rfl⟩

theorem mul_bound {B x y : Int} (h0 : 0 ≤ x) (h1 : x < B) (h2 : 0 ≤ y) (h3 : y < B) : 0 ≤ x * y ∧ x * y ≤ (B - 1) * (B - 1) :=
  ⟨Int.mul_nonneg h0 h2, Int.mul_le_mul (by omega) (by omega) h2 (by omega)⟩

theorem carry_bound {B s : Int} (hB : 0 < B) (h0 : 0 ≤ s) (h1 : s ≤ (B - 1) * (B - 1) + (B - 1) + (B - 1)) : 0 ≤ s / B ∧ s / B ≤ B - 1 := by
  refine ⟨Int.ediv_nonneg h0 (by omega), ?_⟩
  have : s / B < B := by
    refine Int.ediv_lt_of_lt_mul hB ?_
    have e : (B - 1) * (B - 1) = B * B - B - B + 1 := by
      rw [Int.sub_mul, Int.mul_sub]
      omega
    omega
  omega

/-- One row of a product: the digits i .. of P gain x times ys. -/
theorem row_step {B x : Int} {P ys : List Int} {i : Nat} {D : List Int} {c : Int} (hl : i + ys.length < P.length) (hD : D = carryD B (mulsL x ys (P.drop i)) 0) (hc : c = carryO B (mulsL x ys (P.drop i)) 0) (h0 : P.getD (i + ys.length) 0 = 0) :
    val B (P.take i ++ ((D ++ [c]) ++ P.drop (i + ys.length + 1))) = val B P + B ^ i * (x * val B ys) := by
  have hti : (P.take i).length = i := by rw [List.length_take]; omega
  have hDl : (D ++ [c]).length = ys.length + 1 := by rw [hD, List.length_append, carryD_length, muls_length]; rfl
  have e1 : val B (D ++ [c]) = x * val B ys + val B ((P.drop i).take ys.length) := by rw [hD, hc, val_carryDO, val_muls]; omega
  have e2 : val B P = val B (P.take i) + B ^ i * (val B ((P.drop i).take ys.length) + B ^ ys.length * val B (P.drop (i + ys.length))) := by
    have a1 := val_append B (P.drop i) (P.take i)
    rw [List.take_append_drop, hti] at a1
    have a2 := val_append B ((P.drop i).drop ys.length) ((P.drop i).take ys.length)
    rw [List.take_append_drop] at a2
    have hl2 : ((P.drop i).take ys.length).length = ys.length := by rw [List.length_take, List.length_drop]; omega
    rw [hl2, List.drop_drop] at a2
    rw [a1, a2]
  have e3 : val B (P.drop (i + ys.length)) = B * val B (P.drop (i + ys.length + 1)) := by
    rw [List.drop_eq_getElem_cons hl]
    have : P[i + ys.length] = 0 := by simpa [List.getD_eq_getElem?_getD, hl] using h0
    rw [this]
    simp [val]
  rw [val_append, hti, val_append, hDl, e1, e2, e3, Int.pow_succ]
  simp only [Int.mul_add]
  rw [Int.mul_assoc (B ^ ys.length) B]
  omega

theorem val_take_succ {B : Int} {zs : List Int} {i : Nat} (h : i < zs.length) : val B (zs.take (i + 1)) = val B (zs.take i) + B ^ i * zs.getD i 0 := by
  rw [List.take_succ_eq_append_getElem h, val_append]
  have hti : (zs.take i).length = i := by rw [List.length_take]; omega
  rw [hti]
  simp [val, List.getD_eq_getElem?_getD, h]

/-- What the rows so far have made of the product. -/
structure Prod (B : Int) (zs ys : List Int) (L i : Nat) (P : List Int) : Prop where
  dig : Dig B P
  len : P.length = L
  eq : val B P = val B (zs.take i) * val B ys
  up : ∀ j, i + ys.length ≤ j → P.getD j 0 = 0

theorem prod_start (B : Int) (hB : 0 < B) (zs ys : List Int) (L : Nat) : Prod B zs ys L 0 (List.replicate L 0) := by
  refine ⟨fun z hz => ?_, by simp, ?_, fun j _ => ?_⟩
  · rw [List.eq_of_mem_replicate hz]; exact ⟨Int.le_refl 0, hB⟩
  · have : ∀ n : Nat, val B (List.replicate n 0) = 0 := by
      intro n
      induction n with
      | zero => rfl
      | succ n ih => simp [List.replicate_succ, val, ih]
    rw [this]
    simp [val]
  · by_cases hj : j < L
    · simp [List.getD_eq_getElem?_getD, hj]
    · simp [List.getD_eq_getElem?_getD, hj]

theorem prod_step {B x c : Int} (hB : 1 < B) {zs ys P D : List Int} {L i : Nat} (h : Prod B zs ys L i P) (hi : i < zs.length) (hL : i + ys.length < L) (hx : x = zs.getD i 0) (hD : D = carryD B (mulsL x ys (P.drop i)) 0) (hc : c = carryO B (mulsL x ys (P.drop i)) 0) (hc0 : 0 ≤ c) (hc1 : c < B) :
    Prod B zs ys L (i + 1) (P.take i ++ ((D ++ [c]) ++ P.drop (i + ys.length + 1))) := by
  have hl : i + ys.length < P.length := by rw [h.len]; exact hL
  have hti : (P.take i).length = i := by rw [List.length_take]; omega
  have hDl : (D ++ [c]).length = ys.length + 1 := by rw [hD, List.length_append, carryD_length, muls_length]; rfl
  refine ⟨?_, ?_, ?_, ?_⟩
  · exact (h.dig.take i).append (((by rw [hD]; exact dig_carryD (by omega) _ _ : Dig B D).append (Dig.cons hc0 hc1 (Dig.nil B))).append (h.dig.drop _))
  · rw [List.length_append, List.length_append, hti, hDl, List.length_drop, h.len]; omega
  · rw [row_step hl hD hc (h.up _ (Nat.le_refl _)), h.eq, val_take_succ hi, Int.add_mul, hx, Int.mul_assoc]
  · intro j hj
    rw [List.getD_eq_getElem?_getD, List.getElem?_append_right (by rw [hti]; omega), List.getElem?_append_right (by rw [hti, hDl]; omega), hti, hDl, List.getElem?_drop, ← List.getD_eq_getElem?_getD]
    exact h.up _ (by omega)

/-- The product's own row while a row of digits is being added. -/
theorem mid_get {P D : List Int} {i j k : Nat} (hi : i + j ≤ k) (hD : D.length = j) (hP : i ≤ P.length) : (P.take i ++ (D ++ P.drop (i + j))).getD k 0 = P.getD k 0 := by
  have hti : (P.take i).length = i := by rw [List.length_take]; omega
  rw [List.getD_eq_getElem?_getD, List.getElem?_append_right (by omega), List.getElem?_append_right (by omega), hti, hD, List.getElem?_drop, List.getD_eq_getElem?_getD]
  congr 2
  omega

theorem mid_set {P D : List Int} {i j : Nat} {d : Int} (hD : D.length = j) (hP : i + j < P.length) : (P.take i ++ (D ++ P.drop (i + j))).set (i + j) d = P.take i ++ ((D ++ [d]) ++ P.drop (i + j + 1)) := by
  have hti : (P.take i).length = i := by rw [List.length_take]; omega
  have e := List.drop_eq_getElem_cons hP
  rw [List.set_append_right _ _ (by omega), hti, show i + j - i = j by omega, List.set_append_right _ _ (by omega), hD, Nat.sub_self, e, List.set_cons_zero, List.append_assoc D [d]]
  rfl

theorem mid_length {P D : List Int} {i j : Nat} (hD : D.length = j) (hP : i + j ≤ P.length) : (P.take i ++ (D ++ P.drop (i + j))).length = P.length := by
  rw [List.length_append, List.length_append, List.length_take, List.length_drop]; omega

end Go.Proofs.YtladfpljnaippabDoor

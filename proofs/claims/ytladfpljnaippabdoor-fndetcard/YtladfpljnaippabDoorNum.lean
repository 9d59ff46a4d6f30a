/-
  Plain mathematics: numbers written as digits to a base, the lowest first.
-/
import Derived.KernelRfl
namespace Go.Proofs.YtladfpljnaippabDoor

/-- The number that the digits zs to the base B write. -/
def val (B : Int) : List Int → Int
  | [] => 0
  | z :: zs => z + B * val B zs

/-- Each digit is one. -/
def Dig (B : Int) (zs : List Int) : Prop := ∀ z, z ∈ zs → 0 ≤ z ∧ z < B

/-- Without the zeros at the upper end. -/
def trimL : List Int → List Int
  | [] => []
  | z :: zs => if trimL zs = [] ∧ z = 0 then [] else z :: trimL zs

/-- Sums of digits made digits, the carry handed on upwards; a carry that is left at the end and is not 0 is a digit more. -/
def carryL (B : Int) : List Int → Int → List Int
  | [], c => if c = 0 then [] else [c]
  | s :: ss, c => (s + c) % B :: carryL B ss ((s + c) / B)

theorem Dig.nil (B : Int) : Dig B [] := fun _ h => absurd h (List.not_mem_nil)
theorem Dig.cons {B z : Int} {zs : List Int} (h0 : 0 ≤ z) (h1 : z < B) (h : Dig B zs) : Dig B (z :: zs) := by
  intro y hy
  rcases List.mem_cons.1 hy with rfl | hy
  · exact ⟨h0, h1⟩
  · exact h y hy
theorem Dig.head {B z : Int} {zs : List Int} (h : Dig B (z :: zs)) : 0 ≤ z ∧ z < B := h z (List.mem_cons_self)
theorem Dig.tail {B z : Int} {zs : List Int} (h : Dig B (z :: zs)) : Dig B zs := fun y hy => h y (List.mem_cons_of_mem _ hy)
theorem Dig.take {B : Int} {zs : List Int} (h : Dig B zs) (n : Nat) : Dig B (zs.take n) := fun y hy => h y (List.mem_of_mem_take hy)
theorem Dig.drop {B : Int} {zs : List Int} (h : Dig B zs) (n : Nat) : Dig B (zs.drop n) := fun y hy => h y (List.mem_of_mem_drop hy)
theorem Dig.append {B : Int} {xs ys : List Int} (h : Dig B xs) (h' : Dig B ys) : Dig B (xs ++ ys) := by
  intro y hy
  rcases List.mem_append.1 hy with hy | hy
  · exact h y hy
  · exact h' y hy
theorem Dig.of_append {B : Int} {xs ys : List Int} (h : Dig B (xs ++ ys)) : Dig B xs ∧ Dig B ys := ⟨fun y hy => h y (List.mem_append_left _ hy), fun y hy => h y (List.mem_append_right _ hy)⟩
theorem Dig.at {B : Int} (hB : 0 < B) {zs : List Int} (h : Dig B zs) (j : Nat) : 0 ≤ zs.getD j 0 ∧ zs.getD j 0 < B := by
  by_cases hj : j < zs.length
  · rw [List.getD_eq_getElem?_getD, List.getElem?_eq_getElem hj]; exact h _ (List.getElem_mem hj)
  · rw [List.getD_eq_getElem?_getD, List.getElem?_eq_none (by omega)]; exact ⟨by simp, by simpa using hB⟩

theorem val_nonneg {B : Int} (hB : 0 < B) : ∀ {zs : List Int}, Dig B zs → 0 ≤ val B zs
  | [], _ => Int.le_refl 0
  | z :: zs, h => by
    have h1 := val_nonneg hB h.tail
    have h2 := h.head
    have := Int.mul_nonneg (Int.le_of_lt hB) h1
    simp only [val]
    omega

theorem val_append (B : Int) (ys : List Int) : ∀ xs : List Int, val B (xs ++ ys) = val B xs + B ^ xs.length * val B ys
  | [] => by simp [val]
  | x :: xs => by
    simp only [List.cons_append, val, val_append B ys xs, List.length_cons, Int.pow_succ]
    rw [Int.mul_add, Int.mul_comm (B ^ xs.length) B, Int.mul_assoc]
    omega

/-! ### Trimming -/
theorem val_trim (B : Int) : ∀ zs : List Int, val B (trimL zs) = val B zs
  | [] => rfl
  | z :: zs => by
    have ih := val_trim B zs
    simp only [trimL]
    split
    · rename_i h
      rw [h.1] at ih
      simp only [val] at ih ⊢
      rw [← ih, h.2]
      simp
    · simp only [val, ih]

theorem Dig.trim {B : Int} : ∀ {zs : List Int}, Dig B zs → Dig B (trimL zs)
  | [], h => h
  | z :: zs, h => by
    simp only [trimL]
    split
    · exact Dig.nil B
    · exact Dig.cons h.head.1 h.head.2 (Dig.trim h.tail)

theorem trim_trim : ∀ zs : List Int, trimL (trimL zs) = trimL zs
  | [] => rfl
  | z :: zs => by
    have ih := trim_trim zs
    simp only [trimL]
    split
    · rfl
    · rename_i h
      simp only [trimL, ih]
      rw [if_neg h]

theorem trim_snoc_zero : ∀ zs : List Int, trimL (zs ++ [0]) = trimL zs
  | [] => rfl
  | z :: zs => by simp only [List.cons_append, trimL, trim_snoc_zero zs]

theorem trim_snoc : ∀ (zs : List Int) (z : Int), z ≠ 0 → trimL (zs ++ [z]) = zs ++ [z]
  | [], z, h => by simp [trimL, h]
  | y :: zs, z, h => by
    simp only [List.cons_append, trimL, trim_snoc zs z h]
    rw [if_neg (by simp)]

theorem trim_take_step {zs : List Int} {m : Nat} (h : m + 1 ≤ zs.length) (hz : zs.getD m 0 = 0) : trimL (zs.take (m + 1)) = trimL (zs.take m) := by
  rw [List.take_succ_eq_append_getElem h]
  have : zs[m] = 0 := by simpa [List.getD_eq_getElem?_getD, show m < zs.length from h] using hz
  rw [this, trim_snoc_zero]

theorem trim_take_stop {zs : List Int} {m : Nat} (h : m + 1 ≤ zs.length) (hz : zs.getD m 0 ≠ 0) : trimL (zs.take (m + 1)) = zs.take (m + 1) := by
  rw [List.take_succ_eq_append_getElem h]
  have : zs[m] ≠ 0 := by simpa [List.getD_eq_getElem?_getD, show m < zs.length from h] using hz
  rw [trim_snoc _ _ this]

/-- Digits without a zero at the upper end. -/
def Canon (B : Int) (zs : List Int) : Prop := Dig B zs ∧ trimL zs = zs

theorem canon_trim {B : Int} {zs : List Int} (h : Dig B zs) : Canon B (trimL zs) := ⟨h.trim, trim_trim zs⟩

theorem canon_last {B : Int} {zs : List Int} (h : Dig B zs) (hne : zs.length ≠ 0) (hl : zs.getD (zs.length - 1) 0 ≠ 0) : Canon B zs := by
  refine ⟨h, ?_⟩
  have hz : zs ≠ [] := fun e => hne (by simp [e])
  have e := List.dropLast_concat_getLast hz
  have hl' : zs.getLast hz ≠ 0 := by
    rw [List.getLast_eq_getElem]
    simpa [List.getD_eq_getElem?_getD, show zs.length - 1 < zs.length from by omega] using hl
  rw [← e]
  exact trim_snoc _ _ hl'

theorem trim_le : ∀ zs : List Int, (trimL zs).length ≤ zs.length
  | [] => by simp [trimL]
  | z :: zs => by
    have ih := trim_le zs
    simp only [trimL]
    split
    · simp
    · simp; omega

theorem last_of_canon {zs : List Int} (h : trimL zs = zs) (hne : zs.length ≠ 0) : zs.getD (zs.length - 1) 0 ≠ 0 := by
  have hz : zs ≠ [] := fun e => hne (by simp [e])
  have e := List.dropLast_concat_getLast hz
  intro h0
  have hl' : zs.getLast hz = 0 := by
    rw [List.getLast_eq_getElem]
    simpa [List.getD_eq_getElem?_getD, show zs.length - 1 < zs.length from by omega] using h0
  rw [hl'] at e
  rw [← e, trim_snoc_zero] at h
  have := trim_le zs.dropLast
  rw [h] at this
  simp at this
  omega

theorem Canon.tail {B z : Int} {zs : List Int} (h : Canon B (z :: zs)) : Canon B zs := by
  refine ⟨h.1.tail, ?_⟩
  have := h.2
  simp only [trimL] at this
  split at this
  · cases this
  · exact (List.cons.inj this).2

/-- What has no zero at the upper end and writes 0 is empty. -/
theorem canon_zero {B : Int} (hB : 0 < B) : ∀ {zs : List Int}, Canon B zs → val B zs = 0 → zs = []
  | [], _, _ => rfl
  | z :: zs, h, hv => by
    have h1 := val_nonneg hB h.1.tail
    have h2 := h.1.head
    have h3 := Int.mul_nonneg (Int.le_of_lt hB) h1
    simp only [val] at hv
    have hz : z = 0 := by omega
    have hm : B * val B zs = 0 := by omega
    have ht : val B zs = 0 := by
      rcases Int.mul_eq_zero.1 hm with h | h
      · omega
      · exact h
    have e := canon_zero hB h.tail ht
    subst e hz
    have := h.2
    simp [trimL] at this

theorem val_pos {B : Int} (hB : 0 < B) {zs : List Int} (h : Canon B zs) (hne : zs ≠ []) : 0 < val B zs := by
  have h1 := val_nonneg hB h.1
  rcases Int.lt_or_eq_of_le h1 with h2 | h2
  · exact h2
  · exact absurd (canon_zero hB h h2.symm) hne

/-- One number has one form. -/
theorem canon_inj {B : Int} (hB : 0 < B) : ∀ {xs ys : List Int}, Canon B xs → Canon B ys → val B xs = val B ys → xs = ys
  | [], ys, _, hy, h => (canon_zero hB hy (by simpa [val] using h.symm)).symm
  | x :: xs, [], hx, _, h => canon_zero hB hx (by simpa [val] using h)
  | x :: xs, y :: ys, hx, hy, h => by
    simp only [val] at h
    have h1 := hx.1.head
    have h2 := hy.1.head
    have e1 : (x + B * val B xs) % B = x := by rw [Int.add_mul_emod_self_left]; exact Int.emod_eq_of_lt h1.1 h1.2
    have e2 : (y + B * val B ys) % B = y := by rw [Int.add_mul_emod_self_left]; exact Int.emod_eq_of_lt h2.1 h2.2
    have e : x = y := by rw [← e1, ← e2, h]
    subst e
    have e3 : B * val B xs = B * val B ys := by omega
    have e4 : val B xs = val B ys := Int.eq_of_mul_eq_mul_left (by omega) e3
    rw [canon_inj hB hx.tail hy.tail e4]

/-! ### Carries -/
theorem val_carry (B : Int) : ∀ (ss : List Int) (c : Int), val B (carryL B ss c) = val B ss + c
  | [], c => by
    simp only [carryL]
    split
    · rename_i h; simp [val, h]
    · simp [val]
  | s :: ss, c => by
    simp only [carryL, val, val_carry B ss]
    have := Int.emod_add_mul_ediv (s + c) B
    rw [Int.mul_add]
    omega

/-- With every sum in bounds the carry stays in bounds, and what comes out are digits. -/
theorem dig_carry {B lo hi : Int} (hB : 0 < B) (hhi : hi < B) (hlo : 0 ≤ lo) : ∀ (ss : List Int) (c : Int), lo ≤ c → c ≤ hi → (∀ s, s ∈ ss → ∀ c, lo ≤ c → c ≤ hi → lo ≤ (s + c) / B ∧ (s + c) / B ≤ hi) → Dig B (carryL B ss c)
  | [], c, h0, h1, _ => by
    simp only [carryL]
    split
    · exact Dig.nil B
    · exact Dig.cons (by omega) (by omega) (Dig.nil B)
  | s :: ss, c, h0, h1, h => by
    have h2 := h s List.mem_cons_self c h0 h1
    simp only [carryL]
    exact Dig.cons (Int.emod_nonneg _ (by omega)) (Int.emod_lt_of_pos _ hB) (dig_carry hB hhi hlo ss _ h2.1 h2.2 (fun s' hs' => h s' (List.mem_cons_of_mem _ hs')))

/-! ### From limbs of 32 bits to digits of 16 and back -/
def splitL : List Int → List Int
  | [] => []
  | z :: zs => z % 65536 :: z / 65536 :: splitL zs
theorem split_snoc (z : Int) : ∀ zs : List Int, splitL (zs ++ [z]) = (splitL zs ++ [z % 65536]) ++ [z / 65536]
  | [] => rfl
  | y :: zs => by simp only [List.cons_append, splitL, split_snoc z zs]
theorem split_length : ∀ zs : List Int, (splitL zs).length = 2 * zs.length
  | [] => rfl
  | z :: zs => by simp only [splitL, List.length_cons, split_length zs]; omega
theorem val_split : ∀ zs : List Int, val 65536 (splitL zs) = val 4294967296 zs
  | [] => rfl
  | z :: zs => by
    simp only [splitL, val, val_split zs]
    have := Int.emod_add_mul_ediv z 65536
    omega
theorem dig_split : ∀ {zs : List Int}, Dig 4294967296 zs → Dig 65536 (splitL zs)
  | [], _ => Dig.nil _
  | z :: zs, h => by
    have := h.head
    exact Dig.cons (by omega) (by omega) (Dig.cons (by omega) (by omega) (dig_split h.tail))

def joinL : List Int → List Int
  | [] => []
  | [d] => [d]
  | d :: e :: ds => (d + e * 65536) :: joinL ds
theorem val_join : ∀ ds : List Int, val 4294967296 (joinL ds) = val 65536 ds
  | [] => rfl
  | [d] => by simp [joinL, val]
  | d :: e :: ds => by
    simp only [joinL, val, val_join ds]
    omega
theorem dig_join : ∀ {ds : List Int}, Dig 65536 ds → Dig 4294967296 (joinL ds)
  | [], _ => Dig.nil _
  | [d], h => by
    have := h.head
    exact Dig.cons (by omega) (by omega) (Dig.nil _)
  | d :: e :: ds, h => by
    have h1 := h.head
    have h2 := h.tail.head
    exact Dig.cons (by omega) (by omega) (dig_join h.tail.tail)
theorem join_nil : ∀ {ds : List Int}, joinL ds = [] → ds = []
  | [], _ => rfl
  | [_], h => by cases h
  | _ :: _ :: _, h => by cases h
theorem canon_join : ∀ {ds : List Int}, Canon 65536 ds → Canon 4294967296 (joinL ds)
  | [], _ => ⟨Dig.nil _, rfl⟩
  | [d], h => by
    refine ⟨dig_join h.1, ?_⟩
    have := h.2
    simp only [joinL]
    exact this
  | d :: e :: ds, h => by
    refine ⟨dig_join h.1, ?_⟩
    have ih := (canon_join h.tail.tail).2
    have h1 := h.1.head
    have h2 := h.1.tail.head
    simp only [joinL, trimL, ih]
    rw [if_neg]
    rintro ⟨hj, hz⟩
    have hd := join_nil hj
    subst hd
    have hd0 : d = 0 := by omega
    have he0 : e = 0 := by omega
    subst hd0 he0
    have := h.2
    simp [trimL] at this

theorem join_two {ds : List Int} {k : Nat} (h : 2 * k + 1 < ds.length) : joinL (ds.drop (2 * k)) = (ds.getD (2 * k) 0 + ds.getD (2 * k + 1) 0 * 65536) :: joinL (ds.drop (2 * (k + 1))) := by
  rw [List.drop_eq_getElem_cons (show 2 * k < ds.length by omega), List.drop_eq_getElem_cons h]
  simp only [joinL, List.getD_eq_getElem?_getD, List.getElem?_eq_getElem h, List.getElem?_eq_getElem (show 2 * k < ds.length by omega), Option.getD_some]
  rfl
theorem join_one {ds : List Int} {k : Nat} (h : 2 * k + 1 = ds.length) : joinL (ds.drop (2 * k)) = ds.getD (2 * k) 0 :: joinL (ds.drop (2 * (k + 1))) := by
  rw [List.drop_eq_getElem_cons (show 2 * k < ds.length by omega), List.drop_eq_nil_of_le (show ds.length ≤ 2 * k + 1 by omega), List.drop_eq_nil_of_le (show ds.length ≤ 2 * (k + 1) by omega)]
  simp [joinL, List.getD_eq_getElem?_getD, List.getElem?_eq_getElem (show 2 * k < ds.length by omega)]

/-! ### Order -/
theorem val_lt_of_length {B : Int} (hB : 0 < B) : ∀ {xs ys : List Int}, Dig B xs → Canon B ys → xs.length < ys.length → val B xs < val B ys
  | xs, [], _, _, h => absurd h (by simp)
  | [], y :: ys, _, hy, _ => by simpa [val] using val_pos hB hy (by simp)
  | x :: xs, y :: ys, hx, hy, h => by
    have ih := val_lt_of_length hB hx.tail hy.tail (by simpa using h)
    have h1 := hx.head
    have h2 := hy.1.head
    have h3 : B * (val B xs + 1) ≤ B * val B ys := Int.mul_le_mul_of_nonneg_left (by omega) (by omega)
    rw [Int.mul_add] at h3
    simp only [val]
    omega

/-- The sign of a difference. -/
def sgn (x : Int) : Int := if x < 0 then -1 else if x = 0 then 0 else 1

/-- The order of two lists of digits of one length, the highest digit first. -/
def cmpTop : List Int → List Int → Int
  | x :: xs, y :: ys => if cmpTop xs ys = 0 then sgn (x - y) else cmpTop xs ys
  | _, _ => 0

theorem sgn_cases (x : Int) : (x < 0 ∧ sgn x = -1) ∨ (x = 0 ∧ sgn x = 0) ∨ (0 < x ∧ sgn x = 1) := by
  unfold sgn
  rcases Int.lt_trichotomy x 0 with h | h | h
  · exact .inl ⟨h, by rw [if_pos h]⟩
  · exact .inr (.inl ⟨h, by rw [if_neg (by omega), if_pos h]⟩)
  · exact .inr (.inr ⟨h, by rw [if_neg (by omega), if_neg (by omega)]⟩)

theorem cmpTop_val {B : Int} (hB : 0 < B) : ∀ {xs ys : List Int}, Dig B xs → Dig B ys → xs.length = ys.length → cmpTop xs ys = sgn (val B xs - val B ys)
  | [], [], _, _, _ => by simp [cmpTop, val, sgn]
  | [], y :: ys, _, _, h => absurd h (by simp)
  | x :: xs, [], _, _, h => absurd h (by simp)
  | x :: xs, y :: ys, hx, hy, h => by
    have ih := cmpTop_val hB hx.tail hy.tail (by simpa using h)
    have h1 := hx.head
    have h2 := hy.head
    simp only [cmpTop, val]
    have e : x + B * val B xs - (y + B * val B ys) = (x - y) + B * (val B xs - val B ys) := by rw [Int.mul_sub]; omega
    rw [e]
    rcases sgn_cases (val B xs - val B ys) with ⟨h3, h4⟩ | ⟨h3, h4⟩ | ⟨h3, h4⟩
    · rw [ih, h4, if_neg (by decide)]
      have : B * (val B xs - val B ys) ≤ B * (-1) := Int.mul_le_mul_of_nonneg_left (by omega) (by omega)
      unfold sgn
      rw [if_pos (by omega)]
    · rw [ih, h4, if_pos rfl, h3]
      simp
    · rw [ih, h4, if_neg (by decide)]
      have : B * 1 ≤ B * (val B xs - val B ys) := Int.mul_le_mul_of_nonneg_left (by omega) (by omega)
      unfold sgn
      rw [if_neg (by omega), if_neg (by omega)]

theorem cmpTop_snoc (x y : Int) : ∀ {xs ys : List Int}, xs.length = ys.length → cmpTop (xs ++ [x]) (ys ++ [y]) = if x = y then cmpTop xs ys else sgn (x - y)
  | [], [], _ => by
    simp only [List.nil_append, cmpTop]
    by_cases h : x = y
    · subst h; simp [sgn]
    · simp [h]
  | [], b :: ys, h => absurd h (by simp)
  | a :: xs, [], h => absurd h (by simp)
  | a :: xs, b :: ys, h => by
    have ih := cmpTop_snoc x y (xs := xs) (ys := ys) (by simpa using h)
    simp only [List.cons_append, cmpTop, ih]
    by_cases e : x = y
    · simp [e]
    · have : sgn (x - y) ≠ 0 := by
        rcases sgn_cases (x - y) with ⟨_, h⟩ | ⟨h0, _⟩ | ⟨_, h⟩
        · omega
        · omega
        · omega
      simp [e, this]

/-- The order of two numbers by their digits. -/
def cmpL (xs ys : List Int) : Int := if xs.length = ys.length then cmpTop xs ys else if xs.length < ys.length then -1 else 1

theorem cmpL_val {B : Int} (hB : 0 < B) {xs ys : List Int} (hx : Canon B xs) (hy : Canon B ys) : cmpL xs ys = sgn (val B xs - val B ys) := by
  unfold cmpL
  split
  · rename_i h; exact cmpTop_val hB hx.1 hy.1 h
  · rename_i h
    split
    · rename_i h'
      have := val_lt_of_length hB hx.1 hy h'
      unfold sgn
      rw [if_pos (by omega)]
    · rename_i h'
      have := val_lt_of_length hB hy.1 hx (by omega)
      unfold sgn
      rw [if_neg (by omega), if_neg (by omega)]

theorem cmpTop_take {xs ys : List Int} {k : Nat} (h : k < xs.length) (h' : k < ys.length) : cmpTop (xs.take (k + 1)) (ys.take (k + 1)) = if xs.getD k 0 = ys.getD k 0 then cmpTop (xs.take k) (ys.take k) else sgn (xs.getD k 0 - ys.getD k 0) := by
  rw [List.take_succ_eq_append_getElem h, List.take_succ_eq_append_getElem h', cmpTop_snoc _ _ (by rw [List.length_take, List.length_take]; omega)]
  simp [List.getD_eq_getElem?_getD, h, h']

/-! ### Sums and differences, digit by digit -/
def sumsL : List Int → List Int → List Int
  | [], ys => ys
  | x :: xs, [] => x :: xs
  | x :: xs, y :: ys => (x + y) :: sumsL xs ys
theorem val_sums (B : Int) : ∀ xs ys : List Int, val B (sumsL xs ys) = val B xs + val B ys
  | [], ys => by simp [sumsL, val]
  | x :: xs, [] => by simp [sumsL, val]
  | x :: xs, y :: ys => by
    simp only [sumsL, val, val_sums B xs ys, Int.mul_add]
    omega
theorem sums_mem {B : Int} (hB : 0 < B) : ∀ {xs ys : List Int}, Dig B xs → Dig B ys → ∀ s, s ∈ sumsL xs ys → 0 ≤ s ∧ s ≤ 2 * B - 2
  | [], ys, _, hy, s, hs => by have := hy s hs; omega
  | x :: xs, [], hx, _, s, hs => by have := hx s hs; omega
  | x :: xs, y :: ys, hx, hy, s, hs => by
    rcases List.mem_cons.1 hs with rfl | hs
    · have := hx.head; have := hy.head; omega
    · exact sums_mem hB hx.tail hy.tail s hs
theorem sums_drop {xs ys : List Int} {k : Nat} (h : k < xs.length ∨ k < ys.length) : sumsL (xs.drop k) (ys.drop k) = (xs.getD k 0 + ys.getD k 0) :: sumsL (xs.drop (k + 1)) (ys.drop (k + 1)) := by
  by_cases h1 : k < xs.length
  · by_cases h2 : k < ys.length
    · rw [List.drop_eq_getElem_cons h1, List.drop_eq_getElem_cons h2]
      simp [sumsL, List.getD_eq_getElem?_getD, h1, h2]
    · rw [List.drop_eq_getElem_cons h1, List.drop_eq_nil_of_le (show ys.length ≤ k by omega), List.drop_eq_nil_of_le (show ys.length ≤ k + 1 by omega)]
      rw [List.getD_eq_getElem?_getD, List.getD_eq_getElem?_getD, List.getElem?_eq_none (show ys.length ≤ k by omega), List.getElem?_eq_getElem h1]
      simp only [sumsL, Option.getD_some, Option.getD_none, Int.add_zero]
      cases h : xs.drop (k + 1) <;> simp [sumsL]
  · have h2 : k < ys.length := by omega
    rw [List.drop_eq_getElem_cons h2, List.drop_eq_nil_of_le (show xs.length ≤ k by omega), List.drop_eq_nil_of_le (show xs.length ≤ k + 1 by omega)]
    rw [List.getD_eq_getElem?_getD, List.getD_eq_getElem?_getD, List.getElem?_eq_none (show xs.length ≤ k by omega), List.getElem?_eq_getElem h2]
    simp [sumsL]

theorem add_step {B : Int} (hB : 1 < B) {xs ys : List Int} {k : Nat} {c s : Int} (h : k < xs.length ∨ k < ys.length ∨ 0 < c) (h0 : 0 ≤ c) (h1 : c ≤ 1) (hs : s = xs.getD k 0 + ys.getD k 0 + c) :
    carryL B (sumsL (xs.drop k) (ys.drop k)) c = s % B :: carryL B (sumsL (xs.drop (k + 1)) (ys.drop (k + 1))) (s / B) := by
  by_cases hk : k < xs.length ∨ k < ys.length
  · rw [sums_drop hk, hs]
    rfl
  · have e1 : xs.getD k 0 = 0 := by rw [List.getD_eq_getElem?_getD, List.getElem?_eq_none (by omega)]; rfl
    have e2 : ys.getD k 0 = 0 := by rw [List.getD_eq_getElem?_getD, List.getElem?_eq_none (by omega)]; rfl
    have e3 : s = 1 := by omega
    have e4 : c = 1 := by omega
    rw [List.drop_eq_nil_of_le (show xs.length ≤ k by omega), List.drop_eq_nil_of_le (show ys.length ≤ k by omega), List.drop_eq_nil_of_le (show xs.length ≤ k + 1 by omega), List.drop_eq_nil_of_le (show ys.length ≤ k + 1 by omega), e3, e4]
    have e5 : (1 : Int) % B = 1 := Int.emod_eq_of_lt (by decide) hB
    have e6 : (1 : Int) / B = 0 := Int.ediv_eq_zero_of_lt (by decide) hB
    simp [sumsL, carryL, e5, e6]

theorem dig_add {B : Int} (hB : 1 < B) {xs ys : List Int} (hx : Dig B xs) (hy : Dig B ys) : Dig B (carryL B (sumsL xs ys) 0) := by
  refine dig_carry (lo := 0) (hi := 1) (by omega) hB (Int.le_refl 0) _ _ (Int.le_refl 0) (by decide) ?_
  intro s hs c h0 h1
  have hb := sums_mem (by omega) hx hy s hs
  exact ⟨Int.ediv_nonneg (by omega) (by omega), by
    have : (s + c) / B < 2 := Int.ediv_lt_of_lt_mul (by omega) (by omega)
    omega⟩

theorem val_lt_pow {B : Int} (hB : 0 < B) : ∀ {zs : List Int}, Dig B zs → val B zs < B ^ zs.length
  | [], _ => by simp [val]
  | z :: zs, h => by
    have ih := val_lt_pow hB h.tail
    have h1 := h.head
    have h2 : B * (val B zs + 1) ≤ B * B ^ zs.length := Int.mul_le_mul_of_nonneg_left (by omega) (by omega)
    rw [Int.mul_add] at h2
    simp only [val, List.length_cons, Int.pow_succ]
    rw [Int.mul_comm (B ^ zs.length) B]
    omega

/-- The digits alone, and the carry that is left. -/
def carryD (B : Int) : List Int → Int → List Int
  | [], _ => []
  | s :: ss, c => (s + c) % B :: carryD B ss ((s + c) / B)
def carryO (B : Int) : List Int → Int → Int
  | [], c => c
  | s :: ss, c => carryO B ss ((s + c) / B)
theorem carryD_length (B : Int) : ∀ (ss : List Int) (c : Int), (carryD B ss c).length = ss.length
  | [], _ => rfl
  | s :: ss, c => by simp only [carryD, List.length_cons, carryD_length B ss]
theorem val_carryD (B : Int) : ∀ (ss : List Int) (c : Int), val B (carryD B ss c) + B ^ ss.length * carryO B ss c = val B ss + c
  | [], c => by simp [carryD, carryO, val]
  | s :: ss, c => by
    have ih := val_carryD B ss ((s + c) / B)
    have := Int.emod_add_mul_ediv (s + c) B
    simp only [carryD, carryO, val, List.length_cons, Int.pow_succ]
    have e : B ^ ss.length * B * carryO B ss ((s + c) / B) = B * (B ^ ss.length * carryO B ss ((s + c) / B)) := by
      rw [Int.mul_comm (B ^ ss.length) B, Int.mul_assoc]
    rw [e]
    have e2 : B * (val B (carryD B ss ((s + c) / B)) + B ^ ss.length * carryO B ss ((s + c) / B)) = B * (val B ss + (s + c) / B) := by rw [ih]
    rw [Int.mul_add, Int.mul_add] at e2
    omega
theorem dig_carryD {B : Int} (hB : 0 < B) : ∀ (ss : List Int) (c : Int), Dig B (carryD B ss c)
  | [], _ => Dig.nil B
  | s :: ss, c => Dig.cons (Int.emod_nonneg _ (by omega)) (Int.emod_lt_of_pos _ hB) (dig_carryD hB ss _)
theorem carryO_mem {B lo hi : Int} : ∀ (ss : List Int) (c : Int), lo ≤ c → c ≤ hi → (∀ s, s ∈ ss → ∀ c, lo ≤ c → c ≤ hi → lo ≤ (s + c) / B ∧ (s + c) / B ≤ hi) → lo ≤ carryO B ss c ∧ carryO B ss c ≤ hi
  | [], c, h0, h1, _ => ⟨h0, h1⟩
  | s :: ss, c, h0, h1, h => by
    have h2 := h s List.mem_cons_self c h0 h1
    exact carryO_mem ss _ h2.1 h2.2 (fun s' hs' => h s' (List.mem_cons_of_mem _ hs'))

def diffsL : List Int → List Int → List Int
  | [], _ => []
  | x :: xs, [] => x :: xs
  | x :: xs, y :: ys => (x - y) :: diffsL xs ys
theorem diffs_length : ∀ xs ys : List Int, (diffsL xs ys).length = xs.length
  | [], _ => by simp [diffsL]
  | x :: xs, [] => by simp [diffsL]
  | x :: xs, y :: ys => by simp only [diffsL, List.length_cons, diffs_length xs ys]
theorem val_diffs (B : Int) : ∀ xs ys : List Int, ys.length ≤ xs.length → val B (diffsL xs ys) = val B xs - val B ys
  | [], [], _ => by simp [diffsL, val]
  | [], y :: ys, h => absurd h (by simp)
  | x :: xs, [], _ => by simp [diffsL, val]
  | x :: xs, y :: ys, h => by
    simp only [diffsL, val, val_diffs B xs ys (by simpa using h), Int.mul_sub]
    omega
theorem diffs_mem {B : Int} (hB : 0 < B) : ∀ {xs ys : List Int}, Dig B xs → Dig B ys → ∀ s, s ∈ diffsL xs ys → 1 - B ≤ s ∧ s ≤ B - 1
  | [], ys, _, _, s, hs => by simp [diffsL] at hs
  | x :: xs, [], hx, _, s, hs => by have := hx s hs; omega
  | x :: xs, y :: ys, hx, hy, s, hs => by
    rcases List.mem_cons.1 hs with rfl | hs
    · have := hx.head; have := hy.head; omega
    · exact diffs_mem hB hx.tail hy.tail s hs
theorem diffs_drop {xs ys : List Int} {k : Nat} (h1 : k < xs.length) : diffsL (xs.drop k) (ys.drop k) = (xs.getD k 0 - ys.getD k 0) :: diffsL (xs.drop (k + 1)) (ys.drop (k + 1)) := by
  by_cases h2 : k < ys.length
  · rw [List.drop_eq_getElem_cons h1, List.drop_eq_getElem_cons h2]
    simp [diffsL, List.getD_eq_getElem?_getD, h1, h2]
  · rw [List.drop_eq_getElem_cons h1, List.drop_eq_nil_of_le (show ys.length ≤ k by omega), List.drop_eq_nil_of_le (show ys.length ≤ k + 1 by omega)]
    rw [List.getD_eq_getElem?_getD, List.getD_eq_getElem?_getD, List.getElem?_eq_none (show ys.length ≤ k by omega), List.getElem?_eq_getElem h1]
    simp only [diffsL, Option.getD_some, Option.getD_none, Int.sub_zero]
    cases h : xs.drop (k + 1) <;> simp [diffsL]
theorem sub_step {B : Int} {xs ys : List Int} {k : Nat} {c s : Int} (h : k < xs.length) (hs : s = xs.getD k 0 - ys.getD k 0 + c) :
    carryD B (diffsL (xs.drop k) (ys.drop k)) c = s % B :: carryD B (diffsL (xs.drop (k + 1)) (ys.drop (k + 1))) (s / B) := by
  rw [diffs_drop h, hs]
  rfl

/-- A difference that is not negative leaves no borrow. -/
theorem val_sub {B : Int} (hB : 1 < B) {xs ys : List Int} (hx : Dig B xs) (hy : Dig B ys) (hl : ys.length ≤ xs.length) (hv : val B ys ≤ val B xs) : val B (carryD B (diffsL xs ys) 0) = val B xs - val B ys := by
  have h := val_carryD B (diffsL xs ys) 0
  rw [val_diffs B xs ys hl] at h
  have ho := carryO_mem (B := B) (lo := -1) (hi := 0) (diffsL xs ys) 0 (by decide) (by decide) (by
    intro s hs c h0 h1
    have hb := diffs_mem (by omega) hx hy s hs
    constructor
    · have : -1 ≤ (s + c) / B := (Int.le_ediv_iff_mul_le (by omega)).2 (by omega)
      exact this
    · have : (s + c) / B < 1 := Int.ediv_lt_of_lt_mul (by omega) (by omega)
      omega)
  have hlt := val_lt_pow (B := B) (by omega) (dig_carryD (by omega) (diffsL xs ys) 0)
  rw [carryD_length] at hlt
  have : carryO B (diffsL xs ys) 0 = 0 := by
    rcases Int.lt_or_eq_of_le ho.2 with h1 | h1
    · have e : carryO B (diffsL xs ys) 0 = -1 := by omega
      rw [e] at h
      omega
    · exact h1
  rw [this] at h
  omega

theorem carryDO_sums {B : Int} {xs ys : List Int} {k : Nat} {c s : Int} (h : k < xs.length ∨ k < ys.length) (hs : s = xs.getD k 0 + ys.getD k 0 + c) :
    carryD B (sumsL (xs.drop k) (ys.drop k)) c = s % B :: carryD B (sumsL (xs.drop (k + 1)) (ys.drop (k + 1))) (s / B) ∧ carryO B (sumsL (xs.drop k) (ys.drop k)) c = carryO B (sumsL (xs.drop (k + 1)) (ys.drop (k + 1))) (s / B) := by
  rw [sums_drop h, hs]
  exact ⟨rfl, rfl⟩

theorem carryO_sums {B : Int} (hB : 1 < B) {xs ys : List Int} (hx : Dig B xs) (hy : Dig B ys) : 0 ≤ carryO B (sumsL xs ys) 0 ∧ carryO B (sumsL xs ys) 0 ≤ 1 := by
  refine carryO_mem (lo := 0) (hi := 1) _ _ (by decide) (by decide) ?_
  intro s hs c h0 h1
  have hb := sums_mem (by omega) hx hy s hs
  exact ⟨Int.ediv_nonneg (by omega) (by omega), by
    have : (s + c) / B < 2 := Int.ediv_lt_of_lt_mul (by omega) (by omega)
    omega⟩

theorem sums_length_eq : ∀ {xs ys : List Int}, ys.length ≤ xs.length → (sumsL xs ys).length = xs.length
  | [], ys, h => by
    have : ys = [] := List.length_eq_zero_iff.1 (by simpa using h)
    subst this
    rfl
  | x :: xs, [], _ => rfl
  | x :: xs, y :: ys, h => by simp only [sumsL, List.length_cons, sums_length_eq (show ys.length ≤ xs.length by simpa using h)]

/-- Digits with the carry behind them. -/
theorem val_carryDO (B : Int) (ss : List Int) (c : Int) : val B (carryD B ss c ++ [carryO B ss c]) = val B ss + c := by
  rw [val_append, carryD_length]
  have := val_carryD B ss c
  simp only [val, Int.mul_zero, Int.add_zero]
  exact this

theorem carry_length {B : Int} : ∀ (ss : List Int) (c : Int), (carryL B ss c).length ≤ ss.length + 1
  | [], c => by simp only [carryL]; split <;> simp
  | s :: ss, c => by simp only [carryL, List.length_cons]; have := carry_length (B := B) ss ((s + c) / B); omega
theorem sums_length : ∀ xs ys : List Int, (sumsL xs ys).length ≤ xs.length + ys.length
  | [], ys => by simp [sumsL]
  | x :: xs, [] => by simp [sumsL]
  | x :: xs, y :: ys => by simp only [sumsL, List.length_cons]; have := sums_length xs ys; omega

end Go.Proofs.YtladfpljnaippabDoor

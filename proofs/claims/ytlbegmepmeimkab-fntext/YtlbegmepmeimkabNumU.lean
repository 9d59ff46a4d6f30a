/-
  Plain mathematics: the decimal digits of a number, all of them; the text of a number.
-/
import Derived.Test.YtlbegmepmeimkabNumT
namespace Go.Proofs.Ytlbegmepmeimkab

/-- The decimal digits of n as bytes, the lowest first. -/
def decs (n : Int) : List Int := decF n.toNat n

theorem lt_ten (n : Int) : n < (10 ^ n.toNat : Nat) := by
  have h : n.toNat < 10 ^ n.toNat := Nat.lt_pow_self (by decide)
  omega

theorem decs_eq {f : Nat} {n : Int} (h : n < (10 ^ f : Nat)) : decs n = decF f n := decF_more _ _ _ (lt_ten n) h

theorem decs_none {n : Int} (h : n ≤ 0) : decs n = [] := by
  rw [decs_eq (f := 0) (by simp; omega)]; rfl

theorem decs_step {n : Int} (h : 0 < n) : decs n = (48 + n % 10) :: decs (n / 10) := by
  have h1 : n < (10 ^ (n.toNat + 1) : Nat) := by
    have := lt_ten n
    have h2 : 10 ^ n.toNat ≤ 10 ^ (n.toNat + 1) := Nat.pow_le_pow_right (by decide) (by omega)
    omega
  have h3 : n / 10 < (10 ^ n.toNat : Nat) := by
    have := lt_ten n
    omega
  rw [decs_eq h1, decs_eq h3]
  simp only [decF]
  rw [if_neg (by omega)]

theorem decF_length : ∀ (f : Nat) (n : Int), (decF f n).length ≤ f
  | 0, _ => Nat.le_refl 0
  | f + 1, n => by
    have := decF_length f (n / 10)
    simp only [decF]
    split
    · simp
    · simp; omega

theorem decs_length {f : Nat} {n : Int} (h : n < (10 ^ f : Nat)) : (decs n).length ≤ f := by
  rw [decs_eq h]; exact decF_length f n

/-- The text of a number with the sign g and the magnitude n. -/
def textL (g : Bool) (n : Int) : List Int := if n = 0 then [48] else (decs n ++ if g then [45] else []).reverse

/-- f digits of n, also where they are zeros. -/
def padF : Nat → Int → List Int
  | 0, _ => []
  | f + 1, n => (48 + n % 10) :: padF f (n / 10)

theorem padF_length : ∀ (f : Nat) (n : Int), (padF f n).length = f
  | 0, _ => rfl
  | f + 1, n => by simp [padF, padF_length f]

theorem padF_snoc : ∀ (f : Nat) (n : Int), padF (f + 1) n = padF f n ++ [48 + n / (10 ^ f : Nat) % 10]
  | 0, n => by simp [padF]
  | f + 1, n => by
    rw [padF, padF_snoc f (n / 10), padF, List.cons_append]
    rw [Int.ediv_ediv_of_nonneg (by decide), Nat.pow_succ, Nat.mul_comm]
    rfl

theorem padF_add : ∀ (f g : Nat) (n : Int), padF (f + g) n = padF f n ++ padF g (n / (10 ^ f : Nat))
  | 0, g, n => by simp [padF]
  | f + 1, g, n => by
    rw [show f + 1 + g = f + g + 1 by omega, padF, padF_add f g (n / 10), padF, List.cons_append, Int.ediv_ediv_of_nonneg (by decide), Nat.pow_succ, Nat.mul_comm (10 ^ f) 10]
    rfl

/-- Without the zeros behind. -/
def strip : List Int → List Int
  | [] => []
  | t :: ts => if strip ts = [] ∧ t = 48 then [] else t :: strip ts

theorem decF_nil {f : Nat} {n : Int} (h : n < (10 ^ f : Nat)) : decF f n = [] ↔ n ≤ 0 := by
  cases f with
  | zero => simp [decF]; simp at h; omega
  | succ f =>
    simp only [decF]
    split
    · simp; omega
    · simp; omega

theorem strip_decF : ∀ (f : Nat) (n : Int), 0 ≤ n → n < (10 ^ f : Nat) → strip (padF f n) = decF f n
  | 0, _, _, _ => rfl
  | f + 1, n, h0, h1 => by
    have h2 : n / 10 < (10 ^ f : Nat) := by rw [Nat.pow_succ] at h1; omega
    simp only [padF, strip, decF]
    rw [strip_decF f (n / 10) (by omega) h2]
    have h3 := decF_nil h2
    by_cases e : n ≤ 0
    · rw [if_pos ⟨h3.2 (by omega), by omega⟩, if_pos e]
    · rw [if_neg (fun h => by have := h3.1 h.1; have := h.2; omega), if_neg e]

theorem strip_decs {f : Nat} {n : Int} (h0 : 0 ≤ n) (h1 : n < (10 ^ f : Nat)) : strip (padF f n) = decs n := by
  rw [strip_decF f n h0 h1, decs_eq h1]

theorem strip_snoc (t : Int) : ∀ ts : List Int, strip (ts ++ [t]) = if t = 48 then strip ts else ts ++ [t]
  | [] => by simp [strip]
  | u :: ts => by
    simp only [List.cons_append, strip, strip_snoc t ts]
    by_cases e : t = 48
    · simp [e]
    · simp [e]

end Go.Proofs.Ytlbegmepmeimkab

/-
  Plain mathematics: the decimal digits of a number, all of them; the text of a number.
-/
import Derived.Test.YtcjdnomhnlbmbaaGrow2NumT
namespace Go.Proofs.Ytcjdnomhnlbmbaa

/-- The decimal digits of n as bytes, the lowest first. -/
def decs (n : Int) : List Int := decF n.toNat n

theorem lt_ten (n : Int) : n < (10 ^ n.toNat : Nat) := by
  have h : n.toNat < 10 ^ n.toNat := Nat.lt_pow_self (by decide)
  omega

theorem decs_eq {f : Nat} {n : Int} (h : n < (10 ^ f : Nat)) : decs n = decF f n := decF_more _ _ _ (lt_ten n) h

theorem decs_none {n : Int} (h : n ≤ 0) : decs n = [] := by
  rw [decs_eq (f := 0) (by simp; omega)]; rfl

theorem decs_step {n : Int} (h : 0 < n) : decs n = (48 + n % 10) :: decs (n / 10) := by
  have h1 : n < (10 ^ (n.toNat + 1) : Nat) := by
    have := lt_ten n
    have h2 : 10 ^ n.toNat ≤ 10 ^ (n.toNat + 1) := Nat.pow_le_pow_right (by decide) (by omega)
    omega
  have h3 : n / 10 < (10 ^ n.toNat : Nat) := by
    have := lt_ten n
    omega
  rw [decs_eq h1, decs_eq h3]
  simp only [decF]
  rw [if_neg (by omega)]

theorem decF_length : ∀ (f : Nat) (n : Int), (decF f n).length ≤ f
  | 0, _ => Nat.le_refl 0
  | f + 1, n => by
    have := decF_length f (n / 10)
    simp only [decF]
    split
    · simp
    · simp; omega

theorem decs_length {f : Nat} {n : Int} (h : n < (10 ^ f : Nat)) : (decs n).length ≤ f := by
  rw [decs_eq h]; exact decF_length f n

/-- The text of a number with the sign g and the magnitude n. -/
def textL (g : Bool) (n : Int) : List Int := if n = 0 then [48] else (decs n ++ if g then [45] else []).reverse

/-- f digits of n, also where they are zeros. -/
def padF : Nat → Int → List Int
  | 0, _ => []
  | f + 1, n => (48 + n % 10) :: padF f (n / 10)

theorem padF_length : ∀ (f : Nat) (n : Int), (padF f n).length = f
  | 0, _ => rfl
  | f + 1, n => by simp [padF, padF_length f]

theorem padF_snoc : ∀ (f : Nat) (n : Int), padF (f + 1) n = padF f n ++ [48 + n / (10 ^ f : Nat) % 10]
  | 0, n => by simp [padF]
  | f + 1, n => by
    rw [padF, padF_snoc f (n / 10), padF, List.cons_append]
    rw [Int.ediv_ediv_of_nonneg (by decide), Nat.pow_succ, Nat.mul_comm]
    rfl

theorem padF_add : ∀ (f g : Nat) (n : Int), padF (f + g) n = padF f n ++ padF g (n / (10 ^ f : Nat))
  | 0, g, n => by simp [padF]
  | f + 1, g, n => by
    rw [show f + 1 + g = f + g + 1 by omega, padF, padF_add f g (n / 10), padF, List.cons_append, Int.ediv_ediv_of_nonneg (by decide), Nat.pow_succ, Nat.mul_comm (10 ^ f) 10]
    rfl

/-- Without the zeros behind. -/
def strip : List Int → List Int
  | [] => []
  | t :: ts => if strip ts = [] ∧ t = 48 then [] else t :: strip ts

theorem decF_nil {f : Nat} {n : Int} (h : n < (10 ^ f : Nat)) : decF f n = [] ↔ n ≤ 0 := by
  cases f with
  | zero => simp [decF]; simp at h; omega
  | succ f =>
    simp only [decF]
    split
    · simp; omega
    · simp; omega

theorem strip_decF : ∀ (f : Nat) (n : Int), 0 ≤ n → n < (10 ^ f : Nat) → strip (padF f n) = decF f n
  | 0, _, _, _ => rfl
  | f + 1, n, h0, h1 => by
    have h2 : n / 10 < (10 ^ f : Nat) := by rw [Nat.pow_succ] at h1; omega
    simp only [padF, strip, decF]
    rw [strip_decF f (n / 10) (by omega) h2]
    have h3 := decF_nil h2
    by_cases e : n ≤ 0
    · rw [if_pos ⟨h3.2 (by omega), by omega⟩, if_pos e]
    · rw [if_neg (fun h => by have := h3.1 h.1; have := h.2; omega), if_neg e]

theorem strip_decs {f : Nat} {n : Int} (h0 : 0 ≤ n) (h1 : n < (10 ^ f : Nat)) : strip (padF f n) = decs n := by
  rw [strip_decF f n h0 h1, decs_eq h1]

theorem strip_snoc (t : Int) : ∀ ts : List Int, strip (ts ++ [t]) = if t = 48 then strip ts else ts ++ [t]
  | [] => by simp [strip]
  | u :: ts => by
    simp only [List.cons_append, strip, strip_snoc t ts]
    by_cases e : t = 48
    · simp [e]
    · simp [e]

end Go.Proofs.Ytcjdnomhnlbmbaa

/-
  Rows that lie beside a slice that grows.
-/
namespace Go.Proofs.Ytcjdnomhnlbmbaa
open Go.RowKit

/-- The row lies in another block than the slice v. -/
def Off (v : Value) (a : Option Addr) (zs : List Int) : Prop := zs = [] ∨ ∀ p, a = some p → v.ownBlock ≠ some p.block

theorem own_later {w w' : World} {base : Nat} {e : TypeId} {v : Value} {n : Nat} {xs : List Value} (h : w.ownsRow base e 1 v n xs) (hb : Below w.heap.size w w') : w'.ownsRow base e 1 v n xs := by
  refine ⟨h.1, ?_⟩
  rcases h.2 with h1 | ⟨g, cap, cur, h1, h2, h3, h4⟩
  · exact .inl h1
  · have hg : g < w.heap.size := by
      by_cases hp : g < w.heap.size
      · exact hp
      · rw [Array.getElem?_eq_none (by omega)] at h3; cases h3
    exact .inr ⟨g, cap, cur, h1, h2, (hb.block g hg).trans h3, h4⟩

theorem own_block {w : World} {base : Nat} {e : TypeId} {v : Value} {n : Nat} {xs : List Value} (h : w.ownsRow base e 1 v n xs) {j : Nat} (hj : v.ownBlock = some j) : j < w.heap.size := by
  rcases h.2 with ⟨h1, _⟩ | ⟨g, cap, cur, h1, h2, h3, h4⟩
  · rw [h1] at hj; simp [Value.ownBlock] at hj
  · rw [h1] at hj
    simp [Value.ownBlock] at hj
    subst hj
    by_cases hp : g < w.heap.size
    · exact hp
    · rw [Array.getElem?_eq_none (by omega)] at h3; cases h3

theorem Off.new {k : IntKind} {w w' : World} {base : Nat} {e : TypeId} {v : Value} {n : Nat} {xs : List Value} {a : Option Addr} {zs : List Int} (h : w.ownsRow base e 1 v n xs) (hr : RowNew k w' w.heap.size a zs) : Off v a zs := by
  rcases hr with hr | ⟨b, off, rfl, hB, _⟩
  · exact .inl hr
  · refine .inr fun p hp hv => ?_
    injection hp with hp
    subst hp
    have := own_block h hv
    simp at this
    omega

theorem Off.stay {k : IntKind} {w w' : World} {v v' : Value} {a : Option Addr} {zs : List Int} (h : Off v a zs) (hr : RowAt k w a zs) (hs : w.heap.size ≤ w'.heap.size) (hk : ∀ j, j < w.heap.size → v.ownBlock ≠ some j → w'.heap[j]? = w.heap[j]?) (hv : v'.ownBlock = v.ownBlock ∨ ∃ j, v'.ownBlock = some j ∧ w.heap.size ≤ j) : RowAt k w' a zs ∧ Off v' a zs := by
  rcases hr with hr | ⟨b, off, rfl, hb, hc⟩
  · exact ⟨.inl hr, .inl hr⟩
  · rcases h with h | h
    · exact ⟨.inl h, .inl h⟩
    · have hne := h _ rfl
      simp at hne
      refine ⟨.inr ⟨b, off, rfl, by omega, fun j hj => ?_⟩, .inr fun p hp hv' => ?_⟩
      · rw [World.cell?_of_block (w := w) (hk b hb hne)]; exact hc j hj
      · injection hp with hp
        subst hp
        simp at hv'
        rcases hv with hv | ⟨j, hj, hle⟩
        · rw [hv] at hv'; exact hne hv'
        · rw [hj] at hv'; injection hv' with hv'; omega

theorem Off.none (a : Option Addr) (zs : List Int) (n c : Nat) : Off (.slice none n c) a zs := .inr fun p _ h => by simp [Value.ownBlock] at h

/-- Numbers with a sign that are one number. -/
theorem sg_inj {g g' : Bool} {n m : Int} (h : (if g then -n else n) = (if g' then -m else m)) (hn : 0 ≤ n) (hm : 0 ≤ m) : n = m := by
  cases g <;> cases g' <;> simp at h <;> omega

theorem val_fitsK {zs : List Int} {K M : Nat} (h : Dig 4294967296 zs) (hn : zs.length ≤ K) (hK : 4294967296 ^ K ≤ M) : val 4294967296 zs < (M : Nat) := by
  have h1 := val_lt_pow (by decide) h
  have e : (4294967296 : Int) = ((4294967296 : Nat) : Int) := rfl
  have h2 : (4294967296 : Nat) ^ zs.length ≤ M := Nat.le_trans (Nat.pow_le_pow_right (by decide) hn) hK
  rw [e, ← Int.natCast_pow] at h1
  exact Int.lt_of_lt_of_le h1 (Int.ofNat_le.2 h2)

theorem val_fits {zs : List Int} (h : Dig 4294967296 zs) (hn : zs.length ≤ 512) : val 4294967296 zs < (10 ^ 5000 : Nat) := val_fitsK h hn (by decide +kernel)

theorem one_new {k : IntKind} (w : World) (x : Int) (t : TypeId) {B : Nat} (hB : B ≤ w.heap.size) : RowNew k (w.alloc (.cells #[.int k x] t)) B (some ⟨w.heap.size, 0, none⟩) [x] := by
  refine .inr ⟨_, 0, rfl, hB, by simp, fun j hj => ?_, fun j hj => ?_⟩
  · have : j = 0 := by simpa using hj
    subst this
    simp [go_sem]
  · have : j = 0 := by simpa using hj
    subst this
    simp [go_sem]

end Go.Proofs.Ytcjdnomhnlbmbaa

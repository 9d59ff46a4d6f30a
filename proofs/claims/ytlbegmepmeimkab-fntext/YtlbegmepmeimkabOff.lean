/-
  Rows that lie beside a slice that grows.
-/
import Derived.Test.YtlbegmepmeimkabGrow2
import Derived.Test.YtlbegmepmeimkabNumU
namespace Go.Proofs.Ytlbegmepmeimkab
open Go.RowKit

/-- The row lies in another block than the slice v. -/
def Off (v : Value) (a : Option Addr) (zs : List Int) : Prop := zs = [] ∨ ∀ p, a = some p → v.ownBlock ≠ some p.block

theorem own_later {w w' : World} {base : Nat} {e : TypeId} {v : Value} {n : Nat} {xs : List Value} (h : w.ownsRow base e 1 v n xs) (hb : Below w.heap.size w w') : w'.ownsRow base e 1 v n xs := by
  refine ⟨h.1, ?_⟩
  rcases h.2 with h1 | ⟨g, cap, cur, h1, h2, h3, h4⟩
  · exact .inl h1
  · have hg : g < w.heap.size := by
      by_cases hp : g < w.heap.size
      · exact hp
      · rw [Array.getElem?_eq_none (by omega)] at h3; cases h3
    exact .inr ⟨g, cap, cur, h1, h2, (hb.block g hg).trans h3, h4⟩

theorem own_block {w : World} {base : Nat} {e : TypeId} {v : Value} {n : Nat} {xs : List Value} (h : w.ownsRow base e 1 v n xs) {j : Nat} (hj : v.ownBlock = some j) : j < w.heap.size := by
  rcases h.2 with ⟨h1, _⟩ | ⟨g, cap, cur, h1, h2, h3, h4⟩
  · rw [h1] at hj; simp [Value.ownBlock] at hj
  · rw [h1] at hj
    simp [Value.ownBlock] at hj
    subst hj
    by_cases hp : g < w.heap.size
    · exact hp
    · rw [Array.getElem?_eq_none (by omega)] at h3; cases h3

theorem Off.new {k : IntKind} {w w' : World} {base : Nat} {e : TypeId} {v : Value} {n : Nat} {xs : List Value} {a : Option Addr} {zs : List Int} (h : w.ownsRow base e 1 v n xs) (hr : RowNew k w' w.heap.size a zs) : Off v a zs := by
  rcases hr with hr | ⟨b, off, rfl, hB, _⟩
  · exact .inl hr
  · refine .inr fun p hp hv => ?_
    injection hp with hp
    subst hp
    have := own_block h hv
    simp at this
    omega

theorem Off.stay {k : IntKind} {w w' : World} {v v' : Value} {a : Option Addr} {zs : List Int} (h : Off v a zs) (hr : RowAt k w a zs) (hs : w.heap.size ≤ w'.heap.size) (hk : ∀ j, j < w.heap.size → v.ownBlock ≠ some j → w'.heap[j]? = w.heap[j]?) (hv : v'.ownBlock = v.ownBlock ∨ ∃ j, v'.ownBlock = some j ∧ w.heap.size ≤ j) : RowAt k w' a zs ∧ Off v' a zs := by
  rcases hr with hr | ⟨b, off, rfl, hb, hc⟩
  · exact ⟨.inl hr, .inl hr⟩
  · rcases h with h | h
    · exact ⟨.inl h, .inl h⟩
    · have hne := h _ rfl
      simp at hne
      refine ⟨.inr ⟨b, off, rfl, by omega, fun j hj => ?_⟩, .inr fun p hp hv' => ?_⟩
      · rw [World.cell?_of_block (w := w) (hk b hb hne)]; exact hc j hj
      · injection hp with hp
        subst hp
        simp at hv'
        rcases hv with hv | ⟨j, hj, hle⟩
        · rw [hv] at hv'; exact hne hv'
        · rw [hj] at hv'; injection hv' with hv'; omega

theorem Off.none (a : Option Addr) (zs : List Int) (n c : Nat) : Off (.slice none n c) a zs := .inr fun p _ h => by simp [Value.ownBlock] at h

/-- Numbers with a sign that are one number. -/
theorem sg_inj {g g' : Bool} {n m : Int} (h : (if g then -n else n) = (if g' then -m else m)) (hn : 0 ≤ n) (hm : 0 ≤ m) : n = m := by
  cases g <;> cases g' <;> simp at h <;> omega

theorem val_fitsK {zs : List Int} {K M : Nat} (h : Dig 4294967296 zs) (hn : zs.length ≤ K) (hK : 4294967296 ^ K ≤ M) : val 4294967296 zs < (M : Nat) := by
  have h1 := val_lt_pow (by decide) h
  have e : (4294967296 : Int) = ((4294967296 : Nat) : Int) := rfl
  have h2 : (4294967296 : Nat) ^ zs.length ≤ M := Nat.le_trans (Nat.pow_le_pow_right (by decide) hn) hK
  rw [e, ← Int.natCast_pow] at h1
  exact Int.lt_of_lt_of_le h1 (Int.ofNat_le.2 h2)

theorem val_fits {zs : List Int} (h : Dig 4294967296 zs) (hn : zs.length ≤ 512) : val 4294967296 zs < (10 ^ 5000 : Nat) := val_fitsK h hn (by decide +kernel)

theorem one_new {k : IntKind} (w : World) (x : Int) (t : TypeId) {B : Nat} (hB : B ≤ w.heap.size) : RowNew k (w.alloc (.cells #[.int k x] t)) B (some ⟨w.heap.size, 0, none⟩) [x] := by
  refine .inr ⟨_, 0, rfl, hB, by simp, fun j hj => ?_, fun j hj => ?_⟩
  · have : j = 0 := by simpa using hj
    subst this
    simp [go_sem]
  · have : j = 0 := by simpa using hj
    subst this
    simp [go_sem]

end Go.Proofs.Ytlbegmepmeimkab

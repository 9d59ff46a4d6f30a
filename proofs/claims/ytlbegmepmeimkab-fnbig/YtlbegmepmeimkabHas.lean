/-
  A box that is still zero; what a region carries.
-/
import Derived.Test.YtlbegmepmeimkabBase
namespace Go.Proofs.Ytlbegmepmeimkab
open Go.RowKit

/-- A box of a Big that is still zero. -/
structure Has (b : Nat) (W : World) : Prop where
  r1 : W.cell? ⟨b, 0, none⟩ = some (.bool false)
  r2 : W.cell? ⟨b, 1, none⟩ = some (.slice none 0 0)
  r3 : ∀ j, W.frozen? ⟨b, j, none⟩ = false
  lt : b < W.heap.size

theorem Has.new (W : World) (t : TypeId) : Has W.heap.size (W.alloc (.cells #[.bool false, .slice none 0 0] t)) := ⟨by simp [go_sem], by simp [go_sem], by intro j; simp [go_sem], by simp⟩

theorem Has.later {b : Nat} {W W' : World} (h : Has b W) (hb : Below W.heap.size W W') : Has b W' :=
  ⟨(hb.cell (p := ⟨b, 0, none⟩) h.lt).trans h.r1, (hb.cell (p := ⟨b, 1, none⟩) h.lt).trans h.r2, fun j => (hb.frozen (p := ⟨b, j, none⟩) h.lt).trans (h.r3 j), Nat.lt_of_lt_of_le h.lt hb.size⟩

/-- The last of the facts that a region carries. -/
theorem held_last {p q r s t : Prop} (h : p ∧ q ∧ r ∧ s ∧ t) : t := h.2.2.2.2

end Go.Proofs.Ytlbegmepmeimkab

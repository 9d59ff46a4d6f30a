/-
  The box of a Dyadic that is handed in.
-/
import Derived.Test.YtladfpljnaippaaBox
namespace Go.Proofs.Ytladfpljnaippaa
open Go.RowKit

/-- The argument's box. -/
structure BxD (w : World) (u v e : Value) (W : World) : Prop where
  q0 : W.cell? ⟨w.heap.size, 0, none⟩ = some u
  q1 : W.cell? ⟨w.heap.size, 1, none⟩ = some v
  q2 : W.cell? ⟨w.heap.size, 2, none⟩ = some e
  le : w.heap.size + 1 ≤ W.heap.size
  bel : Below w.heap.size w W

theorem BxD.start (w : World) (u v e : Value) (t : TypeId) : BxD w u v e (w.alloc (.cells #[u, v, e] t)) := by
  refine ⟨?_, ?_, ?_, ?_, bel0 _ _⟩
  all_goals simp [go_sem]

theorem BxD.later {w : World} {u v e : Value} {W W' : World} (h : BxD w u v e W) (hb : Below W.heap.size W W') : BxD w u v e W' := by
  have hl := h.le
  exact ⟨(hb.cell (by simp; omega)).trans h.q0, (hb.cell (by simp; omega)).trans h.q1, (hb.cell (by simp; omega)).trans h.q2, Nat.le_trans h.le hb.size, h.bel.trans (hb.mono (by omega))⟩

end Go.Proofs.Ytladfpljnaippaa

/-
  Boxes of three cells, held over a region.
-/
import Derived.Test.YtladfpljnaippabDoorDy0
namespace Go.Proofs.YtladfpljnaippabDoor
open Go.RowKit

theorem Bx3.held {w : World} {u v e : Value} {W W' : World} (h : Bx3 w u v e W) (hb : Below (w.heap.size + 1) W W') : W'.cell? ⟨w.heap.size, 0, none⟩ = some u ∧ W'.cell? ⟨w.heap.size, 1, none⟩ = some v ∧ W'.cell? ⟨w.heap.size, 2, none⟩ = some e ∧ Below (w.heap.size + 1) W W' :=
  ⟨(hb.cell (by simp)).trans h.q0, (hb.cell (by simp)).trans h.q1, (hb.cell (by simp)).trans h.q2, hb⟩

end Go.Proofs.YtladfpljnaippabDoor

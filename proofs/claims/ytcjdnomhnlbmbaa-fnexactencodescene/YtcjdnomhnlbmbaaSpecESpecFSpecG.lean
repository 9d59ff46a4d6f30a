/-
  The model's differences of magnitudes.
-/
import Derived.Test.YtcjdnomhnlbmbaaSpecD
import Derived.Deep.RegionHeld3
namespace Go.Proofs.Ytcjdnomhnlbmbaa
open Go.RowKit

end Go.Proofs.Ytcjdnomhnlbmbaa

/-
  Signs turned.
-/
namespace Go.Proofs.Ytcjdnomhnlbmbaa
open Go.RowKit

theorem sg_not (g : Bool) (n : Int) : sg (!g) n = - sg g n := by cases g <;> simp [sg]

end Go.Proofs.Ytcjdnomhnlbmbaa

/-
  The model's sums.
-/
namespace Go.Proofs.Ytcjdnomhnlbmbaa
open Go.RowKit

/-- What a region of l1add holds of memory: both boxes, and that nothing below the answer's own box has turned. -/
def AddS (w : World) (g g' : Bool) (v v' : Value) (w0 w1 : World) : Prop :=
  w1.cell? ⟨w.heap.size, 0, none⟩ = some (.bool g) ∧ w1.cell? ⟨w.heap.size, 1, none⟩ = some v ∧ w1.cell? ⟨w.heap.size + 1, 0, none⟩ = some (.bool g') ∧ w1.cell? ⟨w.heap.size + 1, 1, none⟩ = some v' ∧ Below (w.heap.size + 1 + 1) w0 w1

theorem addS_of {w w0 w1 : World} {g g' : Bool} {v v' : Value} (h : AddS w g g' v v' w0 w0) (hb : Below (w.heap.size + 1 + 1) w0 w1) : w1.cell? ⟨w.heap.size, 0, none⟩ = some (.bool g) ∧ w1.cell? ⟨w.heap.size, 1, none⟩ = some v ∧ w1.cell? ⟨w.heap.size + 1, 0, none⟩ = some (.bool g') ∧ w1.cell? ⟨w.heap.size + 1, 1, none⟩ = some v' ∧ Below (w.heap.size + 1 + 1) w0 w1 :=
  ⟨(hb.cell (by simp; omega)).trans h.1, (hb.cell (by simp; omega)).trans h.2.1, (hb.cell (by simp)).trans h.2.2.1, (hb.cell (by simp)).trans h.2.2.2.1, hb⟩

/-- The world behind the boxes of two arguments and of the answer. -/
theorem addF (w : World) (g g' : Bool) (v v' z : Value) (t t' t2 : TypeId) (W0 : World) (hW : W0 = ((w.alloc (.cells #[.bool g, v] t)).alloc (.cells #[.bool g', v'] t')).alloc (.cells #[.bool false, z] t2)) :
    AddS w g g' v v' W0 W0 ∧ W0.cell? ⟨w.heap.size + 1 + 1, 0, none⟩ = some (.bool false) ∧ W0.cell? ⟨w.heap.size + 1 + 1, 1, none⟩ = some z ∧ (∀ j, W0.frozen? ⟨w.heap.size + 1 + 1, j, none⟩ = false) ∧ W0.heap.size = w.heap.size + 1 + 1 + 1 ∧ Below w.heap.size w W0 := by
  subst hW
  refine ⟨⟨?_, ?_, ?_, ?_, Below.refl _ _⟩, ?_, ?_, ?_, ?_, bel3 _ _ _ _⟩
  all_goals simp [go_sem]

end Go.Proofs.Ytcjdnomhnlbmbaa

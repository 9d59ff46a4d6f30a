/-
  Lists of Points: equality, marks.
-/
import Derived.Test.YtfhfepphccaadaaScP
namespace Go.Proofs.Ytfhfepphccaadaa
open Go.RowKit

theorem lastPoint {p0 p1 p2 p3 p4 p5 q : Prop} (h : p0 ∧ p1 ∧ p2 ∧ p3 ∧ p4 ∧ p5 ∧ q) : q := by
  obtain ⟨_, _, _, _, _, _, h⟩ := h
  exact h

end Go.Proofs.Ytfhfepphccaadaa

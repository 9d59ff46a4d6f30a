/-
  Lists of Tris: equality, marks.
-/
import Derived.Test.YtfhfepphccaadaaScT
namespace Go.Proofs.Ytfhfepphccaadaa
open Go.RowKit

theorem lastTri {p0 p1 p2 p3 p4 p5 p6 p7 p8 p9 p10 p11 p12 p13 p14 p15 p16 p17 q : Prop} (h : p0 ∧ p1 ∧ p2 ∧ p3 ∧ p4 ∧ p5 ∧ p6 ∧ p7 ∧ p8 ∧ p9 ∧ p10 ∧ p11 ∧ p12 ∧ p13 ∧ p14 ∧ p15 ∧ p16 ∧ p17 ∧ q) : q := by
  obtain ⟨_, _, _, _, _, _, _, _, _, _, _, _, _, _, _, _, _, _, h⟩ := h
  exact h

end Go.Proofs.Ytfhfepphccaadaa

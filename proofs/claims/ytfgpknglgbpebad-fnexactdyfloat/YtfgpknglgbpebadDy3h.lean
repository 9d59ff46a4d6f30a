/-
  The parts of a valid Dyadic.
-/
import Derived.Test.YtfgpknglgbpebadDy1
namespace Go.Proofs.Ytfgpknglgbpebad
open Go.RowKit

theorem validD_parts {g : Bool} {zs : List Int} {E : Int} (h : validD g zs E = true) : validB g zs = true ∧ -20000 ≤ E ∧ E ≤ 20000 := by
  unfold validD at h
  simp only [Bool.and_eq_true, decide_eq_true_eq] at h
  exact ⟨h.1, h.2.1, h.2.2⟩

end Go.Proofs.Ytfgpknglgbpebad

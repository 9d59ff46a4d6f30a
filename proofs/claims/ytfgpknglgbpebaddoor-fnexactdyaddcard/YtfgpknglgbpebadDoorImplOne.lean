/-
  The program's one.
-/
import Derived.Test.YtfgpknglgbpebadDoorImplB
import Derived.Test.YtfgpknglgbpebadDoorRes
namespace Go.Proofs.YtfgpknglgbpebadDoor
open Go.RowKit

/-- What one hands back. -/
def OneOut (w : World) (e : Ending) (w' : World) : Prop := ∃ b, e = .returned (.agg #[.bool false, .slice (some ⟨b, 0, none⟩) 1 1]) ∧ w.heap.size ≤ b ∧ b < w'.heap.size ∧ w'.cell? ⟨b, 0, none⟩ = some (.int .u32 1) ∧ Below w.heap.size w w'

set_option maxHeartbeats 400000 in
theorem one_any (w : World) : Calls Tryd.prog 53 #[] w fun e w' => OneOut w e w' := by
  go_enter Tryd.func53, Tryd.ntmps53
  go_wp2
  refine bodyPost_ret (v := .agg #[.bool false, .slice (some ⟨w.heap.size + 1, 0, none⟩) 1 1]) (by simp [results, Tryd.results53, go_sem]) rfl ?_
  exact ⟨w.heap.size + 1, rfl, by omega, by simp, by simp [go_sem], bel2 _ _ _⟩

end Go.Proofs.YtfgpknglgbpebadDoor

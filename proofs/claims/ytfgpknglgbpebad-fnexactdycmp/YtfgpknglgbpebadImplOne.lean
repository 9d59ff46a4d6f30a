/-
  The program's one.
-/
import Derived.Test.YtfgpknglgbpebadImplB
import Derived.Test.YtfgpknglgbpebadRes
namespace Go.Proofs.Ytfgpknglgbpebad
open Go.RowKit

/-- What one hands back. -/
def OneOut (w : World) (e : Ending) (w' : World) : Prop := ∃ b, e = .returned (.agg #[.bool false, .slice (some ⟨b, 0, none⟩) 1 1]) ∧ w.heap.size ≤ b ∧ b < w'.heap.size ∧ w'.cell? ⟨b, 0, none⟩ = some (.int .u32 1) ∧ Below w.heap.size w w'

set_option maxHeartbeats 400000 in
theorem one_any (w : World) : Calls Try.prog 96 #[] w fun e w' => OneOut w e w' := by
  go_enter Try.func96, Try.ntmps96
  go_wp2
  refine bodyPost_ret (v := .agg #[.bool false, .slice (some ⟨w.heap.size + 1, 0, none⟩) 1 1]) (by simp [results, Try.results96, go_sem]) rfl ?_
  exact ⟨w.heap.size + 1, rfl, by omega, by simp, by simp [go_sem], bel2 _ _ _⟩

end Go.Proofs.Ytfgpknglgbpebad

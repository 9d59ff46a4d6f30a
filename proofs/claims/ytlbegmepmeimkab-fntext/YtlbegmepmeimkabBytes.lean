/-
  The laws' own helpers over bytes.
-/
import Derived.Test.YtlbegmepmeimkabMarks
namespace Go.Proofs.Ytlbegmepmeimkab
open Go.RowKit

theorem Try.info5 : (Try.prog.info? 5).map (fun i => (i.zero, i.size, i.bytes)) = some (some (.int .u8 0), 1, 1) := by kernel_rfl

/-- A store into a row that is being marked. -/
theorem mark_set {wr : World} {b off n L : Nat} (h : ∀ j, j < L → ∃ v, wr.cell? ⟨b, off + j, none⟩ = some v) (hf : ∀ j, j < L → wr.frozen? ⟨b, off + j, none⟩ = false) (hn : n < L) (u : Value) :
    (∀ j, j < L → ∃ v, (wr.setCell ⟨b, off + n, none⟩ u).cell? ⟨b, off + j, none⟩ = some v) ∧ (∀ j, j < L → (wr.setCell ⟨b, off + n, none⟩ u).frozen? ⟨b, off + j, none⟩ = false) := by
  refine ⟨fun j hj => ?_, fun j hj => ?_⟩
  · by_cases e : j = n
    · subst e
      obtain ⟨v, hv⟩ := h j hj
      exact ⟨_, World.cell?_setCell_same _ _ _ hv⟩
    · rw [World.cell?_setCell_other _ _ _ _ (by intro hh; apply e; have := congrArg Addr.off hh; simp at this; omega)]; exact h j hj
  · rw [World.frozen?_setCell]; exact hf j hj

end Go.Proofs.Ytlbegmepmeimkab

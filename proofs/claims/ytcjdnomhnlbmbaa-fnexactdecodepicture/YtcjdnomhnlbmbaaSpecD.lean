/-
  The model's order, sums and differences of magnitudes.
-/
import Derived.Test.YtcjdnomhnlbmbaaSpecC
namespace Go.Proofs.Ytcjdnomhnlbmbaa
open Go.RowKit

theorem getD_out {zs : List Int} {k : Nat} (h : ¬ k < zs.length) : zs.getD k 0 = 0 := by
  rw [List.getD_eq_getElem?_getD, List.getElem?_eq_none (by omega)]; rfl

/-- Element k of a row that is read, in a later world. -/
theorem row_cell {kd : IntKind} {w wr : World} {a : Option Addr} {zs : List Int} (hz : RowAt kd w a zs) (hb : Below w.heap.size w wr) {k : Nat} (h : k < zs.length) : ∃ b off, a = some ⟨b, off, none⟩ ∧ wr.cell? ⟨b, off + k, none⟩ = some (.int kd (zs.getD k 0)) := by
  obtain ⟨b, off, h1, h2, h3⟩ := hz.resolve_left (by intro e; subst e; simp at h)
  exact ⟨b, off, h1, (hb.cell (p := ⟨b, off + k, none⟩) h2).trans (h3 k h)⟩

theorem ret_int {k : IntKind} {a b : Int} (h : a = b) : Ending.returned (.int k a) = .returned (.int k b) := by rw [h]

end Go.Proofs.Ytcjdnomhnlbmbaa

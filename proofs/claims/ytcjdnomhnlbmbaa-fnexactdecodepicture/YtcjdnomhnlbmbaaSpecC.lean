/-
  The model's way from digits back to limbs.
-/
import Derived.Test.YtcjdnomhnlbmbaaSpecB
namespace Go.Proofs.Ytcjdnomhnlbmbaa
open Go.RowKit

/-- What l1big answers: the number's Big, or the zero Big with code 2. -/
def bigOut (g : Bool) (ds : List Int) : Bool × List Int × Int := if (joinL ds).length ≤ 512 then (g, joinL ds, 0) else (false, [], 2)

/-- The loop's own memory behind one round. -/
theorem big_step {S : Nat} {w0 wr w1 : World} {e : TypeId} {v v' : Value} {n : Nat} {xs : List Value} (hown1 : w1.ownsRow (S + 1 + 1 + 1) e 1 v' n xs) (hb1 : Below (S + 1 + 1 + 1) wr w1) (p0 : wr.cell? ⟨S + 1 + 1, 0, none⟩ = some (.bool false)) (p1 : wr.cell? ⟨S + 1 + 1, 1, none⟩ = some v)
    (p2 : ∀ j, wr.frozen? ⟨S + 1 + 1, j, none⟩ = false) (hnx : Below (S + 1 + 1) w0 wr) (hs : S + 1 + 1 + 1 ≤ wr.heap.size) :
    (w1.setCell ⟨S + 1 + 1, 1, none⟩ v').ownsRow (S + 1 + 1 + 1) e 1 v' n xs ∧ (w1.setCell ⟨S + 1 + 1, 1, none⟩ v').cell? ⟨S + 1 + 1, 0, none⟩ = some (.bool false) ∧ (w1.setCell ⟨S + 1 + 1, 1, none⟩ v').cell? ⟨S + 1 + 1, 1, none⟩ = some v' ∧
      (∀ j, (w1.setCell ⟨S + 1 + 1, 1, none⟩ v').frozen? ⟨S + 1 + 1, j, none⟩ = false) ∧ Below (S + 1 + 1) w0 (w1.setCell ⟨S + 1 + 1, 1, none⟩ v') ∧ S + 1 + 1 + 1 ≤ (w1.setCell ⟨S + 1 + 1, 1, none⟩ v').heap.size := by
  refine ⟨ownsRow_setCell_below hown1 (by simp) _, ?_, ?_, ?_, ?_, ?_⟩
  · rw [World.cell?_setCell_other _ _ _ _ (by intro hh; have := congrArg Addr.off hh; simp at this)]
    exact (hb1.cell (by simp)).trans p0
  · exact World.cell?_setCell_same _ _ _ ((hb1.cell (by simp)).trans p1)
  · intro j
    rw [World.frozen?_setCell]
    exact (hb1.frozen (by simp)).trans (p2 j)
  · exact (hnx.trans (hb1.mono (by omega))).setCell (by simp) _
  · have := hb1.size
    simp
    omega

end Go.Proofs.Ytcjdnomhnlbmbaa

/-
  The laws' own helpers over Bigs, and both BigValid.
-/
import Derived.Test.YtcjdnomhnlbmbaaUtil
namespace Go.Proofs.Ytcjdnomhnlbmbaa
open Go.RowKit

theorem len_ne {zs : List Int} (h : ¬ zs.length = 0) : ((zs.length : Int) == 0) = false := by
  rw [beq_eq_false_iff_ne]; omega

/-- A Big is valid. -/
def validB (g : Bool) (zs : List Int) : Bool := if zs.length = 0 then !g else (decide (zs.length ≤ 512) && (zs.getD (zs.length - 1) 0 != 0))

end Go.Proofs.Ytcjdnomhnlbmbaa

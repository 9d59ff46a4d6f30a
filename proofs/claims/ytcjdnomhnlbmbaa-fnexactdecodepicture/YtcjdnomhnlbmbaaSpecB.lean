/-
  The model's way from limbs to digits and back.
-/
import Derived.Test.YtcjdnomhnlbmbaaGrow
import Derived.Test.YtcjdnomhnlbmbaaBigs
namespace Go.Proofs.Ytcjdnomhnlbmbaa
open Go.RowKit

theorem split_take {zs : List Int} {k : Nat} (h : k < zs.length) : splitL (zs.take (k + 1)) = (splitL (zs.take k) ++ [zs.getD k 0 % 65536]) ++ [zs.getD k 0 / 65536] := by
  rw [List.take_succ_eq_append_getElem h, split_snoc]
  simp [List.getD_eq_getElem?_getD, h]

end Go.Proofs.Ytcjdnomhnlbmbaa

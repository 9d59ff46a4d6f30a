/-
  FnExactDecodePicture.
-/
import Derived.Test.YtcjdnomhnlbmbaaFromDpDraw0SpD1IdA
import Derived.Test.YtcjdnomhnlbmbaaIpCIqE
namespace Go.Proofs.Ytcjdnomhnlbmbaa

theorem fnExactDecodePicture_holds : Rows.FnExactDecodePictureSaid := fnExactDecodePicture_from (fun a c bs w hl _ hu hz => decP_any a c bs w hl hu hz) decPI_any

#print axioms fnExactDecodePicture_holds
end Go.Proofs.Ytcjdnomhnlbmbaa

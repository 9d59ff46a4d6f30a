/-
  FnExactEncodePicture.
-/
import Derived.Test.YtcjdnomhnlbmbaaFromEp
import Derived.Test.YtcjdnomhnlbmbaaIpC
namespace Go.Proofs.Ytcjdnomhnlbmbaa

theorem fnExactEncodePicture_holds : Rows.FnExactEncodePictureSaid := fnExactEncodePicture_from encPI_any

#print axioms fnExactEncodePicture_holds
end Go.Proofs.Ytcjdnomhnlbmbaa

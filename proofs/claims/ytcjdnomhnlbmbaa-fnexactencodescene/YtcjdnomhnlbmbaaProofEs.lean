/-
  FnExactEncodeScene.
-/
import Derived.Test.YtcjdnomhnlbmbaaFromEs
import Derived.Test.YtcjdnomhnlbmbaaIeS
namespace Go.Proofs.Ytcjdnomhnlbmbaa

theorem fnExactEncodeScene_holds : Rows.FnExactEncodeSceneSaid := fnExactEncodeScene_from encI_any

#print axioms fnExactEncodeScene_holds
end Go.Proofs.Ytcjdnomhnlbmbaa

/-
  FnExactValidScene.
-/
import Derived.Test.YtcjdnomhnlbmbaaFromVs
import Derived.Test.YtcjdnomhnlbmbaaIvS
namespace Go.Proofs.Ytcjdnomhnlbmbaa

theorem fnExactValidScene_holds : Rows.FnExactValidSceneSaid := fnExactValidScene_from vldI_any

#print axioms fnExactValidScene_holds

end Go.Proofs.Ytcjdnomhnlbmbaa

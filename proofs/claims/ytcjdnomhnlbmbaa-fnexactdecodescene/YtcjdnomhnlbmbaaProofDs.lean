/-
  FnExactDecodeScene.
-/
import Derived.Test.YtcjdnomhnlbmbaaFromDsDraw0IdA
import Derived.Test.YtcjdnomhnlbmbaaIdJIdK
namespace Go.Proofs.Ytcjdnomhnlbmbaa

theorem fnExactDecodeScene_holds : Rows.FnExactDecodeSceneSaid := fnExactDecodeScene_from (fun a c bs w hl _ hu hz => decS_any a c bs w hl hu hz) decI_any

#print axioms fnExactDecodeScene_holds
end Go.Proofs.Ytcjdnomhnlbmbaa

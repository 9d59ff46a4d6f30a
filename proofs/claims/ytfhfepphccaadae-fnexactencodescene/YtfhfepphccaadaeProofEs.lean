/-
  FnExactEncodeScene.
-/
import Derived.Test.YtfhfepphccaadaeFromEs
import Derived.Test.YtfhfepphccaadaeIeS
namespace Go.Proofs.Ytfhfepphccaadae

theorem fnExactEncodeScene_holds : Rows.FnExactEncodeSceneSaid := fnExactEncodeScene_from encI_any

#print axioms fnExactEncodeScene_holds
end Go.Proofs.Ytfhfepphccaadae

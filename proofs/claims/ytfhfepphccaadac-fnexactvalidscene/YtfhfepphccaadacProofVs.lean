/-
  FnExactValidScene.
-/
import Derived.Test.YtfhfepphccaadacFromVs
import Derived.Test.YtfhfepphccaadacIvS
namespace Go.Proofs.Ytfhfepphccaadac

theorem fnExactValidScene_holds : Rows.FnExactValidSceneSaid := fnExactValidScene_from vldI_any

#print axioms fnExactValidScene_holds

end Go.Proofs.Ytfhfepphccaadac

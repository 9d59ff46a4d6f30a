/-
  FnExactEncodePicture.
-/
import Derived.Test.YtfhfepphccaadabFromEp
import Derived.Test.YtfhfepphccaadabIpC
namespace Go.Proofs.Ytfhfepphccaadab

theorem fnExactEncodePicture_holds : Rows.FnExactEncodePictureSaid := fnExactEncodePicture_from encPI_any

#print axioms fnExactEncodePicture_holds
end Go.Proofs.Ytfhfepphccaadab

/-
  FnExactDecodePicture.
-/
import Derived.Test.YtfhfepphccaadaaFromDpDraw0SpD1IdA
import Derived.Test.YtfhfepphccaadaaIpCIqE
namespace Go.Proofs.Ytfhfepphccaadaa

theorem fnExactDecodePicture_holds : Rows.FnExactDecodePictureSaid := fnExactDecodePicture_from (fun a c bs w hl _ hu hz => decP_any a c bs w hl hu hz) decPI_any

#print axioms fnExactDecodePicture_holds
end Go.Proofs.Ytfhfepphccaadaa

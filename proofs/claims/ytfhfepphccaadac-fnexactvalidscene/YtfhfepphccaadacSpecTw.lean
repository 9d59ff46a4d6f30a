/-
  The model: how often 2 divides a number.
-/
import Derived.Test.YtfhfepphccaadacSpecD
import Derived.Test.YtfhfepphccaadacNumZ
namespace Go.Proofs.Ytfhfepphccaadac
open Go.RowKit

end Go.Proofs.Ytfhfepphccaadac

/-
  The model's differences of magnitudes.
-/
import Derived.Test.YtmacbfiolkpofabDoorSpecD
namespace Go.Proofs.YtmacbfiolkpofabDoor
open Go.RowKit

end Go.Proofs.YtmacbfiolkpofabDoor

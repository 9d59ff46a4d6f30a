/-
  Lists of Points as the laws copy, compare and mark them: a list is the row of its numbers, 3 for each.
-/
import Derived.Test.YtfhfepphccaadaaScA
import Derived.Deep.RegionHeld3
import Derived.Laws.MakeOwn
namespace Go.Proofs.Ytfhfepphccaadaa
open Go.RowKit

theorem rep_Point : (Array.replicate 3 (Value.int .u32 0)) = #[.int .u32 0, .int .u32 0, .int .u32 0] := rfl

end Go.Proofs.Ytfhfepphccaadaa

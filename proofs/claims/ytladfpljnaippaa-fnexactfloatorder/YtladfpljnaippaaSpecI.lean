/-
  The model's differences.
-/
import Derived.Test.YtladfpljnaippaaSpecH
import Derived.Test.YtladfpljnaippaaSpecFn
namespace Go.Proofs.Ytladfpljnaippaa
open Go.RowKit

end Go.Proofs.Ytladfpljnaippaa

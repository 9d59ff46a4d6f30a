/-
  The model's dyadic numbers in boxes; what their order leans on.
-/
import Derived.Test.YtladfpljnaippaaDy6
import Derived.Test.YtladfpljnaippaaSpecJ0
import Derived.Test.YtladfpljnaippaaDy1a
namespace Go.Proofs.Ytladfpljnaippaa

end Go.Proofs.Ytladfpljnaippaa

/-
  The model's differences of magnitudes.
-/
import Derived.Test.YtcjdnomhnlbmbaaSpecD
namespace Go.Proofs.Ytcjdnomhnlbmbaa
open Go.RowKit

end Go.Proofs.Ytcjdnomhnlbmbaa

/-
  The model: how often 2 divides a number.
-/
import Derived.Test.YtcjdnomhnlbmbaaSpecD
import Derived.Test.YtcjdnomhnlbmbaaNumZ
namespace Go.Proofs.Ytcjdnomhnlbmbaa
open Go.RowKit

end Go.Proofs.Ytcjdnomhnlbmbaa

/-
  The walk of the specification's l2Copy: the same disk in memory of its own. Condition: it weighs at most 2097152.
-/
import Derived.Test.YtccokaicipldcaaFrame
import Derived.Test.YtccokaicipldcaaWalkCopyWords
import Derived.Test.YtccokaicipldcaaOrder
namespace Go.Proofs.Ytccokaicipldcaa
open Go.RowKit

end Go.Proofs.Ytccokaicipldcaa

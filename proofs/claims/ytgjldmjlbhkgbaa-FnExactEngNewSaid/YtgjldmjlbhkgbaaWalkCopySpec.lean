/-
  The walk of the specification's l2Copy: the same disk in memory of its own. Condition: it weighs at most 2097152.
-/
import Derived.Test.YtgjldmjlbhkgbaaHeld
import Derived.Test.YtgjldmjlbhkgbaaFrame
import Derived.Test.YtgjldmjlbhkgbaaWalkCopyWords
import Derived.Test.YtgjldmjlbhkgbaaOrder
namespace Go.Proofs.Ytgjldmjlbhkgbaa
open Go.RowKit

end Go.Proofs.Ytgjldmjlbhkgbaa

/-
  The walk of the specification's l2Without: the numbers without one, in memory of its own. Condition: at most 2097152.
-/
import Derived.Test.YtgjldmjlbhkgbaaWalkDel
namespace Go.Proofs.Ytgjldmjlbhkgbaa
open Go.RowKit

end Go.Proofs.Ytgjldmjlbhkgbaa

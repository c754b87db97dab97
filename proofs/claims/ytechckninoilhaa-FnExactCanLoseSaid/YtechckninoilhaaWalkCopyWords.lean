/-
  The walk of the program's copyWords: the same numbers in memory of its own. Condition: at most 2097152.
-/
import Derived.Test.YtechckninoilhaaData
namespace Go.Proofs.Ytechckninoilhaa
open Go.RowKit

end Go.Proofs.Ytechckninoilhaa

/-
  The laws' helpers over one answer: whether two are the same, its marks. Conditions: at most 2097152 words, marks between 0 and 16777216.
-/
import Derived.Test.YtbkkjfgjlapadaaWalkEq
import Derived.Test.YtbkkjfgjlapadaaWalkMark
import Derived.Test.YtbkkjfgjlapadaaBox
namespace Go.Proofs.Ytbkkjfgjlapadaa
open Go.RowKit

end Go.Proofs.Ytbkkjfgjlapadaa

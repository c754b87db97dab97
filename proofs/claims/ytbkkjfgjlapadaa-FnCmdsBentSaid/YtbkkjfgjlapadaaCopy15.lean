/-
  The program's copies of a command and of an answer. Conditions: at most 2097152 words.
-/
import Derived.Test.YtbkkjfgjlapadaaLoad15
import Derived.Test.YtbkkjfgjlapadaaElem15
import Derived.Test.YtbkkjfgjlapadaaWalkCopyWords
namespace Go.Proofs.Ytbkkjfgjlapadaa
open Go.RowKit

theorem Try.szCmd15 : (Try.prog.info? 28).map (·.size) = some 5 := by kernel_rfl
end Go.Proofs.Ytbkkjfgjlapadaa

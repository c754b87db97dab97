/-
  The walks of both MemNew (the program's and the specification's): a new disk, in memory of its own. No condition.
-/
import Derived.Test.YtlcjfgmmjkandaaData
import Derived.Test.YtlcjfgmmjkandaaWalkSecOk
import Derived.Test.YtlcjfgmmjkandaaBox
namespace Go.Proofs.Ytlcjfgmmjkandaa
open Go.RowKit

/-- A new disk. -/
def newSS (n : Int) : List (List Int) := if 1 ≤ n ∧ n ≤ 20 then List.replicate n.toNat [] else []

end Go.Proofs.Ytlcjfgmmjkandaa

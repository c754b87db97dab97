/-
  The walks of both looks (the specification's and the program's) whether a number lies between two others. No condition.
-/
import Derived.Test.YtjmjianlcoleaaaKit
import Derived.Test.YtjmjianlcoleaaaRows
namespace Go.Proofs.Ytjmjianlcoleaaa
open Go.RowKit

def inB (x least most : Int) : Bool := decide (least ≤ x) && decide (x ≤ most)
end Go.Proofs.Ytjmjianlcoleaaa

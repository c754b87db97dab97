/-
  The walks of both ReadSec (the program's and the specification's): what a sector reads as, in memory of its own. Condition: the disk weighs at most 2097152.
-/
import Derived.Test.YthkpkpclmemodaaGreatWalkImplMemOk
import Derived.Test.YthkpkpclmemodaaGreatWalkL2Has
import Derived.Test.YthkpkpclmemodaaGreatMemB
import Derived.Test.YthkpkpclmemodaaGreatWalkCopyWords
namespace Go.Proofs.YthkpkpclmemodaaGreat
open Go.RowKit

def readOk (ss : List (List Int)) (cs : List (Int × List Int)) (f : Bool) (bs : List Int) (n : Int) : Bool := memB ss cs bs && (!f && (inB n 0 ((ss.length : Int) - 1) && !inL bs n))
def secAt (ss : List (List Int)) (n : Int) : List Int := ss.getD n.toNat []
def readD (ss : List (List Int)) (cs : List (Int × List Int)) (f : Bool) (bs : List Int) (n : Int) : List Int := if readOk ss cs f bs n = true then (lastW cs n).getD (secAt ss n) else []

end Go.Proofs.YthkpkpclmemodaaGreat

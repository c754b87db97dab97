/-
  The walks of both ReadSec (the program's and the specification's): what a sector reads as, in memory of its own. Condition: the disk weighs at most 2097152.
-/
import Derived.Test.YthkpkpclmemodaaGreatWalkRead
import Derived.Test.YthkpkpclmemodaaGreatWalkL2Has
import Derived.Test.YthkpkpclmemodaaGreatWalkNewest
import Derived.Test.YthkpkpclmemodaaGreatWalkCopyWords
namespace Go.Proofs.YthkpkpclmemodaaGreat
open Go.RowKit

end Go.Proofs.YthkpkpclmemodaaGreat

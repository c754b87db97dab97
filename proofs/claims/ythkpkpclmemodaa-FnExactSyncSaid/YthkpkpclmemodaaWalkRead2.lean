/-
  The walks of both ReadSec (the program's and the specification's): what a sector reads as, in memory of its own. Condition: the disk weighs at most 2097152.
-/
import Derived.Test.YthkpkpclmemodaaWalkRead
import Derived.Test.YthkpkpclmemodaaWalkL2Has
import Derived.Test.YthkpkpclmemodaaWalkNewest
import Derived.Test.YthkpkpclmemodaaWalkCopyWords
namespace Go.Proofs.Ythkpkpclmemodaa
open Go.RowKit

end Go.Proofs.Ythkpkpclmemodaa

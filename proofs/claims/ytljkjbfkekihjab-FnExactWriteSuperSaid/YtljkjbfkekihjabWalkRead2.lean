/-
  The walks of both ReadSec (the program's and the specification's): what a sector reads as, in memory of its own. Condition: the disk weighs at most 2097152.
-/
import Derived.Test.YtljkjbfkekihjabWalkRead
import Derived.Test.YtljkjbfkekihjabWalkL2Has
import Derived.Test.YtljkjbfkekihjabWalkNewest
import Derived.Test.YtljkjbfkekihjabWalkCopyWords
namespace Go.Proofs.Ytljkjbfkekihjab
open Go.RowKit

end Go.Proofs.Ytljkjbfkekihjab

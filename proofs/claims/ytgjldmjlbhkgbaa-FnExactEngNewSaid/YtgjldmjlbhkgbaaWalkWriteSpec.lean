/-
  The walk of the specification's WriteSec: one write more in the cache, the sector no longer Bad, in memory of its own; else the disk as it was, and false. Condition: the disk and the sector weigh at most 2097152 each.
-/
import Derived.Test.YtgjldmjlbhkgbaaHeld
import Derived.Test.YtgjldmjlbhkgbaaWalkWrite
import Derived.Test.YtgjldmjlbhkgbaaWalkWithout
import Derived.Test.YtgjldmjlbhkgbaaRetMem
namespace Go.Proofs.Ytgjldmjlbhkgbaa
open Go.RowKit


end Go.Proofs.Ytgjldmjlbhkgbaa

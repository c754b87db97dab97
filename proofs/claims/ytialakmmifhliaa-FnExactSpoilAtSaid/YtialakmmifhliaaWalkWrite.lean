/-
  The walk of the program's WriteSec: one write more in the cache, the sector no longer Bad, in memory of its own; else the disk as it was, and false. Condition: the disk and the sector weigh at most 2097152 each.
-/
import Derived.Test.YtialakmmifhliaaHeld
import Derived.Test.YtialakmmifhliaaWalkFlush
import Derived.Test.YtialakmmifhliaaWalkDel
import Derived.Test.YtialakmmifhliaaOrder
import Derived.Test.YtialakmmifhliaaRetMem
namespace Go.Proofs.Ytialakmmifhliaa
open Go.RowKit

/-- Whether a sector can be written; the cache and the sectors that can't be read behind it. -/
def wrOk (ss : List (List Int)) (cs : List (Int × List Int)) (f : Bool) (bs : List Int) (n : Int) (sw : List Int) : Bool := memB ss cs bs && (!f && (inB n 0 ((ss.length : Int) - 1) && (secB sw && decide (cs.length < 60))))
def wrCS (ss : List (List Int)) (cs : List (Int × List Int)) (f : Bool) (bs : List Int) (n : Int) (sw : List Int) : List (Int × List Int) := if wrOk ss cs f bs n sw = true then cs ++ [(n, sw)] else cs
def wrBS (ss : List (List Int)) (cs : List (Int × List Int)) (f : Bool) (bs : List Int) (n : Int) (sw : List Int) : List Int := if wrOk ss cs f bs n sw = true then filt bs n else bs

end Go.Proofs.Ytialakmmifhliaa

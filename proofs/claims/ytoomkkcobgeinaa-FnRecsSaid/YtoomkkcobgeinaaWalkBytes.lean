/-
  The walk of the laws' own comparison of slices of byte: it tells whether two slices read alike. Condition: at most 2097152 elements in the first.
-/
import Derived.Test.YtoomkkcobgeinaaKit
import Derived.Test.YtoomkkcobgeinaaRows
import Derived.Test.YtoomkkcobgeinaaWalkInts
namespace Go.Proofs.Ytoomkkcobgeinaa
open Go.RowKit


end Go.Proofs.Ytoomkkcobgeinaa

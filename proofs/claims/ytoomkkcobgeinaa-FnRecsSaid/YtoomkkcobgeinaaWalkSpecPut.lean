/-
  The walk of the specification's PutSec. Conditions: the slices lie within the laws' own bound on their length.
-/
import Derived.Test.YtoomkkcobgeinaaWalkPut
namespace Go.Proofs.Ytoomkkcobgeinaa
open Go.RowKit

end Go.Proofs.Ytoomkkcobgeinaa

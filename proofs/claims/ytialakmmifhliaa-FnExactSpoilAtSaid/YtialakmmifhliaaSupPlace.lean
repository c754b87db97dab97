/-
  The walk of the program's superPlace. Condition: the number is not below 0.
-/
import Derived.Test.YtialakmmifhliaaWalkPutSuper
namespace Go.Proofs.Ytialakmmifhliaa
open Go.RowKit

end Go.Proofs.Ytialakmmifhliaa

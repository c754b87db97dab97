/-
  The walks of the laws' helpers that mark a slice (each place gets the next number) and ask whether the marks are held. Conditions: at most 2097152 elements, and the first number between 0 and 4194304.
-/
import Derived.Test.YtechckninoilhaaWalkInts
namespace Go.Proofs.Ytechckninoilhaa
open Go.RowKit

end Go.Proofs.Ytechckninoilhaa

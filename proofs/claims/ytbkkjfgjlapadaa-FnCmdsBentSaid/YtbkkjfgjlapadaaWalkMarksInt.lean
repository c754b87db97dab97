/-
  The walks of the laws' helpers that mark a slice (each place gets the next number) and ask whether the marks are held. Conditions: at most 2097152 elements, and the first number between 0 and 16777216.
-/
import Derived.Test.YtbkkjfgjlapadaaWalkInts
namespace Go.Proofs.Ytbkkjfgjlapadaa
open Go.RowKit

end Go.Proofs.Ytbkkjfgjlapadaa

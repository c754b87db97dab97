/-
  The walks of both SameSec (the program's and the specification's): each answers whether two slices of int read alike. Condition: at most 2097152 elements in the first.
-/
import Derived.Test.YtbkkjfgjlapadaaWalkInts
namespace Go.Proofs.Ytbkkjfgjlapadaa
open Go.RowKit


end Go.Proofs.Ytbkkjfgjlapadaa

/-
  The walk of the laws' own comparison of slices of byte: it tells whether two slices read alike. Condition: at most 2097152 elements in the first.
-/
import Derived.Test.YtplieehocceplaaKit
import Derived.Test.YtplieehocceplaaRows
import Derived.Test.YtplieehocceplaaWalkInts
namespace Go.Proofs.Ytplieehocceplaa
open Go.RowKit


end Go.Proofs.Ytplieehocceplaa

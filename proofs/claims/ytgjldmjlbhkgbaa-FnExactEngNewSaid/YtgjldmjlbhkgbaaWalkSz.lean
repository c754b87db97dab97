/-
  The walks of the laws' helpers that weigh slices of int and slices of those: what is left of a bound, or -1. Condition: the bound is between 0 and 1048576.
-/
import Derived.Test.YtgjldmjlbhkgbaaData
namespace Go.Proofs.Ytgjldmjlbhkgbaa
open Go.RowKit

end Go.Proofs.Ytgjldmjlbhkgbaa

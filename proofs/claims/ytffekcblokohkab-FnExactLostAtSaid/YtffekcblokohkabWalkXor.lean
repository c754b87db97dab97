/-
  The walks of both XorOf (the program's and the specification's): each answers all numbers together, by xor. Condition: at most 2097152 elements.
-/
import Derived.Test.YtffekcblokohkabRows
import Derived.Test.YtffekcblokohkabXors
namespace Go.Proofs.Ytffekcblokohkab
open Go.RowKit

end Go.Proofs.Ytffekcblokohkab

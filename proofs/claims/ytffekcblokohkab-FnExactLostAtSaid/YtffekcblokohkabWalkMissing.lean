/-
  The walks of both ParityWord and both MissingWord (the program's and the specification's): all together by xor, and all but the k-th. Condition: at most 2097152 elements.
-/
import Derived.Test.YtffekcblokohkabWalkXor
namespace Go.Proofs.Ytffekcblokohkab
open Go.RowKit




end Go.Proofs.Ytffekcblokohkab

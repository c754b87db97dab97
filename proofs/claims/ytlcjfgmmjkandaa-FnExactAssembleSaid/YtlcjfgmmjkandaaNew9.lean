/-
  What the newest of disks hands back. No condition.
-/
import Derived.Test.YtlcjfgmmjkandaaBest9
namespace Go.Proofs.Ytlcjfgmmjkandaa
open Go.RowKit

/-- What newestSuper hands back. -/
def NewOut (w w' : World) (e : Ending) (ms : List MemD) (id : Int) : Prop := e = .returned (.tuple #[.agg #[.int .i64 ((newSt ms id ms.length).1).id, .int .i64 ((newSt ms id ms.length).1).gen, .int .i64 ((newSt ms id ms.length).1).role, .int .i64 ((newSt ms id ms.length).1).n, .int .i64 ((newSt ms id ms.length).1).s, .int .i64 ((newSt ms id ms.length).1).tail, .int .i64 ((newSt ms id ms.length).1).lost, .int .i64 ((newSt ms id ms.length).1).built], .bool (newSt ms id ms.length).2]) ∧ Below w.heap.size w w'

end Go.Proofs.Ytlcjfgmmjkandaa

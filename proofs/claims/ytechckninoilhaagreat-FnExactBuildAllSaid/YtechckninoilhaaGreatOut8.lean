/-
  An array and a code that a function hands back: plain lemmas. No condition.
-/
import Derived.Test.YtechckninoilhaaGreatWalkMarkIn
namespace Go.Proofs.YtechckninoilhaaGreat
open Go.RowKit

/-- What an array was made into, in memory of its own, and a code. -/
def ArrOutC (w w' : World) (e : Ending) (q : ArrN × List MemD) (code : Int) (ds : List (Int × List Int)) : Prop :=
  ∃ (bm bd : Option Addr) (cm cd : Nat), e = .returned (.tuple #[.agg (arrC q.1 (.slice bm q.2.length cm) (.slice bd ds.length cd)), .int .i64 code]) ∧ ArrIn w' w.heap.size w'.heap.size bm bd q.2.length cm ds.length cd q.2 ds ∧ Below w.heap.size w w'
theorem arr_outC {w w4 : World} {R lo : Nat} {y : ArrN} {ns : List MemD} {ds : List (Int × List Int)} {vm vd : Option Addr} {cvm cvd : Nat} {fm fd : List Nat} {e : Ending} {T : TypeId} {cs : Array Value} {code : Int} (hb : Below w.heap.size w w4) (_ : Box w4 R T cs) (he : e = .returned (.tuple #[.agg (arrC y (.slice vm ns.length cvm) (.slice vd ds.length cvd)), .int .i64 code])) (hm : (tMemS 109 51).Mine w4 [.slice vm ns.length cvm] ns fm) (hd : (tWrS 82).Mine w4 [.slice vd ds.length cvd] ds fd) (hr : ∀ b ∈ fm, b ∉ fd) (rm : ∀ b ∈ fm, lo ≤ b) (rd : ∀ b ∈ fd, lo ≤ b) (h1 : w.heap.size ≤ R) (h2 : R < lo) :
    ArrOutC w (puts w4 R [(0, .int .i64 y.id), (1, .int .i64 y.n), (2, .int .i64 y.s), (3, .slice vm ns.length cvm), (4, .int .i64 y.lost), (5, .int .i64 y.built), (6, .int .i64 y.seq), (7, .int .i64 y.tail), (8, .int .i64 y.gen), (9, .slice vd ds.length cvd), (10, .int .i64 y.fuse), (11, .bool y.down), (12, .bool y.broken)]) e (y, ns) code ds := by
  have hbt := puts_but R [(0, .int .i64 y.id), (1, .int .i64 y.n), (2, .int .i64 y.s), (3, .slice vm ns.length cvm), (4, .int .i64 y.lost), (5, .int .i64 y.built), (6, .int .i64 y.seq), (7, .int .i64 y.tail), (8, .int .i64 y.gen), (9, .slice vd ds.length cvd), (10, .int .i64 y.fuse), (11, .bool y.down), (12, .bool y.broken)] w4
  have hz := hbt.size
  have hlm := hm.lt
  have hld := hd.lt
  refine ⟨vm, vd, cvm, cvd, he, ⟨fm, fd, hm.but hbt (fun b hb => by have := rm b hb; omega), hd.but hbt (fun b hb => by have := rd b hb; omega), hr, fun b hb => ?_, fun b hb => ?_⟩, Below.andBut hb hbt h1⟩
  · have h3 := rm b hb
    have h4 := hlm b hb
    omega
  · have h3 := rd b hb
    have h4 := hld b hb
    omega

end Go.Proofs.YtechckninoilhaaGreat

/-
  The laws' helpers over one answer, one job and one turn: what is left of a bound, the copy, the comparison of two that read alike. Conditions: at most 1048576 words (2097152 for the comparison).
-/
import Derived.Test.YtbkkjfgjlapadaaSeal15
import Derived.Test.YtbkkjfgjlapadaaWalkCmd
import Derived.Test.YtbkkjfgjlapadaaAnsLaw14
import Derived.Test.YtbkkjfgjlapadaaWalkSz
namespace Go.Proofs.Ytbkkjfgjlapadaa
open Go.RowKit

abbrev tJob : Ty := pairTy intTy (pairTy intTy (pairTy intTy (pairTy intTy (pairTy tIntS (pairTy intTy (pairTy tIntS (intTy)))))))
abbrev tTurn : Ty := pairTy intTy (pairTy intTy (pairTy intTy (pairTy intTy (pairTy tIntS (pairTy intTy (pairTy intTy (tIntS)))))))
abbrev JobD := Int × Int × Int × Int × List Int × Int × List Int × Int
abbrev TurnD := Int × Int × Int × Int × List Int × Int × Int × List Int
abbrev tJobS (E : TypeId) : Ty := rowTy tJob E
abbrev tTurnS (E : TypeId) : Ty := rowTy tTurn E
theorem Box.cells3e {w : World} {B : Nat} {T : TypeId} {v0 v1 v2 : Value} (h : Box w B T #[v0, v1, v2]) : w.cell? ⟨B, 0, none⟩ = some v0 ∧ w.cell? ⟨B, 1, none⟩ = some v1 ∧ w.cell? ⟨B, 2, none⟩ = some v2 := ⟨h.cell 0, h.cell 1, h.cell 2⟩

end Go.Proofs.Ytbkkjfgjlapadaa

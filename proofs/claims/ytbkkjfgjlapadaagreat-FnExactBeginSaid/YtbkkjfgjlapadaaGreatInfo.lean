/-
  What the loaded program says of its whole numbers and bytes. No condition.
-/
import Derived.Test.YtbkkjfgjlapadaaGreatKit
import Derived.Test.YtbkkjfgjlapadaaGreatRows
namespace Go.Proofs.YtbkkjfgjlapadaaGreat
open Go.RowKit

theorem Tryz.info3 : (Tryz.prog.info? 3).map (fun i => (i.zero, i.size, i.bytes)) = some (some (.int .i64 0), 1, 8) := by kernel_rfl
theorem Tryz.info5 : (Tryz.prog.info? 5).map (fun i => (i.zero, i.size, i.bytes)) = some (some (.int .u8 0), 1, 1) := by kernel_rfl

theorem byte_at {zs : List Int} (h : ∀ n ∈ zs, 0 ≤ n ∧ n ≤ 255) (j : Nat) : 0 ≤ zs.getD j 0 ∧ zs.getD j 0 ≤ 255 := by
  by_cases hj : j < zs.length
  · have := h zs[j] (List.getElem_mem hj)
    simpa [List.getElem?_eq_getElem hj] using this
  · rw [List.getD_eq_getElem?_getD, List.getElem?_eq_none (by omega)]
    simp

end Go.Proofs.YtbkkjfgjlapadaaGreat

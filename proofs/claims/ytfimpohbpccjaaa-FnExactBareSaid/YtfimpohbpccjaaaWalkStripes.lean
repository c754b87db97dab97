/-
  The program's stripesOf walked. No condition.
-/
import Derived.Test.YtfimpohbpccjaaaWalkGeo
namespace Go.Proofs.Ytfimpohbpccjaaa
open Go.RowKit

def strN (n s : Int) : Int := if geoB n s = true then s else 0
theorem strN_of {n s : Int} (h : geoB n s = true) : strN n s = s := by unfold strN; rw [if_pos h]
theorem strN_not {n s : Int} (h : geoB n s = false) : strN n s = 0 := by unfold strN; rw [if_neg (by simp [h])]
theorem stripesOf_any (w : World) (n s : Int) : Calls Try.prog 49 #[.agg #[.int .i64 n, .int .i64 s]] w fun e w' => e = .returned (.int .i64 (strN n s)) ∧ Below w.heap.size w w' := by
  have hA := new_below w (.cells #[.int .i64 n, .int .i64 s] 30)
  have X := Gbox.new w 30 n s
  obtain ⟨k0, k1⟩ := X.cells
  have zA := X.lt
  go_enter Try.func49, Try.ntmps49
  go_wp2_with fail
  refine (implGeoOk_any _ _ _).mono ?_
  rintro e w1 ⟨rfl, b1⟩
  have X1 := X.below b1 zA
  obtain ⟨q0, q1⟩ := X1.cells
  have FB := hidden (Below.andThen hA b1)
  clear k0 k1 X b1 hA zA
  cases hg : geoB n s
  · have HS := hidden (strN_not hg)
    go_wp2
    go_ret
    exact ⟨ret_int (by rw [HS.out]), FB.out⟩
  · have HS := hidden (strN_of hg)
    go_wp2
    go_ret
    exact ⟨ret_int (by rw [HS.out]), FB.out⟩

end Go.Proofs.Ytfimpohbpccjaaa

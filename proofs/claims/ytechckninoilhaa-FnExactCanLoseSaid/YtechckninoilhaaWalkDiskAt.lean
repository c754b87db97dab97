/-
  The walks of the program's states of a disk: which one it is in, whether it bears a stripe, and what it reads. Condition: the array weighs at most 2097152.
-/
import Derived.Test.YtechckninoilhaaWalkArrOk3
import Derived.Test.YtechckninoilhaaWalkImplMemOk
import Derived.Test.YtechckninoilhaaWalkNewest
import Derived.Test.YtechckninoilhaaWalkCopyWords
import Derived.Test.YtechckninoilhaaMemB
import Derived.BigQuiet
import Derived.WalkSmall
import Derived.Handy
namespace Go.Proofs.Ytechckninoilhaa
open Go.RowKit

set_option maxHeartbeats 800000 in
theorem hasDisk_any (w : World) (x : ArrN) (am ad : Option Addr) (nm cm nd cd : Nat) (m : Int) :
    Calls Try.prog 18 #[.agg #[.int .i64 x.id, .int .i64 x.n, .int .i64 x.s, .slice am nm cm, .int .i64 x.lost, .int .i64 x.built, .int .i64 x.seq, .int .i64 x.tail, .int .i64 x.gen, .slice ad nd cd, .int .i64 x.fuse, .bool x.down, .bool x.broken], .int .i64 m] w fun e w' => e = .returned (.bool (inB m 0 ((nm : Int) - 1))) ∧ Below w.heap.size w w' := by
  have hA := new_below w (.cells #[.int .i64 x.id, .int .i64 x.n, .int .i64 x.s, .slice am nm cm, .int .i64 x.lost, .int .i64 x.built, .int .i64 x.seq, .int .i64 x.tail, .int .i64 x.gen, .slice ad nd cd, .int .i64 x.fuse, .bool x.down, .bool x.broken] 34)
  have X := Box.new w 34 #[.int .i64 x.id, .int .i64 x.n, .int .i64 x.s, .slice am nm cm, .int .i64 x.lost, .int .i64 x.built, .int .i64 x.seq, .int .i64 x.tail, .int .i64 x.gen, .slice ad nd cd, .int .i64 x.fuse, .bool x.down, .bool x.broken]
  have k3 := X.cells13.2.2.2.1
  have HI : Hid (inB m 0 ((nm : Int) - 1) = (decide (0 ≤ m) && decide (m < (nm : Int)))) := by
    unfold Hid inB
    congr 1
    rw [decide_eq_decide]
    omega
  by_cases h : 0 ≤ m
  · by_cases h2 : m < (nm : Int)
    · go_enter Try.func18, Try.ntmps18
      go_wp2
      go_ret
      exact ⟨ret_bool (by rw [HI.out]; simp [h, h2]), hA⟩
    · go_enter Try.func18, Try.ntmps18
      go_wp2
      go_ret
      exact ⟨ret_bool (by rw [HI.out]; simp [h2]), hA⟩
  · go_enter Try.func18, Try.ntmps18
    go_wp2
    go_ret
    exact ⟨ret_bool (by rw [HI.out, show decide (0 ≤ m) = false from (by simpa using h)]; rfl), hA⟩

end Go.Proofs.Ytechckninoilhaa

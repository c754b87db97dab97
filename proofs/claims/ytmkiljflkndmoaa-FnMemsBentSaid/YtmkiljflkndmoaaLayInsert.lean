/-
  The library's contracts of slices.Insert at []int, laid at this seat's program: a table of numbers, and each body compared by the kernel. No condition.
-/
import Derived.Test.YtmkiljflkndmoaaWalkDel
import Derived.Shelf.Spec.SlicesInsertGrow
namespace Go.Proofs.Ytmkiljflkndmoaa
open Go.RowKit Go.Shelf

def insRen : Go.Shelf.Ren := ⟨fun | 21 => 80 | 27 => 89 | 28 => 90 | 35 => 92 | 39 => 93 | n => n, fun | 0 => 0 | 3 => 3 | 4 => 4 | 22 => 24 | n => n, fun n => n⟩

theorem insLays : Lays2.n21 Try.prog insRen where
  mixed := by kernel_rfl
  f21 := Try.func80.trans (congrArg some (by kernel_rfl))
  f27 := Try.func89.trans (congrArg some (by kernel_rfl))
  f28 := Try.func90.trans (congrArg some (by kernel_rfl))
  f35 := Try.func92.trans (congrArg some (by kernel_rfl))
  f39 := Try.func93.trans (congrArg some (by kernel_rfl))
  t0 := Try.underlying0
  a0 := Try.isAgg0
  z0 := Try.sizeOf0
  v0 := Try.zeroValue0
  t3 := Try.underlying3
  a3 := Try.isAgg3
  z3 := Try.sizeOf3
  v3 := Try.zeroValue3
  t4 := Try.underlying4
  a4 := Try.isAgg4
  z4 := Try.sizeOf4
  v4 := Try.zeroValue4
  t22 := Try.underlying24
  a22 := Try.isAgg24
  z22 := Try.sizeOf24
  v22 := Try.zeroValue24
  i3 := by kernel_rfl
end Go.Proofs.Ytmkiljflkndmoaa

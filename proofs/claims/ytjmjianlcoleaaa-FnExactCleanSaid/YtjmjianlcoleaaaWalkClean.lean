/-
  Clean of both sides walked: whether there is no entry. No condition.
-/
import Derived.Test.YtjmjianlcoleaaaWalkArr
namespace Go.Proofs.Ytjmjianlcoleaaa
open Go.RowKit

def clean8 (ds : List (Int × List Int)) : Bool := decide (ds.length = 0)

set_option maxRecDepth 20000 in
theorem specClean_any (w : World) (E F G : TypeId) (x : ArrN) (am ad : Option Addr) (nm cm nd cd : Nat) (ms : List MemD) (ds : List (Int × List Int)) (_ : (tMemS E F).Rd w [.slice am nm cm] ms) (h1 : (tWrS G).Rd w [.slice ad nd cd] ds) (_ : wtArr ms ds ≤ 2097152) :
    Calls Try.prog 5 #[.agg #[.int .i64 x.id, .int .i64 x.n, .int .i64 x.s, .slice am nm cm, .int .i64 x.lost, .int .i64 x.built, .int .i64 x.seq, .int .i64 x.tail, .int .i64 x.gen, .slice ad nd cd, .int .i64 x.fuse, .bool x.down, .bool x.broken]] w fun e w' => e = .returned (.bool (clean8 ds)) ∧ Below w.heap.size w w' := by
  obtain ⟨hl, hcp, hcm⟩ := row_length h1
  have HC : Hid (clean8 ds = decide (nd = 0)) := by unfold Hid clean8; rw [hl]
  clear hl h1
  have hA := new_below w (.cells #[.int .i64 x.id, .int .i64 x.n, .int .i64 x.s, .slice am nm cm, .int .i64 x.lost, .int .i64 x.built, .int .i64 x.seq, .int .i64 x.tail, .int .i64 x.gen, .slice ad nd cd, .int .i64 x.fuse, .bool x.down, .bool x.broken] 34)
  have xm := Box.new w 34 #[.int .i64 x.id, .int .i64 x.n, .int .i64 x.s, .slice am nm cm, .int .i64 x.lost, .int .i64 x.built, .int .i64 x.seq, .int .i64 x.tail, .int .i64 x.gen, .slice ad nd cd, .int .i64 x.fuse, .bool x.down, .bool x.broken]
  by_cases h0 : nd = 0
  · subst h0
    obtain ⟨k0, k1, k2, k3, k4, k5, k6, k7, k8, k9, k10, k11, k12⟩ := xm.cells13
    have HA := hidden hA
    clear hA xm
    go_enter Try.func5, Try.ntmps5
    go_wp2
    go_ret
    exact ⟨ret_bool (by rw [HC.out]; rfl), HA.out⟩
  · obtain ⟨k0, k1, k2, k3, k4, k5, k6, k7, k8, k9, k10, k11, k12⟩ := xm.cells13
    have HA := hidden hA
    clear hA xm
    have h1 : ¬ (nd : Int) = 0 := by omega
    have HN := hidden h0
    clear h0
    go_enter Try.func5, Try.ntmps5
    go_wp2
    go_ret
    exact ⟨ret_bool (by rw [HC.out]; simp [HN.out]), HA.out⟩

set_option maxRecDepth 20000 in
theorem implClean_any (w : World) (E F G : TypeId) (x : ArrN) (am ad : Option Addr) (nm cm nd cd : Nat) (ms : List MemD) (ds : List (Int × List Int)) (_ : (tMemS E F).Rd w [.slice am nm cm] ms) (h1 : (tWrS G).Rd w [.slice ad nd cd] ds) (_ : wtArr ms ds ≤ 2097152) :
    Calls Try.prog 7 #[.agg #[.int .i64 x.id, .int .i64 x.n, .int .i64 x.s, .slice am nm cm, .int .i64 x.lost, .int .i64 x.built, .int .i64 x.seq, .int .i64 x.tail, .int .i64 x.gen, .slice ad nd cd, .int .i64 x.fuse, .bool x.down, .bool x.broken]] w fun e w' => e = .returned (.bool (clean8 ds)) ∧ Below w.heap.size w w' := by
  obtain ⟨hl, hcp, hcm⟩ := row_length h1
  have HC : Hid (clean8 ds = decide (nd = 0)) := by unfold Hid clean8; rw [hl]
  clear hl h1
  have hA := new_below w (.cells #[.int .i64 x.id, .int .i64 x.n, .int .i64 x.s, .slice am nm cm, .int .i64 x.lost, .int .i64 x.built, .int .i64 x.seq, .int .i64 x.tail, .int .i64 x.gen, .slice ad nd cd, .int .i64 x.fuse, .bool x.down, .bool x.broken] 34)
  have xm := Box.new w 34 #[.int .i64 x.id, .int .i64 x.n, .int .i64 x.s, .slice am nm cm, .int .i64 x.lost, .int .i64 x.built, .int .i64 x.seq, .int .i64 x.tail, .int .i64 x.gen, .slice ad nd cd, .int .i64 x.fuse, .bool x.down, .bool x.broken]
  by_cases h0 : nd = 0
  · subst h0
    obtain ⟨k0, k1, k2, k3, k4, k5, k6, k7, k8, k9, k10, k11, k12⟩ := xm.cells13
    have HA := hidden hA
    clear hA xm
    go_enter Try.func7, Try.ntmps7
    go_wp2
    go_ret
    exact ⟨ret_bool (by rw [HC.out]; rfl), HA.out⟩
  · obtain ⟨k0, k1, k2, k3, k4, k5, k6, k7, k8, k9, k10, k11, k12⟩ := xm.cells13
    have HA := hidden hA
    clear hA xm
    have h1 : ¬ (nd : Int) = 0 := by omega
    have HN := hidden h0
    clear h0
    go_enter Try.func7, Try.ntmps7
    go_wp2
    go_ret
    exact ⟨ret_bool (by rw [HC.out]; simp [HN.out]), HA.out⟩

end Go.Proofs.Ytjmjianlcoleaaa

/-
  The walks of the program's states of a disk: which one it is in, whether it bears a stripe, and what it reads. Condition: the array weighs at most 2097152.
-/
import Derived.Test.YtfimpohbpccjaaaWalkArrOk3
import Derived.Test.YtfimpohbpccjaaaWalkImplMemOk
import Derived.Test.YtfimpohbpccjaaaWalkNewest
import Derived.Test.YtfimpohbpccjaaaWalkCopyWords
import Derived.Test.YtfimpohbpccjaaaMemB
import Derived.BigQuiet
import Derived.WalkSmall
import Derived.Handy
namespace Go.Proofs.Ytfimpohbpccjaaa
open Go.RowKit

set_option maxHeartbeats 800000 in
theorem hasDisk_any (w : World) (x : ArrN) (am ad : Option Addr) (nm cm nd cd : Nat) (m : Int) :
    Calls Try.prog 31 #[.agg #[.int .i64 x.id, .int .i64 x.n, .int .i64 x.s, .slice am nm cm, .int .i64 x.lost, .int .i64 x.built, .int .i64 x.seq, .int .i64 x.tail, .int .i64 x.gen, .slice ad nd cd, .int .i64 x.fuse, .bool x.down, .bool x.broken], .int .i64 m] w fun e w' => e = .returned (.bool (inB m 0 ((nm : Int) - 1))) ∧ Below w.heap.size w w' := by
  have hA := new_below w (.cells #[.int .i64 x.id, .int .i64 x.n, .int .i64 x.s, .slice am nm cm, .int .i64 x.lost, .int .i64 x.built, .int .i64 x.seq, .int .i64 x.tail, .int .i64 x.gen, .slice ad nd cd, .int .i64 x.fuse, .bool x.down, .bool x.broken] 34)
  have X := Box.new w 34 #[.int .i64 x.id, .int .i64 x.n, .int .i64 x.s, .slice am nm cm, .int .i64 x.lost, .int .i64 x.built, .int .i64 x.seq, .int .i64 x.tail, .int .i64 x.gen, .slice ad nd cd, .int .i64 x.fuse, .bool x.down, .bool x.broken]
  have k3 := X.cells13.2.2.2.1
  have HI : Hid (inB m 0 ((nm : Int) - 1) = (decide (0 ≤ m) && decide (m < (nm : Int)))) := by
    unfold Hid inB
    congr 1
    rw [decide_eq_decide]
    omega
  by_cases h : 0 ≤ m
  · by_cases h2 : m < (nm : Int)
    · go_enter Try.func31, Try.ntmps31
      go_wp2
      go_ret
      exact ⟨ret_bool (by rw [HI.out]; simp [h, h2]), hA⟩
    · go_enter Try.func31, Try.ntmps31
      go_wp2
      go_ret
      exact ⟨ret_bool (by rw [HI.out]; simp [h2]), hA⟩
  · go_enter Try.func31, Try.ntmps31
    go_wp2
    go_ret
    exact ⟨ret_bool (by rw [HI.out, show decide (0 ≤ m) = false from (by simpa using h)]; rfl), hA⟩

/-- A disk in its state: Failed, Lost, sound. -/
def DiskV (w : World) (E : TypeId) (x : ArrN) (ms : List MemD) (j : Nat) (v : Value) : Prop :=
  ∃ (a0 a1 a3 : Option Addr) (c0 c1 c3 : Nat) (ss : List (List Int)) (cs : List (Int × List Int)) (f : Bool) (bs : List Int), ms[j]? = some (ss, cs, f, bs) ∧ tIntSS.Rd w [.slice a0 ss.length c0] ss ∧ (tWrS E).Rd w [.slice a1 cs.length c1] cs ∧ tIntS.Rd w [.slice a3 bs.length c3] bs ∧
    ((f = true ∧ v = .iface 92 (.agg #[])) ∨ (f = false ∧ (j : Int) = x.lost ∧ v = .iface 90 (.agg #[.slice a0 ss.length c0, .slice a1 cs.length c1, .bool false, .slice a3 bs.length c3, .int .i64 x.built])) ∨ (f = false ∧ ¬ (j : Int) = x.lost ∧ v = .iface 88 (.agg #[.slice a0 ss.length c0, .slice a1 cs.length c1, .bool false, .slice a3 bs.length c3])))

set_option maxHeartbeats 1600000 in
theorem diskAt_any (w : World) (E F : TypeId) (x : ArrN) (am ad : Option Addr) (nm cm nd cd : Nat) (ms : List MemD) (j : Nat) (h0 : (tMemS E F).Rd w [.slice am nm cm] ms) (hw : wtMemS ms ≤ 2097152) (hj : j < nm) :
    Calls Try.prog 33 #[.agg #[.int .i64 x.id, .int .i64 x.n, .int .i64 x.s, .slice am nm cm, .int .i64 x.lost, .int .i64 x.built, .int .i64 x.seq, .int .i64 x.tail, .int .i64 x.gen, .slice ad nd cd, .int .i64 x.fuse, .bool x.down, .bool x.broken], .int .i64 (j : Int)] w fun e w' => ∃ v, e = .returned v ∧ DiskV w' E x ms j v ∧ Below w.heap.size w w' := by
  obtain ⟨hl, hc, hm⟩ := row_length h0
  have hnm : nm ≤ 2097152 := by unfold wtMemS at hw; omega
  have hA := new_below w (.cells #[.int .i64 x.id, .int .i64 x.n, .int .i64 x.s, .slice am nm cm, .int .i64 x.lost, .int .i64 x.built, .int .i64 x.seq, .int .i64 x.tail, .int .i64 x.gen, .slice ad nd cd, .int .i64 x.fuse, .bool x.down, .bool x.broken] 34)
  have X := Box.new w 34 #[.int .i64 x.id, .int .i64 x.n, .int .i64 x.s, .slice am nm cm, .int .i64 x.lost, .int .i64 x.built, .int .i64 x.seq, .int .i64 x.tail, .int .i64 x.gen, .slice ad nd cd, .int .i64 x.fuse, .bool x.down, .bool x.broken]
  obtain ⟨k0, k1, k2, k3, k4, k5, k6, k7, k8, k9, k10, k11, k12⟩ := X.cells13
  have h1 := h0.below hA
  have i1 : (0 : Int) ≤ (j : Int) := by omega
  have i2 : (j : Int) < (nm : Int) := by omega
  rcases quads_at rfl h1 with h0' | ⟨b, off, rfl, hbl, hcs⟩
  · omega
  have hdj : ms[j]? = some (ms[j]'(by omega)) := List.getElem?_eq_getElem (by omega)
  generalize ms[j]'(by omega) = d at hdj
  obtain ⟨v0, v1, v2, v3, hv0, hv1, hv2, hv3, hrv⟩ := hcs j d hdj
  obtain ⟨a0, c0, a1, c1, a3, c3, ss, cs, f, bs, rfl, rfl, rfl, rfl, rfl, r0, r1, r3⟩ := mem_at hrv
  clear hcs hrv h1 h0
  have HR := hidden (And.intro hdj (And.intro r0 (And.intro r1 r3)))
  clear hdj r0 r1 r3
  cases f
  · by_cases hjl : (j : Int) = x.lost
    · have e1 : ((j : Int) == x.lost) = true := by simpa using hjl
      have HJ := hidden hjl
      clear hjl
      go_enter Try.func33, Try.ntmps33
      go_wp2
      go_quiet (fail)
      go_wp2
      refine bodyPost_ret (v := .iface 90 (.agg #[.slice a0 ss.length c0, .slice a1 cs.length c1, .bool false, .slice a3 bs.length c3, .int .i64 x.built])) (by simp [results, Try.results33, go_sem]) rfl ?_
      exact ⟨_, rfl, ⟨_, _, _, _, _, _, ss, cs, false, bs, HR.out.1, HR.out.2.1.below (below_drewN (Below.refl _ _) _), HR.out.2.2.1.below (below_drewN (Below.refl _ _) _), HR.out.2.2.2.below (below_drewN (Below.refl _ _) _), .inr (.inl ⟨rfl, HJ.out, rfl⟩)⟩, below_drewN hA _⟩
    · have e1 : ((j : Int) == x.lost) = false := by simpa using hjl
      have HJ := hidden hjl
      clear hjl
      go_enter Try.func33, Try.ntmps33
      go_wp2
      refine bodyPost_ret (v := .iface 88 (.agg #[.slice a0 ss.length c0, .slice a1 cs.length c1, .bool false, .slice a3 bs.length c3])) (by simp [results, Try.results33, go_sem]) rfl ?_
      exact ⟨_, rfl, ⟨_, _, _, _, _, _, ss, cs, false, bs, HR.out.1, HR.out.2.1, HR.out.2.2.1, HR.out.2.2.2, .inr (.inr ⟨rfl, HJ.out, rfl⟩)⟩, hA⟩
  · go_enter Try.func33, Try.ntmps33
    go_wp2
    refine bodyPost_ret (v := .iface 92 (.agg #[])) (by simp [results, Try.results33, go_sem]) rfl ?_
    exact ⟨_, rfl, ⟨_, _, _, _, _, _, ss, cs, true, bs, HR.out.1, HR.out.2.1, HR.out.2.2.1, HR.out.2.2.2, .inl ⟨rfl, rfl⟩⟩, hA⟩

theorem is_sound (w : World) (v0 v1 v2 v3 : Value) : Sem.run Try.prog (Instr.typeAssert (.iface 88 (.agg #[v0, v1, v2, v3])) 61 88 true) w = .ok (.tuple #[.agg #[v0, v1, v2, v3], .bool true]) w := by kernel_rfl
theorem lost_sound (w : World) (v : Value) : Sem.run Try.prog (Instr.typeAssert (.iface 90 v) 61 88 true) w = .ok (.tuple #[.agg #[.slice none 0 0, .slice none 0 0, .bool false, .slice none 0 0], .bool false]) w := by kernel_rfl
theorem failed_sound (w : World) (v : Value) : Sem.run Try.prog (Instr.typeAssert (.iface 92 v) 61 88 true) w = .ok (.tuple #[.agg #[.slice none 0 0, .slice none 0 0, .bool false, .slice none 0 0], .bool false]) w := by kernel_rfl
theorem is_lost (w : World) (v0 v1 v2 v3 v4 : Value) : Sem.run Try.prog (Instr.typeAssert (.iface 90 (.agg #[v0, v1, v2, v3, v4])) 61 90 true) w = .ok (.tuple #[.agg #[v0, v1, v2, v3, v4], .bool true]) w := by kernel_rfl
theorem failed_lost (w : World) (v : Value) : Sem.run Try.prog (Instr.typeAssert (.iface 92 v) 61 90 true) w = .ok (.tuple #[.agg #[.slice none 0 0, .slice none 0 0, .bool false, .slice none 0 0, .int .i64 0], .bool false]) w := by kernel_rfl

set_option maxRecDepth 20000 in
set_option maxHeartbeats 800000 in
theorem bears_sound (w : World) (a0 a1 a3 : Option Addr) (n0 c0 n1 c1 n3 c3 : Nat) (f : Bool) (s : Int) : Calls Try.prog 32 #[.iface 88 (.agg #[.slice a0 n0 c0, .slice a1 n1 c1, .bool f, .slice a3 n3 c3]), .int .i64 s] w fun e w' => e = .returned (.bool true) ∧ Below w.heap.size w w' := by
  have hA := new_below w (.cells #[.slice a0 n0 c0, .slice a1 n1 c1, .bool f, .slice a3 n3 c3] 88)
  have s1 := is_sound w (.slice a0 n0 c0) (.slice a1 n1 c1) (.bool f) (.slice a3 n3 c3)
  go_enter Try.func32, Try.ntmps32
  go_wp2
  go_ret
  exact ⟨rfl, hA⟩
set_option maxRecDepth 20000 in
set_option maxHeartbeats 800000 in
theorem bears_lost (w : World) (a0 a1 a3 : Option Addr) (n0 c0 n1 c1 n3 c3 : Nat) (f : Bool) (b s : Int) : Calls Try.prog 32 #[.iface 90 (.agg #[.slice a0 n0 c0, .slice a1 n1 c1, .bool f, .slice a3 n3 c3, .int .i64 b]), .int .i64 s] w fun e w' => e = .returned (.bool (decide (s < b))) ∧ Below w.heap.size w w' := by
  have hA := new_below w (.cells #[.slice a0 n0 c0, .slice a1 n1 c1, .bool f, .slice a3 n3 c3, .int .i64 b] 90)
  have s1 := lost_sound w (.agg #[.slice a0 n0 c0, .slice a1 n1 c1, .bool f, .slice a3 n3 c3, .int .i64 b])
  have s2 := is_lost w (.slice a0 n0 c0) (.slice a1 n1 c1) (.bool f) (.slice a3 n3 c3) (.int .i64 b)
  go_enter Try.func32, Try.ntmps32
  go_wp2
  go_ret
  exact ⟨rfl, hA⟩
set_option maxRecDepth 20000 in
set_option maxHeartbeats 800000 in
theorem bears_failed (w : World) (s : Int) : Calls Try.prog 32 #[.iface 92 (.agg #[]), .int .i64 s] w fun e w' => e = .returned (.bool false) ∧ w' = w := by
  have s1 := failed_sound w (.agg #[])
  have s2 := failed_lost w (.agg #[])
  go_enter Try.func32, Try.ntmps32
  go_wp2
  go_ret
  exact ⟨rfl, rfl⟩

end Go.Proofs.Ytfimpohbpccjaaa

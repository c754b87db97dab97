/-
 The exact law of BuildStep holds: at every array, bent or not, the program makes of it what the specification does, every field and the code, writes into no argument, and its answer owns its memory.
-/
import Derived.Test.YtechckninoilhaaGreatRowBuildStepAll2
import Derived.Test.YtechckninoilhaaGreatRowBuildStepAll4
import Derived.Test.YtechckninoilhaaGreatBox
import Derived.Deep.Cut
import Derived.Test.YtechckninoilhaaGreatHeld
import Derived.Test.YtechckninoilhaaGreatWalkArr
import Derived.Test.YtechckninoilhaaGreatWalkCopySpec
import Derived.Test.YtechckninoilhaaGreatRowBuildStepAll3
import Derived.Test.YtechckninoilhaaGreatOut8
import Derived.Test.YtechckninoilhaaGreatWalkMarkArr
import Derived.Test.YtechckninoilhaaGreatPut8
import Derived.Test.YtechckninoilhaaGreatWalkMarkIn
import Derived.Test.YtechckninoilhaaGreatWalkInts
import Derived.Test.YtechckninoilhaaGreatWalkMark
import Derived.Test.YtechckninoilhaaGreatWalkSz
import Derived.ProofKit
import Derived.OpenShut
import Derived.Lib.SmallJoins
import Derived.Deep.Slices
import Derived.Deep.SlicePairs
import Derived.Test.YtechckninoilhaaGreatRows
import Derived.WalkKit
import Derived.ShutString
import Derived.ChangeOld
import Derived.Below

set_option maxRecDepth 100000
set_option maxHeartbeats 8000000
set_option linter.unusedSimpArgs false

namespace Go.Proofs.YtechckninoilhaaGreat
open Go.RowKit

theorem catch_gone (w : World) : CallsD Tryz.prog 115 #[] (.panicking goneC) w fun e u' w' => e = .returned (.tuple #[]) /\ u' = .panicking [{ v := goneV, recovered := true }] /\ w' = w := by
 have n1 : ∀ w : World, Sem.run Tryz.prog (binOp BinOp.neq 20 goneV .nilIface) w = .ok (.bool true) w := fun _ => by kernel_rfl
 have n2 : ∀ w : World, Sem.run Tryz.prog (binOp BinOp.neq 20 goneV goneV) w = .ok (.bool false) w := fun _ => by kernel_rfl
 refine callsD_of_wpS Tryz.func115 rfl fun c₀ cs hu => ?_
 apply wpS_seq
 apply wpS_region
 simp [wpOpsS, go_sem, recoverD, hu, Tryz.ntmps115, Exit.thenS]
 refine wpS_of_wp ?_
 have ht : ((Array.replicate 11 undef).setIfInBounds 1 goneV).setIfInBounds 0 goneV = #[goneV, goneV, undef, undef, undef, undef, undef, undef, undef, undef, undef] := rfl
 rw [ht]
 go_wp2
 exact ⟨rfl, _, rfl, .tuple #[], results_none rfl _ _ _, rfl, rfl, rfl⟩

theorem catch_idle (w : World) : CallsD Tryz.prog 115 #[] .returning w fun e u' w' => e = .returned (.tuple #[]) /\ u' = .returning /\ w' = w := by
 have n1 : ∀ w : World, Sem.run Tryz.prog (binOp BinOp.neq 20 .nilIface .nilIface) w = .ok (.bool false) w := fun _ => by kernel_rfl
 refine callsD_of_wpS Tryz.func115 rfl fun c₀ cs hu => ?_
 apply wpS_seq
 apply wpS_region
 simp [wpOpsS, go_sem, recoverD, hu, Tryz.ntmps115, Exit.thenS]
 refine wpS_of_wp ?_
 have ht : ((Array.replicate 11 undef).setIfInBounds 1 Value.nilIface).setIfInBounds 0 Value.nilIface = #[Value.nilIface, Value.nilIface, undef, undef, undef, undef, undef, undef, undef, undef, undef] := rfl
 rw [ht]
 go_wp2
 exact ⟨rfl, .returning, by cases c₀; simp_all, .tuple #[], results_none rfl _ _ _, rfl, rfl, rfl⟩

theorem arr_here {w w4 : World} {B : Nat} {y : ArrN} {ns : List MemD} {ds : List (Int × List Int)} {bm bd : Option Addr} {cm cd : Nat} {fm fd : List Nat} {e : Ending} (hb : Below w.heap.size w w4) (he : e = .returned (.agg (arrC y (.slice bm ns.length cm) (.slice bd ds.length cd)))) (hm : (tMemS 109 51).Mine w4 [.slice bm ns.length cm] ns fm) (hd : (tWrS 82).Mine w4 [.slice bd ds.length cd] ds fd) (hr : ∀ b ∈ fm, b ∉ fd) (rm : ∀ b ∈ fm, B <= b) (rd : ∀ b ∈ fd, B <= b) (h1 : w.heap.size <= B) : ArrOut w w4 e (y, ns) ds :=
 ⟨bm, bd, cm, cd, he, ⟨fm, fd, hm, hd, hr, fun b hb => ⟨Nat.le_trans h1 (rm b hb), hm.lt b hb⟩, fun b hb => ⟨Nat.le_trans h1 (rd b hb), hd.lt b hb⟩⟩, hb⟩

theorem worked_any (w : World) (E F G : TypeId) (x : ArrN) (am ad : Option Addr) (nm cm nd cd : Nat) (ms : List MemD) (ds : List (Int × List Int)) (h0 : (tMemS E F).Rd w [.slice am nm cm] ms) (h1 : (tWrS G).Rd w [.slice ad nd cd] ds) (hw : wtArr ms ds <= 2097152)
 (Fw : FuncId) (cap : Array Value) (q : ArrN × List MemD) (hen : ∀ B : Nat, Enters Fw (#[.pointer (some ⟨B, 0, none⟩)] ++ cap))
 (hwork : ∀ (w' : World) (B : Nat) (fm fd : List Nat), Below w.heap.size w w' -> w.heap.size <= B -> ArrAt w' B x ms ds fm fd -> (∀ b ∈ fm, w.heap.size <= b) -> (∀ b ∈ fd, w.heap.size <= b) -> Calls Tryz.prog Fw (#[.pointer (some ⟨B, 0, none⟩)] ++ cap) w' (Did w' B fm ds fd q)) :
 Calls Tryz.prog 75 #[.agg #[.int .i64 x.id, .int .i64 x.n, .int .i64 x.s, .slice am nm cm, .int .i64 x.lost, .int .i64 x.built, .int .i64 x.seq, .int .i64 x.tail, .int .i64 x.gen, .slice ad nd cd, .int .i64 x.fuse, .bool x.down, .bool x.broken], .func (Fn.func Fw) #[] cap] w fun e w' => ArrOut w w' e q ds := by
 obtain ⟨rfl, _⟩ := row_length h0
 obtain ⟨rfl, _⟩ := row_length h1
 have hA := (new_below w (.cells #[.int .i64 x.id, .int .i64 x.n, .int .i64 x.s, .slice am ms.length cm, .int .i64 x.lost, .int .i64 x.built, .int .i64 x.seq, .int .i64 x.tail, .int .i64 x.gen, .slice ad ds.length cd, .int .i64 x.fuse, .bool x.down, .bool x.broken] 33)).alloc (by simp) (.cells #[.int .i64 0, .int .i64 0, .int .i64 0, .slice none 0 0, .int .i64 0, .int .i64 0, .int .i64 0, .int .i64 0, .int .i64 0, .slice none 0 0, .int .i64 0, .bool false, .bool false] 33)
 have X0 : Box ((w.alloc (.cells #[.int .i64 x.id, .int .i64 x.n, .int .i64 x.s, .slice am ms.length cm, .int .i64 x.lost, .int .i64 x.built, .int .i64 x.seq, .int .i64 x.tail, .int .i64 x.gen, .slice ad ds.length cd, .int .i64 x.fuse, .bool x.down, .bool x.broken] 33)).alloc (.cells #[.int .i64 0, .int .i64 0, .int .i64 0, .slice none 0 0, .int .i64 0, .int .i64 0, .int .i64 0, .int .i64 0, .int .i64 0, .slice none 0 0, .int .i64 0, .bool false, .bool false] 33)) w.heap.size 33 #[.int .i64 x.id, .int .i64 x.n, .int .i64 x.s, .slice am ms.length cm, .int .i64 x.lost, .int .i64 x.built, .int .i64 x.seq, .int .i64 x.tail, .int .i64 x.gen, .slice ad ds.length cd, .int .i64 x.fuse, .bool x.down, .bool x.broken] := (Box.new w _ _).alloc _
 have R0 := Box.new (w.alloc (.cells #[.int .i64 x.id, .int .i64 x.n, .int .i64 x.s, .slice am ms.length cm, .int .i64 x.lost, .int .i64 x.built, .int .i64 x.seq, .int .i64 x.tail, .int .i64 x.gen, .slice ad ds.length cd, .int .i64 x.fuse, .bool x.down, .bool x.broken] 33)) 33 #[.int .i64 0, .int .i64 0, .int .i64 0, .slice none 0 0, .int .i64 0, .int .i64 0, .int .i64 0, .int .i64 0, .int .i64 0, .slice none 0 0, .int .i64 0, .bool false, .bool false]
 rw [World.size_alloc] at R0
 have zX := X0.lt
 have zR := R0.lt
 have r0 := h0.below hA
 have r1 := h1.below hA
 have hzW : ((w.alloc (.cells #[.int .i64 x.id, .int .i64 x.n, .int .i64 x.s, .slice am ms.length cm, .int .i64 x.lost, .int .i64 x.built, .int .i64 x.seq, .int .i64 x.tail, .int .i64 x.gen, .slice ad ds.length cd, .int .i64 x.fuse, .bool x.down, .bool x.broken] 33)).alloc (.cells #[.int .i64 0, .int .i64 0, .int .i64 0, .slice none 0 0, .int .i64 0, .int .i64 0, .int .i64 0, .int .i64 0, .int .i64 0, .slice none 0 0, .int .i64 0, .bool false, .bool false] 33)).heap.size = w.heap.size + 1 + 1 := by simp
 obtain ⟨k0, k1, k2, k3, k4, k5, k6, k7, k8, k9, k10, k11, k12⟩ := X0.cells13
 have HW := hidden hwork
 clear hwork
 have hmf : ∀ (fn : Fn) (first cap : Array Value) (w : World), (Instr.makeFunc fn first cap).run Tryz.prog w = .ok (.func fn first cap) w := fun _ _ _ _ => rfl
 go_enter_defers Tryz.func75, Tryz.ntmps75
 go_wp2_with fail
 generalize (w.alloc (.cells #[.int .i64 x.id, .int .i64 x.n, .int .i64 x.s, .slice am ms.length cm, .int .i64 x.lost, .int .i64 x.built, .int .i64 x.seq, .int .i64 x.tail, .int .i64 x.gen, .slice ad ds.length cd, .int .i64 x.fuse, .bool x.down, .bool x.broken] 33)).alloc (.cells #[.int .i64 0, .int .i64 0, .int .i64 0, .slice none 0 0, .int .i64 0, .int .i64 0, .int .i64 0, .int .i64 0, .int .i64 0, .slice none 0 0, .int .i64 0, .bool false, .bool false] 33) = W at hA X0 R0 zX zR r0 r1 hzW k0 k1 k2 k3 k4 k5 k6 k7 k8 k9 k10 k11 k12 ⊢
 obtain ⟨BO, hBO⟩ : ∃ BO, w.heap.size + 1 = BO := ⟨_, rfl⟩
 rw [hBO] at R0 zR hzW ⊢
 have q1 : w.heap.size + 1 <= BO /\ BO <= w.heap.size + 1 := by omega
 clear hBO
 refine (copyArr_any _ E F G x _ _ _ _ _ _ ms ds r0 r1 hw).mono ?_
 rintro e w1 ⟨bm, cm1, bd, cd1, m, rfl, om, od, zm, zm2, b1⟩
 have R1 := R0.below b1 zR
 have hbt := puts_but BO [(0, .int .i64 x.id), (1, .int .i64 x.n), (2, .int .i64 x.s), (3, .slice bm ms.length cm1), (4, .int .i64 x.lost), (5, .int .i64 x.built), (6, .int .i64 x.seq), (7, .int .i64 x.tail), (8, .int .i64 x.gen), (9, .slice bd ds.length cd1), (10, .int .i64 x.fuse), (11, .bool x.down), (12, .bool x.broken)] w1
 have Y : Box (puts w1 BO [(0, .int .i64 x.id), (1, .int .i64 x.n), (2, .int .i64 x.s), (3, .slice bm ms.length cm1), (4, .int .i64 x.lost), (5, .int .i64 x.built), (6, .int .i64 x.seq), (7, .int .i64 x.tail), (8, .int .i64 x.gen), (9, .slice bd ds.length cd1), (10, .int .i64 x.fuse), (11, .bool x.down), (12, .bool x.broken)]) BO 33 (arrC x (.slice bm ms.length cm1) (.slice bd ds.length cd1)) := puts_arr R1 _ _ _ _ _ _ _ _ _ _ _ _ _
 obtain ⟨fm, mm, rm⟩ := om.mine
 obtain ⟨fd, md, rd⟩ := od.mine
 have AA : ArrAt (puts w1 BO [(0, .int .i64 x.id), (1, .int .i64 x.n), (2, .int .i64 x.s), (3, .slice bm ms.length cm1), (4, .int .i64 x.lost), (5, .int .i64 x.built), (6, .int .i64 x.seq), (7, .int .i64 x.tail), (8, .int .i64 x.gen), (9, .slice bd ds.length cd1), (10, .int .i64 x.fuse), (11, .bool x.down), (12, .bool x.broken)]) BO x ms ds fm fd := ⟨bm, bd, cm1, cd1, Y, mm.but hbt (fun b hb => by have := rm b hb; omega), md.but hbt (fun b hb => by have := rd b hb; omega), fun b hb hb' => by have h1 := rm b hb; have h2 := rd b hb'; omega, fun hm => by have := rm _ hm; omega, fun hm => by have := rd _ hm; omega⟩
 have B1 := Below.andBut (Below.andThen hA b1) hbt (by omega)
 have rm2 : ∀ b ∈ fm, BO < b := fun b hb => by have := rm b hb; omega
 have rd2 : ∀ b ∈ fd, BO < b := fun b hb => by have := rd b hb; omega
 have WK := hidden (HW.out _ BO fm fd B1 (by omega) AA (fun b hb => by have := rm2 b hb; omega) (fun b hb => by have := rd2 b hb; omega))
 have hcf : ∀ w : World, Sem.run Tryz.prog (callFunc Fw (#[.pointer (some ⟨BO, 0, none⟩)] ++ cap)) w = .ok (.enter Fw (#[.pointer (some ⟨BO, 0, none⟩)] ++ cap)) w := hen BO
 have BH := hidden B1
 have zW := AA.lt
 simp only [puts] at WK BH zW
 obtain ⟨t0, t1, t2, t3, t4, t5, t6, t7, t8, t9, t10, t11, t12⟩ := R1.cells13
 have fz := R1.frozen
 clear X0 R0 r0 r1 om od b1 hbt Y mm md AA B1 rm rd hA HW k0 k1 k2 k3 k4 k5 k6 k7 k8 k9 k10 k11 k12
 go_wp2_with fail
 refine WK.out.mono ?_
 rintro e w4 ⟨he, fm4, hA4, hMv4⟩
 clear WK hcf fz t0 t1 t2 t3 t4 t5 t6 t7 t8 t9 t10 t11 t12
 have rm4 : ∀ b ∈ fm4, BO < b := fun b hb => by rcases hMv4.2 b hb with h | h; exact rm2 b h; omega
 have B4 := BH.out.trans (hMv4.belowN (N := w.heap.size) (by omega) (fun b hb => by have := rm2 b hb; omega) (by have := BH.out.size; omega))
 obtain ⟨y, ns⟩ := q
 dsimp only at hA4 he
 obtain ⟨vm, vd, cvm, cvd, Yf, mf, df, hrf, r1f, r2f⟩ := hA4
 clear hMv4 BH zW
 have Y0 := Yf
 unfold arrC at Y0
 obtain ⟨s0, s1, s2, s3, s4, s5, s6, s7, s8, s9, s10, s11, s12⟩ := Y0.cells13
 have fz := Y0.frozen
 unfold EndOf at he
 cases hdn : y.down
 . rw [if_neg (by simp [hdn])] at he
   subst he
   clear hdn
   have HO := hidden (arr_out (y := y) (e := .returned (.agg (arrC y _ _))) B4 Yf rfl mf df hrf (lo := BO + 1) (fun b hb => rm4 b hb) (fun b hb => rd2 b hb) (by omega) (by omega))
   unfold arrC at HO
   simp only [puts] at HO
   clear B4 Yf Y0 mf df
   go_wp2
   refine leaves_cons (f := 115) (args := #[]) (by simp) (by simp [go_sem]) ?_
   refine (catch_idle _).mono ?_
   rintro e u' w'' ⟨rfl, rfl, rfl⟩
   exact ⟨.agg #[.int .i64 y.id, .int .i64 y.n, .int .i64 y.s, .slice vm ns.length cvm, .int .i64 y.lost, .int .i64 y.built, .int .i64 y.seq, .int .i64 y.tail, .int .i64 y.gen, .slice vd ds.length cvd, .int .i64 y.fuse, .bool y.down, .bool y.broken], by simp [results, Tryz.results75, go_sem, s0, s1, s2, s3, s4, s5, s6, s7, s8, s9, s10, s11, s12], HO.out⟩
 rw [if_pos hdn] at he
 subst he
 clear hdn
 have HO := hidden (arr_here (y := y) (e := .returned (.agg (arrC y _ _))) B4 rfl mf df hrf (B := BO) (fun b hb => Nat.le_of_lt (rm4 b hb)) (fun b hb => Nat.le_of_lt (rd2 b hb)) (by omega))
 unfold arrC at HO
 clear B4 Yf Y0 mf df
 go_wp2
 refine leaves_cons (f := 115) (args := #[]) (by simp) (by simp [go_sem]) ?_
 refine (catch_gone _).mono ?_
 rintro e u' w'' ⟨rfl, rfl, rfl⟩
 exact ⟨.agg #[.int .i64 y.id, .int .i64 y.n, .int .i64 y.s, .slice vm ns.length cvm, .int .i64 y.lost, .int .i64 y.built, .int .i64 y.seq, .int .i64 y.tail, .int .i64 y.gen, .slice vd ds.length cvd, .int .i64 y.fuse, .bool y.down, .bool y.broken], by simp [results, Tryz.results75, go_sem, s0, s1, s2, s3, s4, s5, s6, s7, s8, s9, s10, s11, s12], HO.out⟩

def Built12 (w : World) (x : ArrN) (ms : List MemD) (ds : List (Int × List Int)) (e : Ending) (w' : World) : Prop :=
 ∃ B fm fd, e = .returned (.pointer (some ⟨B, 0, none⟩)) /\ BldAt w' B x ms ds fm fd /\ w.heap.size <= B /\ (∀ b ∈ fm, w.heap.size <= b) /\ (∀ b ∈ fd, w.heap.size <= b) /\ Below w.heap.size w w'
theorem buildOf_any (w : World) (E F G : TypeId) (x : ArrN) (am ad : Option Addr) (nm cm nd cd : Nat) (ms : List MemD) (ds : List (Int × List Int)) (h0 : (tMemS E F).Rd w [.slice am nm cm] ms) (h1 : (tWrS G).Rd w [.slice ad nd cd] ds) (hw : wtArr ms ds <= 2097152) : Calls Tryz.prog 47 #[.agg #[.int .i64 x.id, .int .i64 x.n, .int .i64 x.s, .slice am nm cm, .int .i64 x.lost, .int .i64 x.built, .int .i64 x.seq, .int .i64 x.tail, .int .i64 x.gen, .slice ad nd cd, .int .i64 x.fuse, .bool x.down, .bool x.broken]] w (Built12 w x ms ds) := by
 obtain ⟨rfl, _⟩ := row_length h0
 obtain ⟨rfl, _⟩ := row_length h1
 have hA := new_below w (.cells #[.int .i64 x.id, .int .i64 x.n, .int .i64 x.s, .slice am ms.length cm, .int .i64 x.lost, .int .i64 x.built, .int .i64 x.seq, .int .i64 x.tail, .int .i64 x.gen, .slice ad ds.length cd, .int .i64 x.fuse, .bool x.down, .bool x.broken] 33)
 have X := Box.new w 33 #[.int .i64 x.id, .int .i64 x.n, .int .i64 x.s, .slice am ms.length cm, .int .i64 x.lost, .int .i64 x.built, .int .i64 x.seq, .int .i64 x.tail, .int .i64 x.gen, .slice ad ds.length cd, .int .i64 x.fuse, .bool x.down, .bool x.broken]
 have zX := X.lt
 obtain ⟨k0, k1, k2, k3, k4, k5, k6, k7, k8, k9, k10, k11, k12⟩ := X.cells13
 have r0 := h0.below hA
 have r1 := h1.below hA
 go_enter Tryz.func47, Tryz.ntmps47
 go_wp2_with fail
 generalize w.alloc (.cells #[.int .i64 x.id, .int .i64 x.n, .int .i64 x.s, .slice am ms.length cm, .int .i64 x.lost, .int .i64 x.built, .int .i64 x.seq, .int .i64 x.tail, .int .i64 x.gen, .slice ad ds.length cd, .int .i64 x.fuse, .bool x.down, .bool x.broken] 33) = W at hA X zX r0 r1 k0 k1 k2 k3 k4 k5 k6 k7 k8 k9 k10 k11 k12 ⊢
 refine (copyArr_any _ E F G x _ _ _ _ _ _ ms ds r0 r1 hw).mono ?_
 rintro e w1 ⟨bm, cm1, bd, cd1, mx, rfl, om, od, zm, zm2, b1⟩
 have bn := new_below w1 (.cells #[.int .i64 x.id, .int .i64 x.n, .int .i64 x.s, .slice bm ms.length cm1, .int .i64 x.lost, .int .i64 x.built, .int .i64 x.seq, .int .i64 x.tail, .int .i64 x.gen, .slice bd ds.length cd1, .int .i64 x.fuse, .bool x.down, .bool x.broken] 97)
 have Y := Box.new w1 97 #[.int .i64 x.id, .int .i64 x.n, .int .i64 x.s, .slice bm ms.length cm1, .int .i64 x.lost, .int .i64 x.built, .int .i64 x.seq, .int .i64 x.tail, .int .i64 x.gen, .slice bd ds.length cd1, .int .i64 x.fuse, .bool x.down, .bool x.broken]
 have z1 := b1.size
 have z0 := hA.size
 obtain ⟨fm, mm, rm⟩ := (om.below bn).mine
 obtain ⟨fd, md, rd⟩ := (od.below bn).mine
 have HB := hidden (show BldAt (w1.alloc (.cells #[.int .i64 x.id, .int .i64 x.n, .int .i64 x.s, .slice bm ms.length cm1, .int .i64 x.lost, .int .i64 x.built, .int .i64 x.seq, .int .i64 x.tail, .int .i64 x.gen, .slice bd ds.length cd1, .int .i64 x.fuse, .bool x.down, .bool x.broken] 97)) w1.heap.size x ms ds fm fd from ⟨bm, bd, cm1, cd1, Y, mm, md, fun b hb hb' => by have h1 := rm b hb; have h2 := rd b hb'; omega, fun hm => by have := rm _ hm; omega, fun hm => by have := rd _ hm; omega⟩)
 have HBB := hidden (Below.andThen (Below.andThen hA b1) bn)
 have HM : Hid ((∀ b ∈ fm, w.heap.size <= b) /\ ∀ b ∈ fd, w.heap.size <= b) := ⟨fun b hb => by have := rm b hb; omega, fun b hb => by have := rd b hb; omega⟩
 have HZ : Hid (w.heap.size <= w1.heap.size) := by unfold Hid; omega
 clear k0 k1 k2 k3 k4 k5 k6 k7 k8 k9 k10 k11 k12 X r0 r1 om od b1 bn Y mm rm md rd hA
 go_wp2
 go_ret
 exact ⟨_, fm, fd, rfl, HB.out, HZ.out, HM.out.1, HM.out.2, HBB.out⟩

theorem turn_any (w : World) (B : Nat) (x : ArrN) (ms : List MemD) (ds : List (Int × List Int)) (fm fd : List Nat) (h : BldAt w B x ms ds fm fd) (hw : wtArr ms ds <= 2097152) (code : Int) (Fw : FuncId) (q : ArrN × List MemD) (hen : ∀ B : Nat, Enters Fw (#[.pointer (some ⟨B, 0, none⟩)] ++ #[]))
 (hwork : code = 0 -> ∀ (w' : World) (B' : Nat) (fm fd : List Nat), Below w.heap.size w w' -> w.heap.size <= B' -> ArrAt w' B' x ms ds fm fd -> (∀ b ∈ fm, w.heap.size <= b) -> (∀ b ∈ fd, w.heap.size <= b) -> Calls Tryz.prog Fw (#[.pointer (some ⟨B', 0, none⟩)] ++ #[]) w' (Did w' B' fm ds fd q)) :
 Calls Tryz.prog 87 #[.pointer (some ⟨B, 0, none⟩), .int .i64 code, .func (Fn.func Fw) #[] #[]] w (Stp w B fm fd ds (turnQ code q (x, ms)) (turnC code q)) := by
 by_cases hc : code = 0
 . subst hc
   obtain ⟨bm, bd, cm, cd, X, hm, hd, hr, r1, r2⟩ := h
   have HQ : Hid (turnQ 0 q (x, ms) = q /\ turnC 0 q = dn12 q.1.down) := ⟨rfl, rfl⟩
   have HWK := hidden (worked_any w _ _ _ x _ _ _ _ _ _ ms ds hm.rd hd.rd hw Fw #[] q hen (hwork rfl))
   have zB := X.lt
   have X0 := X
   unfold arrC at X0
   obtain ⟨k0, k1, k2, k3, k4, k5, k6, k7, k8, k9, k10, k11, k12⟩ := X0.cells13
   have XH := hidden X
   clear hm hd hwork X X0 hr r1 r2
   go_enter Tryz.func87, Tryz.ntmps87
   go_wp2_with fail
   refine HWK.out.mono ?_
   rintro e w1 ⟨bm1, bd1, cm1, cd1, rfl, ⟨fm1, fd1, mk1, dk1, hr1, rm1, rd1⟩, b1⟩
   obtain ⟨y, ns⟩ := q
   dsimp only at mk1 dk1 rm1 rd1 HQ ⊢
   have X1 := XH.out.below b1 zB
   unfold arrC at X1
   have z1 := b1.size
   have hbt := puts_but B [(0, .int .i64 y.id), (1, .int .i64 y.n), (2, .int .i64 y.s), (3, .slice bm1 ns.length cm1), (4, .int .i64 y.lost), (5, .int .i64 y.built), (6, .int .i64 y.seq), (7, .int .i64 y.tail), (8, .int .i64 y.gen), (9, .slice bd1 ds.length cd1), (10, .int .i64 y.fuse), (11, .bool y.down), (12, .bool y.broken)] w1
   have X2 := puts_arr X1 (.int .i64 y.id) (.int .i64 y.n) (.int .i64 y.s) (.slice bm1 ns.length cm1) (.int .i64 y.lost) (.int .i64 y.built) (.int .i64 y.seq) (.int .i64 y.tail) (.int .i64 y.gen) (.slice bd1 ds.length cd1) (.int .i64 y.fuse) (.bool y.down) (.bool y.broken)
   have HB : Hid (BldAt (puts w1 B [(0, .int .i64 y.id), (1, .int .i64 y.n), (2, .int .i64 y.s), (3, .slice bm1 ns.length cm1), (4, .int .i64 y.lost), (5, .int .i64 y.built), (6, .int .i64 y.seq), (7, .int .i64 y.tail), (8, .int .i64 y.gen), (9, .slice bd1 ds.length cd1), (10, .int .i64 y.fuse), (11, .bool y.down), (12, .bool y.broken)]) B y ns ds fm1 fd1) := ⟨bm1, bd1, cm1, cd1, X2, mk1.but hbt (fun b hb => by have := rm1 b hb; omega), dk1.but hbt (fun b hb => by have := rd1 b hb; omega), hr1, fun hm => by have := rm1 _ hm; omega, fun hm => by have := rd1 _ hm; omega⟩
   have HT : Hid (Turned [B] w (puts w1 B [(0, .int .i64 y.id), (1, .int .i64 y.n), (2, .int .i64 y.s), (3, .slice bm1 ns.length cm1), (4, .int .i64 y.lost), (5, .int .i64 y.built), (6, .int .i64 y.seq), (7, .int .i64 y.tail), (8, .int .i64 y.gen), (9, .slice bd1 ds.length cd1), (10, .int .i64 y.fuse), (11, .bool y.down), (12, .bool y.broken)])) := ⟨hbt.os.trans b1.os, hbt.tape.trans b1.tape, hbt.output.trans b1.output, Nat.le_trans z1 hbt.size, fun k hk hne => (hbt.block k (by omega) (by simp at hne; omega)).trans (b1.block k hk)⟩
   have k11' := X2.cells13.2.2.2.2.2.2.2.2.2.2.2.1
   obtain ⟨t0, t1, t2, t3, t4, t5, t6, t7, t8, t9, t10, t11, t12⟩ := X1.cells13
   have fz := X1.frozen
   have HR1 : Hid ((∀ b ∈ fm1, b ∈ fm ∨ w.heap.size <= b) /\ ∀ b ∈ fd1, b ∈ fd ∨ w.heap.size <= b) := ⟨fun b hb => .inr (rm1 b hb).1, fun b hb => .inr (rd1 b hb).1⟩
   simp only [puts] at HB HT k11'
   unfold arrC
   clear k0 k1 k2 k3 k4 k5 k6 k7 k8 k9 k10 k11 k12 X1 X2 hbt mk1 dk1 b1 XH HWK
   go_upto_region 4 with fail
   generalize ((((((((((((w1.setCell ⟨B, 0, none⟩ (.int .i64 y.id)).setCell ⟨B, 1, none⟩ (.int .i64 y.n)).setCell ⟨B, 2, none⟩ (.int .i64 y.s)).setCell ⟨B, 3, none⟩ (.slice bm1 ns.length cm1)).setCell ⟨B, 4, none⟩ (.int .i64 y.lost)).setCell ⟨B, 5, none⟩ (.int .i64 y.built)).setCell ⟨B, 6, none⟩ (.int .i64 y.seq)).setCell ⟨B, 7, none⟩ (.int .i64 y.tail)).setCell ⟨B, 8, none⟩ (.int .i64 y.gen)).setCell ⟨B, 9, none⟩ (.slice bd1 ds.length cd1)).setCell ⟨B, 10, none⟩ (.int .i64 y.fuse)).setCell ⟨B, 11, none⟩ (.bool y.down)).setCell ⟨B, 12, none⟩ (.bool y.broken) = w2 at HB HT k11' ⊢
   clear t0 t1 t2 t3 t4 t5 t6 t7 t8 t9 t10 t11 t12 fz
   cases hdn : y.down
   . have HC : Hid (0 = turnC 0 (y, ns)) := by unfold Hid; rw [HQ.out.2, hdn]; rfl
     rw [hdn] at k11'
     clear hdn
     go_wp2
     go_ret
     exact ⟨ret_int HC.out, fm1, fd1, by rw [HQ.out.1]; exact HB.out, HT.out, HR1.out.1, HR1.out.2⟩
   have HC : Hid (6 = turnC 0 (y, ns)) := by unfold Hid; rw [HQ.out.2, hdn]; rfl
   rw [hdn] at k11'
   clear hdn
   go_wp2
   go_ret
   exact ⟨ret_int HC.out, fm1, fd1, by rw [HQ.out.1]; exact HB.out, HT.out, HR1.out.1, HR1.out.2⟩
 have HQ : Hid (turnQ code q (x, ms) = (x, ms) /\ code = turnC code q) := by unfold Hid turnQ turnC; rw [if_neg hc, if_neg hc]; exact ⟨rfl, rfl⟩
 have e0 : (code != 0) = true := by simpa using hc
 have HB := hidden h
 clear hc h hwork
 go_enter Tryz.func87, Tryz.ntmps87
 go_wp2
 go_ret
 exact ⟨ret_int HQ.out.2, fm, fd, by rw [HQ.out.1]; exact HB.out, Turned.refl _ _, fun b hb => .inl hb, fun b hb => .inl hb⟩

theorem next_any (w : World) (B : Nat) (q : ArrN × List MemD) (ds : List (Int × List Int)) (fm fd : List Nat) (h : BldAt w B q.1 q.2 ds fm fd) (hw : wtArr q.2 ds <= 2097152) :
 Calls Tryz.prog 51 #[.pointer (some ⟨B, 0, none⟩)] w (Stp w B fm fd ds (stepT ds q).1 (stepT ds q).2) := by
 obtain ⟨x, ms⟩ := q
 dsimp only at h hw
 have HB := hidden h
 obtain ⟨bm, bd, cm, cd, X, hm, hd, hr, r1, r2⟩ := h
 have X0 := X
 unfold arrC at X0
 obtain ⟨k0, k1, k2, k3, k4, k5, k6, k7, k8, k9, k10, k11, k12⟩ := X0.cells13
 have HM := hidden hm.rd
 have HD := hidden hd.rd
 clear X X0 hm hd hr r1 r2
 go_enter Tryz.func51, Tryz.ntmps51
 go_wp2_with fail
 refine (nextCode_any _ _ _ _ x _ _ _ _ _ _ ms ds HM.out HD.out hw).mono ?_
 rintro e w1 ⟨rfl, b1⟩
 have HB1 := hidden (HB.out.turned b1)
 have HBE := hidden b1
 have HT := hidden (turn_any w1 B x ms ds fm fd HB1.out hw (nextK x ms ds) 94 (stepA (x, ms)) (fun B => enters_of Tryz.func94 (by kernel_rfl) (by kernel_rfl) _) (fun hk w' B' fm' fd' _ _ h' _ _ => by simpa using buildStripe_any w' B' x ms ds fm' fd' h' hw hk))
 clear k0 k1 k2 k3 k4 k5 k6 k7 k8 k9 k10 k11 k12 HM HD HB HB1 b1
 go_wp2_with fail
 refine HT.out.mono ?_
 intro e w2 hs
 have HS := hidden (Stp.from hs HBE.out)
 obtain ⟨he, _⟩ := hs
 subst he
 clear HT
 go_wp2
 go_ret
 exact HS.out

theorem implBuildStep_any (w : World) (E F G : TypeId) (x : ArrN) (am ad : Option Addr) (nm cm nd cd : Nat) (ms : List MemD) (ds : List (Int × List Int)) (h0 : (tMemS E F).Rd w [.slice am nm cm] ms) (h1 : (tWrS G).Rd w [.slice ad nd cd] ds) (hw2 : wtArr ms ds <= 2000000) :
 Calls Tryz.prog 18 #[.agg #[.int .i64 x.id, .int .i64 x.n, .int .i64 x.s, .slice am nm cm, .int .i64 x.lost, .int .i64 x.built, .int .i64 x.seq, .int .i64 x.tail, .int .i64 x.gen, .slice ad nd cd, .int .i64 x.fuse, .bool x.down, .bool x.broken]] w fun e w' => ArrOutC w w' e (bstepO x ms ds) (bstepC x ms ds) ds := by
 obtain ⟨rfl, _⟩ := row_length h0
 obtain ⟨rfl, _⟩ := row_length h1
 have hw : wtArr ms ds <= 2097152 := by omega
 have hds : wtWrS ds <= 2000000 := by unfold wtArr at hw2; omega
 have hA := (new_below w (.cells #[.int .i64 x.id, .int .i64 x.n, .int .i64 x.s, .slice am ms.length cm, .int .i64 x.lost, .int .i64 x.built, .int .i64 x.seq, .int .i64 x.tail, .int .i64 x.gen, .slice ad ds.length cd, .int .i64 x.fuse, .bool x.down, .bool x.broken] 33)).alloc (by simp) (.cells #[.int .i64 0, .int .i64 0, .int .i64 0, .slice none 0 0, .int .i64 0, .int .i64 0, .int .i64 0, .int .i64 0, .int .i64 0, .slice none 0 0, .int .i64 0, .bool false, .bool false] 33)
 have X0 : Box ((w.alloc (.cells #[.int .i64 x.id, .int .i64 x.n, .int .i64 x.s, .slice am ms.length cm, .int .i64 x.lost, .int .i64 x.built, .int .i64 x.seq, .int .i64 x.tail, .int .i64 x.gen, .slice ad ds.length cd, .int .i64 x.fuse, .bool x.down, .bool x.broken] 33)).alloc (.cells #[.int .i64 0, .int .i64 0, .int .i64 0, .slice none 0 0, .int .i64 0, .int .i64 0, .int .i64 0, .int .i64 0, .int .i64 0, .slice none 0 0, .int .i64 0, .bool false, .bool false] 33)) w.heap.size 33 #[.int .i64 x.id, .int .i64 x.n, .int .i64 x.s, .slice am ms.length cm, .int .i64 x.lost, .int .i64 x.built, .int .i64 x.seq, .int .i64 x.tail, .int .i64 x.gen, .slice ad ds.length cd, .int .i64 x.fuse, .bool x.down, .bool x.broken] := (Box.new w _ _).alloc _
 have R0 := Box.new (w.alloc (.cells #[.int .i64 x.id, .int .i64 x.n, .int .i64 x.s, .slice am ms.length cm, .int .i64 x.lost, .int .i64 x.built, .int .i64 x.seq, .int .i64 x.tail, .int .i64 x.gen, .slice ad ds.length cd, .int .i64 x.fuse, .bool x.down, .bool x.broken] 33)) 33 #[.int .i64 0, .int .i64 0, .int .i64 0, .slice none 0 0, .int .i64 0, .int .i64 0, .int .i64 0, .int .i64 0, .int .i64 0, .slice none 0 0, .int .i64 0, .bool false, .bool false]
 rw [World.size_alloc] at R0
 have zX := X0.lt
 have zR := R0.lt
 have r0 := h0.below hA
 have r1 := h1.below hA
 have hzW : ((w.alloc (.cells #[.int .i64 x.id, .int .i64 x.n, .int .i64 x.s, .slice am ms.length cm, .int .i64 x.lost, .int .i64 x.built, .int .i64 x.seq, .int .i64 x.tail, .int .i64 x.gen, .slice ad ds.length cd, .int .i64 x.fuse, .bool x.down, .bool x.broken] 33)).alloc (.cells #[.int .i64 0, .int .i64 0, .int .i64 0, .slice none 0 0, .int .i64 0, .int .i64 0, .int .i64 0, .int .i64 0, .int .i64 0, .slice none 0 0, .int .i64 0, .bool false, .bool false] 33)).heap.size = w.heap.size + 1 + 1 := by simp
 obtain ⟨k0, k1, k2, k3, k4, k5, k6, k7, k8, k9, k10, k11, k12⟩ := X0.cells13
 have hmf : ∀ (fn : Fn) (first cap : Array Value) (w : World), (Instr.makeFunc fn first cap).run Tryz.prog w = .ok (.func fn first cap) w := fun _ _ _ _ => rfl
 go_enter Tryz.func18, Tryz.ntmps18
 go_wp2_with fail
 generalize (w.alloc (.cells #[.int .i64 x.id, .int .i64 x.n, .int .i64 x.s, .slice am ms.length cm, .int .i64 x.lost, .int .i64 x.built, .int .i64 x.seq, .int .i64 x.tail, .int .i64 x.gen, .slice ad ds.length cd, .int .i64 x.fuse, .bool x.down, .bool x.broken] 33)).alloc (.cells #[.int .i64 0, .int .i64 0, .int .i64 0, .slice none 0 0, .int .i64 0, .int .i64 0, .int .i64 0, .int .i64 0, .int .i64 0, .slice none 0 0, .int .i64 0, .bool false, .bool false] 33) = W at hA X0 R0 zX zR r0 r1 hzW k0 k1 k2 k3 k4 k5 k6 k7 k8 k9 k10 k11 k12 ⊢
 obtain ⟨BR, hBR⟩ : ∃ BR, w.heap.size + 1 = BR := ⟨_, rfl⟩
 rw [hBR] at R0 zR hzW ⊢
 have q1 : w.heap.size + 1 <= BR /\ BR + 1 <= W.heap.size /\ W.heap.size <= BR + 1 := by omega
 clear hBR hzW
 refine (buildOf_any _ E F G x _ _ _ _ _ _ ms ds r0 r1 hw).mono ?_
 rintro e w1 ⟨B, fm, fd, rfl, hB, zB, rm, rd, b1⟩
 have R1 := R0.below b1 zR
 have B1 := Below.andThen hA b1
 have z1 := b1.size
 have hBl : B < w1.heap.size := by obtain ⟨_, _, _, _, X, _⟩ := hB; exact X.lt
 have bn := new_below w1 (.cells #[.func (Fn.func 51) #[.pointer (some ⟨B, 0, none⟩)] #[]] 72)
 have S1 := Box.new w1 72 #[.func (Fn.func 51) #[.pointer (some ⟨B, 0, none⟩)] #[]]
 have R2 := R1.below bn (by omega)
 have B2 := Below.andThen B1 bn
 have HTH := hidden (through_any _ B (x, ms) ds fm fd (hB.turned bn) [stepT ds] (fun _ => 51) w1.heap.size 1 S1.lt (by omega) ⟨Nat.le_refl _, by simp⟩ (fun k hk => by simp at hk; subst hk; exact (S1.cell 0).trans rfl) (fun _ _ => enters_of Tryz.func51 (by kernel_rfl) (by kernel_rfl) _) (fun q => wtArr q.2 ds <= 2097152) hw (fun k f q hf hq => by
  have : f = stepT ds := by cases k with
   | zero => simpa using hf.symm
   | succ k => simp at hf
  subst this
  exact stepT_keeps hds hq) (fun k f hf w' fm' fd' q hb hq => by
  have : f = stepT ds := by cases k with
   | zero => simpa using hf.symm
   | succ k => simp at hf
  subst this
  exact next_any w' B q ds fm' fd' hb hq))
 rw [runT_one] at HTH
 have zS : w1.heap.size < (w1.alloc (.cells #[.func (Fn.func 51) #[.pointer (some ⟨B, 0, none⟩)] #[]] 72)).heap.size := by simp
 have HR : Hid ((∀ b ∈ fm, W.heap.size <= b) /\ ∀ b ∈ fd, W.heap.size <= b) := ⟨rm, rd⟩
 clear k0 k1 k2 k3 k4 k5 k6 k7 k8 k9 k10 k11 k12 X0 R0 R1 B1 b1 bn hA r0 r1 hB S1 rm rd
 go_wp2_with fail
 generalize w1.alloc (.cells #[.func (Fn.func 51) #[.pointer (some ⟨B, 0, none⟩)] #[]] 72) = w2 at HTH R2 B2 zS ⊢
 refine HTH.out.mono ?_
 rintro e w4 ⟨bm4, bd4, cm4, cd4, fm4, fd4, rfl, mm4, dd4, hr4, rm4, rd4, T4⟩
 have R4 := R2.turned T4 (by simp; omega)
 have B4 : Below w.heap.size w w4 := B2.trans (T4.below (by have := B2.size; omega) (by simp; omega))
 have z4 := T4.size
 have HV : Hid (bstepO x ms ds = (stepT ds (x, ms)).1 /\ bstepC x ms ds = (stepT ds (x, ms)).2) := ⟨rfl, rfl⟩
 clear HTH R2 B2 T4
 generalize stepT ds (x, ms) = p at mm4 hr4 HV ⊢
 obtain ⟨⟨y, ns⟩, c⟩ := p
 dsimp only at mm4 HV ⊢
 obtain ⟨s0, s1, s2, s3, s4, s5, s6, s7, s8, s9, s10, s11, s12⟩ := R4.cells13
 have fz := R4.frozen
 have HO := hidden (arr_outC (y := y) (code := c) (e := .returned (.tuple #[.agg (arrC y _ _), .int .i64 c])) (lo := BR + 1) B4 R4 rfl mm4 dd4 hr4 (fun b hb => by rcases rm4 b hb with h | h; have := HR.out.1 b h; omega; omega) (fun b hb => by rcases rd4 b hb with h | h; have := HR.out.2 b h; omega; omega) (by omega) (by omega))
 unfold arrC at HO
 simp only [puts] at HO
 unfold arrC
 clear mm4 dd4 R4 B4
 go_wp2
 refine bodyPost_ret (v := .tuple #[.agg #[.int .i64 y.id, .int .i64 y.n, .int .i64 y.s, .slice bm4 ns.length cm4, .int .i64 y.lost, .int .i64 y.built, .int .i64 y.seq, .int .i64 y.tail, .int .i64 y.gen, .slice bd4 ds.length cd4, .int .i64 y.fuse, .bool y.down, .bool y.broken], .int .i64 c]) (by simp [results, Tryz.results18, go_sem, s0, s1, s2, s3, s4, s5, s6, s7, s8, s9, s10, s11, s12]) rfl ?_
 rw [HV.out.1, HV.out.2]; exact HO.out

theorem l6Copy_any (w : World) (E F G : TypeId) (x : ArrN) (am ad : Option Addr) (nm cm nd cd : Nat) (ms : List MemD) (ds : List (Int × List Int)) (h0 : (tMemS E F).Rd w [.slice am nm cm] ms) (h1 : (tWrS G).Rd w [.slice ad nd cd] ds) (hw : wtArr ms ds <= 2097152) :
 Calls Tryz.prog 25 #[.agg #[.int .i64 x.id, .int .i64 x.n, .int .i64 x.s, .slice am nm cm, .int .i64 x.lost, .int .i64 x.built, .int .i64 x.seq, .int .i64 x.tail, .int .i64 x.gen, .slice ad nd cd, .int .i64 x.fuse, .bool x.down, .bool x.broken]] w fun e w' => ∃ bm cm' bd cd' m, e = .returned (.agg #[.int .i64 x.id, .int .i64 x.n, .int .i64 x.s, .slice bm nm cm', .int .i64 x.lost, .int .i64 x.built, .int .i64 x.seq, .int .i64 x.tail, .int .i64 x.gen, .slice bd nd cd', .int .i64 x.fuse, .bool x.down, .bool x.broken]) /\ (tMemS 109 51).Own w' w.heap.size m [.slice bm nm cm'] ms /\ (tWrS 82).Own w' m w'.heap.size [.slice bd nd cd'] ds /\ w.heap.size <= m /\ m <= w'.heap.size /\ Below w.heap.size w w' := by
 have hwm : wtMemS ms <= 2097152 := by unfold wtArr at hw; omega
 have hwd : wtWrS ds <= 2097152 := by unfold wtArr at hw; omega
 obtain ⟨hl0, _, hm0⟩ := row_length h0
 obtain ⟨hl1, _, hm1⟩ := row_length h1
 have hn0 : nm <= 2097152 := by unfold wtMemS at hwm; omega
 have hn1 : nd <= 2097152 := by unfold wtWrS at hwd; omega
 obtain ⟨i3, hi3, hx0, hx1, hx2⟩ := info_parts Tryz.info3
 obtain ⟨i1, hi1, hy0, hy1, hy2⟩ := info_parts Tryz.infoEnt
 obtain ⟨i4, hi4, hz0, hz1, hz2⟩ := info_parts Tryz.infoMem
 have zz : ∀ u : World, ∀ ob : Obj, (u.alloc ob).heap.size = u.heap.size + 1 := fun u ob => by simp
 have xm : Box ((((w.alloc (.cells #[.int .i64 x.id, .int .i64 x.n, .int .i64 x.s, .slice am nm cm, .int .i64 x.lost, .int .i64 x.built, .int .i64 x.seq, .int .i64 x.tail, .int .i64 x.gen, .slice ad nd cd, .int .i64 x.fuse, .bool x.down, .bool x.broken] 33)).alloc (.cells #[.int .i64 0, .int .i64 0, .int .i64 0, .slice none 0 0, .int .i64 0, .int .i64 0, .int .i64 0, .int .i64 0, .int .i64 0, .slice none 0 0, .int .i64 0, .bool false, .bool false] 33)).alloc (.cells #[.int .i64 x.id, .int .i64 x.n, .int .i64 x.s, .slice (some ⟨w.heap.size + 1 + 1 + 1, 0, none⟩) 0 0, .int .i64 x.lost, .int .i64 x.built, .int .i64 x.seq, .int .i64 x.tail, .int .i64 x.gen, .slice ad nd cd, .int .i64 x.fuse, .bool x.down, .bool x.broken] 33)).alloc (.cells #[] 51)) (w.heap.size) 33 #[.int .i64 x.id, .int .i64 x.n, .int .i64 x.s, .slice am nm cm, .int .i64 x.lost, .int .i64 x.built, .int .i64 x.seq, .int .i64 x.tail, .int .i64 x.gen, .slice ad nd cd, .int .i64 x.fuse, .bool x.down, .bool x.broken] := (((Box.new w _ _).alloc _).alloc _).alloc _
 have xr0 := Box.new (w.alloc (.cells #[.int .i64 x.id, .int .i64 x.n, .int .i64 x.s, .slice am nm cm, .int .i64 x.lost, .int .i64 x.built, .int .i64 x.seq, .int .i64 x.tail, .int .i64 x.gen, .slice ad nd cd, .int .i64 x.fuse, .bool x.down, .bool x.broken] 33)) 33 #[.int .i64 0, .int .i64 0, .int .i64 0, .slice none 0 0, .int .i64 0, .int .i64 0, .int .i64 0, .int .i64 0, .int .i64 0, .slice none 0 0, .int .i64 0, .bool false, .bool false]
 rw [zz] at xr0
 have xr : Box ((((w.alloc (.cells #[.int .i64 x.id, .int .i64 x.n, .int .i64 x.s, .slice am nm cm, .int .i64 x.lost, .int .i64 x.built, .int .i64 x.seq, .int .i64 x.tail, .int .i64 x.gen, .slice ad nd cd, .int .i64 x.fuse, .bool x.down, .bool x.broken] 33)).alloc (.cells #[.int .i64 0, .int .i64 0, .int .i64 0, .slice none 0 0, .int .i64 0, .int .i64 0, .int .i64 0, .int .i64 0, .int .i64 0, .slice none 0 0, .int .i64 0, .bool false, .bool false] 33)).alloc (.cells #[.int .i64 x.id, .int .i64 x.n, .int .i64 x.s, .slice (some ⟨w.heap.size + 1 + 1 + 1, 0, none⟩) 0 0, .int .i64 x.lost, .int .i64 x.built, .int .i64 x.seq, .int .i64 x.tail, .int .i64 x.gen, .slice ad nd cd, .int .i64 x.fuse, .bool x.down, .bool x.broken] 33)).alloc (.cells #[] 51)) (w.heap.size + 1) 33 #[.int .i64 0, .int .i64 0, .int .i64 0, .slice none 0 0, .int .i64 0, .int .i64 0, .int .i64 0, .int .i64 0, .int .i64 0, .slice none 0 0, .int .i64 0, .bool false, .bool false] := (xr0.alloc _).alloc _
 have xo0 := Box.new ((w.alloc (.cells #[.int .i64 x.id, .int .i64 x.n, .int .i64 x.s, .slice am nm cm, .int .i64 x.lost, .int .i64 x.built, .int .i64 x.seq, .int .i64 x.tail, .int .i64 x.gen, .slice ad nd cd, .int .i64 x.fuse, .bool x.down, .bool x.broken] 33)).alloc (.cells #[.int .i64 0, .int .i64 0, .int .i64 0, .slice none 0 0, .int .i64 0, .int .i64 0, .int .i64 0, .int .i64 0, .int .i64 0, .slice none 0 0, .int .i64 0, .bool false, .bool false] 33)) 33 #[.int .i64 x.id, .int .i64 x.n, .int .i64 x.s, .slice (some ⟨w.heap.size + 1 + 1 + 1, 0, none⟩) 0 0, .int .i64 x.lost, .int .i64 x.built, .int .i64 x.seq, .int .i64 x.tail, .int .i64 x.gen, .slice ad nd cd, .int .i64 x.fuse, .bool x.down, .bool x.broken]
 rw [zz, zz] at xo0
 have xo : Box ((((w.alloc (.cells #[.int .i64 x.id, .int .i64 x.n, .int .i64 x.s, .slice am nm cm, .int .i64 x.lost, .int .i64 x.built, .int .i64 x.seq, .int .i64 x.tail, .int .i64 x.gen, .slice ad nd cd, .int .i64 x.fuse, .bool x.down, .bool x.broken] 33)).alloc (.cells #[.int .i64 0, .int .i64 0, .int .i64 0, .slice none 0 0, .int .i64 0, .int .i64 0, .int .i64 0, .int .i64 0, .int .i64 0, .slice none 0 0, .int .i64 0, .bool false, .bool false] 33)).alloc (.cells #[.int .i64 x.id, .int .i64 x.n, .int .i64 x.s, .slice (some ⟨w.heap.size + 1 + 1 + 1, 0, none⟩) 0 0, .int .i64 x.lost, .int .i64 x.built, .int .i64 x.seq, .int .i64 x.tail, .int .i64 x.gen, .slice ad nd cd, .int .i64 x.fuse, .bool x.down, .bool x.broken] 33)).alloc (.cells #[] 51)) (w.heap.size + 1 + 1) 33 #[.int .i64 x.id, .int .i64 x.n, .int .i64 x.s, .slice (some ⟨w.heap.size + 1 + 1 + 1, 0, none⟩) 0 0, .int .i64 x.lost, .int .i64 x.built, .int .i64 x.seq, .int .i64 x.tail, .int .i64 x.gen, .slice ad nd cd, .int .i64 x.fuse, .bool x.down, .bool x.broken] := xo0.alloc _
 have ml := lit0_mine (t := tMem 109) (E := 51) (((w.alloc (.cells #[.int .i64 x.id, .int .i64 x.n, .int .i64 x.s, .slice am nm cm, .int .i64 x.lost, .int .i64 x.built, .int .i64 x.seq, .int .i64 x.tail, .int .i64 x.gen, .slice ad nd cd, .int .i64 x.fuse, .bool x.down, .bool x.broken] 33)).alloc (.cells #[.int .i64 0, .int .i64 0, .int .i64 0, .slice none 0 0, .int .i64 0, .int .i64 0, .int .i64 0, .int .i64 0, .int .i64 0, .slice none 0 0, .int .i64 0, .bool false, .bool false] 33)).alloc (.cells #[.int .i64 x.id, .int .i64 x.n, .int .i64 x.s, .slice (some ⟨w.heap.size + 1 + 1 + 1, 0, none⟩) 0 0, .int .i64 x.lost, .int .i64 x.built, .int .i64 x.seq, .int .i64 x.tail, .int .i64 x.gen, .slice ad nd cd, .int .i64 x.fuse, .bool x.down, .bool x.broken] 33))
 rw [zz, zz, zz] at ml
 have hB : Below (w.heap.size) w ((((w.alloc (.cells #[.int .i64 x.id, .int .i64 x.n, .int .i64 x.s, .slice am nm cm, .int .i64 x.lost, .int .i64 x.built, .int .i64 x.seq, .int .i64 x.tail, .int .i64 x.gen, .slice ad nd cd, .int .i64 x.fuse, .bool x.down, .bool x.broken] 33)).alloc (.cells #[.int .i64 0, .int .i64 0, .int .i64 0, .slice none 0 0, .int .i64 0, .int .i64 0, .int .i64 0, .int .i64 0, .int .i64 0, .slice none 0 0, .int .i64 0, .bool false, .bool false] 33)).alloc (.cells #[.int .i64 x.id, .int .i64 x.n, .int .i64 x.s, .slice (some ⟨w.heap.size + 1 + 1 + 1, 0, none⟩) 0 0, .int .i64 x.lost, .int .i64 x.built, .int .i64 x.seq, .int .i64 x.tail, .int .i64 x.gen, .slice ad nd cd, .int .i64 x.fuse, .bool x.down, .bool x.broken] 33)).alloc (.cells #[] 51)) := ((((Below.refl _ _).alloc (Nat.le_refl _) _).alloc (by simp) _).alloc (by simp; omega) _).alloc (by simp; omega) _
 have hz : w.heap.size + 1 + 1 + 1 < ((((w.alloc (.cells #[.int .i64 x.id, .int .i64 x.n, .int .i64 x.s, .slice am nm cm, .int .i64 x.lost, .int .i64 x.built, .int .i64 x.seq, .int .i64 x.tail, .int .i64 x.gen, .slice ad nd cd, .int .i64 x.fuse, .bool x.down, .bool x.broken] 33)).alloc (.cells #[.int .i64 0, .int .i64 0, .int .i64 0, .slice none 0 0, .int .i64 0, .int .i64 0, .int .i64 0, .int .i64 0, .int .i64 0, .slice none 0 0, .int .i64 0, .bool false, .bool false] 33)).alloc (.cells #[.int .i64 x.id, .int .i64 x.n, .int .i64 x.s, .slice (some ⟨w.heap.size + 1 + 1 + 1, 0, none⟩) 0 0, .int .i64 x.lost, .int .i64 x.built, .int .i64 x.seq, .int .i64 x.tail, .int .i64 x.gen, .slice ad nd cd, .int .i64 x.fuse, .bool x.down, .bool x.broken] 33)).alloc (.cells #[] 51)).heap.size := by simp
 clear xr0 xo0 zz
 go_enter Tryz.func25, Tryz.ntmps25
 go_wp2
 generalize (((w.alloc (.cells #[.int .i64 x.id, .int .i64 x.n, .int .i64 x.s, .slice am nm cm, .int .i64 x.lost, .int .i64 x.built, .int .i64 x.seq, .int .i64 x.tail, .int .i64 x.gen, .slice ad nd cd, .int .i64 x.fuse, .bool x.down, .bool x.broken] 33)).alloc (.cells #[.int .i64 0, .int .i64 0, .int .i64 0, .slice none 0 0, .int .i64 0, .int .i64 0, .int .i64 0, .int .i64 0, .int .i64 0, .slice none 0 0, .int .i64 0, .bool false, .bool false] 33)).alloc (.cells #[.int .i64 x.id, .int .i64 x.n, .int .i64 x.s, .slice (some ⟨w.heap.size + 1 + 1 + 1, 0, none⟩) 0 0, .int .i64 x.lost, .int .i64 x.built, .int .i64 x.seq, .int .i64 x.tail, .int .i64 x.gen, .slice ad nd cd, .int .i64 x.fuse, .bool x.down, .bool x.broken] 33)).alloc (.cells #[] 51) = W2 at xm xr xo ml hB hz ⊢
 obtain ⟨LB, hLB⟩ : ∃ LB, w.heap.size + 1 + 1 + 1 = LB := ⟨_, rfl⟩
 rw [hLB] at xo ml hz ⊢
 have q3 : w.heap.size + 1 + 1 + 1 <= LB /\ LB <= w.heap.size + 1 + 1 + 1 := by omega
 clear hLB
 obtain ⟨BO, hBO⟩ : ∃ BO, w.heap.size + 1 + 1 = BO := ⟨_, rfl⟩
 rw [hBO] at xo ⊢
 have q2 : w.heap.size + 1 + 1 <= BO /\ BO <= w.heap.size + 1 + 1 := by omega
 clear hBO
 obtain ⟨BR, hBR⟩ : ∃ BR, w.heap.size + 1 = BR := ⟨_, rfl⟩
 rw [hBR] at xr ⊢
 have q1 : w.heap.size + 1 <= BR /\ BR <= w.heap.size + 1 := by omega
 clear hBR
 have XM2 := hidden xm
 have XR2 := hidden xr
 have XO2 := hidden xo
 have ML2 := hidden ml
 have HB2 := hidden hB
 clear xm xr xo ml hB
 go_loopw [4] (fun i wr => ∃ (j : Nat) (v0 : Value) (fp0 : List Nat), j <= nm /\ i = .int .i64 j /\ Fr LB BO W2 wr /\ Box wr BO 33 #[.int .i64 x.id, .int .i64 x.n, .int .i64 x.s, v0, .int .i64 x.lost, .int .i64 x.built, .int .i64 x.seq, .int .i64 x.tail, .int .i64 x.gen, .slice ad nd cd, .int .i64 x.fuse, .bool x.down, .bool x.broken] /\ (tMemS 109 51).Mine wr [v0] (ms.take j) fp0 /\ (∀ b ∈ fp0, LB <= b)) (fun i _ => nm - (intOf i).toNat)
 case atStart => exact ⟨0, _, [LB], Nat.zero_le _, rfl, Fr.refl _ _ _, XO2.out, ML2.out, by simp⟩
 obtain ⟨j, v0, fp0, hj, rfl, fr, xo, hm, hfp⟩ := hrel
 have hs := fr.size
 have xm := fr.box XM2.out (by omega) (by omega)
 have hb := HB2.out.trans (fr.below (M := w.heap.size) (by omega) (by omega))
 have c3 : wr.cell? ⟨w.heap.size, 3, none⟩ = some (.slice am nm cm) := xm.cell 3
 by_cases hjn : j < nm
 . rcases quads_at rfl h0 with h0' | ⟨b, off, rfl, hbl, hcs⟩
   . omega
   have hdj : ms[j]? = some (ms[j]'(by omega)) := List.getElem?_eq_getElem (by omega)
   have htk : ms.take (j + 1) = ms.take j ++ [ms[j]'(by omega)] := List.take_succ_eq_append_getElem (by omega)
   generalize ms[j]'(by omega) = d at hdj htk
   have hin := Nat.le_trans (inner_leM hdj) hwm
   obtain ⟨u0, u1, u2, u3, hv0, hv1, hv2, hv3, hrv⟩ := hcs j d hdj
   obtain ⟨a0, c0, a1, c1, a3, c3', ss, cs, f, bs, rfl, rfl, rfl, rfl, rfl, r0, r1, r3⟩ := mem_at hrv
   have pv0 := (hb.cell (p := ⟨b, off + j * 4, none⟩) hbl).trans hv0
   have pv1 := (hb.cell (p := ⟨b, off + j * 4 + 1, none⟩) hbl).trans hv1
   have pv2 := (hb.cell (p := ⟨b, off + j * 4 + 2, none⟩) hbl).trans hv2
   have pv3 := (hb.cell (p := ⟨b, off + j * 4 + 3, none⟩) hbl).trans hv3
   have R0 := hidden (r0.below hb)
   have R1 := hidden (r1.below hb)
   have R3 := hidden (r3.below hb)
   have k1 : (0 : Int) <= (j : Int) := by omega
   have k2 : (j : Int) < (nm : Int) := by omega
   have HTK := hidden htk
   have XO := hidden xo
   have XMR := hidden xm
   have FRR := hidden fr
   have HM := hidden hm
   have HFP := hidden hfp
   have HL : Hid ((ms.take j).length = j) := by unfold Hid; rw [List.length_take]; omega
   have L1 : Hid ((ms.take j).length + 1 <= maxLen) := by unfold Hid; rw [HL.out]; unfold maxLen; omega
   have L2 : Hid (((ms.take j).length + 1) * 80 <= 140737488355328) := by unfold Hid; rw [HL.out]; omega
   have mk : Hid (∀ w', Box w' BO 33 #[.int .i64 x.id, .int .i64 x.n, .int .i64 x.s, v0, .int .i64 x.lost, .int .i64 x.built, .int .i64 x.seq, .int .i64 x.tail, .int .i64 x.gen, .slice ad nd cd, .int .i64 x.fuse, .bool x.down, .bool x.broken] -> Box w' w.heap.size 33 #[.int .i64 x.id, .int .i64 x.n, .int .i64 x.s, .slice (some ⟨b, off, none⟩) nm cm, .int .i64 x.lost, .int .i64 x.built, .int .i64 x.seq, .int .i64 x.tail, .int .i64 x.gen, .slice ad nd cd, .int .i64 x.fuse, .bool x.down, .bool x.broken] -> w'.heap[b]? = wr.heap[b]? -> w'.cell? ⟨BO, 3, none⟩ = some (v0) /\ w'.cell? ⟨w.heap.size, 3, none⟩ = some (.slice (some ⟨b, off, none⟩) nm cm) /\ w'.cell? ⟨b, off + j * 4, none⟩ = some (.slice a0 ss.length c0) /\ w'.cell? ⟨b, off + j * 4 + 1, none⟩ = some (.slice a1 cs.length c1) /\ w'.cell? ⟨b, off + j * 4 + 2, none⟩ = some (.bool f) /\ w'.cell? ⟨b, off + j * 4 + 3, none⟩ = some (.slice a3 bs.length c3')) := fun w' h1 h2 h3 => ⟨h1.cell 3, h2.cell 3, (World.cell?_of_block (w := wr) h3).trans pv0, (World.cell?_of_block (w := wr) h3).trans pv1, (World.cell?_of_block (w := wr) h3).trans pv2, (World.cell?_of_block (w := wr) h3).trans pv3⟩
   have hS : wr.drew.cell? ⟨BO, 3, none⟩ = some (v0) /\ wr.drew.cell? ⟨w.heap.size, 3, none⟩ = some (.slice (some ⟨b, off, none⟩) nm cm) /\ wr.drew.cell? ⟨b, off + j * 4, none⟩ = some (.slice a0 ss.length c0) /\ wr.drew.cell? ⟨b, off + j * 4 + 1, none⟩ = some (.slice a1 cs.length c1) /\ wr.drew.cell? ⟨b, off + j * 4 + 2, none⟩ = some (.bool f) /\ wr.drew.cell? ⟨b, off + j * 4 + 3, none⟩ = some (.slice a3 bs.length c3') := mk.out wr.drew xo xm rfl
   have zb : b < wr.heap.size := by have := hb.size; omega
   have zLB : LB < wr.heap.size := by omega
   clear hcs hdj hv0 hv1 hv2 hv3 hrv htk xo xm hm hfp hb fr pv0 pv1 pv2 pv3 r0 r1 r3
   go_wp2_with fail
   refine Upto.start (S := fun w' => w'.cell? ⟨BO, 3, none⟩ = some (v0) /\ w'.cell? ⟨w.heap.size, 3, none⟩ = some (.slice (some ⟨b, off, none⟩) nm cm) /\ w'.cell? ⟨b, off + j * 4, none⟩ = some (.slice a0 ss.length c0) /\ w'.cell? ⟨b, off + j * 4 + 1, none⟩ = some (.slice a1 cs.length c1) /\ w'.cell? ⟨b, off + j * 4 + 2, none⟩ = some (.bool f) /\ w'.cell? ⟨b, off + j * 4 + 3, none⟩ = some (.slice a3 bs.length c3')) (k := 11) (by kernel_rfl) ?_
   refine Upto.t 0 hS ?_
   refine Upto.t 1 hS ?_
   refine Upto.t 2 hS ?_
   refine Upto.t 3 hS ?_
   refine Upto.t 4 hS ?_
   refine Upto.t 5 hS ?_
   refine Upto.t 6 hS ?_
   refine Upto.one (i := 7) (by kernel_rfl) rfl (fun K hK => ?_)
   go_simp
   refine (l2Copy_any _ E _ _ _ _ _ _ _ _ _ ss cs f bs R0.out.drew R1.out.drew R3.out.drew hin).mono ?_
   rintro e wc ⟨y0, y1, y3, m1, m2, rfl, o3, o0, o1, hm12, hm01, hm22, bc⟩
   have hbc' : Below wr.heap.size wr wc := (Below.refl wr.heap.size wr).drew.trans bc
   have hm01' : wr.heap.size <= m1 := hm01
   have om : (tMem 109).Own wc wr.heap.size wc.heap.size [y0, y1, .bool f, y3] (ss, cs, f, bs) := mem_own3 o0 o1 o3 (.inl (Nat.le_refl _)) (.inr (Nat.le_refl _)) (.inr hm12) ⟨by omega, by omega⟩ ⟨by omega, Nat.le_refl _⟩ ⟨Nat.le_refl _, by omega⟩
   obtain ⟨e0, g0, rfl⟩ := row_shape o0.rd
   obtain ⟨e1, g1, rfl⟩ := row_shape o1.rd
   obtain ⟨e3, g3, rfl⟩ := row_shape o3.rd
   obtain ⟨fpx, mx, rx⟩ := om.mine
   have xoc := XO.out.below hbc' (by omega)
   have xmc := XMR.out.below hbc' (by omega)
   have hS3 : wc.cell? ⟨BO, 3, none⟩ = some (v0) /\ wc.cell? ⟨w.heap.size, 3, none⟩ = some (.slice (some ⟨b, off, none⟩) nm cm) /\ wc.cell? ⟨b, off + j * 4, none⟩ = some (.slice a0 ss.length c0) /\ wc.cell? ⟨b, off + j * 4 + 1, none⟩ = some (.slice a1 cs.length c1) /\ wc.cell? ⟨b, off + j * 4 + 2, none⟩ = some (.bool f) /\ wc.cell? ⟨b, off + j * 4 + 3, none⟩ = some (.slice a3 bs.length c3') := mk.out wc xoc xmc (hbc'.block b zb)
   have bB := new_below wc (.cells #[.slice e0 ss.length g0, .slice e1 cs.length g1, .bool f, .slice e3 bs.length g3] 51)
   have zc := hbc'.size
   have hS4 : (wc.alloc (.cells #[.slice e0 ss.length g0, .slice e1 cs.length g1, .bool f, .slice e3 bs.length g3] 51)).cell? ⟨BO, 3, none⟩ = some (v0) /\ (wc.alloc (.cells #[.slice e0 ss.length g0, .slice e1 cs.length g1, .bool f, .slice e3 bs.length g3] 51)).cell? ⟨w.heap.size, 3, none⟩ = some (.slice (some ⟨b, off, none⟩) nm cm) /\ (wc.alloc (.cells #[.slice e0 ss.length g0, .slice e1 cs.length g1, .bool f, .slice e3 bs.length g3] 51)).cell? ⟨b, off + j * 4, none⟩ = some (.slice a0 ss.length c0) /\ (wc.alloc (.cells #[.slice e0 ss.length g0, .slice e1 cs.length g1, .bool f, .slice e3 bs.length g3] 51)).cell? ⟨b, off + j * 4 + 1, none⟩ = some (.slice a1 cs.length c1) /\ (wc.alloc (.cells #[.slice e0 ss.length g0, .slice e1 cs.length g1, .bool f, .slice e3 bs.length g3] 51)).cell? ⟨b, off + j * 4 + 2, none⟩ = some (.bool f) /\ (wc.alloc (.cells #[.slice e0 ss.length g0, .slice e1 cs.length g1, .bool f, .slice e3 bs.length g3] 51)).cell? ⟨b, off + j * 4 + 3, none⟩ = some (.slice a3 bs.length c3') := mk.out _ (xoc.alloc _) (xmc.alloc _) ((bB.block b (by omega)).trans (hbc'.block b zb))
   have XOC := hidden xoc
   have XMC := hidden xmc
   have MX := hidden mx
   have RX := hidden rx
   have HBC := hidden hbc'
   clear xoc xmc mx rx hbc' bc om o0 o1 o3 hm01 hm01' hm12 hm22 bB R0 R1 R3
   go_wp2_with fail
   refine hK.out _ _ (fun _ => hS3) ?_
   clear hK K
   refine Upto.one (i := 8) (by kernel_rfl) rfl (fun K hK => ?_)
   go_simp
   refine hK.out _ _ (fun _ => hS4) ?_
   clear hK K
   refine Upto.one (i := 9) (by kernel_rfl) rfl (fun K hK => ?_)
   refine step_appT (tMem 109) (by rfl) _ _ 30 (by rfl) 51 i4 (.agg #[.slice none 0 0, .slice none 0 0, .bool false, .slice none 0 0]) 80 Tryz.underlying30 hi4 hz0 hz1 hz2 rfl (by decide) v0 (ms.take j) fp0 (by rfl) ?_ ⟨wc.heap.size, 0, none⟩ 1 [.slice e0 ss.length g0, .slice e1 cs.length g1, .bool f, .slice e3 bs.length g3] (ss, cs, f, bs) fpx (by rfl) ?_ ?_ ?_ ?_ L1.out L2.out ?_
   . exact (HM.out.below HBC.out).alloc _
   . exact MX.out.alloc _
   . intro b hb hb'
     have h1 := HM.out.lt b hb
     have h2 := RX.out b hb'
     omega
   . exact news_new _ _ _
   . intro u hu
     simp at hu
     rcases hu with hu | hu | hu | hu <;> (rw [hu]; rfl)
   intro g cap wA fpA m1 m2 m3
   rw [HL.out] at m1 ⊢
   rw [← HTK.out] at m1
   have ya := (XOC.out.alloc (.cells #[.slice e0 ss.length g0, .slice e1 cs.length g1, .bool f, .slice e3 bs.length g3] 51)).turned m3 (fun hm => by have := HFP.out _ hm; omega)
   have ym := (XMC.out.alloc (.cells #[.slice e0 ss.length g0, .slice e1 cs.length g1, .bool f, .slice e3 bs.length g3] 51)).turned m3 (fun hm => by have := HFP.out _ hm; omega)
   have zB : (wc.alloc (.cells #[.slice e0 ss.length g0, .slice e1 cs.length g1, .bool f, .slice e3 bs.length g3] 51)).heap.size = wc.heap.size + 1 := by simp
   have zBb : b < (wc.alloc (.cells #[.slice e0 ss.length g0, .slice e1 cs.length g1, .bool f, .slice e3 bs.length g3] 51)).heap.size := by omega
   have hS5 : wA.cell? ⟨BO, 3, none⟩ = some (v0) /\ wA.cell? ⟨w.heap.size, 3, none⟩ = some (.slice (some ⟨b, off, none⟩) nm cm) /\ wA.cell? ⟨b, off + j * 4, none⟩ = some (.slice a0 ss.length c0) /\ wA.cell? ⟨b, off + j * 4 + 1, none⟩ = some (.slice a1 cs.length c1) /\ wA.cell? ⟨b, off + j * 4 + 2, none⟩ = some (.bool f) /\ wA.cell? ⟨b, off + j * 4 + 3, none⟩ = some (.slice a3 bs.length c3') := mk.out wA ya ym ((m3.block b zBb (fun hm => by have := HFP.out _ hm; omega)).trans (((new_below wc (.cells #[.slice e0 ss.length g0, .slice e1 cs.length g1, .bool f, .slice e3 bs.length g3] 51)).block b (by omega)).trans (HBC.out.block b zb)))
   have r0 := hS5.1
   have fz := ya.frozen 3
   have YA := hidden ya
   have M1 := hidden m1
   have M2 := hidden m2
   have M3 := hidden m3
   clear ya ym m1 m2 m3 zB zBb
   refine hK.out _ _ (fun _ => hS5) ?_
   clear hK K
   simp only [Act.put, List.setIfInBounds_toArray, List.set_cons_zero, List.set_cons_succ]
   refine Upto.t 10 hS5 ?_
   refine Upto.one (i := 11) (by kernel_rfl) rfl (fun K hK => ?_)
   go_simp
   refine hK.out _ _ (fun h => absurd rfl h) ?_
   clear hK K
   refine Upto.done (by kernel_rfl) ?_ _
   have HFA := hidden (round_fp (N := LB) (by omega) HBC.out HFP.out RX.out M2.out)
   have FRA := hidden (Fr.round FRR.out (by omega) HBC.out _ M3.out HFP.out 3 (.slice (some ⟨g, 0, none⟩) (j + 1) cap))
   have MA := hidden (M1.out.setCell (g := BO) (j := 3) (fun hm => by have := HFA.out _ hm; omega) (.slice (some ⟨g, 0, none⟩) (j + 1) cap))
   have YA' := hidden (YA.out.set 3 (.slice (some ⟨g, 0, none⟩) (j + 1) cap))
   clear hS hS3 hS4 hS5 r0 YA M1 M2 M3 XOC MX RX HBC HFP HM FRR XO XMR XMC mk
   go_wp2
   go_roundw
   case rel => exact ⟨j + 1, _, fpA, by omega, by go_num, FRA.out, YA'.out, MA.out, HFA.out⟩
   case measure => simp [intOf]; omega
 have ej : nm = j := by omega
 subst ej
 rw [List.take_of_length_le (by omega)] at hm
 have hlt := hm.lt
 obtain ⟨eM, gM, hvM⟩ := row_shape hm.rd
 rw [hl0] at hvM
 subst hvM
 have KM := hm.own (lo := LB) (hi := wr.heap.size) (fun b hb => ⟨hfp b hb, hlt b hb⟩)
 have xr := fr.box XR2.out (by omega) (by omega)
 have b3 : But BO (BO + 1) (wr.alloc (.cells #[] 82)) ((wr.alloc (.cells #[] 82)).setCell ⟨BO, 9, none⟩ (.slice (some ⟨wr.heap.size, 0, none⟩) 0 0)) := But.setCell (by omega) (by omega) _
 have xm3 : Box ((wr.alloc (.cells #[] 82)).setCell ⟨BO, 9, none⟩ (.slice (some ⟨wr.heap.size, 0, none⟩) 0 0)) w.heap.size 33 #[.int .i64 x.id, .int .i64 x.n, .int .i64 x.s, .slice am nm cm, .int .i64 x.lost, .int .i64 x.built, .int .i64 x.seq, .int .i64 x.tail, .int .i64 x.gen, .slice ad nd cd, .int .i64 x.fuse, .bool x.down, .bool x.broken] := (xm.alloc _).other (by omega) 9 _
 have xr3 : Box ((wr.alloc (.cells #[] 82)).setCell ⟨BO, 9, none⟩ (.slice (some ⟨wr.heap.size, 0, none⟩) 0 0)) BR 33 #[.int .i64 0, .int .i64 0, .int .i64 0, .slice none 0 0, .int .i64 0, .int .i64 0, .int .i64 0, .int .i64 0, .int .i64 0, .slice none 0 0, .int .i64 0, .bool false, .bool false] := (xr.alloc _).other (by omega) 9 _
 have xo3 : Box ((wr.alloc (.cells #[] 82)).setCell ⟨BO, 9, none⟩ (.slice (some ⟨wr.heap.size, 0, none⟩) 0 0)) BO 33 #[.int .i64 x.id, .int .i64 x.n, .int .i64 x.s, .slice eM nm gM, .int .i64 x.lost, .int .i64 x.built, .int .i64 x.seq, .int .i64 x.tail, .int .i64 x.gen, .slice (some ⟨wr.heap.size, 0, none⟩) 0 0, .int .i64 x.fuse, .bool x.down, .bool x.broken] := (xo.alloc _).set 9 (.slice (some ⟨wr.heap.size, 0, none⟩) 0 0)
 have ml3 : (tWrS 82).Mine ((wr.alloc (.cells #[] 82)).setCell ⟨BO, 9, none⟩ (.slice (some ⟨wr.heap.size, 0, none⟩) 0 0)) [.slice (some ⟨wr.heap.size, 0, none⟩) 0 0] [] [wr.heap.size] := (lit0_mine (t := tWr) (E := 82) wr).setCell (by simp; omega) _
 have km3 := (KM.below (new_below wr (.cells #[] 82))).but b3 (.inr (by omega))
 have hB3 : Below w.heap.size w ((wr.alloc (.cells #[] 82)).setCell ⟨BO, 9, none⟩ (.slice (some ⟨wr.heap.size, 0, none⟩) 0 0)) := (hb.alloc hb.size _).setCell (show w.heap.size <= BO by omega) _
 have z3 : wr.heap.size < ((wr.alloc (.cells #[] 82)).setCell ⟨BO, 9, none⟩ (.slice (some ⟨wr.heap.size, 0, none⟩) 0 0)).heap.size := by simp [World.setCell]
 have zL3 : LB < wr.heap.size := by omega
 have co9 : (wr.alloc (.cells #[] 82)).cell? ⟨BO, 9, none⟩ = some (.slice ad nd cd) := (xo.alloc _).cell 9
 have fo9 := (xo.alloc (.cells #[] 82)).frozen 9
 clear fr xo xm hm hfp hlt KM xr b3 hb hs hj
 go_wp2
 generalize (wr.alloc (.cells #[] 82)).setCell ⟨BO, 9, none⟩ (.slice (some ⟨wr.heap.size, 0, none⟩) 0 0) = W3 at xm3 xr3 xo3 ml3 km3 hB3 z3 ⊢
 obtain ⟨LE, hLE⟩ : ∃ LE, wr.heap.size = LE := ⟨_, rfl⟩
 rw [hLE] at xo3 ml3 km3 z3 zL3 ⊢
 clear hLE
 have XM3 := hidden xm3
 have XR3 := hidden xr3
 have XO3 := hidden xo3
 have ML3 := hidden ml3
 have KM3 := hidden km3
 have HB3 := hidden hB3
 clear xm3 xr3 xo3 ml3 km3 hB3 XM2 XR2 XO2 ML2 HB2 hz
 go_loopw [5] (fun i wr => ∃ (j : Nat) (v1 : Value) (fp1 : List Nat), j <= nd /\ i = .int .i64 j /\ Fr LE BO W3 wr /\ Box wr BO 33 #[.int .i64 x.id, .int .i64 x.n, .int .i64 x.s, .slice eM nm gM, .int .i64 x.lost, .int .i64 x.built, .int .i64 x.seq, .int .i64 x.tail, .int .i64 x.gen, v1, .int .i64 x.fuse, .bool x.down, .bool x.broken] /\ (tWrS 82).Mine wr [v1] (ds.take j) fp1 /\ (∀ b ∈ fp1, LE <= b)) (fun i _ => nd - (intOf i).toNat)
 case atStart => exact ⟨0, _, [LE], Nat.zero_le _, rfl, Fr.refl _ _ _, XO3.out, ML3.out, by simp⟩
 obtain ⟨j, v1, fp1, hj, rfl, fr, xo, hm, hfp⟩ := hrel
 have hs := fr.size
 have xm := fr.box XM3.out (by omega) (by omega)
 have hb := HB3.out.trans (fr.below (M := w.heap.size) (by omega) (by omega))
 have c9 : wr.cell? ⟨w.heap.size, 9, none⟩ = some (.slice ad nd cd) := xm.cell 9
 by_cases hjn : j < nd
 . rcases pairs_at rfl h1 with h0' | ⟨b, off, rfl, hbl, hcs⟩
   . omega
   have hdj : ds[j]? = some (ds[j]'(by omega)) := List.getElem?_eq_getElem (by omega)
   have htk : ds.take (j + 1) = ds.take j ++ [ds[j]'(by omega)] := List.take_succ_eq_append_getElem (by omega)
   generalize ds[j]'(by omega) = d at hdj htk
   have hil := inner_le' hdj
   obtain ⟨u0, u1, hv0, hv1, hrv⟩ := hcs j d hdj
   obtain ⟨rfl, hrv'⟩ := wr_rd hrv
   obtain ⟨av, cv, rfl⟩ := row_shape hrv'
   have pv0 := (hb.cell (p := ⟨b, off + j * 2, none⟩) hbl).trans hv0
   have pv1 := (hb.cell (p := ⟨b, off + j * 2 + 1, none⟩) hbl).trans hv1
   obtain ⟨x0, x1⟩ := d
   simp only at pv0 pv1 hrv' hil
   have HX := hidden (hrv'.below hb)
   have k1 : (0 : Int) <= (j : Int) := by omega
   have k2 : (j : Int) < (nd : Int) := by omega
   have HTK := hidden htk
   have XO := hidden xo
   have XMR := hidden xm
   have FRR := hidden fr
   have HM := hidden hm
   have HFP := hidden hfp
   have HL : Hid ((ds.take j).length = j) := by unfold Hid; rw [List.length_take]; omega
   have L1 : Hid ((ds.take j).length + 1 <= maxLen) := by unfold Hid; rw [HL.out]; unfold maxLen; omega
   have L2 : Hid (((ds.take j).length + 1) * 32 <= 140737488355328) := by unfold Hid; rw [HL.out]; omega
   have mk : Hid (∀ w', Box w' BO 33 #[.int .i64 x.id, .int .i64 x.n, .int .i64 x.s, .slice eM nm gM, .int .i64 x.lost, .int .i64 x.built, .int .i64 x.seq, .int .i64 x.tail, .int .i64 x.gen, v1, .int .i64 x.fuse, .bool x.down, .bool x.broken] -> Box w' w.heap.size 33 #[.int .i64 x.id, .int .i64 x.n, .int .i64 x.s, .slice am nm cm, .int .i64 x.lost, .int .i64 x.built, .int .i64 x.seq, .int .i64 x.tail, .int .i64 x.gen, .slice (some ⟨b, off, none⟩) nd cd, .int .i64 x.fuse, .bool x.down, .bool x.broken] -> w'.heap[b]? = wr.heap[b]? -> w'.cell? ⟨BO, 9, none⟩ = some (v1) /\ w'.cell? ⟨w.heap.size, 9, none⟩ = some (.slice (some ⟨b, off, none⟩) nd cd) /\ w'.cell? ⟨b, off + j * 2, none⟩ = some (.int .i64 x0) /\ w'.cell? ⟨b, off + j * 2 + 1, none⟩ = some (.slice av x1.length cv)) := fun w' h1 h2 h3 => ⟨h1.cell 9, h2.cell 9, (World.cell?_of_block (w := wr) h3).trans pv0, (World.cell?_of_block (w := wr) h3).trans pv1⟩
   have bA := new_below wr (.cells #[] 3)
   have hS : wr.drew.cell? ⟨BO, 9, none⟩ = some (v1) /\ wr.drew.cell? ⟨w.heap.size, 9, none⟩ = some (.slice (some ⟨b, off, none⟩) nd cd) /\ wr.drew.cell? ⟨b, off + j * 2, none⟩ = some (.int .i64 x0) /\ wr.drew.cell? ⟨b, off + j * 2 + 1, none⟩ = some (.slice av x1.length cv) := mk.out wr.drew xo xm rfl
   have zb : b < wr.heap.size := by have := hb.size; omega
   have zLE : LE < wr.heap.size := by omega
   have hS2 : (wr.alloc (.cells #[] 3)).drew.cell? ⟨BO, 9, none⟩ = some (v1) /\ (wr.alloc (.cells #[] 3)).drew.cell? ⟨w.heap.size, 9, none⟩ = some (.slice (some ⟨b, off, none⟩) nd cd) /\ (wr.alloc (.cells #[] 3)).drew.cell? ⟨b, off + j * 2, none⟩ = some (.int .i64 x0) /\ (wr.alloc (.cells #[] 3)).drew.cell? ⟨b, off + j * 2 + 1, none⟩ = some (.slice av x1.length cv) := mk.out (wr.alloc (.cells #[] 3)).drew (xo.alloc _) (xm.alloc _) (bA.block b zb)
   have HG : Hid ((wr.alloc (.cells #[] 3)).drew.heap[wr.heap.size]? = some (.cells #[] 3 (0, 0))) := Box.new wr 3 #[]
   have RD : Hid (tIntS.Rd (wr.alloc (.cells #[] 3)).drew [.slice av x1.length cv] x1) := (HX.out.below bA).drew
   have BA := hidden bA
   clear hcs hdj hv0 hv1 hrv hrv' htk xo xm hm hfp hb fr pv0 pv1 bA
   go_wp2_with fail
   refine Upto.start (S := fun w' => w'.cell? ⟨BO, 9, none⟩ = some (v1) /\ w'.cell? ⟨w.heap.size, 9, none⟩ = some (.slice (some ⟨b, off, none⟩) nd cd) /\ w'.cell? ⟨b, off + j * 2, none⟩ = some (.int .i64 x0) /\ w'.cell? ⟨b, off + j * 2 + 1, none⟩ = some (.slice av x1.length cv)) (k := 20) (by kernel_rfl) ?_
   refine Upto.t 0 hS ?_
   refine Upto.t 1 hS ?_
   refine Upto.t 2 hS ?_
   refine Upto.t 3 hS ?_
   refine Upto.t 4 hS ?_
   refine Upto.t 5 hS ?_
   refine Upto.t 6 hS ?_
   refine Upto.t 7 hS ?_
   refine Upto.t 9 hS ?_
   refine Upto.t 10 hS ?_
   refine Upto.t 11 hS ?_
   refine Upto.t 12 hS ?_
   refine Upto.t 13 hS ?_
   refine Upto.t 14 hS ?_
   refine Upto.one (i := 8) (by kernel_rfl) rfl (fun K hK => ?_)
   go_simp
   refine hK.out _ _ (fun _ => hS2) ?_
   clear hK K
   refine Upto.one (i := 15) (by kernel_rfl) rfl (fun K hK => ?_)
   refine step_copy (by rfl) _ _ 49 (by rfl) i3 Tryz.underlying49 hi3 hx0 hx1 hx2 wr.heap.size (by rfl) HG.out av x1.length cv x1 (by rfl) RD.out (by omega) ?_
   intro ac cc wc fpx mx rx tx
   have tx' : Turned [wr.heap.size] (wr.alloc (.cells #[] 3)) wc := Turned.undrew tx
   have zA : (wr.alloc (.cells #[] 3)).heap.size = wr.heap.size + 1 := by simp
   have zd : (wr.alloc (.cells #[] 3)).drew.heap.size = (wr.alloc (.cells #[] 3)).heap.size := rfl
   have hbc' : Below wr.heap.size wr wc := BA.out.trans (tx'.below (N := wr.heap.size) (by omega) (by simp))
   have xoc := XO.out.below hbc' (by omega)
   have xmc := XMR.out.below hbc' (by omega)
   have hS3 : wc.cell? ⟨BO, 9, none⟩ = some (v1) /\ wc.cell? ⟨w.heap.size, 9, none⟩ = some (.slice (some ⟨b, off, none⟩) nd cd) /\ wc.cell? ⟨b, off + j * 2, none⟩ = some (.int .i64 x0) /\ wc.cell? ⟨b, off + j * 2 + 1, none⟩ = some (.slice av x1.length cv) := mk.out wc xoc xmc (hbc'.block b zb)
   have bB := new_below wc (.cells #[.int .i64 x0, .slice ac x1.length cc] 82)
   have zc := hbc'.size
   have hS4 : (wc.alloc (.cells #[.int .i64 x0, .slice ac x1.length cc] 82)).cell? ⟨BO, 9, none⟩ = some (v1) /\ (wc.alloc (.cells #[.int .i64 x0, .slice ac x1.length cc] 82)).cell? ⟨w.heap.size, 9, none⟩ = some (.slice (some ⟨b, off, none⟩) nd cd) /\ (wc.alloc (.cells #[.int .i64 x0, .slice ac x1.length cc] 82)).cell? ⟨b, off + j * 2, none⟩ = some (.int .i64 x0) /\ (wc.alloc (.cells #[.int .i64 x0, .slice ac x1.length cc] 82)).cell? ⟨b, off + j * 2 + 1, none⟩ = some (.slice av x1.length cv) := mk.out _ (xoc.alloc _) (xmc.alloc _) ((bB.block b (by omega)).trans (hbc'.block b zb))
   have RX : Hid (∀ b ∈ fpx, wr.heap.size <= b /\ b < wc.heap.size) := fun b hb => by have := rx b hb; omega
   have XOC := hidden xoc
   have XMC := hidden xmc
   have MX := hidden mx
   have HBC := hidden hbc'
   clear xoc xmc mx rx tx tx' hbc' bB zA zd
   refine hK.out _ _ (fun _ => hS3) ?_
   clear hK K
   simp only [Act.put, List.setIfInBounds_toArray, List.set_cons_zero, List.set_cons_succ]
   refine Upto.t 16 hS3 ?_
   refine Upto.one (i := 17) (by kernel_rfl) rfl (fun K hK => ?_)
   go_simp
   refine hK.out _ _ (fun _ => hS4) ?_
   clear hK K
   refine Upto.one (i := 18) (by kernel_rfl) rfl (fun K hK => ?_)
   refine step_appT tWr (by rfl) _ _ 31 (by rfl) 82 i1 (.agg #[.int .i64 0, .slice none 0 0]) 32 Tryz.underlying31 hi1 hy0 hy1 hy2 rfl Nat.zero_lt_two v1 (ds.take j) fp1 (by rfl) ?_ ⟨wc.heap.size, 0, none⟩ 1 [.int .i64 x0, .slice ac x1.length cc] (x0, x1) fpx (by rfl) ?_ ?_ ?_ ?_ L1.out L2.out ?_
   . exact (HM.out.below HBC.out).alloc _
   . exact (wr_mine x0 MX.out).alloc _
   . intro b hb hb'
     have h1 := HM.out.lt b hb
     have h2 := RX.out b hb'
     omega
   . exact news_new _ _ _
   . intro u hu
     simp at hu
     rcases hu with hu | hu <;> (rw [hu]; rfl)
   intro g cap wA fpA m1 m2 m3
   rw [HL.out] at m1 ⊢
   rw [← HTK.out] at m1
   have ya := (XOC.out.alloc (.cells #[.int .i64 x0, .slice ac x1.length cc] 82)).turned m3 (fun hm => by have := HFP.out _ hm; omega)
   have ym := (XMC.out.alloc (.cells #[.int .i64 x0, .slice ac x1.length cc] 82)).turned m3 (fun hm => by have := HFP.out _ hm; omega)
   have zB : (wc.alloc (.cells #[.int .i64 x0, .slice ac x1.length cc] 82)).heap.size = wc.heap.size + 1 := by simp
   have zBb : b < (wc.alloc (.cells #[.int .i64 x0, .slice ac x1.length cc] 82)).heap.size := by omega
   have hS5 : wA.cell? ⟨BO, 9, none⟩ = some (v1) /\ wA.cell? ⟨w.heap.size, 9, none⟩ = some (.slice (some ⟨b, off, none⟩) nd cd) /\ wA.cell? ⟨b, off + j * 2, none⟩ = some (.int .i64 x0) /\ wA.cell? ⟨b, off + j * 2 + 1, none⟩ = some (.slice av x1.length cv) := mk.out wA ya ym ((m3.block b zBb (fun hm => by have := HFP.out _ hm; omega)).trans (((new_below wc (.cells #[.int .i64 x0, .slice ac x1.length cc] 82)).block b (by omega)).trans (HBC.out.block b zb)))
   have r0 := hS5.1
   have fz := ya.frozen 9
   have YA := hidden ya
   have M1 := hidden m1
   have M2 := hidden m2
   have M3 := hidden m3
   clear ya ym m1 m2 m3 zB zBb
   refine hK.out _ _ (fun _ => hS5) ?_
   clear hK K
   simp only [Act.put, List.setIfInBounds_toArray, List.set_cons_zero, List.set_cons_succ]
   refine Upto.t 19 hS5 ?_
   refine Upto.one (i := 20) (by kernel_rfl) rfl (fun K hK => ?_)
   go_simp
   refine hK.out _ _ (fun h => absurd rfl h) ?_
   clear hK K
   refine Upto.done (by kernel_rfl) ?_ _
   have HFA := hidden (round_fp (N := LE) (by omega) HBC.out HFP.out RX.out M2.out)
   have FRA := hidden (Fr.round FRR.out (by omega) HBC.out _ M3.out HFP.out 9 (.slice (some ⟨g, 0, none⟩) (j + 1) cap))
   have MA := hidden (M1.out.setCell (g := BO) (j := 9) (fun hm => by have := HFA.out _ hm; omega) (.slice (some ⟨g, 0, none⟩) (j + 1) cap))
   have YA' := hidden (YA.out.set 9 (.slice (some ⟨g, 0, none⟩) (j + 1) cap))
   clear hS hS2 hS3 hS4 hS5 BA HG RD HX r0 YA M1 M2 M3 XOC MX RX HBC HFP HM FRR XO XMR XMC mk
   go_wp2
   go_roundw
   case rel => exact ⟨j + 1, _, fpA, by omega, by go_num, FRA.out, YA'.out, MA.out, HFA.out⟩
   case measure => simp [intOf]; omega
 have ej : nd = j := by omega
 subst ej
 rw [List.take_of_length_le (by omega)] at hm
 have hlt := hm.lt
 obtain ⟨eD, gD, hvD⟩ := row_shape hm.rd
 rw [hl1] at hvD
 subst hvD
 have K1 := hm.own (lo := LE) (hi := wr.heap.size) (fun b hb => ⟨hfp b hb, hlt b hb⟩)
 have K0 := fr.own KM3.out (Nat.le_refl _) (.inr (by omega))
 have xr := fr.box XR3.out (by omega) (by omega)
 have hbt := puts_but BR [(0, .int .i64 x.id), (1, .int .i64 x.n), (2, .int .i64 x.s), (3, .slice eM nm gM), (4, .int .i64 x.lost), (5, .int .i64 x.built), (6, .int .i64 x.seq), (7, .int .i64 x.tail), (8, .int .i64 x.gen), (9, .slice eD nd gD), (10, .int .i64 x.fuse), (11, .bool x.down), (12, .bool x.broken)] wr
 have H0 := K0.but hbt (.inr (by omega))
 have H1 := K1.but hbt (.inr (by omega))
 have HBB := Below.andBut hb hbt (by omega)
 have hsz := hbt.size
 have H0w := hidden (H0.widen (lo' := w.heap.size) (hi' := LE) (by omega) (Nat.le_refl _))
 have H1w := hidden (H1.widen (lo' := LE) (Nat.le_refl _) hsz)
 have HBw := hidden HBB
 have HSZ : Hid (LE <= (puts wr BR [(0, .int .i64 x.id), (1, .int .i64 x.n), (2, .int .i64 x.s), (3, .slice eM nm gM), (4, .int .i64 x.lost), (5, .int .i64 x.built), (6, .int .i64 x.seq), (7, .int .i64 x.tail), (8, .int .i64 x.gen), (9, .slice eD nd gD), (10, .int .i64 x.fuse), (11, .bool x.down), (12, .bool x.broken)]).heap.size) := by unfold Hid; omega
 simp only [puts] at H0w H1w HBw HSZ
 obtain ⟨p0, p1, p2, p3, p4, p5, p6, p7, p8, p9, p10, p11, p12⟩ := xr.cells13
 have fz := xr.frozen
 obtain ⟨r0, r1, r2, r3, r4, r5, r6, r7, r8, r9, r10, r11, r12⟩ := xo.cells13
 have hLw : w.heap.size <= LE := by omega
 clear fr xo xm hb hm hfp hlt xr K0 K1 hbt H0 H1 HBB hsz hj hs
 go_wp2
 refine bodyPost_ret (v := .agg #[.int .i64 x.id, .int .i64 x.n, .int .i64 x.s, .slice eM nm gM, .int .i64 x.lost, .int .i64 x.built, .int .i64 x.seq, .int .i64 x.tail, .int .i64 x.gen, .slice eD nd gD, .int .i64 x.fuse, .bool x.down, .bool x.broken]) (by simp [results, Tryz.results25, go_sem, p0, p1, p2, p3, p4, p5, p6, p7, p8, p9, p10, p11, p12]) rfl ?_
 exact ⟨_, _, _, _, LE, rfl, H0w.out, H1w.out, hLw, HSZ.out, HBw.out⟩

theorem specBuildStep_any (w : World) (E F G : TypeId) (x : ArrN) (am ad : Option Addr) (nm cm nd cd : Nat) (ms : List MemD) (ds : List (Int × List Int)) (h0 : (tMemS E F).Rd w [.slice am nm cm] ms) (h1 : (tWrS G).Rd w [.slice ad nd cd] ds) (hw : wtArr ms ds <= 2097152) :
 Calls Tryz.prog 17 #[.agg #[.int .i64 x.id, .int .i64 x.n, .int .i64 x.s, .slice am nm cm, .int .i64 x.lost, .int .i64 x.built, .int .i64 x.seq, .int .i64 x.tail, .int .i64 x.gen, .slice ad nd cd, .int .i64 x.fuse, .bool x.down, .bool x.broken]] w fun e w' => ArrOutC w w' e (bstepO x ms ds) (bstepC x ms ds) ds := by
 obtain ⟨rfl, _⟩ := row_length h0
 obtain ⟨rfl, _⟩ := row_length h1
 have hA := (new_below w (.cells #[.int .i64 x.id, .int .i64 x.n, .int .i64 x.s, .slice am ms.length cm, .int .i64 x.lost, .int .i64 x.built, .int .i64 x.seq, .int .i64 x.tail, .int .i64 x.gen, .slice ad ds.length cd, .int .i64 x.fuse, .bool x.down, .bool x.broken] 33)).alloc (by simp) (.cells #[.int .i64 0, .int .i64 0, .int .i64 0, .slice none 0 0, .int .i64 0, .int .i64 0, .int .i64 0, .int .i64 0, .int .i64 0, .slice none 0 0, .int .i64 0, .bool false, .bool false] 33)
 have X0 : Box ((w.alloc (.cells #[.int .i64 x.id, .int .i64 x.n, .int .i64 x.s, .slice am ms.length cm, .int .i64 x.lost, .int .i64 x.built, .int .i64 x.seq, .int .i64 x.tail, .int .i64 x.gen, .slice ad ds.length cd, .int .i64 x.fuse, .bool x.down, .bool x.broken] 33)).alloc (.cells #[.int .i64 0, .int .i64 0, .int .i64 0, .slice none 0 0, .int .i64 0, .int .i64 0, .int .i64 0, .int .i64 0, .int .i64 0, .slice none 0 0, .int .i64 0, .bool false, .bool false] 33)) w.heap.size 33 #[.int .i64 x.id, .int .i64 x.n, .int .i64 x.s, .slice am ms.length cm, .int .i64 x.lost, .int .i64 x.built, .int .i64 x.seq, .int .i64 x.tail, .int .i64 x.gen, .slice ad ds.length cd, .int .i64 x.fuse, .bool x.down, .bool x.broken] := (Box.new w _ _).alloc _
 have R0 := Box.new (w.alloc (.cells #[.int .i64 x.id, .int .i64 x.n, .int .i64 x.s, .slice am ms.length cm, .int .i64 x.lost, .int .i64 x.built, .int .i64 x.seq, .int .i64 x.tail, .int .i64 x.gen, .slice ad ds.length cd, .int .i64 x.fuse, .bool x.down, .bool x.broken] 33)) 33 #[.int .i64 0, .int .i64 0, .int .i64 0, .slice none 0 0, .int .i64 0, .int .i64 0, .int .i64 0, .int .i64 0, .int .i64 0, .slice none 0 0, .int .i64 0, .bool false, .bool false]
 rw [World.size_alloc] at R0
 have zX := X0.lt
 have zR := R0.lt
 have r0 := h0.below hA
 have r1 := h1.below hA
 have hzW : ((w.alloc (.cells #[.int .i64 x.id, .int .i64 x.n, .int .i64 x.s, .slice am ms.length cm, .int .i64 x.lost, .int .i64 x.built, .int .i64 x.seq, .int .i64 x.tail, .int .i64 x.gen, .slice ad ds.length cd, .int .i64 x.fuse, .bool x.down, .bool x.broken] 33)).alloc (.cells #[.int .i64 0, .int .i64 0, .int .i64 0, .slice none 0 0, .int .i64 0, .int .i64 0, .int .i64 0, .int .i64 0, .int .i64 0, .slice none 0 0, .int .i64 0, .bool false, .bool false] 33)).heap.size = w.heap.size + 1 + 1 := by simp
 obtain ⟨k0, k1, k2, k3, k4, k5, k6, k7, k8, k9, k10, k11, k12⟩ := X0.cells13
 go_enter Tryz.func17, Tryz.ntmps17
 go_wp2_with fail
 generalize (w.alloc (.cells #[.int .i64 x.id, .int .i64 x.n, .int .i64 x.s, .slice am ms.length cm, .int .i64 x.lost, .int .i64 x.built, .int .i64 x.seq, .int .i64 x.tail, .int .i64 x.gen, .slice ad ds.length cd, .int .i64 x.fuse, .bool x.down, .bool x.broken] 33)).alloc (.cells #[.int .i64 0, .int .i64 0, .int .i64 0, .slice none 0 0, .int .i64 0, .int .i64 0, .int .i64 0, .int .i64 0, .int .i64 0, .slice none 0 0, .int .i64 0, .bool false, .bool false] 33) = W at hA X0 R0 zX zR r0 r1 hzW k0 k1 k2 k3 k4 k5 k6 k7 k8 k9 k10 k11 k12 ⊢
 obtain ⟨BR, hBR⟩ : ∃ BR, w.heap.size + 1 = BR := ⟨_, rfl⟩
 rw [hBR] at R0 zR hzW ⊢
 have q1 : w.heap.size + 1 <= BR /\ BR <= w.heap.size + 1 := by omega
 clear hBR
 refine (l6Copy_any _ E F G x _ _ _ _ _ _ ms ds r0 r1 hw).mono ?_
 rintro e w1 ⟨bm, cm1, bd, cd1, m, rfl, om, od, zm, zm2, b1⟩
 have bn := new_below w1 (.cells #[.int .i64 x.id, .int .i64 x.n, .int .i64 x.s, .slice bm ms.length cm1, .int .i64 x.lost, .int .i64 x.built, .int .i64 x.seq, .int .i64 x.tail, .int .i64 x.gen, .slice bd ds.length cd1, .int .i64 x.fuse, .bool x.down, .bool x.broken] 33)
 have b12 : Below W.heap.size W (w1.alloc (.cells #[.int .i64 x.id, .int .i64 x.n, .int .i64 x.s, .slice bm ms.length cm1, .int .i64 x.lost, .int .i64 x.built, .int .i64 x.seq, .int .i64 x.tail, .int .i64 x.gen, .slice bd ds.length cd1, .int .i64 x.fuse, .bool x.down, .bool x.broken] 33)) := Below.andThen b1 bn
 have Y := Box.new w1 33 #[.int .i64 x.id, .int .i64 x.n, .int .i64 x.s, .slice bm ms.length cm1, .int .i64 x.lost, .int .i64 x.built, .int .i64 x.seq, .int .i64 x.tail, .int .i64 x.gen, .slice bd ds.length cd1, .int .i64 x.fuse, .bool x.down, .bool x.broken]
 have zY := Y.lt
 have z1 := b1.size
 obtain ⟨fm, mm, rm⟩ := (om.below bn).mine
 obtain ⟨fd, md, rd⟩ := (od.below bn).mine
 have A2 : ArrAt (w1.alloc (.cells #[.int .i64 x.id, .int .i64 x.n, .int .i64 x.s, .slice bm ms.length cm1, .int .i64 x.lost, .int .i64 x.built, .int .i64 x.seq, .int .i64 x.tail, .int .i64 x.gen, .slice bd ds.length cd1, .int .i64 x.fuse, .bool x.down, .bool x.broken] 33)) w1.heap.size x ms ds fm fd := ⟨bm, bd, cm1, cd1, Y, mm, md, fun b hb hb' => by have h1 := rm b hb; have h2 := rd b hb'; omega, fun hm => by have := rm _ hm; omega, fun hm => by have := rd _ hm; omega⟩
 have X2 := X0.below b12 zX
 have R2 := R0.below b12 zR
 have p0 := r0.below b12
 have p1 := r1.below b12
 have B2 := Below.andThen hA b12
 have rm2 : ∀ b ∈ fm, W.heap.size <= b := fun b hb => by have := rm b hb; omega
 have rd2 : ∀ b ∈ fd, W.heap.size <= b := fun b hb => by have := rd b hb; omega
 clear k0 k1 k2 k3 k4 k5 k6 k7 k8 k9 k10 k11 k12 X0 R0 r0 r1 om od b1 bn b12 Y mm rm md rd hA
 obtain ⟨k0, k1, k2, k3, k4, k5, k6, k7, k8, k9, k10, k11, k12⟩ := X2.cells13
 go_wp2_with fail
 generalize w1.alloc (.cells #[.int .i64 x.id, .int .i64 x.n, .int .i64 x.s, .slice bm ms.length cm1, .int .i64 x.lost, .int .i64 x.built, .int .i64 x.seq, .int .i64 x.tail, .int .i64 x.gen, .slice bd ds.length cd1, .int .i64 x.fuse, .bool x.down, .bool x.broken] 33) = w2 at A2 X2 R2 p0 p1 B2 zY k0 k1 k2 k3 k4 k5 k6 k7 k8 k9 k10 k11 k12 ⊢
 obtain ⟨B, hB⟩ : ∃ B, w1.heap.size = B := ⟨_, rfl⟩
 rw [hB] at A2 zY z1 ⊢
 clear hB
 refine (l8May_any _ E F G x _ _ _ _ _ _ ms ds p0 p1 hw).mono ?_
 rintro e w3 ⟨rfl, b3⟩
 have A3 := A2.below b3
 have X3 := X2.below b3 X2.lt
 have R3 := R2.below b3 R2.lt
 have B3 := Below.andThen B2 b3
 have q3 := p0.below b3
 have z3 := b3.size
 clear k0 k1 k2 k3 k4 k5 k6 k7 k8 k9 k10 k11 k12 A2 X2 R2 p0 p1 B2 b3
 have HK : Hid (nextK x ms ds = if ask8 x ms ds = 0 then (if (lostT x ms && decide (x.built ≠ x.s)) = true then (if wordsOk6 x ms ds x.built = true then 0 else 5) else 2) else ask8 x ms ds) := rfl
 by_cases hc : ask8 x ms ds = 0
 case neg =>
  have HV := hidden (step_no (x := x) (ms := ms) (ds := ds) (c := ask8 x ms ds) (by rw [HK.out, if_neg hc]) hc)
  have e0 : (ask8 x ms ds != 0) = true := by simpa using hc
  clear hc HK
  generalize ask8 x ms ds = q at e0 HV ⊢
  obtain ⟨vm, vd, cvm, cvd, Yf, mf, df, hrf, r1f, r2f⟩ := A3
  have Y0 := Yf
  unfold arrC at Y0
  obtain ⟨t0, t1, t2, t3, t4, t5, t6, t7, t8, t9, t10, t11, t12⟩ := Y0.cells13
  obtain ⟨s0, s1, s2, s3, s4, s5, s6, s7, s8, s9, s10, s11, s12⟩ := R3.cells13
  have fz := R3.frozen
  have HO := hidden (arr_outC (y := x) (code := q) (e := .returned (.tuple #[.agg (arrC x _ _), .int .i64 q])) (lo := BR + 1) B3 R3 rfl mf df hrf (fun b hb => by have := rm2 b hb; omega) (fun b hb => by have := rd2 b hb; omega) (by omega) (by omega))
  unfold arrC at HO
  simp only [puts] at HO
  clear Yf Y0 mf df R3 B3
  go_wp2
  refine bodyPost_ret (v := .tuple #[.agg #[.int .i64 x.id, .int .i64 x.n, .int .i64 x.s, .slice vm ms.length cvm, .int .i64 x.lost, .int .i64 x.built, .int .i64 x.seq, .int .i64 x.tail, .int .i64 x.gen, .slice vd ds.length cvd, .int .i64 x.fuse, .bool x.down, .bool x.broken], .int .i64 q]) (by simp [results, Tryz.results17, go_sem, s0, s1, s2, s3, s4, s5, s6, s7, s8, s9, s10, s11, s12]) rfl ?_
  rw [HV.out.1, HV.out.2]; exact HO.out
 have ha := (ask_good hc).1
 have HASK := hidden hc
 have hln9 := arr_len ha
 have hbu9 : 0 <= x.built /\ x.built <= x.s := by have p5 := (arr_split.1 ha).2.2.2.2.1; unfold lostB6 at p5; simp only [Bool.and_eq_true, inB_iff] at p5; exact p5.2.1
 have hg9 := geoB_iff.1 (arr_split.1 ha).1
 rw [if_pos hc] at HK
 rw [hc]
 clear hc
 obtain ⟨fc, mk, gc0, gc1⟩ := arr_facts ha
 have hgeo := (arr_split.1 ha).1
 have hlo := arr_lost ha
 obtain ⟨k0, k1, k2, k3, k4, k5, k6, k7, k8, k9, k10, k11, k12⟩ := X3.cells13
 by_cases l1 : x.lost = -1
 case pos =>
  have e1 : (x.lost == -1) = true := by simp [l1]
  have HLF := hidden (lost_none (ms := ms) l1)
  clear l1
  have HV := hidden (step_no (x := x) (ms := ms) (ds := ds) (c := 2) (by rw [HK.out]; rw [HLF.out.2]; simp) (by decide))
  clear HK
  obtain ⟨vm, vd, cvm, cvd, Yf, mf, df, hrf, r1f, r2f⟩ := A3
  have Y0 := Yf
  unfold arrC at Y0
  obtain ⟨t0, t1, t2, t3, t4, t5, t6, t7, t8, t9, t10, t11, t12⟩ := Y0.cells13
  obtain ⟨s0, s1, s2, s3, s4, s5, s6, s7, s8, s9, s10, s11, s12⟩ := R3.cells13
  have fz := R3.frozen
  have HO := hidden (arr_outC (y := x) (code := 2) (e := .returned (.tuple #[.agg (arrC x _ _), .int .i64 2])) (lo := BR + 1) B3 R3 rfl mf df hrf (fun b hb => by have := rm2 b hb; omega) (fun b hb => by have := rd2 b hb; omega) (by omega) (by omega))
  unfold arrC at HO
  simp only [puts] at HO
  clear Yf Y0 mf df R3 B3
  go_wp2
  refine bodyPost_ret (v := .tuple #[.agg #[.int .i64 x.id, .int .i64 x.n, .int .i64 x.s, .slice vm ms.length cvm, .int .i64 x.lost, .int .i64 x.built, .int .i64 x.seq, .int .i64 x.tail, .int .i64 x.gen, .slice vd ds.length cvd, .int .i64 x.fuse, .bool x.down, .bool x.broken], .int .i64 2]) (by simp [results, Tryz.results17, go_sem, s0, s1, s2, s3, s4, s5, s6, s7, s8, s9, s10, s11, s12]) rfl ?_
  rw [HV.out.1, HV.out.2]; exact HO.out
 have e1 : (x.lost == -1) = false := by simp [l1]
 have i1 : 0 <= x.lost := by omega
 have i3 := hlo.2
 have hj : x.lost.toNat < ms.length := by omega
 obtain ⟨d, hdj⟩ : ∃ d, ms[x.lost.toNat]? = some d := ⟨_, List.getElem?_eq_getElem hj⟩
 have HLF := hidden (lost_at l1 hdj)
 rcases quads_at rfl q3 with h0' | ⟨b, off, rfl, hbl, hcs⟩
 . omega
 obtain ⟨v0, v1, v2, v3, q0, q1', q2, q3', hrv⟩ := hcs _ d hdj
 obtain ⟨a0, c0, a1, c1, a3, c3, ss, cs, f, bs, hde, rfl, rfl, rfl, rfl, p0, p1, p3⟩ := mem_at hrv
 have hf2 : d.2.2.1 = f := by rw [hde]
 rw [hf2] at HLF
 clear p0 p1 p3 hcs hrv q0 q1' q3' hde hf2 hdj l1 hlo k0 k1 k2 k3 k4 k5 k6 k7 k8 k9 k10 k11 k12
 obtain ⟨k0, k1, k2, k3, k4, k5, k6, k7, k8, k9, k10, k11, k12⟩ := X3.cells13
 cases f
 case true =>
  have HV := hidden (step_no (x := x) (ms := ms) (ds := ds) (c := 2) (by rw [HK.out]; rw [HLF.out.2]; simp) (by decide))
  clear HK
  obtain ⟨vm, vd, cvm, cvd, Yf, mf, df, hrf, r1f, r2f⟩ := A3
  have Y0 := Yf
  unfold arrC at Y0
  obtain ⟨t0, t1, t2, t3, t4, t5, t6, t7, t8, t9, t10, t11, t12⟩ := Y0.cells13
  obtain ⟨s0, s1, s2, s3, s4, s5, s6, s7, s8, s9, s10, s11, s12⟩ := R3.cells13
  have fz := R3.frozen
  have HO := hidden (arr_outC (y := x) (code := 2) (e := .returned (.tuple #[.agg (arrC x _ _), .int .i64 2])) (lo := BR + 1) B3 R3 rfl mf df hrf (fun b hb => by have := rm2 b hb; omega) (fun b hb => by have := rd2 b hb; omega) (by omega) (by omega))
  unfold arrC at HO
  simp only [puts] at HO
  clear Yf Y0 mf df R3 B3
  go_wp2
  refine bodyPost_ret (v := .tuple #[.agg #[.int .i64 x.id, .int .i64 x.n, .int .i64 x.s, .slice vm ms.length cvm, .int .i64 x.lost, .int .i64 x.built, .int .i64 x.seq, .int .i64 x.tail, .int .i64 x.gen, .slice vd ds.length cvd, .int .i64 x.fuse, .bool x.down, .bool x.broken], .int .i64 2]) (by simp [results, Tryz.results17, go_sem, s0, s1, s2, s3, s4, s5, s6, s7, s8, s9, s10, s11, s12]) rfl ?_
  rw [HV.out.1, HV.out.2]; exact HO.out
 by_cases hlw : x.s <= x.built
 case pos =>
  have HV := hidden (step_no (x := x) (ms := ms) (ds := ds) (c := 2) (by rw [HK.out]; rw [HLF.out.2, decide_eq_false (by omega)]; rfl) (by decide))
  clear HK
  obtain ⟨vm, vd, cvm, cvd, Yf, mf, df, hrf, r1f, r2f⟩ := A3
  have Y0 := Yf
  unfold arrC at Y0
  obtain ⟨t0, t1, t2, t3, t4, t5, t6, t7, t8, t9, t10, t11, t12⟩ := Y0.cells13
  obtain ⟨s0, s1, s2, s3, s4, s5, s6, s7, s8, s9, s10, s11, s12⟩ := R3.cells13
  have fz := R3.frozen
  have HO := hidden (arr_outC (y := x) (code := 2) (e := .returned (.tuple #[.agg (arrC x _ _), .int .i64 2])) (lo := BR + 1) B3 R3 rfl mf df hrf (fun b hb => by have := rm2 b hb; omega) (fun b hb => by have := rd2 b hb; omega) (by omega) (by omega))
  unfold arrC at HO
  simp only [puts] at HO
  clear Yf Y0 mf df R3 B3
  go_wp2
  refine bodyPost_ret (v := .tuple #[.agg #[.int .i64 x.id, .int .i64 x.n, .int .i64 x.s, .slice vm ms.length cvm, .int .i64 x.lost, .int .i64 x.built, .int .i64 x.seq, .int .i64 x.tail, .int .i64 x.gen, .slice vd ds.length cvd, .int .i64 x.fuse, .bool x.down, .bool x.broken], .int .i64 2]) (by simp [results, Tryz.results17, go_sem, s0, s1, s2, s3, s4, s5, s6, s7, s8, s9, s10, s11, s12]) rfl ?_
  rw [HV.out.1, HV.out.2]; exact HO.out
 cases hbr : x.broken
 case true =>
  rw [hbr] at k12
  have HBR := hidden hbr
  clear hbr
  have HV := hidden (step_no (x := x) (ms := ms) (ds := ds) (c := 5) (by rw [HK.out]; rw [HLF.out.2, decide_eq_true (by omega)]; unfold wordsOk6 okB6; rw [HBR.out]; simp) (by decide))
  clear HK
  obtain ⟨vm, vd, cvm, cvd, Yf, mf, df, hrf, r1f, r2f⟩ := A3
  have Y0 := Yf
  unfold arrC at Y0
  obtain ⟨t0, t1, t2, t3, t4, t5, t6, t7, t8, t9, t10, t11, t12⟩ := Y0.cells13
  obtain ⟨s0, s1, s2, s3, s4, s5, s6, s7, s8, s9, s10, s11, s12⟩ := R3.cells13
  have fz := R3.frozen
  have HO := hidden (arr_outC (y := x) (code := 5) (e := .returned (.tuple #[.agg (arrC x _ _), .int .i64 5])) (lo := BR + 1) B3 R3 rfl mf df hrf (fun b hb => by have := rm2 b hb; omega) (fun b hb => by have := rd2 b hb; omega) (by omega) (by omega))
  unfold arrC at HO
  simp only [puts] at HO
  clear Yf Y0 mf df R3 B3
  go_wp2
  refine bodyPost_ret (v := .tuple #[.agg #[.int .i64 x.id, .int .i64 x.n, .int .i64 x.s, .slice vm ms.length cvm, .int .i64 x.lost, .int .i64 x.built, .int .i64 x.seq, .int .i64 x.tail, .int .i64 x.gen, .slice vd ds.length cvd, .int .i64 x.fuse, .bool x.down, .bool x.broken], .int .i64 5]) (by simp [results, Tryz.results17, go_sem, s0, s1, s2, s3, s4, s5, s6, s7, s8, s9, s10, s11, s12]) rfl ?_
  rw [HV.out.1, HV.out.2]; exact HO.out
 rw [hbr] at k12
 have HBR := hidden hbr
 clear hbr
 have hlT : lostT x ms = true := HLF.out.2
 have HV := hidden (step_yes (x := x) (ms := ms) (ds := ds) HASK.out hlT (by omega) HBR.out)
 obtain ⟨m, hlm⟩ : ∃ m : Nat, x.lost = (m : Int) := ⟨x.lost.toNat, by omega⟩
 have hmm : m < ms.length := by omega
 have HIN := hidden (l12Step_any w3 B x ms ds fm fd A3 fc mk hgeo (by unfold wtArr at hw; omega) m hlm hmm (by omega) ⟨by omega, by omega⟩)
 clear A3 HK hlm
 go_wp2_with fail
 refine HIN.out.mono ?_
 rintro e w4 ⟨rfl, fm4, A4, M4⟩
 have rm4 : ∀ b ∈ fm4, W.heap.size <= b := fun b hb => by rcases M4.2 b hb with h | h; exact rm2 b h; omega
 have R4 := M4.box R3 (by omega) (fun hm => by have := rm2 _ hm; omega)
 have B4 := B3.trans (M4.belowN (N := w.heap.size) (by omega) (fun b hb => by have := rm2 b hb; omega) (by omega))
 have z4 := M4.size
 clear k0 k1 k2 k3 k4 k5 k6 k7 k8 k9 k10 k11 k12 X3 R3 B3 M4 HIN q2
 generalize stepC (x, ms) = cc at HV ⊢
 generalize stepA (x, ms) = st at A4 HV
 obtain ⟨y, ns⟩ := st
 dsimp only at A4
 obtain ⟨vm, vd, cvm, cvd, Yf, mf, df, hrf, r1f, r2f⟩ := A4
 have Y0 := Yf
 unfold arrC at Y0
 obtain ⟨t0, t1, t2, t3, t4, t5, t6, t7, t8, t9, t10, t11, t12⟩ := Y0.cells13
 obtain ⟨s0, s1, s2, s3, s4, s5, s6, s7, s8, s9, s10, s11, s12⟩ := R4.cells13
 have fz := R4.frozen
 have HO := hidden (arr_outC (y := y) (code := cc) (e := .returned (.tuple #[.agg (arrC y _ _), .int .i64 cc])) (lo := BR + 1) B4 R4 rfl mf df hrf (fun b hb => by have := rm4 b hb; omega) (fun b hb => by have := rd2 b hb; omega) (by omega) (by omega))
 unfold arrC at HO
 simp only [puts] at HO
 clear Yf Y0 mf df R4 B4
 go_wp2
 refine bodyPost_ret (v := .tuple #[.agg #[.int .i64 y.id, .int .i64 y.n, .int .i64 y.s, .slice vm ns.length cvm, .int .i64 y.lost, .int .i64 y.built, .int .i64 y.seq, .int .i64 y.tail, .int .i64 y.gen, .slice vd ds.length cvd, .int .i64 y.fuse, .bool y.down, .bool y.broken], .int .i64 cc]) (by simp [results, Tryz.results17, go_sem, s0, s1, s2, s3, s4, s5, s6, s7, s8, s9, s10, s11, s12]) rfl ?_
 rw [HV.out.1, HV.out.2]; exact HO.out

theorem heldMemS_any (w : World) (E F : TypeId) (a : Option Addr) (n cap : Nat) (d : List MemD) (k0 : Int) (h : (tMemS E F).Rd w [.slice a n cap] (markMS k0 d)) (hw : wtMemS d <= 2097152) (hk : 0 <= k0) (hk' : k0 + (wtMemS d : Int) <= 2097153) :
 Calls Tryz.prog 43 #[.slice a n cap, .int .i64 k0] w fun e w' => e = .returned (.int .i64 (k0 + (cntMS d : Int))) /\ Same w w' := by
 obtain ⟨hl, hc, hm⟩ := row_length h
 have hmL : (markMS k0 d).length = d.length := markL_length _ _ _ _
 rw [hmL] at hl
 have hnn : n <= 2097152 := by unfold wtMemS at hw; omega
 have hwt := cntMS_le d
 go_enter Tryz.func43, Tryz.ntmps43
 go_wp2
 go_loopw [1, 5] (fun kk i wr => ∃ j : Nat, j <= n /\ i = .int .i64 j /\ kk = .int .i64 (k0 + (sumL ((d.map cntMD).take j) : Int)) /\ Same w wr) (fun _ i _ => n - (intOf i).toNat)
 case atStart => exact ⟨0, Nat.zero_le _, rfl, by simp [sumL], Same.refl _⟩
 obtain ⟨j, hj, rfl, rfl, hs⟩ := hrel
 by_cases hjn : j < n
 . have hdj : d[j]? = some (d[j]'(by omega)) := List.getElem?_eq_getElem (by omega)
   generalize d[j]'(by omega) = x at hdj
   have hst := sumL_take (l := d.map cntMD) (j := j) (x := cntMD x) (by rw [List.getElem?_map, hdj]; rfl)
   have hle := sumL_le (l := d.map cntMD) (j + 1)
   have hin := Nat.le_trans (inner_leM hdj) hw
   unfold cntMS at hwt
   have hmj := markL_at (c := cntMD) (mk := markMD) (k := k0) hdj
   have HW := hidden hst
   generalize sumL ((d.map cntMD).take j) = S at hst hmj HW
   rcases quads_at rfl h with h0' | ⟨b, off, rfl, hbl, hcs⟩
   . omega
   obtain ⟨v0, v1, v2, v3, hv0, hv1, hv2, hv3, hrv⟩ := hcs j _ hmj
   obtain ⟨ss, cs, f, bs⟩ := x
   obtain ⟨a0, c0, a1, c1, a3, c3, ss', cs', f', bs', hx, rfl, rfl, rfl, rfl, r0, r1, r3⟩ := mem_at hrv
   have hcx : cntMD (ss, cs, f, bs) = cntSS ss + cntWS cs + 1 + bs.length := rfl
   have hin0 : wtIntSS ss <= 2097152 := by unfold wtMem at hin; simp only at hin; omega
   have hin1 : wtWrS cs <= 2097152 := by unfold wtMem at hin; simp only at hin; omega
   have hin3 : bs.length <= 2097152 := by unfold wtMem at hin; simp only at hin; omega
   have hcw := Nat.le_of_eq (cntWS_wt cs)
   have hcw' := Nat.le_of_eq (cntWS_wt cs).symm
   have hS : k0 + (S : Int) + (cntSS ss : Int) + (cntWS cs : Int) + 1 + (bs.length : Int) <= 2097153 := by omega
   unfold markMD at hx
   simp only [Prod.mk.injEq] at hx
   obtain ⟨e0, e1, e2, e3⟩ := hx
   subst e0
   subst e1
   subst e3
   rw [marks_length] at hv3 r3
   have w0 := (hs.cell _).trans hv0
   have w1 := (hs.cell _).trans hv1
   have w2 := (hs.cell _).trans hv2
   have w3 := (hs.cell _).trans hv3
   have HE2 := hidden e2
   have i1 : (0 : Int) <= (j : Int) := by omega
   have i2 : (j : Int) < (n : Int) := by omega
   have R0 := r0.same hs
   have R1 := r1.same hs
   have R3 := r3.same hs
   clear hcs hst hdj hv0 hv1 hv2 hv3 hrv hmj e2 r0 r1 r3
   go_wp2_with fail
   refine (heldIntSS_any _ _ _ _ ss _ R0 hin0 (by omega) (by omega)).mono ?_
   rintro e u1 ⟨rfl, s1⟩
   have w1' := (s1.cell _).trans w1
   have w2' := (s1.cell _).trans w2
   have w3' := (s1.cell _).trans w3
   have R1' := R1.same s1
   have R3' := R3.same s1
   clear w0 w1 w2 w3 R0 R1 R3
   have p1 : ¬ k0 + (S : Int) + (cntSS ss : Int) < 0 := by omega
   go_wp2_with fail
   refine (heldWrS_any _ E _ _ _ cs _ R1' hin1 (by omega) (by omega)).mono ?_
   rintro e u2 ⟨rfl, s2⟩
   have w2 := (s2.cell _).trans w2'
   have w3 := (s2.cell _).trans w3'
   have R3 := ints_rd (R3'.same s2)
   clear w1' w2' w3' R1' R3'
   have hK : 0 <= k0 + (S : Int) + (cntSS ss : Int) + (cntWS cs : Int) /\ k0 + (S : Int) + (cntSS ss : Int) + (cntWS cs : Int) <= 2097153 := by omega
   have HKK : Hid (k0 + (S : Int) + (cntSS ss : Int) + (cntWS cs : Int) + 1 + (bs.length : Int) = k0 + ((S + cntMD (ss, cs, f, bs) : Nat) : Int)) := by unfold Hid; rw [hcx]; omega
   generalize hKd : k0 + (S : Int) + (cntSS ss : Int) + (cntWS cs : Int) = K at hK HKK HE2 R3 hS ⊢
   clear hKd
   have p2 : ¬ K < 0 := by omega
   have t1 : K.tmod 3 = K % 3 := Int.tmod_eq_emod_of_nonneg hK.1
   have t2 : IntKind.i64.wrap (K % 3) = K % 3 := IntWalk.i64_in _ (by omega)
   have t3 : IntKind.i64.wrap (K + 1) = K + 1 := IntWalk.i64_in _ (by omega)
   have p3 : ¬ K + 1 + (bs.length : Int) < 0 := by omega
   have t4 : f' = (K % 3 == 0) := by rw [← HE2.out]; rfl
   have t5 : ((K % 3 == 0) != (K % 3 == 0)) = false := by simp
   have t6 : ((K % 3 == 0) == (K % 3 == 0)) = true := by simp
   subst t4
   clear HE2
   go_wp2_with fail
   refine (heldIntS_any _ _ _ _ _ R3.1 (by omega) (by omega) (by omega)).mono ?_
   rintro e u3 ⟨rfl, s3⟩
   have HS := hidden (((hs.trans s1).trans s2).trans s3)
   clear s1 s2 s3 hs R3 w2 w3
   go_wp2
   go_roundw
   case rel => exact ⟨j + 1, by omega, by go_num, by rw [HW.out, HKK.out], HS.out⟩
   case measure => simp [intOf]; omega
 have ej : j = n := by omega
 subst ej
 have ht : (d.map cntMD).take j = d.map cntMD := List.take_of_length_le (by simp; omega)
 have HT : Hid (k0 + (sumL ((d.map cntMD).take j) : Int) = k0 + (cntMS d : Int)) := by unfold Hid cntMS; rw [ht]
 clear ht
 go_wp2
 go_ret
 exact ⟨ret_int HT.out, hs⟩

theorem heldArr_any (w : World) (E F G : TypeId) (x : ArrN) (bm bd : Option Addr) (nm cm nd cd : Nat) (ms : List MemD) (ds : List (Int × List Int)) (h0 : (tMemS E F).Rd w [.slice bm nm cm] (markMS 1 ms)) (h1 : (tWrS G).Rd w [.slice bd nd cd] (markW (1 + (cntMS ms : Int)) ds)) (hw : wtArr ms ds <= 2097152) :
 Calls Tryz.prog 14 #[.agg #[.int .i64 x.id, .int .i64 x.n, .int .i64 x.s, .slice bm nm cm, .int .i64 x.lost, .int .i64 x.built, .int .i64 x.seq, .int .i64 x.tail, .int .i64 x.gen, .slice bd nd cd, .int .i64 x.fuse, .bool x.down, .bool x.broken], .int .i64 1] w fun e w' => e = .returned (.int .i64 (1 + (cntMS ms : Int) + (cntWS ds : Int))) /\ Below w.heap.size w w' := by
 have hw0 : wtMemS ms <= 2097152 := by unfold wtArr at hw; omega
 have hw1 : wtWrS ds <= 2097152 := by unfold wtArr at hw; omega
 have hws : wtMemS ms + wtWrS ds <= 2097152 := by unfold wtArr at hw; omega
 have hcm := cntMS_le ms
 have hA := new_below w (.cells #[.int .i64 x.id, .int .i64 x.n, .int .i64 x.s, .slice bm nm cm, .int .i64 x.lost, .int .i64 x.built, .int .i64 x.seq, .int .i64 x.tail, .int .i64 x.gen, .slice bd nd cd, .int .i64 x.fuse, .bool x.down, .bool x.broken] 33)
 have X := Box.new w 33 #[.int .i64 x.id, .int .i64 x.n, .int .i64 x.s, .slice bm nm cm, .int .i64 x.lost, .int .i64 x.built, .int .i64 x.seq, .int .i64 x.tail, .int .i64 x.gen, .slice bd nd cd, .int .i64 x.fuse, .bool x.down, .bool x.broken]
 obtain ⟨k0, k1, k2, k3, k4, k5, k6, k7, k8, k9, k10, k11, k12⟩ := X.cells13
 have r0 := h0.below hA
 have r1 := h1.below hA
 go_enter Tryz.func14, Tryz.ntmps14
 go_wp2_with fail
 generalize w.alloc (.cells #[.int .i64 x.id, .int .i64 x.n, .int .i64 x.s, .slice bm nm cm, .int .i64 x.lost, .int .i64 x.built, .int .i64 x.seq, .int .i64 x.tail, .int .i64 x.gen, .slice bd nd cd, .int .i64 x.fuse, .bool x.down, .bool x.broken] 33) = W at hA X r0 r1 k0 k1 k2 k3 k4 k5 k6 k7 k8 k9 k10 k11 k12 ⊢
 refine (heldMemS_any _ E F _ _ _ ms _ r0 hw0 (by omega) (by omega)).mono ?_
 rintro e w1 ⟨rfl, s1⟩
 have X1 := X.same s1
 have r2 := r1.same s1
 have B1 := Below.andSame hA s1
 clear k0 k1 k2 k3 k4 k5 k6 k7 k8 k9 k10 k11 k12 X r0 r1 s1 hA
 obtain ⟨k0, k1, k2, k3, k4, k5, k6, k7, k8, k9, k10, k11, k12⟩ := X1.cells13
 have p1 : ¬ 1 + (cntMS ms : Int) < 0 := by omega
 go_wp2_with fail
 refine (heldEntS_any _ G _ _ _ ds _ r2 hw1 (by omega) (by omega)).mono ?_
 rintro e w2 ⟨rfl, s2⟩
 have B2 := Below.andSame B1 s2
 have p2 : ¬ 1 + (cntMS ms : Int) + (cntWS ds : Int) < 0 := by omega
 clear k0 k1 k2 k3 k4 k5 k6 k7 k8 k9 k10 k11 k12 X1 r2 s2 B1
 go_wp2
 go_ret
 exact ⟨rfl, B2⟩

theorem cntA_le {ms : List MemD} {ds : List (Int × List Int)} (h : wtArr ms ds <= 1048576) : cntMS ms + cntWS ds <= 1048576 := by
 have h1 := cntMS_le ms
 have h2 := Nat.le_of_eq (cntWS_wt ds)
 unfold wtArr at h
 omega

theorem fnExactBuildStep_walk (x : ArrN) (am ad : Option Addr) (nm cm nd cd : Nat) (ms : List MemD) (ds : List (Int × List Int)) (w : World) (h0 : (tMemS 140 78).Rd w [.slice am nm cm] ms) (h1 : (tWrS 81).Rd w [.slice ad nd cd] ds) :
 Calls Tryz.prog 5 #[.agg #[.int .i64 x.id, .int .i64 x.n, .int .i64 x.s, .slice am nm cm, .int .i64 x.lost, .int .i64 x.built, .int .i64 x.seq, .int .i64 x.tail, .int .i64 x.gen, .slice ad nd cd, .int .i64 x.fuse, .bool x.down, .bool x.broken]] w fun e w' => e = .returned (.bool true) /\ Below w.heap.size w w' := by
 have hA := new_below w (.cells #[.int .i64 x.id, .int .i64 x.n, .int .i64 x.s, .slice am nm cm, .int .i64 x.lost, .int .i64 x.built, .int .i64 x.seq, .int .i64 x.tail, .int .i64 x.gen, .slice ad nd cd, .int .i64 x.fuse, .bool x.down, .bool x.broken] 27)
 have xm := Box.new w 27 #[.int .i64 x.id, .int .i64 x.n, .int .i64 x.s, .slice am nm cm, .int .i64 x.lost, .int .i64 x.built, .int .i64 x.seq, .int .i64 x.tail, .int .i64 x.gen, .slice ad nd cd, .int .i64 x.fuse, .bool x.down, .bool x.broken]
 have z0 := xm.lt
 have B0 := hidden hA
 have BR0 := hidden xm
 obtain ⟨l0, l1, l2, l3, l4, l5, l6, l7, l8, l9, l10, l11, l12⟩ := xm.cells13
 go_enter Tryz.func5, Tryz.ntmps5
 go_wp2_with fail
 generalize w.alloc (.cells #[.int .i64 x.id, .int .i64 x.n, .int .i64 x.s, .slice am nm cm, .int .i64 x.lost, .int .i64 x.built, .int .i64 x.seq, .int .i64 x.tail, .int .i64 x.gen, .slice ad nd cd, .int .i64 x.fuse, .bool x.down, .bool x.broken] 27) = w0 at hA xm z0 B0 BR0 l0 l1 l2 l3 l4 l5 l6 l7 l8 l9 l10 l11 l12 ⊢
 clear hA xm
 refine (szArr_any _ 140 78 81 x _ _ _ _ _ _ ms ds _ (h0.below B0.out) (h1.below B0.out) (by omega) (by omega)).mono ?_
 rintro e w1 ⟨rfl, hb1⟩
 clear l0 l1 l2 l3 l4 l5 l6 l7 l8 l9 l10 l11 l12
 have B1 := hidden (Below.andThen B0.out hb1)
 have BR1 := hidden (BR0.out.below hb1 (by omega))
 have z1 := hb1.size
 clear B0 BR0 hb1
 by_cases hwt : (wtArr ms ds : Int) <= 1048576
 . have hq := leftOf_pos hwt
   have hwt' : wtArr ms ds <= 1048576 := by omega
   have hwt2 : wtArr ms ds <= 2097152 := by omega
   have hwq0 := bstepO_wt (x := x) hwt'
   obtain ⟨y, ns, hq0⟩ : ∃ (y : ArrN) (ns : List MemD), bstepO x ms ds = (y, ns) := ⟨_, _, rfl⟩
   have HQ := hidden hq0
   have hwq : wtArr ns ds <= 2097152 := by rw [show ns = (y, ns).2 from rfl, ← hq0]; exact hwq0
   obtain ⟨sc, hsc⟩ : ∃ sc, bstepC x ms ds = sc := ⟨_, rfl⟩
   have HQC := hidden hsc
   clear hq0 hwq0 hsc
   have hne : (sc != sc) = false := by simp
   have hwt3 : wtArr ms ds <= 2000000 := by omega
   have hcle := cntA_le hwt'
   obtain ⟨l0, l1, l2, l3, l4, l5, l6, l7, l8, l9, l10, l11, l12⟩ := BR1.out.cells13
   go_wp2_with fail
   refine (toArr_any _ 140 78 81 x _ _ _ _ _ _ ms ds (h0.below B1.out) (h1.below B1.out) hwt').mono ?_
   rintro e w2 ⟨bm2, bd2, rfl, om2, od2, ya2, yb2, hb2⟩
   clear l0 l1 l2 l3 l4 l5 l6 l7 l8 l9 l10 l11 l12
   have B2 := hidden (Below.andThen B1.out hb2)
   have BR2 := hidden (BR1.out.below hb2 (by omega))
   have z2 := hb2.size
   clear B1 BR1 hb2
   have Cm2 := hidden om2
   clear om2
   have Cd2 := hidden od2
   clear od2
   go_wp2_with fail
   refine (specBuildStep_any _ 109 51 82 x _ _ _ _ _ _ ms ds Cm2.out.rd Cd2.out.rd hwt2 ).mono ?_
   rintro e w3 ho3
   rw [HQ.out, HQC.out] at ho3
   obtain ⟨a3, d3, c3, b3, rfl, o3, hb3⟩ := ho3
   dsimp only at o3
   unfold arrC
   have B3 := hidden (Below.andThen B2.out hb3)
   have BR3 := hidden (BR2.out.below hb3 (by omega))
   have Cm3 := hidden (Cm2.out.below hb3)
   have Cd3 := hidden (Cd2.out.below hb3)
   have z3 := hb3.size
   clear B2 BR2 Cm2 Cd2 hb3
   have W3 := hidden o3
   clear o3
   clear Cm3
   clear Cd3
   have ba : Below w3.heap.size w3 (w3.alloc (.cells #[.int .i64 y.id, .int .i64 y.n, .int .i64 y.s, .slice a3 ns.length c3, .int .i64 y.lost, .int .i64 y.built, .int .i64 y.seq, .int .i64 y.tail, .int .i64 y.gen, .slice d3 ds.length b3, .int .i64 y.fuse, .bool y.down, .bool y.broken] 33)) := (Below.refl _ _).alloc (Nat.le_refl _) _
   have xb := Box.new w3 33 #[.int .i64 y.id, .int .i64 y.n, .int .i64 y.s, .slice a3 ns.length c3, .int .i64 y.lost, .int .i64 y.built, .int .i64 y.seq, .int .i64 y.tail, .int .i64 y.gen, .slice d3 ds.length b3, .int .i64 y.fuse, .bool y.down, .bool y.broken]
   have zx4 := xb.lt
   have B4 := hidden (Below.andThen B3.out ba)
   have BR4 := hidden (BR3.out.below ba (by omega))
   have W4 := hidden (W3.out.below ba)
   have z4 := ba.size
   clear B3 BR3 W3 ba
   have WB4 := hidden xb
   clear xb
   obtain ⟨l0, l1, l2, l3, l4, l5, l6, l7, l8, l9, l10, l11, l12⟩ := BR4.out.cells13
   go_wp2_with fail
   generalize w3.alloc (.cells #[.int .i64 y.id, .int .i64 y.n, .int .i64 y.s, .slice a3 ns.length c3, .int .i64 y.lost, .int .i64 y.built, .int .i64 y.seq, .int .i64 y.tail, .int .i64 y.gen, .slice d3 ds.length b3, .int .i64 y.fuse, .bool y.down, .bool y.broken] 33) = w4 at B4 BR4 W4 WB4 z4 zx4 l0 l1 l2 l3 l4 l5 l6 l7 l8 l9 l10 l11 l12 ⊢
   refine (toArr_any _ 140 78 81 x _ _ _ _ _ _ ms ds (h0.below B4.out) (h1.below B4.out) hwt').mono ?_
   rintro e w5 ⟨bm5, bd5, rfl, om5, od5, ya5, yb5, hb5⟩
   clear l0 l1 l2 l3 l4 l5 l6 l7 l8 l9 l10 l11 l12
   have B5 := hidden (Below.andThen B4.out hb5)
   have BR5 := hidden (BR4.out.below hb5 (by omega))
   have W5 := hidden (W4.out.below hb5)
   have WB5 := hidden (WB4.out.below hb5 (by omega))
   have z5 := hb5.size
   clear B4 BR4 W4 WB4 hb5
   have Dm5 := hidden om5
   clear om5
   have Dd5 := hidden od5
   clear od5
   have ba : Below w5.heap.size w5 (w5.alloc (.cells #[.int .i64 x.id, .int .i64 x.n, .int .i64 x.s, .slice (some ⟨bm5, 0, none⟩) nm nm, .int .i64 x.lost, .int .i64 x.built, .int .i64 x.seq, .int .i64 x.tail, .int .i64 x.gen, .slice (some ⟨bd5, 0, none⟩) nd nd, .int .i64 x.fuse, .bool x.down, .bool x.broken] 33)) := (Below.refl _ _).alloc (Nat.le_refl _) _
   have xb := Box.new w5 33 #[.int .i64 x.id, .int .i64 x.n, .int .i64 x.s, .slice (some ⟨bm5, 0, none⟩) nm nm, .int .i64 x.lost, .int .i64 x.built, .int .i64 x.seq, .int .i64 x.tail, .int .i64 x.gen, .slice (some ⟨bd5, 0, none⟩) nd nd, .int .i64 x.fuse, .bool x.down, .bool x.broken]
   have zx := xb.lt
   have B6 := hidden (Below.andThen B5.out ba)
   have BR6 := hidden (BR5.out.below ba (by omega))
   have W6 := hidden (W5.out.below ba)
   have WB6 := hidden (WB5.out.below ba (by omega))
   have Dm6 := hidden (Dm5.out.below ba)
   have Dd6 := hidden (Dd5.out.below ba)
   have z6 := ba.size
   clear B5 BR5 W5 WB5 Dm5 Dd5 ba
   have BX6 := hidden xb
   clear xb
   obtain ⟨q0, q1, q2, q3, q4, q5, q6, q7, q8, q9, q10, q11, q12⟩ := BX6.out.cells13
   go_wp2_with fail
   generalize w5.alloc (.cells #[.int .i64 x.id, .int .i64 x.n, .int .i64 x.s, .slice (some ⟨bm5, 0, none⟩) nm nm, .int .i64 x.lost, .int .i64 x.built, .int .i64 x.seq, .int .i64 x.tail, .int .i64 x.gen, .slice (some ⟨bd5, 0, none⟩) nd nd, .int .i64 x.fuse, .bool x.down, .bool x.broken] 33) = w6 at B6 BR6 W6 WB6 Dm6 Dd6 BX6 z6 zx q0 q1 q2 q3 q4 q5 q6 q7 q8 q9 q10 q11 q12 ⊢
   refine (implBuildStep_any _ 109 51 82 x _ _ _ _ _ _ ms ds Dm6.out.rd Dd6.out.rd hwt3 ).mono ?_
   rintro e w7 ho7
   rw [HQ.out, HQC.out] at ho7
   obtain ⟨a7, d7, c7, b7, rfl, o7, hb7⟩ := ho7
   dsimp only at o7
   unfold arrC
   have B7 := hidden (Below.andThen B6.out hb7)
   have BR7 := hidden (BR6.out.below hb7 (by omega))
   have W7 := hidden (W6.out.below hb7)
   have WB7 := hidden (WB6.out.below hb7 (by omega))
   have Dm7 := hidden (Dm6.out.below hb7)
   have Dd7 := hidden (Dd6.out.below hb7)
   have BX7 := hidden (BX6.out.below hb7 (by omega))
   have z7 := hb7.size
   clear B6 BR6 W6 WB6 Dm6 Dd6 BX6 hb7
   have G7 := hidden o7
   clear o7
   clear q0 q1 q2 q3 q4 q5 q6 q7 q8 q9 q10 q11 q12
   have ba : Below w7.heap.size w7 (w7.alloc (.cells #[.int .i64 y.id, .int .i64 y.n, .int .i64 y.s, .slice a7 ns.length c7, .int .i64 y.lost, .int .i64 y.built, .int .i64 y.seq, .int .i64 y.tail, .int .i64 y.gen, .slice d7 ds.length b7, .int .i64 y.fuse, .bool y.down, .bool y.broken] 33)) := (Below.refl _ _).alloc (Nat.le_refl _) _
   have xb := Box.new w7 33 #[.int .i64 y.id, .int .i64 y.n, .int .i64 y.s, .slice a7 ns.length c7, .int .i64 y.lost, .int .i64 y.built, .int .i64 y.seq, .int .i64 y.tail, .int .i64 y.gen, .slice d7 ds.length b7, .int .i64 y.fuse, .bool y.down, .bool y.broken]
   have zx8 := xb.lt
   have B8 := hidden (Below.andThen B7.out ba)
   have BR8 := hidden (BR7.out.below ba (by omega))
   have W8 := hidden (W7.out.below ba)
   have WB8 := hidden (WB7.out.below ba (by omega))
   have Dm8 := hidden (Dm7.out.below ba)
   have Dd8 := hidden (Dd7.out.below ba)
   have BX8 := hidden (BX7.out.below ba (by omega))
   have G8 := hidden (G7.out.below ba)
   have z8 := ba.size
   clear B7 BR7 W7 WB7 Dm7 Dd7 BX7 G7 ba
   have GB8 := hidden xb
   clear xb
   obtain ⟨p0, p1, p2, p3, p4, p5, p6, p7, p8, p9, p10, p11, p12⟩ := GB8.out.cells13
   obtain ⟨q0, q1, q2, q3, q4, q5, q6, q7, q8, q9, q10, q11, q12⟩ := WB8.out.cells13
   go_wp2_with fail
   generalize w7.alloc (.cells #[.int .i64 y.id, .int .i64 y.n, .int .i64 y.s, .slice a7 ns.length c7, .int .i64 y.lost, .int .i64 y.built, .int .i64 y.seq, .int .i64 y.tail, .int .i64 y.gen, .slice d7 ds.length b7, .int .i64 y.fuse, .bool y.down, .bool y.broken] 33) = w8 at B8 BR8 W8 WB8 Dm8 Dd8 BX8 G8 GB8 z8 zx8 p0 p1 p2 p3 p4 p5 p6 p7 p8 p9 p10 p11 p12 q0 q1 q2 q3 q4 q5 q6 q7 q8 q9 q10 q11 q12 ⊢
   refine (eqArr_same _ 109 109 51 51 82 82 y _ _ _ _ _ _ _ _ _ _ _ _ ns ds G8.out.rdm G8.out.rdd W8.out.rdm W8.out.rdd hwq).mono ?_
   rintro e w9 ⟨rfl, hb9⟩
   clear p0 p1 p2 p3 p4 p5 p6 p7 p8 p9 p10 p11 p12 q0 q1 q2 q3 q4 q5 q6 q7 q8 q9 q10 q11 q12
   have B9 := hidden (Below.andThen B8.out hb9)
   have BR9 := hidden (BR8.out.below hb9 (by omega))
   have W9 := hidden (W8.out.below hb9)
   have WB9 := hidden (WB8.out.below hb9 (by omega))
   have Dm9 := hidden (Dm8.out.below hb9)
   have Dd9 := hidden (Dd8.out.below hb9)
   have BX9 := hidden (BX8.out.below hb9 (by omega))
   have G9 := hidden (G8.out.below hb9)
   have GB9 := hidden (GB8.out.below hb9 (by omega))
   have z9 := hb9.size
   clear B8 BR8 W8 WB8 Dm8 Dd8 BX8 G8 GB8 hb9
   obtain ⟨y0, y1, y2, y3, y4, y5, y6, y7, y8, y9, y10, y11, y12⟩ := BX9.out.cells13
   obtain ⟨l0, l1, l2, l3, l4, l5, l6, l7, l8, l9, l10, l11, l12⟩ := BR9.out.cells13
   have zl := BR9.out.lt
   have zy := BX9.out.lt
   go_wp2_with fail
   refine wp_region_held_drew (S := fun w' => (w'.cell? ⟨w5.heap.size, 0, none⟩ = some (.int .i64 x.id) /\ w'.cell? ⟨w5.heap.size, 1, none⟩ = some (.int .i64 x.n) /\ w'.cell? ⟨w5.heap.size, 2, none⟩ = some (.int .i64 x.s) /\ w'.cell? ⟨w5.heap.size, 3, none⟩ = some (.slice (some ⟨bm5, 0, none⟩) nm nm) /\ w'.cell? ⟨w5.heap.size, 4, none⟩ = some (.int .i64 x.lost) /\ w'.cell? ⟨w5.heap.size, 5, none⟩ = some (.int .i64 x.built) /\ w'.cell? ⟨w5.heap.size, 6, none⟩ = some (.int .i64 x.seq) /\ w'.cell? ⟨w5.heap.size, 7, none⟩ = some (.int .i64 x.tail) /\ w'.cell? ⟨w5.heap.size, 8, none⟩ = some (.int .i64 x.gen) /\ w'.cell? ⟨w5.heap.size, 9, none⟩ = some (.slice (some ⟨bd5, 0, none⟩) nd nd) /\ w'.cell? ⟨w5.heap.size, 10, none⟩ = some (.int .i64 x.fuse) /\ w'.cell? ⟨w5.heap.size, 11, none⟩ = some (.bool x.down) /\ w'.cell? ⟨w5.heap.size, 12, none⟩ = some (.bool x.broken)) /\ w'.cell? ⟨w.heap.size, 0, none⟩ = some (.int .i64 x.id) /\ w'.cell? ⟨w.heap.size, 1, none⟩ = some (.int .i64 x.n) /\ w'.cell? ⟨w.heap.size, 2, none⟩ = some (.int .i64 x.s) /\ w'.cell? ⟨w.heap.size, 3, none⟩ = some (.slice am nm cm) /\ w'.cell? ⟨w.heap.size, 4, none⟩ = some (.int .i64 x.lost) /\ w'.cell? ⟨w.heap.size, 5, none⟩ = some (.int .i64 x.built) /\ w'.cell? ⟨w.heap.size, 6, none⟩ = some (.int .i64 x.seq) /\ w'.cell? ⟨w.heap.size, 7, none⟩ = some (.int .i64 x.tail) /\ w'.cell? ⟨w.heap.size, 8, none⟩ = some (.int .i64 x.gen) /\ w'.cell? ⟨w.heap.size, 9, none⟩ = some (.slice ad nd cd) /\ w'.cell? ⟨w.heap.size, 10, none⟩ = some (.int .i64 x.fuse) /\ w'.cell? ⟨w.heap.size, 11, none⟩ = some (.bool x.down) /\ w'.cell? ⟨w.heap.size, 12, none⟩ = some (.bool x.broken)) (by kernel_rfl) ?_ (fun hHeld => ?_)
   . exact ⟨BX9.out.cells13, BR9.out.cells13⟩
   refine held_take (i := 0) (v := ?_) rfl (by kernel_rfl) (by kernel_rfl) (by kernel_rfl) (fun _ _ _ h => h) (by kernel_rfl) ?_ hHeld ?_
   rotate_left 1
   . (intro w hSw; (try dsimp only at hSw); go_split_ands; go_simp; first | done | with_reducible rfl)
   simp only [Act.put, List.setIfInBounds_toArray, List.set_cons_zero, List.set_cons_succ]
   refine held_take (i := 1) (v := ?_) rfl (by kernel_rfl) (by kernel_rfl) (by kernel_rfl) (fun _ _ _ h => h) (by kernel_rfl) ?_ hHeld ?_
   rotate_left 1
   . (intro w hSw; (try dsimp only at hSw); go_split_ands; go_simp; first | done | with_reducible rfl)
   simp only [Act.put, List.setIfInBounds_toArray, List.set_cons_zero, List.set_cons_succ]
   refine held_one (i := 2) (by kernel_rfl) rfl (by kernel_rfl) (fun K hK => ?_)
   go_simp
   refine (toArr_any _ 140 78 81 x _ _ _ _ _ _ ms ds (h0.below B9.out).drew (h1.below B9.out).drew hwt').mono ?_
   rintro e w10 ⟨bm10, bd10, rfl, om10, od10, ya10, yb10, hb10⟩
   have hb10' : Below w9.heap.size w9 w10 := (Below.refl w9.heap.size w9).drew.trans hb10
   go_wp2_with fail
   clear hHeld
   refine hK.out _ _ ?_ (fun hHeld => ?_)
   . exact ⟨(BX9.out.below hb10' zy).cells13, (BR9.out.below hb10' zl).cells13⟩
   clear hK K
   refine held_one (i := 3) (by kernel_rfl) rfl (by kernel_rfl) (fun K hK => ?_)
   go_simp
   refine (eqArr_same _ 109 109 51 51 82 82 x _ _ _ _ _ _ _ _ _ _ _ _ ms ds (Dm9.out.below hb10').rd (Dd9.out.below hb10').rd om10.rd od10.rd hwt2).mono ?_
   rintro e w11 ⟨rfl, hb11⟩
   have hb11' : Below w9.heap.size w9 w11 := Below.andThen hb10' hb11
   go_wp2_with fail
   clear hHeld
   refine hK.out _ _ ?_ (fun hHeld => ?_)
   . exact ⟨(BX9.out.below hb11' zy).cells13, (BR9.out.below hb11' zl).cells13⟩
   clear hK K
   refine held_take (i := 4) (v := ?_) rfl (by kernel_rfl) (by kernel_rfl) (by kernel_rfl) (fun _ _ _ h => h) (by kernel_rfl) ?_ hHeld ?_
   rotate_left 1
   . (intro w hSw; (try dsimp only at hSw); go_split_ands; go_simp; first | done | with_reducible rfl)
   simp only [Act.put, List.setIfInBounds_toArray, List.set_cons_zero, List.set_cons_succ]
   refine wpAnyH_done (by kernel_rfl) ?_ _
   clear hHeld
   clear y0 y1 y2 y3 y4 y5 y6 y7 y8 y9 y10 y11 y12 l0 l1 l2 l3 l4 l5 l6 l7 l8 l9 l10 l11 l12
   clear zl zy om10 od10 ya10 yb10 hb10 hb11 hb10'
   have B11 := hidden (Below.andThen B9.out hb11')
   have BR11 := hidden (BR9.out.below hb11' (by omega))
   have W11 := hidden (W9.out.below hb11')
   have WB11 := hidden (WB9.out.below hb11' (by omega))
   have Dm11 := hidden (Dm9.out.below hb11')
   have Dd11 := hidden (Dd9.out.below hb11')
   have BX11 := hidden (BX9.out.below hb11' (by omega))
   have G11 := hidden (G9.out.below hb11')
   have GB11 := hidden (GB9.out.below hb11' (by omega))
   have z11 := hb11'.size
   clear B9 BR9 W9 WB9 Dm9 Dd9 BX9 G9 GB9 hb11'
   obtain ⟨q0, q1, q2, q3, q4, q5, q6, q7, q8, q9, q10, q11, q12⟩ := BX11.out.cells13
   go_wp2_with fail
   refine (markArr_own _ _ _ _ x _ _ _ _ _ _ ms ds Dm11.out Dd11.out (by omega) (by omega) (by omega) hwt2).mono ?_
   rintro e w12 ⟨rfl, _, _, hb12⟩
   clear q0 q1 q2 q3 q4 q5 q6 q7 q8 q9 q10 q11 q12
   clear Dm11
   clear Dd11
   clear BX11
   have B12 := hidden (Below.andBut B11.out hb12 (by omega))
   have BR12 := hidden (BR11.out.kept (hb12.block _ (by omega) (by omega)))
   have W12 := hidden (W11.out.but hb12 (by omega))
   have WB12 := hidden (WB11.out.kept (hb12.block _ (by omega) (by omega)))
   have G12 := hidden (G11.out.but hb12 (by omega))
   have GB12 := hidden (GB11.out.kept (hb12.block _ (by omega) (by omega)))
   have z12 := hb12.size
   clear B11 BR11 W11 WB11 G11 GB11 hb12
   have hcn : (0 : Int) <= 1 + (cntMS ms : Int) + (cntWS ds : Int) := by omega
   generalize 1 + (cntMS ms : Int) + (cntWS ds : Int) = cn at hcn ⊢
   obtain ⟨p0, p1, p2, p3, p4, p5, p6, p7, p8, p9, p10, p11, p12⟩ := GB12.out.cells13
   obtain ⟨q0, q1, q2, q3, q4, q5, q6, q7, q8, q9, q10, q11, q12⟩ := WB12.out.cells13
   go_wp2_with fail
   refine (eqArr_same _ 109 109 51 51 82 82 y _ _ _ _ _ _ _ _ _ _ _ _ ns ds G12.out.rdm G12.out.rdd W12.out.rdm W12.out.rdd hwq).mono ?_
   rintro e w13 ⟨rfl, hb13⟩
   clear p0 p1 p2 p3 p4 p5 p6 p7 p8 p9 p10 p11 p12 q0 q1 q2 q3 q4 q5 q6 q7 q8 q9 q10 q11 q12
   have B13 := hidden (Below.andThen B12.out hb13)
   have BR13 := hidden (BR12.out.below hb13 (by omega))
   have W13 := hidden (W12.out.below hb13)
   have WB13 := hidden (WB12.out.below hb13 (by omega))
   have G13 := hidden (G12.out.below hb13)
   have GB13 := hidden (GB12.out.below hb13 (by omega))
   have z13 := hb13.size
   clear B12 BR12 W12 WB12 G12 GB12 hb13
   obtain ⟨p0, p1, p2, p3, p4, p5, p6, p7, p8, p9, p10, p11, p12⟩ := GB13.out.cells13
   go_wp2_with fail
   refine (markArr_in _ w6.heap.size w7.heap.size y _ _ _ _ _ _ ns ds G13.out (by omega) hwq).mono ?_
   rintro e w14 ⟨rfl, oi14, hb14⟩
   clear p0 p1 p2 p3 p4 p5 p6 p7 p8 p9 p10 p11 p12
   clear G13
   have B14 := hidden (Below.andBut B13.out hb14 (by omega))
   have BR14 := hidden (BR13.out.kept (hb14.block _ (by omega) (by omega)))
   have W14 := hidden (W13.out.but hb14 (by omega))
   have WB14 := hidden (WB13.out.kept (hb14.block _ (by omega) (by omega)))
   have GB14 := hidden (GB13.out.kept (hb14.block _ (by omega) (by omega)))
   have z14 := hb14.size
   clear B13 BR13 W13 WB13 GB13 hb14
   have G14 := hidden oi14
   clear oi14
   obtain ⟨p0, p1, p2, p3, p4, p5, p6, p7, p8, p9, p10, p11, p12⟩ := GB14.out.cells13
   go_wp2_with fail
   refine (heldArr_any _ 109 51 82 y _ _ _ _ _ _ ns ds G14.out.rdm G14.out.rdd hwq).mono ?_
   rintro e w15 ⟨rfl, hb15⟩
   clear p0 p1 p2 p3 p4 p5 p6 p7 p8 p9 p10 p11 p12
   have B15 := hidden (Below.andThen B14.out hb15)
   have BR15 := hidden (BR14.out.below hb15 (by omega))
   have W15 := hidden (W14.out.below hb15)
   have WB15 := hidden (WB14.out.below hb15 (by omega))
   have GB15 := hidden (GB14.out.below hb15 (by omega))
   have G15 := hidden (G14.out.below hb15)
   have z15 := hb15.size
   clear B14 BR14 W14 WB14 GB14 G14 hb15
   have hcm : (0 : Int) <= 1 + (cntMS ns : Int) + (cntWS ds : Int) := by omega
   generalize hCM : 1 + (cntMS ns : Int) + (cntWS ds : Int) = ck at hcm ⊢
   have HCM := hidden hCM
   clear hCM
   obtain ⟨l0, l1, l2, l3, l4, l5, l6, l7, l8, l9, l10, l11, l12⟩ := BR15.out.cells13
   go_wp2_with fail
   refine (toArr_any _ 140 78 81 x _ _ _ _ _ _ ms ds (h0.below B15.out) (h1.below B15.out) hwt').mono ?_
   rintro e w16 ⟨bm16, bd16, rfl, om16, od16, ya16, yb16, hb16⟩
   clear l0 l1 l2 l3 l4 l5 l6 l7 l8 l9 l10 l11 l12
   have B16 := hidden (Below.andThen B15.out hb16)
   have BR16 := hidden (BR15.out.below hb16 (by omega))
   have W16 := hidden (W15.out.below hb16)
   have WB16 := hidden (WB15.out.below hb16 (by omega))
   have GB16 := hidden (GB15.out.below hb16 (by omega))
   have G16 := hidden (G15.out.below hb16)
   have z16 := hb16.size
   clear B15 BR15 W15 WB15 GB15 G15 hb16
   have Em16 := hidden om16
   clear om16
   have Ed16 := hidden od16
   clear od16
   go_wp2_with fail
   refine (implBuildStep_any _ 109 51 82 x _ _ _ _ _ _ ms ds Em16.out.rd Ed16.out.rd hwt3 ).mono ?_
   rintro e w17 ho17
   rw [HQ.out, HQC.out] at ho17
   obtain ⟨a17, d17, c17, b17, rfl, o17, hb17⟩ := ho17
   dsimp only at o17
   unfold arrC
   have B17 := hidden (Below.andThen B16.out hb17)
   have BR17 := hidden (BR16.out.below hb17 (by omega))
   have W17 := hidden (W16.out.below hb17)
   have WB17 := hidden (WB16.out.below hb17 (by omega))
   have GB17 := hidden (GB16.out.below hb17 (by omega))
   have G17 := hidden (G16.out.below hb17)
   have Em17 := hidden (Em16.out.below hb17)
   have Ed17 := hidden (Ed16.out.below hb17)
   have z17 := hb17.size
   clear B16 BR16 W16 WB16 GB16 G16 Em16 Ed16 hb17
   have H17 := hidden o17
   clear o17
   clear Em17
   clear Ed17
   have ba : Below w17.heap.size w17 (w17.alloc (.cells #[.int .i64 y.id, .int .i64 y.n, .int .i64 y.s, .slice a17 ns.length c17, .int .i64 y.lost, .int .i64 y.built, .int .i64 y.seq, .int .i64 y.tail, .int .i64 y.gen, .slice d17 ds.length b17, .int .i64 y.fuse, .bool y.down, .bool y.broken] 33)) := (Below.refl _ _).alloc (Nat.le_refl _) _
   have xb := Box.new w17 33 #[.int .i64 y.id, .int .i64 y.n, .int .i64 y.s, .slice a17 ns.length c17, .int .i64 y.lost, .int .i64 y.built, .int .i64 y.seq, .int .i64 y.tail, .int .i64 y.gen, .slice d17 ds.length b17, .int .i64 y.fuse, .bool y.down, .bool y.broken]
   have zx18 := xb.lt
   have B18 := hidden (Below.andThen B17.out ba)
   have BR18 := hidden (BR17.out.below ba (by omega))
   have W18 := hidden (W17.out.below ba)
   have WB18 := hidden (WB17.out.below ba (by omega))
   have GB18 := hidden (GB17.out.below ba (by omega))
   have G18 := hidden (G17.out.below ba)
   have H18 := hidden (H17.out.below ba)
   have z18 := ba.size
   clear B17 BR17 W17 WB17 GB17 G17 H17 ba
   have HB18 := hidden xb
   clear xb
   obtain ⟨p0, p1, p2, p3, p4, p5, p6, p7, p8, p9, p10, p11, p12⟩ := HB18.out.cells13
   obtain ⟨q0, q1, q2, q3, q4, q5, q6, q7, q8, q9, q10, q11, q12⟩ := WB18.out.cells13
   go_wp2_with fail
   generalize w17.alloc (.cells #[.int .i64 y.id, .int .i64 y.n, .int .i64 y.s, .slice a17 ns.length c17, .int .i64 y.lost, .int .i64 y.built, .int .i64 y.seq, .int .i64 y.tail, .int .i64 y.gen, .slice d17 ds.length b17, .int .i64 y.fuse, .bool y.down, .bool y.broken] 33) = w18 at B18 BR18 W18 WB18 GB18 G18 H18 HB18 z18 zx18 p0 p1 p2 p3 p4 p5 p6 p7 p8 p9 p10 p11 p12 q0 q1 q2 q3 q4 q5 q6 q7 q8 q9 q10 q11 q12 ⊢
   refine (eqArr_same _ 109 109 51 51 82 82 y _ _ _ _ _ _ _ _ _ _ _ _ ns ds H18.out.rdm H18.out.rdd W18.out.rdm W18.out.rdd hwq).mono ?_
   rintro e w19 ⟨rfl, hb19⟩
   clear p0 p1 p2 p3 p4 p5 p6 p7 p8 p9 p10 p11 p12 q0 q1 q2 q3 q4 q5 q6 q7 q8 q9 q10 q11 q12
   have B19 := hidden (Below.andThen B18.out hb19)
   have BR19 := hidden (BR18.out.below hb19 (by omega))
   have W19 := hidden (W18.out.below hb19)
   have WB19 := hidden (WB18.out.below hb19 (by omega))
   have GB19 := hidden (GB18.out.below hb19 (by omega))
   have G19 := hidden (G18.out.below hb19)
   have H19 := hidden (H18.out.below hb19)
   have HB19 := hidden (HB18.out.below hb19 (by omega))
   have z19 := hb19.size
   clear B18 BR18 W18 WB18 GB18 G18 H18 HB18 hb19
   clear H19
   clear HB19
   clear W19
   clear WB19
   obtain ⟨p0, p1, p2, p3, p4, p5, p6, p7, p8, p9, p10, p11, p12⟩ := GB19.out.cells13
   go_wp2_with fail
   refine (heldArr_any _ 109 51 82 y _ _ _ _ _ _ ns ds G19.out.rdm G19.out.rdd hwq).mono ?_
   rintro e w20 ⟨rfl, hb20⟩
   clear p0 p1 p2 p3 p4 p5 p6 p7 p8 p9 p10 p11 p12
   have B20 := hidden (Below.andThen B19.out hb20)
   have BR20 := hidden (BR19.out.below hb20 (by omega))
   have GB20 := hidden (GB19.out.below hb20 (by omega))
   have G20 := hidden (G19.out.below hb20)
   have z20 := hb20.size
   clear B19 BR19 GB19 G19 hb20
   rw [HCM.out]
   go_wp2
   go_ret
   exact ⟨rfl, B20.out⟩
 have hq := leftOf_neg (left := 1048576) (wt := wtArr ms ds) (by omega)
 go_wp2
 go_ret
 exact ⟨rfl, B1.out⟩

end Go.Proofs.YtechckninoilhaaGreat

namespace Go.Proofs.YtechckninoilhaaGreat
open Go.RowKit Go.ChangeShapes Go.WideShapes Go.ChangeAt Go.Joins Go.Deep

section
variable {H : Type} {enc : TypeId × Value -> H} {P : Program} {w : World} {held : Bool}

theorem rdInts_of {t q : TypeId} {fuel : Nat} {v : Value} {x : DataW H × List MemPlace} (ht : P.underlying t = some (.slice q)) (hq : P.underlying q = some (.int .i64)) (cq : P.cellsOf q = 1)
 (h : DataW.trod enc P w 0 (fun _ => true) held fuel t [v] = some x) : ∃ zs, tIntS.Rd w [v] zs := by
 rcases open_ints ht hq cq h with ⟨hcs, _⟩ | ⟨a, len, cap, zs, hcs, _, hl, hm, hz, _, hcell, hwz⟩
 . simp at hcs
   subst hcs
   exact ⟨[], ints_rd_of (.inl rfl) (Nat.le_refl _) (by simp) (fun _ => rfl)⟩
 simp at hcs
 subst hcs
 have hr : IsRow .i64 w (some a) len cap zs := .inr ⟨_, rfl, hl, hm, by simpa using hz, hcell, hwz⟩
 obtain ⟨h1, h2, _, _⟩ := hr.reads
 refine ⟨zs.take len, ?_⟩
 have := ints_rd_of (E := 3) (cap := cap) h1 (by omega) (by unfold maxLen at hm; omega) (by simp)
 rw [h2] at this
 exact this

theorem rd_row {t : Ty} {E : TypeId} {a : Addr} {len cap : Nat} (hl : len <= cap) (hm : cap <= 9223372036854775807) (cs : Nat -> List Value) (hn : 0 < t.n) (hcl : ∀ i, i < len -> (cs i).length = t.n)
 (hc : ∀ i, i < len -> ∀ j, j < t.n -> w.cell? (a.add (i * t.n + j)) = (cs i)[j]?) (hx : ∀ i, i < len -> ∃ x, t.Rd w (cs i) x) : ∃ d, (rowTy t E).Rd w [.slice (some a) len cap] d := by
 have each : ∀ i, i < len -> ∃ y : t.D × List Nat, t.rd w (cs i) y.1 y.2 := by
  intro i hi
  obtain ⟨x, fp, h⟩ := hx i hi
  exact ⟨(x, fp), h⟩
 by_cases h0 : len = 0
 . subst h0
   exact ⟨[], [], some a, cap, rfl, by simp, hm, .inl ⟨rfl, rfl, by simp⟩⟩
 have hne : Nonempty (t.D × List Nat) := by
  obtain ⟨y, _⟩ := each 0 (by omega)
  exact ⟨y⟩
 have hch : ∃ f : Nat -> t.D × List Nat, ∀ i, i < len -> t.rd w (cs i) (f i).1 (f i).2 := by
  refine ⟨fun i => if h : i < len then Classical.choose (each i h) else Classical.choice hne, fun i hi => ?_⟩
  simp only [dif_pos hi]
  exact Classical.choose_spec (each i hi)
 obtain ⟨f, hf⟩ := hch
 obtain ⟨b, off, spot⟩ := a
 have hc0 := hc 0 (by omega) 0 hn
 have hsome : ∃ v0, (cs 0)[0]? = some v0 := ⟨(cs 0)[0]'(by rw [hcl 0 (by omega)]; exact hn), List.getElem?_eq_getElem _⟩
 obtain ⟨v0, hv0⟩ := hsome
 rw [hv0] at hc0
 have hspot : spot = none := by simpa [Addr.add] using World.cell?_spot hc0
 subst hspot
 have ea : ∀ k, (⟨b, off, none⟩ : Addr).add k = ⟨b, off + k, none⟩ := by
  intro k
  unfold Addr.add
  split <;> simp_all
 rw [ea] at hc0
 have hblt : b < w.heap.size := World.block_lt_of_cell? w _ hc0
 refine ⟨(List.range len).map fun i => (f i).1, b :: ((List.range len).map fun i => (f i).2).flatten, _, cap, by simp, by simpa using hl, hm, .inr ⟨b, off, (List.range len).map fun i => (f i).2, rfl, hblt, rfl, by simp, fun i x hxi => ?_⟩⟩
 have hi : i < len := by
  have := (List.getElem?_eq_some_iff.1 hxi).1
  simpa using this
 rw [List.getElem?_map, List.getElem?_range hi] at hxi
 simp at hxi
 subst hxi
 refine ⟨(f i).2, cs i, by rw [List.getElem?_map, List.getElem?_range hi]; rfl, hf i hi, fun j hj => ?_⟩
 rw [← ea]
 exact hc i hi j hj

theorem rdIntSS_of {t e q : TypeId} {fuel : Nat} {v : Value} {x : DataW H × List MemPlace} (ht : P.underlying t = some (.slice e)) (he : P.underlying e = some (.slice q)) (hq : P.underlying q = some (.int .i64)) (ce : P.cellsOf e = 1) (cq : P.cellsOf q = 1)
 (h : DataW.trod enc P w 0 (fun _ => true) held fuel t [v] = some x) : ∃ d, tIntSS.Rd w [v] d := by
 rcases open_slice1 ht ce h with ⟨hcs, _⟩ | ⟨a, len, cap, m, n, V, D, Pl, hcs, _, hl, hm, hmm, _, hx⟩
 . simp at hcs
   subst hcs
   exact ⟨[], [], none, 0, rfl, by simp, by simp, .inl ⟨rfl, rfl, fun _ => rfl⟩⟩
 simp at hcs
 subst hcs
 simp only [if_true] at hmm
 refine rd_row hl (by unfold maxLen at hm; omega) (fun i => [V i]) (by decide) (fun _ _ => rfl) (fun i hi j hj => ?_) (fun i hi => rdInts_of he hq cq (hx i (by omega)).2)
 have hj0 : j = 0 := by have : j < 1 := hj; omega
 subst hj0
 have := (hx i (by omega)).1
 show w.cell? (a.add (i * 1 + 0)) = some (V i)
 rw [Nat.mul_one, Nat.add_zero]
 exact this

theorem rdWrS_of {t e q : TypeId} {f0 f1 : Field} {E : TypeId} {fuel : Nat} {v : Value} {x : DataW H × List MemPlace} (ht : P.underlying t = some (.slice e)) (he : P.underlying e = some (.struct #[f0, f1])) (ce : P.cellsOf e = 2) (o0 : f0.offset = 0) (o1 : f1.offset = 1) (c0 : P.cellsOf f0.type = 1) (c1 : P.cellsOf f1.type = 1)
 (hi0 : P.underlying f0.type = some (.int .i64)) (hi1 : P.underlying f1.type = some (.slice q)) (hq : P.underlying q = some (.int .i64)) (cq : P.cellsOf q = 1)
 (h : DataW.trod enc P w 0 (fun _ => true) held fuel t [v] = some x) : ∃ d, (tWrS E).Rd w [v] d := by
 rcases open_slice_pairs ht he ce o0 o1 c0 c1 h with ⟨hcs, _⟩ | ⟨a, len, cap, m, n, V0, V1, D0, D1, P0, P1, hcs, _, hl, hm, hmm, _, hx⟩
 . simp at hcs
   subst hcs
   exact ⟨[], [], none, 0, rfl, by simp, by simp, .inl ⟨rfl, rfl, fun _ => rfl⟩⟩
 simp at hcs
 subst hcs
 simp only [if_true] at hmm
 refine rd_row hl (by unfold maxLen at hm; omega) (fun i => [V0 i, V1 i]) (by decide) (fun _ _ => rfl) (fun i hi j hj => ?_) (fun i hi => ?_)
 . have hj2 : j < 2 := hj
   obtain ⟨h0, h1, _⟩ := hx i (by omega)
   match j, hj2 with
   | 0, _ => exact h0
   | 1, _ => exact h1
 obtain ⟨_, _, h2, h3⟩ := hx i (by omega)
 obtain ⟨y, hy, _, _⟩ := DataW.trod_int hi0 h2
 obtain ⟨zs, hzs⟩ := rdInts_of hi1 hq cq h3
 simp at hy
 exact ⟨(y, zs), by rw [hy]; exact pair_rd_of (t := intTy) (vs := [_]) ⟨[], rfl, rfl⟩ hzs⟩

end
end Go.Proofs.YtechckninoilhaaGreat

namespace Go.Proofs.YtechckninoilhaaGreat
open Go.RowKit Go.ChangeShapes Go.WideShapes Go.ChangeAt Go.Joins Go.Deep

section
variable {H : Type} {enc : TypeId × Value -> H} {w : World} {held : Bool}

theorem rdRow_of {P : Program} {t e E : TypeId} {u : Ty} {fuel : Nat} {v : Value} {x : DataW H × List MemPlace} (ht : P.underlying t = some (.slice e)) (ce : P.cellsOf e = u.n) (hn : 0 < u.n)
 (each : ∀ (n : Nat) (cs : List Value) (y : DataW H × List MemPlace), cs.length = u.n -> DataW.trod enc P w 0 (fun _ => true) held n e cs = some y -> ∃ d, u.Rd w cs d)
 (h : DataW.trod enc P w 0 (fun _ => true) held fuel t [v] = some x) : ∃ d, (rowTy u E).Rd w [v] d := by
 rcases open_slice ht h with ⟨hcs, _⟩ | ⟨a, len, cap, m, n, D, Pl, hcs, _, hl, hm, hmm, _, hx⟩
 . simp at hcs
   subst hcs
   exact ⟨[], [], none, 0, rfl, by simp, by simp, .inl ⟨rfl, rfl, fun _ => rfl⟩⟩
 simp at hcs
 subst hcs
 simp only [if_true] at hmm
 have one : ∀ i, i < len -> ∃ cs : List Value, cs.length = u.n /\ (∀ j, j < u.n -> w.cell? (a.add (i * u.n + j)) = cs[j]?) /\ ∃ d, u.Rd w cs d := by
  intro i hi
  obtain ⟨cs', h1, h2⟩ := hx i (by omega)
  rw [ce] at h1
  obtain ⟨_, hlen, hcell⟩ := World.cells?_some h1
  refine ⟨cs', hlen, fun j hj => ?_, each n cs' _ hlen h2⟩
  have := hcell j hj
  rw [add_add] at this
  exact this
 obtain ⟨q, hq⟩ := choose_lt one
 exact rd_row hl (by unfold maxLen at hm; omega) q hn (fun i hi => (hq i hi).1) (fun i hi => (hq i hi).2.1) (fun i hi => (hq i hi).2.2)

theorem rdMemS_of {fuel : Nat} {v : Value} {x : DataW H × List MemPlace} (h : DataW.trod enc Tryz.prog w 0 (fun _ => true) held fuel 24 [v] = some x) : ∃ d, (tMemS 140 78).Rd w [v] d := by
 refine rdRow_of (e := 78) Tryz.underlying24 (by kernel_rfl) (by decide) (fun n cs y hl hy => ?_) h
 match cs, hl with
 | [v0, v1, v2, v3], _ =>
  obtain ⟨xs, k, _, _, _, hxl, hf⟩ := DataW.trod_struct Tryz.underlying78 hy
  have c1 : Tryz.prog.cellsOf 47 = 1 := by kernel_rfl
  have c2 : Tryz.prog.cellsOf 76 = 1 := by kernel_rfl
  have c3 : Tryz.prog.cellsOf 4 = 1 := by kernel_rfl
  have c4 : Tryz.prog.cellsOf 49 = 1 := by kernel_rfl
  match xs, hxl with
  | [y0, y1, y2, y3], _ =>
   have g0 := hf 0 _ rfl
   have g1 := hf 1 _ rfl
   have g2 := hf 2 _ rfl
   have g3 := hf 3 _ rfl
   simp [c1] at g0
   simp [c2] at g1
   simp [c3] at g2
   simp [c4] at g3
   obtain ⟨ss, r0⟩ := rdIntSS_of Tryz.underlying47 Tryz.underlying49 Tryz.underlying3 (by kernel_rfl) (by kernel_rfl) g0
   obtain ⟨ws, r1⟩ := rdWrS_of (E := 140) Tryz.underlying76 Tryz.underlying140 (by kernel_rfl) rfl rfl (by kernel_rfl) (by kernel_rfl) Tryz.underlying3 Tryz.underlying49 Tryz.underlying3 (by kernel_rfl) g1
   obtain ⟨f, hfb, _⟩ := DataW.trod_bool Tryz.underlying4 g2
   obtain ⟨bs, r3⟩ := rdInts_of Tryz.underlying49 Tryz.underlying3 (by kernel_rfl) g3
   simp at hfb
   subst hfb
   exact ⟨(ss, ws, f, bs), pair_rd_of (vs := [v0]) r0 (pair_rd_of (vs := [v1]) r1 (pair_rd_of (t := boolTy) (vs := [.bool f]) ⟨[], rfl, rfl⟩ r3))⟩

theorem array13 {cs : Array Value} (h : cs.size = 13) : ∃ c0 c1 c2 c3 c4 c5 c6 c7 c8 c9 c10 c11 c12, cs = #[c0, c1, c2, c3, c4, c5, c6, c7, c8, c9, c10, c11, c12] := by
 obtain ⟨l⟩ := cs
 match l, h with
 | [c0, c1, c2, c3, c4, c5, c6, c7, c8, c9, c10, c11, c12], _ => exact ⟨c0, c1, c2, c3, c4, c5, c6, c7, c8, c9, c10, c11, c12, rfl⟩

theorem open_arr {r : Reach} {b0 : Nat} {v : Value} {d : DataW H} {p : List MemPlace} (hv : Value.okWide Tryz.prog w r b0 27 v) (h : DataW.Trod enc Tryz.prog w 0 (fun _ => true) held 27 v d p) :
 ∃ (x : ArrN) (am ad : Option Addr) (cm cd : Nat) (ms : List MemD) (ds : List (Int × List Int)), v = .agg #[.int .i64 x.id, .int .i64 x.n, .int .i64 x.s, .slice am ms.length cm, .int .i64 x.lost, .int .i64 x.built, .int .i64 x.seq, .int .i64 x.tail, .int .i64 x.gen, .slice ad ds.length cd, .int .i64 x.fuse, .bool x.down, .bool x.broken] /\ (tMemS 140 78).Rd w [.slice am ms.length cm] ms /\ (tWrS 81).Rd w [.slice ad ds.length cd] ds := by
 obtain ⟨cs, rfl, hsz⟩ := okWide_struct Tryz.underlying27 hv
 obtain ⟨c0, c1, c2, c3, c4, c5, c6, c7, c8, c9, c10, c11, c12, rfl⟩ := array13 (hsz.trans (by kernel_rfl))
 obtain ⟨fuel, hf⟩ := h
 obtain ⟨xs, n, _, _, _, hxl, hx⟩ := DataW.trod_struct Tryz.underlying27 hf
 have k3 : Tryz.prog.cellsOf 3 = 1 := by kernel_rfl
 have k4 : Tryz.prog.cellsOf 4 = 1 := by kernel_rfl
 have kG : Tryz.prog.cellsOf 23 = 2 := by kernel_rfl
 have kM : Tryz.prog.cellsOf 24 = 1 := by kernel_rfl
 have kE : Tryz.prog.cellsOf 25 = 1 := by kernel_rfl
 match xs, hxl with
 | [y0, y1, y2, y3, y4, y5, y6, y7, y8, y9, y10, y11], _ =>
  have g0 := hx 0 _ rfl
  have g1 := hx 1 _ rfl
  have g2 := hx 2 _ rfl
  have g3 := hx 3 _ rfl
  have g4 := hx 4 _ rfl
  have g5 := hx 5 _ rfl
  have g6 := hx 6 _ rfl
  have g7 := hx 7 _ rfl
  have g8 := hx 8 _ rfl
  have g9 := hx 9 _ rfl
  have g10 := hx 10 _ rfl
  have g11 := hx 11 _ rfl
  simp [Value.cells, k3] at g0
  simp [Value.cells, kG] at g1
  simp [Value.cells, kM] at g2
  simp [Value.cells, k3] at g3
  simp [Value.cells, k3] at g4
  simp [Value.cells, k3] at g5
  simp [Value.cells, k3] at g6
  simp [Value.cells, k3] at g7
  simp [Value.cells, kE] at g8
  simp [Value.cells, k3] at g9
  simp [Value.cells, k4] at g10
  simp [Value.cells, k4] at g11
  obtain ⟨n0, e0, _, _⟩ := DataW.trod_int Tryz.underlying3 g0
  simp at e0
  subst e0
  obtain ⟨zs, m, _, _, _, hzl, hz⟩ := DataW.trod_struct Tryz.underlying23 g1
  match zs, hzl with
  | [z0, z1], _ =>
  have q0 := hz 0 _ rfl
  have q1 := hz 1 _ rfl
  simp [k3] at q0 q1
  obtain ⟨nn, en, _, _⟩ := DataW.trod_int Tryz.underlying3 q0
  obtain ⟨ns, es, _, _⟩ := DataW.trod_int Tryz.underlying3 q1
  simp at en es
  subst en es
  obtain ⟨ms, r2⟩ := rdMemS_of g2
  obtain ⟨am, cm, rfl⟩ := row_shape r2
  obtain ⟨n3, e3, _, _⟩ := DataW.trod_int Tryz.underlying3 g3
  simp at e3
  subst e3
  obtain ⟨n4, e4, _, _⟩ := DataW.trod_int Tryz.underlying3 g4
  simp at e4
  subst e4
  obtain ⟨n5, e5, _, _⟩ := DataW.trod_int Tryz.underlying3 g5
  simp at e5
  subst e5
  obtain ⟨n6, e6, _, _⟩ := DataW.trod_int Tryz.underlying3 g6
  simp at e6
  subst e6
  obtain ⟨n7, e7, _, _⟩ := DataW.trod_int Tryz.underlying3 g7
  simp at e7
  subst e7
  obtain ⟨ds, r8⟩ := rdWrS_of (E := 81) Tryz.underlying25 Tryz.underlying81 (by kernel_rfl) rfl rfl (by kernel_rfl) (by kernel_rfl) Tryz.underlying3 Tryz.underlying49 Tryz.underlying3 (by kernel_rfl) g8
  obtain ⟨ad, cd, rfl⟩ := row_shape r8
  obtain ⟨n9, e9, _, _⟩ := DataW.trod_int Tryz.underlying3 g9
  simp at e9
  subst e9
  obtain ⟨n10, e10, _⟩ := DataW.trod_bool Tryz.underlying4 g10
  simp at e10
  subst e10
  obtain ⟨n11, e11, _⟩ := DataW.trod_bool Tryz.underlying4 g11
  simp at e11
  subst e11
  exact ⟨⟨n0, nn, ns, n3, n4, n5, n6, n7, n9, n10, n11⟩, am, ad, cm, cd, ms, ds, rfl, r2, r8⟩

end
end Go.Proofs.YtechckninoilhaaGreat

namespace Go.Proofs.YtechckninoilhaaGreat.fnExactBuildStep
open Go.ChangeShapes Go.WideShapes Go.ChangeAt Go.RowKit Go.Joins
open Go.ChangeMaps (open_string shut_string)
set_option linter.unusedVariables false

theorem own : ownKnob Tryz.prog.godebug = none := by kernel_rfl
theorem laidOut : laidOutB Tryz.prog = true := by kernel_rfl

theorem lifted (os : Os) (started : os.Started) (H : Type) (enc : TypeId × Value -> H) :
 ReturnsInHanded {} Tryz.checked os 5 .any (Rows.fnExactBuildStepSpec.pre6 enc Tryz.prog Tryz.f5 Rows.fnExactBuildStepRow.domain false) (Rows.fnExactBuildStepSpec.post enc Tryz.prog Tryz.f5 false true false false) := by
 refine returnsInHanded_of_change (C := Tryz.checked) own started (by kernel_rfl) Tryz.func5
  (ChangeSpec.witness6 (enc := enc) (C := Tryz.checked) false ⟨#[], #[.agg #[.int .i64 0, .int .i64 0, .int .i64 0, .slice none 0 0, .int .i64 0, .int .i64 0, .int .i64 0, .int .i64 0, .int .i64 0, .slice none 0 0, .int .i64 0, .bool false, .bool false]], []⟩ 8 (by kernel_rfl) (by kernel_rfl) (by kernel_rfl) (by kernel_rfl)) ?_
 intro W base args ds gs before hval0 hW hcnd _
 have hval : ∀ (j : Nat) t v, Tryz.f5.params[j]? = some t -> args[j]? = some v -> Value.okWide Tryz.prog W .any base t v := hval0
 have hW' := hW
 obtain ⟨p, q, hA0, hV, rfl, hfz, hnd⟩ := hW
 have hA : DataW.TrodAll enc Tryz.prog W 0 (fun _ => true) true Tryz.f5.params.toList args.toList ds p := hA0
 rw [Tryz.params5] at hA hval
 obtain ⟨v0, vs0, d0, ds0, p0, q0, hargs0, rfl, rfl, h0, r0⟩ := trodAll_cons hA
 obtain ⟨rfl, rfl, rfl⟩ := trodAll_nil r0
 obtain rfl : args = #[v0] := by cases args; simp_all
 obtain ⟨rfl, rfl⟩ := trodVars_none hV
 have k0 := h0
 have lt0 : ∀ x ∈ p0, x.block < W.heap.size := by obtain ⟨m, hm⟩ := k0; exact DataW.trod_lt m _ _ _ hm
 obtain ⟨x0, am0, ad0, cm0, cd0, ms0, ds0, rfl, g0m, g0d⟩ := open_arr (hval 0 27 v0 rfl rfl) h0
 clear hA0 hval0
 refine (fnExactBuildStep_walk x0 am0 ad0 ms0.length cm0 ds0.length cd0 ms0 ds0 W g0m g0d).mono fun e W' ⟨he, bel⟩ => ?_
 subst he
 exact ⟨_, rfl, _, _, _, [], _, [], hW', trodAll_mk1 (shut_bool Tryz.underlying4 _), (trodAll_cons_mk (Below.trod laidOut (by kernel_rfl) (of_decide_eq_true (by kernel_rfl)) k0 bel lt0) trodAll_mk0), rfl, bel.frame _, fun h => by cases h⟩

theorem over : Rows.fnExactBuildStepRow.holds Tryz.pinned (OpenSpec.ofChange Rows.fnExactBuildStepSpec) :=
 OpenClaim.holds_of_wide 5 Tryz.f5 rfl rfl rfl rfl rfl rfl rfl ⟨rfl, rfl, rfl, rfl, rfl⟩ rfl rfl rfl rfl rfl (by kernel_rfl) Tryz.func5 (by kernel_rfl)
  (of_decide_eq_true (by kernel_rfl)) (by unfold Func.isWrapper; first | (rw [if_pos (by decide +kernel)]; kernel_rfl) | (rw [if_neg (by decide +kernel)]; exact ⟨rfl, rfl⟩))
  (fun os started H enc _ => lifted os started H enc)
end Go.Proofs.YtechckninoilhaaGreat.fnExactBuildStep

namespace Go.Proofs.YtechckninoilhaaGreat
theorem fnExactBuildStep_holds : Rows.FnExactBuildStepSaid := fnExactBuildStep.over
#print axioms fnExactBuildStep_holds
end Go.Proofs.YtechckninoilhaaGreat


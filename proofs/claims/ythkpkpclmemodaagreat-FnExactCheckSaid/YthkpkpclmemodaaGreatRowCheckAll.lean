/-
  At every array Check answers as the specification's, writes into no argument, and its answer owns its memory. No condition.
-/
import Derived.Test.YthkpkpclmemodaaGreatRowCheckAll3
import Derived.Test.YthkpkpclmemodaaGreatRowCheckAll2
import Derived.Test.YthkpkpclmemodaaGreatWalkArr
import Derived.Test.YthkpkpclmemodaaGreatWalkCopySpec
import Derived.Test.YthkpkpclmemodaaGreatWalkWriteSpec
import Derived.Test.YthkpkpclmemodaaGreatWalkFlush
import Derived.Test.YthkpkpclmemodaaGreatWalkPutSuper
import Derived.Test.YthkpkpclmemodaaGreatRowCheckAll4
import Derived.Test.YthkpkpclmemodaaGreatWalkSz
import Derived.ProofKit
import Derived.OpenShut
import Derived.Lib.SmallJoins
import Derived.Deep.Slices
import Derived.Deep.SlicePairs
import Derived.Test.YthkpkpclmemodaaGreatRows
import Derived.WalkKit
import Derived.ShutString
import Derived.ChangeOld
import Derived.Below

/-
  The program's Check walked. Condition: the array weighs at most 2097152.
-/
namespace Go.Proofs.YthkpkpclmemodaaGreat
open Go.RowKit

set_option linter.unusedSimpArgs false in
set_option maxRecDepth 20000 in
set_option maxHeartbeats 3200000 in
theorem implCheck_any (w : World) (E F G : TypeId) (x : ArrN) (am ad : Option Addr) (nm cm nd cd : Nat) (ms : List MemD) (ds : List (Int × List Int)) (h0 : (tMemS E F).Rd w [.slice am nm cm] ms) (h1 : (tWrS G).Rd w [.slice ad nd cd] ds) (hw : wtArr ms ds ≤ 2097152) :
    Calls Tryz.prog 14 #[.agg #[.int .i64 x.id, .int .i64 x.n, .int .i64 x.s, .slice am nm cm, .int .i64 x.lost, .int .i64 x.built, .int .i64 x.seq, .int .i64 x.tail, .int .i64 x.gen, .slice ad nd cd, .int .i64 x.fuse, .bool x.down, .bool x.broken]] w fun e w' => ArrOut w w' e (checkO x ms ds) ds := by
  obtain ⟨rfl, _⟩ := row_length h0
  obtain ⟨rfl, _⟩ := row_length h1
  have hA := (new_below w (.cells #[.int .i64 x.id, .int .i64 x.n, .int .i64 x.s, .slice am ms.length cm, .int .i64 x.lost, .int .i64 x.built, .int .i64 x.seq, .int .i64 x.tail, .int .i64 x.gen, .slice ad ds.length cd, .int .i64 x.fuse, .bool x.down, .bool x.broken] 33)).alloc (by simp) (.cells #[.int .i64 0, .int .i64 0, .int .i64 0, .slice none 0 0, .int .i64 0, .int .i64 0, .int .i64 0, .int .i64 0, .int .i64 0, .slice none 0 0, .int .i64 0, .bool false, .bool false] 33)
  have X0 : Box ((w.alloc (.cells #[.int .i64 x.id, .int .i64 x.n, .int .i64 x.s, .slice am ms.length cm, .int .i64 x.lost, .int .i64 x.built, .int .i64 x.seq, .int .i64 x.tail, .int .i64 x.gen, .slice ad ds.length cd, .int .i64 x.fuse, .bool x.down, .bool x.broken] 33)).alloc (.cells #[.int .i64 0, .int .i64 0, .int .i64 0, .slice none 0 0, .int .i64 0, .int .i64 0, .int .i64 0, .int .i64 0, .int .i64 0, .slice none 0 0, .int .i64 0, .bool false, .bool false] 33)) w.heap.size 33 #[.int .i64 x.id, .int .i64 x.n, .int .i64 x.s, .slice am ms.length cm, .int .i64 x.lost, .int .i64 x.built, .int .i64 x.seq, .int .i64 x.tail, .int .i64 x.gen, .slice ad ds.length cd, .int .i64 x.fuse, .bool x.down, .bool x.broken] := (Box.new w _ _).alloc _
  have R0 := Box.new (w.alloc (.cells #[.int .i64 x.id, .int .i64 x.n, .int .i64 x.s, .slice am ms.length cm, .int .i64 x.lost, .int .i64 x.built, .int .i64 x.seq, .int .i64 x.tail, .int .i64 x.gen, .slice ad ds.length cd, .int .i64 x.fuse, .bool x.down, .bool x.broken] 33)) 33 #[.int .i64 0, .int .i64 0, .int .i64 0, .slice none 0 0, .int .i64 0, .int .i64 0, .int .i64 0, .int .i64 0, .int .i64 0, .slice none 0 0, .int .i64 0, .bool false, .bool false]
  rw [World.size_alloc] at R0
  have zX := X0.lt
  have zR := R0.lt
  have r0 := h0.below hA
  have r1 := h1.below hA
  have hzW : ((w.alloc (.cells #[.int .i64 x.id, .int .i64 x.n, .int .i64 x.s, .slice am ms.length cm, .int .i64 x.lost, .int .i64 x.built, .int .i64 x.seq, .int .i64 x.tail, .int .i64 x.gen, .slice ad ds.length cd, .int .i64 x.fuse, .bool x.down, .bool x.broken] 33)).alloc (.cells #[.int .i64 0, .int .i64 0, .int .i64 0, .slice none 0 0, .int .i64 0, .int .i64 0, .int .i64 0, .int .i64 0, .int .i64 0, .slice none 0 0, .int .i64 0, .bool false, .bool false] 33)).heap.size = w.heap.size + 1 + 1 := by simp
  obtain ⟨k0, k1, k2, k3, k4, k5, k6, k7, k8, k9, k10, k11, k12⟩ := X0.cells13
  go_enter Tryz.func14, Tryz.ntmps14
  go_wp2_with fail
  generalize (w.alloc (.cells #[.int .i64 x.id, .int .i64 x.n, .int .i64 x.s, .slice am ms.length cm, .int .i64 x.lost, .int .i64 x.built, .int .i64 x.seq, .int .i64 x.tail, .int .i64 x.gen, .slice ad ds.length cd, .int .i64 x.fuse, .bool x.down, .bool x.broken] 33)).alloc (.cells #[.int .i64 0, .int .i64 0, .int .i64 0, .slice none 0 0, .int .i64 0, .int .i64 0, .int .i64 0, .int .i64 0, .int .i64 0, .slice none 0 0, .int .i64 0, .bool false, .bool false] 33) = W at hA X0 R0 zX zR r0 r1 hzW k0 k1 k2 k3 k4 k5 k6 k7 k8 k9 k10 k11 k12 ⊢
  obtain ⟨BR, hBR⟩ : ∃ BR, w.heap.size + 1 = BR := ⟨_, rfl⟩
  rw [hBR] at R0 zR hzW ⊢
  have q1 : w.heap.size + 1 ≤ BR ∧ BR ≤ w.heap.size + 1 := by omega
  clear hBR
  refine (implArrOk_any _ E F G x _ _ _ _ _ _ ms ds r0 r1 hw).mono ?_
  rintro e w1 ⟨rfl, b1⟩
  have X1 := X0.below b1 zX
  have R1 := R0.below b1 zR
  have p0 := r0.below b1
  have p1 := r1.below b1
  have B1 := Below.andThen hA b1
  have z1 := b1.size
  clear k0 k1 k2 k3 k4 k5 k6 k7 k8 k9 k10 k11 k12 X0 R0 r0 r1 b1 hA
  obtain ⟨k0, k1, k2, k3, k4, k5, k6, k7, k8, k9, k10, k11, k12⟩ := X1.cells13
  have HD : Hid (checkO x ms ds = if (arrB x ms ds && !x.down && decide (x.gen < 60000)) = true then checkS (x, ms) else (x, ms)) := rfl
  cases ha : arrB x ms ds
  · have HV : Hid (checkO x ms ds = (x, ms)) := by unfold Hid; rw [HD.out, if_neg (by simp [ha])]
    go_wp2_with fail
    refine (copyArr_any _ E F G x _ _ _ _ _ _ ms ds p0 p1 hw).mono ?_
    rintro e w2 ⟨vm, cvm, vd, cvd, m, rfl, om, od, zm, zm2, b2⟩
    have R2 := R1.below b2 (by omega)
    have B2 := Below.andThen B1 b2
    obtain ⟨fm, mm, rm⟩ := om.mine
    obtain ⟨fd, md, rd⟩ := od.mine
    have hr2 : ∀ b ∈ fm, b ∉ fd := fun b hb hb' => by have h1 := rm b hb; have h2 := rd b hb'; omega
    clear X1 R1 B1 p0 p1 b2 om od k0 k1 k2 k3 k4 k5 k6 k7 k8 k9 k10 k11 k12
    obtain ⟨s0, s1, s2, s3, s4, s5, s6, s7, s8, s9, s10, s11, s12⟩ := R2.cells13
    have fz := R2.frozen
    have HO := hidden (arr_out (y := x) (ns := ms) (e := .returned (.agg (arrC x _ _))) (lo := BR + 1) B2 R2 rfl mm md hr2 (fun b hb => by have := rm b hb; omega) (fun b hb => by have := rd b hb; omega) (by omega) (by omega))
    unfold arrC at HO
    simp only [puts] at HO
    clear B2 R2 mm md
    go_wp2
    refine bodyPost_ret (v := .agg #[.int .i64 x.id, .int .i64 x.n, .int .i64 x.s, .slice vm ms.length cvm, .int .i64 x.lost, .int .i64 x.built, .int .i64 x.seq, .int .i64 x.tail, .int .i64 x.gen, .slice vd ds.length cvd, .int .i64 x.fuse, .bool x.down, .bool x.broken]) (by simp [results, Tryz.results14, go_sem, s0, s1, s2, s3, s4, s5, s6, s7, s8, s9, s10, s11, s12]) rfl ?_
    rw [HV.out]; exact HO.out
  · obtain ⟨fc, mk, gc0, gc1⟩ := arr_facts ha
    cases hdn : x.down
    · have HX : Hid (x = {x with down := false}) := by unfold Hid; rw [← hdn]
      rw [hdn] at k11
      by_cases hgg : x.gen < 60000
      · have hg6 : (x.gen == 60000) = false := by simp; omega
        have HV : Hid (checkO x ms ds = checkS ({x with down := false}, ms)) := by unfold Hid; rw [← HX.out, HD.out, if_pos (by simp [ha, hdn, hgg])]
        have hlen := arr_len ha
        clear hdn
        have WK : Hid (∀ (w' : World) (B : Nat) (fm fd : List Nat), Below w1.heap.size w1 w' → w1.heap.size ≤ B → ArrAt w' B {x with down := false} ms ds fm fd → (∀ b ∈ fm, w1.heap.size ≤ b) → (∀ b ∈ fd, w1.heap.size ≤ b) → Calls Tryz.prog 40 (#[.pointer (some ⟨B, 0, none⟩)] ++ #[]) w' (Did w' B fm ds fd (checkS ({x with down := false}, ms)))) := fun w' B fm fd _ _ hA _ _ => checkDisks_any w' B _ ms ds fm fd hA ha rfl hgg
        go_wp2_with fail
        refine (worked_any _ E F G {x with down := false} _ _ _ _ _ _ ms ds p0 p1 hw 40 #[] (checkS ({x with down := false}, ms)) (fun B => enters_of Tryz.func40 (by kernel_rfl) (by kernel_rfl) _) WK.out).mono ?_
        rintro e w2 hq
        generalize checkS ({x with down := false}, ms) = st at hq HV
        obtain ⟨y, ns⟩ := st
        obtain ⟨vm, vd, cvm, cvd, rfl, hin, b2⟩ := hq
        dsimp only at hin ⊢
        obtain ⟨fm, fd, mm, md, hr2, rm, rd⟩ := hin
        have R2 := R1.below b2 (by omega)
        have B2 := Below.andThen B1 b2
        unfold arrC
        clear X1 R1 B1 p0 p1 b2 WK k0 k1 k2 k3 k4 k5 k6 k7 k8 k9 k10 k11 k12
        obtain ⟨s0, s1, s2, s3, s4, s5, s6, s7, s8, s9, s10, s11, s12⟩ := R2.cells13
        have fz := R2.frozen
        have HO := hidden (arr_out (y := y) (ns := ns) (e := .returned (.agg (arrC y _ _))) (lo := BR + 1) B2 R2 rfl mm md hr2 (fun b hb => by have := rm b hb; omega) (fun b hb => by have := rd b hb; omega) (by omega) (by omega))
        unfold arrC at HO
        simp only [puts] at HO
        clear B2 R2 mm md
        go_wp2
        refine bodyPost_ret (v := .agg #[.int .i64 y.id, .int .i64 y.n, .int .i64 y.s, .slice vm ns.length cvm, .int .i64 y.lost, .int .i64 y.built, .int .i64 y.seq, .int .i64 y.tail, .int .i64 y.gen, .slice vd ds.length cvd, .int .i64 y.fuse, .bool y.down, .bool y.broken]) (by simp [results, Tryz.results14, go_sem, s0, s1, s2, s3, s4, s5, s6, s7, s8, s9, s10, s11, s12]) rfl ?_
        rw [HV.out]; exact HO.out
      · have HV : Hid (checkO x ms ds = ({x with down := false}, ms)) := by unfold Hid; rw [← HX.out, HD.out, if_neg (by simp; omega)]
        have hg6 : x.gen = 60000 := by omega
        have k8g := k8
        have hg7 : (x.gen == 60000) = true := by simpa using hg6
        clear hg6 k8g hdn
        go_wp2_with fail
        refine (copyArr_any _ E F G {x with down := false} _ _ _ _ _ _ ms ds p0 p1 hw).mono ?_
        rintro e w2 ⟨vm, cvm, vd, cvd, m, rfl, om, od, zm, zm2, b2⟩
        have R2 := R1.below b2 (by omega)
        have B2 := Below.andThen B1 b2
        obtain ⟨fm, mm, rm⟩ := om.mine
        obtain ⟨fd, md, rd⟩ := od.mine
        have hr2 : ∀ b ∈ fm, b ∉ fd := fun b hb hb' => by have h1 := rm b hb; have h2 := rd b hb'; omega
        clear X1 R1 B1 p0 p1 b2 om od k0 k1 k2 k3 k4 k5 k6 k7 k8 k9 k10 k11 k12
        obtain ⟨s0, s1, s2, s3, s4, s5, s6, s7, s8, s9, s10, s11, s12⟩ := R2.cells13
        have fz := R2.frozen
        have HO := hidden (arr_out (y := {x with down := false}) (ns := ms) (e := .returned (.agg (arrC {x with down := false} _ _))) (lo := BR + 1) B2 R2 rfl mm md hr2 (fun b hb => by have := rm b hb; omega) (fun b hb => by have := rd b hb; omega) (by omega) (by omega))
        unfold arrC at HO
        simp only [puts] at HO
        clear B2 R2 mm md
        go_wp2
        refine bodyPost_ret (v := .agg #[.int .i64 x.id, .int .i64 x.n, .int .i64 x.s, .slice vm ms.length cvm, .int .i64 x.lost, .int .i64 x.built, .int .i64 x.seq, .int .i64 x.tail, .int .i64 x.gen, .slice vd ds.length cvd, .int .i64 x.fuse, .bool false, .bool x.broken]) (by simp [results, Tryz.results14, go_sem, s0, s1, s2, s3, s4, s5, s6, s7, s8, s9, s10, s11, s12]) rfl ?_
        rw [HV.out]; exact HO.out
    · have HX : Hid (x = {x with down := true}) := by unfold Hid; rw [← hdn]
      have HV : Hid (checkO x ms ds = ({x with down := true}, ms)) := by unfold Hid; rw [← HX.out, HD.out, if_neg (by simp [hdn])]
      rw [hdn] at k11
      clear hdn
      go_wp2_with fail
      refine (copyArr_any _ E F G {x with down := true} _ _ _ _ _ _ ms ds p0 p1 hw).mono ?_
      rintro e w2 ⟨vm, cvm, vd, cvd, m, rfl, om, od, zm, zm2, b2⟩
      have R2 := R1.below b2 (by omega)
      have B2 := Below.andThen B1 b2
      obtain ⟨fm, mm, rm⟩ := om.mine
      obtain ⟨fd, md, rd⟩ := od.mine
      have hr2 : ∀ b ∈ fm, b ∉ fd := fun b hb hb' => by have h1 := rm b hb; have h2 := rd b hb'; omega
      clear X1 R1 B1 p0 p1 b2 om od k0 k1 k2 k3 k4 k5 k6 k7 k8 k9 k10 k11 k12
      obtain ⟨s0, s1, s2, s3, s4, s5, s6, s7, s8, s9, s10, s11, s12⟩ := R2.cells13
      have fz := R2.frozen
      have HO := hidden (arr_out (y := {x with down := true}) (ns := ms) (e := .returned (.agg (arrC {x with down := true} _ _))) (lo := BR + 1) B2 R2 rfl mm md hr2 (fun b hb => by have := rm b hb; omega) (fun b hb => by have := rd b hb; omega) (by omega) (by omega))
      unfold arrC at HO
      simp only [puts] at HO
      clear B2 R2 mm md
      go_wp2
      refine bodyPost_ret (v := .agg #[.int .i64 x.id, .int .i64 x.n, .int .i64 x.s, .slice vm ms.length cvm, .int .i64 x.lost, .int .i64 x.built, .int .i64 x.seq, .int .i64 x.tail, .int .i64 x.gen, .slice vd ds.length cvd, .int .i64 x.fuse, .bool true, .bool x.broken]) (by simp [results, Tryz.results14, go_sem, s0, s1, s2, s3, s4, s5, s6, s7, s8, s9, s10, s11, s12]) rfl ?_
      rw [HV.out]; exact HO.out

end Go.Proofs.YthkpkpclmemodaaGreat

/-
  The walk of the specification's l6Copy: the same array in memory of its own. Condition: it weighs at most 2097152.
-/
namespace Go.Proofs.YthkpkpclmemodaaGreat
open Go.RowKit

set_option linter.unusedSimpArgs false in
set_option maxRecDepth 20000 in
set_option maxHeartbeats 4000000 in
theorem l6Copy_any (w : World) (E F G : TypeId) (x : ArrN) (am ad : Option Addr) (nm cm nd cd : Nat) (ms : List MemD) (ds : List (Int × List Int)) (h0 : (tMemS E F).Rd w [.slice am nm cm] ms) (h1 : (tWrS G).Rd w [.slice ad nd cd] ds) (hw : wtArr ms ds ≤ 2097152) :
    Calls Tryz.prog 22 #[.agg #[.int .i64 x.id, .int .i64 x.n, .int .i64 x.s, .slice am nm cm, .int .i64 x.lost, .int .i64 x.built, .int .i64 x.seq, .int .i64 x.tail, .int .i64 x.gen, .slice ad nd cd, .int .i64 x.fuse, .bool x.down, .bool x.broken]] w fun e w' => ∃ bm cm' bd cd' m, e = .returned (.agg #[.int .i64 x.id, .int .i64 x.n, .int .i64 x.s, .slice bm nm cm', .int .i64 x.lost, .int .i64 x.built, .int .i64 x.seq, .int .i64 x.tail, .int .i64 x.gen, .slice bd nd cd', .int .i64 x.fuse, .bool x.down, .bool x.broken]) ∧ (tMemS 104 73).Own w' w.heap.size m [.slice bm nm cm'] ms ∧ (tWrS 75).Own w' m w'.heap.size [.slice bd nd cd'] ds ∧ w.heap.size ≤ m ∧ m ≤ w'.heap.size ∧ Below w.heap.size w w' := by
  have hwm : wtMemS ms ≤ 2097152 := by unfold wtArr at hw; omega
  have hwd : wtWrS ds ≤ 2097152 := by unfold wtArr at hw; omega
  obtain ⟨hl0, _, hm0⟩ := row_length h0
  obtain ⟨hl1, _, hm1⟩ := row_length h1
  have hn0 : nm ≤ 2097152 := by unfold wtMemS at hwm; omega
  have hn1 : nd ≤ 2097152 := by unfold wtWrS at hwd; omega
  obtain ⟨i3, hi3, hx0, hx1, hx2⟩ := info_parts Tryz.info3
  obtain ⟨i1, hi1, hy0, hy1, hy2⟩ := info_parts Tryz.infoEnt
  obtain ⟨i4, hi4, hz0, hz1, hz2⟩ := info_parts Tryz.infoMem
  have zz : ∀ u : World, ∀ ob : Obj, (u.alloc ob).heap.size = u.heap.size + 1 := fun u ob => by simp
  have xm : Box ((((w.alloc (.cells #[.int .i64 x.id, .int .i64 x.n, .int .i64 x.s, .slice am nm cm, .int .i64 x.lost, .int .i64 x.built, .int .i64 x.seq, .int .i64 x.tail, .int .i64 x.gen, .slice ad nd cd, .int .i64 x.fuse, .bool x.down, .bool x.broken] 33)).alloc (.cells #[.int .i64 0, .int .i64 0, .int .i64 0, .slice none 0 0, .int .i64 0, .int .i64 0, .int .i64 0, .int .i64 0, .int .i64 0, .slice none 0 0, .int .i64 0, .bool false, .bool false] 33)).alloc (.cells #[.int .i64 x.id, .int .i64 x.n, .int .i64 x.s, .slice (some ⟨w.heap.size + 1 + 1 + 1, 0, none⟩) 0 0, .int .i64 x.lost, .int .i64 x.built, .int .i64 x.seq, .int .i64 x.tail, .int .i64 x.gen, .slice ad nd cd, .int .i64 x.fuse, .bool x.down, .bool x.broken] 33)).alloc (.cells #[] 73)) (w.heap.size) 33 #[.int .i64 x.id, .int .i64 x.n, .int .i64 x.s, .slice am nm cm, .int .i64 x.lost, .int .i64 x.built, .int .i64 x.seq, .int .i64 x.tail, .int .i64 x.gen, .slice ad nd cd, .int .i64 x.fuse, .bool x.down, .bool x.broken] := (((Box.new w _ _).alloc _).alloc _).alloc _
  have xr0 := Box.new (w.alloc (.cells #[.int .i64 x.id, .int .i64 x.n, .int .i64 x.s, .slice am nm cm, .int .i64 x.lost, .int .i64 x.built, .int .i64 x.seq, .int .i64 x.tail, .int .i64 x.gen, .slice ad nd cd, .int .i64 x.fuse, .bool x.down, .bool x.broken] 33)) 33 #[.int .i64 0, .int .i64 0, .int .i64 0, .slice none 0 0, .int .i64 0, .int .i64 0, .int .i64 0, .int .i64 0, .int .i64 0, .slice none 0 0, .int .i64 0, .bool false, .bool false]
  rw [zz] at xr0
  have xr : Box ((((w.alloc (.cells #[.int .i64 x.id, .int .i64 x.n, .int .i64 x.s, .slice am nm cm, .int .i64 x.lost, .int .i64 x.built, .int .i64 x.seq, .int .i64 x.tail, .int .i64 x.gen, .slice ad nd cd, .int .i64 x.fuse, .bool x.down, .bool x.broken] 33)).alloc (.cells #[.int .i64 0, .int .i64 0, .int .i64 0, .slice none 0 0, .int .i64 0, .int .i64 0, .int .i64 0, .int .i64 0, .int .i64 0, .slice none 0 0, .int .i64 0, .bool false, .bool false] 33)).alloc (.cells #[.int .i64 x.id, .int .i64 x.n, .int .i64 x.s, .slice (some ⟨w.heap.size + 1 + 1 + 1, 0, none⟩) 0 0, .int .i64 x.lost, .int .i64 x.built, .int .i64 x.seq, .int .i64 x.tail, .int .i64 x.gen, .slice ad nd cd, .int .i64 x.fuse, .bool x.down, .bool x.broken] 33)).alloc (.cells #[] 73)) (w.heap.size + 1) 33 #[.int .i64 0, .int .i64 0, .int .i64 0, .slice none 0 0, .int .i64 0, .int .i64 0, .int .i64 0, .int .i64 0, .int .i64 0, .slice none 0 0, .int .i64 0, .bool false, .bool false] := (xr0.alloc _).alloc _
  have xo0 := Box.new ((w.alloc (.cells #[.int .i64 x.id, .int .i64 x.n, .int .i64 x.s, .slice am nm cm, .int .i64 x.lost, .int .i64 x.built, .int .i64 x.seq, .int .i64 x.tail, .int .i64 x.gen, .slice ad nd cd, .int .i64 x.fuse, .bool x.down, .bool x.broken] 33)).alloc (.cells #[.int .i64 0, .int .i64 0, .int .i64 0, .slice none 0 0, .int .i64 0, .int .i64 0, .int .i64 0, .int .i64 0, .int .i64 0, .slice none 0 0, .int .i64 0, .bool false, .bool false] 33)) 33 #[.int .i64 x.id, .int .i64 x.n, .int .i64 x.s, .slice (some ⟨w.heap.size + 1 + 1 + 1, 0, none⟩) 0 0, .int .i64 x.lost, .int .i64 x.built, .int .i64 x.seq, .int .i64 x.tail, .int .i64 x.gen, .slice ad nd cd, .int .i64 x.fuse, .bool x.down, .bool x.broken]
  rw [zz, zz] at xo0
  have xo : Box ((((w.alloc (.cells #[.int .i64 x.id, .int .i64 x.n, .int .i64 x.s, .slice am nm cm, .int .i64 x.lost, .int .i64 x.built, .int .i64 x.seq, .int .i64 x.tail, .int .i64 x.gen, .slice ad nd cd, .int .i64 x.fuse, .bool x.down, .bool x.broken] 33)).alloc (.cells #[.int .i64 0, .int .i64 0, .int .i64 0, .slice none 0 0, .int .i64 0, .int .i64 0, .int .i64 0, .int .i64 0, .int .i64 0, .slice none 0 0, .int .i64 0, .bool false, .bool false] 33)).alloc (.cells #[.int .i64 x.id, .int .i64 x.n, .int .i64 x.s, .slice (some ⟨w.heap.size + 1 + 1 + 1, 0, none⟩) 0 0, .int .i64 x.lost, .int .i64 x.built, .int .i64 x.seq, .int .i64 x.tail, .int .i64 x.gen, .slice ad nd cd, .int .i64 x.fuse, .bool x.down, .bool x.broken] 33)).alloc (.cells #[] 73)) (w.heap.size + 1 + 1) 33 #[.int .i64 x.id, .int .i64 x.n, .int .i64 x.s, .slice (some ⟨w.heap.size + 1 + 1 + 1, 0, none⟩) 0 0, .int .i64 x.lost, .int .i64 x.built, .int .i64 x.seq, .int .i64 x.tail, .int .i64 x.gen, .slice ad nd cd, .int .i64 x.fuse, .bool x.down, .bool x.broken] := xo0.alloc _
  have ml := lit0_mine (t := tMem 104) (E := 73) (((w.alloc (.cells #[.int .i64 x.id, .int .i64 x.n, .int .i64 x.s, .slice am nm cm, .int .i64 x.lost, .int .i64 x.built, .int .i64 x.seq, .int .i64 x.tail, .int .i64 x.gen, .slice ad nd cd, .int .i64 x.fuse, .bool x.down, .bool x.broken] 33)).alloc (.cells #[.int .i64 0, .int .i64 0, .int .i64 0, .slice none 0 0, .int .i64 0, .int .i64 0, .int .i64 0, .int .i64 0, .int .i64 0, .slice none 0 0, .int .i64 0, .bool false, .bool false] 33)).alloc (.cells #[.int .i64 x.id, .int .i64 x.n, .int .i64 x.s, .slice (some ⟨w.heap.size + 1 + 1 + 1, 0, none⟩) 0 0, .int .i64 x.lost, .int .i64 x.built, .int .i64 x.seq, .int .i64 x.tail, .int .i64 x.gen, .slice ad nd cd, .int .i64 x.fuse, .bool x.down, .bool x.broken] 33))
  rw [zz, zz, zz] at ml
  have hB : Below (w.heap.size) w ((((w.alloc (.cells #[.int .i64 x.id, .int .i64 x.n, .int .i64 x.s, .slice am nm cm, .int .i64 x.lost, .int .i64 x.built, .int .i64 x.seq, .int .i64 x.tail, .int .i64 x.gen, .slice ad nd cd, .int .i64 x.fuse, .bool x.down, .bool x.broken] 33)).alloc (.cells #[.int .i64 0, .int .i64 0, .int .i64 0, .slice none 0 0, .int .i64 0, .int .i64 0, .int .i64 0, .int .i64 0, .int .i64 0, .slice none 0 0, .int .i64 0, .bool false, .bool false] 33)).alloc (.cells #[.int .i64 x.id, .int .i64 x.n, .int .i64 x.s, .slice (some ⟨w.heap.size + 1 + 1 + 1, 0, none⟩) 0 0, .int .i64 x.lost, .int .i64 x.built, .int .i64 x.seq, .int .i64 x.tail, .int .i64 x.gen, .slice ad nd cd, .int .i64 x.fuse, .bool x.down, .bool x.broken] 33)).alloc (.cells #[] 73)) := ((((Below.refl _ _).alloc (Nat.le_refl _) _).alloc (by simp) _).alloc (by simp; omega) _).alloc (by simp; omega) _
  have hz : w.heap.size + 1 + 1 + 1 < ((((w.alloc (.cells #[.int .i64 x.id, .int .i64 x.n, .int .i64 x.s, .slice am nm cm, .int .i64 x.lost, .int .i64 x.built, .int .i64 x.seq, .int .i64 x.tail, .int .i64 x.gen, .slice ad nd cd, .int .i64 x.fuse, .bool x.down, .bool x.broken] 33)).alloc (.cells #[.int .i64 0, .int .i64 0, .int .i64 0, .slice none 0 0, .int .i64 0, .int .i64 0, .int .i64 0, .int .i64 0, .int .i64 0, .slice none 0 0, .int .i64 0, .bool false, .bool false] 33)).alloc (.cells #[.int .i64 x.id, .int .i64 x.n, .int .i64 x.s, .slice (some ⟨w.heap.size + 1 + 1 + 1, 0, none⟩) 0 0, .int .i64 x.lost, .int .i64 x.built, .int .i64 x.seq, .int .i64 x.tail, .int .i64 x.gen, .slice ad nd cd, .int .i64 x.fuse, .bool x.down, .bool x.broken] 33)).alloc (.cells #[] 73)).heap.size := by simp
  clear xr0 xo0 zz
  go_enter Tryz.func22, Tryz.ntmps22
  go_wp2
  generalize (((w.alloc (.cells #[.int .i64 x.id, .int .i64 x.n, .int .i64 x.s, .slice am nm cm, .int .i64 x.lost, .int .i64 x.built, .int .i64 x.seq, .int .i64 x.tail, .int .i64 x.gen, .slice ad nd cd, .int .i64 x.fuse, .bool x.down, .bool x.broken] 33)).alloc (.cells #[.int .i64 0, .int .i64 0, .int .i64 0, .slice none 0 0, .int .i64 0, .int .i64 0, .int .i64 0, .int .i64 0, .int .i64 0, .slice none 0 0, .int .i64 0, .bool false, .bool false] 33)).alloc (.cells #[.int .i64 x.id, .int .i64 x.n, .int .i64 x.s, .slice (some ⟨w.heap.size + 1 + 1 + 1, 0, none⟩) 0 0, .int .i64 x.lost, .int .i64 x.built, .int .i64 x.seq, .int .i64 x.tail, .int .i64 x.gen, .slice ad nd cd, .int .i64 x.fuse, .bool x.down, .bool x.broken] 33)).alloc (.cells #[] 73) = W2 at xm xr xo ml hB hz ⊢
  obtain ⟨LB, hLB⟩ : ∃ LB, w.heap.size + 1 + 1 + 1 = LB := ⟨_, rfl⟩
  rw [hLB] at xo ml hz ⊢
  have q3 : w.heap.size + 1 + 1 + 1 ≤ LB ∧ LB ≤ w.heap.size + 1 + 1 + 1 := by omega
  clear hLB
  obtain ⟨BO, hBO⟩ : ∃ BO, w.heap.size + 1 + 1 = BO := ⟨_, rfl⟩
  rw [hBO] at xo ⊢
  have q2 : w.heap.size + 1 + 1 ≤ BO ∧ BO ≤ w.heap.size + 1 + 1 := by omega
  clear hBO
  obtain ⟨BR, hBR⟩ : ∃ BR, w.heap.size + 1 = BR := ⟨_, rfl⟩
  rw [hBR] at xr ⊢
  have q1 : w.heap.size + 1 ≤ BR ∧ BR ≤ w.heap.size + 1 := by omega
  clear hBR
  have XM2 := hidden xm
  have XR2 := hidden xr
  have XO2 := hidden xo
  have ML2 := hidden ml
  have HB2 := hidden hB
  clear xm xr xo ml hB
  go_loopw [4] (fun i wr => ∃ (j : Nat) (v0 : Value) (fp0 : List Nat), j ≤ nm ∧ i = .int .i64 j ∧ Fr LB BO W2 wr ∧ Box wr BO 33 #[.int .i64 x.id, .int .i64 x.n, .int .i64 x.s, v0, .int .i64 x.lost, .int .i64 x.built, .int .i64 x.seq, .int .i64 x.tail, .int .i64 x.gen, .slice ad nd cd, .int .i64 x.fuse, .bool x.down, .bool x.broken] ∧ (tMemS 104 73).Mine wr [v0] (ms.take j) fp0 ∧ (∀ b ∈ fp0, LB ≤ b)) (fun i _ => nm - (intOf i).toNat)
  case atStart => exact ⟨0, _, [LB], Nat.zero_le _, rfl, Fr.refl _ _ _, XO2.out, ML2.out, by simp⟩
  case round =>
    obtain ⟨j, v0, fp0, hj, rfl, fr, xo, hm, hfp⟩ := hrel
    have hs := fr.size
    have xm := fr.box XM2.out (by omega) (by omega)
    have hb := HB2.out.trans (fr.below (M := w.heap.size) (by omega) (by omega))
    have c3 : wr.cell? ⟨w.heap.size, 3, none⟩ = some (.slice am nm cm) := xm.cell 3
    by_cases hjn : j < nm
    · rcases quads_at rfl h0 with h0' | ⟨b, off, rfl, hbl, hcs⟩
      · omega
      have hdj : ms[j]? = some (ms[j]'(by omega)) := List.getElem?_eq_getElem (by omega)
      have htk : ms.take (j + 1) = ms.take j ++ [ms[j]'(by omega)] := List.take_succ_eq_append_getElem (by omega)
      generalize ms[j]'(by omega) = d at hdj htk
      have hin := Nat.le_trans (inner_leM hdj) hwm
      obtain ⟨u0, u1, u2, u3, hv0, hv1, hv2, hv3, hrv⟩ := hcs j d hdj
      obtain ⟨a0, c0, a1, c1, a3, c3', ss, cs, f, bs, rfl, rfl, rfl, rfl, rfl, r0, r1, r3⟩ := mem_at hrv
      have pv0 := (hb.cell (p := ⟨b, off + j * 4, none⟩) hbl).trans hv0
      have pv1 := (hb.cell (p := ⟨b, off + j * 4 + 1, none⟩) hbl).trans hv1
      have pv2 := (hb.cell (p := ⟨b, off + j * 4 + 2, none⟩) hbl).trans hv2
      have pv3 := (hb.cell (p := ⟨b, off + j * 4 + 3, none⟩) hbl).trans hv3
      have R0 := hidden (r0.below hb)
      have R1 := hidden (r1.below hb)
      have R3 := hidden (r3.below hb)
      have k1 : (0 : Int) ≤ (j : Int) := by omega
      have k2 : (j : Int) < (nm : Int) := by omega
      have HTK := hidden htk
      have XO := hidden xo
      have XMR := hidden xm
      have FRR := hidden fr
      have HM := hidden hm
      have HFP := hidden hfp
      have HL : Hid ((ms.take j).length = j) := by unfold Hid; rw [List.length_take]; omega
      have L1 : Hid ((ms.take j).length + 1 ≤ maxLen) := by unfold Hid; rw [HL.out]; unfold maxLen; omega
      have L2 : Hid (((ms.take j).length + 1) * 80 ≤ 140737488355328) := by unfold Hid; rw [HL.out]; omega
      have mk : Hid (∀ w', Box w' BO 33 #[.int .i64 x.id, .int .i64 x.n, .int .i64 x.s, v0, .int .i64 x.lost, .int .i64 x.built, .int .i64 x.seq, .int .i64 x.tail, .int .i64 x.gen, .slice ad nd cd, .int .i64 x.fuse, .bool x.down, .bool x.broken] → Box w' w.heap.size 33 #[.int .i64 x.id, .int .i64 x.n, .int .i64 x.s, .slice (some ⟨b, off, none⟩) nm cm, .int .i64 x.lost, .int .i64 x.built, .int .i64 x.seq, .int .i64 x.tail, .int .i64 x.gen, .slice ad nd cd, .int .i64 x.fuse, .bool x.down, .bool x.broken] → w'.heap[b]? = wr.heap[b]? → w'.cell? ⟨BO, 3, none⟩ = some (v0) ∧ w'.cell? ⟨w.heap.size, 3, none⟩ = some (.slice (some ⟨b, off, none⟩) nm cm) ∧ w'.cell? ⟨b, off + j * 4, none⟩ = some (.slice a0 ss.length c0) ∧ w'.cell? ⟨b, off + j * 4 + 1, none⟩ = some (.slice a1 cs.length c1) ∧ w'.cell? ⟨b, off + j * 4 + 2, none⟩ = some (.bool f) ∧ w'.cell? ⟨b, off + j * 4 + 3, none⟩ = some (.slice a3 bs.length c3')) := fun w' h1 h2 h3 => ⟨h1.cell 3, h2.cell 3, (World.cell?_of_block (w := wr) h3).trans pv0, (World.cell?_of_block (w := wr) h3).trans pv1, (World.cell?_of_block (w := wr) h3).trans pv2, (World.cell?_of_block (w := wr) h3).trans pv3⟩
      have hS : wr.drew.cell? ⟨BO, 3, none⟩ = some (v0) ∧ wr.drew.cell? ⟨w.heap.size, 3, none⟩ = some (.slice (some ⟨b, off, none⟩) nm cm) ∧ wr.drew.cell? ⟨b, off + j * 4, none⟩ = some (.slice a0 ss.length c0) ∧ wr.drew.cell? ⟨b, off + j * 4 + 1, none⟩ = some (.slice a1 cs.length c1) ∧ wr.drew.cell? ⟨b, off + j * 4 + 2, none⟩ = some (.bool f) ∧ wr.drew.cell? ⟨b, off + j * 4 + 3, none⟩ = some (.slice a3 bs.length c3') := mk.out wr.drew xo xm rfl
      have zb : b < wr.heap.size := by have := hb.size; omega
      have zLB : LB < wr.heap.size := by omega
      clear hcs hdj hv0 hv1 hv2 hv3 hrv htk xo xm hm hfp hb fr pv0 pv1 pv2 pv3 r0 r1 r3
      go_wp2_with fail
      refine Upto.start (S := fun w' => w'.cell? ⟨BO, 3, none⟩ = some (v0) ∧ w'.cell? ⟨w.heap.size, 3, none⟩ = some (.slice (some ⟨b, off, none⟩) nm cm) ∧ w'.cell? ⟨b, off + j * 4, none⟩ = some (.slice a0 ss.length c0) ∧ w'.cell? ⟨b, off + j * 4 + 1, none⟩ = some (.slice a1 cs.length c1) ∧ w'.cell? ⟨b, off + j * 4 + 2, none⟩ = some (.bool f) ∧ w'.cell? ⟨b, off + j * 4 + 3, none⟩ = some (.slice a3 bs.length c3')) (k := 11) (by kernel_rfl) ?_
      refine Upto.take (i := 0) (v := ?_) rfl (by kernel_rfl) (by kernel_rfl) (by kernel_rfl) (by kernel_rfl) (fun _ _ _ h => h) (Or.inl ⟨by rfl, ?_⟩) hS ?_
      rotate_left 1
      · (intro w hSw; (try dsimp only at hSw); go_split_ands; go_simp; first | done | with_reducible rfl)
      simp only [Act.put, List.setIfInBounds_toArray, List.set_cons_zero, List.set_cons_succ]
      refine Upto.take (i := 1) (v := ?_) rfl (by kernel_rfl) (by kernel_rfl) (by kernel_rfl) (by kernel_rfl) (fun _ _ _ h => h) (Or.inl ⟨by rfl, ?_⟩) hS ?_
      rotate_left 1
      · (intro w hSw; (try dsimp only at hSw); go_split_ands; go_simp; first | done | with_reducible rfl)
      simp only [Act.put, List.setIfInBounds_toArray, List.set_cons_zero, List.set_cons_succ]
      refine Upto.take (i := 2) (v := ?_) rfl (by kernel_rfl) (by kernel_rfl) (by kernel_rfl) (by kernel_rfl) (fun _ _ _ h => h) (Or.inl ⟨by rfl, ?_⟩) hS ?_
      rotate_left 1
      · (intro w hSw; (try dsimp only at hSw); go_split_ands; go_simp; first | done | with_reducible rfl)
      simp only [Act.put, List.setIfInBounds_toArray, List.set_cons_zero, List.set_cons_succ]
      refine Upto.take (i := 3) (v := ?_) rfl (by kernel_rfl) (by kernel_rfl) (by kernel_rfl) (by kernel_rfl) (fun _ _ _ h => h) (Or.inl ⟨by rfl, ?_⟩) hS ?_
      rotate_left 1
      · (intro w hSw; (try dsimp only at hSw); go_split_ands; go_simp; first | done | with_reducible rfl)
      simp only [Act.put, List.setIfInBounds_toArray, List.set_cons_zero, List.set_cons_succ]
      refine Upto.take (i := 4) (v := ?_) rfl (by kernel_rfl) (by kernel_rfl) (by kernel_rfl) (by kernel_rfl) (fun _ _ _ h => h) (Or.inl ⟨by rfl, ?_⟩) hS ?_
      rotate_left 1
      · (intro w hSw; (try dsimp only at hSw); go_split_ands; go_simp; first | done | with_reducible rfl)
      simp only [Act.put, List.setIfInBounds_toArray, List.set_cons_zero, List.set_cons_succ]
      refine Upto.take (i := 5) (v := ?_) rfl (by kernel_rfl) (by kernel_rfl) (by kernel_rfl) (by kernel_rfl) (fun _ _ _ h => h) (Or.inl ⟨by rfl, ?_⟩) hS ?_
      rotate_left 1
      · (intro w hSw; (try dsimp only at hSw); go_split_ands; go_simp; first | done | with_reducible rfl)
      simp only [Act.put, List.setIfInBounds_toArray, List.set_cons_zero, List.set_cons_succ]
      refine Upto.take (i := 6) (v := ?_) rfl (by kernel_rfl) (by kernel_rfl) (by kernel_rfl) (by kernel_rfl) (fun _ _ _ h => h) (Or.inl ⟨by rfl, ?_⟩) hS ?_
      rotate_left 1
      · (intro w hSw; (try dsimp only at hSw); go_split_ands; go_simp; first | done | with_reducible rfl)
      simp only [Act.put, List.setIfInBounds_toArray, List.set_cons_zero, List.set_cons_succ]
      refine Upto.one (i := 7) (by kernel_rfl) rfl (fun K hK => ?_)
      go_simp
      refine (l2Copy_any _ E _ _ _ _ _ _ _ _ _ ss cs f bs R0.out.drew R1.out.drew R3.out.drew hin).mono ?_
      rintro e wc ⟨y0, y1, y3, m1, m2, rfl, o3, o0, o1, hm12, hm01, hm22, bc⟩
      have hbc' : Below wr.heap.size wr wc := (Below.refl wr.heap.size wr).drew.trans bc
      have hm01' : wr.heap.size ≤ m1 := hm01
      have om : (tMem 104).Own wc wr.heap.size wc.heap.size [y0, y1, .bool f, y3] (ss, cs, f, bs) := mem_own3 o0 o1 o3 (.inl (Nat.le_refl _)) (.inr (Nat.le_refl _)) (.inr hm12) ⟨by omega, by omega⟩ ⟨by omega, Nat.le_refl _⟩ ⟨Nat.le_refl _, by omega⟩
      obtain ⟨e0, g0, rfl⟩ := row_shape o0.rd
      obtain ⟨e1, g1, rfl⟩ := row_shape o1.rd
      obtain ⟨e3, g3, rfl⟩ := row_shape o3.rd
      obtain ⟨fpx, mx, rx⟩ := om.mine
      have xoc := XO.out.below hbc' (by omega)
      have xmc := XMR.out.below hbc' (by omega)
      have hS3 : wc.cell? ⟨BO, 3, none⟩ = some (v0) ∧ wc.cell? ⟨w.heap.size, 3, none⟩ = some (.slice (some ⟨b, off, none⟩) nm cm) ∧ wc.cell? ⟨b, off + j * 4, none⟩ = some (.slice a0 ss.length c0) ∧ wc.cell? ⟨b, off + j * 4 + 1, none⟩ = some (.slice a1 cs.length c1) ∧ wc.cell? ⟨b, off + j * 4 + 2, none⟩ = some (.bool f) ∧ wc.cell? ⟨b, off + j * 4 + 3, none⟩ = some (.slice a3 bs.length c3') := mk.out wc xoc xmc (hbc'.block b zb)
      have bB := new_below wc (.cells #[.slice e0 ss.length g0, .slice e1 cs.length g1, .bool f, .slice e3 bs.length g3] 73)
      have zc := hbc'.size
      have hS4 : (wc.alloc (.cells #[.slice e0 ss.length g0, .slice e1 cs.length g1, .bool f, .slice e3 bs.length g3] 73)).cell? ⟨BO, 3, none⟩ = some (v0) ∧ (wc.alloc (.cells #[.slice e0 ss.length g0, .slice e1 cs.length g1, .bool f, .slice e3 bs.length g3] 73)).cell? ⟨w.heap.size, 3, none⟩ = some (.slice (some ⟨b, off, none⟩) nm cm) ∧ (wc.alloc (.cells #[.slice e0 ss.length g0, .slice e1 cs.length g1, .bool f, .slice e3 bs.length g3] 73)).cell? ⟨b, off + j * 4, none⟩ = some (.slice a0 ss.length c0) ∧ (wc.alloc (.cells #[.slice e0 ss.length g0, .slice e1 cs.length g1, .bool f, .slice e3 bs.length g3] 73)).cell? ⟨b, off + j * 4 + 1, none⟩ = some (.slice a1 cs.length c1) ∧ (wc.alloc (.cells #[.slice e0 ss.length g0, .slice e1 cs.length g1, .bool f, .slice e3 bs.length g3] 73)).cell? ⟨b, off + j * 4 + 2, none⟩ = some (.bool f) ∧ (wc.alloc (.cells #[.slice e0 ss.length g0, .slice e1 cs.length g1, .bool f, .slice e3 bs.length g3] 73)).cell? ⟨b, off + j * 4 + 3, none⟩ = some (.slice a3 bs.length c3') := mk.out _ (xoc.alloc _) (xmc.alloc _) ((bB.block b (by omega)).trans (hbc'.block b zb))
      have XOC := hidden xoc
      have XMC := hidden xmc
      have MX := hidden mx
      have RX := hidden rx
      have HBC := hidden hbc'
      clear xoc xmc mx rx hbc' bc om o0 o1 o3 hm01 hm01' hm12 hm22 bB R0 R1 R3
      go_wp2_with fail
      refine hK.out _ _ (fun _ => hS3) ?_
      clear hK K
      refine Upto.one (i := 8) (by kernel_rfl) rfl (fun K hK => ?_)
      go_simp
      refine hK.out _ _ (fun _ => hS4) ?_
      clear hK K
      refine Upto.one (i := 9) (by kernel_rfl) rfl (fun K hK => ?_)
      refine step_appT (tMem 104) (by rfl) _ _ 30 (by rfl) 73 i4 (.agg #[.slice none 0 0, .slice none 0 0, .bool false, .slice none 0 0]) 80 Tryz.underlying30 hi4 hz0 hz1 hz2 rfl (by decide) v0 (ms.take j) fp0 (by rfl) ?_ ⟨wc.heap.size, 0, none⟩ 1 [.slice e0 ss.length g0, .slice e1 cs.length g1, .bool f, .slice e3 bs.length g3] (ss, cs, f, bs) fpx (by rfl) ?_ ?_ ?_ ?_ L1.out L2.out ?_
      · exact (HM.out.below HBC.out).alloc _
      · exact MX.out.alloc _
      · intro b hb hb'
        have h1 := HM.out.lt b hb
        have h2 := RX.out b hb'
        omega
      · exact news_new _ _ _
      · intro u hu
        simp at hu
        rcases hu with hu | hu | hu | hu <;> (rw [hu]; rfl)
      intro g cap wA fpA m1 m2 m3
      rw [HL.out] at m1 ⊢
      rw [← HTK.out] at m1
      have ya := (XOC.out.alloc (.cells #[.slice e0 ss.length g0, .slice e1 cs.length g1, .bool f, .slice e3 bs.length g3] 73)).turned m3 (fun hm => by have := HFP.out _ hm; omega)
      have ym := (XMC.out.alloc (.cells #[.slice e0 ss.length g0, .slice e1 cs.length g1, .bool f, .slice e3 bs.length g3] 73)).turned m3 (fun hm => by have := HFP.out _ hm; omega)
      have zB : (wc.alloc (.cells #[.slice e0 ss.length g0, .slice e1 cs.length g1, .bool f, .slice e3 bs.length g3] 73)).heap.size = wc.heap.size + 1 := by simp
      have zBb : b < (wc.alloc (.cells #[.slice e0 ss.length g0, .slice e1 cs.length g1, .bool f, .slice e3 bs.length g3] 73)).heap.size := by omega
      have hS5 : wA.cell? ⟨BO, 3, none⟩ = some (v0) ∧ wA.cell? ⟨w.heap.size, 3, none⟩ = some (.slice (some ⟨b, off, none⟩) nm cm) ∧ wA.cell? ⟨b, off + j * 4, none⟩ = some (.slice a0 ss.length c0) ∧ wA.cell? ⟨b, off + j * 4 + 1, none⟩ = some (.slice a1 cs.length c1) ∧ wA.cell? ⟨b, off + j * 4 + 2, none⟩ = some (.bool f) ∧ wA.cell? ⟨b, off + j * 4 + 3, none⟩ = some (.slice a3 bs.length c3') := mk.out wA ya ym ((m3.block b zBb (fun hm => by have := HFP.out _ hm; omega)).trans (((new_below wc (.cells #[.slice e0 ss.length g0, .slice e1 cs.length g1, .bool f, .slice e3 bs.length g3] 73)).block b (by omega)).trans (HBC.out.block b zb)))
      have r0 := hS5.1
      have fz := ya.frozen 3
      have YA := hidden ya
      have M1 := hidden m1
      have M2 := hidden m2
      have M3 := hidden m3
      clear ya ym m1 m2 m3 zB zBb
      refine hK.out _ _ (fun _ => hS5) ?_
      clear hK K
      simp only [Act.put, List.setIfInBounds_toArray, List.set_cons_zero, List.set_cons_succ]
      refine Upto.take (i := 10) (v := ?_) rfl (by kernel_rfl) (by kernel_rfl) (by kernel_rfl) (by kernel_rfl) (fun _ _ _ h => h) (Or.inl ⟨by rfl, ?_⟩) hS5 ?_
      rotate_left 1
      · (intro w hSw; (try dsimp only at hSw); go_split_ands; go_simp; first | done | with_reducible rfl)
      simp only [Act.put, List.setIfInBounds_toArray, List.set_cons_zero, List.set_cons_succ]
      refine Upto.one (i := 11) (by kernel_rfl) rfl (fun K hK => ?_)
      go_simp
      refine hK.out _ _ (fun h => absurd rfl h) ?_
      clear hK K
      refine Upto.done (by kernel_rfl) ?_ _
      have HFA := hidden (round_fp (N := LB) (by omega) HBC.out HFP.out RX.out M2.out)
      have FRA := hidden (Fr.round FRR.out (by omega) HBC.out _ M3.out HFP.out 3 (.slice (some ⟨g, 0, none⟩) (j + 1) cap))
      have MA := hidden (M1.out.setCell (g := BO) (j := 3) (fun hm => by have := HFA.out _ hm; omega) (.slice (some ⟨g, 0, none⟩) (j + 1) cap))
      have YA' := hidden (YA.out.set 3 (.slice (some ⟨g, 0, none⟩) (j + 1) cap))
      clear hS hS3 hS4 hS5 r0 YA M1 M2 M3 XOC MX RX HBC HFP HM FRR XO XMR XMC mk
      go_wp2
      go_roundw
      case rel => exact ⟨j + 1, _, fpA, by omega, by go_num, FRA.out, YA'.out, MA.out, HFA.out⟩
      case measure => simp [intOf]; omega
    · have ej : nm = j := by omega
      subst ej
      rw [List.take_of_length_le (by omega)] at hm
      have hlt := hm.lt
      obtain ⟨eM, gM, hvM⟩ := row_shape hm.rd
      rw [hl0] at hvM
      subst hvM
      have KM := hm.own (lo := LB) (hi := wr.heap.size) (fun b hb => ⟨hfp b hb, hlt b hb⟩)
      have xr := fr.box XR2.out (by omega) (by omega)
      have b3 : But BO (BO + 1) (wr.alloc (.cells #[] 75)) ((wr.alloc (.cells #[] 75)).setCell ⟨BO, 9, none⟩ (.slice (some ⟨wr.heap.size, 0, none⟩) 0 0)) := But.setCell (by omega) (by omega) _
      have xm3 : Box ((wr.alloc (.cells #[] 75)).setCell ⟨BO, 9, none⟩ (.slice (some ⟨wr.heap.size, 0, none⟩) 0 0)) w.heap.size 33 #[.int .i64 x.id, .int .i64 x.n, .int .i64 x.s, .slice am nm cm, .int .i64 x.lost, .int .i64 x.built, .int .i64 x.seq, .int .i64 x.tail, .int .i64 x.gen, .slice ad nd cd, .int .i64 x.fuse, .bool x.down, .bool x.broken] := (xm.alloc _).other (by omega) 9 _
      have xr3 : Box ((wr.alloc (.cells #[] 75)).setCell ⟨BO, 9, none⟩ (.slice (some ⟨wr.heap.size, 0, none⟩) 0 0)) BR 33 #[.int .i64 0, .int .i64 0, .int .i64 0, .slice none 0 0, .int .i64 0, .int .i64 0, .int .i64 0, .int .i64 0, .int .i64 0, .slice none 0 0, .int .i64 0, .bool false, .bool false] := (xr.alloc _).other (by omega) 9 _
      have xo3 : Box ((wr.alloc (.cells #[] 75)).setCell ⟨BO, 9, none⟩ (.slice (some ⟨wr.heap.size, 0, none⟩) 0 0)) BO 33 #[.int .i64 x.id, .int .i64 x.n, .int .i64 x.s, .slice eM nm gM, .int .i64 x.lost, .int .i64 x.built, .int .i64 x.seq, .int .i64 x.tail, .int .i64 x.gen, .slice (some ⟨wr.heap.size, 0, none⟩) 0 0, .int .i64 x.fuse, .bool x.down, .bool x.broken] := (xo.alloc _).set 9 (.slice (some ⟨wr.heap.size, 0, none⟩) 0 0)
      have ml3 : (tWrS 75).Mine ((wr.alloc (.cells #[] 75)).setCell ⟨BO, 9, none⟩ (.slice (some ⟨wr.heap.size, 0, none⟩) 0 0)) [.slice (some ⟨wr.heap.size, 0, none⟩) 0 0] [] [wr.heap.size] := (lit0_mine (t := tWr) (E := 75) wr).setCell (by simp; omega) _
      have km3 := (KM.below (new_below wr (.cells #[] 75))).but b3 (.inr (by omega))
      have hB3 : Below w.heap.size w ((wr.alloc (.cells #[] 75)).setCell ⟨BO, 9, none⟩ (.slice (some ⟨wr.heap.size, 0, none⟩) 0 0)) := (hb.alloc hb.size _).setCell (show w.heap.size ≤ BO by omega) _
      have z3 : wr.heap.size < ((wr.alloc (.cells #[] 75)).setCell ⟨BO, 9, none⟩ (.slice (some ⟨wr.heap.size, 0, none⟩) 0 0)).heap.size := by simp [World.setCell]
      have zL3 : LB < wr.heap.size := by omega
      have co9 : (wr.alloc (.cells #[] 75)).cell? ⟨BO, 9, none⟩ = some (.slice ad nd cd) := (xo.alloc _).cell 9
      have fo9 := (xo.alloc (.cells #[] 75)).frozen 9
      clear fr xo xm hm hfp hlt KM xr b3 hb hs hj
      go_wp2
      generalize (wr.alloc (.cells #[] 75)).setCell ⟨BO, 9, none⟩ (.slice (some ⟨wr.heap.size, 0, none⟩) 0 0) = W3 at xm3 xr3 xo3 ml3 km3 hB3 z3 ⊢
      obtain ⟨LE, hLE⟩ : ∃ LE, wr.heap.size = LE := ⟨_, rfl⟩
      rw [hLE] at xo3 ml3 km3 z3 zL3 ⊢
      clear hLE
      have XM3 := hidden xm3
      have XR3 := hidden xr3
      have XO3 := hidden xo3
      have ML3 := hidden ml3
      have KM3 := hidden km3
      have HB3 := hidden hB3
      clear xm3 xr3 xo3 ml3 km3 hB3 XM2 XR2 XO2 ML2 HB2 hz
      go_loopw [5] (fun i wr => ∃ (j : Nat) (v1 : Value) (fp1 : List Nat), j ≤ nd ∧ i = .int .i64 j ∧ Fr LE BO W3 wr ∧ Box wr BO 33 #[.int .i64 x.id, .int .i64 x.n, .int .i64 x.s, .slice eM nm gM, .int .i64 x.lost, .int .i64 x.built, .int .i64 x.seq, .int .i64 x.tail, .int .i64 x.gen, v1, .int .i64 x.fuse, .bool x.down, .bool x.broken] ∧ (tWrS 75).Mine wr [v1] (ds.take j) fp1 ∧ (∀ b ∈ fp1, LE ≤ b)) (fun i _ => nd - (intOf i).toNat)
      case atStart => exact ⟨0, _, [LE], Nat.zero_le _, rfl, Fr.refl _ _ _, XO3.out, ML3.out, by simp⟩
      case round =>
        obtain ⟨j, v1, fp1, hj, rfl, fr, xo, hm, hfp⟩ := hrel
        have hs := fr.size
        have xm := fr.box XM3.out (by omega) (by omega)
        have hb := HB3.out.trans (fr.below (M := w.heap.size) (by omega) (by omega))
        have c9 : wr.cell? ⟨w.heap.size, 9, none⟩ = some (.slice ad nd cd) := xm.cell 9
        by_cases hjn : j < nd
        · rcases pairs_at rfl h1 with h0' | ⟨b, off, rfl, hbl, hcs⟩
          · omega
          have hdj : ds[j]? = some (ds[j]'(by omega)) := List.getElem?_eq_getElem (by omega)
          have htk : ds.take (j + 1) = ds.take j ++ [ds[j]'(by omega)] := List.take_succ_eq_append_getElem (by omega)
          generalize ds[j]'(by omega) = d at hdj htk
          have hil := inner_le' hdj
          obtain ⟨u0, u1, hv0, hv1, hrv⟩ := hcs j d hdj
          obtain ⟨rfl, hrv'⟩ := wr_rd hrv
          obtain ⟨av, cv, rfl⟩ := row_shape hrv'
          have pv0 := (hb.cell (p := ⟨b, off + j * 2, none⟩) hbl).trans hv0
          have pv1 := (hb.cell (p := ⟨b, off + j * 2 + 1, none⟩) hbl).trans hv1
          obtain ⟨x0, x1⟩ := d
          simp only at pv0 pv1 hrv' hil
          have HX := hidden (hrv'.below hb)
          have k1 : (0 : Int) ≤ (j : Int) := by omega
          have k2 : (j : Int) < (nd : Int) := by omega
          have HTK := hidden htk
          have XO := hidden xo
          have XMR := hidden xm
          have FRR := hidden fr
          have HM := hidden hm
          have HFP := hidden hfp
          have HL : Hid ((ds.take j).length = j) := by unfold Hid; rw [List.length_take]; omega
          have L1 : Hid ((ds.take j).length + 1 ≤ maxLen) := by unfold Hid; rw [HL.out]; unfold maxLen; omega
          have L2 : Hid (((ds.take j).length + 1) * 32 ≤ 140737488355328) := by unfold Hid; rw [HL.out]; omega
          have mk : Hid (∀ w', Box w' BO 33 #[.int .i64 x.id, .int .i64 x.n, .int .i64 x.s, .slice eM nm gM, .int .i64 x.lost, .int .i64 x.built, .int .i64 x.seq, .int .i64 x.tail, .int .i64 x.gen, v1, .int .i64 x.fuse, .bool x.down, .bool x.broken] → Box w' w.heap.size 33 #[.int .i64 x.id, .int .i64 x.n, .int .i64 x.s, .slice am nm cm, .int .i64 x.lost, .int .i64 x.built, .int .i64 x.seq, .int .i64 x.tail, .int .i64 x.gen, .slice (some ⟨b, off, none⟩) nd cd, .int .i64 x.fuse, .bool x.down, .bool x.broken] → w'.heap[b]? = wr.heap[b]? → w'.cell? ⟨BO, 9, none⟩ = some (v1) ∧ w'.cell? ⟨w.heap.size, 9, none⟩ = some (.slice (some ⟨b, off, none⟩) nd cd) ∧ w'.cell? ⟨b, off + j * 2, none⟩ = some (.int .i64 x0) ∧ w'.cell? ⟨b, off + j * 2 + 1, none⟩ = some (.slice av x1.length cv)) := fun w' h1 h2 h3 => ⟨h1.cell 9, h2.cell 9, (World.cell?_of_block (w := wr) h3).trans pv0, (World.cell?_of_block (w := wr) h3).trans pv1⟩
          have bA := new_below wr (.cells #[] 3)
          have hS : wr.drew.cell? ⟨BO, 9, none⟩ = some (v1) ∧ wr.drew.cell? ⟨w.heap.size, 9, none⟩ = some (.slice (some ⟨b, off, none⟩) nd cd) ∧ wr.drew.cell? ⟨b, off + j * 2, none⟩ = some (.int .i64 x0) ∧ wr.drew.cell? ⟨b, off + j * 2 + 1, none⟩ = some (.slice av x1.length cv) := mk.out wr.drew xo xm rfl
          have zb : b < wr.heap.size := by have := hb.size; omega
          have zLE : LE < wr.heap.size := by omega
          have hS2 : (wr.alloc (.cells #[] 3)).drew.cell? ⟨BO, 9, none⟩ = some (v1) ∧ (wr.alloc (.cells #[] 3)).drew.cell? ⟨w.heap.size, 9, none⟩ = some (.slice (some ⟨b, off, none⟩) nd cd) ∧ (wr.alloc (.cells #[] 3)).drew.cell? ⟨b, off + j * 2, none⟩ = some (.int .i64 x0) ∧ (wr.alloc (.cells #[] 3)).drew.cell? ⟨b, off + j * 2 + 1, none⟩ = some (.slice av x1.length cv) := mk.out (wr.alloc (.cells #[] 3)).drew (xo.alloc _) (xm.alloc _) (bA.block b zb)
          have HG : Hid ((wr.alloc (.cells #[] 3)).drew.heap[wr.heap.size]? = some (.cells #[] 3 (0, 0))) := Box.new wr 3 #[]
          have RD : Hid (tIntS.Rd (wr.alloc (.cells #[] 3)).drew [.slice av x1.length cv] x1) := (HX.out.below bA).drew
          have BA := hidden bA
          clear hcs hdj hv0 hv1 hrv hrv' htk xo xm hm hfp hb fr pv0 pv1 bA
          go_wp2_with fail
          refine Upto.start (S := fun w' => w'.cell? ⟨BO, 9, none⟩ = some (v1) ∧ w'.cell? ⟨w.heap.size, 9, none⟩ = some (.slice (some ⟨b, off, none⟩) nd cd) ∧ w'.cell? ⟨b, off + j * 2, none⟩ = some (.int .i64 x0) ∧ w'.cell? ⟨b, off + j * 2 + 1, none⟩ = some (.slice av x1.length cv)) (k := 20) (by kernel_rfl) ?_
          refine Upto.take (i := 0) (v := ?_) rfl (by kernel_rfl) (by kernel_rfl) (by kernel_rfl) (by kernel_rfl) (fun _ _ _ h => h) (Or.inl ⟨by rfl, ?_⟩) hS ?_
          rotate_left 1
          · (intro w hSw; (try dsimp only at hSw); go_split_ands; go_simp; first | done | with_reducible rfl)
          simp only [Act.put, List.setIfInBounds_toArray, List.set_cons_zero, List.set_cons_succ]
          refine Upto.take (i := 1) (v := ?_) rfl (by kernel_rfl) (by kernel_rfl) (by kernel_rfl) (by kernel_rfl) (fun _ _ _ h => h) (Or.inl ⟨by rfl, ?_⟩) hS ?_
          rotate_left 1
          · (intro w hSw; (try dsimp only at hSw); go_split_ands; go_simp; first | done | with_reducible rfl)
          simp only [Act.put, List.setIfInBounds_toArray, List.set_cons_zero, List.set_cons_succ]
          refine Upto.take (i := 2) (v := ?_) rfl (by kernel_rfl) (by kernel_rfl) (by kernel_rfl) (by kernel_rfl) (fun _ _ _ h => h) (Or.inl ⟨by rfl, ?_⟩) hS ?_
          rotate_left 1
          · (intro w hSw; (try dsimp only at hSw); go_split_ands; go_simp; first | done | with_reducible rfl)
          simp only [Act.put, List.setIfInBounds_toArray, List.set_cons_zero, List.set_cons_succ]
          refine Upto.take (i := 3) (v := ?_) rfl (by kernel_rfl) (by kernel_rfl) (by kernel_rfl) (by kernel_rfl) (fun _ _ _ h => h) (Or.inl ⟨by rfl, ?_⟩) hS ?_
          rotate_left 1
          · (intro w hSw; (try dsimp only at hSw); go_split_ands; go_simp; first | done | with_reducible rfl)
          simp only [Act.put, List.setIfInBounds_toArray, List.set_cons_zero, List.set_cons_succ]
          refine Upto.take (i := 4) (v := ?_) rfl (by kernel_rfl) (by kernel_rfl) (by kernel_rfl) (by kernel_rfl) (fun _ _ _ h => h) (Or.inl ⟨by rfl, ?_⟩) hS ?_
          rotate_left 1
          · (intro w hSw; (try dsimp only at hSw); go_split_ands; go_simp; first | done | with_reducible rfl)
          simp only [Act.put, List.setIfInBounds_toArray, List.set_cons_zero, List.set_cons_succ]
          refine Upto.take (i := 5) (v := ?_) rfl (by kernel_rfl) (by kernel_rfl) (by kernel_rfl) (by kernel_rfl) (fun _ _ _ h => h) (Or.inl ⟨by rfl, ?_⟩) hS ?_
          rotate_left 1
          · (intro w hSw; (try dsimp only at hSw); go_split_ands; go_simp; first | done | with_reducible rfl)
          simp only [Act.put, List.setIfInBounds_toArray, List.set_cons_zero, List.set_cons_succ]
          refine Upto.take (i := 6) (v := ?_) rfl (by kernel_rfl) (by kernel_rfl) (by kernel_rfl) (by kernel_rfl) (fun _ _ _ h => h) (Or.inl ⟨by rfl, ?_⟩) hS ?_
          rotate_left 1
          · (intro w hSw; (try dsimp only at hSw); go_split_ands; go_simp; first | done | with_reducible rfl)
          simp only [Act.put, List.setIfInBounds_toArray, List.set_cons_zero, List.set_cons_succ]
          refine Upto.take (i := 7) (v := ?_) rfl (by kernel_rfl) (by kernel_rfl) (by kernel_rfl) (by kernel_rfl) (fun _ _ _ h => h) (Or.inl ⟨by rfl, ?_⟩) hS ?_
          rotate_left 1
          · (intro w hSw; (try dsimp only at hSw); go_split_ands; go_simp; first | done | with_reducible rfl)
          simp only [Act.put, List.setIfInBounds_toArray, List.set_cons_zero, List.set_cons_succ]
          refine Upto.take (i := 9) (v := ?_) rfl (by kernel_rfl) (by kernel_rfl) (by kernel_rfl) (by kernel_rfl) (fun _ _ _ h => h) (Or.inl ⟨by rfl, ?_⟩) hS ?_
          rotate_left 1
          · (intro w hSw; (try dsimp only at hSw); go_split_ands; go_simp; first | done | with_reducible rfl)
          simp only [Act.put, List.setIfInBounds_toArray, List.set_cons_zero, List.set_cons_succ]
          refine Upto.take (i := 10) (v := ?_) rfl (by kernel_rfl) (by kernel_rfl) (by kernel_rfl) (by kernel_rfl) (fun _ _ _ h => h) (Or.inl ⟨by rfl, ?_⟩) hS ?_
          rotate_left 1
          · (intro w hSw; (try dsimp only at hSw); go_split_ands; go_simp; first | done | with_reducible rfl)
          simp only [Act.put, List.setIfInBounds_toArray, List.set_cons_zero, List.set_cons_succ]
          refine Upto.take (i := 11) (v := ?_) rfl (by kernel_rfl) (by kernel_rfl) (by kernel_rfl) (by kernel_rfl) (fun _ _ _ h => h) (Or.inl ⟨by rfl, ?_⟩) hS ?_
          rotate_left 1
          · (intro w hSw; (try dsimp only at hSw); go_split_ands; go_simp; first | done | with_reducible rfl)
          simp only [Act.put, List.setIfInBounds_toArray, List.set_cons_zero, List.set_cons_succ]
          refine Upto.take (i := 12) (v := ?_) rfl (by kernel_rfl) (by kernel_rfl) (by kernel_rfl) (by kernel_rfl) (fun _ _ _ h => h) (Or.inl ⟨by rfl, ?_⟩) hS ?_
          rotate_left 1
          · (intro w hSw; (try dsimp only at hSw); go_split_ands; go_simp; first | done | with_reducible rfl)
          simp only [Act.put, List.setIfInBounds_toArray, List.set_cons_zero, List.set_cons_succ]
          refine Upto.take (i := 13) (v := ?_) rfl (by kernel_rfl) (by kernel_rfl) (by kernel_rfl) (by kernel_rfl) (fun _ _ _ h => h) (Or.inl ⟨by rfl, ?_⟩) hS ?_
          rotate_left 1
          · (intro w hSw; (try dsimp only at hSw); go_split_ands; go_simp; first | done | with_reducible rfl)
          simp only [Act.put, List.setIfInBounds_toArray, List.set_cons_zero, List.set_cons_succ]
          refine Upto.take (i := 14) (v := ?_) rfl (by kernel_rfl) (by kernel_rfl) (by kernel_rfl) (by kernel_rfl) (fun _ _ _ h => h) (Or.inl ⟨by rfl, ?_⟩) hS ?_
          rotate_left 1
          · (intro w hSw; (try dsimp only at hSw); go_split_ands; go_simp; first | done | with_reducible rfl)
          simp only [Act.put, List.setIfInBounds_toArray, List.set_cons_zero, List.set_cons_succ]
          refine Upto.one (i := 8) (by kernel_rfl) rfl (fun K hK => ?_)
          go_simp
          refine hK.out _ _ (fun _ => hS2) ?_
          clear hK K
          refine Upto.one (i := 15) (by kernel_rfl) rfl (fun K hK => ?_)
          refine step_copy (by rfl) _ _ 39 (by rfl) i3 Tryz.underlying39 hi3 hx0 hx1 hx2 wr.heap.size (by rfl) HG.out av x1.length cv x1 (by rfl) RD.out (by omega) ?_
          intro ac cc wc fpx mx rx tx
          have tx' : Turned [wr.heap.size] (wr.alloc (.cells #[] 3)) wc := Turned.undrew tx
          have zA : (wr.alloc (.cells #[] 3)).heap.size = wr.heap.size + 1 := by simp
          have zd : (wr.alloc (.cells #[] 3)).drew.heap.size = (wr.alloc (.cells #[] 3)).heap.size := rfl
          have hbc' : Below wr.heap.size wr wc := BA.out.trans (tx'.below (N := wr.heap.size) (by omega) (by simp))
          have xoc := XO.out.below hbc' (by omega)
          have xmc := XMR.out.below hbc' (by omega)
          have hS3 : wc.cell? ⟨BO, 9, none⟩ = some (v1) ∧ wc.cell? ⟨w.heap.size, 9, none⟩ = some (.slice (some ⟨b, off, none⟩) nd cd) ∧ wc.cell? ⟨b, off + j * 2, none⟩ = some (.int .i64 x0) ∧ wc.cell? ⟨b, off + j * 2 + 1, none⟩ = some (.slice av x1.length cv) := mk.out wc xoc xmc (hbc'.block b zb)
          have bB := new_below wc (.cells #[.int .i64 x0, .slice ac x1.length cc] 75)
          have zc := hbc'.size
          have hS4 : (wc.alloc (.cells #[.int .i64 x0, .slice ac x1.length cc] 75)).cell? ⟨BO, 9, none⟩ = some (v1) ∧ (wc.alloc (.cells #[.int .i64 x0, .slice ac x1.length cc] 75)).cell? ⟨w.heap.size, 9, none⟩ = some (.slice (some ⟨b, off, none⟩) nd cd) ∧ (wc.alloc (.cells #[.int .i64 x0, .slice ac x1.length cc] 75)).cell? ⟨b, off + j * 2, none⟩ = some (.int .i64 x0) ∧ (wc.alloc (.cells #[.int .i64 x0, .slice ac x1.length cc] 75)).cell? ⟨b, off + j * 2 + 1, none⟩ = some (.slice av x1.length cv) := mk.out _ (xoc.alloc _) (xmc.alloc _) ((bB.block b (by omega)).trans (hbc'.block b zb))
          have RX : Hid (∀ b ∈ fpx, wr.heap.size ≤ b ∧ b < wc.heap.size) := fun b hb => by have := rx b hb; omega
          have XOC := hidden xoc
          have XMC := hidden xmc
          have MX := hidden mx
          have HBC := hidden hbc'
          clear xoc xmc mx rx tx tx' hbc' bB zA zd
          refine hK.out _ _ (fun _ => hS3) ?_
          clear hK K
          simp only [Act.put, List.setIfInBounds_toArray, List.set_cons_zero, List.set_cons_succ]
          refine Upto.take (i := 16) (v := ?_) rfl (by kernel_rfl) (by kernel_rfl) (by kernel_rfl) (by kernel_rfl) (fun _ _ _ h => h) (Or.inl ⟨by rfl, ?_⟩) hS3 ?_
          rotate_left 1
          · (intro w hSw; (try dsimp only at hSw); go_split_ands; go_simp; first | done | with_reducible rfl)
          simp only [Act.put, List.setIfInBounds_toArray, List.set_cons_zero, List.set_cons_succ]
          refine Upto.one (i := 17) (by kernel_rfl) rfl (fun K hK => ?_)
          go_simp
          refine hK.out _ _ (fun _ => hS4) ?_
          clear hK K
          refine Upto.one (i := 18) (by kernel_rfl) rfl (fun K hK => ?_)
          refine step_appT tWr (by rfl) _ _ 31 (by rfl) 75 i1 (.agg #[.int .i64 0, .slice none 0 0]) 32 Tryz.underlying31 hi1 hy0 hy1 hy2 rfl Nat.zero_lt_two v1 (ds.take j) fp1 (by rfl) ?_ ⟨wc.heap.size, 0, none⟩ 1 [.int .i64 x0, .slice ac x1.length cc] (x0, x1) fpx (by rfl) ?_ ?_ ?_ ?_ L1.out L2.out ?_
          · exact (HM.out.below HBC.out).alloc _
          · exact (wr_mine x0 MX.out).alloc _
          · intro b hb hb'
            have h1 := HM.out.lt b hb
            have h2 := RX.out b hb'
            omega
          · exact news_new _ _ _
          · intro u hu
            simp at hu
            rcases hu with hu | hu <;> (rw [hu]; rfl)
          intro g cap wA fpA m1 m2 m3
          rw [HL.out] at m1 ⊢
          rw [← HTK.out] at m1
          have ya := (XOC.out.alloc (.cells #[.int .i64 x0, .slice ac x1.length cc] 75)).turned m3 (fun hm => by have := HFP.out _ hm; omega)
          have ym := (XMC.out.alloc (.cells #[.int .i64 x0, .slice ac x1.length cc] 75)).turned m3 (fun hm => by have := HFP.out _ hm; omega)
          have zB : (wc.alloc (.cells #[.int .i64 x0, .slice ac x1.length cc] 75)).heap.size = wc.heap.size + 1 := by simp
          have zBb : b < (wc.alloc (.cells #[.int .i64 x0, .slice ac x1.length cc] 75)).heap.size := by omega
          have hS5 : wA.cell? ⟨BO, 9, none⟩ = some (v1) ∧ wA.cell? ⟨w.heap.size, 9, none⟩ = some (.slice (some ⟨b, off, none⟩) nd cd) ∧ wA.cell? ⟨b, off + j * 2, none⟩ = some (.int .i64 x0) ∧ wA.cell? ⟨b, off + j * 2 + 1, none⟩ = some (.slice av x1.length cv) := mk.out wA ya ym ((m3.block b zBb (fun hm => by have := HFP.out _ hm; omega)).trans (((new_below wc (.cells #[.int .i64 x0, .slice ac x1.length cc] 75)).block b (by omega)).trans (HBC.out.block b zb)))
          have r0 := hS5.1
          have fz := ya.frozen 9
          have YA := hidden ya
          have M1 := hidden m1
          have M2 := hidden m2
          have M3 := hidden m3
          clear ya ym m1 m2 m3 zB zBb
          refine hK.out _ _ (fun _ => hS5) ?_
          clear hK K
          simp only [Act.put, List.setIfInBounds_toArray, List.set_cons_zero, List.set_cons_succ]
          refine Upto.take (i := 19) (v := ?_) rfl (by kernel_rfl) (by kernel_rfl) (by kernel_rfl) (by kernel_rfl) (fun _ _ _ h => h) (Or.inl ⟨by rfl, ?_⟩) hS5 ?_
          rotate_left 1
          · (intro w hSw; (try dsimp only at hSw); go_split_ands; go_simp; first | done | with_reducible rfl)
          simp only [Act.put, List.setIfInBounds_toArray, List.set_cons_zero, List.set_cons_succ]
          refine Upto.one (i := 20) (by kernel_rfl) rfl (fun K hK => ?_)
          go_simp
          refine hK.out _ _ (fun h => absurd rfl h) ?_
          clear hK K
          refine Upto.done (by kernel_rfl) ?_ _
          have HFA := hidden (round_fp (N := LE) (by omega) HBC.out HFP.out RX.out M2.out)
          have FRA := hidden (Fr.round FRR.out (by omega) HBC.out _ M3.out HFP.out 9 (.slice (some ⟨g, 0, none⟩) (j + 1) cap))
          have MA := hidden (M1.out.setCell (g := BO) (j := 9) (fun hm => by have := HFA.out _ hm; omega) (.slice (some ⟨g, 0, none⟩) (j + 1) cap))
          have YA' := hidden (YA.out.set 9 (.slice (some ⟨g, 0, none⟩) (j + 1) cap))
          clear hS hS2 hS3 hS4 hS5 BA HG RD HX r0 YA M1 M2 M3 XOC MX RX HBC HFP HM FRR XO XMR XMC mk
          go_wp2
          go_roundw
          case rel => exact ⟨j + 1, _, fpA, by omega, by go_num, FRA.out, YA'.out, MA.out, HFA.out⟩
          case measure => simp [intOf]; omega
        · have ej : nd = j := by omega
          subst ej
          rw [List.take_of_length_le (by omega)] at hm
          have hlt := hm.lt
          obtain ⟨eD, gD, hvD⟩ := row_shape hm.rd
          rw [hl1] at hvD
          subst hvD
          have K1 := hm.own (lo := LE) (hi := wr.heap.size) (fun b hb => ⟨hfp b hb, hlt b hb⟩)
          have K0 := fr.own KM3.out (Nat.le_refl _) (.inr (by omega))
          have xr := fr.box XR3.out (by omega) (by omega)
          have hbt := puts_but BR [(0, .int .i64 x.id), (1, .int .i64 x.n), (2, .int .i64 x.s), (3, .slice eM nm gM), (4, .int .i64 x.lost), (5, .int .i64 x.built), (6, .int .i64 x.seq), (7, .int .i64 x.tail), (8, .int .i64 x.gen), (9, .slice eD nd gD), (10, .int .i64 x.fuse), (11, .bool x.down), (12, .bool x.broken)] wr
          have H0 := K0.but hbt (.inr (by omega))
          have H1 := K1.but hbt (.inr (by omega))
          have HBB := Below.andBut hb hbt (by omega)
          have hsz := hbt.size
          have H0w := hidden (H0.widen (lo' := w.heap.size) (hi' := LE) (by omega) (Nat.le_refl _))
          have H1w := hidden (H1.widen (lo' := LE) (Nat.le_refl _) hsz)
          have HBw := hidden HBB
          have HSZ : Hid (LE ≤ (puts wr BR [(0, .int .i64 x.id), (1, .int .i64 x.n), (2, .int .i64 x.s), (3, .slice eM nm gM), (4, .int .i64 x.lost), (5, .int .i64 x.built), (6, .int .i64 x.seq), (7, .int .i64 x.tail), (8, .int .i64 x.gen), (9, .slice eD nd gD), (10, .int .i64 x.fuse), (11, .bool x.down), (12, .bool x.broken)]).heap.size) := by unfold Hid; omega
          simp only [puts] at H0w H1w HBw HSZ
          obtain ⟨p0, p1, p2, p3, p4, p5, p6, p7, p8, p9, p10, p11, p12⟩ := xr.cells13
          have fz := xr.frozen
          obtain ⟨r0, r1, r2, r3, r4, r5, r6, r7, r8, r9, r10, r11, r12⟩ := xo.cells13
          have hLw : w.heap.size ≤ LE := by omega
          clear fr xo xm hb hm hfp hlt xr K0 K1 hbt H0 H1 HBB hsz hj hs
          go_wp2
          refine bodyPost_ret (v := .agg #[.int .i64 x.id, .int .i64 x.n, .int .i64 x.s, .slice eM nm gM, .int .i64 x.lost, .int .i64 x.built, .int .i64 x.seq, .int .i64 x.tail, .int .i64 x.gen, .slice eD nd gD, .int .i64 x.fuse, .bool x.down, .bool x.broken]) (by simp [results, Tryz.results22, go_sem, p0, p1, p2, p3, p4, p5, p6, p7, p8, p9, p10, p11, p12]) rfl ?_
          exact ⟨_, _, _, _, LE, rfl, H0w.out, H1w.out, hLw, HSZ.out, HBw.out⟩

end Go.Proofs.YthkpkpclmemodaaGreat

/-
  The walks of the specification's operations on an array that a pointer leads to: one counted, a sector written. Conditions: the power goes within 1000 operations, or stays; every disk is right.
-/
namespace Go.Proofs.YthkpkpclmemodaaGreat
open Go.RowKit

set_option maxRecDepth 20000 in
set_option maxHeartbeats 1600000 in
theorem l7Op_any (w : World) (B : Nat) (x : ArrN) (ms : List MemD) (ds : List (Int × List Int)) (fm fd : List Nat) (h : ArrAt w B x ms ds fm fd) (hf : x.fuse ≤ 1000) :
    Calls Tryz.prog 91 #[.pointer (some ⟨B, 0, none⟩)] w fun e w' => e = .returned (.bool (opB x)) ∧ ArrAt w' B (opX x) ms ds fm fd ∧ Moved B fm w fm w' := by
  obtain ⟨bm, bd, cm, cd, X, hm, hd, hr, r1, r2⟩ := h
  unfold arrC at X
  obtain ⟨k0, k1, k2, k3, k4, k5, k6, k7, k8, k9, k10, k11, k12⟩ := X.cells13
  have fz := X.frozen
  cases hdn : x.down
  · rw [hdn] at k11
    by_cases h0 : x.fuse = 0
    · have HB : Hid (opB x = false) := by unfold Hid opB; simp [h0]
      have HX : Hid (opX x = {x with down := true, fuse := -1}) := by unfold Hid opX; rw [if_neg (by simp [hdn]), if_pos h0]
      have Y := (X.set 11 (.bool true)).set 10 (.int .i64 (-1))
      have M := hidden ((hm.setCell (g := B) (j := 11) r1 (.bool true)).setCell (g := B) (j := 10) r1 (.int .i64 (-1)))
      have D := hidden ((hd.setCell (g := B) (j := 11) r2 (.bool true)).setCell (g := B) (j := 10) r2 (.int .i64 (-1)))
      have MV := hidden ((Moved.set (B := B) (j := 11) (fm := fm) (w := w) (.bool true)).trans (Moved.set (B := B) (j := 10) (.int .i64 (-1))))
      have YH := hidden Y
      rw [h0] at k10
      clear Y X hm hd hdn h0
      go_enter Tryz.func91, Tryz.ntmps91
      go_wp2
      go_ret
      exact ⟨ret_bool HB.out.symm, by rw [HX.out]; exact ⟨bm, bd, cm, cd, YH.out, M.out, D.out, hr, r1, r2⟩, MV.out⟩
    · have e0 : (x.fuse == 0) = false := by simpa using h0
      have HB : Hid (opB x = true) := by unfold Hid opB; simp [h0, hdn]
      by_cases h1 : 0 < x.fuse
      · have hw : IntKind.i64.wrap (x.fuse - 1) = x.fuse - 1 := IntWalk.i64_in _ (by omega)
        have HX : Hid (opX x = {x with fuse := x.fuse - 1}) := by unfold Hid opX; rw [if_neg (by simp [hdn]), if_neg h0, if_pos h1]
        have YH := hidden (X.set 10 (.int .i64 (x.fuse - 1)))
        have M := hidden (hm.setCell (g := B) (j := 10) r1 (.int .i64 (x.fuse - 1)))
        have D := hidden (hd.setCell (g := B) (j := 10) r2 (.int .i64 (x.fuse - 1)))
        have MV := hidden (Moved.set (B := B) (j := 10) (fm := fm) (w := w) (.int .i64 (x.fuse - 1)))
        clear X hm hd hdn h0
        go_enter Tryz.func91, Tryz.ntmps91
        go_wp2
        go_ret
        exact ⟨ret_bool HB.out.symm, by rw [HX.out]; exact ⟨bm, bd, cm, cd, YH.out, M.out, D.out, hr, r1, r2⟩, MV.out⟩
      · have HX : Hid (opX x = x) := by unfold Hid opX; rw [if_neg (by simp [hdn]), if_neg h0, if_neg h1]
        have YH := hidden X
        clear hdn h0 X
        go_enter Tryz.func91, Tryz.ntmps91
        go_wp2
        go_ret
        exact ⟨ret_bool HB.out.symm, by rw [HX.out]; exact ⟨bm, bd, cm, cd, YH.out, hm, hd, hr, r1, r2⟩, Moved.refl _ _ _⟩
  · have HB : Hid (opB x = false) := by unfold Hid opB; simp [hdn]
    have HX : Hid (opX x = x) := by unfold Hid opX; rw [if_pos hdn]
    rw [hdn] at k11
    have YH := hidden X
    clear hdn X
    go_enter Tryz.func91, Tryz.ntmps91
    go_wp2
    go_ret
    exact ⟨ret_bool HB.out.symm, by rw [HX.out]; exact ⟨bm, bd, cm, cd, YH.out, hm, hd, hr, r1, r2⟩, Moved.refl _ _ _⟩

end Go.Proofs.YthkpkpclmemodaaGreat

/-
  The walk of the specification's l7Put: a sector of a disk is written, if the disk is not Failed and the operation is done. Conditions: the power goes within 1000 operations, or stays; every disk is right.
-/
namespace Go.Proofs.YthkpkpclmemodaaGreat
open Go.RowKit

set_option linter.unusedSimpArgs false in
set_option maxRecDepth 20000 in
set_option maxHeartbeats 3200000 in
theorem l7Put_any (w : World) (B : Nat) (x : ArrN) (ms : List MemD) (ds : List (Int × List Int)) (fm fd : List Nat) (h : ArrAt w B x ms ds fm fd) (hf : x.fuse ≤ 1000) (hM : MsOk ms) (m : Nat) (hm : m < ms.length) (n : Int) (a5 : Option Addr) (n5 c5 : Nat) (sw : List Int) (f5 : List Nat) (h5 : tIntS.Mine w [.slice a5 n5 c5] sw f5) (h5B : B ∉ f5) (h5f : ∀ b ∈ f5, b ∉ fm) (hn5 : n5 ≤ 2097152) :
    Calls Tryz.prog 53 #[.pointer (some ⟨B, 0, none⟩), .int .i64 (m : Int), .int .i64 n, .slice a5 n5 c5] w fun e w' => e = .returned (.tuple #[]) ∧ ∃ fm', ArrAt w' B (putS (x, ms) m n sw).1 (putS (x, ms) m n sw).2 ds fm' fd ∧ Moved B fm w fm' w' := by
  have h00 := h
  obtain ⟨bm, bd, cm, cd, X, hmm, hdd, hr, r1, r2⟩ := h
  unfold arrC at X
  obtain ⟨g, rfl⟩ := row_head hmm (by omega)
  have hdj : ms[m]? = some (ms[m]'hm) := List.getElem?_eq_getElem hm
  generalize ms[m]'hm = d at hdj
  obtain ⟨hgl, a0, a1, a3, c0, c1, c3, ss, cs, f, bs, rfl, q0, q1, q2, q3, _, _, _⟩ := disk_at hmm hdj
  obtain ⟨k0, k1, k2, k3, k4, k5, k6, k7, k8, k9, k10, k11, k12⟩ := X.cells13
  have i1 : (0 : Int) ≤ (m : Int) := by omega
  have i2 : (m : Int) < (ms.length : Int) := by omega
  cases f
  · have H0 := hidden h00
    clear X hmm hdd hgl q0 q1 q3
    go_enter Tryz.func53, Tryz.ntmps53
    go_wp2_with fail
    refine (l7Op_any _ B x ms ds fm fd H0.out hf).mono ?_
    rintro e w1 ⟨rfl, hA1, hMv1⟩
    clear k0 k1 k2 k3 k4 k5 k6 k7 k8 k9 k10 k11 k12 q2 H0 h00
    cases ho : opB x
    · have HP : Hid (putS (x, ms) m n sw = (opX x, ms)) := doS_no hdj rfl ho
      go_wp2
      refine bodyPost_ret (v := .tuple #[]) (by simp [results, Tryz.results53, go_sem]) rfl ?_
      exact ⟨rfl, fm, by rw [HP.out]; exact hA1, hMv1⟩
    · have HP : Hid (putS (x, ms) m n sw = (opX x, ms.set m (wrM (ss, cs, false, bs) n sw))) := doS_yes hdj rfl ho
      obtain ⟨bm, bd, cm, cd, X, hmm, hdd, hr, r1, r2⟩ := hA1
      obtain ⟨g, rfl⟩ := row_head hmm (by omega)
      obtain ⟨hgl, a0, a1, a3, c0, c1, c3, ss, cs, f, bs, hde, q0, q1, q2, q3, p0, p1, p3⟩ := disk_at hmm hdj
      simp only [Prod.mk.injEq] at hde
      obtain ⟨rfl, rfl, rfl, rfl⟩ := hde
      have X0 := X
      unfold arrC at X0
      obtain ⟨k0, k1, k2, k3, k4, k5, k6, k7, k8, k9, k10, k11, k12⟩ := X0.cells13
      have hwt := memB_light (hM m _ hdj) false
      dsimp only at hwt
      have XH := hidden X
      have MH := hidden hmm
      have DH := hidden hdd
      have MV := hidden hMv1
      have DJ := hidden hdj
      have h51 := (hMv1.mine h5 h5B h5f).rd
      clear X X0 hmm hdd hMv1 hdj
      go_wp2_with fail
      refine (specWriteSec_any _ 104 _ _ _ _ _ _ _ _ _ _ _ _ ss cs false bs n sw p0 p1 p3 h51 (by omega) hn5).mono ?_
      rintro e w2 ⟨u0, u1, u3, rfl, o2, b2⟩
      obtain ⟨d0, l0, f0, d1, l1, f1, d3, l3, f3, hv0, hv1, hv3⟩ := mem_slices o2
      subst hv0 hv1 hv3
      have b3 := new_below w2 (.cells #[.slice d0 l0 f0, .slice d1 l1 f1, .bool false, .slice d3 l3 f3] 73)
      have b13 : Below w1.heap.size w1 (w2.alloc (.cells #[.slice d0 l0 f0, .slice d1 l1 f1, .bool false, .slice d3 l3 f3] 73)) := Below.andThen b2 b3
      have Y3 := Box.new w2 73 #[.slice d0 l0 f0, .slice d1 l1 f1, .bool false, .slice d3 l3 f3]
      have zY := Y3.lt
      have z2 := b2.size
      obtain ⟨fpx, mx, rx⟩ := (o2.below b3).mine
      obtain ⟨cOld, fz, hgm, fm9, hA9, hMv9⟩ := arr_store XH.out MH.out DH.out hr r1 r2 b13 hm mx (fun b hb => (rx b hb).1)
      obtain ⟨o0, t0⟩ := cOld 0 (by omega)
      obtain ⟨o1, t1⟩ := cOld 1 (by omega)
      obtain ⟨o2', t2⟩ := cOld 2 (by omega)
      obtain ⟨o3, t3⟩ := cOld 3 (by omega)
      rw [Nat.add_zero] at t0
      have HA := hidden hA9
      have HMV := hidden (MV.out.trans hMv9)
      have X3 := XH.out.below b13 XH.out.lt
      unfold arrC at X3
      have gB : ¬ g = B := fun e => r1 (e ▸ hgm)
      have gY : ¬ g = w2.heap.size := by omega
      obtain ⟨y0, y1, y2, y3⟩ := Y3.cells4
      have x3 := X3.cells13.2.2.2.1
      have hS : (w2.alloc (.cells #[.slice d0 l0 f0, .slice d1 l1 f1, .bool false, .slice d3 l3 f3] 73)).drew.cell? ⟨B, 3, none⟩ = some (.slice (some ⟨g, 0, none⟩) ms.length cm) ∧ (w2.alloc (.cells #[.slice d0 l0 f0, .slice d1 l1 f1, .bool false, .slice d3 l3 f3] 73)).drew.cell? ⟨w2.heap.size, 0, none⟩ = some (.slice d0 l0 f0) ∧ (w2.alloc (.cells #[.slice d0 l0 f0, .slice d1 l1 f1, .bool false, .slice d3 l3 f3] 73)).drew.cell? ⟨w2.heap.size, 1, none⟩ = some (.slice d1 l1 f1) ∧ (w2.alloc (.cells #[.slice d0 l0 f0, .slice d1 l1 f1, .bool false, .slice d3 l3 f3] 73)).drew.cell? ⟨w2.heap.size, 2, none⟩ = some (.bool false) ∧ (w2.alloc (.cells #[.slice d0 l0 f0, .slice d1 l1 f1, .bool false, .slice d3 l3 f3] 73)).drew.cell? ⟨w2.heap.size, 3, none⟩ = some (.slice d3 l3 f3) := ⟨x3, y0, y1, y2, y3⟩
      unfold put4 at HA HMV
      clear k0 k1 k2 k3 k4 k5 k6 k7 k8 k9 k10 k11 k12 q0 q1 q2 q3 p0 p1 p3 h51 o2 b2 b3 b13 Y3 mx rx cOld hA9 hMv9 X3 x3 XH MH DH MV hwt
      go_wp2_with fail
      refine Upto.start (S := fun w' => w'.cell? ⟨B, 3, none⟩ = some (.slice (some ⟨g, 0, none⟩) ms.length cm) ∧ w'.cell? ⟨w2.heap.size, 0, none⟩ = some (.slice d0 l0 f0) ∧ w'.cell? ⟨w2.heap.size, 1, none⟩ = some (.slice d1 l1 f1) ∧ w'.cell? ⟨w2.heap.size, 2, none⟩ = some (.bool false) ∧ w'.cell? ⟨w2.heap.size, 3, none⟩ = some (.slice d3 l3 f3)) (k := 7) (by kernel_rfl) ?_
      refine Upto.take (i := 0) (v := ?_) rfl (by kernel_rfl) (by kernel_rfl) (by kernel_rfl) (by kernel_rfl) (fun _ _ _ h => h) (Or.inl ⟨by rfl, ?_⟩) hS ?_
      rotate_left 1
      · (intro w hSw; (try dsimp only at hSw); go_split_ands; go_simp; first | done | with_reducible rfl)
      simp only [Act.put, List.setIfInBounds_toArray, List.set_cons_zero, List.set_cons_succ]
      refine Upto.take (i := 1) (v := ?_) rfl (by kernel_rfl) (by kernel_rfl) (by kernel_rfl) (by kernel_rfl) (fun _ _ _ h => h) (Or.inl ⟨by rfl, ?_⟩) hS ?_
      rotate_left 1
      · (intro w hSw; (try dsimp only at hSw); go_split_ands; go_simp; first | done | with_reducible rfl)
      simp only [Act.put, List.setIfInBounds_toArray, List.set_cons_zero, List.set_cons_succ]
      refine Upto.take (i := 2) (v := ?_) rfl (by kernel_rfl) (by kernel_rfl) (by kernel_rfl) (by kernel_rfl) (fun _ _ _ h => h) (Or.inl ⟨by rfl, ?_⟩) hS ?_
      rotate_left 1
      · (intro w hSw; (try dsimp only at hSw); go_split_ands; go_simp; first | done | with_reducible rfl)
      simp only [Act.put, List.setIfInBounds_toArray, List.set_cons_zero, List.set_cons_succ]
      refine Upto.take (i := 3) (v := ?_) rfl (by kernel_rfl) (by kernel_rfl) (by kernel_rfl) (by kernel_rfl) (fun _ _ _ h => h) (Or.inl ⟨by rfl, ?_⟩) hS ?_
      rotate_left 1
      · (intro w hSw; (try dsimp only at hSw); go_split_ands; go_simp; first | done | with_reducible rfl)
      simp only [Act.put, List.setIfInBounds_toArray, List.set_cons_zero, List.set_cons_succ]
      refine Upto.take (i := 4) (v := ?_) rfl (by kernel_rfl) (by kernel_rfl) (by kernel_rfl) (by kernel_rfl) (fun _ _ _ h => h) (Or.inl ⟨by rfl, ?_⟩) hS ?_
      rotate_left 1
      · (intro w hSw; (try dsimp only at hSw); go_split_ands; go_simp; first | done | with_reducible rfl)
      simp only [Act.put, List.setIfInBounds_toArray, List.set_cons_zero, List.set_cons_succ]
      refine Upto.take (i := 5) (v := ?_) rfl (by kernel_rfl) (by kernel_rfl) (by kernel_rfl) (by kernel_rfl) (fun _ _ _ h => h) (Or.inl ⟨by rfl, ?_⟩) hS ?_
      rotate_left 1
      · (intro w hSw; (try dsimp only at hSw); go_split_ands; go_simp; first | done | with_reducible rfl)
      simp only [Act.put, List.setIfInBounds_toArray, List.set_cons_zero, List.set_cons_succ]
      refine Upto.take (i := 6) (v := ?_) rfl (by kernel_rfl) (by kernel_rfl) (by kernel_rfl) (by kernel_rfl) (fun _ _ _ h => h) (Or.inl ⟨by rfl, ?_⟩) hS ?_
      rotate_left 1
      · (intro w hSw; (try dsimp only at hSw); go_split_ands; go_simp; first | done | with_reducible rfl)
      simp only [Act.put, List.setIfInBounds_toArray, List.set_cons_zero, List.set_cons_succ]
      refine Upto.one (i := 7) (by kernel_rfl) rfl (fun K hK => ?_)
      go_simp
      refine hK.out _ _ (fun h => absurd rfl h) ?_
      clear hK K
      refine Upto.done (by kernel_rfl) ?_ _
      clear hS y0 y1 y2 y3 t0 t1 t2 t3 fz
      go_wp2
      refine bodyPost_end (v := .tuple #[]) (results_none rfl _ _ _) rfl ?_
      exact ⟨rfl, fm9, by rw [HP.out]; exact HA.out.drew, HMV.out.drew⟩
  · have HP : Hid (putS (x, ms) m n sw = (x, ms)) := doS_failed hdj rfl
    clear X hmm hdd hgl q0 q1 q3
    go_enter Tryz.func53, Tryz.ntmps53
    go_wp2
    refine bodyPost_ret (v := .tuple #[]) (by simp [results, Tryz.results53, go_sem]) rfl ?_
    exact ⟨rfl, fm, by rw [HP.out]; exact h00, Moved.refl _ _ _⟩

end Go.Proofs.YthkpkpclmemodaaGreat

/-
  The walk of the specification's FlushMem: what is written is in its sector, the cache empty, in memory of its own; what is not MemOk, or failed, as it was. Condition: the disk weighs at most 2097152.
-/
namespace Go.Proofs.YthkpkpclmemodaaGreat
open Go.RowKit

theorem wr_mine_inv {w : World} {vs : List Value} {x : Int × List Int} {fp : List Nat} (h : tWr.Mine w vs x fp) : ∃ a cap, vs = [.int .i64 x.1, .slice a x.2.length cap] ∧ tIntS.Mine w [.slice a x.2.length cap] x.2 fp := by
  have hl : vs.length = 2 := tWr.rdLen (tWr.owRd h.1)
  match vs, hl, h with
  | [u0, u1], _, h =>
    obtain ⟨f1, f2, hf, m1, m2, _⟩ := pair_mine (t := intTy) (u := tIntS) (vs := [u0]) (us := [u1]) rfl h
    obtain ⟨e1, e2⟩ := m1.1
    subst e2
    obtain ⟨a, cap, rfl⟩ := row_shape m2.rd
    refine ⟨a, cap, by simpa using e1, ?_⟩
    rw [hf]
    exact m2
theorem Turned.adrew {fp : List Nat} {w w' : World} (h : Turned fp w w') : Turned fp w w'.drew := ⟨h.os, h.tape, h.output, h.size, h.block⟩
theorem Ty.Mine.adrew {t : Ty} {w : World} {vs : List Value} {d : t.D} {fp : List Nat} (h : t.Mine w vs d fp) : t.Mine w.drew vs d fp := h.kept (Turned.adrew (Turned.refl [] w)) (by simp)
/-- The writes of a cache, each with its blocks. -/
theorem cache_parts {w : World} {E : TypeId} {lo hi n cap : Nat} {b : Option Addr} {cs : List (Int × List Int)} (h : (tWrS E).Own w lo hi [.slice b n cap] cs) :
    ∃ (gC : Nat) (F : Nat → List Nat), (n = 0 ∨ (b = some ⟨gC, 0, none⟩ ∧ lo ≤ gC ∧ gC < hi)) ∧ (∀ i x, cs[i]? = some x → ∃ a c, tIntS.Mine w [.slice a x.2.length c] x.2 (F i) ∧ (∀ b ∈ F i, lo ≤ b ∧ b < hi) ∧ w.cell? ⟨gC, i * 2, none⟩ = some (.int .i64 x.1) ∧ w.cell? ⟨gC, i * 2 + 1, none⟩ = some (.slice a x.2.length c)) ∧ ∀ i j, i < j → j < cs.length → ∀ b ∈ F i, b ∉ F j := by
  have hl := (row_length h.rd).1
  rcases h.rowShape with h0 | ⟨g, rfl⟩
  · refine ⟨0, fun _ => [], .inl h0, fun i x hx => ?_, by simp⟩
    have := (List.getElem?_eq_some_iff.1 hx).1
    omega
  · obtain ⟨fp, m, r⟩ := h.mine
    obtain ⟨hg, F, h1, h2⟩ := row_parts m
    refine ⟨g, F, .inr ⟨rfl, r g hg⟩, fun i x hx => ?_, h2⟩
    obtain ⟨vs, m1, _, m3, m4⟩ := h1 i x hx
    obtain ⟨a, c, rfl, m5⟩ := wr_mine_inv m1
    exact ⟨a, c, m5, fun b hb => r b (m3 b hb), m4 0 (by decide), m4 1 (by decide)⟩

set_option maxHeartbeats 3200000 in
theorem specFlushMem_any (w : World) (E : TypeId) (a0 a1 a3 : Option Addr) (n0 c0 n1 c1 n3 c3 : Nat) (ss : List (List Int)) (cs : List (Int × List Int)) (f : Bool) (bs : List Int) (h0 : tIntSS.Rd w [.slice a0 n0 c0] ss) (h1 : (tWrS E).Rd w [.slice a1 n1 c1] cs) (h3 : tIntS.Rd w [.slice a3 n3 c3] bs) (hw : wtMem (ss, cs, f, bs) ≤ 2097152) :
    Calls Tryz.prog 94 #[.agg #[.slice a0 n0 c0, .slice a1 n1 c1, .bool f, .slice a3 n3 c3]] w fun e w' => ∃ v0 v1 v3, e = .returned (.agg #[v0, v1, .bool f, v3]) ∧ (tMem 104).Own w' w.heap.size w'.heap.size [v0, v1, .bool f, v3] (flSS ss cs f bs, flCS ss cs f bs, f, bs) ∧ Below w.heap.size w w' := by
  obtain ⟨hl0, _, hm0⟩ := row_length h0
  obtain ⟨hl1, _, hm1⟩ := row_length h1
  obtain ⟨hl3, _, hm3⟩ := row_length h3
  have hwc : wtWrS cs ≤ 2097152 := by unfold wtMem at hw; simp only at hw; omega
  by_cases hM : memB ss cs bs = true
  · have hn20 : n0 ≤ 20 := by have := mem_secs hM; omega
    have hks := mem_writes hM
    by_cases hf : f = true
    · subst hf
      have e1 : flSS ss cs true bs = ss := by unfold flSS; simp
      have e2 : flCS ss cs true bs = cs := by unfold flCS; simp
      rw [e1, e2]
      clear e1 e2
      have hA : Below w.heap.size w ((w.alloc (.cells #[.slice a0 n0 c0, .slice a1 n1 c1, .bool true, .slice a3 n3 c3] 73)).alloc (.cells #[.slice none 0 0, .slice none 0 0, .bool false, .slice none 0 0] 73)) := ((Below.refl _ _).alloc (Nat.le_refl _) _).alloc (by simp) _
      have xm : Box ((w.alloc (.cells #[.slice a0 n0 c0, .slice a1 n1 c1, .bool true, .slice a3 n3 c3] 73)).alloc (.cells #[.slice none 0 0, .slice none 0 0, .bool false, .slice none 0 0] 73)) w.heap.size 73 #[.slice a0 n0 c0, .slice a1 n1 c1, .bool true, .slice a3 n3 c3] := (Box.new w _ _).alloc _
      have xr : Box ((w.alloc (.cells #[.slice a0 n0 c0, .slice a1 n1 c1, .bool true, .slice a3 n3 c3] 73)).alloc (.cells #[.slice none 0 0, .slice none 0 0, .bool false, .slice none 0 0] 73)) (w.heap.size + 1) 73 #[.slice none 0 0, .slice none 0 0, .bool false, .slice none 0 0] := by
        have := Box.new (w.alloc (.cells #[.slice a0 n0 c0, .slice a1 n1 c1, .bool true, .slice a3 n3 c3] 73)) 73 #[.slice none 0 0, .slice none 0 0, .bool false, .slice none 0 0]
        rw [show (w.alloc (.cells #[.slice a0 n0 c0, .slice a1 n1 c1, .bool true, .slice a3 n3 c3] 73)).heap.size = w.heap.size + 1 by simp] at this
        exact this
      go_enter Tryz.func94, Tryz.ntmps94
      go_wp2_with fail
      generalize hW : (w.alloc (.cells #[.slice a0 n0 c0, .slice a1 n1 c1, .bool true, .slice a3 n3 c3] 73)).alloc (.cells #[.slice none 0 0, .slice none 0 0, .bool false, .slice none 0 0] 73) = W at hA xm xr ⊢
      clear hW
      have zr := xr.lt
      obtain ⟨q0, q1, q2, q3⟩ := xm.cells4
      have XM := hidden xm
      have XR := hidden xr
      clear xm xr
      refine (l2Copy_any _ E _ _ _ _ _ _ _ _ _ ss cs true bs (h0.below hA) (h1.below hA) (h3.below hA) hw).mono ?_
      intro e w1 hc
      obtain ⟨b0, b1, b3, e0, e1, e3, m1, m2, rfl, o3, o0, o1, r1, r2, r3, bb⟩ := copy_shapes hl0 hl1 hl3 hc
      clear hc
      have z1 := bb.size
      have sW : w.heap.size + 2 ≤ W.heap.size := by omega
      have ba : Below w1.heap.size w1 (w1.alloc (.cells #[.slice b0 n0 e0, .slice b1 n1 e1, .bool true, .slice b3 n3 e3] 73)) := (Below.refl _ _).alloc (Nat.le_refl _) _
      have yo := Box.new w1 73 #[.slice b0 n0 e0, .slice b1 n1 e1, .bool true, .slice b3 n3 e3]
      have zo := yo.lt
      have YO := hidden yo
      have YR := hidden ((XR.out.below bb zr).below ba (by omega))
      have YM := hidden ((XM.out.below bb (by omega)).below ba (by omega))
      have K0 := hidden (o0.below ba)
      have K1 := hidden (o1.below ba)
      have K3 := hidden (o3.below ba)
      have KB := hidden (hA.trans ((bb.mono (by omega : w.heap.size ≤ W.heap.size)).trans (ba.mono (by omega))))
      clear yo o0 o1 o3 XM XR bb ba hA q0 q1 q2 q3
      obtain ⟨q0, q1, q2, q3⟩ := YM.out.cells4
      go_wp2_with fail
      generalize w1.alloc (.cells #[.slice b0 n0 e0, .slice b1 n1 e1, .bool true, .slice b3 n3 e3] 73) = w2 at YO YR YM K0 K1 K3 KB zo q0 q1 q2 q3 ⊢
      refine (specMemOk_any _ E _ _ _ _ _ _ _ _ _ ss cs true bs (h0.below KB.out) (h1.below KB.out) (h3.below KB.out) hw).mono ?_
      rintro e w3 ⟨rfl, b4⟩
      have z3 := b4.size
      have XO := hidden (YO.out.below b4 (by omega))
      have XR := hidden (YR.out.below b4 (by omega))
      have XM := hidden (YM.out.below b4 (by omega))
      have L0 := hidden (K0.out.below b4)
      have L1 := hidden (K1.out.below b4)
      have L3 := hidden (K3.out.below b4)
      have LB := hidden (KB.out.trans (b4.mono (by have := KB.out.size; omega)))
      clear YO YR YM K0 K1 K3 KB b4 q0 q1 q2 q3
      obtain ⟨q0, q1, q2, q3⟩ := XM.out.cells4
      obtain ⟨x0, x1, x2, x3⟩ := XO.out.cells4
      obtain ⟨p0, p1, p2, p3⟩ := XR.out.cells4
      have fz := XR.out.frozen
      have hbt : But (w.heap.size + 1) (w.heap.size + 2) w3 ((((w3.setCell ⟨w.heap.size + 1, 0, none⟩ (.slice b0 n0 e0)).setCell ⟨w.heap.size + 1, 1, none⟩ (.slice b1 n1 e1)).setCell ⟨w.heap.size + 1, 2, none⟩ (.bool true)).setCell ⟨w.heap.size + 1, 3, none⟩ (.slice b3 n3 e3)) :=
        (((But.setCell (by omega) (by omega) _).trans (But.setCell (by omega) (by omega) _)).trans (But.setCell (by omega) (by omega) _)).trans (But.setCell (by omega) (by omega) _)
      have z9 := hbt.size
      have FIN : Hid ((tMem 104).Own ((((w3.setCell ⟨w.heap.size + 1, 0, none⟩ (.slice b0 n0 e0)).setCell ⟨w.heap.size + 1, 1, none⟩ (.slice b1 n1 e1)).setCell ⟨w.heap.size + 1, 2, none⟩ (.bool true)).setCell ⟨w.heap.size + 1, 3, none⟩ (.slice b3 n3 e3)) w.heap.size ((((w3.setCell ⟨w.heap.size + 1, 0, none⟩ (.slice b0 n0 e0)).setCell ⟨w.heap.size + 1, 1, none⟩ (.slice b1 n1 e1)).setCell ⟨w.heap.size + 1, 2, none⟩ (.bool true)).setCell ⟨w.heap.size + 1, 3, none⟩ (.slice b3 n3 e3)).heap.size [.slice b0 n0 e0, .slice b1 n1 e1, .bool true, .slice b3 n3 e3] (ss, cs, true, bs)) := mem_own3 (L0.out.but hbt (by omega)) (L1.out.but hbt (by omega)) (L3.out.but hbt (by omega)) (by omega) (by omega) (by omega) (by omega) (by omega) (by omega)
      have FB := hidden (Below.andBut LB.out hbt (by omega))
      clear hbt
      go_wp2
      refine bodyPost_ret (v := .agg #[.slice b0 n0 e0, .slice b1 n1 e1, .bool true, .slice b3 n3 e3]) (by simp [results, Tryz.results94, go_sem, p0, p1, p2, p3]) rfl ?_
      exact ⟨_, _, _, rfl, FIN.out, FB.out⟩
    · have hf : f = false := by simpa using hf
      subst hf
      have e1 : flSS ss cs false bs = flushD ss cs := by unfold flSS; simp [hM]
      have e2 : flCS ss cs false bs = [] := by unfold flCS; simp [hM]
      rw [e1, e2]
      clear e1 e2
      have hA : Below w.heap.size w ((w.alloc (.cells #[.slice a0 n0 c0, .slice a1 n1 c1, .bool false, .slice a3 n3 c3] 73)).alloc (.cells #[.slice none 0 0, .slice none 0 0, .bool false, .slice none 0 0] 73)) := ((Below.refl _ _).alloc (Nat.le_refl _) _).alloc (by simp) _
      have xm : Box ((w.alloc (.cells #[.slice a0 n0 c0, .slice a1 n1 c1, .bool false, .slice a3 n3 c3] 73)).alloc (.cells #[.slice none 0 0, .slice none 0 0, .bool false, .slice none 0 0] 73)) w.heap.size 73 #[.slice a0 n0 c0, .slice a1 n1 c1, .bool false, .slice a3 n3 c3] := (Box.new w _ _).alloc _
      have xr : Box ((w.alloc (.cells #[.slice a0 n0 c0, .slice a1 n1 c1, .bool false, .slice a3 n3 c3] 73)).alloc (.cells #[.slice none 0 0, .slice none 0 0, .bool false, .slice none 0 0] 73)) (w.heap.size + 1) 73 #[.slice none 0 0, .slice none 0 0, .bool false, .slice none 0 0] := by
        have := Box.new (w.alloc (.cells #[.slice a0 n0 c0, .slice a1 n1 c1, .bool false, .slice a3 n3 c3] 73)) 73 #[.slice none 0 0, .slice none 0 0, .bool false, .slice none 0 0]
        rw [show (w.alloc (.cells #[.slice a0 n0 c0, .slice a1 n1 c1, .bool false, .slice a3 n3 c3] 73)).heap.size = w.heap.size + 1 by simp] at this
        exact this
      go_enter Tryz.func94, Tryz.ntmps94
      go_wp2_with fail
      generalize hW : (w.alloc (.cells #[.slice a0 n0 c0, .slice a1 n1 c1, .bool false, .slice a3 n3 c3] 73)).alloc (.cells #[.slice none 0 0, .slice none 0 0, .bool false, .slice none 0 0] 73) = W at hA xm xr ⊢
      clear hW
      have zr := xr.lt
      obtain ⟨q0, q1, q2, q3⟩ := xm.cells4
      have XM := hidden xm
      have XR := hidden xr
      clear xm xr
      refine (l2Copy_any _ E _ _ _ _ _ _ _ _ _ ss cs false bs (h0.below hA) (h1.below hA) (h3.below hA) hw).mono ?_
      intro e w1 hc
      obtain ⟨b0, b1, b3, e0, e1, e3, m1, m2, rfl, o3, o0, o1, r1, r2, r3, bb⟩ := copy_shapes hl0 hl1 hl3 hc
      clear hc
      have z1 := bb.size
      have sW : w.heap.size + 2 ≤ W.heap.size := by omega
      have ba : Below w1.heap.size w1 (w1.alloc (.cells #[.slice b0 n0 e0, .slice b1 n1 e1, .bool false, .slice b3 n3 e3] 73)) := (Below.refl _ _).alloc (Nat.le_refl _) _
      have yo := Box.new w1 73 #[.slice b0 n0 e0, .slice b1 n1 e1, .bool false, .slice b3 n3 e3]
      have zo := yo.lt
      have YO := hidden yo
      have YR := hidden ((XR.out.below bb zr).below ba (by omega))
      have YM := hidden ((XM.out.below bb (by omega)).below ba (by omega))
      have K0 := hidden (o0.below ba)
      have K1 := hidden (o1.below ba)
      have K3 := hidden (o3.below ba)
      have KB := hidden (hA.trans ((bb.mono (by omega : w.heap.size ≤ W.heap.size)).trans (ba.mono (by omega))))
      clear yo o0 o1 o3 XM XR bb ba hA q0 q1 q2 q3
      obtain ⟨q0, q1, q2, q3⟩ := YM.out.cells4
      go_wp2_with fail
      generalize w1.alloc (.cells #[.slice b0 n0 e0, .slice b1 n1 e1, .bool false, .slice b3 n3 e3] 73) = w2 at YO YR YM K0 K1 K3 KB zo q0 q1 q2 q3 ⊢
      refine (specMemOk_any _ E _ _ _ _ _ _ _ _ _ ss cs false bs (h0.below KB.out) (h1.below KB.out) (h3.below KB.out) hw).mono ?_
      rintro e w3 ⟨rfl, b4⟩
      have z3 := b4.size
      have XO := hidden (YO.out.below b4 (by omega))
      have XR := hidden (YR.out.below b4 (by omega))
      have XM := hidden (YM.out.below b4 (by omega))
      have L0 := hidden (K0.out.below b4)
      have L1 := hidden (K1.out.below b4)
      have L3 := hidden (K3.out.below b4)
      have LB := hidden (KB.out.trans (b4.mono (by have := KB.out.size; omega)))
      clear YO YR YM K0 K1 K3 KB b4 q0 q1 q2 q3
      obtain ⟨q0, q1, q2, q3⟩ := XM.out.cells4
      obtain ⟨x0, x1, x2, x3⟩ := XO.out.cells4
      have hn1' : 0 < n0 := by have := mem_some hM; omega
      obtain ⟨gS, hb0⟩ : ∃ gS, b0 = some ⟨gS, 0, none⟩ := by
        rcases L0.out.rowShape with h | ⟨g, h⟩
        · omega
        · exact ⟨g, h⟩
      subst hb0
      obtain ⟨fpS0, mS0, rS0⟩ := L0.out.mine
      have hgS := rS0 gS (row_parts mS0).1
      obtain ⟨gC, FC, hC0, hC1, hC2⟩ := cache_parts L1.out
      have MS0 := hidden mS0
      have RS0 := hidden rS0
      have HC1 := hidden hC1
      have HC2 := hidden hC2
      clear mS0 rS0 hC1 hC2
      go_wp2
      clear x0 x1 x2 x3
      go_loopw [4] (fun i wr => ∃ (j : Nat) (fpS : List Nat), j ≤ n1 ∧ i = .int .i64 j ∧ Turned [gS] w3 wr ∧ tIntSS.Mine wr [.slice (some ⟨gS, 0, none⟩) n0 e0] (flushD ss (cs.take j)) fpS ∧ (∀ b ∈ fpS, (m1 ≤ b ∧ b < m2) ∨ ∃ i, i < j ∧ b ∈ FC i)) (fun i _ => n1 - (intOf i).toNat)
      case atStart => exact ⟨0, fpS0, Nat.zero_le _, rfl, Turned.refl _ _, by rw [List.take_zero, flushD_nil]; exact MS0.out, fun b hb => .inl (RS0.out b hb)⟩
      case round =>
        obtain ⟨j, fpS, hj, rfl, tn, hS, hfp⟩ := hrel
        have hs := tn.size
        have xo := XO.out.turned tn (by simp; omega)
        obtain ⟨y0, y1, y2, y3⟩ := xo.cells4
        by_cases hjn : j < n1
        · have k1 : (0 : Int) ≤ (j : Int) := by omega
          have k2 : (j : Int) < (n1 : Int) := by omega
          rcases hC0 with hC0 | ⟨rfl, hC3, hC4⟩
          · omega
          have hdj : cs[j]? = some (cs[j]'(by omega)) := List.getElem?_eq_getElem (by omega)
          have htk : cs.take (j + 1) = cs.take j ++ [cs[j]'(by omega)] := List.take_succ_eq_append_getElem (by omega)
          have hmem : cs[j]'(by omega) ∈ cs := List.getElem_mem _
          generalize cs[j]'(by omega) = x at hdj htk hmem
          obtain ⟨q, hq, hql⟩ := mem_writes_lt hM x hmem
          obtain ⟨av, cv, mx, rx, cv0, cv1⟩ := HC1.out j x hdj
          obtain ⟨x0, x1⟩ := x
          simp only at hq mx rx cv0 cv1
          subst hq
          have ncs : gC ≠ gS := by omega
          have d0 := (cell_kept (tn.block gC (by omega) (by simp; omega)) (j * 2)).trans cv0
          have d1 := (cell_kept (tn.block gC (by omega) (by simp; omega)) (j * 2 + 1)).trans cv1
          have mr := mx.kept tn (fun b hb hb' => by have := rx b hb; simp at hb'; omega)
          obtain ⟨⟨old, cOld⟩, fz, hgm, fpA, mA, rA⟩ := row_set1 (j := q) rfl hS (by omega) mr (fun b hb hb' => by
            have h1 := rx b hb
            rcases hfp b hb' with h2 | ⟨i, h2, h3⟩
            · omega
            · exact HC2.out i j h2 (by omega) b h3 hb)
          have hfA : ∀ b ∈ fpA, (m1 ≤ b ∧ b < m2) ∨ ∃ i, i < j + 1 ∧ b ∈ FC i := fun b hb => by
            rcases rA b hb with h | h
            · rcases hfp b h with h2 | ⟨i, h2, h3⟩
              · exact .inl h2
              · exact .inr ⟨i, by omega, h3⟩
            · exact .inr ⟨j, by omega, h⟩
          have k3 : (0 : Int) ≤ (q : Int) := by omega
          have k4 : (q : Int) < (n0 : Int) := by omega
          have HTK := hidden htk
          have HFA := hidden hfA
          have MA := hidden mA
          have TA := hidden (tn.trans (Turned.setCell (w := wr) (g := gS) (j := q) (.slice av x1.length cv) (List.mem_cons_self : gS ∈ [gS])))
          have XOR := hidden xo
          have nO : Hid (w1.heap.size ≠ gS) := by unfold Hid; omega
          have nC : Hid (gC ≠ gS) := ncs
          have hT : Hid (wr.cell? ⟨gC, j * 2, none⟩ = some (.int .i64 (q : Int)) ∧ wr.cell? ⟨gC, j * 2 + 1, none⟩ = some (.slice av x1.length cv)) := ⟨d0, d1⟩
          clear hdj htk hmem mx rx cv0 cv1 mr hfA mA rA tn hS hfp xo hgm ncs
          go_wp2_with fail
          go_region_held3 (fun w' => w'.cell? ⟨w1.heap.size, 0, none⟩ = some (.slice (some ⟨gS, 0, none⟩) n0 e0) ∧ w'.cell? ⟨w1.heap.size, 1, none⟩ = some (.slice (some ⟨gC, 0, none⟩) n1 e1) ∧ w'.cell? ⟨gC, j * 2, none⟩ = some (.int .i64 (q : Int)) ∧ w'.cell? ⟨gC, j * 2 + 1, none⟩ = some (.slice av x1.length cv))
            (first | (exact ⟨y0, y1, d0, d1⟩) | (exact ⟨(XOR.out.other nO.out q (.slice av x1.length cv)).cell 0, (XOR.out.other nO.out q (.slice av x1.length cv)).cell 1, (cell_kept (Below.heap_setCell _ _ _ _ nC.out) _).trans d0, (cell_kept (Below.heap_setCell _ _ _ _ nC.out) _).trans d1⟩) | go_keep)
            (fail)
          clear d0 d1 y0 y1 y2 y3 cOld fz XOR nO nC hT
          go_wp2
          go_roundw
          case rel => exact ⟨j + 1, fpA, by omega, by go_num, Turned.adrew TA.out, by rw [HTK.out, flushD_snoc (by omega)]; exact Ty.Mine.adrew MA.out, HFA.out⟩
          case measure => simp [intOf]; omega
        · have e : n1 = j := by omega
          subst e
          rw [List.take_of_length_le (by omega)] at hS
          have yo := xo.alloc (.cells #[] 104)
          have ys := yo.set 1 (.slice (some ⟨wr.heap.size, 0, none⟩) 0 0)
          have yt := ((XR.out.turned tn (by simp; omega)).alloc (.cells #[] 104)).other (g := w1.heap.size) (by omega) 1 (.slice (some ⟨wr.heap.size, 0, none⟩) 0 0)
          obtain ⟨s0, s1, s2, s3⟩ := yo.cells4
          have fo := yo.frozen 1
          obtain ⟨t0, t1, t2, t3⟩ := Box.cells4 (v0 := .slice (some ⟨gS, 0, none⟩) n0 e0) (v1 := (.slice (some ⟨wr.heap.size, 0, none⟩) 0 0)) (v2 := .bool false) (v3 := .slice b3 n3 e3) ys
          obtain ⟨p0, p1, p2, p3⟩ := yt.cells4
          have fz := yt.frozen
          have zl : (wr.alloc (.cells #[] 104)).heap.size = wr.heap.size + 1 := by simp
          have ZL := hidden zl
          have bo := But.setCell (lo := w1.heap.size) (hi := w1.heap.size + 1) (g := w1.heap.size) (j := 1) (w := (wr.alloc (.cells #[] 104))) (Nat.le_refl _) (Nat.lt_succ_self _) (.slice (some ⟨wr.heap.size, 0, none⟩) 0 0)
          have bl : Below wr.heap.size wr (wr.alloc (.cells #[] 104)) := (Below.refl _ _).alloc (Nat.le_refl _) _
          have kl := ((lit0_mine (t := tWr) (E := 104) wr).own (lo := wr.heap.size) (hi := wr.heap.size + 1) (fun b hb => by simp at hb; omega)).but bo (.inr (by omega))
          have k0 := ((hS.own (lo := m1) (hi := w1.heap.size) (fun b hb => by
            rcases hfp b hb with h | ⟨i, h2, h3⟩
            · omega
            · by_cases hin : i < n1
              · obtain ⟨_, _, _, r, _⟩ := HC1.out i _ (List.getElem?_eq_getElem (by omega))
                have := r b h3
                omega
              · omega)).below bl).but bo (.inl (Nat.le_refl _))
          have k3 := ((L3.out.but (tn.but (lo := m1) (hi := m2) (by simp; omega)) (.inl (Nat.le_refl _))).below bl).but bo (.inl (by omega))
          have kb : Below w.heap.size w ((wr.alloc (.cells #[] 104)).setCell ⟨w1.heap.size, 1, none⟩ (.slice (some ⟨wr.heap.size, 0, none⟩) 0 0)) := LB.out.trans ((tn.below (N := w.heap.size) (by omega) (by simp; omega)).trans ((bl.mono (by omega)).trans (bo.below (by omega) (by omega))))
          have zs := bo.size
          clear zl bo bl hS tn hfp xo yo ys yt q0 q1 q2 q3 XM hC0 HC1 HC2 MS0 RS0
          go_wp2
          generalize ((wr.alloc (.cells #[] 104)).setCell ⟨w1.heap.size, 1, none⟩ (.slice (some ⟨wr.heap.size, 0, none⟩) 0 0)) = wz at t0 t1 t2 t3 p0 p1 p2 p3 fz kl k0 k3 kb zs ⊢
          have zL := ZL.out
          have hbt : But (w.heap.size + 1) (w.heap.size + 2) wz ((((wz.setCell ⟨w.heap.size + 1, 0, none⟩ (.slice (some ⟨gS, 0, none⟩) n0 e0)).setCell ⟨w.heap.size + 1, 1, none⟩ (.slice (some ⟨wr.heap.size, 0, none⟩) 0 0)).setCell ⟨w.heap.size + 1, 2, none⟩ (.bool false)).setCell ⟨w.heap.size + 1, 3, none⟩ (.slice b3 n3 e3)) :=
            (((But.setCell (by omega) (by omega) _).trans (But.setCell (by omega) (by omega) _)).trans (But.setCell (by omega) (by omega) _)).trans (But.setCell (by omega) (by omega) _)
          have z9 := hbt.size
          refine bodyPost_ret (v := .agg #[.slice (some ⟨gS, 0, none⟩) n0 e0, (.slice (some ⟨wr.heap.size, 0, none⟩) 0 0), .bool false, .slice b3 n3 e3]) (by simp [results, Tryz.results94, go_sem, p0, p1, p2, p3]) rfl ?_
          exact ⟨_, _, _, rfl, mem_own3 (k0.but hbt (by omega)) (kl.but hbt (by omega)) (k3.but hbt (by omega)) (by omega) (by omega) (by omega) (by omega) (by omega) (by omega), Below.andBut kb hbt (by omega)⟩
  · have hM : memB ss cs bs = false := by simpa using hM
    have e1 : flSS ss cs f bs = ss := by unfold flSS; simp [hM]
    have e2 : flCS ss cs f bs = cs := by unfold flCS; simp [hM]
    rw [e1, e2]
    clear e1 e2
    have hA : Below w.heap.size w ((w.alloc (.cells #[.slice a0 n0 c0, .slice a1 n1 c1, .bool f, .slice a3 n3 c3] 73)).alloc (.cells #[.slice none 0 0, .slice none 0 0, .bool false, .slice none 0 0] 73)) := ((Below.refl _ _).alloc (Nat.le_refl _) _).alloc (by simp) _
    have xm : Box ((w.alloc (.cells #[.slice a0 n0 c0, .slice a1 n1 c1, .bool f, .slice a3 n3 c3] 73)).alloc (.cells #[.slice none 0 0, .slice none 0 0, .bool false, .slice none 0 0] 73)) w.heap.size 73 #[.slice a0 n0 c0, .slice a1 n1 c1, .bool f, .slice a3 n3 c3] := (Box.new w _ _).alloc _
    have xr : Box ((w.alloc (.cells #[.slice a0 n0 c0, .slice a1 n1 c1, .bool f, .slice a3 n3 c3] 73)).alloc (.cells #[.slice none 0 0, .slice none 0 0, .bool false, .slice none 0 0] 73)) (w.heap.size + 1) 73 #[.slice none 0 0, .slice none 0 0, .bool false, .slice none 0 0] := by
      have := Box.new (w.alloc (.cells #[.slice a0 n0 c0, .slice a1 n1 c1, .bool f, .slice a3 n3 c3] 73)) 73 #[.slice none 0 0, .slice none 0 0, .bool false, .slice none 0 0]
      rw [show (w.alloc (.cells #[.slice a0 n0 c0, .slice a1 n1 c1, .bool f, .slice a3 n3 c3] 73)).heap.size = w.heap.size + 1 by simp] at this
      exact this
    go_enter Tryz.func94, Tryz.ntmps94
    go_wp2_with fail
    generalize hW : (w.alloc (.cells #[.slice a0 n0 c0, .slice a1 n1 c1, .bool f, .slice a3 n3 c3] 73)).alloc (.cells #[.slice none 0 0, .slice none 0 0, .bool false, .slice none 0 0] 73) = W at hA xm xr ⊢
    clear hW
    have zr := xr.lt
    obtain ⟨q0, q1, q2, q3⟩ := xm.cells4
    have XM := hidden xm
    have XR := hidden xr
    clear xm xr
    refine (l2Copy_any _ E _ _ _ _ _ _ _ _ _ ss cs f bs (h0.below hA) (h1.below hA) (h3.below hA) hw).mono ?_
    intro e w1 hc
    obtain ⟨b0, b1, b3, e0, e1, e3, m1, m2, rfl, o3, o0, o1, r1, r2, r3, bb⟩ := copy_shapes hl0 hl1 hl3 hc
    clear hc
    have z1 := bb.size
    have sW : w.heap.size + 2 ≤ W.heap.size := by omega
    have ba : Below w1.heap.size w1 (w1.alloc (.cells #[.slice b0 n0 e0, .slice b1 n1 e1, .bool f, .slice b3 n3 e3] 73)) := (Below.refl _ _).alloc (Nat.le_refl _) _
    have yo := Box.new w1 73 #[.slice b0 n0 e0, .slice b1 n1 e1, .bool f, .slice b3 n3 e3]
    have zo := yo.lt
    have YO := hidden yo
    have YR := hidden ((XR.out.below bb zr).below ba (by omega))
    have YM := hidden ((XM.out.below bb (by omega)).below ba (by omega))
    have K0 := hidden (o0.below ba)
    have K1 := hidden (o1.below ba)
    have K3 := hidden (o3.below ba)
    have KB := hidden (hA.trans ((bb.mono (by omega : w.heap.size ≤ W.heap.size)).trans (ba.mono (by omega))))
    clear yo o0 o1 o3 XM XR bb ba hA q0 q1 q2 q3
    obtain ⟨q0, q1, q2, q3⟩ := YM.out.cells4
    go_wp2_with fail
    generalize w1.alloc (.cells #[.slice b0 n0 e0, .slice b1 n1 e1, .bool f, .slice b3 n3 e3] 73) = w2 at YO YR YM K0 K1 K3 KB zo q0 q1 q2 q3 ⊢
    refine (specMemOk_any _ E _ _ _ _ _ _ _ _ _ ss cs f bs (h0.below KB.out) (h1.below KB.out) (h3.below KB.out) hw).mono ?_
    rintro e w3 ⟨rfl, b4⟩
    have z3 := b4.size
    have XO := hidden (YO.out.below b4 (by omega))
    have XR := hidden (YR.out.below b4 (by omega))
    have XM := hidden (YM.out.below b4 (by omega))
    have L0 := hidden (K0.out.below b4)
    have L1 := hidden (K1.out.below b4)
    have L3 := hidden (K3.out.below b4)
    have LB := hidden (KB.out.trans (b4.mono (by have := KB.out.size; omega)))
    clear YO YR YM K0 K1 K3 KB b4 q0 q1 q2 q3
    obtain ⟨q0, q1, q2, q3⟩ := XM.out.cells4
    obtain ⟨x0, x1, x2, x3⟩ := XO.out.cells4
    obtain ⟨p0, p1, p2, p3⟩ := XR.out.cells4
    have fz := XR.out.frozen
    have hbt : But (w.heap.size + 1) (w.heap.size + 2) w3 ((((w3.setCell ⟨w.heap.size + 1, 0, none⟩ (.slice b0 n0 e0)).setCell ⟨w.heap.size + 1, 1, none⟩ (.slice b1 n1 e1)).setCell ⟨w.heap.size + 1, 2, none⟩ (.bool f)).setCell ⟨w.heap.size + 1, 3, none⟩ (.slice b3 n3 e3)) :=
      (((But.setCell (by omega) (by omega) _).trans (But.setCell (by omega) (by omega) _)).trans (But.setCell (by omega) (by omega) _)).trans (But.setCell (by omega) (by omega) _)
    have z9 := hbt.size
    have FIN : Hid ((tMem 104).Own ((((w3.setCell ⟨w.heap.size + 1, 0, none⟩ (.slice b0 n0 e0)).setCell ⟨w.heap.size + 1, 1, none⟩ (.slice b1 n1 e1)).setCell ⟨w.heap.size + 1, 2, none⟩ (.bool f)).setCell ⟨w.heap.size + 1, 3, none⟩ (.slice b3 n3 e3)) w.heap.size ((((w3.setCell ⟨w.heap.size + 1, 0, none⟩ (.slice b0 n0 e0)).setCell ⟨w.heap.size + 1, 1, none⟩ (.slice b1 n1 e1)).setCell ⟨w.heap.size + 1, 2, none⟩ (.bool f)).setCell ⟨w.heap.size + 1, 3, none⟩ (.slice b3 n3 e3)).heap.size [.slice b0 n0 e0, .slice b1 n1 e1, .bool f, .slice b3 n3 e3] (ss, cs, f, bs)) := mem_own3 (L0.out.but hbt (by omega)) (L1.out.but hbt (by omega)) (L3.out.but hbt (by omega)) (by omega) (by omega) (by omega) (by omega) (by omega) (by omega)
    have FB := hidden (Below.andBut LB.out hbt (by omega))
    clear hbt
    go_wp2
    refine bodyPost_ret (v := .agg #[.slice b0 n0 e0, .slice b1 n1 e1, .bool f, .slice b3 n3 e3]) (by simp [results, Tryz.results94, go_sem, p0, p1, p2, p3]) rfl ?_
    exact ⟨_, _, _, rfl, FIN.out, FB.out⟩

end Go.Proofs.YthkpkpclmemodaaGreat

/-
  The walk of the specification's l7Sync: all disks flushed. Conditions: the power goes within 1000 operations, or stays; every disk is right.
-/
namespace Go.Proofs.YthkpkpclmemodaaGreat
open Go.RowKit

set_option linter.unusedSimpArgs false in
set_option maxRecDepth 20000 in
set_option maxHeartbeats 3200000 in
theorem l7Sync_any (w : World) (B : Nat) (x : ArrN) (ms : List MemD) (ds : List (Int × List Int)) (fm fd : List Nat) (h : ArrAt w B x ms ds fm fd) (hf : x.fuse ≤ 1000) (hM : MsOk ms) :
    Calls Tryz.prog 55 #[.pointer (some ⟨B, 0, none⟩)] w fun e w' => e = .returned (.tuple #[]) ∧ ∃ fm', ArrAt w' B (syncS (x, ms) ms.length).1 (syncS (x, ms) ms.length).2 ds fm' fd ∧ Moved B fm w fm' w' := by
  have hkp := fun j => syncS_keeps (q := (x, ms)) hM hf j
  have HK := hidden hkp
  clear hkp
  have H0 := hidden h
  obtain ⟨bm0, bd0, cm0, cd0, X0, hm0, _⟩ := h
  have hmx := (row_length hm0.rd).2
  clear X0 hm0
  go_enter Tryz.func55, Tryz.ntmps55
  go_wp2
  go_loopw [2] (fun i wr => ∃ (j : Nat) (fm1 : List Nat), j ≤ ms.length ∧ i = .int .i64 j ∧ ArrAt wr B (syncS (x, ms) j).1 (syncS (x, ms) j).2 ds fm1 fd ∧ Moved B fm w fm1 wr) (fun i _ => ms.length - (intOf i).toNat)
  case atStart => exact ⟨0, fm, Nat.zero_le _, rfl, H0.out, Moved.refl _ _ _⟩
  case round =>
    obtain ⟨j, fm1, hj, rfl, hA, hMv⟩ := hrel
    obtain ⟨hMj, hsj, hlj⟩ := HK.out j
    have hfj := hsj.2.2.2.2.2.2.2.2.2.1
    have HS := hidden (syncS_succ (x, ms) j)
    generalize hst : syncS (x, ms) j = st at hA hMj hsj hlj hfj HS
    have HST := hidden hst
    clear hst
    obtain ⟨y, ns⟩ := st
    dsimp only at hA hMj hsj hlj hfj
    have HA := hidden hA
    obtain ⟨bm, bd, cm, cd, X, hmm, hdd, hr, r1, r2⟩ := hA
    rw [hlj] at X hmm
    have X0 := X
    unfold arrC at X0
    obtain ⟨k0, k1, k2, k3, k4, k5, k6, k7, k8, k9, k10, k11, k12⟩ := X0.cells13
    by_cases hjn : j < ms.length
    · have i2 : (j : Int) < (ms.length : Int) := by omega
      have i1 : (0 : Int) ≤ (j : Int) := by omega
      obtain ⟨g, rfl⟩ := row_head hmm (by omega)
      have hdj : ns[j]? = some (ns[j]'(by omega)) := List.getElem?_eq_getElem (by omega)
      generalize ns[j]'(by omega) = d at hdj
      obtain ⟨hgl, a0, a1, a3, c0, c1, c3, ss, cs, f, bs, rfl, q0, q1, q2, q3, _, _, _⟩ := disk_at hmm hdj
      have MV := hidden hMv
      clear X X0 hmm hdd hMv
      cases f
      · go_wp2_with fail
        refine (l7Op_any _ B y ns ds fm1 fd HA.out hfj).mono ?_
        rintro e w1 ⟨rfl, hA1, hMv1⟩
        clear k0 k1 k2 k3 k4 k5 k6 k7 k8 k9 k10 k11 k12 q0 q1 q2 q3 HA
        cases ho : opB y
        · have HP : Hid (syncS (x, ms) (j + 1) = (opX y, ns)) := HS.out.trans (doS_no hdj rfl ho)
          have HB := hidden (MV.out.trans hMv1)
          have HA1 := hidden hA1
          clear hA1 hMv1
          go_wp2
          go_roundw
          case rel => exact ⟨j + 1, fm1, by omega, by go_num, by rw [HP.out]; exact HA1.out, HB.out⟩
          case measure => simp [intOf]; omega
        · have HP : Hid (syncS (x, ms) (j + 1) = (opX y, ns.set j (flM (ss, cs, false, bs)))) := HS.out.trans (doS_yes hdj rfl ho)
          obtain ⟨bm, bd, cm, cd, X, hmm, hdd, hr, r1, r2⟩ := hA1
          obtain ⟨g, rfl⟩ := row_head hmm (by omega)
          obtain ⟨hgl, a0, a1, a3, c0, c1, c3, ss, cs, f, bs, hde, q0, q1, q2, q3, p0, p1, p3⟩ := disk_at hmm hdj
          simp only [Prod.mk.injEq] at hde
          obtain ⟨rfl, rfl, rfl, rfl⟩ := hde
          have X0 := X
          unfold arrC at X0
          have x3 := X0.cells13.2.2.2.1
          have hwt := memB_light (hMj j _ hdj) false
          dsimp only at hwt
          have zB := X.lt
          have XH := hidden X
          have MH := hidden hmm
          have DH := hidden hdd
          have MV1 := hidden hMv1
          have R0 := hidden p0
          have R1 := hidden p1
          have R3 := hidden p3
          have hS : w1.drew.cell? ⟨B, 3, none⟩ = some (.slice (some ⟨g, 0, none⟩) ns.length cm) ∧ w1.drew.cell? ⟨g, j * 4, none⟩ = some (.slice a0 ss.length c0) ∧ w1.drew.cell? ⟨g, j * 4 + 1, none⟩ = some (.slice a1 cs.length c1) ∧ w1.drew.cell? ⟨g, j * 4 + 2, none⟩ = some (.bool false) ∧ w1.drew.cell? ⟨g, j * 4 + 3, none⟩ = some (.slice a3 bs.length c3) := ⟨x3, q0, q1, q2, q3⟩
          have i3 : (j : Int) < (ns.length : Int) := by omega
          clear X X0 hmm hdd hMv1 p0 p1 p3
          go_wp2_with fail
          refine Upto.start (S := fun w' => w'.cell? ⟨B, 3, none⟩ = some (.slice (some ⟨g, 0, none⟩) ns.length cm) ∧ w'.cell? ⟨g, j * 4, none⟩ = some (.slice a0 ss.length c0) ∧ w'.cell? ⟨g, j * 4 + 1, none⟩ = some (.slice a1 cs.length c1) ∧ w'.cell? ⟨g, j * 4 + 2, none⟩ = some (.bool false) ∧ w'.cell? ⟨g, j * 4 + 3, none⟩ = some (.slice a3 bs.length c3)) (k := 14) (by kernel_rfl) ?_
          refine Upto.take (i := 0) (v := ?_) rfl (by kernel_rfl) (by kernel_rfl) (by kernel_rfl) (by kernel_rfl) (fun _ _ _ h => h) (Or.inl ⟨by rfl, ?_⟩) hS ?_
          rotate_left 1
          · (intro w hSw; (try dsimp only at hSw); go_split_ands; go_simp; first | done | with_reducible rfl)
          simp only [Act.put, List.setIfInBounds_toArray, List.set_cons_zero, List.set_cons_succ]
          refine Upto.take (i := 1) (v := ?_) rfl (by kernel_rfl) (by kernel_rfl) (by kernel_rfl) (by kernel_rfl) (fun _ _ _ h => h) (Or.inl ⟨by rfl, ?_⟩) hS ?_
          rotate_left 1
          · (intro w hSw; (try dsimp only at hSw); go_split_ands; go_simp; first | done | with_reducible rfl)
          simp only [Act.put, List.setIfInBounds_toArray, List.set_cons_zero, List.set_cons_succ]
          refine Upto.take (i := 2) (v := ?_) rfl (by kernel_rfl) (by kernel_rfl) (by kernel_rfl) (by kernel_rfl) (fun _ _ _ h => h) (Or.inl ⟨by rfl, ?_⟩) hS ?_
          rotate_left 1
          · (intro w hSw; (try dsimp only at hSw); go_split_ands; go_simp; first | done | with_reducible rfl)
          simp only [Act.put, List.setIfInBounds_toArray, List.set_cons_zero, List.set_cons_succ]
          refine Upto.take (i := 3) (v := ?_) rfl (by kernel_rfl) (by kernel_rfl) (by kernel_rfl) (by kernel_rfl) (fun _ _ _ h => h) (Or.inl ⟨by rfl, ?_⟩) hS ?_
          rotate_left 1
          · (intro w hSw; (try dsimp only at hSw); go_split_ands; go_simp; first | done | with_reducible rfl)
          simp only [Act.put, List.setIfInBounds_toArray, List.set_cons_zero, List.set_cons_succ]
          refine Upto.take (i := 4) (v := ?_) rfl (by kernel_rfl) (by kernel_rfl) (by kernel_rfl) (by kernel_rfl) (fun _ _ _ h => h) (Or.inl ⟨by rfl, ?_⟩) hS ?_
          rotate_left 1
          · (intro w hSw; (try dsimp only at hSw); go_split_ands; go_simp; first | done | with_reducible rfl)
          simp only [Act.put, List.setIfInBounds_toArray, List.set_cons_zero, List.set_cons_succ]
          refine Upto.take (i := 5) (v := ?_) rfl (by kernel_rfl) (by kernel_rfl) (by kernel_rfl) (by kernel_rfl) (fun _ _ _ h => h) (Or.inl ⟨by rfl, ?_⟩) hS ?_
          rotate_left 1
          · (intro w hSw; (try dsimp only at hSw); go_split_ands; go_simp; first | done | with_reducible rfl)
          simp only [Act.put, List.setIfInBounds_toArray, List.set_cons_zero, List.set_cons_succ]
          refine Upto.take (i := 6) (v := ?_) rfl (by kernel_rfl) (by kernel_rfl) (by kernel_rfl) (by kernel_rfl) (fun _ _ _ h => h) (Or.inl ⟨by rfl, ?_⟩) hS ?_
          rotate_left 1
          · (intro w hSw; (try dsimp only at hSw); go_split_ands; go_simp; first | done | with_reducible rfl)
          simp only [Act.put, List.setIfInBounds_toArray, List.set_cons_zero, List.set_cons_succ]
          refine Upto.take (i := 7) (v := ?_) rfl (by kernel_rfl) (by kernel_rfl) (by kernel_rfl) (by kernel_rfl) (fun _ _ _ h => h) (Or.inl ⟨by rfl, ?_⟩) hS ?_
          rotate_left 1
          · (intro w hSw; (try dsimp only at hSw); go_split_ands; go_simp; first | done | with_reducible rfl)
          simp only [Act.put, List.setIfInBounds_toArray, List.set_cons_zero, List.set_cons_succ]
          refine Upto.take (i := 8) (v := ?_) rfl (by kernel_rfl) (by kernel_rfl) (by kernel_rfl) (by kernel_rfl) (fun _ _ _ h => h) (Or.inl ⟨by rfl, ?_⟩) hS ?_
          rotate_left 1
          · (intro w hSw; (try dsimp only at hSw); go_split_ands; go_simp; first | done | with_reducible rfl)
          simp only [Act.put, List.setIfInBounds_toArray, List.set_cons_zero, List.set_cons_succ]
          refine Upto.take (i := 9) (v := ?_) rfl (by kernel_rfl) (by kernel_rfl) (by kernel_rfl) (by kernel_rfl) (fun _ _ _ h => h) (Or.inl ⟨by rfl, ?_⟩) hS ?_
          rotate_left 1
          · (intro w hSw; (try dsimp only at hSw); go_split_ands; go_simp; first | done | with_reducible rfl)
          simp only [Act.put, List.setIfInBounds_toArray, List.set_cons_zero, List.set_cons_succ]
          refine Upto.take (i := 10) (v := ?_) rfl (by kernel_rfl) (by kernel_rfl) (by kernel_rfl) (by kernel_rfl) (fun _ _ _ h => h) (Or.inl ⟨by rfl, ?_⟩) hS ?_
          rotate_left 1
          · (intro w hSw; (try dsimp only at hSw); go_split_ands; go_simp; first | done | with_reducible rfl)
          simp only [Act.put, List.setIfInBounds_toArray, List.set_cons_zero, List.set_cons_succ]
          refine Upto.take (i := 11) (v := ?_) rfl (by kernel_rfl) (by kernel_rfl) (by kernel_rfl) (by kernel_rfl) (fun _ _ _ h => h) (Or.inl ⟨by rfl, ?_⟩) hS ?_
          rotate_left 1
          · (intro w hSw; (try dsimp only at hSw); go_split_ands; go_simp; first | done | with_reducible rfl)
          simp only [Act.put, List.setIfInBounds_toArray, List.set_cons_zero, List.set_cons_succ]
          refine Upto.one (i := 12) (by kernel_rfl) rfl (fun K hK => ?_)
          go_simp
          refine (specFlushMem_any _ 104 _ _ _ _ _ _ _ _ _ ss cs false bs R0.out.drew R1.out.drew R3.out.drew (by omega)).mono ?_
          rintro e w2 ⟨u0, u1, u3, rfl, o2, b2'⟩
          have b2 : Below w1.heap.size w1 w2 := (Below.refl w1.heap.size w1).drew.trans b2'
          have o2b : (tMem 104).Own w2 w1.heap.size w2.heap.size [u0, u1, .bool false, u3] _ := o2
          obtain ⟨d0, l0, f0, d1, l1, f1, d3, l3, f3, hv0, hv1, hv3⟩ := mem_slices o2b
          subst hv0 hv1 hv3
          obtain ⟨fpx, mx, rx⟩ := o2b.mine
          obtain ⟨cOld, fz, hgm, fm9, hA9, hMv9⟩ := arr_store (m := j) XH.out MH.out DH.out hr r1 r2 b2 (by omega) mx (fun b hb => (rx b hb).1)
          obtain ⟨o0, t0⟩ := cOld 0 (by omega)
          obtain ⟨o1, t1⟩ := cOld 1 (by omega)
          obtain ⟨o2', t2⟩ := cOld 2 (by omega)
          obtain ⟨o3, t3⟩ := cOld 3 (by omega)
          rw [Nat.add_zero] at t0
          have HA := hidden hA9
          have HMV := hidden ((MV.out.trans MV1.out).trans hMv9)
          have hS2 : w2.cell? ⟨B, 3, none⟩ = some (.slice (some ⟨g, 0, none⟩) ns.length cm) ∧ w2.cell? ⟨g, j * 4, none⟩ = some (.slice a0 ss.length c0) ∧ w2.cell? ⟨g, j * 4 + 1, none⟩ = some (.slice a1 cs.length c1) ∧ w2.cell? ⟨g, j * 4 + 2, none⟩ = some (.bool false) ∧ w2.cell? ⟨g, j * 4 + 3, none⟩ = some (.slice a3 bs.length c3) := ⟨(b2.cell (p := ⟨B, 3, none⟩) zB).trans x3, (b2.cell (p := ⟨g, j * 4, none⟩) hgl).trans q0, (b2.cell (p := ⟨g, j * 4 + 1, none⟩) hgl).trans q1, (b2.cell (p := ⟨g, j * 4 + 2, none⟩) hgl).trans q2, (b2.cell (p := ⟨g, j * 4 + 3, none⟩) hgl).trans q3⟩
          have gB : ¬ g = B := fun e => r1 (e ▸ hgm)
          unfold put4 at HA HMV
          clear x3 q0 q1 q2 q3 o2 o2b b2 b2' mx rx cOld hA9 hMv9 XH MH DH MV MV1 R0 R1 R3 hwt
          go_wp2_with fail
          refine hK.out _ _ (fun _ => hS2) ?_
          clear hK K
          refine Upto.take (i := 13) (v := ?_) rfl (by kernel_rfl) (by kernel_rfl) (by kernel_rfl) (by kernel_rfl) (fun _ _ _ h => h) (Or.inl ⟨by rfl, ?_⟩) hS2 ?_
          rotate_left 1
          · (intro w hSw; (try dsimp only at hSw); go_split_ands; go_simp; first | done | with_reducible rfl)
          simp only [Act.put, List.setIfInBounds_toArray, List.set_cons_zero, List.set_cons_succ]
          refine Upto.one (i := 14) (by kernel_rfl) rfl (fun K hK => ?_)
          go_simp
          refine hK.out _ _ (fun h => absurd rfl h) ?_
          clear hK K
          refine Upto.done (by kernel_rfl) ?_ _
          clear hS hS2 t0 t1 t2 t3 fz
          go_wp2
          go_roundw
          case rel => exact ⟨j + 1, fm9, by omega, by go_num, by rw [HP.out]; exact HA.out, HMV.out⟩
          case measure => simp [intOf]; omega
      · have HP : Hid (syncS (x, ms) (j + 1) = (y, ns)) := HS.out.trans (doS_failed hdj rfl)
        go_wp2
        go_roundw
        case rel => exact ⟨j + 1, fm1, by omega, by go_num, by rw [HP.out]; exact HA.out, MV.out⟩
        case measure => simp [intOf]; omega
    · have ej : j = ms.length := by omega
      subst ej
      have HMV := hidden hMv
      clear X X0 hmm hdd hMv
      go_wp2
      refine bodyPost_end (v := .tuple #[]) (results_none rfl _ _ _) rfl ?_
      exact ⟨rfl, fm1, by rw [HST.out]; exact HA.out, HMV.out⟩


end Go.Proofs.YthkpkpclmemodaaGreat

/-
  The walks of the specification's l7Mark and l7Check: every disk is marked by its Super; all is checked. Conditions: the power goes within 1000 operations, or stays; every disk is right; Gen is 0 .. 60000.
-/
namespace Go.Proofs.YthkpkpclmemodaaGreat
open Go.RowKit

theorem putD_len9 (x : Sup) : (putD x).length ≤ 9 := by unfold putD; split <;> simp

set_option linter.unusedSimpArgs false in
set_option maxRecDepth 20000 in
set_option maxHeartbeats 3200000 in
theorem l7Mark_any (w : World) (B : Nat) (x : ArrN) (ms : List MemD) (ds : List (Int × List Int)) (fm fd : List Nat) (h : ArrAt w B x ms ds fm fd) (hf : x.fuse ≤ 1000) (hM : MsOk ms) (hg0 : 0 ≤ x.gen) (hg1 : x.gen ≤ 60000) :
    Calls Tryz.prog 24 #[.pointer (some ⟨B, 0, none⟩)] w fun e w' => e = .returned (.tuple #[]) ∧ ∃ fm', ArrAt w' B (markS (x, ms)).1 (markS (x, ms)).2 ds fm' fd ∧ Moved B fm w fm' w' := by
  obtain ⟨x1, hx1⟩ : ∃ x1 : ArrN, x1 = {x with gen := x.gen + 1} := ⟨_, rfl⟩
  have hf1 : x1.fuse ≤ 1000 := by rw [hx1]; exact hf
  have hgen : x1.gen = x.gen + 1 := by rw [hx1]
  have hgw : IntKind.i64.wrap (x.gen + 1) = x.gen + 1 := IntWalk.i64_in _ (by omega)
  have HK : Hid (∀ j, _) := fun j => supsS_keeps (q := (x1, ms)) hM hf1 j
  have HMK : Hid (markS (x, ms) = syncS (supsS (x1, ms) ms.length) ms.length) := by rw [hx1]; rfl
  obtain ⟨bm0, bd0, cm0, cd0, X0, hm0, hd0, hr0, r10, r20⟩ := h
  have hmx := (row_length hm0.rd).2
  have A1 : Hid (ArrAt (w.setCell ⟨B, 8, none⟩ (.int .i64 (x.gen + 1))) B x1 ms ds fm fd) := by
    unfold Hid
    rw [hx1]
    exact ⟨bm0, bd0, cm0, cd0, X0.set 8 (.int .i64 (x.gen + 1)), hm0.setCell (g := B) (j := 8) r10 _, hd0.setCell (g := B) (j := 8) r20 _, hr0, r10, r20⟩
  have M1 := hidden (Moved.set (B := B) (j := 8) (fm := fm) (w := w) (.int .i64 (x.gen + 1)))
  unfold arrC at X0
  obtain ⟨k0, k1, k2, k3, k4, k5, k6, k7, k8, k9, k10, k11, k12⟩ := X0.cells13
  have fz := X0.frozen
  have hgn : 0 ≤ x1.gen ∧ x1.gen ≤ 60001 := by omega
  clear X0 hm0 hd0 hr0 r10 r20 hx1 hgen
  go_enter Tryz.func24, Tryz.ntmps24
  go_wp2
  generalize w.setCell ⟨B, 8, none⟩ (.int .i64 (x.gen + 1)) = W at A1 M1 ⊢
  clear k0 k1 k2 k3 k4 k5 k6 k7 k8 k9 k10 k11 k12 fz
  go_loopw [2] (fun i wr => ∃ (j : Nat) (fm1 : List Nat), j ≤ ms.length ∧ i = .int .i64 j ∧ ArrAt wr B (supsS (x1, ms) j).1 (supsS (x1, ms) j).2 ds fm1 fd ∧ Moved B fm w fm1 wr) (fun i _ => ms.length - (intOf i).toNat)
  case atStart => exact ⟨0, fm, Nat.zero_le _, rfl, A1.out, M1.out⟩
  case round =>
    clear A1 M1
    obtain ⟨j, fm1, hj, rfl, hA, hMv⟩ := hrel
    obtain ⟨hMj, hsj, hlj⟩ := HK.out j
    have hfj := hsj.2.2.2.2.2.2.2.2.2.1
    have hgj := hsj.2.2.2.2.2.2.2.1
    have HS := hidden (supsS_succ (x1, ms) j)
    generalize hst : supsS (x1, ms) j = st at hA hMj hsj hlj hfj hgj HS
    have HST := hidden hst
    clear hst
    obtain ⟨y, ns⟩ := st
    dsimp only at hA hMj hsj hlj hfj hgj HS
    have hgy : 0 ≤ y.gen ∧ y.gen ≤ 60001 := by omega
    clear hgj hsj
    have HA := hidden hA
    obtain ⟨bm, bd, cm, cd, X, hmm, hdd, hr, r1, r2⟩ := hA
    rw [hlj] at X
    unfold arrC at X
    have zB := X.lt
    have XH := hidden X
    obtain ⟨k0, k1, k2, k3, k4, k5, k6, k7, k8, k9, k10, k11, k12⟩ := X.cells13
    clear hmm hdd hr r1 r2 X
    by_cases hjn : j < ms.length
    · have i2 : (j : Int) < (ms.length : Int) := by omega
      have t2 : y.gen.tmod 2 = y.gen % 2 := Int.tmod_eq_emod_of_nonneg hgy.1
      have t3 : IntKind.i64.wrap (y.gen % 2) = y.gen % 2 := IntWalk.i64_in _ (by omega)
      have t4 : ¬ (2 : Int) = 0 := by omega
      have MV := hidden hMv
      clear hMv
      have hS : wr.drew.cell? ⟨B, 0, none⟩ = some (.int .i64 y.id) ∧ wr.drew.cell? ⟨B, 1, none⟩ = some (.int .i64 y.n) ∧ wr.drew.cell? ⟨B, 2, none⟩ = some (.int .i64 y.s) ∧ wr.drew.cell? ⟨B, 4, none⟩ = some (.int .i64 y.lost) ∧ wr.drew.cell? ⟨B, 5, none⟩ = some (.int .i64 y.built) ∧ wr.drew.cell? ⟨B, 7, none⟩ = some (.int .i64 y.tail) ∧ wr.drew.cell? ⟨B, 8, none⟩ = some (.int .i64 y.gen) := ⟨k0, k1, k2, k4, k5, k7, k8⟩
      go_wp2_with fail
      refine wp_region_held_drew (S := fun w' => w'.cell? ⟨B, 0, none⟩ = some (.int .i64 y.id) ∧ w'.cell? ⟨B, 1, none⟩ = some (.int .i64 y.n) ∧ w'.cell? ⟨B, 2, none⟩ = some (.int .i64 y.s) ∧ w'.cell? ⟨B, 4, none⟩ = some (.int .i64 y.lost) ∧ w'.cell? ⟨B, 5, none⟩ = some (.int .i64 y.built) ∧ w'.cell? ⟨B, 7, none⟩ = some (.int .i64 y.tail) ∧ w'.cell? ⟨B, 8, none⟩ = some (.int .i64 y.gen)) (by kernel_rfl) ?_ (fun hHeld => ?_)
      · exact hS
      refine held_take (i := 0) (v := ?_) rfl (by kernel_rfl) (by kernel_rfl) (by kernel_rfl) (fun _ _ _ h => h) (by kernel_rfl) ?_ hHeld ?_
      rotate_left 1
      · (intro w hSw; (try dsimp only at hSw); go_split_ands; go_simp; first | done | with_reducible rfl)
      simp only [Act.put, List.setIfInBounds_toArray, List.set_cons_zero, List.set_cons_succ]
      refine held_take (i := 1) (v := ?_) rfl (by kernel_rfl) (by kernel_rfl) (by kernel_rfl) (fun _ _ _ h => h) (by kernel_rfl) ?_ hHeld ?_
      rotate_left 1
      · (intro w hSw; (try dsimp only at hSw); go_split_ands; go_simp; first | done | with_reducible rfl)
      simp only [Act.put, List.setIfInBounds_toArray, List.set_cons_zero, List.set_cons_succ]
      refine held_take (i := 2) (v := ?_) rfl (by kernel_rfl) (by kernel_rfl) (by kernel_rfl) (fun _ _ _ h => h) (by kernel_rfl) ?_ hHeld ?_
      rotate_left 1
      · (intro w hSw; (try dsimp only at hSw); go_split_ands; go_simp; first | done | with_reducible rfl)
      simp only [Act.put, List.setIfInBounds_toArray, List.set_cons_zero, List.set_cons_succ]
      refine held_take (i := 3) (v := ?_) rfl (by kernel_rfl) (by kernel_rfl) (by kernel_rfl) (fun _ _ _ h => h) (by kernel_rfl) ?_ hHeld ?_
      rotate_left 1
      · (intro w hSw; (try dsimp only at hSw); go_split_ands; go_simp; first | done | with_reducible rfl)
      simp only [Act.put, List.setIfInBounds_toArray, List.set_cons_zero, List.set_cons_succ]
      refine held_take (i := 4) (v := ?_) rfl (by kernel_rfl) (by kernel_rfl) (by kernel_rfl) (fun _ _ _ h => h) (by kernel_rfl) ?_ hHeld ?_
      rotate_left 1
      · (intro w hSw; (try dsimp only at hSw); go_split_ands; go_simp; first | done | with_reducible rfl)
      simp only [Act.put, List.setIfInBounds_toArray, List.set_cons_zero, List.set_cons_succ]
      refine held_take (i := 5) (v := ?_) rfl (by kernel_rfl) (by kernel_rfl) (by kernel_rfl) (fun _ _ _ h => h) (by kernel_rfl) ?_ hHeld ?_
      rotate_left 1
      · (intro w hSw; (try dsimp only at hSw); go_split_ands; go_simp; first | done | with_reducible rfl)
      simp only [Act.put, List.setIfInBounds_toArray, List.set_cons_zero, List.set_cons_succ]
      refine held_take (i := 6) (v := ?_) rfl (by kernel_rfl) (by kernel_rfl) (by kernel_rfl) (fun _ _ _ h => h) (by kernel_rfl) ?_ hHeld ?_
      rotate_left 1
      · (intro w hSw; (try dsimp only at hSw); go_split_ands; go_simp; first | done | with_reducible rfl)
      simp only [Act.put, List.setIfInBounds_toArray, List.set_cons_zero, List.set_cons_succ]
      refine held_take (i := 7) (v := ?_) rfl (by kernel_rfl) (by kernel_rfl) (by kernel_rfl) (fun _ _ _ h => h) (by kernel_rfl) ?_ hHeld ?_
      rotate_left 1
      · (intro w hSw; (try dsimp only at hSw); go_split_ands; go_simp; first | done | with_reducible rfl)
      simp only [Act.put, List.setIfInBounds_toArray, List.set_cons_zero, List.set_cons_succ]
      refine held_take (i := 8) (v := ?_) rfl (by kernel_rfl) (by kernel_rfl) (by kernel_rfl) (fun _ _ _ h => h) (by kernel_rfl) ?_ hHeld ?_
      rotate_left 1
      · (intro w hSw; (try dsimp only at hSw); go_split_ands; go_simp; first | done | with_reducible rfl)
      simp only [Act.put, List.setIfInBounds_toArray, List.set_cons_zero, List.set_cons_succ]
      refine held_take (i := 9) (v := ?_) rfl (by kernel_rfl) (by kernel_rfl) (by kernel_rfl) (fun _ _ _ h => h) (by kernel_rfl) ?_ hHeld ?_
      rotate_left 1
      · (intro w hSw; (try dsimp only at hSw); go_split_ands; go_simp; first | done | with_reducible rfl)
      simp only [Act.put, List.setIfInBounds_toArray, List.set_cons_zero, List.set_cons_succ]
      refine held_take (i := 10) (v := ?_) rfl (by kernel_rfl) (by kernel_rfl) (by kernel_rfl) (fun _ _ _ h => h) (by kernel_rfl) ?_ hHeld ?_
      rotate_left 1
      · (intro w hSw; (try dsimp only at hSw); go_split_ands; go_simp; first | done | with_reducible rfl)
      simp only [Act.put, List.setIfInBounds_toArray, List.set_cons_zero, List.set_cons_succ]
      refine held_take (i := 11) (v := ?_) rfl (by kernel_rfl) (by kernel_rfl) (by kernel_rfl) (fun _ _ _ h => h) (by kernel_rfl) ?_ hHeld ?_
      rotate_left 1
      · (intro w hSw; (try dsimp only at hSw); go_split_ands; go_simp; first | done | with_reducible rfl)
      simp only [Act.put, List.setIfInBounds_toArray, List.set_cons_zero, List.set_cons_succ]
      refine held_take (i := 12) (v := ?_) rfl (by kernel_rfl) (by kernel_rfl) (by kernel_rfl) (fun _ _ _ h => h) (by kernel_rfl) ?_ hHeld ?_
      rotate_left 1
      · (intro w hSw; (try dsimp only at hSw); go_split_ands; go_simp; first | done | with_reducible rfl)
      simp only [Act.put, List.setIfInBounds_toArray, List.set_cons_zero, List.set_cons_succ]
      refine held_take (i := 13) (v := ?_) rfl (by kernel_rfl) (by kernel_rfl) (by kernel_rfl) (fun _ _ _ h => h) (by kernel_rfl) ?_ hHeld ?_
      rotate_left 1
      · (intro w hSw; (try dsimp only at hSw); go_split_ands; go_simp; first | done | with_reducible rfl)
      simp only [Act.put, List.setIfInBounds_toArray, List.set_cons_zero, List.set_cons_succ]
      refine held_take (i := 14) (v := ?_) rfl (by kernel_rfl) (by kernel_rfl) (by kernel_rfl) (fun _ _ _ h => h) (by kernel_rfl) ?_ hHeld ?_
      rotate_left 1
      · (intro w hSw; (try dsimp only at hSw); go_split_ands; go_simp; first | done | with_reducible rfl)
      simp only [Act.put, List.setIfInBounds_toArray, List.set_cons_zero, List.set_cons_succ]
      refine held_take (i := 15) (v := ?_) rfl (by kernel_rfl) (by kernel_rfl) (by kernel_rfl) (fun _ _ _ h => h) (by kernel_rfl) ?_ hHeld ?_
      rotate_left 1
      · (intro w hSw; (try dsimp only at hSw); go_split_ands; go_simp; first | done | with_reducible rfl)
      simp only [Act.put, List.setIfInBounds_toArray, List.set_cons_zero, List.set_cons_succ]
      refine held_take (i := 16) (v := ?_) rfl (by kernel_rfl) (by kernel_rfl) (by kernel_rfl) (fun _ _ _ h => h) (by kernel_rfl) ?_ hHeld ?_
      rotate_left 1
      · (intro w hSw; (try dsimp only at hSw); go_split_ands; go_simp; first | done | with_reducible rfl)
      simp only [Act.put, List.setIfInBounds_toArray, List.set_cons_zero, List.set_cons_succ]
      refine held_take (i := 17) (v := ?_) rfl (by kernel_rfl) (by kernel_rfl) (by kernel_rfl) (fun _ _ _ h => h) (by kernel_rfl) ?_ hHeld ?_
      rotate_left 1
      · (intro w hSw; (try dsimp only at hSw); go_split_ands; go_simp; first | done | with_reducible rfl)
      simp only [Act.put, List.setIfInBounds_toArray, List.set_cons_zero, List.set_cons_succ]
      refine held_take (i := 18) (v := ?_) rfl (by kernel_rfl) (by kernel_rfl) (by kernel_rfl) (fun _ _ _ h => h) (by kernel_rfl) ?_ hHeld ?_
      rotate_left 1
      · (intro w hSw; (try dsimp only at hSw); go_split_ands; go_simp; first | done | with_reducible rfl)
      simp only [Act.put, List.setIfInBounds_toArray, List.set_cons_zero, List.set_cons_succ]
      refine held_take (i := 19) (v := ?_) rfl (by kernel_rfl) (by kernel_rfl) (by kernel_rfl) (fun _ _ _ h => h) (by kernel_rfl) ?_ hHeld ?_
      rotate_left 1
      · (intro w hSw; (try dsimp only at hSw); go_split_ands; go_simp; first | done | with_reducible rfl)
      simp only [Act.put, List.setIfInBounds_toArray, List.set_cons_zero, List.set_cons_succ]
      refine held_take (i := 20) (v := ?_) rfl (by kernel_rfl) (by kernel_rfl) (by kernel_rfl) (fun _ _ _ h => h) (by kernel_rfl) ?_ hHeld ?_
      rotate_left 1
      · (intro w hSw; (try dsimp only at hSw); go_split_ands; go_simp; first | done | with_reducible rfl)
      simp only [Act.put, List.setIfInBounds_toArray, List.set_cons_zero, List.set_cons_succ]
      refine held_take (i := 21) (v := ?_) rfl (by kernel_rfl) (by kernel_rfl) (by kernel_rfl) (fun _ _ _ h => h) (by kernel_rfl) ?_ hHeld ?_
      rotate_left 1
      · (intro w hSw; (try dsimp only at hSw); go_split_ands; go_simp; first | done | with_reducible rfl)
      simp only [Act.put, List.setIfInBounds_toArray, List.set_cons_zero, List.set_cons_succ]
      refine held_take (i := 22) (v := ?_) rfl (by kernel_rfl) (by kernel_rfl) (by kernel_rfl) (fun _ _ _ h => h) (by kernel_rfl) ?_ hHeld ?_
      rotate_left 1
      · (intro w hSw; (try dsimp only at hSw); go_split_ands; go_simp; first | done | with_reducible rfl)
      simp only [Act.put, List.setIfInBounds_toArray, List.set_cons_zero, List.set_cons_succ]
      refine held_take (i := 23) (v := ?_) rfl (by kernel_rfl) (by kernel_rfl) (by kernel_rfl) (fun _ _ _ h => h) (by kernel_rfl) ?_ hHeld ?_
      rotate_left 1
      · (intro w hSw; (try dsimp only at hSw); go_split_ands; go_simp; first | done | with_reducible rfl)
      simp only [Act.put, List.setIfInBounds_toArray, List.set_cons_zero, List.set_cons_succ]
      refine held_take (i := 24) (v := ?_) rfl (by kernel_rfl) (by kernel_rfl) (by kernel_rfl) (fun _ _ _ h => h) (by kernel_rfl) ?_ hHeld ?_
      rotate_left 1
      · (intro w hSw; (try dsimp only at hSw); go_split_ands; go_simp; first | done | with_reducible rfl)
      simp only [Act.put, List.setIfInBounds_toArray, List.set_cons_zero, List.set_cons_succ]
      refine held_take (i := 25) (v := ?_) rfl (by kernel_rfl) (by kernel_rfl) (by kernel_rfl) (fun _ _ _ h => h) (by kernel_rfl) ?_ hHeld ?_
      rotate_left 1
      · (intro w hSw; (try dsimp only at hSw); go_split_ands; go_simp; first | done | with_reducible rfl)
      simp only [Act.put, List.setIfInBounds_toArray, List.set_cons_zero, List.set_cons_succ]
      refine held_take (i := 26) (v := ?_) rfl (by kernel_rfl) (by kernel_rfl) (by kernel_rfl) (fun _ _ _ h => h) (by kernel_rfl) ?_ hHeld ?_
      rotate_left 1
      · (intro w hSw; (try dsimp only at hSw); go_split_ands; go_simp; first | done | with_reducible rfl)
      simp only [Act.put, List.setIfInBounds_toArray, List.set_cons_zero, List.set_cons_succ]
      refine held_take (i := 27) (v := ?_) rfl (by kernel_rfl) (by kernel_rfl) (by kernel_rfl) (fun _ _ _ h => h) (by kernel_rfl) ?_ hHeld ?_
      rotate_left 1
      · (intro w hSw; (try dsimp only at hSw); go_split_ands; go_simp; first | done | with_reducible rfl)
      simp only [Act.put, List.setIfInBounds_toArray, List.set_cons_zero, List.set_cons_succ]
      refine held_take (i := 28) (v := ?_) rfl (by kernel_rfl) (by kernel_rfl) (by kernel_rfl) (fun _ _ _ h => h) (by kernel_rfl) ?_ hHeld ?_
      rotate_left 1
      · (intro w hSw; (try dsimp only at hSw); go_split_ands; go_simp; first | done | with_reducible rfl)
      simp only [Act.put, List.setIfInBounds_toArray, List.set_cons_zero, List.set_cons_succ]
      refine held_take (i := 29) (v := ?_) rfl (by kernel_rfl) (by kernel_rfl) (by kernel_rfl) (fun _ _ _ h => h) (by kernel_rfl) ?_ hHeld ?_
      rotate_left 1
      · (intro w hSw; (try dsimp only at hSw); go_split_ands; go_simp; first | done | with_reducible rfl)
      simp only [Act.put, List.setIfInBounds_toArray, List.set_cons_zero, List.set_cons_succ]
      refine held_take (i := 30) (v := ?_) rfl (by kernel_rfl) (by kernel_rfl) (by kernel_rfl) (fun _ _ _ h => h) (by kernel_rfl) ?_ hHeld ?_
      rotate_left 1
      · (intro w hSw; (try dsimp only at hSw); go_split_ands; go_simp; first | done | with_reducible rfl)
      simp only [Act.put, List.setIfInBounds_toArray, List.set_cons_zero, List.set_cons_succ]
      refine held_take (i := 31) (v := ?_) rfl (by kernel_rfl) (by kernel_rfl) (by kernel_rfl) (fun _ _ _ h => h) (by kernel_rfl) ?_ hHeld ?_
      rotate_left 1
      · (intro w hSw; (try dsimp only at hSw); go_split_ands; go_simp; first | done | with_reducible rfl)
      simp only [Act.put, List.setIfInBounds_toArray, List.set_cons_zero, List.set_cons_succ]
      refine held_take (i := 32) (v := ?_) rfl (by kernel_rfl) (by kernel_rfl) (by kernel_rfl) (fun _ _ _ h => h) (by kernel_rfl) ?_ hHeld ?_
      rotate_left 1
      · (intro w hSw; (try dsimp only at hSw); go_split_ands; go_simp; first | done | with_reducible rfl)
      simp only [Act.put, List.setIfInBounds_toArray, List.set_cons_zero, List.set_cons_succ]
      refine held_take (i := 33) (v := ?_) rfl (by kernel_rfl) (by kernel_rfl) (by kernel_rfl) (fun _ _ _ h => h) (by kernel_rfl) ?_ hHeld ?_
      rotate_left 1
      · (intro w hSw; (try dsimp only at hSw); go_split_ands; go_simp; first | done | with_reducible rfl)
      simp only [Act.put, List.setIfInBounds_toArray, List.set_cons_zero, List.set_cons_succ]
      refine held_take (i := 34) (v := ?_) rfl (by kernel_rfl) (by kernel_rfl) (by kernel_rfl) (fun _ _ _ h => h) (by kernel_rfl) ?_ hHeld ?_
      rotate_left 1
      · (intro w hSw; (try dsimp only at hSw); go_split_ands; go_simp; first | done | with_reducible rfl)
      simp only [Act.put, List.setIfInBounds_toArray, List.set_cons_zero, List.set_cons_succ]
      refine held_take (i := 35) (v := ?_) rfl (by kernel_rfl) (by kernel_rfl) (by kernel_rfl) (fun _ _ _ h => h) (by kernel_rfl) ?_ hHeld ?_
      rotate_left 1
      · (intro w hSw; (try dsimp only at hSw); go_split_ands; go_simp; first | done | with_reducible rfl)
      simp only [Act.put, List.setIfInBounds_toArray, List.set_cons_zero, List.set_cons_succ]
      refine held_take (i := 36) (v := ?_) rfl (by kernel_rfl) (by kernel_rfl) (by kernel_rfl) (fun _ _ _ h => h) (by kernel_rfl) ?_ hHeld ?_
      rotate_left 1
      · (intro w hSw; (try dsimp only at hSw); go_split_ands; go_simp; first | done | with_reducible rfl)
      simp only [Act.put, List.setIfInBounds_toArray, List.set_cons_zero, List.set_cons_succ]
      refine held_take (i := 37) (v := ?_) rfl (by kernel_rfl) (by kernel_rfl) (by kernel_rfl) (fun _ _ _ h => h) (by kernel_rfl) ?_ hHeld ?_
      rotate_left 1
      · (intro w hSw; (try dsimp only at hSw); go_split_ands; go_simp; first | done | with_reducible rfl)
      simp only [Act.put, List.setIfInBounds_toArray, List.set_cons_zero, List.set_cons_succ]
      refine held_take (i := 38) (v := ?_) rfl (by kernel_rfl) (by kernel_rfl) (by kernel_rfl) (fun _ _ _ h => h) (by kernel_rfl) ?_ hHeld ?_
      rotate_left 1
      · (intro w hSw; (try dsimp only at hSw); go_split_ands; go_simp; first | done | with_reducible rfl)
      simp only [Act.put, List.setIfInBounds_toArray, List.set_cons_zero, List.set_cons_succ]
      refine held_one (i := 39) (by kernel_rfl) rfl (by kernel_rfl) (fun K hK => ?_)
      go_simp
      refine (specPutSuper_any _ (supA y j)).mono ?_
      rintro e w2 ⟨ap, lp, cp, rfl, o2, b2'⟩
      have b2 : Below wr.heap.size wr w2 := (Below.refl wr.heap.size wr).drew.trans b2'
      have o2b : tIntS.Own w2 wr.heap.size w2.heap.size [.slice ap lp cp] (putD (supA y j)) := o2
      obtain ⟨fpp, mp, rp⟩ := o2b.mine
      have hlp : lp ≤ 9 := by have h1 := (row_length o2b.rd).1; have h2 := putD_len9 (supA y j); omega
      have hS2 : w2.cell? ⟨B, 0, none⟩ = some (.int .i64 y.id) ∧ w2.cell? ⟨B, 1, none⟩ = some (.int .i64 y.n) ∧ w2.cell? ⟨B, 2, none⟩ = some (.int .i64 y.s) ∧ w2.cell? ⟨B, 4, none⟩ = some (.int .i64 y.lost) ∧ w2.cell? ⟨B, 5, none⟩ = some (.int .i64 y.built) ∧ w2.cell? ⟨B, 7, none⟩ = some (.int .i64 y.tail) ∧ w2.cell? ⟨B, 8, none⟩ = some (.int .i64 y.gen) := ⟨(b2.cell (p := ⟨B, 0, none⟩) zB).trans k0, (b2.cell (p := ⟨B, 1, none⟩) zB).trans k1, (b2.cell (p := ⟨B, 2, none⟩) zB).trans k2, (b2.cell (p := ⟨B, 4, none⟩) zB).trans k4, (b2.cell (p := ⟨B, 5, none⟩) zB).trans k5, (b2.cell (p := ⟨B, 7, none⟩) zB).trans k7, (b2.cell (p := ⟨B, 8, none⟩) zB).trans k8⟩
      have A2 := hidden (HA.out.below b2)
      have LT := hidden HA.out.ltm
      have MV2 := hidden (MV.out.below b2)
      have MP := hidden mp
      have RP := hidden rp
      clear k0 k1 k2 k3 k4 k5 k6 k7 k8 k9 k10 k11 k12 o2 o2b b2 b2' mp rp MV HA
      go_wp2_with fail
      clear hHeld
      refine hK.out _ _ ?_ (fun hHeld => ?_)
      · exact hS2
      clear hK K
      refine held_one (i := 40) (by kernel_rfl) rfl (by kernel_rfl) (fun K hK => ?_)
      go_simp
      refine (l7Put_any _ B y ns ds fm1 fd A2.out hfj hMj j (by omega) _ _ _ _ (putD (supA y j)) fpp MP.out (fun hm => by have := RP.out _ hm; omega) (fun b hb hm => by have h1 := RP.out b hb; have h2 := LT.out.1 b hm; omega) (by omega)).mono ?_
      rintro e w3 ⟨rfl, fm3, hA3, hMv3⟩
      have hsm : SameN y (putS (y, ns) j (y.gen % 2) (putD (supA y j))).1 := doS_same _ _ hfj
      have hS3 : w3.cell? ⟨B, 0, none⟩ = some (.int .i64 y.id) ∧ w3.cell? ⟨B, 1, none⟩ = some (.int .i64 y.n) ∧ w3.cell? ⟨B, 2, none⟩ = some (.int .i64 y.s) ∧ w3.cell? ⟨B, 4, none⟩ = some (.int .i64 y.lost) ∧ w3.cell? ⟨B, 5, none⟩ = some (.int .i64 y.built) ∧ w3.cell? ⟨B, 7, none⟩ = some (.int .i64 y.tail) ∧ w3.cell? ⟨B, 8, none⟩ = some (.int .i64 y.gen) := by
        obtain ⟨_, _, _, _, X3, _⟩ := hA3
        unfold arrC at X3
        obtain ⟨k0, k1, k2, k3, k4, k5, k6, k7, k8, k9, k10, k11, k12⟩ := X3.cells13
        obtain ⟨e1, e2, e3, e4, e5, e6, e7, e8, _⟩ := hsm
        rw [e1] at k0
        rw [e2] at k1
        rw [e3] at k2
        rw [e4] at k4
        rw [e5] at k5
        rw [e7] at k7
        rw [e8] at k8
        exact ⟨k0, k1, k2, k4, k5, k7, k8⟩
      have HA3 : Hid (ArrAt w3 B (supsS (x1, ms) (j + 1)).1 (supsS (x1, ms) (j + 1)).2 ds fm3 fd) := by unfold Hid; rw [HS.out]; exact hA3
      have HM3 := hidden (MV2.out.trans hMv3)
      clear hA3 hMv3 A2 MV2 MP RP LT hS2 hsm
      go_wp2_with fail
      clear hHeld
      refine hK.out _ _ ?_ (fun hHeld => ?_)
      · exact hS3
      clear hK K
      refine wpAnyH_done (by kernel_rfl) ?_ _
      clear hHeld
      clear hS hS3
      go_wp2
      go_roundw
      case rel => exact ⟨j + 1, fm3, by omega, by go_num, HA3.out, HM3.out⟩
      case measure => simp [intOf]; omega
    · have ej : j = ms.length := by omega
      subst ej
      have HMV := hidden hMv
      clear hMv
      go_wp2_with fail
      refine (l7Sync_any _ B y ns ds fm1 fd HA.out hfj hMj).mono ?_
      rintro e w3 ⟨rfl, fm3, hA3, hMv3⟩
      clear k0 k1 k2 k3 k4 k5 k6 k7 k8 k9 k10 k11 k12
      go_wp2
      refine bodyPost_end (v := .tuple #[]) (results_none rfl _ _ _) rfl ?_
      exact ⟨rfl, fm3, by rw [HMK.out, HST.out, ← hlj]; exact hA3, HMV.out.trans hMv3⟩

set_option maxRecDepth 20000 in
set_option maxHeartbeats 1600000 in
theorem l7Check_any (w : World) (B : Nat) (x : ArrN) (ms : List MemD) (ds : List (Int × List Int)) (fm fd : List Nat) (h : ArrAt w B x ms ds fm fd) (hf : x.fuse ≤ 1000) (hM : MsOk ms) (hg0 : 0 ≤ x.gen) (hg1 : x.gen ≤ 60000) :
    Calls Tryz.prog 39 #[.pointer (some ⟨B, 0, none⟩)] w fun e w' => e = .returned (.tuple #[]) ∧ ∃ fm', ArrAt w' B (checkS (x, ms)).1 (checkS (x, ms)).2 ds fm' fd ∧ Moved B fm w fm' w' := by
  obtain ⟨hMj, hsj, hlj⟩ := syncS_keeps (q := (x, ms)) hM hf ms.length
  have hfj := hsj.2.2.2.2.2.2.2.2.2.1
  have hgj := hsj.2.2.2.2.2.2.2.1
  have HC : Hid (checkS (x, ms) = if (syncS (x, ms) ms.length).1.down = true then syncS (x, ms) ms.length else markS ({(syncS (x, ms) ms.length).1 with tail := (syncS (x, ms) ms.length).1.seq}, (syncS (x, ms) ms.length).2)) := rfl
  go_enter Tryz.func39, Tryz.ntmps39
  go_wp2_with fail
  refine (l7Sync_any _ B x ms ds fm fd h hf hM).mono ?_
  rintro e w1 ⟨rfl, fm1, hA, hMv⟩
  generalize syncS (x, ms) ms.length = st at hA hMj hsj hlj hfj hgj HC
  obtain ⟨y, ns⟩ := st
  dsimp only at hA hMj hsj hlj hfj hgj HC
  have HA := hidden hA
  obtain ⟨bm, bd, cm, cd, X, hmm, hdd, hr, r1, r2⟩ := hA
  have X0 := X
  unfold arrC at X0
  obtain ⟨k0, k1, k2, k3, k4, k5, k6, k7, k8, k9, k10, k11, k12⟩ := X0.cells13
  have fz := X0.frozen
  cases hdn : y.down
  · rw [hdn] at k11
    have HC2 : Hid (checkS (x, ms) = markS ({y with tail := y.seq}, ns)) := by unfold Hid; rw [HC.out, if_neg (by simp [hdn])]
    have A2 : Hid (ArrAt (w1.setCell ⟨B, 7, none⟩ (.int .i64 y.seq)) B {y with tail := y.seq} ns ds fm1 fd) := ⟨bm, bd, cm, cd, X.set 7 (.int .i64 y.seq), hmm.setCell (g := B) (j := 7) r1 _, hdd.setCell (g := B) (j := 7) r2 _, hr, r1, r2⟩
    have M2 := hidden (hMv.trans (Moved.set (B := B) (j := 7) (fm := fm1) (.int .i64 y.seq)))
    clear X X0 hmm hdd hMv HA hdn
    go_wp2_with fail
    refine (l7Mark_any _ B {y with tail := y.seq} ns ds fm1 fd A2.out hfj hMj (by dsimp only; omega) (by dsimp only; omega)).mono ?_
    rintro e w3 ⟨rfl, fm3, hA3, hMv3⟩
    clear k0 k1 k2 k3 k4 k5 k6 k7 k8 k9 k10 k11 k12 fz
    go_wp2
    refine bodyPost_end (v := .tuple #[]) (results_none rfl _ _ _) rfl ?_
    exact ⟨rfl, fm3, by rw [HC2.out]; exact hA3, M2.out.trans hMv3⟩
  · rw [hdn] at k11
    have HC2 : Hid (checkS (x, ms) = (y, ns)) := by unfold Hid; rw [HC.out, if_pos hdn]
    clear X X0 hmm hdd hdn
    go_wp2
    refine bodyPost_ret (v := .tuple #[]) (by simp [results, Tryz.results39, go_sem]) rfl ?_
    exact ⟨rfl, fm1, by rw [HC2.out]; exact HA.out, hMv⟩


end Go.Proofs.YthkpkpclmemodaaGreat

/-
  The specification's Check walked. Condition: the array weighs at most 2097152.
-/
namespace Go.Proofs.YthkpkpclmemodaaGreat
open Go.RowKit

set_option linter.unusedSimpArgs false in
set_option maxRecDepth 20000 in
set_option maxHeartbeats 3200000 in
theorem specCheck_any (w : World) (E F G : TypeId) (x : ArrN) (am ad : Option Addr) (nm cm nd cd : Nat) (ms : List MemD) (ds : List (Int × List Int)) (h0 : (tMemS E F).Rd w [.slice am nm cm] ms) (h1 : (tWrS G).Rd w [.slice ad nd cd] ds) (hw : wtArr ms ds ≤ 2097152) :
    Calls Tryz.prog 13 #[.agg #[.int .i64 x.id, .int .i64 x.n, .int .i64 x.s, .slice am nm cm, .int .i64 x.lost, .int .i64 x.built, .int .i64 x.seq, .int .i64 x.tail, .int .i64 x.gen, .slice ad nd cd, .int .i64 x.fuse, .bool x.down, .bool x.broken]] w fun e w' => ArrOut w w' e (checkO x ms ds) ds := by
  obtain ⟨rfl, _⟩ := row_length h0
  obtain ⟨rfl, _⟩ := row_length h1
  have hA := (new_below w (.cells #[.int .i64 x.id, .int .i64 x.n, .int .i64 x.s, .slice am ms.length cm, .int .i64 x.lost, .int .i64 x.built, .int .i64 x.seq, .int .i64 x.tail, .int .i64 x.gen, .slice ad ds.length cd, .int .i64 x.fuse, .bool x.down, .bool x.broken] 33)).alloc (by simp) (.cells #[.int .i64 0, .int .i64 0, .int .i64 0, .slice none 0 0, .int .i64 0, .int .i64 0, .int .i64 0, .int .i64 0, .int .i64 0, .slice none 0 0, .int .i64 0, .bool false, .bool false] 33)
  have X0 : Box ((w.alloc (.cells #[.int .i64 x.id, .int .i64 x.n, .int .i64 x.s, .slice am ms.length cm, .int .i64 x.lost, .int .i64 x.built, .int .i64 x.seq, .int .i64 x.tail, .int .i64 x.gen, .slice ad ds.length cd, .int .i64 x.fuse, .bool x.down, .bool x.broken] 33)).alloc (.cells #[.int .i64 0, .int .i64 0, .int .i64 0, .slice none 0 0, .int .i64 0, .int .i64 0, .int .i64 0, .int .i64 0, .int .i64 0, .slice none 0 0, .int .i64 0, .bool false, .bool false] 33)) w.heap.size 33 #[.int .i64 x.id, .int .i64 x.n, .int .i64 x.s, .slice am ms.length cm, .int .i64 x.lost, .int .i64 x.built, .int .i64 x.seq, .int .i64 x.tail, .int .i64 x.gen, .slice ad ds.length cd, .int .i64 x.fuse, .bool x.down, .bool x.broken] := (Box.new w _ _).alloc _
  have R0 := Box.new (w.alloc (.cells #[.int .i64 x.id, .int .i64 x.n, .int .i64 x.s, .slice am ms.length cm, .int .i64 x.lost, .int .i64 x.built, .int .i64 x.seq, .int .i64 x.tail, .int .i64 x.gen, .slice ad ds.length cd, .int .i64 x.fuse, .bool x.down, .bool x.broken] 33)) 33 #[.int .i64 0, .int .i64 0, .int .i64 0, .slice none 0 0, .int .i64 0, .int .i64 0, .int .i64 0, .int .i64 0, .int .i64 0, .slice none 0 0, .int .i64 0, .bool false, .bool false]
  rw [World.size_alloc] at R0
  have zX := X0.lt
  have zR := R0.lt
  have r0 := h0.below hA
  have r1 := h1.below hA
  obtain ⟨k0, k1, k2, k3, k4, k5, k6, k7, k8, k9, k10, k11, k12⟩ := X0.cells13
  go_enter Tryz.func13, Tryz.ntmps13
  go_wp2_with fail
  generalize (w.alloc (.cells #[.int .i64 x.id, .int .i64 x.n, .int .i64 x.s, .slice am ms.length cm, .int .i64 x.lost, .int .i64 x.built, .int .i64 x.seq, .int .i64 x.tail, .int .i64 x.gen, .slice ad ds.length cd, .int .i64 x.fuse, .bool x.down, .bool x.broken] 33)).alloc (.cells #[.int .i64 0, .int .i64 0, .int .i64 0, .slice none 0 0, .int .i64 0, .int .i64 0, .int .i64 0, .int .i64 0, .int .i64 0, .slice none 0 0, .int .i64 0, .bool false, .bool false] 33) = W at hA X0 R0 zX zR r0 r1 k0 k1 k2 k3 k4 k5 k6 k7 k8 k9 k10 k11 k12 ⊢
  refine (l6Copy_any _ E F G x _ _ _ _ _ _ ms ds r0 r1 hw).mono ?_
  rintro e w1 ⟨bm, cm1, bd, cd1, m, rfl, om, od, zm, zm2, b1⟩
  have bn := new_below w1 (.cells #[.int .i64 x.id, .int .i64 x.n, .int .i64 x.s, .slice bm ms.length cm1, .int .i64 x.lost, .int .i64 x.built, .int .i64 x.seq, .int .i64 x.tail, .int .i64 x.gen, .slice bd ds.length cd1, .int .i64 x.fuse, .bool x.down, .bool x.broken] 33)
  have b12 : Below W.heap.size W (w1.alloc (.cells #[.int .i64 x.id, .int .i64 x.n, .int .i64 x.s, .slice bm ms.length cm1, .int .i64 x.lost, .int .i64 x.built, .int .i64 x.seq, .int .i64 x.tail, .int .i64 x.gen, .slice bd ds.length cd1, .int .i64 x.fuse, .bool x.down, .bool x.broken] 33)) := Below.andThen b1 bn
  have Y := Box.new w1 33 #[.int .i64 x.id, .int .i64 x.n, .int .i64 x.s, .slice bm ms.length cm1, .int .i64 x.lost, .int .i64 x.built, .int .i64 x.seq, .int .i64 x.tail, .int .i64 x.gen, .slice bd ds.length cd1, .int .i64 x.fuse, .bool x.down, .bool x.broken]
  have zY := Y.lt
  have z1 := b1.size
  obtain ⟨fm, mm, rm⟩ := (om.below bn).mine
  obtain ⟨fd, md, rd⟩ := (od.below bn).mine
  have A2 : ArrAt (w1.alloc (.cells #[.int .i64 x.id, .int .i64 x.n, .int .i64 x.s, .slice bm ms.length cm1, .int .i64 x.lost, .int .i64 x.built, .int .i64 x.seq, .int .i64 x.tail, .int .i64 x.gen, .slice bd ds.length cd1, .int .i64 x.fuse, .bool x.down, .bool x.broken] 33)) w1.heap.size x ms ds fm fd := ⟨bm, bd, cm1, cd1, Y, mm, md, fun b hb hb' => by have h1 := rm b hb; have h2 := rd b hb'; omega, fun hm => by have := rm _ hm; omega, fun hm => by have := rd _ hm; omega⟩
  have X2 := X0.below b12 zX
  have R2 := R0.below b12 zR
  have p0 := r0.below b12
  have p1 := r1.below b12
  have B2 := Below.andThen hA b12
  have rm2 : ∀ b ∈ fm, W.heap.size ≤ b := fun b hb => by have := rm b hb; omega
  have rd2 : ∀ b ∈ fd, W.heap.size ≤ b := fun b hb => by have := rd b hb; omega
  clear k0 k1 k2 k3 k4 k5 k6 k7 k8 k9 k10 k11 k12 X0 R0 r0 r1 om od b1 bn b12 Y mm rm md rd hA
  obtain ⟨k0, k1, k2, k3, k4, k5, k6, k7, k8, k9, k10, k11, k12⟩ := X2.cells13
  go_wp2_with fail
  generalize w1.alloc (.cells #[.int .i64 x.id, .int .i64 x.n, .int .i64 x.s, .slice bm ms.length cm1, .int .i64 x.lost, .int .i64 x.built, .int .i64 x.seq, .int .i64 x.tail, .int .i64 x.gen, .slice bd ds.length cd1, .int .i64 x.fuse, .bool x.down, .bool x.broken] 33) = w2 at A2 X2 R2 p0 p1 B2 zY k0 k1 k2 k3 k4 k5 k6 k7 k8 k9 k10 k11 k12 ⊢
  obtain ⟨B, hB⟩ : ∃ B, w1.heap.size = B := ⟨_, rfl⟩
  rw [hB] at A2 zY z1 ⊢
  clear hB
  refine (specArrOk_any _ E F G x _ _ _ _ _ _ ms ds p0 p1 hw).mono ?_
  rintro e w3 ⟨rfl, b3⟩
  have A3 := A2.below b3
  have X3 := X2.below b3 X2.lt
  have R3 := R2.below b3 R2.lt
  have B3 := Below.andThen B2 b3
  have z3 := b3.size
  clear k0 k1 k2 k3 k4 k5 k6 k7 k8 k9 k10 k11 k12 A2 X2 R2 p0 p1 B2 b3
  have HD : Hid (checkO x ms ds = if (arrB x ms ds && !x.down && decide (x.gen < 60000)) = true then checkS (x, ms) else (x, ms)) := rfl
  obtain ⟨k0, k1, k2, k3, k4, k5, k6, k7, k8, k9, k10, k11, k12⟩ := X3.cells13
  cases ha : arrB x ms ds
  · have HV : Hid (checkO x ms ds = (x, ms)) := by unfold Hid; rw [HD.out, if_neg (by simp [ha])]
    obtain ⟨vm, vd, cvm, cvd, Yf, mf, df, hrf, r1f, r2f⟩ := A3
    have Y0 := Yf
    unfold arrC at Y0
    obtain ⟨t0, t1, t2, t3, t4, t5, t6, t7, t8, t9, t10, t11, t12⟩ := Y0.cells13
    obtain ⟨s0, s1, s2, s3, s4, s5, s6, s7, s8, s9, s10, s11, s12⟩ := R3.cells13
    have fz := R3.frozen
    have HO := hidden (arr_out (y := x) (e := .returned (.agg (arrC x _ _))) B3 R3 rfl mf df hrf rm2 rd2 (by omega) (by omega))
    unfold arrC at HO
    simp only [puts] at HO
    clear X3 R3 B3 Yf Y0 mf df
    go_wp2
    refine bodyPost_ret (v := .agg #[.int .i64 x.id, .int .i64 x.n, .int .i64 x.s, .slice vm ms.length cvm, .int .i64 x.lost, .int .i64 x.built, .int .i64 x.seq, .int .i64 x.tail, .int .i64 x.gen, .slice vd ds.length cvd, .int .i64 x.fuse, .bool x.down, .bool x.broken]) (by simp [results, Tryz.results13, go_sem, s0, s1, s2, s3, s4, s5, s6, s7, s8, s9, s10, s11, s12]) rfl ?_
    rw [HV.out]; exact HO.out
  · obtain ⟨fc, mk, gc0, gc1⟩ := arr_facts ha
    cases hdn : x.down
    · rw [hdn] at k11
      have Hhdn := hidden hdn
      clear hdn
      by_cases hgg : x.gen < 60000
      · skip
        have HV : Hid (checkO x ms ds = checkS (x, ms)) := by unfold Hid; rw [HD.out, if_pos (by simp [ha, Hhdn.out, hgg])]
        go_wp2_with fail
        refine (l7Check_any _ B x ms ds fm fd A3 fc mk gc0 gc1).mono ?_
        rintro e w4 ⟨rfl, fm4, A4, M4⟩
        have rm4 : ∀ b ∈ fm4, W.heap.size ≤ b := fun b hb => by rcases M4.2 b hb with h | h; exact rm2 b h; omega
        have R4 := M4.box R3 (by omega) (fun hm => by have := rm2 _ hm; omega)
        have B4 := B3.trans (M4.belowN (N := w.heap.size) (by omega) (fun b hb => by have := rm2 b hb; omega) (by omega))
        have z4 := M4.size
        clear k0 k1 k2 k3 k4 k5 k6 k7 k8 k9 k10 k11 k12 A3 X3 R3 B3 M4
        generalize checkS (x, ms) = st at A4 HV
        obtain ⟨y, ns⟩ := st
        dsimp only at A4
        obtain ⟨vm, vd, cvm, cvd, Yf, mf, df, hrf, r1f, r2f⟩ := A4
        have Y0 := Yf
        unfold arrC at Y0
        obtain ⟨t0, t1, t2, t3, t4, t5, t6, t7, t8, t9, t10, t11, t12⟩ := Y0.cells13
        obtain ⟨s0, s1, s2, s3, s4, s5, s6, s7, s8, s9, s10, s11, s12⟩ := R4.cells13
        have fz := R4.frozen
        have HO := hidden (arr_out (y := y) (e := .returned (.agg (arrC y _ _))) B4 R4 rfl mf df hrf rm4 rd2 (by omega) (by omega))
        unfold arrC at HO
        simp only [puts] at HO
        clear Yf Y0 mf df R4 B4
        go_wp2
        refine bodyPost_ret (v := .agg #[.int .i64 y.id, .int .i64 y.n, .int .i64 y.s, .slice vm ns.length cvm, .int .i64 y.lost, .int .i64 y.built, .int .i64 y.seq, .int .i64 y.tail, .int .i64 y.gen, .slice vd ds.length cvd, .int .i64 y.fuse, .bool y.down, .bool y.broken]) (by simp [results, Tryz.results13, go_sem, s0, s1, s2, s3, s4, s5, s6, s7, s8, s9, s10, s11, s12]) rfl ?_
        rw [HV.out]; exact HO.out
      · have HV : Hid (checkO x ms ds = (x, ms)) := by unfold Hid; rw [HD.out, if_neg (by simp; omega)]
        obtain ⟨vm, vd, cvm, cvd, Yf, mf, df, hrf, r1f, r2f⟩ := A3
        have Y0 := Yf
        unfold arrC at Y0
        obtain ⟨t0, t1, t2, t3, t4, t5, t6, t7, t8, t9, t10, t11, t12⟩ := Y0.cells13
        obtain ⟨s0, s1, s2, s3, s4, s5, s6, s7, s8, s9, s10, s11, s12⟩ := R3.cells13
        have fz := R3.frozen
        have HO := hidden (arr_out (y := x) (e := .returned (.agg (arrC x _ _))) B3 R3 rfl mf df hrf rm2 rd2 (by omega) (by omega))
        unfold arrC at HO
        simp only [puts] at HO
        clear X3 R3 B3 Yf Y0 mf df
        go_wp2
        refine bodyPost_ret (v := .agg #[.int .i64 x.id, .int .i64 x.n, .int .i64 x.s, .slice vm ms.length cvm, .int .i64 x.lost, .int .i64 x.built, .int .i64 x.seq, .int .i64 x.tail, .int .i64 x.gen, .slice vd ds.length cvd, .int .i64 x.fuse, .bool x.down, .bool x.broken]) (by simp [results, Tryz.results13, go_sem, s0, s1, s2, s3, s4, s5, s6, s7, s8, s9, s10, s11, s12]) rfl ?_
        rw [HV.out]; exact HO.out
    · have HV : Hid (checkO x ms ds = (x, ms)) := by unfold Hid; rw [HD.out, if_neg (by simp [hdn])]
      rw [hdn] at k11
      clear hdn
      obtain ⟨vm, vd, cvm, cvd, Yf, mf, df, hrf, r1f, r2f⟩ := A3
      have Y0 := Yf
      unfold arrC at Y0
      obtain ⟨t0, t1, t2, t3, t4, t5, t6, t7, t8, t9, t10, t11, t12⟩ := Y0.cells13
      obtain ⟨s0, s1, s2, s3, s4, s5, s6, s7, s8, s9, s10, s11, s12⟩ := R3.cells13
      have fz := R3.frozen
      have HO := hidden (arr_out (y := x) (e := .returned (.agg (arrC x _ _))) B3 R3 rfl mf df hrf rm2 rd2 (by omega) (by omega))
      unfold arrC at HO
      simp only [puts] at HO
      clear X3 R3 B3 Yf Y0 mf df
      go_wp2
      refine bodyPost_ret (v := .agg #[.int .i64 x.id, .int .i64 x.n, .int .i64 x.s, .slice vm ms.length cvm, .int .i64 x.lost, .int .i64 x.built, .int .i64 x.seq, .int .i64 x.tail, .int .i64 x.gen, .slice vd ds.length cvd, .int .i64 x.fuse, .bool x.down, .bool x.broken]) (by simp [results, Tryz.results13, go_sem, s0, s1, s2, s3, s4, s5, s6, s7, s8, s9, s10, s11, s12]) rfl ?_
      rw [HV.out]; exact HO.out

end Go.Proofs.YthkpkpclmemodaaGreat

/-
  The walks of the laws' helpers that ask whether the marks of an array's disks, and of the array, are held. Conditions: it weighs at most 2097152, the marks from 0 on to 2097153.
-/
namespace Go.Proofs.YthkpkpclmemodaaGreat
open Go.RowKit

set_option maxRecDepth 20000 in
set_option maxHeartbeats 1600000 in
theorem heldMemS_any (w : World) (E F : TypeId) (a : Option Addr) (n cap : Nat) (d : List MemD) (k0 : Int) (h : (tMemS E F).Rd w [.slice a n cap] (markMS k0 d)) (hw : wtMemS d ≤ 2097152) (hk : 0 ≤ k0) (hk' : k0 + (wtMemS d : Int) ≤ 2097153) :
    Calls Tryz.prog 37 #[.slice a n cap, .int .i64 k0] w fun e w' => e = .returned (.int .i64 (k0 + (cntMS d : Int))) ∧ Same w w' := by
  obtain ⟨hl, hc, hm⟩ := row_length h
  have hmL : (markMS k0 d).length = d.length := markL_length _ _ _ _
  rw [hmL] at hl
  have hnn : n ≤ 2097152 := by unfold wtMemS at hw; omega
  have hwt := cntMS_le d
  go_enter Tryz.func37, Tryz.ntmps37
  go_wp2
  go_loopw [1, 5] (fun kk i wr => ∃ j : Nat, j ≤ n ∧ i = .int .i64 j ∧ kk = .int .i64 (k0 + (sumL ((d.map cntMD).take j) : Int)) ∧ Same w wr) (fun _ i _ => n - (intOf i).toNat)
  case atStart => exact ⟨0, Nat.zero_le _, rfl, by simp [sumL], Same.refl _⟩
  case round =>
    obtain ⟨j, hj, rfl, rfl, hs⟩ := hrel
    by_cases hjn : j < n
    · have hdj : d[j]? = some (d[j]'(by omega)) := List.getElem?_eq_getElem (by omega)
      generalize d[j]'(by omega) = x at hdj
      have hst := sumL_take (l := d.map cntMD) (j := j) (x := cntMD x) (by rw [List.getElem?_map, hdj]; rfl)
      have hle := sumL_le (l := d.map cntMD) (j + 1)
      have hin := Nat.le_trans (inner_leM hdj) hw
      unfold cntMS at hwt
      have hmj := markL_at (c := cntMD) (mk := markMD) (k := k0) hdj
      have HW := hidden hst
      generalize sumL ((d.map cntMD).take j) = S at hst hmj HW
      rcases quads_at rfl h with h0' | ⟨b, off, rfl, hbl, hcs⟩
      · omega
      obtain ⟨v0, v1, v2, v3, hv0, hv1, hv2, hv3, hrv⟩ := hcs j _ hmj
      obtain ⟨ss, cs, f, bs⟩ := x
      obtain ⟨a0, c0, a1, c1, a3, c3, ss', cs', f', bs', hx, rfl, rfl, rfl, rfl, r0, r1, r3⟩ := mem_at hrv
      have hcx : cntMD (ss, cs, f, bs) = cntSS ss + cntWS cs + 1 + bs.length := rfl
      have hin0 : wtIntSS ss ≤ 2097152 := by unfold wtMem at hin; simp only at hin; omega
      have hin1 : wtWrS cs ≤ 2097152 := by unfold wtMem at hin; simp only at hin; omega
      have hin3 : bs.length ≤ 2097152 := by unfold wtMem at hin; simp only at hin; omega
      have hcw := Nat.le_of_eq (cntWS_wt cs)
      have hcw' := Nat.le_of_eq (cntWS_wt cs).symm
      have hS : k0 + (S : Int) + (cntSS ss : Int) + (cntWS cs : Int) + 1 + (bs.length : Int) ≤ 2097153 := by omega
      unfold markMD at hx
      simp only [Prod.mk.injEq] at hx
      obtain ⟨e0, e1, e2, e3⟩ := hx
      subst e0
      subst e1
      subst e3
      rw [marks_length] at hv3 r3
      have w0 := (hs.cell _).trans hv0
      have w1 := (hs.cell _).trans hv1
      have w2 := (hs.cell _).trans hv2
      have w3 := (hs.cell _).trans hv3
      have HE2 := hidden e2
      have i1 : (0 : Int) ≤ (j : Int) := by omega
      have i2 : (j : Int) < (n : Int) := by omega
      have R0 := r0.same hs
      have R1 := r1.same hs
      have R3 := r3.same hs
      clear hcs hst hdj hv0 hv1 hv2 hv3 hrv hmj e2 r0 r1 r3
      go_wp2_with fail
      refine (heldIntSS_any _ _ _ _ ss _ R0 hin0 (by omega) (by omega)).mono ?_
      rintro e u1 ⟨rfl, s1⟩
      have w1' := (s1.cell _).trans w1
      have w2' := (s1.cell _).trans w2
      have w3' := (s1.cell _).trans w3
      have R1' := R1.same s1
      have R3' := R3.same s1
      clear w0 w1 w2 w3 R0 R1 R3
      have p1 : ¬ k0 + (S : Int) + (cntSS ss : Int) < 0 := by omega
      go_wp2_with fail
      refine (heldWrS_any _ E _ _ _ cs _ R1' hin1 (by omega) (by omega)).mono ?_
      rintro e u2 ⟨rfl, s2⟩
      have w2 := (s2.cell _).trans w2'
      have w3 := (s2.cell _).trans w3'
      have R3 := ints_rd (R3'.same s2)
      clear w1' w2' w3' R1' R3'
      have hK : 0 ≤ k0 + (S : Int) + (cntSS ss : Int) + (cntWS cs : Int) ∧ k0 + (S : Int) + (cntSS ss : Int) + (cntWS cs : Int) ≤ 2097153 := by omega
      have HKK : Hid (k0 + (S : Int) + (cntSS ss : Int) + (cntWS cs : Int) + 1 + (bs.length : Int) = k0 + ((S + cntMD (ss, cs, f, bs) : Nat) : Int)) := by unfold Hid; rw [hcx]; omega
      generalize hKd : k0 + (S : Int) + (cntSS ss : Int) + (cntWS cs : Int) = K at hK HKK HE2 R3 hS ⊢
      clear hKd
      have p2 : ¬ K < 0 := by omega
      have t1 : K.tmod 3 = K % 3 := Int.tmod_eq_emod_of_nonneg hK.1
      have t2 : IntKind.i64.wrap (K % 3) = K % 3 := IntWalk.i64_in _ (by omega)
      have t3 : IntKind.i64.wrap (K + 1) = K + 1 := IntWalk.i64_in _ (by omega)
      have p3 : ¬ K + 1 + (bs.length : Int) < 0 := by omega
      have t4 : f' = (K % 3 == 0) := by rw [← HE2.out]; rfl
      have t5 : ((K % 3 == 0) != (K % 3 == 0)) = false := by simp
      have t6 : ((K % 3 == 0) == (K % 3 == 0)) = true := by simp
      subst t4
      clear HE2
      go_wp2_with fail
      refine (heldIntS_any _ _ _ _ _ R3.1 (by omega) (by omega) (by omega)).mono ?_
      rintro e u3 ⟨rfl, s3⟩
      have HS := hidden (((hs.trans s1).trans s2).trans s3)
      clear s1 s2 s3 hs R3 w2 w3
      go_wp2
      go_roundw
      case rel => exact ⟨j + 1, by omega, by go_num, by rw [HW.out, HKK.out], HS.out⟩
      case measure => simp [intOf]; omega
    · have ej : j = n := by omega
      subst ej
      have ht : (d.map cntMD).take j = d.map cntMD := List.take_of_length_le (by simp; omega)
      have HT : Hid (k0 + (sumL ((d.map cntMD).take j) : Int) = k0 + (cntMS d : Int)) := by unfold Hid cntMS; rw [ht]
      clear ht
      go_wp2
      go_ret
      exact ⟨ret_int HT.out, hs⟩

set_option maxRecDepth 20000 in
set_option maxHeartbeats 1600000 in
theorem heldArr_any (w : World) (E F G : TypeId) (x : ArrN) (bm bd : Option Addr) (nm cm nd cd : Nat) (ms : List MemD) (ds : List (Int × List Int)) (h0 : (tMemS E F).Rd w [.slice bm nm cm] (markMS 1 ms)) (h1 : (tWrS G).Rd w [.slice bd nd cd] (markW (1 + (cntMS ms : Int)) ds)) (hw : wtArr ms ds ≤ 2097152) :
    Calls Tryz.prog 12 #[.agg #[.int .i64 x.id, .int .i64 x.n, .int .i64 x.s, .slice bm nm cm, .int .i64 x.lost, .int .i64 x.built, .int .i64 x.seq, .int .i64 x.tail, .int .i64 x.gen, .slice bd nd cd, .int .i64 x.fuse, .bool x.down, .bool x.broken], .int .i64 1] w fun e w' => e = .returned (.int .i64 (1 + (cntMS ms : Int) + (cntWS ds : Int))) ∧ Below w.heap.size w w' := by
  have hw0 : wtMemS ms ≤ 2097152 := by unfold wtArr at hw; omega
  have hw1 : wtWrS ds ≤ 2097152 := by unfold wtArr at hw; omega
  have hws : wtMemS ms + wtWrS ds ≤ 2097152 := by unfold wtArr at hw; omega
  have hcm := cntMS_le ms
  have hA := new_below w (.cells #[.int .i64 x.id, .int .i64 x.n, .int .i64 x.s, .slice bm nm cm, .int .i64 x.lost, .int .i64 x.built, .int .i64 x.seq, .int .i64 x.tail, .int .i64 x.gen, .slice bd nd cd, .int .i64 x.fuse, .bool x.down, .bool x.broken] 33)
  have X := Box.new w 33 #[.int .i64 x.id, .int .i64 x.n, .int .i64 x.s, .slice bm nm cm, .int .i64 x.lost, .int .i64 x.built, .int .i64 x.seq, .int .i64 x.tail, .int .i64 x.gen, .slice bd nd cd, .int .i64 x.fuse, .bool x.down, .bool x.broken]
  obtain ⟨k0, k1, k2, k3, k4, k5, k6, k7, k8, k9, k10, k11, k12⟩ := X.cells13
  have r0 := h0.below hA
  have r1 := h1.below hA
  go_enter Tryz.func12, Tryz.ntmps12
  go_wp2_with fail
  generalize w.alloc (.cells #[.int .i64 x.id, .int .i64 x.n, .int .i64 x.s, .slice bm nm cm, .int .i64 x.lost, .int .i64 x.built, .int .i64 x.seq, .int .i64 x.tail, .int .i64 x.gen, .slice bd nd cd, .int .i64 x.fuse, .bool x.down, .bool x.broken] 33) = W at hA X r0 r1 k0 k1 k2 k3 k4 k5 k6 k7 k8 k9 k10 k11 k12 ⊢
  refine (heldMemS_any _ E F _ _ _ ms _ r0 hw0 (by omega) (by omega)).mono ?_
  rintro e w1 ⟨rfl, s1⟩
  have X1 := X.same s1
  have r2 := r1.same s1
  have B1 := Below.andSame hA s1
  clear k0 k1 k2 k3 k4 k5 k6 k7 k8 k9 k10 k11 k12 X r0 r1 s1 hA
  obtain ⟨k0, k1, k2, k3, k4, k5, k6, k7, k8, k9, k10, k11, k12⟩ := X1.cells13
  have p1 : ¬ 1 + (cntMS ms : Int) < 0 := by omega
  go_wp2_with fail
  refine (heldEntS_any _ G _ _ _ ds _ r2 hw1 (by omega) (by omega)).mono ?_
  rintro e w2 ⟨rfl, s2⟩
  have B2 := Below.andSame B1 s2
  have p2 : ¬ 1 + (cntMS ms : Int) + (cntWS ds : Int) < 0 := by omega
  clear k0 k1 k2 k3 k4 k5 k6 k7 k8 k9 k10 k11 k12 X1 r2 s2 B1
  go_wp2
  go_ret
  exact ⟨rfl, B2⟩

end Go.Proofs.YthkpkpclmemodaaGreat

/-
  The walk of the exact law of Check: at every array it answers true, and nothing that was there has turned. No condition.
-/
namespace Go.Proofs.YthkpkpclmemodaaGreat
open Go.RowKit

set_option linter.unusedSimpArgs false in
set_option maxRecDepth 20000 in
set_option maxHeartbeats 4000000 in
theorem fnExactCheck_walk (x : ArrN) (am ad : Option Addr) (nm cm nd cd : Nat) (ms : List MemD) (ds : List (Int × List Int)) (w : World) (h0 : (tMemS 127 67).Rd w [.slice am nm cm] ms) (h1 : (tWrS 70).Rd w [.slice ad nd cd] ds) :
    Calls Tryz.prog 4 #[.agg #[.int .i64 x.id, .int .i64 x.n, .int .i64 x.s, .slice am nm cm, .int .i64 x.lost, .int .i64 x.built, .int .i64 x.seq, .int .i64 x.tail, .int .i64 x.gen, .slice ad nd cd, .int .i64 x.fuse, .bool x.down, .bool x.broken]] w fun e w' => e = .returned (.bool true) ∧ Below w.heap.size w w' := by
  have hA := new_below w (.cells #[.int .i64 x.id, .int .i64 x.n, .int .i64 x.s, .slice am nm cm, .int .i64 x.lost, .int .i64 x.built, .int .i64 x.seq, .int .i64 x.tail, .int .i64 x.gen, .slice ad nd cd, .int .i64 x.fuse, .bool x.down, .bool x.broken] 27)
  have xm := Box.new w 27 #[.int .i64 x.id, .int .i64 x.n, .int .i64 x.s, .slice am nm cm, .int .i64 x.lost, .int .i64 x.built, .int .i64 x.seq, .int .i64 x.tail, .int .i64 x.gen, .slice ad nd cd, .int .i64 x.fuse, .bool x.down, .bool x.broken]
  have z0 := xm.lt
  have B0 := hidden hA
  have BR0 := hidden xm
  obtain ⟨l0, l1, l2, l3, l4, l5, l6, l7, l8, l9, l10, l11, l12⟩ := xm.cells13
  go_enter Tryz.func4, Tryz.ntmps4
  go_wp2_with fail
  generalize w.alloc (.cells #[.int .i64 x.id, .int .i64 x.n, .int .i64 x.s, .slice am nm cm, .int .i64 x.lost, .int .i64 x.built, .int .i64 x.seq, .int .i64 x.tail, .int .i64 x.gen, .slice ad nd cd, .int .i64 x.fuse, .bool x.down, .bool x.broken] 27) = w0 at hA xm z0 B0 BR0 l0 l1 l2 l3 l4 l5 l6 l7 l8 l9 l10 l11 l12 ⊢
  clear hA xm
  refine (szArr_any _ 127 67 70 x _ _ _ _ _ _ ms ds _ (h0.below B0.out) (h1.below B0.out) (by omega) (by omega)).mono ?_
  rintro e w1 ⟨rfl, hb1⟩
  clear l0 l1 l2 l3 l4 l5 l6 l7 l8 l9 l10 l11 l12
  have B1 := hidden (Below.andThen B0.out hb1)
  have BR1 := hidden (BR0.out.below hb1 (by omega))
  have z1 := hb1.size
  clear B0 BR0 hb1
  by_cases hwt : (wtArr ms ds : Int) ≤ 1048576
  · have hq := leftOf_pos hwt
    have hwt' : wtArr ms ds ≤ 1048576 := by omega
    have hwt2 : wtArr ms ds ≤ 2097152 := by omega
    have hwq0 := checkO_wt (x := x) hwt'
    obtain ⟨y, ns, hq0⟩ : ∃ (y : ArrN) (ns : List MemD), checkO x ms ds = (y, ns) := ⟨_, _, rfl⟩
    have HQ := hidden hq0
    have hwq : wtArr ns ds ≤ 2097152 := by rw [hq0] at hwq0; exact hwq0
    clear hq0 hwq0
    obtain ⟨l0, l1, l2, l3, l4, l5, l6, l7, l8, l9, l10, l11, l12⟩ := BR1.out.cells13
    go_wp2_with fail
    refine (toArr_any _ 127 67 70 x _ _ _ _ _ _ ms ds (h0.below B1.out) (h1.below B1.out) hwt').mono ?_
    rintro e w2 ⟨bm2, bd2, rfl, om2, od2, ya2, yb2, hb2⟩
    clear l0 l1 l2 l3 l4 l5 l6 l7 l8 l9 l10 l11 l12
    have B2 := hidden (Below.andThen B1.out hb2)
    have BR2 := hidden (BR1.out.below hb2 (by omega))
    have z2 := hb2.size
    clear B1 BR1 hb2
    have Cm2 := hidden om2
    clear om2
    have Cd2 := hidden od2
    clear od2
    go_wp2_with fail
    refine (specCheck_any _ 104 73 75 x _ _ _ _ _ _ ms ds Cm2.out.rd Cd2.out.rd hwt2).mono ?_
    rintro e w3 ho3
    rw [HQ.out] at ho3
    obtain ⟨a3, d3, c3, b3, rfl, o3, hb3⟩ := ho3
    dsimp only at o3
    unfold arrC
    have B3 := hidden (Below.andThen B2.out hb3)
    have BR3 := hidden (BR2.out.below hb3 (by omega))
    have Cm3 := hidden (Cm2.out.below hb3)
    have Cd3 := hidden (Cd2.out.below hb3)
    have z3 := hb3.size
    clear B2 BR2 Cm2 Cd2 hb3
    have W3 := hidden o3
    clear o3
    clear Cm3
    clear Cd3
    have ba : Below w3.heap.size w3 (w3.alloc (.cells #[.int .i64 y.id, .int .i64 y.n, .int .i64 y.s, .slice a3 ns.length c3, .int .i64 y.lost, .int .i64 y.built, .int .i64 y.seq, .int .i64 y.tail, .int .i64 y.gen, .slice d3 ds.length b3, .int .i64 y.fuse, .bool y.down, .bool y.broken] 33)) := (Below.refl _ _).alloc (Nat.le_refl _) _
    have xb := Box.new w3 33 #[.int .i64 y.id, .int .i64 y.n, .int .i64 y.s, .slice a3 ns.length c3, .int .i64 y.lost, .int .i64 y.built, .int .i64 y.seq, .int .i64 y.tail, .int .i64 y.gen, .slice d3 ds.length b3, .int .i64 y.fuse, .bool y.down, .bool y.broken]
    have zx4 := xb.lt
    have B4 := hidden (Below.andThen B3.out ba)
    have BR4 := hidden (BR3.out.below ba (by omega))
    have W4 := hidden (W3.out.below ba)
    have z4 := ba.size
    clear B3 BR3 W3 ba
    have WB4 := hidden xb
    clear xb
    obtain ⟨l0, l1, l2, l3, l4, l5, l6, l7, l8, l9, l10, l11, l12⟩ := BR4.out.cells13
    go_wp2_with fail
    generalize w3.alloc (.cells #[.int .i64 y.id, .int .i64 y.n, .int .i64 y.s, .slice a3 ns.length c3, .int .i64 y.lost, .int .i64 y.built, .int .i64 y.seq, .int .i64 y.tail, .int .i64 y.gen, .slice d3 ds.length b3, .int .i64 y.fuse, .bool y.down, .bool y.broken] 33) = w4 at B4 BR4 W4 WB4 z4 zx4 l0 l1 l2 l3 l4 l5 l6 l7 l8 l9 l10 l11 l12 ⊢
    clear l0 l1 l2 l3 l4 l5 l6 l7 l8 l9 l10 l11 l12
    obtain ⟨l0, l1, l2, l3, l4, l5, l6, l7, l8, l9, l10, l11, l12⟩ := BR4.out.cells13
    refine (toArr_any _ 127 67 70 x _ _ _ _ _ _ ms ds (h0.below B4.out) (h1.below B4.out) hwt').mono ?_
    rintro e w5 ⟨bm5, bd5, rfl, om5, od5, ya5, yb5, hb5⟩
    clear l0 l1 l2 l3 l4 l5 l6 l7 l8 l9 l10 l11 l12
    have B5 := hidden (Below.andThen B4.out hb5)
    have BR5 := hidden (BR4.out.below hb5 (by omega))
    have W5 := hidden (W4.out.below hb5)
    have WB5 := hidden (WB4.out.below hb5 (by omega))
    have z5 := hb5.size
    clear B4 BR4 W4 WB4 hb5
    have Dm5 := hidden om5
    clear om5
    have Dd5 := hidden od5
    clear od5
    have ba : Below w5.heap.size w5 (w5.alloc (.cells #[.int .i64 x.id, .int .i64 x.n, .int .i64 x.s, .slice (some ⟨bm5, 0, none⟩) nm nm, .int .i64 x.lost, .int .i64 x.built, .int .i64 x.seq, .int .i64 x.tail, .int .i64 x.gen, .slice (some ⟨bd5, 0, none⟩) nd nd, .int .i64 x.fuse, .bool x.down, .bool x.broken] 33)) := (Below.refl _ _).alloc (Nat.le_refl _) _
    have xb := Box.new w5 33 #[.int .i64 x.id, .int .i64 x.n, .int .i64 x.s, .slice (some ⟨bm5, 0, none⟩) nm nm, .int .i64 x.lost, .int .i64 x.built, .int .i64 x.seq, .int .i64 x.tail, .int .i64 x.gen, .slice (some ⟨bd5, 0, none⟩) nd nd, .int .i64 x.fuse, .bool x.down, .bool x.broken]
    have zx := xb.lt
    have B6 := hidden (Below.andThen B5.out ba)
    have BR6 := hidden (BR5.out.below ba (by omega))
    have W6 := hidden (W5.out.below ba)
    have WB6 := hidden (WB5.out.below ba (by omega))
    have Dm6 := hidden (Dm5.out.below ba)
    have Dd6 := hidden (Dd5.out.below ba)
    have z6 := ba.size
    clear B5 BR5 W5 WB5 Dm5 Dd5 ba
    have BX6 := hidden xb
    clear xb
    obtain ⟨q0, q1, q2, q3, q4, q5, q6, q7, q8, q9, q10, q11, q12⟩ := BX6.out.cells13
    go_wp2_with fail
    generalize w5.alloc (.cells #[.int .i64 x.id, .int .i64 x.n, .int .i64 x.s, .slice (some ⟨bm5, 0, none⟩) nm nm, .int .i64 x.lost, .int .i64 x.built, .int .i64 x.seq, .int .i64 x.tail, .int .i64 x.gen, .slice (some ⟨bd5, 0, none⟩) nd nd, .int .i64 x.fuse, .bool x.down, .bool x.broken] 33) = w6 at B6 BR6 W6 WB6 Dm6 Dd6 BX6 z6 zx q0 q1 q2 q3 q4 q5 q6 q7 q8 q9 q10 q11 q12 ⊢
    refine (implCheck_any _ 104 73 75 x _ _ _ _ _ _ ms ds Dm6.out.rd Dd6.out.rd hwt2).mono ?_
    rintro e w7 ho7
    rw [HQ.out] at ho7
    obtain ⟨a7, d7, c7, b7, rfl, o7, hb7⟩ := ho7
    dsimp only at o7
    unfold arrC
    have B7 := hidden (Below.andThen B6.out hb7)
    have BR7 := hidden (BR6.out.below hb7 (by omega))
    have W7 := hidden (W6.out.below hb7)
    have WB7 := hidden (WB6.out.below hb7 (by omega))
    have Dm7 := hidden (Dm6.out.below hb7)
    have Dd7 := hidden (Dd6.out.below hb7)
    have BX7 := hidden (BX6.out.below hb7 (by omega))
    have z7 := hb7.size
    clear B6 BR6 W6 WB6 Dm6 Dd6 BX6 hb7
    have G7 := hidden o7
    clear o7
    clear q0 q1 q2 q3 q4 q5 q6 q7 q8 q9 q10 q11 q12
    have ba : Below w7.heap.size w7 (w7.alloc (.cells #[.int .i64 y.id, .int .i64 y.n, .int .i64 y.s, .slice a7 ns.length c7, .int .i64 y.lost, .int .i64 y.built, .int .i64 y.seq, .int .i64 y.tail, .int .i64 y.gen, .slice d7 ds.length b7, .int .i64 y.fuse, .bool y.down, .bool y.broken] 33)) := (Below.refl _ _).alloc (Nat.le_refl _) _
    have xb := Box.new w7 33 #[.int .i64 y.id, .int .i64 y.n, .int .i64 y.s, .slice a7 ns.length c7, .int .i64 y.lost, .int .i64 y.built, .int .i64 y.seq, .int .i64 y.tail, .int .i64 y.gen, .slice d7 ds.length b7, .int .i64 y.fuse, .bool y.down, .bool y.broken]
    have zx8 := xb.lt
    have B8 := hidden (Below.andThen B7.out ba)
    have BR8 := hidden (BR7.out.below ba (by omega))
    have W8 := hidden (W7.out.below ba)
    have WB8 := hidden (WB7.out.below ba (by omega))
    have Dm8 := hidden (Dm7.out.below ba)
    have Dd8 := hidden (Dd7.out.below ba)
    have BX8 := hidden (BX7.out.below ba (by omega))
    have G8 := hidden (G7.out.below ba)
    have z8 := ba.size
    clear B7 BR7 W7 WB7 Dm7 Dd7 BX7 G7 ba
    have GB8 := hidden xb
    clear xb
    obtain ⟨p0, p1, p2, p3, p4, p5, p6, p7, p8, p9, p10, p11, p12⟩ := GB8.out.cells13
    obtain ⟨q0, q1, q2, q3, q4, q5, q6, q7, q8, q9, q10, q11, q12⟩ := WB8.out.cells13
    go_wp2_with fail
    generalize w7.alloc (.cells #[.int .i64 y.id, .int .i64 y.n, .int .i64 y.s, .slice a7 ns.length c7, .int .i64 y.lost, .int .i64 y.built, .int .i64 y.seq, .int .i64 y.tail, .int .i64 y.gen, .slice d7 ds.length b7, .int .i64 y.fuse, .bool y.down, .bool y.broken] 33) = w8 at B8 BR8 W8 WB8 Dm8 Dd8 BX8 G8 GB8 z8 zx8 p0 p1 p2 p3 p4 p5 p6 p7 p8 p9 p10 p11 p12 q0 q1 q2 q3 q4 q5 q6 q7 q8 q9 q10 q11 q12 ⊢
    refine (eqArr_same _ 104 104 73 73 75 75 y _ _ _ _ _ _ _ _ _ _ _ _ ns ds G8.out.rdm G8.out.rdd W8.out.rdm W8.out.rdd hwq).mono ?_
    rintro e w9 ⟨rfl, hb9⟩
    clear p0 p1 p2 p3 p4 p5 p6 p7 p8 p9 p10 p11 p12 q0 q1 q2 q3 q4 q5 q6 q7 q8 q9 q10 q11 q12
    have B9 := hidden (Below.andThen B8.out hb9)
    have BR9 := hidden (BR8.out.below hb9 (by omega))
    have W9 := hidden (W8.out.below hb9)
    have WB9 := hidden (WB8.out.below hb9 (by omega))
    have Dm9 := hidden (Dm8.out.below hb9)
    have Dd9 := hidden (Dd8.out.below hb9)
    have BX9 := hidden (BX8.out.below hb9 (by omega))
    have G9 := hidden (G8.out.below hb9)
    have GB9 := hidden (GB8.out.below hb9 (by omega))
    have z9 := hb9.size
    clear B8 BR8 W8 WB8 Dm8 Dd8 BX8 G8 GB8 hb9
    obtain ⟨y0, y1, y2, y3, y4, y5, y6, y7, y8, y9, y10, y11, y12⟩ := BX9.out.cells13
    obtain ⟨l0, l1, l2, l3, l4, l5, l6, l7, l8, l9, l10, l11, l12⟩ := BR9.out.cells13
    have zl := BR9.out.lt
    have zy := BX9.out.lt
    go_wp2_with fail
    refine wp_region_held_drew (S := fun w' => w'.cell? ⟨w5.heap.size, 0, none⟩ = some (.int .i64 x.id) ∧ w'.cell? ⟨w5.heap.size, 1, none⟩ = some (.int .i64 x.n) ∧ w'.cell? ⟨w5.heap.size, 2, none⟩ = some (.int .i64 x.s) ∧ w'.cell? ⟨w5.heap.size, 3, none⟩ = some (.slice (some ⟨bm5, 0, none⟩) nm nm) ∧ w'.cell? ⟨w5.heap.size, 4, none⟩ = some (.int .i64 x.lost) ∧ w'.cell? ⟨w5.heap.size, 5, none⟩ = some (.int .i64 x.built) ∧ w'.cell? ⟨w5.heap.size, 6, none⟩ = some (.int .i64 x.seq) ∧ w'.cell? ⟨w5.heap.size, 7, none⟩ = some (.int .i64 x.tail) ∧ w'.cell? ⟨w5.heap.size, 8, none⟩ = some (.int .i64 x.gen) ∧ w'.cell? ⟨w5.heap.size, 9, none⟩ = some (.slice (some ⟨bd5, 0, none⟩) nd nd) ∧ w'.cell? ⟨w5.heap.size, 10, none⟩ = some (.int .i64 x.fuse) ∧ w'.cell? ⟨w5.heap.size, 11, none⟩ = some (.bool x.down) ∧ w'.cell? ⟨w5.heap.size, 12, none⟩ = some (.bool x.broken) ∧ w'.cell? ⟨w.heap.size, 0, none⟩ = some (.int .i64 x.id) ∧ w'.cell? ⟨w.heap.size, 1, none⟩ = some (.int .i64 x.n) ∧ w'.cell? ⟨w.heap.size, 2, none⟩ = some (.int .i64 x.s) ∧ w'.cell? ⟨w.heap.size, 3, none⟩ = some (.slice am nm cm) ∧ w'.cell? ⟨w.heap.size, 4, none⟩ = some (.int .i64 x.lost) ∧ w'.cell? ⟨w.heap.size, 5, none⟩ = some (.int .i64 x.built) ∧ w'.cell? ⟨w.heap.size, 6, none⟩ = some (.int .i64 x.seq) ∧ w'.cell? ⟨w.heap.size, 7, none⟩ = some (.int .i64 x.tail) ∧ w'.cell? ⟨w.heap.size, 8, none⟩ = some (.int .i64 x.gen) ∧ w'.cell? ⟨w.heap.size, 9, none⟩ = some (.slice ad nd cd) ∧ w'.cell? ⟨w.heap.size, 10, none⟩ = some (.int .i64 x.fuse) ∧ w'.cell? ⟨w.heap.size, 11, none⟩ = some (.bool x.down) ∧ w'.cell? ⟨w.heap.size, 12, none⟩ = some (.bool x.broken)) (by kernel_rfl) ?_ (fun hHeld => ?_)
    · exact ⟨y0, y1, y2, y3, y4, y5, y6, y7, y8, y9, y10, y11, y12, l0, l1, l2, l3, l4, l5, l6, l7, l8, l9, l10, l11, l12⟩
    refine held_take (i := 0) (v := ?_) rfl (by kernel_rfl) (by kernel_rfl) (by kernel_rfl) (fun _ _ _ h => h) (by kernel_rfl) ?_ hHeld ?_
    rotate_left 1
    · (intro w hSw; (try dsimp only at hSw); go_split_ands; go_simp; first | done | with_reducible rfl)
    simp only [Act.put, List.setIfInBounds_toArray, List.set_cons_zero, List.set_cons_succ]
    refine held_take (i := 1) (v := ?_) rfl (by kernel_rfl) (by kernel_rfl) (by kernel_rfl) (fun _ _ _ h => h) (by kernel_rfl) ?_ hHeld ?_
    rotate_left 1
    · (intro w hSw; (try dsimp only at hSw); go_split_ands; go_simp; first | done | with_reducible rfl)
    simp only [Act.put, List.setIfInBounds_toArray, List.set_cons_zero, List.set_cons_succ]
    refine held_one (i := 2) (by kernel_rfl) rfl (by kernel_rfl) (fun K hK => ?_)
    go_simp
    refine (toArr_any _ 127 67 70 x _ _ _ _ _ _ ms ds (h0.below B9.out).drew (h1.below B9.out).drew hwt').mono ?_
    rintro e w10 ⟨bm10, bd10, rfl, om10, od10, ya10, yb10, hb10⟩
    have hb10' : Below w9.heap.size w9 w10 := (Below.refl w9.heap.size w9).drew.trans hb10
    go_wp2_with fail
    clear hHeld
    refine hK.out _ _ ?_ (fun hHeld => ?_)
    · exact ⟨(hb10'.cell (p := ⟨w5.heap.size, 0, none⟩) zy).trans y0, (hb10'.cell (p := ⟨w5.heap.size, 1, none⟩) zy).trans y1, (hb10'.cell (p := ⟨w5.heap.size, 2, none⟩) zy).trans y2, (hb10'.cell (p := ⟨w5.heap.size, 3, none⟩) zy).trans y3, (hb10'.cell (p := ⟨w5.heap.size, 4, none⟩) zy).trans y4, (hb10'.cell (p := ⟨w5.heap.size, 5, none⟩) zy).trans y5, (hb10'.cell (p := ⟨w5.heap.size, 6, none⟩) zy).trans y6, (hb10'.cell (p := ⟨w5.heap.size, 7, none⟩) zy).trans y7, (hb10'.cell (p := ⟨w5.heap.size, 8, none⟩) zy).trans y8, (hb10'.cell (p := ⟨w5.heap.size, 9, none⟩) zy).trans y9, (hb10'.cell (p := ⟨w5.heap.size, 10, none⟩) zy).trans y10, (hb10'.cell (p := ⟨w5.heap.size, 11, none⟩) zy).trans y11, (hb10'.cell (p := ⟨w5.heap.size, 12, none⟩) zy).trans y12, (hb10'.cell (p := ⟨w.heap.size, 0, none⟩) zl).trans l0, (hb10'.cell (p := ⟨w.heap.size, 1, none⟩) zl).trans l1, (hb10'.cell (p := ⟨w.heap.size, 2, none⟩) zl).trans l2, (hb10'.cell (p := ⟨w.heap.size, 3, none⟩) zl).trans l3, (hb10'.cell (p := ⟨w.heap.size, 4, none⟩) zl).trans l4, (hb10'.cell (p := ⟨w.heap.size, 5, none⟩) zl).trans l5, (hb10'.cell (p := ⟨w.heap.size, 6, none⟩) zl).trans l6, (hb10'.cell (p := ⟨w.heap.size, 7, none⟩) zl).trans l7, (hb10'.cell (p := ⟨w.heap.size, 8, none⟩) zl).trans l8, (hb10'.cell (p := ⟨w.heap.size, 9, none⟩) zl).trans l9, (hb10'.cell (p := ⟨w.heap.size, 10, none⟩) zl).trans l10, (hb10'.cell (p := ⟨w.heap.size, 11, none⟩) zl).trans l11, (hb10'.cell (p := ⟨w.heap.size, 12, none⟩) zl).trans l12⟩
    clear hK K
    refine held_one (i := 3) (by kernel_rfl) rfl (by kernel_rfl) (fun K hK => ?_)
    go_simp
    refine (eqArr_same _ 104 104 73 73 75 75 x _ _ _ _ _ _ _ _ _ _ _ _ ms ds (Dm9.out.below hb10').rd (Dd9.out.below hb10').rd om10.rd od10.rd hwt2).mono ?_
    rintro e w11 ⟨rfl, hb11⟩
    have hb11' : Below w9.heap.size w9 w11 := Below.andThen hb10' hb11
    go_wp2_with fail
    clear hHeld
    refine hK.out _ _ ?_ (fun hHeld => ?_)
    · exact ⟨(hb11'.cell (p := ⟨w5.heap.size, 0, none⟩) zy).trans y0, (hb11'.cell (p := ⟨w5.heap.size, 1, none⟩) zy).trans y1, (hb11'.cell (p := ⟨w5.heap.size, 2, none⟩) zy).trans y2, (hb11'.cell (p := ⟨w5.heap.size, 3, none⟩) zy).trans y3, (hb11'.cell (p := ⟨w5.heap.size, 4, none⟩) zy).trans y4, (hb11'.cell (p := ⟨w5.heap.size, 5, none⟩) zy).trans y5, (hb11'.cell (p := ⟨w5.heap.size, 6, none⟩) zy).trans y6, (hb11'.cell (p := ⟨w5.heap.size, 7, none⟩) zy).trans y7, (hb11'.cell (p := ⟨w5.heap.size, 8, none⟩) zy).trans y8, (hb11'.cell (p := ⟨w5.heap.size, 9, none⟩) zy).trans y9, (hb11'.cell (p := ⟨w5.heap.size, 10, none⟩) zy).trans y10, (hb11'.cell (p := ⟨w5.heap.size, 11, none⟩) zy).trans y11, (hb11'.cell (p := ⟨w5.heap.size, 12, none⟩) zy).trans y12, (hb11'.cell (p := ⟨w.heap.size, 0, none⟩) zl).trans l0, (hb11'.cell (p := ⟨w.heap.size, 1, none⟩) zl).trans l1, (hb11'.cell (p := ⟨w.heap.size, 2, none⟩) zl).trans l2, (hb11'.cell (p := ⟨w.heap.size, 3, none⟩) zl).trans l3, (hb11'.cell (p := ⟨w.heap.size, 4, none⟩) zl).trans l4, (hb11'.cell (p := ⟨w.heap.size, 5, none⟩) zl).trans l5, (hb11'.cell (p := ⟨w.heap.size, 6, none⟩) zl).trans l6, (hb11'.cell (p := ⟨w.heap.size, 7, none⟩) zl).trans l7, (hb11'.cell (p := ⟨w.heap.size, 8, none⟩) zl).trans l8, (hb11'.cell (p := ⟨w.heap.size, 9, none⟩) zl).trans l9, (hb11'.cell (p := ⟨w.heap.size, 10, none⟩) zl).trans l10, (hb11'.cell (p := ⟨w.heap.size, 11, none⟩) zl).trans l11, (hb11'.cell (p := ⟨w.heap.size, 12, none⟩) zl).trans l12⟩
    clear hK K
    refine held_take (i := 4) (v := ?_) rfl (by kernel_rfl) (by kernel_rfl) (by kernel_rfl) (fun _ _ _ h => h) (by kernel_rfl) ?_ hHeld ?_
    rotate_left 1
    · (intro w hSw; (try dsimp only at hSw); go_split_ands; go_simp; first | done | with_reducible rfl)
    simp only [Act.put, List.setIfInBounds_toArray, List.set_cons_zero, List.set_cons_succ]
    refine wpAnyH_done (by kernel_rfl) ?_ _
    clear hHeld
    clear y0 y1 y2 y3 y4 y5 y6 y7 y8 y9 y10 y11 y12 l0 l1 l2 l3 l4 l5 l6 l7 l8 l9 l10 l11 l12
    clear zl zy om10 od10 ya10 yb10 hb10 hb11 hb10'
    have B11 := hidden (Below.andThen B9.out hb11')
    have BR11 := hidden (BR9.out.below hb11' (by omega))
    have W11 := hidden (W9.out.below hb11')
    have WB11 := hidden (WB9.out.below hb11' (by omega))
    have Dm11 := hidden (Dm9.out.below hb11')
    have Dd11 := hidden (Dd9.out.below hb11')
    have BX11 := hidden (BX9.out.below hb11' (by omega))
    have G11 := hidden (G9.out.below hb11')
    have GB11 := hidden (GB9.out.below hb11' (by omega))
    have z11 := hb11'.size
    clear B9 BR9 W9 WB9 Dm9 Dd9 BX9 G9 GB9 hb11'
    obtain ⟨q0, q1, q2, q3, q4, q5, q6, q7, q8, q9, q10, q11, q12⟩ := BX11.out.cells13
    go_wp2_with fail
    refine (markArr_own _ _ _ _ x _ _ _ _ _ _ ms ds Dm11.out Dd11.out (by omega) (by omega) (by omega) hwt2).mono ?_
    rintro e w12 ⟨rfl, _, _, hb12⟩
    clear q0 q1 q2 q3 q4 q5 q6 q7 q8 q9 q10 q11 q12
    clear Dm11
    clear Dd11
    clear BX11
    have B12 := hidden (Below.andBut B11.out hb12 (by omega))
    have BR12 := hidden (BR11.out.kept (hb12.block _ (by omega) (by omega)))
    have W12 := hidden (W11.out.but hb12 (by omega))
    have WB12 := hidden (WB11.out.kept (hb12.block _ (by omega) (by omega)))
    have G12 := hidden (G11.out.but hb12 (by omega))
    have GB12 := hidden (GB11.out.kept (hb12.block _ (by omega) (by omega)))
    have z12 := hb12.size
    clear B11 BR11 W11 WB11 G11 GB11 hb12
    have hcn : (0 : Int) ≤ 1 + (cntMS ms : Int) + (cntWS ds : Int) := by omega
    generalize 1 + (cntMS ms : Int) + (cntWS ds : Int) = cn at hcn ⊢
    obtain ⟨p0, p1, p2, p3, p4, p5, p6, p7, p8, p9, p10, p11, p12⟩ := GB12.out.cells13
    obtain ⟨q0, q1, q2, q3, q4, q5, q6, q7, q8, q9, q10, q11, q12⟩ := WB12.out.cells13
    go_wp2_with fail
    refine (eqArr_same _ 104 104 73 73 75 75 y _ _ _ _ _ _ _ _ _ _ _ _ ns ds G12.out.rdm G12.out.rdd W12.out.rdm W12.out.rdd hwq).mono ?_
    rintro e w13 ⟨rfl, hb13⟩
    clear p0 p1 p2 p3 p4 p5 p6 p7 p8 p9 p10 p11 p12 q0 q1 q2 q3 q4 q5 q6 q7 q8 q9 q10 q11 q12
    have B13 := hidden (Below.andThen B12.out hb13)
    have BR13 := hidden (BR12.out.below hb13 (by omega))
    have W13 := hidden (W12.out.below hb13)
    have WB13 := hidden (WB12.out.below hb13 (by omega))
    have G13 := hidden (G12.out.below hb13)
    have GB13 := hidden (GB12.out.below hb13 (by omega))
    have z13 := hb13.size
    clear B12 BR12 W12 WB12 G12 GB12 hb13
    obtain ⟨p0, p1, p2, p3, p4, p5, p6, p7, p8, p9, p10, p11, p12⟩ := GB13.out.cells13
    go_wp2_with fail
    refine (markArr_in _ w6.heap.size w7.heap.size y _ _ _ _ _ _ ns ds G13.out (by omega) hwq).mono ?_
    rintro e w14 ⟨rfl, oi14, hb14⟩
    clear p0 p1 p2 p3 p4 p5 p6 p7 p8 p9 p10 p11 p12
    clear G13
    have B14 := hidden (Below.andBut B13.out hb14 (by omega))
    have BR14 := hidden (BR13.out.kept (hb14.block _ (by omega) (by omega)))
    have W14 := hidden (W13.out.but hb14 (by omega))
    have WB14 := hidden (WB13.out.kept (hb14.block _ (by omega) (by omega)))
    have GB14 := hidden (GB13.out.kept (hb14.block _ (by omega) (by omega)))
    have z14 := hb14.size
    clear B13 BR13 W13 WB13 GB13 hb14
    have G14 := hidden oi14
    clear oi14
    obtain ⟨p0, p1, p2, p3, p4, p5, p6, p7, p8, p9, p10, p11, p12⟩ := GB14.out.cells13
    go_wp2_with fail
    refine (heldArr_any _ 104 73 75 y _ _ _ _ _ _ ns ds G14.out.rdm G14.out.rdd hwq).mono ?_
    rintro e w15 ⟨rfl, hb15⟩
    clear p0 p1 p2 p3 p4 p5 p6 p7 p8 p9 p10 p11 p12
    have B15 := hidden (Below.andThen B14.out hb15)
    have BR15 := hidden (BR14.out.below hb15 (by omega))
    have W15 := hidden (W14.out.below hb15)
    have WB15 := hidden (WB14.out.below hb15 (by omega))
    have GB15 := hidden (GB14.out.below hb15 (by omega))
    have G15 := hidden (G14.out.below hb15)
    have z15 := hb15.size
    clear B14 BR14 W14 WB14 GB14 G14 hb15
    have hcm : (0 : Int) ≤ 1 + (cntMS ns : Int) + (cntWS ds : Int) := by omega
    generalize hCM : 1 + (cntMS ns : Int) + (cntWS ds : Int) = ck at hcm ⊢
    have HCM := hidden hCM
    clear hCM
    obtain ⟨l0, l1, l2, l3, l4, l5, l6, l7, l8, l9, l10, l11, l12⟩ := BR15.out.cells13
    go_wp2_with fail
    refine (toArr_any _ 127 67 70 x _ _ _ _ _ _ ms ds (h0.below B15.out) (h1.below B15.out) hwt').mono ?_
    rintro e w16 ⟨bm16, bd16, rfl, om16, od16, ya16, yb16, hb16⟩
    clear l0 l1 l2 l3 l4 l5 l6 l7 l8 l9 l10 l11 l12
    have B16 := hidden (Below.andThen B15.out hb16)
    have BR16 := hidden (BR15.out.below hb16 (by omega))
    have W16 := hidden (W15.out.below hb16)
    have WB16 := hidden (WB15.out.below hb16 (by omega))
    have GB16 := hidden (GB15.out.below hb16 (by omega))
    have G16 := hidden (G15.out.below hb16)
    have z16 := hb16.size
    clear B15 BR15 W15 WB15 GB15 G15 hb16
    have Em16 := hidden om16
    clear om16
    have Ed16 := hidden od16
    clear od16
    go_wp2_with fail
    refine (implCheck_any _ 104 73 75 x _ _ _ _ _ _ ms ds Em16.out.rd Ed16.out.rd hwt2).mono ?_
    rintro e w17 ho17
    rw [HQ.out] at ho17
    obtain ⟨a17, d17, c17, b17, rfl, o17, hb17⟩ := ho17
    dsimp only at o17
    unfold arrC
    have B17 := hidden (Below.andThen B16.out hb17)
    have BR17 := hidden (BR16.out.below hb17 (by omega))
    have W17 := hidden (W16.out.below hb17)
    have WB17 := hidden (WB16.out.below hb17 (by omega))
    have GB17 := hidden (GB16.out.below hb17 (by omega))
    have G17 := hidden (G16.out.below hb17)
    have Em17 := hidden (Em16.out.below hb17)
    have Ed17 := hidden (Ed16.out.below hb17)
    have z17 := hb17.size
    clear B16 BR16 W16 WB16 GB16 G16 Em16 Ed16 hb17
    have H17 := hidden o17
    clear o17
    clear Em17
    clear Ed17
    have ba : Below w17.heap.size w17 (w17.alloc (.cells #[.int .i64 y.id, .int .i64 y.n, .int .i64 y.s, .slice a17 ns.length c17, .int .i64 y.lost, .int .i64 y.built, .int .i64 y.seq, .int .i64 y.tail, .int .i64 y.gen, .slice d17 ds.length b17, .int .i64 y.fuse, .bool y.down, .bool y.broken] 33)) := (Below.refl _ _).alloc (Nat.le_refl _) _
    have xb := Box.new w17 33 #[.int .i64 y.id, .int .i64 y.n, .int .i64 y.s, .slice a17 ns.length c17, .int .i64 y.lost, .int .i64 y.built, .int .i64 y.seq, .int .i64 y.tail, .int .i64 y.gen, .slice d17 ds.length b17, .int .i64 y.fuse, .bool y.down, .bool y.broken]
    have zx18 := xb.lt
    have B18 := hidden (Below.andThen B17.out ba)
    have BR18 := hidden (BR17.out.below ba (by omega))
    have W18 := hidden (W17.out.below ba)
    have WB18 := hidden (WB17.out.below ba (by omega))
    have GB18 := hidden (GB17.out.below ba (by omega))
    have G18 := hidden (G17.out.below ba)
    have H18 := hidden (H17.out.below ba)
    have z18 := ba.size
    clear B17 BR17 W17 WB17 GB17 G17 H17 ba
    have HB18 := hidden xb
    clear xb
    obtain ⟨p0, p1, p2, p3, p4, p5, p6, p7, p8, p9, p10, p11, p12⟩ := HB18.out.cells13
    obtain ⟨q0, q1, q2, q3, q4, q5, q6, q7, q8, q9, q10, q11, q12⟩ := WB18.out.cells13
    go_wp2_with fail
    generalize w17.alloc (.cells #[.int .i64 y.id, .int .i64 y.n, .int .i64 y.s, .slice a17 ns.length c17, .int .i64 y.lost, .int .i64 y.built, .int .i64 y.seq, .int .i64 y.tail, .int .i64 y.gen, .slice d17 ds.length b17, .int .i64 y.fuse, .bool y.down, .bool y.broken] 33) = w18 at B18 BR18 W18 WB18 GB18 G18 H18 HB18 z18 zx18 p0 p1 p2 p3 p4 p5 p6 p7 p8 p9 p10 p11 p12 q0 q1 q2 q3 q4 q5 q6 q7 q8 q9 q10 q11 q12 ⊢
    refine (eqArr_same _ 104 104 73 73 75 75 y _ _ _ _ _ _ _ _ _ _ _ _ ns ds H18.out.rdm H18.out.rdd W18.out.rdm W18.out.rdd hwq).mono ?_
    rintro e w19 ⟨rfl, hb19⟩
    clear p0 p1 p2 p3 p4 p5 p6 p7 p8 p9 p10 p11 p12 q0 q1 q2 q3 q4 q5 q6 q7 q8 q9 q10 q11 q12
    have B19 := hidden (Below.andThen B18.out hb19)
    have BR19 := hidden (BR18.out.below hb19 (by omega))
    have W19 := hidden (W18.out.below hb19)
    have WB19 := hidden (WB18.out.below hb19 (by omega))
    have GB19 := hidden (GB18.out.below hb19 (by omega))
    have G19 := hidden (G18.out.below hb19)
    have H19 := hidden (H18.out.below hb19)
    have HB19 := hidden (HB18.out.below hb19 (by omega))
    have z19 := hb19.size
    clear B18 BR18 W18 WB18 GB18 G18 H18 HB18 hb19
    clear H19
    clear HB19
    clear W19
    clear WB19
    obtain ⟨p0, p1, p2, p3, p4, p5, p6, p7, p8, p9, p10, p11, p12⟩ := GB19.out.cells13
    go_wp2_with fail
    refine (heldArr_any _ 104 73 75 y _ _ _ _ _ _ ns ds G19.out.rdm G19.out.rdd hwq).mono ?_
    rintro e w20 ⟨rfl, hb20⟩
    clear p0 p1 p2 p3 p4 p5 p6 p7 p8 p9 p10 p11 p12
    have B20 := hidden (Below.andThen B19.out hb20)
    have BR20 := hidden (BR19.out.below hb20 (by omega))
    have GB20 := hidden (GB19.out.below hb20 (by omega))
    have G20 := hidden (G19.out.below hb20)
    have z20 := hb20.size
    clear B19 BR19 GB19 G19 hb20
    rw [HCM.out]
    go_wp2
    go_ret
    exact ⟨rfl, B20.out⟩
  · have hq := leftOf_neg (left := 1048576) (wt := wtArr ms ds) (by omega)
    go_wp2
    go_ret
    exact ⟨rfl, B1.out⟩

end Go.Proofs.YthkpkpclmemodaaGreat

/-
  What the row's reading says of arguments with depth, in these texts' own words. No condition.
-/
namespace Go.Proofs.YthkpkpclmemodaaGreat
open Go.RowKit Go.ChangeShapes Go.WideShapes Go.ChangeAt Go.Joins Go.Deep

section
variable {H : Type} {enc : TypeId × Value → H} {P : Program} {w : World} {held : Bool}

theorem rdInts_of {t q : TypeId} {fuel : Nat} {v : Value} {x : DataW H × List MemPlace} (ht : P.underlying t = some (.slice q)) (hq : P.underlying q = some (.int .i64)) (cq : P.cellsOf q = 1)
    (h : DataW.trod enc P w 0 (fun _ => true) held fuel t [v] = some x) : ∃ zs, tIntS.Rd w [v] zs := by
  rcases open_ints ht hq cq h with ⟨hcs, _⟩ | ⟨a, len, cap, zs, hcs, _, hl, hm, hz, _, hcell, hwz⟩
  · simp at hcs
    subst hcs
    exact ⟨[], ints_rd_of (.inl rfl) (Nat.le_refl _) (by simp) (fun _ => rfl)⟩
  · simp at hcs
    subst hcs
    have hr : IsRow .i64 w (some a) len cap zs := .inr ⟨_, rfl, hl, hm, by simpa using hz, hcell, hwz⟩
    obtain ⟨h1, h2, _, _⟩ := hr.reads
    refine ⟨zs.take len, ?_⟩
    have := ints_rd_of (E := 3) (cap := cap) h1 (by omega) (by unfold maxLen at hm; omega) (by simp)
    rw [h2] at this
    exact this

/-- A slice by its elements. -/
theorem rd_row {t : Ty} {E : TypeId} {a : Addr} {len cap : Nat} (hl : len ≤ cap) (hm : cap ≤ 9223372036854775807) (cs : Nat → List Value) (hn : 0 < t.n) (hcl : ∀ i, i < len → (cs i).length = t.n)
    (hc : ∀ i, i < len → ∀ j, j < t.n → w.cell? (a.add (i * t.n + j)) = (cs i)[j]?) (hx : ∀ i, i < len → ∃ x, t.Rd w (cs i) x) : ∃ d, (rowTy t E).Rd w [.slice (some a) len cap] d := by
  have each : ∀ i, i < len → ∃ y : t.D × List Nat, t.rd w (cs i) y.1 y.2 := by
    intro i hi
    obtain ⟨x, fp, h⟩ := hx i hi
    exact ⟨(x, fp), h⟩
  by_cases h0 : len = 0
  · subst h0
    exact ⟨[], [], some a, cap, rfl, by simp, hm, .inl ⟨rfl, rfl, by simp⟩⟩
  · have hne : Nonempty (t.D × List Nat) := by
      obtain ⟨y, _⟩ := each 0 (by omega)
      exact ⟨y⟩
    have hch : ∃ f : Nat → t.D × List Nat, ∀ i, i < len → t.rd w (cs i) (f i).1 (f i).2 := by
      refine ⟨fun i => if h : i < len then Classical.choose (each i h) else Classical.choice hne, fun i hi => ?_⟩
      simp only [dif_pos hi]
      exact Classical.choose_spec (each i hi)
    obtain ⟨f, hf⟩ := hch
    obtain ⟨b, off, spot⟩ := a
    have hc0 := hc 0 (by omega) 0 hn
    have hsome : ∃ v0, (cs 0)[0]? = some v0 := ⟨(cs 0)[0]'(by rw [hcl 0 (by omega)]; exact hn), List.getElem?_eq_getElem _⟩
    obtain ⟨v0, hv0⟩ := hsome
    rw [hv0] at hc0
    have hspot : spot = none := by simpa [Addr.add] using World.cell?_spot hc0
    subst hspot
    have ea : ∀ k, (⟨b, off, none⟩ : Addr).add k = ⟨b, off + k, none⟩ := by
      intro k
      unfold Addr.add
      split <;> simp_all
    rw [ea] at hc0
    have hblt : b < w.heap.size := World.block_lt_of_cell? w _ hc0
    refine ⟨(List.range len).map fun i => (f i).1, b :: ((List.range len).map fun i => (f i).2).flatten, _, cap, by simp, by simpa using hl, hm, .inr ⟨b, off, (List.range len).map fun i => (f i).2, rfl, hblt, rfl, by simp, fun i x hxi => ?_⟩⟩
    have hi : i < len := by
      have := (List.getElem?_eq_some_iff.1 hxi).1
      simpa using this
    rw [List.getElem?_map, List.getElem?_range hi] at hxi
    simp at hxi
    subst hxi
    refine ⟨(f i).2, cs i, by rw [List.getElem?_map, List.getElem?_range hi]; rfl, hf i hi, fun j hj => ?_⟩
    rw [← ea]
    exact hc i hi j hj

theorem rdIntSS_of {t e q : TypeId} {fuel : Nat} {v : Value} {x : DataW H × List MemPlace} (ht : P.underlying t = some (.slice e)) (he : P.underlying e = some (.slice q)) (hq : P.underlying q = some (.int .i64)) (ce : P.cellsOf e = 1) (cq : P.cellsOf q = 1)
    (h : DataW.trod enc P w 0 (fun _ => true) held fuel t [v] = some x) : ∃ d, tIntSS.Rd w [v] d := by
  rcases open_slice1 ht ce h with ⟨hcs, _⟩ | ⟨a, len, cap, m, n, V, D, Pl, hcs, _, hl, hm, hmm, _, hx⟩
  · simp at hcs
    subst hcs
    exact ⟨[], [], none, 0, rfl, by simp, by simp, .inl ⟨rfl, rfl, fun _ => rfl⟩⟩
  · simp at hcs
    subst hcs
    simp only [if_true] at hmm
    refine rd_row hl (by unfold maxLen at hm; omega) (fun i => [V i]) (by decide) (fun _ _ => rfl) (fun i hi j hj => ?_) (fun i hi => rdInts_of he hq cq (hx i (by omega)).2)
    have hj0 : j = 0 := by have : j < 1 := hj; omega
    subst hj0
    have := (hx i (by omega)).1
    show w.cell? (a.add (i * 1 + 0)) = some (V i)
    rw [Nat.mul_one, Nat.add_zero]
    exact this

theorem rdWrS_of {t e q : TypeId} {f0 f1 : Field} {E : TypeId} {fuel : Nat} {v : Value} {x : DataW H × List MemPlace} (ht : P.underlying t = some (.slice e)) (he : P.underlying e = some (.struct #[f0, f1])) (ce : P.cellsOf e = 2) (o0 : f0.offset = 0) (o1 : f1.offset = 1) (c0 : P.cellsOf f0.type = 1) (c1 : P.cellsOf f1.type = 1)
    (hi0 : P.underlying f0.type = some (.int .i64)) (hi1 : P.underlying f1.type = some (.slice q)) (hq : P.underlying q = some (.int .i64)) (cq : P.cellsOf q = 1)
    (h : DataW.trod enc P w 0 (fun _ => true) held fuel t [v] = some x) : ∃ d, (tWrS E).Rd w [v] d := by
  rcases open_slice_pairs ht he ce o0 o1 c0 c1 h with ⟨hcs, _⟩ | ⟨a, len, cap, m, n, V0, V1, D0, D1, P0, P1, hcs, _, hl, hm, hmm, _, hx⟩
  · simp at hcs
    subst hcs
    exact ⟨[], [], none, 0, rfl, by simp, by simp, .inl ⟨rfl, rfl, fun _ => rfl⟩⟩
  · simp at hcs
    subst hcs
    simp only [if_true] at hmm
    refine rd_row hl (by unfold maxLen at hm; omega) (fun i => [V0 i, V1 i]) (by decide) (fun _ _ => rfl) (fun i hi j hj => ?_) (fun i hi => ?_)
    · have hj2 : j < 2 := hj
      obtain ⟨h0, h1, _⟩ := hx i (by omega)
      match j, hj2 with
      | 0, _ => exact h0
      | 1, _ => exact h1
    · obtain ⟨_, _, h2, h3⟩ := hx i (by omega)
      obtain ⟨y, hy, _, _⟩ := DataW.trod_int hi0 h2
      obtain ⟨zs, hzs⟩ := rdInts_of hi1 hq cq h3
      simp at hy
      exact ⟨(y, zs), by rw [hy]; exact pair_rd_of (t := intTy) (vs := [_]) ⟨[], rfl, rfl⟩ hzs⟩

end
end Go.Proofs.YthkpkpclmemodaaGreat

/-
  What the row's reading says of an array that came in, in these texts' own words: its numbers and flags, and what its two slices read. No condition.
-/
namespace Go.Proofs.YthkpkpclmemodaaGreat
open Go.RowKit Go.ChangeShapes Go.WideShapes Go.ChangeAt Go.Joins Go.Deep

section
variable {H : Type} {enc : TypeId × Value → H} {w : World} {held : Bool}

/-- A slice whose elements are read one by one. -/
theorem rdRow_of {P : Program} {t e E : TypeId} {u : Ty} {fuel : Nat} {v : Value} {x : DataW H × List MemPlace} (ht : P.underlying t = some (.slice e)) (ce : P.cellsOf e = u.n) (hn : 0 < u.n)
    (each : ∀ (n : Nat) (cs : List Value) (y : DataW H × List MemPlace), cs.length = u.n → DataW.trod enc P w 0 (fun _ => true) held n e cs = some y → ∃ d, u.Rd w cs d)
    (h : DataW.trod enc P w 0 (fun _ => true) held fuel t [v] = some x) : ∃ d, (rowTy u E).Rd w [v] d := by
  rcases open_slice ht h with ⟨hcs, _⟩ | ⟨a, len, cap, m, n, D, Pl, hcs, _, hl, hm, hmm, _, hx⟩
  · simp at hcs
    subst hcs
    exact ⟨[], [], none, 0, rfl, by simp, by simp, .inl ⟨rfl, rfl, fun _ => rfl⟩⟩
  · simp at hcs
    subst hcs
    simp only [if_true] at hmm
    have one : ∀ i, i < len → ∃ cs : List Value, cs.length = u.n ∧ (∀ j, j < u.n → w.cell? (a.add (i * u.n + j)) = cs[j]?) ∧ ∃ d, u.Rd w cs d := by
      intro i hi
      obtain ⟨cs', h1, h2⟩ := hx i (by omega)
      rw [ce] at h1
      obtain ⟨_, hlen, hcell⟩ := World.cells?_some h1
      refine ⟨cs', hlen, fun j hj => ?_, each n cs' _ hlen h2⟩
      have := hcell j hj
      rw [add_add] at this
      exact this
    obtain ⟨q, hq⟩ := choose_lt one
    exact rd_row hl (by unfold maxLen at hm; omega) q hn (fun i hi => (hq i hi).1) (fun i hi => (hq i hi).2.1) (fun i hi => (hq i hi).2.2)

theorem rdMemS_of {fuel : Nat} {v : Value} {x : DataW H × List MemPlace} (h : DataW.trod enc Tryz.prog w 0 (fun _ => true) held fuel 24 [v] = some x) : ∃ d, (tMemS 127 67).Rd w [v] d := by
  refine rdRow_of (e := 67) Tryz.underlying24 (by kernel_rfl) (by decide) (fun n cs y hl hy => ?_) h
  match cs, hl with
  | [v0, v1, v2, v3], _ =>
    obtain ⟨xs, k, _, _, _, hxl, hf⟩ := DataW.trod_struct Tryz.underlying67 hy
    have c1 : Tryz.prog.cellsOf 64 = 1 := by kernel_rfl
    have c2 : Tryz.prog.cellsOf 65 = 1 := by kernel_rfl
    have c3 : Tryz.prog.cellsOf 4 = 1 := by kernel_rfl
    have c4 : Tryz.prog.cellsOf 39 = 1 := by kernel_rfl
    match xs, hxl with
    | [y0, y1, y2, y3], _ =>
      have g0 := hf 0 _ rfl
      have g1 := hf 1 _ rfl
      have g2 := hf 2 _ rfl
      have g3 := hf 3 _ rfl
      simp [c1] at g0
      simp [c2] at g1
      simp [c3] at g2
      simp [c4] at g3
      obtain ⟨ss, r0⟩ := rdIntSS_of Tryz.underlying64 Tryz.underlying39 Tryz.underlying3 (by kernel_rfl) (by kernel_rfl) g0
      obtain ⟨ws, r1⟩ := rdWrS_of (E := 127) Tryz.underlying65 Tryz.underlying127 (by kernel_rfl) rfl rfl (by kernel_rfl) (by kernel_rfl) Tryz.underlying3 Tryz.underlying39 Tryz.underlying3 (by kernel_rfl) g1
      obtain ⟨f, hfb, _⟩ := DataW.trod_bool Tryz.underlying4 g2
      obtain ⟨bs, r3⟩ := rdInts_of Tryz.underlying39 Tryz.underlying3 (by kernel_rfl) g3
      simp at hfb
      subst hfb
      exact ⟨(ss, ws, f, bs), pair_rd_of (vs := [v0]) r0 (pair_rd_of (vs := [v1]) r1 (pair_rd_of (t := boolTy) (vs := [.bool f]) ⟨[], rfl, rfl⟩ r3))⟩

set_option maxRecDepth 20000 in
theorem array13 {cs : Array Value} (h : cs.size = 13) : ∃ c0 c1 c2 c3 c4 c5 c6 c7 c8 c9 c10 c11 c12, cs = #[c0, c1, c2, c3, c4, c5, c6, c7, c8, c9, c10, c11, c12] := by
  obtain ⟨l⟩ := cs
  match l, h with
  | [c0, c1, c2, c3, c4, c5, c6, c7, c8, c9, c10, c11, c12], _ => exact ⟨c0, c1, c2, c3, c4, c5, c6, c7, c8, c9, c10, c11, c12, rfl⟩

set_option maxRecDepth 20000 in
set_option maxHeartbeats 1600000 in
theorem open_arr {r : Reach} {b0 : Nat} {v : Value} {d : DataW H} {p : List MemPlace} (hv : Value.okWide Tryz.prog w r b0 27 v) (h : DataW.Trod enc Tryz.prog w 0 (fun _ => true) held 27 v d p) :
    ∃ (x : ArrN) (am ad : Option Addr) (cm cd : Nat) (ms : List MemD) (ds : List (Int × List Int)), v = .agg #[.int .i64 x.id, .int .i64 x.n, .int .i64 x.s, .slice am ms.length cm, .int .i64 x.lost, .int .i64 x.built, .int .i64 x.seq, .int .i64 x.tail, .int .i64 x.gen, .slice ad ds.length cd, .int .i64 x.fuse, .bool x.down, .bool x.broken] ∧ (tMemS 127 67).Rd w [.slice am ms.length cm] ms ∧ (tWrS 70).Rd w [.slice ad ds.length cd] ds := by
  obtain ⟨cs, rfl, hsz⟩ := okWide_struct Tryz.underlying27 hv
  obtain ⟨c0, c1, c2, c3, c4, c5, c6, c7, c8, c9, c10, c11, c12, rfl⟩ := array13 (hsz.trans (by kernel_rfl))
  obtain ⟨fuel, hf⟩ := h
  obtain ⟨xs, n, _, _, _, hxl, hx⟩ := DataW.trod_struct Tryz.underlying27 hf
  have k3 : Tryz.prog.cellsOf 3 = 1 := by kernel_rfl
  have k4 : Tryz.prog.cellsOf 4 = 1 := by kernel_rfl
  have kG : Tryz.prog.cellsOf 23 = 2 := by kernel_rfl
  have kM : Tryz.prog.cellsOf 24 = 1 := by kernel_rfl
  have kE : Tryz.prog.cellsOf 25 = 1 := by kernel_rfl
  match xs, hxl with
  | [y0, y1, y2, y3, y4, y5, y6, y7, y8, y9, y10, y11], _ =>
    have g0 := hx 0 _ rfl
    have g1 := hx 1 _ rfl
    have g2 := hx 2 _ rfl
    have g3 := hx 3 _ rfl
    have g4 := hx 4 _ rfl
    have g5 := hx 5 _ rfl
    have g6 := hx 6 _ rfl
    have g7 := hx 7 _ rfl
    have g8 := hx 8 _ rfl
    have g9 := hx 9 _ rfl
    have g10 := hx 10 _ rfl
    have g11 := hx 11 _ rfl
    simp [Value.cells, k3] at g0
    simp [Value.cells, kG] at g1
    simp [Value.cells, kM] at g2
    simp [Value.cells, k3] at g3
    simp [Value.cells, k3] at g4
    simp [Value.cells, k3] at g5
    simp [Value.cells, k3] at g6
    simp [Value.cells, k3] at g7
    simp [Value.cells, kE] at g8
    simp [Value.cells, k3] at g9
    simp [Value.cells, k4] at g10
    simp [Value.cells, k4] at g11
    obtain ⟨n0, e0, _, _⟩ := DataW.trod_int Tryz.underlying3 g0
    simp at e0
    subst e0
    obtain ⟨zs, m, _, _, _, hzl, hz⟩ := DataW.trod_struct Tryz.underlying23 g1
    match zs, hzl with
    | [z0, z1], _ =>
    have q0 := hz 0 _ rfl
    have q1 := hz 1 _ rfl
    simp [k3] at q0 q1
    obtain ⟨nn, en, _, _⟩ := DataW.trod_int Tryz.underlying3 q0
    obtain ⟨ns, es, _, _⟩ := DataW.trod_int Tryz.underlying3 q1
    simp at en es
    subst en es
    obtain ⟨ms, r2⟩ := rdMemS_of g2
    obtain ⟨am, cm, rfl⟩ := row_shape r2
    obtain ⟨n3, e3, _, _⟩ := DataW.trod_int Tryz.underlying3 g3
    simp at e3
    subst e3
    obtain ⟨n4, e4, _, _⟩ := DataW.trod_int Tryz.underlying3 g4
    simp at e4
    subst e4
    obtain ⟨n5, e5, _, _⟩ := DataW.trod_int Tryz.underlying3 g5
    simp at e5
    subst e5
    obtain ⟨n6, e6, _, _⟩ := DataW.trod_int Tryz.underlying3 g6
    simp at e6
    subst e6
    obtain ⟨n7, e7, _, _⟩ := DataW.trod_int Tryz.underlying3 g7
    simp at e7
    subst e7
    obtain ⟨ds, r8⟩ := rdWrS_of (E := 70) Tryz.underlying25 Tryz.underlying70 (by kernel_rfl) rfl rfl (by kernel_rfl) (by kernel_rfl) Tryz.underlying3 Tryz.underlying39 Tryz.underlying3 (by kernel_rfl) g8
    obtain ⟨ad, cd, rfl⟩ := row_shape r8
    obtain ⟨n9, e9, _, _⟩ := DataW.trod_int Tryz.underlying3 g9
    simp at e9
    subst e9
    obtain ⟨n10, e10, _⟩ := DataW.trod_bool Tryz.underlying4 g10
    simp at e10
    subst e10
    obtain ⟨n11, e11, _⟩ := DataW.trod_bool Tryz.underlying4 g11
    simp at e11
    subst e11
    exact ⟨⟨n0, nn, ns, n3, n4, n5, n6, n7, n9, n10, n11⟩, am, ad, cm, cd, ms, ds, rfl, r2, r8⟩

end
end Go.Proofs.YthkpkpclmemodaaGreat

namespace Go.Proofs.YthkpkpclmemodaaGreat.fnExactCheck
open Go.ChangeShapes Go.WideShapes Go.ChangeAt Go.RowKit Go.Joins
open Go.ChangeMaps (open_string shut_string)
set_option linter.unusedVariables false

theorem own : ownKnob Tryz.prog.godebug = none := by kernel_rfl
theorem laidOut : laidOutB Tryz.prog = true := by kernel_rfl

set_option maxRecDepth 100000 in
theorem lifted (os : Os) (started : os.Started) (H : Type) (enc : TypeId × Value → H) :
    ReturnsInHanded {} Tryz.checked os 4 .any (Rows.fnExactCheckSpec.pre6 enc Tryz.prog Tryz.f4 Rows.fnExactCheckRow.domain false) (Rows.fnExactCheckSpec.post enc Tryz.prog Tryz.f4 false true false false) := by
  refine returnsInHanded_of_change (C := Tryz.checked) own started (by kernel_rfl) Tryz.func4
    (ChangeSpec.witness6 (enc := enc) (C := Tryz.checked) false ⟨#[], #[.agg #[.int .i64 0, .int .i64 0, .int .i64 0, .slice none 0 0, .int .i64 0, .int .i64 0, .int .i64 0, .int .i64 0, .int .i64 0, .slice none 0 0, .int .i64 0, .bool false, .bool false]], []⟩ 8 (by kernel_rfl) (by kernel_rfl) (by kernel_rfl) (by kernel_rfl)) ?_
  intro W base args ds gs before hval0 hW hcnd _
  have hval : ∀ (j : Nat) t v, Tryz.f4.params[j]? = some t → args[j]? = some v → Value.okWide Tryz.prog W .any base t v := hval0
  have hW' := hW
  obtain ⟨p, q, hA0, hV, rfl, hfz, hnd⟩ := hW
  have hA : DataW.TrodAll enc Tryz.prog W 0 (fun _ => true) true Tryz.f4.params.toList args.toList ds p := hA0
  rw [Tryz.params4] at hA hval
  obtain ⟨v0, vs0, d0, ds0, p0, q0, hargs0, rfl, rfl, h0, r0⟩ := trodAll_cons hA
  obtain ⟨rfl, rfl, rfl⟩ := trodAll_nil r0
  obtain rfl : args = #[v0] := by cases args; simp_all
  obtain ⟨rfl, rfl⟩ := trodVars_none hV
  have k0 := h0
  have lt0 : ∀ x ∈ p0, x.block < W.heap.size := by obtain ⟨m, hm⟩ := k0; exact DataW.trod_lt m _ _ _ hm
  obtain ⟨x0, am0, ad0, cm0, cd0, ms0, ds0, rfl, g0m, g0d⟩ := open_arr (hval 0 27 v0 rfl rfl) h0
  clear hA0 hval0
  refine (fnExactCheck_walk x0 am0 ad0 ms0.length cm0 ds0.length cd0 ms0 ds0 W g0m g0d).mono fun e W' ⟨he, bel⟩ => ?_
  subst he
  exact ⟨_, rfl, _, _, _, [], _, [], hW', trodAll_mk1 (shut_bool Tryz.underlying4 _), (trodAll_cons_mk (Below.trod laidOut (by kernel_rfl) (of_decide_eq_true (by kernel_rfl)) k0 bel lt0) trodAll_mk0), rfl, bel.frame _, fun h => by cases h⟩

theorem over : Rows.fnExactCheckRow.holds Tryz.pinned (OpenSpec.ofChange Rows.fnExactCheckSpec) :=
  OpenClaim.holds_of_wide 4 Tryz.f4 rfl rfl rfl rfl rfl rfl rfl ⟨rfl, rfl, rfl, rfl, rfl⟩ rfl rfl rfl rfl rfl (by kernel_rfl) Tryz.func4 (by kernel_rfl)
    (of_decide_eq_true (by kernel_rfl)) (by unfold Func.isWrapper; first | (rw [if_pos (by decide +kernel)]; kernel_rfl) | (rw [if_neg (by decide +kernel)]; exact ⟨rfl, rfl⟩))
    (fun os started H enc _ => lifted os started H enc)
end Go.Proofs.YthkpkpclmemodaaGreat.fnExactCheck

namespace Go.Proofs.YthkpkpclmemodaaGreat
/-- The given statement. -/
theorem fnExactCheck_holds : Rows.FnExactCheckSaid := fnExactCheck.over
#print axioms fnExactCheck_holds
end Go.Proofs.YthkpkpclmemodaaGreat

/-
 At every list of disks and every number Assemble answers as the specification's, writes into no argument, and its answer owns its memory. No condition.
-/
import Derived.Test.YtlcjfgmmjkandaaRowAssembleAll4
import Derived.Test.YtlcjfgmmjkandaaRowAssembleAll3
import Derived.Test.YtlcjfgmmjkandaaRowAssembleAll2
import Derived.Deep.Cut
import Derived.Test.YtlcjfgmmjkandaaBest9
import Derived.Test.YtlcjfgmmjkandaaHeld
import Derived.Test.YtlcjfgmmjkandaaNew9
import Derived.Test.YtlcjfgmmjkandaaWalkMems
import Derived.Test.YtlcjfgmmjkandaaFrame
import Derived.Test.YtlcjfgmmjkandaaWalkMarkArr
import Derived.Test.YtlcjfgmmjkandaaWalkMarkIn
import Derived.Test.YtlcjfgmmjkandaaWalkMarkMems
import Derived.Test.YtlcjfgmmjkandaaWalkArr
import Derived.Test.YtlcjfgmmjkandaaWalkSz
import Derived.ProofKit
import Derived.OpenShut
import Derived.Lib.SmallJoins
import Derived.Deep.Slices
import Derived.Deep.SlicePairs
import Derived.Test.YtlcjfgmmjkandaaRows
import Derived.WalkKit
import Derived.ShutString
import Derived.ChangeOld
import Derived.Below

set_option maxRecDepth 100000
set_option maxHeartbeats 8000000
set_option linter.unusedSimpArgs false

namespace Go.Proofs.Ytlcjfgmmjkandaa
open Go.RowKit

theorem implAssemble_any (w : World) (E F : TypeId) (a : Option Addr) (n cap : Nat) (ms : List MemD) (id : Int) (h0 : (tMemS E F).Rd w [.slice a n cap] ms) (hw : wtMemS ms <= 2097152) :
 Calls Try.prog 25 #[.slice a n cap, .int .i64 id] w fun e w' => ArrOutB w w' e (asmQ ms id).1 (asmQ ms id).2 [] := by
 obtain ⟨rfl, hc, hm⟩ := row_length h0
 have hn : ms.length <= 2097152 := by unfold wtMemS at hw; omega
 have hA := new_below w (.cells #[.int .i64 0, .int .i64 0, .int .i64 0, .slice none 0 0, .int .i64 0, .int .i64 0, .int .i64 0, .int .i64 0, .int .i64 0, .slice none 0 0, .int .i64 0, .bool false, .bool false] 33)
 have R0 := Box.new w 33 #[.int .i64 0, .int .i64 0, .int .i64 0, .slice none 0 0, .int .i64 0, .int .i64 0, .int .i64 0, .int .i64 0, .int .i64 0, .slice none 0 0, .int .i64 0, .bool false, .bool false]
 have zR := R0.lt
 go_enter Try.func25, Try.ntmps25
 go_wp2_with fail
 generalize w.alloc (.cells #[.int .i64 0, .int .i64 0, .int .i64 0, .slice none 0 0, .int .i64 0, .int .i64 0, .int .i64 0, .int .i64 0, .int .i64 0, .slice none 0 0, .int .i64 0, .bool false, .bool false] 33) = W at hA R0 zR ⊢
 refine (newestSuper_any _ E F _ _ _ ms id (h0.below hA) hw).mono ?_
 rintro e w1 ⟨rfl, b1⟩
 have R1 := R0.below b1 zR
 have B1 := Below.andThen hA b1
 have z1 := B1.size
 have zR1 := R1.lt
 have HID := hidden (new_id (ms := ms) (id := id) ms.length)
 generalize hST : newSt ms id ms.length = yf at HID ⊢
 have HST := hidden hST
 obtain ⟨y, fb⟩ := yf
 dsimp only
 clear hST R0 hA b1
 have S3 := Box.new w1 80 #[.int .i64 y.id, .int .i64 y.gen, .int .i64 y.role, .int .i64 y.n, .int .i64 y.s, .int .i64 y.tail, .int .i64 y.lost, .int .i64 y.built]
 have R3 := hidden (R1.alloc (.cells #[.int .i64 y.id, .int .i64 y.gen, .int .i64 y.role, .int .i64 y.n, .int .i64 y.s, .int .i64 y.tail, .int .i64 y.lost, .int .i64 y.built] 80))
 have B3 := hidden (B1.alloc z1 (.cells #[.int .i64 y.id, .int .i64 y.gen, .int .i64 y.role, .int .i64 y.n, .int .i64 y.s, .int .i64 y.tail, .int .i64 y.lost, .int .i64 y.built] 80))
 obtain ⟨x0, x1, x2, x3, x4, x5, x6, x7⟩ := S3.cells8
 have HS3 := hidden S3
 have hz2 : (w1.alloc (.cells #[.int .i64 y.id, .int .i64 y.gen, .int .i64 y.role, .int .i64 y.n, .int .i64 y.s, .int .i64 y.tail, .int .i64 y.lost, .int .i64 y.built] 80)).heap.size = w1.heap.size + 1 := by simp
 clear R1 B1 S3
 go_upto_region 2 with fail
 generalize w1.alloc (.cells #[.int .i64 y.id, .int .i64 y.gen, .int .i64 y.role, .int .i64 y.n, .int .i64 y.s, .int .i64 y.tail, .int .i64 y.lost, .int .i64 y.built] 80) = w2 at R3 B3 HS3 hz2 x0 x1 x2 x3 x4 x5 x6 x7 ⊢
 obtain ⟨SB, hSB⟩ : ∃ SB, w1.heap.size = SB := ⟨_, rfl⟩
 rw [hSB] at HS3 x0 x1 x2 x3 x4 x5 x6 x7 hz2 z1 zR1 ⊢
 obtain ⟨RB, hRB⟩ : ∃ RB, w.heap.size = RB := ⟨_, rfl⟩
 have q1 : w.heap.size <= RB /\ RB < SB := by omega
 rw [hRB] at R3 ⊢
 have HRB := hidden hRB
 clear hSB hRB
 have zS2 : SB + 1 <= w2.heap.size := by omega
 have zR2 := R3.out.lt
 clear hz2
 have none_ : Hid (∀ w4, Below w.heap.size w w4 -> Box w4 RB 33 #[.int .i64 0, .int .i64 0, .int .i64 0, .slice none 0 0, .int .i64 0, .int .i64 0, .int .i64 0, .int .i64 0, .int .i64 0, .slice none 0 0, .int .i64 0, .bool false, .bool false] -> asmQ ms id = ((arrZ, []), false) -> ArrOutB w (puts w4 RB [(0, .int .i64 0), (1, .int .i64 0), (2, .int .i64 0), (3, .slice none 0 0), (4, .int .i64 0), (5, .int .i64 0), (6, .int .i64 0), (7, .int .i64 0), (8, .int .i64 0), (9, .slice none 0 0), (10, .int .i64 0), (11, .bool false), (12, .bool false)]) (.returned (.tuple #[.agg #[.int .i64 0, .int .i64 0, .int .i64 0, .slice none 0 0, .int .i64 0, .int .i64 0, .int .i64 0, .int .i64 0, .int .i64 0, .slice none 0 0, .int .i64 0, .bool false, .bool false], .bool false])) (asmQ ms id).1 (asmQ ms id).2 []) := fun w4 hb hr hq => by
  rw [hq]
  exact arr_outB (y := arrZ) (ns := []) (ds := []) (vm := none) (vd := none) (cvm := 0) (cvd := 0) (lo := RB + 1) hb hr rfl (nil_mine _) (nil_mine _) (by simp) (by simp) (by simp) (by omega) (by omega)
 simp only [puts] at none_
 by_cases hfb : fb = true
 . subst hfb
   by_cases hln : (ms.length : Int) = y.n
   . have hdl : decide ((ms.length : Int) = y.n) = true := decide_eq_true hln
     have HLN := hidden hln
     have hne : ((ms.length : Int) != y.n) = false := by simp [hln]
     clear hln
     have h2 := h0.below B3.out
     go_wp2_with fail
     refine (arrOfSuper_any _ E F y _ _ _ ms h2 hw).mono ?_
     rintro e w3 ⟨bm, bd, cm, cd, rfl, ⟨fm, fd, mm, md, hr, rm, rd⟩, b3⟩
     dsimp only at mm rm
     have R4 := R3.out.below b3 zR2
     have B4 := Below.andThen B3.out b3
     have z3 := b3.size
     have nb := new_below w3 (.cells #[.int .i64 (arr0 y).id, .int .i64 (arr0 y).n, .int .i64 (arr0 y).s, .slice bm ms.length cm, .int .i64 (arr0 y).lost, .int .i64 (arr0 y).built, .int .i64 (arr0 y).seq, .int .i64 (arr0 y).tail, .int .i64 (arr0 y).gen, .slice bd 0 cd, .int .i64 (arr0 y).fuse, .bool (arr0 y).down, .bool (arr0 y).broken] 33)
     have Y := Box.new w3 33 #[.int .i64 (arr0 y).id, .int .i64 (arr0 y).n, .int .i64 (arr0 y).s, .slice bm ms.length cm, .int .i64 (arr0 y).lost, .int .i64 (arr0 y).built, .int .i64 (arr0 y).seq, .int .i64 (arr0 y).tail, .int .i64 (arr0 y).gen, .slice bd 0 cd, .int .i64 (arr0 y).fuse, .bool (arr0 y).down, .bool (arr0 y).broken]
     have zY := Y.lt
     have A5 : Hid (ArrAt (w3.alloc (.cells #[.int .i64 (arr0 y).id, .int .i64 (arr0 y).n, .int .i64 (arr0 y).s, .slice bm ms.length cm, .int .i64 (arr0 y).lost, .int .i64 (arr0 y).built, .int .i64 (arr0 y).seq, .int .i64 (arr0 y).tail, .int .i64 (arr0 y).gen, .slice bd 0 cd, .int .i64 (arr0 y).fuse, .bool (arr0 y).down, .bool (arr0 y).broken] 33)) w3.heap.size (arr0 y) ms [] fm fd) := ⟨bm, bd, cm, cd, Y, mm.below nb, md.below nb, hr, fun hm => by have := (rm _ hm).2; omega, fun hm => by have := (rd _ hm).2; omega⟩
     have R5 := hidden (R4.below nb (by omega))
     have B5 := hidden (Below.andThen B4 nb)
     have rm2 : ∀ b ∈ fm, w2.heap.size <= b := fun b hb => (rm b hb).1
     have rd2 : ∀ b ∈ fd, w2.heap.size <= b := fun b hb => (rd b hb).1
     clear x0 x1 x2 x3 x4 x5 x6 x7 R3 B3 HS3 mm md rm rd b3 R4 B4 nb Y h2
     unfold arrC
     go_upto_region 5 with fail
     generalize w3.alloc (.cells #[.int .i64 (arr0 y).id, .int .i64 (arr0 y).n, .int .i64 (arr0 y).s, .slice bm ms.length cm, .int .i64 (arr0 y).lost, .int .i64 (arr0 y).built, .int .i64 (arr0 y).seq, .int .i64 (arr0 y).tail, .int .i64 (arr0 y).gen, .slice bd 0 cd, .int .i64 (arr0 y).fuse, .bool (arr0 y).down, .bool (arr0 y).broken] 33) = w5 at A5 R5 B5 zY ⊢
     obtain ⟨AB, hAB⟩ : ∃ AB, w3.heap.size = AB := ⟨_, rfl⟩
     rw [hAB] at A5 zY z3 ⊢
     have q2 : RB < AB /\ w2.heap.size <= AB := by omega
     clear hAB z3
     go_wp2
     go_loopw [34] (fun i wr => ∃ j : Nat, j <= ms.length /\ i = .int .i64 j /\ ArrAt wr AB (asmX ms id (arr0 y) j) ms [] fm fd /\ But AB (AB + 1) w5 wr) (fun i _ => ms.length - (intOf i).toNat)
     case atStart => exact ⟨0, Nat.zero_le _, rfl, A5.out, But.refl _ _ _⟩
     case round =>
      obtain ⟨j, hj, rfl, hAt, hbt⟩ := hrel
      have hb := Below.andBut B5.out hbt (by omega)
      have zr := hbt.size
      by_cases hjn : j < ms.length
      . rcases quads_at rfl h0 with h0' | ⟨b, off, rfl, hbl, hcs⟩
        . omega
        have hdj : ms[j]? = some (ms[j]'(by omega)) := List.getElem?_eq_getElem (by omega)
        have UP := hidden (fun h => asm_here (id := id) (x := arr0 y) hdj h)
        have DN := hidden (fun h => asm_lose (id := id) (x := arr0 y) hdj h)
        generalize ms[j]'(by omega) = d at hdj UP DN
        have hin := Nat.le_trans (inner_leM hdj) hw
        obtain ⟨u0, u1, u2, u3, hv0, hv1, hv2, hv3, hrv⟩ := hcs j d hdj
        obtain ⟨a0, c0, a1, c1, a3, c3, ss, cs, f, bs, rfl, rfl, rfl, rfl, rfl, r0, r1, r3⟩ := mem_at hrv
        have pv0 := (hb.cell (p := ⟨b, off + j * 4, none⟩) hbl).trans hv0
        have pv1 := (hb.cell (p := ⟨b, off + j * 4 + 1, none⟩) hbl).trans hv1
        have pv2 := (hb.cell (p := ⟨b, off + j * 4 + 2, none⟩) hbl).trans hv2
        have pv3 := (hb.cell (p := ⟨b, off + j * 4 + 3, none⟩) hbl).trans hv3
        have nb := new_below wr (.cells #[.slice a0 ss.length c0, .slice a1 cs.length c1, .bool f, .slice a3 bs.length c3] 73)
        have hbm := Below.andThen hb nb
        have R0' := hidden (r0.below hbm)
        have R1' := hidden (r1.below hbm)
        have R3' := hidden (r3.below hbm)
        have AM := hidden (hAt.below nb)
        have BM := hidden (hbt.trans (But.of_below nb))
        have k1 : (0 : Int) <= (j : Int) := by omega
        have k2 : (j : Int) < (ms.length : Int) := by omega
        clear hcs hdj hv0 hv1 hv2 hv3 hrv r0 r1 r3 nb hbm hAt hbt hb
        go_wp2_with fail
        generalize wr.alloc (.cells #[.slice a0 ss.length c0, .slice a1 cs.length c1, .bool f, .slice a3 bs.length c3] 73) = wm at R0' R1' R3' AM BM ⊢
        refine (superHere_any _ E _ _ _ _ _ _ _ _ _ ss cs f bs id (j : Int) R0'.out R1'.out R3'.out hin).mono ?_
        rintro e wq ⟨t, rfl, _, bq⟩
        have AQ := hidden ((AM.out.below bq).below (new_below wq (.cells #[.int .i64 t.id, .int .i64 t.gen, .int .i64 t.role, .int .i64 t.n, .int .i64 t.s, .int .i64 t.tail, .int .i64 t.lost, .int .i64 t.built] 80)))
        have BQ := hidden ((BM.out.trans (But.of_below bq)).trans (But.of_below (new_below wq (.cells #[.int .i64 t.id, .int .i64 t.gen, .int .i64 t.role, .int .i64 t.n, .int .i64 t.s, .int .i64 t.tail, .int .i64 t.lost, .int .i64 t.built] 80))))
        clear R0' R1' R3' pv0 pv1 pv2 pv3 AM BM bq
        generalize hereB (ss, cs, f, bs) id (j : Int) = hk at UP DN ⊢
        go_upto_region 9 with fail
        generalize wq.alloc (.cells #[.int .i64 t.id, .int .i64 t.gen, .int .i64 t.role, .int .i64 t.n, .int .i64 t.s, .int .i64 t.tail, .int .i64 t.lost, .int .i64 t.built] 80) = wp at AQ BQ ⊢
        cases hk
        . have HX := hidden (DN.out rfl)
          go_wp2_with fail
          refine (loseDisk_any wp AB _ ms [] fm fd AQ.out (j : Int)).mono ?_
          rintro e wl ⟨rfl, al, bl⟩
          have AL := hidden al
          have BL := hidden (BQ.out.trans bl)
          clear al bl AQ BQ UP DN
          go_wp2
          go_roundw
          case rel => exact ⟨j + 1, by omega, by go_num, by rw [HX.out]; exact AL.out, BL.out⟩
          case measure => simp [intOf]; omega
        . have HX := hidden (UP.out rfl)
          clear UP DN
          go_wp2
          go_roundw
          case rel => exact ⟨j + 1, by omega, by go_num, by rw [HX.out]; exact AQ.out, BQ.out⟩
          case measure => simp [intOf]; omega
      . have ej : j = ms.length := by omega
        subst ej
        have R6 := R5.out.kept (hbt.block _ R5.out.lt (by omega))
        have HYES := hidden (fun ha => asm_yes (ms := ms) (id := id) HST.out HLN.out ha)
        have HNO := hidden (fun ha => asm_no2 (ms := ms) (id := id) HST.out ha)
        generalize asmX ms id (arr0 y) ms.length = X at hAt HYES HNO
        obtain ⟨vm, vd, cvm, cvd, Yf, mf, df, hrf, r1f, r2f⟩ := hAt
        have p0 := mf.rd
        have p1 := df.rd
        have Y0 := Yf
        unfold arrC at Y0
        simp only [List.length_nil] at Y0 p1 df
        obtain ⟨t0, t1, t2, t3, t4, t5, t6, t7, t8, t9, t10, t11, t12⟩ := Y0.cells13
        clear A5 R5
        go_wp2_with fail
        refine (implArrOk_any _ 108 73 99 X _ _ _ _ _ _ ms [] p0 p1 (by unfold wtArr; have : wtWrS [] = 0 := rfl; omega)).mono ?_
        rintro e w7 ⟨rfl, b7⟩
        have R7 := R6.below b7 R6.lt
        have B7 := Below.andThen hb b7
        have m7 := mf.below b7
        have d7 := df.below b7
        have Y7 := Y0.below b7 Y0.lt
        clear t0 t1 t2 t3 t4 t5 t6 t7 t8 t9 t10 t11 t12 R6 hb mf df Yf Y0 b7 p0 p1
        cases ha : arrB X ms []
        . have hq := HNO.out ha
          have HN := hidden (none_.out w7 B7 R7 hq)
          obtain ⟨r0, r1, r2, r3, r4, r5, r6, r7, r8, r9, r10, r11, r12⟩ := R7.cells13
          have fzR := R7.frozen
          clear none_
          go_wp2
          refine bodyPost_ret (v := .tuple #[.agg #[.int .i64 0, .int .i64 0, .int .i64 0, .slice none 0 0, .int .i64 0, .int .i64 0, .int .i64 0, .int .i64 0, .int .i64 0, .slice none 0 0, .int .i64 0, .bool false, .bool false], .bool false]) (by simp [results, Try.results25, go_sem, r0, r1, r2, r3, r4, r5, r6, r7, r8, r9, r10, r11, r12]) rfl ?_
          exact HN.out
        . have hq := HYES.out ha
          have HO := hidden (arr_outB (y := X) (ns := ms) (ds := []) (vm := vm) (vd := vd) (cvm := cvm) (cvd := cvd) (code := true) (e := .returned (.tuple #[.agg (arrC X _ _), .bool true])) B7 R7 rfl m7 d7 hrf rm2 rd2 (by omega) (by omega))
          unfold arrC at HO
          simp only [puts, List.length_nil] at HO
          obtain ⟨r0, r1, r2, r3, r4, r5, r6, r7, r8, r9, r10, r11, r12⟩ := R7.cells13
          have fzR := R7.frozen
          obtain ⟨t0, t1, t2, t3, t4, t5, t6, t7, t8, t9, t10, t11, t12⟩ := Y7.cells13
          have HQ := hidden hq
          clear R7 B7 m7 d7 Y7 none_ HYES HNO hq
          go_wp2
          refine bodyPost_ret (v := .tuple #[.agg #[.int .i64 X.id, .int .i64 X.n, .int .i64 X.s, .slice vm ms.length cvm, .int .i64 X.lost, .int .i64 X.built, .int .i64 X.seq, .int .i64 X.tail, .int .i64 X.gen, .slice vd 0 cvd, .int .i64 X.fuse, .bool X.down, .bool X.broken], .bool true]) (by simp [results, Try.results25, go_sem, r0, r1, r2, r3, r4, r5, r6, r7, r8, r9, r10, r11, r12]) rfl ?_
          rw [HQ.out]; exact HO.out
   . have hne : ((ms.length : Int) != y.n) = true := by simp [hln]
     have HN := hidden (none_.out w2 B3.out R3.out (asm_no1 HST.out (fun h => hln h.2)))
     obtain ⟨r0, r1, r2, r3, r4, r5, r6, r7, r8, r9, r10, r11, r12⟩ := R3.out.cells13
     have fzR := R3.out.frozen
     clear none_
     go_wp2
     refine bodyPost_ret (v := .tuple #[.agg #[.int .i64 0, .int .i64 0, .int .i64 0, .slice none 0 0, .int .i64 0, .int .i64 0, .int .i64 0, .int .i64 0, .int .i64 0, .slice none 0 0, .int .i64 0, .bool false, .bool false], .bool false]) (by simp [results, Try.results25, go_sem, r0, r1, r2, r3, r4, r5, r6, r7, r8, r9, r10, r11, r12]) rfl ?_
     exact HN.out
 . have hfb : fb = false := by simpa using hfb
   subst hfb
   have HN := hidden (none_.out w2 B3.out R3.out (asm_no1 HST.out (fun h => by cases h.1)))
   obtain ⟨r0, r1, r2, r3, r4, r5, r6, r7, r8, r9, r10, r11, r12⟩ := R3.out.cells13
   have fzR := R3.out.frozen
   clear none_
   go_wp2
   refine bodyPost_ret (v := .tuple #[.agg #[.int .i64 0, .int .i64 0, .int .i64 0, .slice none 0 0, .int .i64 0, .int .i64 0, .int .i64 0, .int .i64 0, .int .i64 0, .slice none 0 0, .int .i64 0, .bool false, .bool false], .bool false]) (by simp [results, Try.results25, go_sem, r0, r1, r2, r3, r4, r5, r6, r7, r8, r9, r10, r11, r12]) rfl ?_
   exact HN.out

theorem l9Super_any (w : World) (E F : TypeId) (a : Option Addr) (n cap j : Nat) (ms : List MemD) (d : MemD) (id : Int) (h0 : (tMemS E F).Rd w [.slice a n cap] ms) (hw : wtMemS ms <= 2097152) (hd : ms[j]? = some d) :
 Calls Try.prog 55 #[.slice a n cap, .int .i64 (j : Int), .int .i64 id] w fun e w' => HereOut w w' e d id (j : Int) := by
 obtain ⟨hl, hc, hm⟩ := row_length h0
 have hjn : j < n := by rw [← hl]; exact (List.getElem?_eq_some_iff.1 hd).1
 have hn : n <= 2097152 := by unfold wtMemS at hw; omega
 have hin := Nat.le_trans (inner_leM hd) hw
 rcases quads_at rfl h0 with h0' | ⟨b, off, rfl, hbl, hcs⟩
 . omega
 obtain ⟨u0, u1, u2, u3, hv0, hv1, hv2, hv3, hrv⟩ := hcs j d hd
 obtain ⟨a0, c0, a1, c1, a3, c3, ss, cs, f, bs, rfl, rfl, rfl, rfl, rfl, r0, r1, r3⟩ := mem_at hrv
 have hA := new_below w (.cells #[.int .i64 0, .int .i64 0, .int .i64 0, .int .i64 0, .int .i64 0, .int .i64 0, .int .i64 0, .int .i64 0] 80)
 have R0 := Box.new w 80 #[.int .i64 0, .int .i64 0, .int .i64 0, .int .i64 0, .int .i64 0, .int .i64 0, .int .i64 0, .int .i64 0]
 have zR := R0.lt
 have pv0 := (hA.cell (p := ⟨b, off + j * 4, none⟩) hbl).trans hv0
 have pv1 := (hA.cell (p := ⟨b, off + j * 4 + 1, none⟩) hbl).trans hv1
 have pv2 := (hA.cell (p := ⟨b, off + j * 4 + 2, none⟩) hbl).trans hv2
 have pv3 := (hA.cell (p := ⟨b, off + j * 4 + 3, none⟩) hbl).trans hv3
 have p0 := r0.below hA
 have p1 := r1.below hA
 have p3 := r3.below hA
 have k1 : (0 : Int) <= (j : Int) := by omega
 have k2 : (j : Int) < (n : Int) := by omega
 clear hcs hv0 hv1 hv2 hv3 hrv r0 r1 r3 hd h0
 go_enter Try.func55, Try.ntmps55
 cases hf : f
 . subst hf
   go_wp2_with fail
   generalize w.alloc (.cells #[.int .i64 0, .int .i64 0, .int .i64 0, .int .i64 0, .int .i64 0, .int .i64 0, .int .i64 0, .int .i64 0] 80) = W at hA R0 zR p0 p1 p3 pv0 pv1 pv2 pv3 ⊢
   refine (specBestSuper_any _ E _ _ _ _ _ _ _ _ _ ss cs false bs id p0 p1 p3 hin).mono ?_
   rintro e w1 ⟨rfl, b1⟩
   have HB := hidden (show best1 (ss, cs, false, bs) id = bestSt ss cs false bs id 2 from rfl)
   generalize bestSt ss cs false bs id 2 = yf at HB ⊢
   obtain ⟨y, fb⟩ := yf
   dsimp only
   have R1 := R0.below b1 zR
   have B1 := Below.andThen hA b1
   have z1 := B1.size
   have z2 := R1.lt
   clear pv0 pv1 pv2 pv3 R0 hA b1 p0 p1 p3
   have X3 := Box.new w1 80 #[.int .i64 y.id, .int .i64 y.gen, .int .i64 y.role, .int .i64 y.n, .int .i64 y.s, .int .i64 y.tail, .int .i64 y.lost, .int .i64 y.built]
   have R3 := R1.alloc (.cells #[.int .i64 y.id, .int .i64 y.gen, .int .i64 y.role, .int .i64 y.n, .int .i64 y.s, .int .i64 y.tail, .int .i64 y.lost, .int .i64 y.built] 80)
   have B3 := hidden (B1.alloc z1 (.cells #[.int .i64 y.id, .int .i64 y.gen, .int .i64 y.role, .int .i64 y.n, .int .i64 y.s, .int .i64 y.tail, .int .i64 y.lost, .int .i64 y.built] 80))
   obtain ⟨x0, x1, x2, x3, x4, x5, x6, x7⟩ := X3.cells8
   obtain ⟨r0, r1, r2, r3, r4, r5, r6, r7⟩ := R3.cells8
   have fz := R3.frozen
   have hne : ¬ w.heap.size = w1.heap.size := by omega
   have hne2 : ¬ w1.heap.size = w.heap.size := by omega
   have HV := hidden (hereB_some (i := (j : Int)) HB.out)
   have HY := hidden ((Below.andBut B3.out (set8_but (w1.alloc (.cells #[.int .i64 y.id, .int .i64 y.gen, .int .i64 y.role, .int .i64 y.n, .int .i64 y.s, .int .i64 y.tail, .int .i64 y.lost, .int .i64 y.built] 80)) w.heap.size (.int .i64 y.id) (.int .i64 y.gen) (.int .i64 y.role) (.int .i64 y.n) (.int .i64 y.s) (.int .i64 y.tail) (.int .i64 y.lost) (.int .i64 y.built)) (by omega)).drew)
   have HX := hidden (X3.kept ((set8_but (w1.alloc (.cells #[.int .i64 y.id, .int .i64 y.gen, .int .i64 y.role, .int .i64 y.n, .int .i64 y.s, .int .i64 y.tail, .int .i64 y.lost, .int .i64 y.built] 80)) w.heap.size (.int .i64 y.id) (.int .i64 y.gen) (.int .i64 y.role) (.int .i64 y.n) (.int .i64 y.s) (.int .i64 y.tail) (.int .i64 y.lost) (.int .i64 y.built)).block _ X3.lt (by omega)))
   have HR := hidden (set8_box R3 (.int .i64 y.id) (.int .i64 y.gen) (.int .i64 y.role) (.int .i64 y.n) (.int .i64 y.s) (.int .i64 y.tail) (.int .i64 y.lost) (.int .i64 y.built))
   unfold set8 at HY HX HR
   have mk : Hid (∀ w', Box w' w1.heap.size 80 #[.int .i64 y.id, .int .i64 y.gen, .int .i64 y.role, .int .i64 y.n, .int .i64 y.s, .int .i64 y.tail, .int .i64 y.lost, .int .i64 y.built] -> w'.cell? ⟨w1.heap.size, 0, none⟩ = some (.int .i64 y.id) /\ w'.cell? ⟨w1.heap.size, 1, none⟩ = some (.int .i64 y.gen) /\ w'.cell? ⟨w1.heap.size, 2, none⟩ = some (.int .i64 y.role) /\ w'.cell? ⟨w1.heap.size, 3, none⟩ = some (.int .i64 y.n) /\ w'.cell? ⟨w1.heap.size, 4, none⟩ = some (.int .i64 y.s) /\ w'.cell? ⟨w1.heap.size, 5, none⟩ = some (.int .i64 y.tail) /\ w'.cell? ⟨w1.heap.size, 6, none⟩ = some (.int .i64 y.lost) /\ w'.cell? ⟨w1.heap.size, 7, none⟩ = some (.int .i64 y.built)) := fun w' h => h.cells8
   clear X3 R3 B3 R1 B1
   have fin : Hid (∀ (q : Bool), q = hereB (ss, cs, false, bs) id (j : Int) -> ∀ W', Below w.heap.size w W' -> HereOut w W' (.returned (.tuple #[.agg #[.int .i64 y.id, .int .i64 y.gen, .int .i64 y.role, .int .i64 y.n, .int .i64 y.s, .int .i64 y.tail, .int .i64 y.lost, .int .i64 y.built], .bool q])) (ss, cs, false, bs) id (j : Int)) := fun q hq W' hW => ⟨y, by rw [hq], fun _ => by rw [HB.out], hW⟩
   by_cases hfb : fb = true
   . subst hfb
     have HT := hidden (fin.out (y.role == (j : Int)) (by rw [HV.out, Bool.true_and]; rfl))
     clear fin
     go_upto_region 4 with fail
     generalize w1.alloc (.cells #[.int .i64 y.id, .int .i64 y.gen, .int .i64 y.role, .int .i64 y.n, .int .i64 y.s, .int .i64 y.tail, .int .i64 y.lost, .int .i64 y.built] 80) = w2 at HY HX HR x0 x1 x2 x3 x4 x5 x6 x7 r0 r1 r2 r3 r4 r5 r6 r7 fz ⊢
     obtain ⟨RB, hRB⟩ : ∃ RB, w.heap.size = RB := ⟨_, rfl⟩
     rw [hRB] at HY HX HR r0 r1 r2 r3 r4 r5 r6 r7 fz hne hne2 ⊢
     have HRB := hidden hRB
     clear hRB
     obtain ⟨XB, hXB⟩ : ∃ XB, w1.heap.size = XB := ⟨_, rfl⟩
     rw [hXB] at HX mk x0 x1 x2 x3 x4 x5 x6 x7 hne hne2 ⊢
     clear hXB z1 z2
     refine wp_region_held_drew (S := fun w' => w'.cell? ⟨XB, 0, none⟩ = some (.int .i64 y.id) /\ w'.cell? ⟨XB, 1, none⟩ = some (.int .i64 y.gen) /\ w'.cell? ⟨XB, 2, none⟩ = some (.int .i64 y.role) /\ w'.cell? ⟨XB, 3, none⟩ = some (.int .i64 y.n) /\ w'.cell? ⟨XB, 4, none⟩ = some (.int .i64 y.s) /\ w'.cell? ⟨XB, 5, none⟩ = some (.int .i64 y.tail) /\ w'.cell? ⟨XB, 6, none⟩ = some (.int .i64 y.lost) /\ w'.cell? ⟨XB, 7, none⟩ = some (.int .i64 y.built)) (by kernel_rfl) ?_ (fun hHeld => ?_)
     . exact ⟨x0, x1, x2, x3, x4, x5, x6, x7⟩
     refine held_t 0 hHeld ?_
     refine held_t 1 hHeld ?_
     refine held_t 2 hHeld ?_
     refine held_t 3 hHeld ?_
     refine held_t 4 hHeld ?_
     refine held_t 5 hHeld ?_
     refine held_t 6 hHeld ?_
     refine held_t 7 hHeld ?_
     refine held_one (i := 8) (by kernel_rfl) rfl (by kernel_rfl) (fun K hK => ?_)
     go_simp
     clear hHeld
     generalize ((((((((w2).setCell ⟨RB, 0, none⟩ (.int .i64 y.id)).setCell ⟨RB, 1, none⟩ (.int .i64 y.gen)).setCell ⟨RB, 2, none⟩ (.int .i64 y.role)).setCell ⟨RB, 3, none⟩ (.int .i64 y.n)).setCell ⟨RB, 4, none⟩ (.int .i64 y.s)).setCell ⟨RB, 5, none⟩ (.int .i64 y.tail)).setCell ⟨RB, 6, none⟩ (.int .i64 y.lost)).setCell ⟨RB, 7, none⟩ (.int .i64 y.built) = w3 at HX HY HR ⊢
     refine hK.out _ _ ?_ (fun hHeld => ?_)
     . exact mk.out w3.drew HX.out
     clear hK K
     refine held_t 9 hHeld ?_
     refine wpAnyH_done (by kernel_rfl) ?_ _
     clear hHeld r0 r1 r2 r3 r4 r5 r6 r7
     obtain ⟨r0, r1, r2, r3, r4, r5, r6, r7⟩ := HR.out.cells8
     go_wp2
     refine bodyPost_ret (v := .tuple #[.agg #[.int .i64 y.id, .int .i64 y.gen, .int .i64 y.role, .int .i64 y.n, .int .i64 y.s, .int .i64 y.tail, .int .i64 y.lost, .int .i64 y.built], .bool (y.role == (j : Int))]) (by simp [results, Try.results55, go_sem, r0, r1, r2, r3, r4, r5, r6, r7]) rfl ?_
     exact HT.out _ (by rw [HRB.out]; exact HY.out)
   . have hfb : fb = false := by simpa using hfb
     subst hfb
     have HT := hidden (fin.out false (by rw [HV.out]; rfl))
     clear fin
     go_upto_region 4 with fail
     generalize w1.alloc (.cells #[.int .i64 y.id, .int .i64 y.gen, .int .i64 y.role, .int .i64 y.n, .int .i64 y.s, .int .i64 y.tail, .int .i64 y.lost, .int .i64 y.built] 80) = w2 at HY HX HR x0 x1 x2 x3 x4 x5 x6 x7 r0 r1 r2 r3 r4 r5 r6 r7 fz ⊢
     obtain ⟨RB, hRB⟩ : ∃ RB, w.heap.size = RB := ⟨_, rfl⟩
     rw [hRB] at HY HX HR r0 r1 r2 r3 r4 r5 r6 r7 fz hne hne2 ⊢
     have HRB := hidden hRB
     clear hRB
     obtain ⟨XB, hXB⟩ : ∃ XB, w1.heap.size = XB := ⟨_, rfl⟩
     rw [hXB] at HX mk x0 x1 x2 x3 x4 x5 x6 x7 hne hne2 ⊢
     clear hXB z1 z2
     refine wp_region_held_drew (S := fun w' => w'.cell? ⟨XB, 0, none⟩ = some (.int .i64 y.id) /\ w'.cell? ⟨XB, 1, none⟩ = some (.int .i64 y.gen) /\ w'.cell? ⟨XB, 2, none⟩ = some (.int .i64 y.role) /\ w'.cell? ⟨XB, 3, none⟩ = some (.int .i64 y.n) /\ w'.cell? ⟨XB, 4, none⟩ = some (.int .i64 y.s) /\ w'.cell? ⟨XB, 5, none⟩ = some (.int .i64 y.tail) /\ w'.cell? ⟨XB, 6, none⟩ = some (.int .i64 y.lost) /\ w'.cell? ⟨XB, 7, none⟩ = some (.int .i64 y.built)) (by kernel_rfl) ?_ (fun hHeld => ?_)
     . exact ⟨x0, x1, x2, x3, x4, x5, x6, x7⟩
     refine held_t 0 hHeld ?_
     refine held_t 1 hHeld ?_
     refine held_t 2 hHeld ?_
     refine held_p 3 hHeld ?_
     refine held_p 4 hHeld ?_
     refine held_p 5 hHeld ?_
     refine held_p 6 hHeld ?_
     refine held_t 7 hHeld ?_
     refine held_one (i := 8) (by kernel_rfl) rfl (by kernel_rfl) (fun K hK => ?_)
     go_simp
     clear hHeld
     generalize ((((((((w2).setCell ⟨RB, 0, none⟩ (.int .i64 y.id)).setCell ⟨RB, 1, none⟩ (.int .i64 y.gen)).setCell ⟨RB, 2, none⟩ (.int .i64 y.role)).setCell ⟨RB, 3, none⟩ (.int .i64 y.n)).setCell ⟨RB, 4, none⟩ (.int .i64 y.s)).setCell ⟨RB, 5, none⟩ (.int .i64 y.tail)).setCell ⟨RB, 6, none⟩ (.int .i64 y.lost)).setCell ⟨RB, 7, none⟩ (.int .i64 y.built) = w3 at HX HY HR ⊢
     refine hK.out _ _ ?_ (fun hHeld => ?_)
     . exact mk.out w3.drew HX.out
     clear hK K
     refine held_t 9 hHeld ?_
     refine wpAnyH_done (by kernel_rfl) ?_ _
     clear hHeld r0 r1 r2 r3 r4 r5 r6 r7
     obtain ⟨r0, r1, r2, r3, r4, r5, r6, r7⟩ := HR.out.cells8
     go_wp2
     refine bodyPost_ret (v := .tuple #[.agg #[.int .i64 y.id, .int .i64 y.gen, .int .i64 y.role, .int .i64 y.n, .int .i64 y.s, .int .i64 y.tail, .int .i64 y.lost, .int .i64 y.built], .bool false]) (by simp [results, Try.results55, go_sem, r0, r1, r2, r3, r4, r5, r6, r7]) rfl ?_
     exact HT.out _ (by rw [HRB.out]; exact HY.out)
 . subst hf
   have HT : Hid (hereB (ss, cs, true, bs) id (j : Int) = false) := by unfold Hid; rw [hereB_some (d := (ss, cs, true, bs)) (y := supZ) (fb := false) (best_failed 2)]; rfl
   obtain ⟨r0, r1, r2, r3, r4, r5, r6, r7⟩ := R0.cells8
   have fz := R0.frozen
   have HZ := hidden (Below.andBut hA (set8_but (w.alloc (.cells #[.int .i64 0, .int .i64 0, .int .i64 0, .int .i64 0, .int .i64 0, .int .i64 0, .int .i64 0, .int .i64 0] 80)) w.heap.size (.int .i64 0) (.int .i64 0) (.int .i64 0) (.int .i64 0) (.int .i64 0) (.int .i64 0) (.int .i64 0) (.int .i64 0)) (Nat.le_refl _))
   unfold set8 at HZ
   clear R0 hA p0 p1 p3
   go_upto_region 2 with fail
   generalize w.alloc (.cells #[.int .i64 0, .int .i64 0, .int .i64 0, .int .i64 0, .int .i64 0, .int .i64 0, .int .i64 0, .int .i64 0] 80) = W at HZ zR r0 r1 r2 r3 r4 r5 r6 r7 fz pv0 pv1 pv2 pv3 ⊢
   go_wp2
   refine bodyPost_ret (v := .tuple #[.agg #[.int .i64 0, .int .i64 0, .int .i64 0, .int .i64 0, .int .i64 0, .int .i64 0, .int .i64 0, .int .i64 0], .bool false]) (by simp [results, Try.results55, go_sem, r0, r1, r2, r3, r4, r5, r6, r7]) rfl ?_
   exact ⟨supZ, by rw [HT.out]; rfl, (fun h => by rw [HT.out] at h; cases h), HZ.out⟩

theorem l9Best_any (w : World) (E F : TypeId) (a : Option Addr) (n cap : Nat) (ms : List MemD) (id : Int) (h0 : (tMemS E F).Rd w [.slice a n cap] ms) (hw : wtMemS ms <= 2097152) :
 Calls Try.prog 53 #[.slice a n cap, .int .i64 id] w fun e w' => NewOut w w' e ms id := by
 obtain ⟨hl, hc, hm⟩ := row_length h0
 have hn : n <= 2097152 := by unfold wtMemS at hw; omega
 have hA := (new_below w (.cells #[.int .i64 0, .int .i64 0, .int .i64 0, .int .i64 0, .int .i64 0, .int .i64 0, .int .i64 0, .int .i64 0] 80)).alloc (by simp) (.cells #[.int .i64 0, .int .i64 0, .int .i64 0, .int .i64 0, .int .i64 0, .int .i64 0, .int .i64 0, .int .i64 0] 80)
 have R0 := (Box.new w 80 #[.int .i64 0, .int .i64 0, .int .i64 0, .int .i64 0, .int .i64 0, .int .i64 0, .int .i64 0, .int .i64 0]).alloc (.cells #[.int .i64 0, .int .i64 0, .int .i64 0, .int .i64 0, .int .i64 0, .int .i64 0, .int .i64 0, .int .i64 0] 80)
 have T0 := Box.new (w.alloc (.cells #[.int .i64 0, .int .i64 0, .int .i64 0, .int .i64 0, .int .i64 0, .int .i64 0, .int .i64 0, .int .i64 0] 80)) 80 #[.int .i64 0, .int .i64 0, .int .i64 0, .int .i64 0, .int .i64 0, .int .i64 0, .int .i64 0, .int .i64 0]
 rw [World.size_alloc] at T0
 go_enter Try.func53, Try.ntmps53
 go_wp2
 generalize (w.alloc (.cells #[.int .i64 0, .int .i64 0, .int .i64 0, .int .i64 0, .int .i64 0, .int .i64 0, .int .i64 0, .int .i64 0] 80)).alloc (.cells #[.int .i64 0, .int .i64 0, .int .i64 0, .int .i64 0, .int .i64 0, .int .i64 0, .int .i64 0, .int .i64 0] 80) = W at hA R0 T0 ⊢
 obtain ⟨RB, hRB⟩ : ∃ RB, w.heap.size = RB := ⟨_, rfl⟩
 obtain ⟨TB, hTB⟩ : ∃ TB, w.heap.size + 1 = TB := ⟨_, rfl⟩
 rw [hTB] at T0 ⊢
 rw [hRB] at R0 ⊢
 have q1 : w.heap.size <= RB /\ RB < TB := by omega
 have HRB := hidden hRB
 clear hTB hRB
 go_loopw [7, 8] (fun fv i wr => ∃ (j : Nat) (y : Sup) (fb : Bool), j <= n /\ i = .int .i64 j /\ fv = .bool fb /\ newSt ms id j = (y, fb) /\ Box wr TB 80 #[.int .i64 y.id, .int .i64 y.gen, .int .i64 y.role, .int .i64 y.n, .int .i64 y.s, .int .i64 y.tail, .int .i64 y.lost, .int .i64 y.built] /\ Box wr RB 80 #[.int .i64 0, .int .i64 0, .int .i64 0, .int .i64 0, .int .i64 0, .int .i64 0, .int .i64 0, .int .i64 0] /\ Below w.heap.size w wr) (fun _ i _ => n - (intOf i).toNat)
 case atStart => exact ⟨0, supZ, false, by omega, rfl, rfl, rfl, T0, R0, hA⟩
 case round =>
  obtain ⟨j, y, fb, hj, rfl, rfl, hst, T1, R1, B1⟩ := hrel
  clear T0 R0 hA
  have HST := hidden hst
  have zR := R1.lt
  have zT := T1.lt
  have zw := B1.size
  clear hst
  by_cases hjn : j < n
  . have k2 : (j : Int) < (n : Int) := by omega
    have k1 : (0 : Int) <= (j : Int) := by omega
    have hdj : ms[j]? = some (ms[j]'(by omega)) := List.getElem?_eq_getElem (by omega)
    generalize ms[j]'(by omega) = d at hdj
    have HDJ := hidden hdj
    have T3p := hidden T1
    have R3p := hidden R1
    have B3p := hidden B1
    have r0 := h0.below B1
    clear T1 R1 B1
    go_wp2_with fail
    refine (l9Super_any _ E F _ _ _ j ms d id r0 hw hdj).mono ?_
    clear r0 hdj
    rintro e w1 ⟨x, rfl, hx, b1⟩
    have UP := hidden (fun h => new_up (ms := ms) (id := id) HDJ.out HST.out hx h)
    have DN := hidden (fun h => new_same (ms := ms) (id := id) HDJ.out HST.out hx h)
    clear hx
    generalize hereB d id (j : Int) = k at UP DN ⊢
    have T2 := T3p.out.below b1 (by omega)
    have R2 := R3p.out.below b1 (by omega)
    have B2 := Below.andThen B3p.out b1
    have z1 := b1.size
    clear T3p R3p B3p b1
    have T3 := T2.alloc (.cells #[.int .i64 x.id, .int .i64 x.gen, .int .i64 x.role, .int .i64 x.n, .int .i64 x.s, .int .i64 x.tail, .int .i64 x.lost, .int .i64 x.built] 80)
    have R3 := hidden (R2.alloc (.cells #[.int .i64 x.id, .int .i64 x.gen, .int .i64 x.role, .int .i64 x.n, .int .i64 x.s, .int .i64 x.tail, .int .i64 x.lost, .int .i64 x.built] 80))
    have B3 := hidden (B2.alloc B2.size (.cells #[.int .i64 x.id, .int .i64 x.gen, .int .i64 x.role, .int .i64 x.n, .int .i64 x.s, .int .i64 x.tail, .int .i64 x.lost, .int .i64 x.built] 80))
    have X3 := Box.new w1 80 #[.int .i64 x.id, .int .i64 x.gen, .int .i64 x.role, .int .i64 x.n, .int .i64 x.s, .int .i64 x.tail, .int .i64 x.lost, .int .i64 x.built]
    have zT1 := T2.lt
    obtain ⟨x0, x1, x2, x3, x4, x5, x6, x7⟩ := X3.cells8
    obtain ⟨t0, t1, t2, t3, t4, t5, t6, t7⟩ := T3.cells8
    have fz := T3.frozen
    have TT := hidden T3
    clear T2 R2 B2 X3 T3
    go_upto_region 7 with fail
    generalize w1.alloc (.cells #[.int .i64 x.id, .int .i64 x.gen, .int .i64 x.role, .int .i64 x.n, .int .i64 x.s, .int .i64 x.tail, .int .i64 x.lost, .int .i64 x.built] 80) = w2 at R3 B3 TT x0 x1 x2 x3 x4 x5 x6 x7 t0 t1 t2 t3 t4 t5 t6 t7 fz ⊢
    obtain ⟨XB, hXB⟩ : ∃ XB, w1.heap.size = XB := ⟨_, rfl⟩
    rw [hXB] at x0 x1 x2 x3 x4 x5 x6 x7 zT1 ⊢
    have hne : ¬ TB = XB := by omega
    have hne2 : ¬ XB = TB := by omega
    clear hXB
    by_cases hb : better k x y fb = true
    . have HN := hidden (UP.out hb)
      have hbt := set8_but w2 TB (.int .i64 x.id) (.int .i64 x.gen) (.int .i64 x.role) (.int .i64 x.n) (.int .i64 x.s) (.int .i64 x.tail) (.int .i64 x.lost) (.int .i64 x.built)
      have TF := hidden (set8_box TT.out (.int .i64 x.id) (.int .i64 x.gen) (.int .i64 x.role) (.int .i64 x.n) (.int .i64 x.s) (.int .i64 x.tail) (.int .i64 x.lost) (.int .i64 x.built))
      have RF := hidden (R3.out.kept (hbt.block _ (by have := R3.out.lt; omega) (by omega)))
      have BF := hidden (Below.andBut B3.out hbt (by omega))
      unfold set8 at TF RF BF
      clear hbt UP DN R3 B3 TT
      unfold better at hb
      simp only [Bool.and_eq_true, Bool.or_eq_true, Bool.not_eq_true', decide_eq_true_eq] at hb
      obtain ⟨hk, hc⟩ := hb
      subst hk
      by_cases hf : fb = true
      . subst hf
        have hc : y.gen < x.gen := by simpa using hc
        go_wp2
        go_roundw
        case rel => exact ⟨j + 1, x, true, by omega, by go_num, rfl, HN.out, TF.out, RF.out, BF.out⟩
        case measure => simp [intOf]; omega
      . have hf : fb = false := by simpa using hf
        subst hf
        clear hc
        go_wp2
        go_roundw
        case rel => exact ⟨j + 1, x, true, by omega, by go_num, rfl, HN.out, TF.out, RF.out, BF.out⟩
        case measure => simp [intOf]; omega
    . have hb' : better k x y fb = false := by simpa using hb
      have HN := hidden (DN.out hb')
      clear UP DN hb fz
      unfold better at hb'
      by_cases hk : k = true
      . subst hk
        by_cases hf : fb = true
        . subst hf
          have hc : ¬ y.gen < x.gen := by simpa using hb'
          clear hb'
          go_wp2
          go_roundw
          case rel => exact ⟨j + 1, y, true, by omega, by go_num, rfl, HN.out, TT.out, R3.out, B3.out⟩
          case measure => simp [intOf]; omega
        . have hf : fb = false := by simpa using hf
          subst hf
          simp at hb'
      . have hk : k = false := by simpa using hk
        subst hk
        clear hb'
        go_wp2
        go_roundw
        case rel => exact ⟨j + 1, y, fb, by omega, by go_num, rfl, HN.out, TT.out, R3.out, B3.out⟩
        case measure => simp [intOf]; omega
  . have e : j = n := by omega
    subst e
    obtain ⟨t0, t1, t2, t3, t4, t5, t6, t7⟩ := T1.cells8
    obtain ⟨r0, r1, r2, r3, r4, r5, r6, r7⟩ := R1.cells8
    have fz := R1.frozen
    have FB := hidden (Below.andBut B1 (set8_but wr RB (.int .i64 y.id) (.int .i64 y.gen) (.int .i64 y.role) (.int .i64 y.n) (.int .i64 y.s) (.int .i64 y.tail) (.int .i64 y.lost) (.int .i64 y.built)) (by omega))
    unfold set8 at FB
    have hne : ¬ TB = RB := by omega
    have hne2 : ¬ RB = TB := by omega
    clear T1 R1 B1
    go_wp2
    refine bodyPost_ret (v := .tuple #[.agg #[.int .i64 y.id, .int .i64 y.gen, .int .i64 y.role, .int .i64 y.n, .int .i64 y.s, .int .i64 y.tail, .int .i64 y.lost, .int .i64 y.built], .bool fb]) (by simp [results, Try.results53, go_sem, r0, r1, r2, r3, r4, r5, r6, r7]) rfl ?_
    exact ⟨by rw [hl, HST.out], FB.out⟩

theorem Turned.belowN {N : Nat} {fp : List Nat} {w w' : World} (h : Turned fp w w') (hN : N <= w.heap.size) (hf : ∀ b ∈ fp, N <= b) : Below N w w' :=
 ⟨h.os, h.tape, h.output, h.size, fun k hk => h.block k (by omega) (fun hm => by have := hf k hm; omega)⟩

theorem specAssemble_any (w : World) (E F : TypeId) (a : Option Addr) (n cap : Nat) (ms : List MemD) (id : Int) (h0 : (tMemS E F).Rd w [.slice a n cap] ms) (hw : wtMemS ms <= 2097152) :
 Calls Try.prog 24 #[.slice a n cap, .int .i64 id] w fun e w' => ArrOutB w w' e (asmQ ms id).1 (asmQ ms id).2 [] := by
 obtain ⟨rfl, hc, hm⟩ := row_length h0
 have hn : ms.length <= 2097152 := by unfold wtMemS at hw; omega
 have hA := new_below w (.cells #[.int .i64 0, .int .i64 0, .int .i64 0, .slice none 0 0, .int .i64 0, .int .i64 0, .int .i64 0, .int .i64 0, .int .i64 0, .slice none 0 0, .int .i64 0, .bool false, .bool false] 33)
 have R0 := Box.new w 33 #[.int .i64 0, .int .i64 0, .int .i64 0, .slice none 0 0, .int .i64 0, .int .i64 0, .int .i64 0, .int .i64 0, .int .i64 0, .slice none 0 0, .int .i64 0, .bool false, .bool false]
 have zR := R0.lt
 go_enter Try.func24, Try.ntmps24
 go_wp2_with fail
 generalize w.alloc (.cells #[.int .i64 0, .int .i64 0, .int .i64 0, .slice none 0 0, .int .i64 0, .int .i64 0, .int .i64 0, .int .i64 0, .int .i64 0, .slice none 0 0, .int .i64 0, .bool false, .bool false] 33) = W at hA R0 zR ⊢
 refine (l9Best_any _ E F _ _ _ ms id (h0.below hA) hw).mono ?_
 rintro e w1 ⟨rfl, b1⟩
 have R1 := R0.below b1 zR
 have B1 := Below.andThen hA b1
 have z1 := B1.size
 have zR1 := R1.lt
 have HID := hidden (new_id (ms := ms) (id := id) ms.length)
 generalize hST : newSt ms id ms.length = yf at HID ⊢
 have HST := hidden hST
 obtain ⟨y, fb⟩ := yf
 dsimp only
 clear hST R0 hA b1
 have S3 := Box.new w1 80 #[.int .i64 y.id, .int .i64 y.gen, .int .i64 y.role, .int .i64 y.n, .int .i64 y.s, .int .i64 y.tail, .int .i64 y.lost, .int .i64 y.built]
 have R3 := hidden (R1.alloc (.cells #[.int .i64 y.id, .int .i64 y.gen, .int .i64 y.role, .int .i64 y.n, .int .i64 y.s, .int .i64 y.tail, .int .i64 y.lost, .int .i64 y.built] 80))
 have B3 := hidden (B1.alloc z1 (.cells #[.int .i64 y.id, .int .i64 y.gen, .int .i64 y.role, .int .i64 y.n, .int .i64 y.s, .int .i64 y.tail, .int .i64 y.lost, .int .i64 y.built] 80))
 obtain ⟨x0, x1, x2, x3, x4, x5, x6, x7⟩ := S3.cells8
 have HS3 := hidden S3
 have hz2 : (w1.alloc (.cells #[.int .i64 y.id, .int .i64 y.gen, .int .i64 y.role, .int .i64 y.n, .int .i64 y.s, .int .i64 y.tail, .int .i64 y.lost, .int .i64 y.built] 80)).heap.size = w1.heap.size + 1 := by simp
 clear R1 B1 S3
 go_upto_region 2 with fail
 generalize w1.alloc (.cells #[.int .i64 y.id, .int .i64 y.gen, .int .i64 y.role, .int .i64 y.n, .int .i64 y.s, .int .i64 y.tail, .int .i64 y.lost, .int .i64 y.built] 80) = w2 at R3 B3 HS3 hz2 x0 x1 x2 x3 x4 x5 x6 x7 ⊢
 obtain ⟨SB, hSB⟩ : ∃ SB, w1.heap.size = SB := ⟨_, rfl⟩
 rw [hSB] at HS3 x0 x1 x2 x3 x4 x5 x6 x7 hz2 z1 zR1 ⊢
 obtain ⟨RB, hRB⟩ : ∃ RB, w.heap.size = RB := ⟨_, rfl⟩
 have q1 : w.heap.size <= RB /\ RB < SB := by omega
 rw [hRB] at R3 ⊢
 have HRB := hidden hRB
 clear hSB hRB
 have zS2 : SB + 1 <= w2.heap.size := by omega
 have zR2 := R3.out.lt
 clear hz2
 have none_ : Hid (∀ w4, Below w.heap.size w w4 -> Box w4 RB 33 #[.int .i64 0, .int .i64 0, .int .i64 0, .slice none 0 0, .int .i64 0, .int .i64 0, .int .i64 0, .int .i64 0, .int .i64 0, .slice none 0 0, .int .i64 0, .bool false, .bool false] -> asmQ ms id = ((arrZ, []), false) -> ArrOutB w (puts w4 RB [(0, .int .i64 0), (1, .int .i64 0), (2, .int .i64 0), (3, .slice none 0 0), (4, .int .i64 0), (5, .int .i64 0), (6, .int .i64 0), (7, .int .i64 0), (8, .int .i64 0), (9, .slice none 0 0), (10, .int .i64 0), (11, .bool false), (12, .bool false)]) (.returned (.tuple #[.agg #[.int .i64 0, .int .i64 0, .int .i64 0, .slice none 0 0, .int .i64 0, .int .i64 0, .int .i64 0, .int .i64 0, .int .i64 0, .slice none 0 0, .int .i64 0, .bool false, .bool false], .bool false])) (asmQ ms id).1 (asmQ ms id).2 []) := fun w4 hb hr hq => by
  rw [hq]
  exact arr_outB (y := arrZ) (ns := []) (ds := []) (vm := none) (vd := none) (cvm := 0) (cvd := 0) (lo := RB + 1) hb hr rfl (nil_mine _) (nil_mine _) (by simp) (by simp) (by simp) (by omega) (by omega)
 simp only [puts] at none_
 by_cases hfb : fb = true
 . subst hfb
   by_cases hln : (ms.length : Int) = y.n
   . have hdl : decide ((ms.length : Int) = y.n) = true := decide_eq_true hln
     have HLN := hidden hln
     have hne : ((ms.length : Int) != y.n) = false := by simp [hln]
     clear hln
     have hid : y.id = id := HID.out rfl
     have Y := Box.new w2 33 #[.int .i64 id, .int .i64 y.n, .int .i64 y.s, .slice none 0 0, .int .i64 y.lost, .int .i64 y.built, .int .i64 y.tail, .int .i64 y.tail, .int .i64 y.gen, .slice none 0 0, .int .i64 (-1), .bool false, .bool false]
     have R5 := hidden (R3.out.alloc (.cells #[.int .i64 id, .int .i64 y.n, .int .i64 y.s, .slice none 0 0, .int .i64 y.lost, .int .i64 y.built, .int .i64 y.tail, .int .i64 y.tail, .int .i64 y.gen, .slice none 0 0, .int .i64 (-1), .bool false, .bool false] 33))
     have B5 := hidden (B3.out.alloc B3.out.size (.cells #[.int .i64 id, .int .i64 y.n, .int .i64 y.s, .slice none 0 0, .int .i64 y.lost, .int .i64 y.built, .int .i64 y.tail, .int .i64 y.tail, .int .i64 y.gen, .slice none 0 0, .int .i64 (-1), .bool false, .bool false] 33))
     have zY := Y.lt
     have hz5 : (w2.alloc (.cells #[.int .i64 id, .int .i64 y.n, .int .i64 y.s, .slice none 0 0, .int .i64 y.lost, .int .i64 y.built, .int .i64 y.tail, .int .i64 y.tail, .int .i64 y.gen, .slice none 0 0, .int .i64 (-1), .bool false, .bool false] 33)).heap.size = w2.heap.size + 1 := by simp
     have Y5 : Hid (Box (w2.alloc (.cells #[.int .i64 id, .int .i64 y.n, .int .i64 y.s, .slice none 0 0, .int .i64 y.lost, .int .i64 y.built, .int .i64 y.tail, .int .i64 y.tail, .int .i64 y.gen, .slice none 0 0, .int .i64 (-1), .bool false, .bool false] 33)) w2.heap.size 33 (arrC (arr0 y) (.slice none 0 0) (.slice none 0 0))) := by unfold Hid arrC arr0; rw [hid]; exact Y
     clear Y R3 B3 HS3
     go_upto_region 5 with fail
     generalize w2.alloc (.cells #[.int .i64 id, .int .i64 y.n, .int .i64 y.s, .slice none 0 0, .int .i64 y.lost, .int .i64 y.built, .int .i64 y.tail, .int .i64 y.tail, .int .i64 y.gen, .slice none 0 0, .int .i64 (-1), .bool false, .bool false] 33) = w5 at Y5 R5 B5 zY hz5 ⊢
     obtain ⟨AB, hAB⟩ : ∃ AB, w2.heap.size = AB := ⟨_, rfl⟩
     rw [hAB] at Y5 zY hz5 zS2 zR2 ⊢
     obtain ⟨LB, hLB⟩ : ∃ LB, AB + 1 = LB := ⟨_, rfl⟩
     rw [hLB] at hz5
     have q2 : RB < AB /\ AB < LB /\ LB <= w5.heap.size /\ w5.heap.size <= LB := by omega
     clear hAB hLB hz5 x0 x1 x2 x3 x4 x5 x6 x7
     obtain ⟨i4, hi4, hz0, hz1, hz2⟩ := info_parts Try.infoMem
     go_wp2
     go_loopw [9] (fun i wr => ∃ (j : Nat) (v0 : Value) (fp0 : List Nat), j <= ms.length /\ i = .int .i64 j /\ Fr LB AB w5 wr /\ Box wr AB 33 (arrC (asmX ms id (arr0 y) j) v0 (.slice none 0 0)) /\ (tMemS 108 73).Mine wr [v0] (ms.take j) fp0 /\ (∀ b ∈ fp0, LB <= b)) (fun i _ => ms.length - (intOf i).toNat)
     case atStart => exact ⟨0, _, [], Nat.zero_le _, rfl, Fr.refl _ _ _, Y5.out, nil_mine _, by simp⟩
     case round =>
      obtain ⟨j, v0, fp0, hj, rfl, fr, xo, hm, hfp⟩ := hrel
      have hs := fr.size
      have hb := B5.out.trans (fr.below (M := w.heap.size) (by omega) (by omega))
      by_cases hjn : j < ms.length
      . rcases quads_at rfl h0 with h0' | ⟨b, off, rfl, hbl, hcs⟩
        . omega
        have hdj : ms[j]? = some (ms[j]'(by omega)) := List.getElem?_eq_getElem (by omega)
        have htk : ms.take (j + 1) = ms.take j ++ [ms[j]'(by omega)] := List.take_succ_eq_append_getElem (by omega)
        have UP := hidden (fun h => asm_here (id := id) (x := arr0 y) hdj h)
        have DN := hidden (fun h => asm_lose (id := id) (x := arr0 y) hdj h)
        generalize ms[j]'(by omega) = d at hdj UP DN htk
        generalize asmX ms id (arr0 y) j = X at xo UP DN
        have hin := Nat.le_trans (inner_leM hdj) hw
        obtain ⟨u0, u1, u2, u3, hv0, hv1, hv2, hv3, hrv⟩ := hcs j d hdj
        obtain ⟨a0, c0, a1, c1, a3, c3, ss, cs, f, bs, rfl, rfl, rfl, rfl, rfl, r0, r1, r3⟩ := mem_at hrv
        have R0' := hidden (r0.below hb)
        have R1' := hidden (r1.below hb)
        have R3' := hidden (r3.below hb)
        have k1 : (0 : Int) <= (j : Int) := by omega
        have k2 : (j : Int) < (ms.length : Int) := by omega
        have HTK := hidden htk
        have HDJ := hidden hdj
        have FRR := hidden fr
        have HM := hidden hm
        have HFP := hidden hfp
        have XO := hidden xo
        have HB := hidden hb
        have HL : Hid ((ms.take j).length = j) := by unfold Hid; rw [List.length_take]; omega
        have L1 : Hid ((ms.take j).length + 1 <= maxLen) := by unfold Hid; rw [HL.out]; unfold maxLen; omega
        have L2 : Hid (((ms.take j).length + 1) * 80 <= 140737488355328) := by unfold Hid; rw [HL.out]; omega
        have mk : Hid (∀ w' : World, Box w' AB 33 (arrC X v0 (.slice none 0 0)) -> w'.heap[b]? = w.heap[b]? -> w'.cell? ⟨AB, 3, none⟩ = some v0 /\ w'.cell? ⟨b, off + j * 4, none⟩ = some (.slice a0 ss.length c0) /\ w'.cell? ⟨b, off + j * 4 + 1, none⟩ = some (.slice a1 cs.length c1) /\ w'.cell? ⟨b, off + j * 4 + 2, none⟩ = some (.bool f) /\ w'.cell? ⟨b, off + j * 4 + 3, none⟩ = some (.slice a3 bs.length c3)) := fun w' h1 h2 => ⟨h1.cell 3, (World.cell?_of_block h2).trans hv0, (World.cell?_of_block h2).trans hv1, (World.cell?_of_block h2).trans hv2, (World.cell?_of_block h2).trans hv3⟩
        have hS : wr.drew.cell? ⟨AB, 3, none⟩ = some v0 /\ wr.drew.cell? ⟨b, off + j * 4, none⟩ = some (.slice a0 ss.length c0) /\ wr.drew.cell? ⟨b, off + j * 4 + 1, none⟩ = some (.slice a1 cs.length c1) /\ wr.drew.cell? ⟨b, off + j * 4 + 2, none⟩ = some (.bool f) /\ wr.drew.cell? ⟨b, off + j * 4 + 3, none⟩ = some (.slice a3 bs.length c3) := mk.out wr.drew xo (hb.block b hbl)
        have zAr := xo.lt
        clear hcs hdj hv0 hv1 hv2 hv3 hrv htk xo hm hfp hb fr r0 r1 r3
        go_wp2_with fail
        refine Upto.start (S := fun w' => w'.cell? ⟨AB, 3, none⟩ = some v0 /\ w'.cell? ⟨b, off + j * 4, none⟩ = some (.slice a0 ss.length c0) /\ w'.cell? ⟨b, off + j * 4 + 1, none⟩ = some (.slice a1 cs.length c1) /\ w'.cell? ⟨b, off + j * 4 + 2, none⟩ = some (.bool f) /\ w'.cell? ⟨b, off + j * 4 + 3, none⟩ = some (.slice a3 bs.length c3)) (k := 10) (by kernel_rfl) ?_
        refine Upto.t 0 hS ?_
        refine Upto.t 1 hS ?_
        refine Upto.t 2 hS ?_
        refine Upto.t 3 hS ?_
        refine Upto.t 4 hS ?_
        refine Upto.t 5 hS ?_
        refine Upto.one (i := 6) (by kernel_rfl) rfl (fun K hK => ?_)
        go_simp
        refine (l2Copy_any _ E _ _ _ _ _ _ _ _ _ ss cs f bs R0'.out.drew R1'.out.drew R3'.out.drew hin).mono ?_
        rintro e wc ⟨y0, y1, y3, m1, m2, rfl, o3, o0, o1, hm12, hm01, hm22, bc⟩
        have hbc' : Below wr.heap.size wr wc := (Below.refl wr.heap.size wr).drew.trans bc
        have hm01' : wr.heap.size <= m1 := hm01
        have om : (tMem 108).Own wc wr.heap.size wc.heap.size [y0, y1, .bool f, y3] (ss, cs, f, bs) := mem_own3 o0 o1 o3 (.inl (Nat.le_refl _)) (.inr (Nat.le_refl _)) (.inr hm12) ⟨by omega, by omega⟩ ⟨by omega, Nat.le_refl _⟩ ⟨Nat.le_refl _, by omega⟩
        obtain ⟨e0, g0, rfl⟩ := row_shape o0.rd
        obtain ⟨e1, g1, rfl⟩ := row_shape o1.rd
        obtain ⟨e3, g3, rfl⟩ := row_shape o3.rd
        obtain ⟨fpx, mx, rx⟩ := om.mine
        have xoc := XO.out.below hbc' zAr
        have HBc := hidden (Below.andThen HB.out hbc')
        have zc := HBc.out.size
        have hS3 : wc.cell? ⟨AB, 3, none⟩ = some v0 /\ wc.cell? ⟨b, off + j * 4, none⟩ = some (.slice a0 ss.length c0) /\ wc.cell? ⟨b, off + j * 4 + 1, none⟩ = some (.slice a1 cs.length c1) /\ wc.cell? ⟨b, off + j * 4 + 2, none⟩ = some (.bool f) /\ wc.cell? ⟨b, off + j * 4 + 3, none⟩ = some (.slice a3 bs.length c3) := mk.out wc xoc (HBc.out.block b hbl)
        have hS4 : (wc.alloc (.cells #[.slice e0 ss.length g0, .slice e1 cs.length g1, .bool f, .slice e3 bs.length g3] 73)).cell? ⟨AB, 3, none⟩ = some v0 /\ (wc.alloc (.cells #[.slice e0 ss.length g0, .slice e1 cs.length g1, .bool f, .slice e3 bs.length g3] 73)).cell? ⟨b, off + j * 4, none⟩ = some (.slice a0 ss.length c0) /\ (wc.alloc (.cells #[.slice e0 ss.length g0, .slice e1 cs.length g1, .bool f, .slice e3 bs.length g3] 73)).cell? ⟨b, off + j * 4 + 1, none⟩ = some (.slice a1 cs.length c1) /\ (wc.alloc (.cells #[.slice e0 ss.length g0, .slice e1 cs.length g1, .bool f, .slice e3 bs.length g3] 73)).cell? ⟨b, off + j * 4 + 2, none⟩ = some (.bool f) /\ (wc.alloc (.cells #[.slice e0 ss.length g0, .slice e1 cs.length g1, .bool f, .slice e3 bs.length g3] 73)).cell? ⟨b, off + j * 4 + 3, none⟩ = some (.slice a3 bs.length c3) := mk.out _ (xoc.alloc _) ((HBc.out.alloc zc _).block b hbl)
        have XOC := hidden xoc
        have MX := hidden mx
        have RX := hidden rx
        have HBC := hidden hbc'
        clear xoc mx rx hbc' bc om o0 o1 o3 hm01 hm01' hm12 hm22 R0' R1' R3'
        go_wp2_with fail
        refine hK.out _ _ (fun _ => hS3) ?_
        clear hK K
        refine Upto.one (i := 7) (by kernel_rfl) rfl (fun K hK => ?_)
        go_simp
        refine hK.out _ _ (fun _ => hS4) ?_
        clear hK K
        refine Upto.one (i := 8) (by kernel_rfl) rfl (fun K hK => ?_)
        refine step_appT (tMem 108) (by rfl) _ _ 30 (by rfl) 73 i4 (.agg #[.slice none 0 0, .slice none 0 0, .bool false, .slice none 0 0]) 80 Try.underlying30 hi4 hz0 hz1 hz2 rfl (by decide) v0 (ms.take j) fp0 (by rfl) ?_ ⟨wc.heap.size, 0, none⟩ 1 [.slice e0 ss.length g0, .slice e1 cs.length g1, .bool f, .slice e3 bs.length g3] (ss, cs, f, bs) fpx (by rfl) ?_ ?_ ?_ ?_ L1.out L2.out ?_
        . exact (HM.out.below HBC.out).alloc _
        . exact MX.out.alloc _
        . intro b hb hb'
          have h1 := HM.out.lt b hb
          have h2 := RX.out b hb'
          omega
        . exact news_new _ _ _
        . intro u hu
          simp at hu
          rcases hu with hu | hu | hu | hu <;> (rw [hu]; rfl)
        intro g cap wA fpA m1 m2 m3
        rw [HL.out] at m1 ⊢
        rw [← HTK.out] at m1
        have ya := (XOC.out.alloc (.cells #[.slice e0 ss.length g0, .slice e1 cs.length g1, .bool f, .slice e3 bs.length g3] 73)).turned m3 (fun hm => by have := HFP.out _ hm; omega)
        have HBA := hidden ((HBc.out.alloc zc (.cells #[.slice e0 ss.length g0, .slice e1 cs.length g1, .bool f, .slice e3 bs.length g3] 73)).trans (m3.belowN (by simp; omega) (fun b hb => by have := HFP.out b hb; omega)))
        have hS5 : wA.cell? ⟨AB, 3, none⟩ = some v0 /\ wA.cell? ⟨b, off + j * 4, none⟩ = some (.slice a0 ss.length c0) /\ wA.cell? ⟨b, off + j * 4 + 1, none⟩ = some (.slice a1 cs.length c1) /\ wA.cell? ⟨b, off + j * 4 + 2, none⟩ = some (.bool f) /\ wA.cell? ⟨b, off + j * 4 + 3, none⟩ = some (.slice a3 bs.length c3) := mk.out wA ya (HBA.out.block b hbl)
        have c3 := hS5.1
        have fz := ya.frozen 3
        have YA := hidden ya
        have M1 := hidden m1
        have M2 := hidden m2
        have M3 := hidden m3
        clear ya m1 m2 m3
        refine hK.out _ _ (fun _ => hS5) ?_
        clear hK K
        simp only [Act.put, List.setIfInBounds_toArray, List.set_cons_zero, List.set_cons_succ]
        refine Upto.t 9 hS5 ?_
        refine Upto.one (i := 10) (by kernel_rfl) rfl (fun K hK => ?_)
        go_simp
        refine hK.out _ _ (fun h => absurd rfl h) ?_
        clear hK K
        refine Upto.done (by kernel_rfl) ?_ _
        have HFA := hidden (round_fp (N := LB) (by omega) HBC.out HFP.out RX.out M2.out)
        have FRA := hidden (Fr.round FRR.out (by omega) HBC.out _ M3.out HFP.out 3 (.slice (some ⟨g, 0, none⟩) (j + 1) cap))
        have MA := hidden (M1.out.setCell (g := AB) (j := 3) (fun hm => by have := HFA.out _ hm; omega) (.slice (some ⟨g, 0, none⟩) (j + 1) cap))
        have YA' : Hid (Box (wA.setCell ⟨AB, 3, none⟩ (.slice (some ⟨g, 0, none⟩) (j + 1) cap)) AB 33 (arrC X (.slice (some ⟨g, 0, none⟩) (j + 1) cap) (.slice none 0 0))) := YA.out.set 3 (.slice (some ⟨g, 0, none⟩) (j + 1) cap)
        clear hS hS3 hS4 hS5 c3 fz YA M1 M2 M3 XOC MX RX HBC HFP HM FRR XO mk HBc HBA HB zc zAr hs
        generalize wA.setCell ⟨AB, 3, none⟩ (.slice (some ⟨g, 0, none⟩) (j + 1) cap) = wB at FRA MA YA' ⊢
        have hb := B5.out.trans (FRA.out.below (M := w.heap.size) (by omega) (by omega))
        have zB := FRA.out.size
        have r0 := h0.below hb
        go_wp2_with fail
        refine (l9Super_any _ E F _ _ _ j ms _ id r0 hw HDJ.out).mono ?_
        rintro e wq ⟨t, rfl, _, bq⟩
        have nq := new_below wq (.cells #[.int .i64 t.id, .int .i64 t.gen, .int .i64 t.role, .int .i64 t.n, .int .i64 t.s, .int .i64 t.tail, .int .i64 t.lost, .int .i64 t.built] 80)
        have bqq := Below.andThen bq nq
        have FQ := hidden (FRA.out.trans (Fr.ofBelow bqq (by omega)))
        have MQ := hidden (MA.out.below bqq)
        have YQ := YA'.out.below bqq YA'.out.lt
        clear FRA MA YA' bq nq bqq r0 hb HDJ
        generalize hereB (ss, cs, f, bs) id (j : Int) = hk at UP DN ⊢
        go_upto_region 11 with fail
        generalize wq.alloc (.cells #[.int .i64 t.id, .int .i64 t.gen, .int .i64 t.role, .int .i64 t.n, .int .i64 t.s, .int .i64 t.tail, .int .i64 t.lost, .int .i64 t.built] 80) = wp at FQ MQ YQ ⊢
        have YH := hidden YQ
        unfold arrC at YQ
        obtain ⟨t0, t1, t2, t3, t4, t5, t6, t7, t8, t9, t10, t11, t12⟩ := YQ.cells13
        have fz := YQ.frozen
        clear YQ
        have nA : AB ∉ fpA := fun hm => by have := HFA.out _ hm; omega
        cases hk
        . have HX := hidden (DN.out rfl)
          clear UP DN
          have FS1 := hidden (FQ.out.trans (Fr.ofSet (N := LB) (B := AB) wp 12 (.bool true)))
          have MS1 := hidden (MQ.out.setCell (g := AB) (j := 12) nA (.bool true))
          have FS2 := hidden ((FQ.out.trans (Fr.ofSet (N := LB) (B := AB) wp 4 (.int .i64 (j : Int)))).trans (Fr.ofSet (N := LB) (B := AB) _ 5 (.int .i64 0)))
          have MS2 := hidden ((MQ.out.setCell (g := AB) (j := 4) nA (.int .i64 (j : Int))).setCell (g := AB) (j := 5) nA (.int .i64 0))
          have YS1 : Hid (Box (wp.setCell ⟨AB, 12, none⟩ (.bool true)) AB 33 (arrC {X with broken := true} (.slice (some ⟨g, 0, none⟩) (j + 1) cap) (.slice none 0 0))) := YH.out.set 12 _
          have YS2 : Hid (Box ((wp.setCell ⟨AB, 4, none⟩ (.int .i64 (j : Int))).setCell ⟨AB, 5, none⟩ (.int .i64 0)) AB 33 (arrC {X with lost := (j : Int), built := 0} (.slice (some ⟨g, 0, none⟩) (j + 1) cap) (.slice none 0 0))) := (YH.out.set 4 _).set 5 _
          clear YH
          by_cases h1 : X.lost = -1
          . have HV : Hid (loseX X (j : Int) = {X with lost := (j : Int), built := 0}) := if_pos (.inl h1)
            rw [h1] at t4
            clear h1
            go_wp2
            go_roundw
            case rel => exact ⟨j + 1, _, fpA, by omega, by go_num, FS2.out, by rw [HX.out]; exact (by rw [HV.out]; exact YS2.out), MS2.out, HFA.out⟩
            case measure => simp [intOf]; omega
          . by_cases h2 : X.lost = (j : Int)
            . have HV : Hid (loseX X (j : Int) = {X with lost := (j : Int), built := 0}) := if_pos (.inr h2)
              have g1 : (X.lost == -1) = false := by simp [h1]
              have g2 : (X.lost == (j : Int)) = true := by simp [h2]
              clear h1 h2
              go_wp2
              go_roundw
              case rel => exact ⟨j + 1, _, fpA, by omega, by go_num, FS2.out, by rw [HX.out]; exact (by rw [HV.out]; exact YS2.out), MS2.out, HFA.out⟩
              case measure => simp [intOf]; omega
            . have HV : Hid (loseX X (j : Int) = {X with broken := true}) := if_neg (by omega)
              have g1 : (X.lost == -1) = false := by simp [h1]
              have g2 : (X.lost == (j : Int)) = false := by simp [h2]
              clear h1 h2
              go_wp2
              go_roundw
              case rel => exact ⟨j + 1, _, fpA, by omega, by go_num, FS1.out, by rw [HX.out]; exact (by rw [HV.out]; exact YS1.out), MS1.out, HFA.out⟩
              case measure => simp [intOf]; omega
        . have HX := hidden (UP.out rfl)
          clear UP DN
          go_wp2
          go_roundw
          case rel => exact ⟨j + 1, _, fpA, by omega, by go_num, FQ.out, by rw [HX.out]; exact YH.out, MQ.out, HFA.out⟩
          case measure => simp [intOf]; omega
      . have ej : j = ms.length := by omega
        subst ej
        rw [List.take_of_length_le (by omega)] at hm
        obtain ⟨vm, cvm, hvM⟩ := row_shape hm.rd
        subst hvM
        have R6 := fr.box R5.out (by omega) (by omega)
        have HYES := hidden (fun ha => asm_yes (ms := ms) (id := id) HST.out HLN.out ha)
        have HNO := hidden (fun ha => asm_no2 (ms := ms) (id := id) HST.out ha)
        generalize asmX ms id (arr0 y) ms.length = X at xo HYES HNO
        have p0 := hm.rd
        have p1 : (tWrS 99).Rd wr [.slice none 0 0] [] := (nil_mine (t := tWr) (E := 99) wr).rd
        have Y0 := xo
        unfold arrC at Y0
        obtain ⟨t0, t1, t2, t3, t4, t5, t6, t7, t8, t9, t10, t11, t12⟩ := Y0.cells13
        clear Y5 R5 xo
        go_wp2_with fail
        refine (specArrOk_any _ 108 73 99 X _ _ _ _ _ _ ms [] p0 p1 (by unfold wtArr; have : wtWrS [] = 0 := rfl; omega)).mono ?_
        rintro e w7 ⟨rfl, b7⟩
        have R7 := R6.below b7 R6.lt
        have B7 := Below.andThen hb b7
        have m7 := hm.below b7
        have Y7 := Y0.below b7 Y0.lt
        clear t0 t1 t2 t3 t4 t5 t6 t7 t8 t9 t10 t11 t12 R6 hb hm Y0 b7 p0 p1
        cases ha : arrB X ms []
        . have hq := HNO.out ha
          have HN := hidden (none_.out w7 B7 R7 hq)
          obtain ⟨r0, r1, r2, r3, r4, r5, r6, r7, r8, r9, r10, r11, r12⟩ := R7.cells13
          have fzR := R7.frozen
          clear none_
          go_wp2
          refine bodyPost_ret (v := .tuple #[.agg #[.int .i64 0, .int .i64 0, .int .i64 0, .slice none 0 0, .int .i64 0, .int .i64 0, .int .i64 0, .int .i64 0, .int .i64 0, .slice none 0 0, .int .i64 0, .bool false, .bool false], .bool false]) (by simp [results, Try.results24, go_sem, r0, r1, r2, r3, r4, r5, r6, r7, r8, r9, r10, r11, r12]) rfl ?_
          exact HN.out
        . have hq := HYES.out ha
          have HO := hidden (arr_outB (y := X) (ns := ms) (ds := []) (vm := vm) (vd := none) (cvm := cvm) (cvd := 0) (fd := []) (lo := LB) (code := true) (e := .returned (.tuple #[.agg (arrC X _ _), .bool true])) B7 R7 rfl m7 (nil_mine _) (by simp) hfp (by simp) (by omega) (by omega))
          unfold arrC at HO
          simp only [puts, List.length_nil] at HO
          obtain ⟨r0, r1, r2, r3, r4, r5, r6, r7, r8, r9, r10, r11, r12⟩ := R7.cells13
          have fzR := R7.frozen
          obtain ⟨t0, t1, t2, t3, t4, t5, t6, t7, t8, t9, t10, t11, t12⟩ := Y7.cells13
          have HQ := hidden hq
          clear R7 B7 m7 Y7 none_ HYES HNO hq
          go_wp2
          refine bodyPost_ret (v := .tuple #[.agg #[.int .i64 X.id, .int .i64 X.n, .int .i64 X.s, .slice vm ms.length cvm, .int .i64 X.lost, .int .i64 X.built, .int .i64 X.seq, .int .i64 X.tail, .int .i64 X.gen, .slice none 0 0, .int .i64 X.fuse, .bool X.down, .bool X.broken], .bool true]) (by simp [results, Try.results24, go_sem, r0, r1, r2, r3, r4, r5, r6, r7, r8, r9, r10, r11, r12]) rfl ?_
          rw [HQ.out]; exact HO.out
   . have hne : ((ms.length : Int) != y.n) = true := by simp [hln]
     have HN := hidden (none_.out w2 B3.out R3.out (asm_no1 HST.out (fun h => hln h.2)))
     obtain ⟨r0, r1, r2, r3, r4, r5, r6, r7, r8, r9, r10, r11, r12⟩ := R3.out.cells13
     have fzR := R3.out.frozen
     clear none_
     go_wp2
     refine bodyPost_ret (v := .tuple #[.agg #[.int .i64 0, .int .i64 0, .int .i64 0, .slice none 0 0, .int .i64 0, .int .i64 0, .int .i64 0, .int .i64 0, .int .i64 0, .slice none 0 0, .int .i64 0, .bool false, .bool false], .bool false]) (by simp [results, Try.results24, go_sem, r0, r1, r2, r3, r4, r5, r6, r7, r8, r9, r10, r11, r12]) rfl ?_
     exact HN.out
 . have hfb : fb = false := by simpa using hfb
   subst hfb
   have HN := hidden (none_.out w2 B3.out R3.out (asm_no1 HST.out (fun h => by cases h.1)))
   obtain ⟨r0, r1, r2, r3, r4, r5, r6, r7, r8, r9, r10, r11, r12⟩ := R3.out.cells13
   have fzR := R3.out.frozen
   clear none_
   go_wp2
   refine bodyPost_ret (v := .tuple #[.agg #[.int .i64 0, .int .i64 0, .int .i64 0, .slice none 0 0, .int .i64 0, .int .i64 0, .int .i64 0, .int .i64 0, .int .i64 0, .slice none 0 0, .int .i64 0, .bool false, .bool false], .bool false]) (by simp [results, Try.results24, go_sem, r0, r1, r2, r3, r4, r5, r6, r7, r8, r9, r10, r11, r12]) rfl ?_
   exact HN.out

theorem heldMemS_any (w : World) (E F : TypeId) (a : Option Addr) (n cap : Nat) (d : List MemD) (k0 : Int) (h : (tMemS E F).Rd w [.slice a n cap] (markMS k0 d)) (hw : wtMemS d <= 2097152) (hk : 0 <= k0) (hk' : k0 + (wtMemS d : Int) <= 2097153) :
 Calls Try.prog 23 #[.slice a n cap, .int .i64 k0] w fun e w' => e = .returned (.int .i64 (k0 + (cntMS d : Int))) /\ Same w w' := by
 obtain ⟨hl, hc, hm⟩ := row_length h
 have hmL : (markMS k0 d).length = d.length := markL_length _ _ _ _
 rw [hmL] at hl
 have hnn : n <= 2097152 := by unfold wtMemS at hw; omega
 have hwt := cntMS_le d
 go_enter Try.func23, Try.ntmps23
 go_wp2
 go_loopw [1, 5] (fun kk i wr => ∃ j : Nat, j <= n /\ i = .int .i64 j /\ kk = .int .i64 (k0 + (sumL ((d.map cntMD).take j) : Int)) /\ Same w wr) (fun _ i _ => n - (intOf i).toNat)
 case atStart => exact ⟨0, Nat.zero_le _, rfl, by simp [sumL], Same.refl _⟩
 case round =>
  obtain ⟨j, hj, rfl, rfl, hs⟩ := hrel
  by_cases hjn : j < n
  . have hdj : d[j]? = some (d[j]'(by omega)) := List.getElem?_eq_getElem (by omega)
    generalize d[j]'(by omega) = x at hdj
    have hst := sumL_take (l := d.map cntMD) (j := j) (x := cntMD x) (by rw [List.getElem?_map, hdj]; rfl)
    have hle := sumL_le (l := d.map cntMD) (j + 1)
    have hin := Nat.le_trans (inner_leM hdj) hw
    unfold cntMS at hwt
    have hmj := markL_at (c := cntMD) (mk := markMD) (k := k0) hdj
    have HW := hidden hst
    generalize sumL ((d.map cntMD).take j) = S at hst hmj HW
    rcases quads_at rfl h with h0' | ⟨b, off, rfl, hbl, hcs⟩
    . omega
    obtain ⟨v0, v1, v2, v3, hv0, hv1, hv2, hv3, hrv⟩ := hcs j _ hmj
    obtain ⟨ss, cs, f, bs⟩ := x
    obtain ⟨a0, c0, a1, c1, a3, c3, ss', cs', f', bs', hx, rfl, rfl, rfl, rfl, r0, r1, r3⟩ := mem_at hrv
    have hcx : cntMD (ss, cs, f, bs) = cntSS ss + cntWS cs + 1 + bs.length := rfl
    have hin0 : wtIntSS ss <= 2097152 := by unfold wtMem at hin; simp only at hin; omega
    have hin1 : wtWrS cs <= 2097152 := by unfold wtMem at hin; simp only at hin; omega
    have hin3 : bs.length <= 2097152 := by unfold wtMem at hin; simp only at hin; omega
    have hcw := Nat.le_of_eq (cntWS_wt cs)
    have hcw' := Nat.le_of_eq (cntWS_wt cs).symm
    have hS : k0 + (S : Int) + (cntSS ss : Int) + (cntWS cs : Int) + 1 + (bs.length : Int) <= 2097153 := by omega
    unfold markMD at hx
    simp only [Prod.mk.injEq] at hx
    obtain ⟨e0, e1, e2, e3⟩ := hx
    subst e0
    subst e1
    subst e3
    rw [marks_length] at hv3 r3
    have w0 := (hs.cell _).trans hv0
    have w1 := (hs.cell _).trans hv1
    have w2 := (hs.cell _).trans hv2
    have w3 := (hs.cell _).trans hv3
    have HE2 := hidden e2
    have i1 : (0 : Int) <= (j : Int) := by omega
    have i2 : (j : Int) < (n : Int) := by omega
    have R0 := r0.same hs
    have R1 := r1.same hs
    have R3 := r3.same hs
    clear hcs hst hdj hv0 hv1 hv2 hv3 hrv hmj e2 r0 r1 r3
    go_wp2_with fail
    refine (heldIntSS_any _ _ _ _ ss _ R0 hin0 (by omega) (by omega)).mono ?_
    rintro e u1 ⟨rfl, s1⟩
    have w1' := (s1.cell _).trans w1
    have w2' := (s1.cell _).trans w2
    have w3' := (s1.cell _).trans w3
    have R1' := R1.same s1
    have R3' := R3.same s1
    clear w0 w1 w2 w3 R0 R1 R3
    have p1 : ¬ k0 + (S : Int) + (cntSS ss : Int) < 0 := by omega
    go_wp2_with fail
    refine (heldWrS_any _ E _ _ _ cs _ R1' hin1 (by omega) (by omega)).mono ?_
    rintro e u2 ⟨rfl, s2⟩
    have w2 := (s2.cell _).trans w2'
    have w3 := (s2.cell _).trans w3'
    have R3 := ints_rd (R3'.same s2)
    clear w1' w2' w3' R1' R3'
    have hK : 0 <= k0 + (S : Int) + (cntSS ss : Int) + (cntWS cs : Int) /\ k0 + (S : Int) + (cntSS ss : Int) + (cntWS cs : Int) <= 2097153 := by omega
    have HKK : Hid (k0 + (S : Int) + (cntSS ss : Int) + (cntWS cs : Int) + 1 + (bs.length : Int) = k0 + ((S + cntMD (ss, cs, f, bs) : Nat) : Int)) := by unfold Hid; rw [hcx]; omega
    generalize hKd : k0 + (S : Int) + (cntSS ss : Int) + (cntWS cs : Int) = K at hK HKK HE2 R3 hS ⊢
    clear hKd
    have p2 : ¬ K < 0 := by omega
    have t1 : K.tmod 3 = K % 3 := Int.tmod_eq_emod_of_nonneg hK.1
    have t2 : IntKind.i64.wrap (K % 3) = K % 3 := IntWalk.i64_in _ (by omega)
    have t3 : IntKind.i64.wrap (K + 1) = K + 1 := IntWalk.i64_in _ (by omega)
    have p3 : ¬ K + 1 + (bs.length : Int) < 0 := by omega
    have t4 : f' = (K % 3 == 0) := by rw [← HE2.out]; rfl
    have t5 : ((K % 3 == 0) != (K % 3 == 0)) = false := by simp
    have t6 : ((K % 3 == 0) == (K % 3 == 0)) = true := by simp
    subst t4
    clear HE2
    go_wp2_with fail
    refine (heldIntS_any _ _ _ _ _ R3.1 (by omega) (by omega) (by omega)).mono ?_
    rintro e u3 ⟨rfl, s3⟩
    have HS := hidden (((hs.trans s1).trans s2).trans s3)
    clear s1 s2 s3 hs R3 w2 w3
    go_wp2
    go_roundw
    case rel => exact ⟨j + 1, by omega, by go_num, by rw [HW.out, HKK.out], HS.out⟩
    case measure => simp [intOf]; omega
  . have ej : j = n := by omega
    subst ej
    have ht : (d.map cntMD).take j = d.map cntMD := List.take_of_length_le (by simp; omega)
    have HT : Hid (k0 + (sumL ((d.map cntMD).take j) : Int) = k0 + (cntMS d : Int)) := by unfold Hid cntMS; rw [ht]
    clear ht
    go_wp2
    go_ret
    exact ⟨ret_int HT.out, hs⟩

theorem heldArr_any (w : World) (E F G : TypeId) (x : ArrN) (bm bd : Option Addr) (nm cm nd cd : Nat) (ms : List MemD) (ds : List (Int × List Int)) (h0 : (tMemS E F).Rd w [.slice bm nm cm] (markMS 1 ms)) (h1 : (tWrS G).Rd w [.slice bd nd cd] (markW (1 + (cntMS ms : Int)) ds)) (hw : wtArr ms ds <= 2097152) :
 Calls Try.prog 13 #[.agg #[.int .i64 x.id, .int .i64 x.n, .int .i64 x.s, .slice bm nm cm, .int .i64 x.lost, .int .i64 x.built, .int .i64 x.seq, .int .i64 x.tail, .int .i64 x.gen, .slice bd nd cd, .int .i64 x.fuse, .bool x.down, .bool x.broken], .int .i64 1] w fun e w' => e = .returned (.int .i64 (1 + (cntMS ms : Int) + (cntWS ds : Int))) /\ Below w.heap.size w w' := by
 have hw0 : wtMemS ms <= 2097152 := by unfold wtArr at hw; omega
 have hw1 : wtWrS ds <= 2097152 := by unfold wtArr at hw; omega
 have hws : wtMemS ms + wtWrS ds <= 2097152 := by unfold wtArr at hw; omega
 have hcm := cntMS_le ms
 have hA := new_below w (.cells #[.int .i64 x.id, .int .i64 x.n, .int .i64 x.s, .slice bm nm cm, .int .i64 x.lost, .int .i64 x.built, .int .i64 x.seq, .int .i64 x.tail, .int .i64 x.gen, .slice bd nd cd, .int .i64 x.fuse, .bool x.down, .bool x.broken] 33)
 have X := Box.new w 33 #[.int .i64 x.id, .int .i64 x.n, .int .i64 x.s, .slice bm nm cm, .int .i64 x.lost, .int .i64 x.built, .int .i64 x.seq, .int .i64 x.tail, .int .i64 x.gen, .slice bd nd cd, .int .i64 x.fuse, .bool x.down, .bool x.broken]
 obtain ⟨k0, k1, k2, k3, k4, k5, k6, k7, k8, k9, k10, k11, k12⟩ := X.cells13
 have r0 := h0.below hA
 have r1 := h1.below hA
 go_enter Try.func13, Try.ntmps13
 go_wp2_with fail
 generalize w.alloc (.cells #[.int .i64 x.id, .int .i64 x.n, .int .i64 x.s, .slice bm nm cm, .int .i64 x.lost, .int .i64 x.built, .int .i64 x.seq, .int .i64 x.tail, .int .i64 x.gen, .slice bd nd cd, .int .i64 x.fuse, .bool x.down, .bool x.broken] 33) = W at hA X r0 r1 k0 k1 k2 k3 k4 k5 k6 k7 k8 k9 k10 k11 k12 ⊢
 refine (heldMemS_any _ E F _ _ _ ms _ r0 hw0 (by omega) (by omega)).mono ?_
 rintro e w1 ⟨rfl, s1⟩
 have X1 := X.same s1
 have r2 := r1.same s1
 have B1 := Below.andSame hA s1
 clear k0 k1 k2 k3 k4 k5 k6 k7 k8 k9 k10 k11 k12 X r0 r1 s1 hA
 obtain ⟨k0, k1, k2, k3, k4, k5, k6, k7, k8, k9, k10, k11, k12⟩ := X1.cells13
 have p1 : ¬ 1 + (cntMS ms : Int) < 0 := by omega
 go_wp2_with fail
 refine (heldEntS_any _ G _ _ _ ds _ r2 hw1 (by omega) (by omega)).mono ?_
 rintro e w2 ⟨rfl, s2⟩
 have B2 := Below.andSame B1 s2
 have p2 : ¬ 1 + (cntMS ms : Int) + (cntWS ds : Int) < 0 := by omega
 clear k0 k1 k2 k3 k4 k5 k6 k7 k8 k9 k10 k11 k12 X1 r2 s2 B1
 go_wp2
 go_ret
 exact ⟨rfl, B2⟩

theorem fnExactAssemble_walk (am : Option Addr) (nm cm : Nat) (ms : List MemD) (id : Int) (w : World) (h0 : (tMemS 122 70).Rd w [.slice am nm cm] ms) :
 Calls Try.prog 5 #[.slice am nm cm, .int .i64 id] w fun e w' => e = .returned (.bool true) /\ Below w.heap.size w w' := by
 go_enter Try.func5, Try.ntmps5
 go_wp2_with fail
 refine (szMemS_any _ 122 70 _ _ _ ms _ h0 (by omega) (by omega)).mono ?_
 rintro e w1 ⟨rfl, hb1⟩
 have B1 := hidden hb1
 have z1 := hb1.size
 clear hb1
 by_cases hwt : (wtMemS ms : Int) <= 1048576
 . have hq := leftOf_pos hwt
   have hwt' : wtMemS ms <= 1048576 := by omega
   have hwt2 : wtMemS ms <= 2097152 := by omega
   have hwq0 := asm_wt (id := id) hwt'
   obtain ⟨y, ns, sc, hq0⟩ : ∃ (y : ArrN) (ns : List MemD) (sc : Bool), asmQ ms id = ((y, ns), sc) := ⟨_, _, _, rfl⟩
   rw [hq0] at hwq0
   obtain ⟨es, hes⟩ : ∃ es : List (Int × List Int), es = [] := ⟨_, rfl⟩
   have hwq : wtArr ns es <= 2097152 := by rw [hes]; exact hwq0
   have HQ := hidden hq0
   have HES := hidden hes
   clear hq0 hwq0 hes
   have hne : (sc != sc) = false := by simp
   have hcp := cntMS_le ms
   go_wp2_with fail
   refine (toMemS_any _ 122 70 _ _ _ ms (h0.below B1.out) hwt').mono ?_
   rintro e w2 ⟨rfl, o2, hb2⟩
   have B2 := hidden (Below.andThen B1.out hb2)
   have z2 := hb2.size
   clear B1 hb2
   have C2 := hidden o2
   clear o2
   go_wp2_with fail
   refine (specAssemble_any _ 108 73 _ _ _ ms id C2.out.rd hwt2).mono ?_
   rintro e w3 ho3
   have hp3 := ho3
   rw [HQ.out, ← HES.out] at hp3
   clear ho3
   obtain ⟨a3, d3, c3, b3, rfl, o3, hb3⟩ := hp3
   dsimp only at o3
   unfold arrC
   have B3 := hidden (Below.andThen B2.out hb3)
   have C3 := hidden (C2.out.below hb3)
   have z3 := hb3.size
   clear B2 C2 hb3
   have W3 := hidden o3
   clear o3
   clear C3
   have ba : Below w3.heap.size w3 (w3.alloc (.cells #[.int .i64 y.id, .int .i64 y.n, .int .i64 y.s, .slice a3 ns.length c3, .int .i64 y.lost, .int .i64 y.built, .int .i64 y.seq, .int .i64 y.tail, .int .i64 y.gen, .slice d3 es.length b3, .int .i64 y.fuse, .bool y.down, .bool y.broken] 33)) := (Below.refl _ _).alloc (Nat.le_refl _) _
   have xb := Box.new w3 33 #[.int .i64 y.id, .int .i64 y.n, .int .i64 y.s, .slice a3 ns.length c3, .int .i64 y.lost, .int .i64 y.built, .int .i64 y.seq, .int .i64 y.tail, .int .i64 y.gen, .slice d3 es.length b3, .int .i64 y.fuse, .bool y.down, .bool y.broken]
   have zx4 := xb.lt
   have B4 := hidden (Below.andThen B3.out ba)
   have W4 := hidden (W3.out.below ba)
   have z4 := ba.size
   clear B3 W3 ba
   have WB4 := hidden xb
   clear xb
   go_wp2_with fail
   generalize w3.alloc (.cells #[.int .i64 y.id, .int .i64 y.n, .int .i64 y.s, .slice a3 ns.length c3, .int .i64 y.lost, .int .i64 y.built, .int .i64 y.seq, .int .i64 y.tail, .int .i64 y.gen, .slice d3 es.length b3, .int .i64 y.fuse, .bool y.down, .bool y.broken] 33) = w4 at B4 W4 WB4 z4 zx4  ⊢
   refine (toMemS_any _ 122 70 _ _ _ ms (h0.below B4.out) hwt').mono ?_
   rintro e w5 ⟨rfl, o5, hb5⟩
   have B5 := hidden (Below.andThen B4.out hb5)
   have W5 := hidden (W4.out.below hb5)
   have WB5 := hidden (WB4.out.below hb5 (by omega))
   have z5 := hb5.size
   clear B4 W4 WB4 hb5
   have D5 := hidden o5
   clear o5
   go_wp2_with fail
   refine (implAssemble_any _ 108 73 _ _ _ ms id D5.out.rd hwt2).mono ?_
   rintro e w6 ho6
   have hp6 := ho6
   rw [HQ.out, ← HES.out] at hp6
   clear ho6
   obtain ⟨a6, d6, c6, b6, rfl, o6, hb6⟩ := hp6
   dsimp only at o6
   unfold arrC
   have B6 := hidden (Below.andThen B5.out hb6)
   have W6 := hidden (W5.out.below hb6)
   have WB6 := hidden (WB5.out.below hb6 (by omega))
   have D6 := hidden (D5.out.below hb6)
   have z6 := hb6.size
   clear B5 W5 WB5 D5 hb6
   have G6 := hidden o6
   clear o6
   have ba : Below w6.heap.size w6 (w6.alloc (.cells #[.int .i64 y.id, .int .i64 y.n, .int .i64 y.s, .slice a6 ns.length c6, .int .i64 y.lost, .int .i64 y.built, .int .i64 y.seq, .int .i64 y.tail, .int .i64 y.gen, .slice d6 es.length b6, .int .i64 y.fuse, .bool y.down, .bool y.broken] 33)) := (Below.refl _ _).alloc (Nat.le_refl _) _
   have xb := Box.new w6 33 #[.int .i64 y.id, .int .i64 y.n, .int .i64 y.s, .slice a6 ns.length c6, .int .i64 y.lost, .int .i64 y.built, .int .i64 y.seq, .int .i64 y.tail, .int .i64 y.gen, .slice d6 es.length b6, .int .i64 y.fuse, .bool y.down, .bool y.broken]
   have zx7 := xb.lt
   have B7 := hidden (Below.andThen B6.out ba)
   have W7 := hidden (W6.out.below ba)
   have WB7 := hidden (WB6.out.below ba (by omega))
   have D7 := hidden (D6.out.below ba)
   have G7 := hidden (G6.out.below ba)
   have z7 := ba.size
   clear B6 W6 WB6 D6 G6 ba
   have GB7 := hidden xb
   clear xb
   obtain ⟨p0, p1, p2, p3, p4, p5, p6, p7, p8, p9, p10, p11, p12⟩ := GB7.out.cells13
   obtain ⟨q0, q1, q2, q3, q4, q5, q6, q7, q8, q9, q10, q11, q12⟩ := WB7.out.cells13
   go_wp2_with fail
   generalize w6.alloc (.cells #[.int .i64 y.id, .int .i64 y.n, .int .i64 y.s, .slice a6 ns.length c6, .int .i64 y.lost, .int .i64 y.built, .int .i64 y.seq, .int .i64 y.tail, .int .i64 y.gen, .slice d6 es.length b6, .int .i64 y.fuse, .bool y.down, .bool y.broken] 33) = w7 at B7 W7 WB7 D7 G7 GB7 z7 zx7 p0 p1 p2 p3 p4 p5 p6 p7 p8 p9 p10 p11 p12 q0 q1 q2 q3 q4 q5 q6 q7 q8 q9 q10 q11 q12 ⊢
   refine (eqArr_same _ 108 108 73 73 99 99 y _ _ _ _ _ _ _ _ _ _ _ _ ns es G7.out.rdm G7.out.rdd W7.out.rdm W7.out.rdd hwq).mono ?_
   rintro e w8 ⟨rfl, hb8⟩
   clear p0 p1 p2 p3 p4 p5 p6 p7 p8 p9 p10 p11 p12 q0 q1 q2 q3 q4 q5 q6 q7 q8 q9 q10 q11 q12
   have B8 := hidden (Below.andThen B7.out hb8)
   have W8 := hidden (W7.out.below hb8)
   have WB8 := hidden (WB7.out.below hb8 (by omega))
   have D8 := hidden (D7.out.below hb8)
   have G8 := hidden (G7.out.below hb8)
   have GB8 := hidden (GB7.out.below hb8 (by omega))
   have z8 := hb8.size
   clear B7 W7 WB7 D7 G7 GB7 hb8
   go_wp2_with fail
   refine (toMemS_any _ 122 70 _ _ _ ms (h0.below B8.out) hwt').mono ?_
   rintro e w9 ⟨rfl, o9, hb9⟩
   have B9 := hidden (Below.andThen B8.out hb9)
   have W9 := hidden (W8.out.below hb9)
   have WB9 := hidden (WB8.out.below hb9 (by omega))
   have D9 := hidden (D8.out.below hb9)
   have G9 := hidden (G8.out.below hb9)
   have GB9 := hidden (GB8.out.below hb9 (by omega))
   have z9 := hb9.size
   clear B8 W8 WB8 D8 G8 GB8 hb9
   have Y9 := hidden o9
   clear o9
   go_wp2_with fail
   refine (eqMemS_same _ 108 108 73 73 _ _ _ _ _ _ ms D9.out.rd Y9.out.rd hwt2).mono ?_
   rintro e w10 ⟨rfl, hb10⟩
   have B10 := hidden (Below.andThen B9.out hb10)
   have W10 := hidden (W9.out.below hb10)
   have WB10 := hidden (WB9.out.below hb10 (by omega))
   have D10 := hidden (D9.out.below hb10)
   have G10 := hidden (G9.out.below hb10)
   have GB10 := hidden (GB9.out.below hb10 (by omega))
   have Y10 := hidden (Y9.out.below hb10)
   have z10 := hb10.size
   clear B9 W9 WB9 D9 G9 GB9 Y9 hb10
   clear Y10
   obtain ⟨fpX, mX, rX⟩ := D10.out.mine
   go_wp2_with fail
   refine (markMemS_fp _ _ _ _ ms _ fpX mX hwt2 (by omega) (by omega)).mono ?_
   rintro e w11 ⟨rfl, m11, t11⟩
   clear D10
   have hb11 := t11.but rX
   clear mX m11 t11 rX
   have B11 := hidden (Below.andBut B10.out hb11 (by omega))
   have W11 := hidden (W10.out.but hb11 (by omega))
   have WB11 := hidden (WB10.out.kept (hb11.block _ (by omega) (by omega)))
   have G11 := hidden (G10.out.but hb11 (by omega))
   have GB11 := hidden (GB10.out.kept (hb11.block _ (by omega) (by omega)))
   have z11 := hb11.size
   clear B10 W10 WB10 G10 GB10 hb11
   have hcn : (0 : Int) <= 1 + (cntMS ms : Int) := by omega
   generalize 1 + (cntMS ms : Int) = cn at hcn ⊢
   obtain ⟨p0, p1, p2, p3, p4, p5, p6, p7, p8, p9, p10, p11, p12⟩ := GB11.out.cells13
   obtain ⟨q0, q1, q2, q3, q4, q5, q6, q7, q8, q9, q10, q11, q12⟩ := WB11.out.cells13
   go_wp2_with fail
   refine (eqArr_same _ 108 108 73 73 99 99 y _ _ _ _ _ _ _ _ _ _ _ _ ns es G11.out.rdm G11.out.rdd W11.out.rdm W11.out.rdd hwq).mono ?_
   rintro e w12 ⟨rfl, hb12⟩
   clear p0 p1 p2 p3 p4 p5 p6 p7 p8 p9 p10 p11 p12 q0 q1 q2 q3 q4 q5 q6 q7 q8 q9 q10 q11 q12
   have B12 := hidden (Below.andThen B11.out hb12)
   have W12 := hidden (W11.out.below hb12)
   have WB12 := hidden (WB11.out.below hb12 (by omega))
   have G12 := hidden (G11.out.below hb12)
   have GB12 := hidden (GB11.out.below hb12 (by omega))
   have z12 := hb12.size
   clear B11 W11 WB11 G11 GB11 hb12
   obtain ⟨p0, p1, p2, p3, p4, p5, p6, p7, p8, p9, p10, p11, p12⟩ := GB12.out.cells13
   go_wp2_with fail
   refine (markArr_in _ w5.heap.size w6.heap.size y _ _ _ _ _ _ ns es G12.out (by omega) hwq).mono ?_
   rintro e w13 ⟨rfl, oi13, hb13⟩
   clear p0 p1 p2 p3 p4 p5 p6 p7 p8 p9 p10 p11 p12
   clear G12
   have B13 := hidden (Below.andBut B12.out hb13 (by omega))
   have W13 := hidden (W12.out.but hb13 (by omega))
   have WB13 := hidden (WB12.out.kept (hb13.block _ (by omega) (by omega)))
   have GB13 := hidden (GB12.out.kept (hb13.block _ (by omega) (by omega)))
   have z13 := hb13.size
   clear B12 W12 WB12 GB12 hb13
   have G13 := hidden oi13
   clear oi13
   obtain ⟨p0, p1, p2, p3, p4, p5, p6, p7, p8, p9, p10, p11, p12⟩ := GB13.out.cells13
   go_wp2_with fail
   refine (heldArr_any _ 108 73 99 y _ _ _ _ _ _ ns es G13.out.rdm G13.out.rdd hwq).mono ?_
   rintro e w14 ⟨rfl, hb14⟩
   clear p0 p1 p2 p3 p4 p5 p6 p7 p8 p9 p10 p11 p12
   have B14 := hidden (Below.andThen B13.out hb14)
   have W14 := hidden (W13.out.below hb14)
   have WB14 := hidden (WB13.out.below hb14 (by omega))
   have GB14 := hidden (GB13.out.below hb14 (by omega))
   have G14 := hidden (G13.out.below hb14)
   have z14 := hb14.size
   clear B13 W13 WB13 GB13 G13 hb14
   have hcm : (0 : Int) <= 1 + (cntMS ns : Int) + (cntWS es : Int) := by omega
   generalize hCM : 1 + (cntMS ns : Int) + (cntWS es : Int) = ck at hcm ⊢
   have HCM := hidden hCM
   clear hCM
   go_wp2_with fail
   refine (toMemS_any _ 122 70 _ _ _ ms (h0.below B14.out) hwt').mono ?_
   rintro e w15 ⟨rfl, o15, hb15⟩
   have B15 := hidden (Below.andThen B14.out hb15)
   have W15 := hidden (W14.out.below hb15)
   have WB15 := hidden (WB14.out.below hb15 (by omega))
   have GB15 := hidden (GB14.out.below hb15 (by omega))
   have G15 := hidden (G14.out.below hb15)
   have z15 := hb15.size
   clear B14 W14 WB14 GB14 G14 hb15
   have E15 := hidden o15
   clear o15
   go_wp2_with fail
   refine (implAssemble_any _ 108 73 _ _ _ ms id E15.out.rd hwt2).mono ?_
   rintro e w16 ho16
   have hp16 := ho16
   rw [HQ.out, ← HES.out] at hp16
   clear ho16
   obtain ⟨a16, d16, c16, b16, rfl, o16, hb16⟩ := hp16
   dsimp only at o16
   unfold arrC
   have B16 := hidden (Below.andThen B15.out hb16)
   have W16 := hidden (W15.out.below hb16)
   have WB16 := hidden (WB15.out.below hb16 (by omega))
   have GB16 := hidden (GB15.out.below hb16 (by omega))
   have G16 := hidden (G15.out.below hb16)
   have E16 := hidden (E15.out.below hb16)
   have z16 := hb16.size
   clear B15 W15 WB15 GB15 G15 E15 hb16
   have H16 := hidden o16
   clear o16
   clear E16
   have ba : Below w16.heap.size w16 (w16.alloc (.cells #[.int .i64 y.id, .int .i64 y.n, .int .i64 y.s, .slice a16 ns.length c16, .int .i64 y.lost, .int .i64 y.built, .int .i64 y.seq, .int .i64 y.tail, .int .i64 y.gen, .slice d16 es.length b16, .int .i64 y.fuse, .bool y.down, .bool y.broken] 33)) := (Below.refl _ _).alloc (Nat.le_refl _) _
   have xb := Box.new w16 33 #[.int .i64 y.id, .int .i64 y.n, .int .i64 y.s, .slice a16 ns.length c16, .int .i64 y.lost, .int .i64 y.built, .int .i64 y.seq, .int .i64 y.tail, .int .i64 y.gen, .slice d16 es.length b16, .int .i64 y.fuse, .bool y.down, .bool y.broken]
   have zx17 := xb.lt
   have B17 := hidden (Below.andThen B16.out ba)
   have W17 := hidden (W16.out.below ba)
   have WB17 := hidden (WB16.out.below ba (by omega))
   have GB17 := hidden (GB16.out.below ba (by omega))
   have G17 := hidden (G16.out.below ba)
   have H17 := hidden (H16.out.below ba)
   have z17 := ba.size
   clear B16 W16 WB16 GB16 G16 H16 ba
   have HB17 := hidden xb
   clear xb
   obtain ⟨p0, p1, p2, p3, p4, p5, p6, p7, p8, p9, p10, p11, p12⟩ := HB17.out.cells13
   obtain ⟨q0, q1, q2, q3, q4, q5, q6, q7, q8, q9, q10, q11, q12⟩ := WB17.out.cells13
   go_wp2_with fail
   generalize w16.alloc (.cells #[.int .i64 y.id, .int .i64 y.n, .int .i64 y.s, .slice a16 ns.length c16, .int .i64 y.lost, .int .i64 y.built, .int .i64 y.seq, .int .i64 y.tail, .int .i64 y.gen, .slice d16 es.length b16, .int .i64 y.fuse, .bool y.down, .bool y.broken] 33) = w17 at B17 W17 WB17 GB17 G17 H17 HB17 z17 zx17 p0 p1 p2 p3 p4 p5 p6 p7 p8 p9 p10 p11 p12 q0 q1 q2 q3 q4 q5 q6 q7 q8 q9 q10 q11 q12 ⊢
   refine (eqArr_same _ 108 108 73 73 99 99 y _ _ _ _ _ _ _ _ _ _ _ _ ns es H17.out.rdm H17.out.rdd W17.out.rdm W17.out.rdd hwq).mono ?_
   rintro e w18 ⟨rfl, hb18⟩
   clear p0 p1 p2 p3 p4 p5 p6 p7 p8 p9 p10 p11 p12 q0 q1 q2 q3 q4 q5 q6 q7 q8 q9 q10 q11 q12
   have B18 := hidden (Below.andThen B17.out hb18)
   have W18 := hidden (W17.out.below hb18)
   have WB18 := hidden (WB17.out.below hb18 (by omega))
   have GB18 := hidden (GB17.out.below hb18 (by omega))
   have G18 := hidden (G17.out.below hb18)
   have H18 := hidden (H17.out.below hb18)
   have HB18 := hidden (HB17.out.below hb18 (by omega))
   have z18 := hb18.size
   clear B17 W17 WB17 GB17 G17 H17 HB17 hb18
   clear H18
   clear HB18
   clear W18
   clear WB18
   obtain ⟨p0, p1, p2, p3, p4, p5, p6, p7, p8, p9, p10, p11, p12⟩ := GB18.out.cells13
   go_wp2_with fail
   refine (heldArr_any _ 108 73 99 y _ _ _ _ _ _ ns es G18.out.rdm G18.out.rdd hwq).mono ?_
   rintro e w19 ⟨rfl, hb19⟩
   clear p0 p1 p2 p3 p4 p5 p6 p7 p8 p9 p10 p11 p12
   have B19 := hidden (Below.andThen B18.out hb19)
   have GB19 := hidden (GB18.out.below hb19 (by omega))
   have G19 := hidden (G18.out.below hb19)
   have z19 := hb19.size
   clear B18 GB18 G18 hb19
   rw [HCM.out]
   go_wp2
   go_ret
   exact ⟨rfl, B19.out⟩
 . have hq := leftOf_neg (left := 1048576) (wt := wtMemS ms) (by omega)
   go_wp2
   go_ret
   exact ⟨rfl, B1.out⟩

end Go.Proofs.Ytlcjfgmmjkandaa

namespace Go.Proofs.Ytlcjfgmmjkandaa
open Go.RowKit Go.ChangeShapes Go.WideShapes Go.ChangeAt Go.Joins Go.Deep

section
variable {H : Type} {enc : TypeId × Value -> H} {P : Program} {w : World} {held : Bool}

theorem rdInts_of {t q : TypeId} {fuel : Nat} {v : Value} {x : DataW H × List MemPlace} (ht : P.underlying t = some (.slice q)) (hq : P.underlying q = some (.int .i64)) (cq : P.cellsOf q = 1)
 (h : DataW.trod enc P w 0 (fun _ => true) held fuel t [v] = some x) : ∃ zs, tIntS.Rd w [v] zs := by
 rcases open_ints ht hq cq h with ⟨hcs, _⟩ | ⟨a, len, cap, zs, hcs, _, hl, hm, hz, _, hcell, hwz⟩
 . simp at hcs
   subst hcs
   exact ⟨[], ints_rd_of (.inl rfl) (Nat.le_refl _) (by simp) (fun _ => rfl)⟩
 . simp at hcs
   subst hcs
   have hr : IsRow .i64 w (some a) len cap zs := .inr ⟨_, rfl, hl, hm, by simpa using hz, hcell, hwz⟩
   obtain ⟨h1, h2, _, _⟩ := hr.reads
   refine ⟨zs.take len, ?_⟩
   have := ints_rd_of (E := 3) (cap := cap) h1 (by omega) (by unfold maxLen at hm; omega) (by simp)
   rw [h2] at this
   exact this

theorem rd_row {t : Ty} {E : TypeId} {a : Addr} {len cap : Nat} (hl : len <= cap) (hm : cap <= 9223372036854775807) (cs : Nat -> List Value) (hn : 0 < t.n) (hcl : ∀ i, i < len -> (cs i).length = t.n)
 (hc : ∀ i, i < len -> ∀ j, j < t.n -> w.cell? (a.add (i * t.n + j)) = (cs i)[j]?) (hx : ∀ i, i < len -> ∃ x, t.Rd w (cs i) x) : ∃ d, (rowTy t E).Rd w [.slice (some a) len cap] d := by
 have each : ∀ i, i < len -> ∃ y : t.D × List Nat, t.rd w (cs i) y.1 y.2 := by
  intro i hi
  obtain ⟨x, fp, h⟩ := hx i hi
  exact ⟨(x, fp), h⟩
 by_cases h0 : len = 0
 . subst h0
   exact ⟨[], [], some a, cap, rfl, by simp, hm, .inl ⟨rfl, rfl, by simp⟩⟩
 . have hne : Nonempty (t.D × List Nat) := by
    obtain ⟨y, _⟩ := each 0 (by omega)
    exact ⟨y⟩
   have hch : ∃ f : Nat -> t.D × List Nat, ∀ i, i < len -> t.rd w (cs i) (f i).1 (f i).2 := by
    refine ⟨fun i => if h : i < len then Classical.choose (each i h) else Classical.choice hne, fun i hi => ?_⟩
    simp only [dif_pos hi]
    exact Classical.choose_spec (each i hi)
   obtain ⟨f, hf⟩ := hch
   obtain ⟨b, off, spot⟩ := a
   have hc0 := hc 0 (by omega) 0 hn
   have hsome : ∃ v0, (cs 0)[0]? = some v0 := ⟨(cs 0)[0]'(by rw [hcl 0 (by omega)]; exact hn), List.getElem?_eq_getElem _⟩
   obtain ⟨v0, hv0⟩ := hsome
   rw [hv0] at hc0
   have hspot : spot = none := by simpa [Addr.add] using World.cell?_spot hc0
   subst hspot
   have ea : ∀ k, (⟨b, off, none⟩ : Addr).add k = ⟨b, off + k, none⟩ := by
    intro k
    unfold Addr.add
    split <;> simp_all
   rw [ea] at hc0
   have hblt : b < w.heap.size := World.block_lt_of_cell? w _ hc0
   refine ⟨(List.range len).map fun i => (f i).1, b :: ((List.range len).map fun i => (f i).2).flatten, _, cap, by simp, by simpa using hl, hm, .inr ⟨b, off, (List.range len).map fun i => (f i).2, rfl, hblt, rfl, by simp, fun i x hxi => ?_⟩⟩
   have hi : i < len := by
    have := (List.getElem?_eq_some_iff.1 hxi).1
    simpa using this
   rw [List.getElem?_map, List.getElem?_range hi] at hxi
   simp at hxi
   subst hxi
   refine ⟨(f i).2, cs i, by rw [List.getElem?_map, List.getElem?_range hi]; rfl, hf i hi, fun j hj => ?_⟩
   rw [← ea]
   exact hc i hi j hj

theorem rdIntSS_of {t e q : TypeId} {fuel : Nat} {v : Value} {x : DataW H × List MemPlace} (ht : P.underlying t = some (.slice e)) (he : P.underlying e = some (.slice q)) (hq : P.underlying q = some (.int .i64)) (ce : P.cellsOf e = 1) (cq : P.cellsOf q = 1)
 (h : DataW.trod enc P w 0 (fun _ => true) held fuel t [v] = some x) : ∃ d, tIntSS.Rd w [v] d := by
 rcases open_slice1 ht ce h with ⟨hcs, _⟩ | ⟨a, len, cap, m, n, V, D, Pl, hcs, _, hl, hm, hmm, _, hx⟩
 . simp at hcs
   subst hcs
   exact ⟨[], [], none, 0, rfl, by simp, by simp, .inl ⟨rfl, rfl, fun _ => rfl⟩⟩
 . simp at hcs
   subst hcs
   simp only [if_true] at hmm
   refine rd_row hl (by unfold maxLen at hm; omega) (fun i => [V i]) (by decide) (fun _ _ => rfl) (fun i hi j hj => ?_) (fun i hi => rdInts_of he hq cq (hx i (by omega)).2)
   have hj0 : j = 0 := by have : j < 1 := hj; omega
   subst hj0
   have := (hx i (by omega)).1
   show w.cell? (a.add (i * 1 + 0)) = some (V i)
   rw [Nat.mul_one, Nat.add_zero]
   exact this

theorem rdWrS_of {t e q : TypeId} {f0 f1 : Field} {E : TypeId} {fuel : Nat} {v : Value} {x : DataW H × List MemPlace} (ht : P.underlying t = some (.slice e)) (he : P.underlying e = some (.struct #[f0, f1])) (ce : P.cellsOf e = 2) (o0 : f0.offset = 0) (o1 : f1.offset = 1) (c0 : P.cellsOf f0.type = 1) (c1 : P.cellsOf f1.type = 1)
 (hi0 : P.underlying f0.type = some (.int .i64)) (hi1 : P.underlying f1.type = some (.slice q)) (hq : P.underlying q = some (.int .i64)) (cq : P.cellsOf q = 1)
 (h : DataW.trod enc P w 0 (fun _ => true) held fuel t [v] = some x) : ∃ d, (tWrS E).Rd w [v] d := by
 rcases open_slice_pairs ht he ce o0 o1 c0 c1 h with ⟨hcs, _⟩ | ⟨a, len, cap, m, n, V0, V1, D0, D1, P0, P1, hcs, _, hl, hm, hmm, _, hx⟩
 . simp at hcs
   subst hcs
   exact ⟨[], [], none, 0, rfl, by simp, by simp, .inl ⟨rfl, rfl, fun _ => rfl⟩⟩
 . simp at hcs
   subst hcs
   simp only [if_true] at hmm
   refine rd_row hl (by unfold maxLen at hm; omega) (fun i => [V0 i, V1 i]) (by decide) (fun _ _ => rfl) (fun i hi j hj => ?_) (fun i hi => ?_)
   . have hj2 : j < 2 := hj
     obtain ⟨h0, h1, _⟩ := hx i (by omega)
     match j, hj2 with
     | 0, _ => exact h0
     | 1, _ => exact h1
   . obtain ⟨_, _, h2, h3⟩ := hx i (by omega)
     obtain ⟨y, hy, _, _⟩ := DataW.trod_int hi0 h2
     obtain ⟨zs, hzs⟩ := rdInts_of hi1 hq cq h3
     simp at hy
     exact ⟨(y, zs), by rw [hy]; exact pair_rd_of (t := intTy) (vs := [_]) ⟨[], rfl, rfl⟩ hzs⟩

end
end Go.Proofs.Ytlcjfgmmjkandaa

namespace Go.Proofs.Ytlcjfgmmjkandaa
open Go.RowKit Go.ChangeShapes Go.WideShapes Go.ChangeAt Go.Joins Go.Deep

section
variable {H : Type} {enc : TypeId × Value -> H} {w : World} {held : Bool}

theorem rdRow_of {P : Program} {t e E : TypeId} {u : Ty} {fuel : Nat} {v : Value} {x : DataW H × List MemPlace} (ht : P.underlying t = some (.slice e)) (ce : P.cellsOf e = u.n) (hn : 0 < u.n)
 (each : ∀ (n : Nat) (cs : List Value) (y : DataW H × List MemPlace), cs.length = u.n -> DataW.trod enc P w 0 (fun _ => true) held n e cs = some y -> ∃ d, u.Rd w cs d)
 (h : DataW.trod enc P w 0 (fun _ => true) held fuel t [v] = some x) : ∃ d, (rowTy u E).Rd w [v] d := by
 rcases open_slice ht h with ⟨hcs, _⟩ | ⟨a, len, cap, m, n, D, Pl, hcs, _, hl, hm, hmm, _, hx⟩
 . simp at hcs
   subst hcs
   exact ⟨[], [], none, 0, rfl, by simp, by simp, .inl ⟨rfl, rfl, fun _ => rfl⟩⟩
 . simp at hcs
   subst hcs
   simp only [if_true] at hmm
   have one : ∀ i, i < len -> ∃ cs : List Value, cs.length = u.n /\ (∀ j, j < u.n -> w.cell? (a.add (i * u.n + j)) = cs[j]?) /\ ∃ d, u.Rd w cs d := by
    intro i hi
    obtain ⟨cs', h1, h2⟩ := hx i (by omega)
    rw [ce] at h1
    obtain ⟨_, hlen, hcell⟩ := World.cells?_some h1
    refine ⟨cs', hlen, fun j hj => ?_, each n cs' _ hlen h2⟩
    have := hcell j hj
    rw [add_add] at this
    exact this
   obtain ⟨q, hq⟩ := choose_lt one
   exact rd_row hl (by unfold maxLen at hm; omega) q hn (fun i hi => (hq i hi).1) (fun i hi => (hq i hi).2.1) (fun i hi => (hq i hi).2.2)

theorem rdMemS_of {fuel : Nat} {v : Value} {x : DataW H × List MemPlace} (h : DataW.trod enc Try.prog w 0 (fun _ => true) held fuel 24 [v] = some x) : ∃ d, (tMemS 122 70).Rd w [v] d := by
 refine rdRow_of (e := 70) Try.underlying24 (by kernel_rfl) (by decide) (fun n cs y hl hy => ?_) h
 match cs, hl with
 | [v0, v1, v2, v3], _ =>
  obtain ⟨xs, k, _, _, _, hxl, hf⟩ := DataW.trod_struct Try.underlying70 hy
  have c1 : Try.prog.cellsOf 67 = 1 := by kernel_rfl
  have c2 : Try.prog.cellsOf 68 = 1 := by kernel_rfl
  have c3 : Try.prog.cellsOf 4 = 1 := by kernel_rfl
  have c4 : Try.prog.cellsOf 39 = 1 := by kernel_rfl
  match xs, hxl with
  | [y0, y1, y2, y3], _ =>
   have g0 := hf 0 _ rfl
   have g1 := hf 1 _ rfl
   have g2 := hf 2 _ rfl
   have g3 := hf 3 _ rfl
   simp [c1] at g0
   simp [c2] at g1
   simp [c3] at g2
   simp [c4] at g3
   obtain ⟨ss, r0⟩ := rdIntSS_of Try.underlying67 Try.underlying39 Try.underlying3 (by kernel_rfl) (by kernel_rfl) g0
   obtain ⟨ws, r1⟩ := rdWrS_of (E := 122) Try.underlying68 Try.underlying122 (by kernel_rfl) rfl rfl (by kernel_rfl) (by kernel_rfl) Try.underlying3 Try.underlying39 Try.underlying3 (by kernel_rfl) g1
   obtain ⟨f, hfb, _⟩ := DataW.trod_bool Try.underlying4 g2
   obtain ⟨bs, r3⟩ := rdInts_of Try.underlying39 Try.underlying3 (by kernel_rfl) g3
   simp at hfb
   subst hfb
   exact ⟨(ss, ws, f, bs), pair_rd_of (vs := [v0]) r0 (pair_rd_of (vs := [v1]) r1 (pair_rd_of (t := boolTy) (vs := [.bool f]) ⟨[], rfl, rfl⟩ r3))⟩

end
end Go.Proofs.Ytlcjfgmmjkandaa

namespace Go.Proofs.Ytlcjfgmmjkandaa.fnExactAssemble
open Go.ChangeShapes Go.WideShapes Go.ChangeAt Go.RowKit Go.Joins
open Go.ChangeMaps (open_string shut_string)
set_option linter.unusedVariables false

theorem own : ownKnob Try.prog.godebug = none := by kernel_rfl
theorem laidOut : laidOutB Try.prog = true := by kernel_rfl

theorem lifted (os : Os) (started : os.Started) (H : Type) (enc : TypeId × Value -> H) :
 ReturnsInHanded {} Try.checked os 5 .any (Rows.fnExactAssembleSpec.pre6 enc Try.prog Try.f5 Rows.fnExactAssembleRow.domain false) (Rows.fnExactAssembleSpec.post enc Try.prog Try.f5 false true false false) := by
 refine returnsInHanded_of_change (C := Try.checked) own started (by kernel_rfl) Try.func5
  (ChangeSpec.witness6 (enc := enc) (C := Try.checked) false ⟨#[], #[.slice none 0 0, .int .i64 0], []⟩ 8 (by kernel_rfl) (by kernel_rfl) (by kernel_rfl) (by kernel_rfl)) ?_
 intro W base args ds gs before hval0 hW hcnd _
 have hval : ∀ (j : Nat) t v, Try.f5.params[j]? = some t -> args[j]? = some v -> Value.okWide Try.prog W .any base t v := hval0
 have hW' := hW
 obtain ⟨p, q, hA0, hV, rfl, hfz, hnd⟩ := hW
 have hA : DataW.TrodAll enc Try.prog W 0 (fun _ => true) true Try.f5.params.toList args.toList ds p := hA0
 rw [Try.params5] at hA hval
 obtain ⟨v0, vs0, d0, ds0, p0, q0, hargs0, rfl, rfl, h0, r0⟩ := trodAll_cons hA
 obtain ⟨v1, vs1, d1, ds1, p1, q1, hargs1, rfl, rfl, h1, r1⟩ := trodAll_cons r0
 obtain ⟨rfl, rfl, rfl⟩ := trodAll_nil r1
 obtain rfl : args = #[v0, v1] := by cases args; simp_all
 obtain ⟨rfl, rfl⟩ := trodVars_none hV
 have k0 := h0
 have lt0 : ∀ x ∈ p0, x.block < W.heap.size := by obtain ⟨m, hm⟩ := k0; exact DataW.trod_lt m _ _ _ hm
 obtain ⟨a0, l0, c0, hv0⟩ := okWide_slice Try.underlying24 (hval 0 24 v0 rfl rfl)
 subst hv0
 obtain ⟨ms0, g0⟩ : ∃ d, (tMemS 122 70).Rd W [.slice a0 l0 c0] d := by
  obtain ⟨fuel, hf⟩ := h0
  exact rdMemS_of hf
 have k1 := h1
 have lt1 : ∀ x ∈ p1, x.block < W.heap.size := by obtain ⟨m, hm⟩ := k1; exact DataW.trod_lt m _ _ _ hm
 obtain ⟨x1, hv1, _, _, wf1⟩ := open_int Try.underlying3 (hval 1 3 v1 rfl rfl) h1
 subst hv1
 clear hA0 hval0
 refine (fnExactAssemble_walk a0 l0 c0 ms0 x1 W g0).mono fun e W' ⟨he, bel⟩ => ?_
 subst he
 exact ⟨_, rfl, _, _, _, [], _, [], hW', trodAll_mk1 (shut_bool Try.underlying4 _), (trodAll_cons_mk (Below.trod laidOut (by kernel_rfl) (of_decide_eq_true (by kernel_rfl)) k0 bel lt0) (trodAll_cons_mk (Below.trod laidOut (by kernel_rfl) (of_decide_eq_true (by kernel_rfl)) k1 bel lt1) trodAll_mk0)), rfl, bel.frame _, fun h => by cases h⟩

theorem over : Rows.fnExactAssembleRow.holds Try.pinned (OpenSpec.ofChange Rows.fnExactAssembleSpec) :=
 OpenClaim.holds_of_wide 5 Try.f5 rfl rfl rfl rfl rfl rfl rfl ⟨rfl, rfl, rfl, rfl, rfl⟩ rfl rfl rfl rfl rfl (by kernel_rfl) Try.func5 (by kernel_rfl)
  (of_decide_eq_true (by kernel_rfl)) (by unfold Func.isWrapper; first | (rw [if_pos (by decide +kernel)]; kernel_rfl) | (rw [if_neg (by decide +kernel)]; exact ⟨rfl, rfl⟩))
  (fun os started H enc _ => lifted os started H enc)
end Go.Proofs.Ytlcjfgmmjkandaa.fnExactAssemble

namespace Go.Proofs.Ytlcjfgmmjkandaa
theorem fnExactAssemble_holds : Rows.FnExactAssembleSaid := fnExactAssemble.over
#print axioms fnExactAssemble_holds
end Go.Proofs.Ytlcjfgmmjkandaa


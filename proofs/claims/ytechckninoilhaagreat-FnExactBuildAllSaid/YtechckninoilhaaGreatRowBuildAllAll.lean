/-
 The exact law of BuildAll holds: at every array, bent or not, the program makes of it what the specification does, every field and the code, writes into no argument, and its answer owns its memory.
-/
import Derived.Test.YtechckninoilhaaGreatRowBuildAllAll7
import Derived.Test.YtechckninoilhaaGreatRowBuildAllAll9
import Derived.Test.YtechckninoilhaaGreatHeld
import Derived.Test.YtechckninoilhaaGreatRowBuildAllAll6
import Derived.Test.YtechckninoilhaaGreatRowBuildAllAll2
import Derived.Test.YtechckninoilhaaGreatOut8
import Derived.Test.YtechckninoilhaaGreatRowBuildAllAll8
import Derived.Deep.Cut
import Derived.Deep.LoopGhost
import Derived.Test.YtechckninoilhaaGreatWalkMarkArr
import Derived.Test.YtechckninoilhaaGreatPut8
import Derived.Test.YtechckninoilhaaGreatRowBuildAllAll3
import Derived.Test.YtechckninoilhaaGreatWalkMarkIn
import Derived.Test.YtechckninoilhaaGreatWalkArr
import Derived.Test.YtechckninoilhaaGreatWalkInts
import Derived.Test.YtechckninoilhaaGreatWalkMark
import Derived.Test.YtechckninoilhaaGreatWalkSz
import Derived.ProofKit
import Derived.OpenShut
import Derived.Lib.SmallJoins
import Derived.Deep.Slices
import Derived.Deep.SlicePairs
import Derived.Test.YtechckninoilhaaGreatRows
import Derived.WalkKit
import Derived.ShutString
import Derived.ChangeOld
import Derived.Below

set_option maxRecDepth 100000
set_option maxHeartbeats 8000000
set_option linter.unusedSimpArgs false

namespace Go.Proofs.YtechckninoilhaaGreat
open Go.RowKit

theorem l12Adopt_any (w : World) (B : Nat) (x : ArrN) (ms : List MemD) (ds : List (Int × List Int)) (fm fd : List Nat) (h : ArrAt w B x ms ds fm fd) (hf : x.fuse <= 1000) (hM : MsOk ms) (hg0 : 0 <= x.gen) (hg1 : x.gen < 59990) :
 Calls Tryz.prog 52 #[.pointer (some ⟨B, 0, none⟩)] w fun e w' => e = .returned (.int .i64 (dn12 (adoptA (x, ms)).1.down)) /\ ∃ fm', ArrAt w' B (adoptA (x, ms)).1 (adoptA (x, ms)).2 ds fm' fd /\ Moved B fm w fm' w' := by
 have HC := hidden (l7Check_any w B x ms ds fm fd h hf hM hg0 (by omega))
 have HAA : Hid (adoptA (x, ms) = if (checkS (x, ms)).1.down = true then checkS (x, ms) else markS ({(checkS (x, ms)).1 with lost := -1, built := 0}, (checkS (x, ms)).2)) := rfl
 have HN := hidden (check_num (q := (x, ms)) hM hf)
 have HKP := hidden (checkS_keeps (q := (x, ms)) hM hf)
 clear h
 go_enter Tryz.func52, Tryz.ntmps52
 go_wp2_with fail
 refine HC.out.mono ?_
 rintro e w1 ⟨rfl, fm1, A1, M1⟩
 have MV1 := hidden M1
 clear HC M1
 generalize checkS (x, ms) = st at A1 HAA HN HKP
 obtain ⟨y, ns⟩ := st
 dsimp only at A1 HAA HN HKP
 obtain ⟨c4, c5, c8, c11, c12, fz⟩ := arr_cells A1
 cases hst : y.down
 . have hn := HN.out hst
   have HV : Hid (adoptA (x, ms) = markS ({y with lost := -1, built := 0}, ns)) := by unfold Hid; rw [HAA.out, if_neg (by simp [hst])]
   have A2 := hidden (arr_numbers A1 (-1)).1
   have MV2 := hidden ((MV1.out.trans (Moved.set (B := B) (j := 4) (fm := fm1) (w := w1) (.int .i64 (-1)))).trans (Moved.set (B := B) (j := 5) (.int .i64 0)))
   have HMK := hidden (l7Mark_any _ B ({y with lost := -1, built := 0} : ArrN) ns ds fm1 fd A2.out hn.2.2.2.2.2 HKP.out.1 (by dsimp only; omega) (by dsimp only; omega))
   rw [hst] at c11
   clear hst hn HN HKP HAA A1 MV1
   generalize markS ({y with lost := -1, built := 0}, ns) = st at HMK HV
   go_wp2_with fail
   refine HMK.out.mono ?_
   rintro e w5 ⟨rfl, fm5, A5, M5⟩
   have MV5 := hidden (MV2.out.trans M5)
   have HA5 := hidden A5
   clear HMK M5 MV2 A2 c4 c5 c8 c11 c12 fz
   obtain ⟨c4, c5, c8, c11, c12, fz⟩ := arr_cells A5
   clear A5
   obtain ⟨z, os⟩ := st
   dsimp only at c11 HA5 HV
   cases hd : z.down
   . have HR : Hid (0 = dn12 (adoptA (x, ms)).1.down) := by unfold Hid; rw [HV.out]; dsimp only; rw [hd]; rfl
     rw [hd] at c11
     clear hd
     go_wp2
     go_ret
     exact ⟨ret_int HR.out, fm5, by rw [HV.out]; exact HA5.out, MV5.out⟩
   have HR : Hid (6 = dn12 (adoptA (x, ms)).1.down) := by unfold Hid; rw [HV.out]; dsimp only; rw [hd]; rfl
   rw [hd] at c11
   clear hd
   go_wp2
   go_ret
   exact ⟨ret_int HR.out, fm5, by rw [HV.out]; exact HA5.out, MV5.out⟩
 have HV : Hid (adoptA (x, ms) = (y, ns)) := by unfold Hid; rw [HAA.out, if_pos hst]
 have HR : Hid (6 = dn12 (adoptA (x, ms)).1.down) := by unfold Hid; rw [HV.out]; dsimp only; rw [hst]; rfl
 have HA1 := hidden A1
 rw [hst] at c11
 clear hst HN HKP HAA A1
 go_wp2
 go_ret
 exact ⟨ret_int HR.out, fm1, by rw [HV.out]; exact HA1.out, MV1.out⟩

theorem specAdopt_any (w : World) (E F G : TypeId) (x : ArrN) (am ad : Option Addr) (nm cm nd cd : Nat) (ms : List MemD) (ds : List (Int × List Int)) (h0 : (tMemS E F).Rd w [.slice am nm cm] ms) (h1 : (tWrS G).Rd w [.slice ad nd cd] ds) (hw : wtArr ms ds <= 2097152) :
 Calls Tryz.prog 19 #[.agg #[.int .i64 x.id, .int .i64 x.n, .int .i64 x.s, .slice am nm cm, .int .i64 x.lost, .int .i64 x.built, .int .i64 x.seq, .int .i64 x.tail, .int .i64 x.gen, .slice ad nd cd, .int .i64 x.fuse, .bool x.down, .bool x.broken]] w fun e w' => ArrOutC w w' e (adoptO x ms ds) (adoptC x ms ds) ds := by
 obtain ⟨rfl, _⟩ := row_length h0
 obtain ⟨rfl, _⟩ := row_length h1
 have hA := (new_below w (.cells #[.int .i64 x.id, .int .i64 x.n, .int .i64 x.s, .slice am ms.length cm, .int .i64 x.lost, .int .i64 x.built, .int .i64 x.seq, .int .i64 x.tail, .int .i64 x.gen, .slice ad ds.length cd, .int .i64 x.fuse, .bool x.down, .bool x.broken] 33)).alloc (by simp) (.cells #[.int .i64 0, .int .i64 0, .int .i64 0, .slice none 0 0, .int .i64 0, .int .i64 0, .int .i64 0, .int .i64 0, .int .i64 0, .slice none 0 0, .int .i64 0, .bool false, .bool false] 33)
 have X0 : Box ((w.alloc (.cells #[.int .i64 x.id, .int .i64 x.n, .int .i64 x.s, .slice am ms.length cm, .int .i64 x.lost, .int .i64 x.built, .int .i64 x.seq, .int .i64 x.tail, .int .i64 x.gen, .slice ad ds.length cd, .int .i64 x.fuse, .bool x.down, .bool x.broken] 33)).alloc (.cells #[.int .i64 0, .int .i64 0, .int .i64 0, .slice none 0 0, .int .i64 0, .int .i64 0, .int .i64 0, .int .i64 0, .int .i64 0, .slice none 0 0, .int .i64 0, .bool false, .bool false] 33)) w.heap.size 33 #[.int .i64 x.id, .int .i64 x.n, .int .i64 x.s, .slice am ms.length cm, .int .i64 x.lost, .int .i64 x.built, .int .i64 x.seq, .int .i64 x.tail, .int .i64 x.gen, .slice ad ds.length cd, .int .i64 x.fuse, .bool x.down, .bool x.broken] := (Box.new w _ _).alloc _
 have R0 := Box.new (w.alloc (.cells #[.int .i64 x.id, .int .i64 x.n, .int .i64 x.s, .slice am ms.length cm, .int .i64 x.lost, .int .i64 x.built, .int .i64 x.seq, .int .i64 x.tail, .int .i64 x.gen, .slice ad ds.length cd, .int .i64 x.fuse, .bool x.down, .bool x.broken] 33)) 33 #[.int .i64 0, .int .i64 0, .int .i64 0, .slice none 0 0, .int .i64 0, .int .i64 0, .int .i64 0, .int .i64 0, .int .i64 0, .slice none 0 0, .int .i64 0, .bool false, .bool false]
 rw [World.size_alloc] at R0
 have zX := X0.lt
 have zR := R0.lt
 have r0 := h0.below hA
 have r1 := h1.below hA
 have hzW : ((w.alloc (.cells #[.int .i64 x.id, .int .i64 x.n, .int .i64 x.s, .slice am ms.length cm, .int .i64 x.lost, .int .i64 x.built, .int .i64 x.seq, .int .i64 x.tail, .int .i64 x.gen, .slice ad ds.length cd, .int .i64 x.fuse, .bool x.down, .bool x.broken] 33)).alloc (.cells #[.int .i64 0, .int .i64 0, .int .i64 0, .slice none 0 0, .int .i64 0, .int .i64 0, .int .i64 0, .int .i64 0, .int .i64 0, .slice none 0 0, .int .i64 0, .bool false, .bool false] 33)).heap.size = w.heap.size + 1 + 1 := by simp
 obtain ⟨k0, k1, k2, k3, k4, k5, k6, k7, k8, k9, k10, k11, k12⟩ := X0.cells13
 go_enter Tryz.func19, Tryz.ntmps19
 go_wp2_with fail
 generalize (w.alloc (.cells #[.int .i64 x.id, .int .i64 x.n, .int .i64 x.s, .slice am ms.length cm, .int .i64 x.lost, .int .i64 x.built, .int .i64 x.seq, .int .i64 x.tail, .int .i64 x.gen, .slice ad ds.length cd, .int .i64 x.fuse, .bool x.down, .bool x.broken] 33)).alloc (.cells #[.int .i64 0, .int .i64 0, .int .i64 0, .slice none 0 0, .int .i64 0, .int .i64 0, .int .i64 0, .int .i64 0, .int .i64 0, .slice none 0 0, .int .i64 0, .bool false, .bool false] 33) = W at hA X0 R0 zX zR r0 r1 hzW k0 k1 k2 k3 k4 k5 k6 k7 k8 k9 k10 k11 k12 ⊢
 obtain ⟨BR, hBR⟩ : ∃ BR, w.heap.size + 1 = BR := ⟨_, rfl⟩
 rw [hBR] at R0 zR hzW ⊢
 have q1 : w.heap.size + 1 <= BR /\ BR <= w.heap.size + 1 := by omega
 clear hBR
 refine (l6Copy_any _ E F G x _ _ _ _ _ _ ms ds r0 r1 hw).mono ?_
 rintro e w1 ⟨bm, cm1, bd, cd1, m, rfl, om, od, zm, zm2, b1⟩
 have bn := new_below w1 (.cells #[.int .i64 x.id, .int .i64 x.n, .int .i64 x.s, .slice bm ms.length cm1, .int .i64 x.lost, .int .i64 x.built, .int .i64 x.seq, .int .i64 x.tail, .int .i64 x.gen, .slice bd ds.length cd1, .int .i64 x.fuse, .bool x.down, .bool x.broken] 33)
 have b12 : Below W.heap.size W (w1.alloc (.cells #[.int .i64 x.id, .int .i64 x.n, .int .i64 x.s, .slice bm ms.length cm1, .int .i64 x.lost, .int .i64 x.built, .int .i64 x.seq, .int .i64 x.tail, .int .i64 x.gen, .slice bd ds.length cd1, .int .i64 x.fuse, .bool x.down, .bool x.broken] 33)) := Below.andThen b1 bn
 have Y := Box.new w1 33 #[.int .i64 x.id, .int .i64 x.n, .int .i64 x.s, .slice bm ms.length cm1, .int .i64 x.lost, .int .i64 x.built, .int .i64 x.seq, .int .i64 x.tail, .int .i64 x.gen, .slice bd ds.length cd1, .int .i64 x.fuse, .bool x.down, .bool x.broken]
 have zY := Y.lt
 have z1 := b1.size
 obtain ⟨fm, mm, rm⟩ := (om.below bn).mine
 obtain ⟨fd, md, rd⟩ := (od.below bn).mine
 have A2 : ArrAt (w1.alloc (.cells #[.int .i64 x.id, .int .i64 x.n, .int .i64 x.s, .slice bm ms.length cm1, .int .i64 x.lost, .int .i64 x.built, .int .i64 x.seq, .int .i64 x.tail, .int .i64 x.gen, .slice bd ds.length cd1, .int .i64 x.fuse, .bool x.down, .bool x.broken] 33)) w1.heap.size x ms ds fm fd := ⟨bm, bd, cm1, cd1, Y, mm, md, fun b hb hb' => by have h1 := rm b hb; have h2 := rd b hb'; omega, fun hm => by have := rm _ hm; omega, fun hm => by have := rd _ hm; omega⟩
 have X2 := X0.below b12 zX
 have R2 := R0.below b12 zR
 have p0 := r0.below b12
 have p1 := r1.below b12
 have B2 := Below.andThen hA b12
 have rm2 : ∀ b ∈ fm, W.heap.size <= b := fun b hb => by have := rm b hb; omega
 have rd2 : ∀ b ∈ fd, W.heap.size <= b := fun b hb => by have := rd b hb; omega
 clear k0 k1 k2 k3 k4 k5 k6 k7 k8 k9 k10 k11 k12 X0 R0 r0 r1 om od b1 bn b12 Y mm rm md rd hA
 obtain ⟨k0, k1, k2, k3, k4, k5, k6, k7, k8, k9, k10, k11, k12⟩ := X2.cells13
 go_wp2_with fail
 generalize w1.alloc (.cells #[.int .i64 x.id, .int .i64 x.n, .int .i64 x.s, .slice bm ms.length cm1, .int .i64 x.lost, .int .i64 x.built, .int .i64 x.seq, .int .i64 x.tail, .int .i64 x.gen, .slice bd ds.length cd1, .int .i64 x.fuse, .bool x.down, .bool x.broken] 33) = w2 at A2 X2 R2 p0 p1 B2 zY k0 k1 k2 k3 k4 k5 k6 k7 k8 k9 k10 k11 k12 ⊢
 obtain ⟨B, hB⟩ : ∃ B, w1.heap.size = B := ⟨_, rfl⟩
 rw [hB] at A2 zY z1 ⊢
 clear hB
 refine (l8May_any _ E F G x _ _ _ _ _ _ ms ds p0 p1 hw).mono ?_
 rintro e w3 ⟨rfl, b3⟩
 have A3 := A2.below b3
 have X3 := X2.below b3 X2.lt
 have R3 := R2.below b3 R2.lt
 have B3 := Below.andThen B2 b3
 have q3 := p0.below b3
 have z3 := b3.size
 clear k0 k1 k2 k3 k4 k5 k6 k7 k8 k9 k10 k11 k12 A2 X2 R2 p0 p1 B2 b3
 have HK : Hid (adoptK x ms ds = if ask8 x ms ds = 0 then (if (lostT x ms && decide (x.s <= x.built)) = true then mkC x else 2) else ask8 x ms ds) := rfl
 by_cases hc : ask8 x ms ds = 0
 case neg =>
  have HV := hidden (adopt_no (x := x) (ms := ms) (ds := ds) (c := ask8 x ms ds) (by rw [HK.out, if_neg hc]) hc)
  have e0 : (ask8 x ms ds != 0) = true := by simpa using hc
  clear hc HK
  generalize ask8 x ms ds = q at e0 HV ⊢
  obtain ⟨vm, vd, cvm, cvd, Yf, mf, df, hrf, r1f, r2f⟩ := A3
  have Y0 := Yf
  unfold arrC at Y0
  obtain ⟨t0, t1, t2, t3, t4, t5, t6, t7, t8, t9, t10, t11, t12⟩ := Y0.cells13
  obtain ⟨s0, s1, s2, s3, s4, s5, s6, s7, s8, s9, s10, s11, s12⟩ := R3.cells13
  have fz := R3.frozen
  have HO := hidden (arr_outC (y := x) (code := q) (e := .returned (.tuple #[.agg (arrC x _ _), .int .i64 q])) (lo := BR + 1) B3 R3 rfl mf df hrf (fun b hb => by have := rm2 b hb; omega) (fun b hb => by have := rd2 b hb; omega) (by omega) (by omega))
  unfold arrC at HO
  simp only [puts] at HO
  clear Yf Y0 mf df R3 B3
  go_wp2
  refine bodyPost_ret (v := .tuple #[.agg #[.int .i64 x.id, .int .i64 x.n, .int .i64 x.s, .slice vm ms.length cvm, .int .i64 x.lost, .int .i64 x.built, .int .i64 x.seq, .int .i64 x.tail, .int .i64 x.gen, .slice vd ds.length cvd, .int .i64 x.fuse, .bool x.down, .bool x.broken], .int .i64 q]) (by simp [results, Tryz.results19, go_sem, s0, s1, s2, s3, s4, s5, s6, s7, s8, s9, s10, s11, s12]) rfl ?_
  rw [HV.out.1, HV.out.2]; exact HO.out
 have ha := (ask_good hc).1
 rw [if_pos hc] at HK
 rw [hc]
 clear hc
 obtain ⟨fc, mk, gc0, gc1⟩ := arr_facts ha
 have hgeo := (arr_split.1 ha).1
 have hlo := arr_lost ha
 obtain ⟨k0, k1, k2, k3, k4, k5, k6, k7, k8, k9, k10, k11, k12⟩ := X3.cells13
 by_cases l1 : x.lost = -1
 case pos =>
  have e1 : (x.lost == -1) = true := by simp [l1]
  have HLF := hidden (lost_none (ms := ms) l1)
  clear l1
  have HV := hidden (adopt_no (x := x) (ms := ms) (ds := ds) (c := 2) (by rw [HK.out]; rw [HLF.out.2]; simp) (by decide))
  clear HK
  obtain ⟨vm, vd, cvm, cvd, Yf, mf, df, hrf, r1f, r2f⟩ := A3
  have Y0 := Yf
  unfold arrC at Y0
  obtain ⟨t0, t1, t2, t3, t4, t5, t6, t7, t8, t9, t10, t11, t12⟩ := Y0.cells13
  obtain ⟨s0, s1, s2, s3, s4, s5, s6, s7, s8, s9, s10, s11, s12⟩ := R3.cells13
  have fz := R3.frozen
  have HO := hidden (arr_outC (y := x) (code := 2) (e := .returned (.tuple #[.agg (arrC x _ _), .int .i64 2])) (lo := BR + 1) B3 R3 rfl mf df hrf (fun b hb => by have := rm2 b hb; omega) (fun b hb => by have := rd2 b hb; omega) (by omega) (by omega))
  unfold arrC at HO
  simp only [puts] at HO
  clear Yf Y0 mf df R3 B3
  go_wp2
  refine bodyPost_ret (v := .tuple #[.agg #[.int .i64 x.id, .int .i64 x.n, .int .i64 x.s, .slice vm ms.length cvm, .int .i64 x.lost, .int .i64 x.built, .int .i64 x.seq, .int .i64 x.tail, .int .i64 x.gen, .slice vd ds.length cvd, .int .i64 x.fuse, .bool x.down, .bool x.broken], .int .i64 2]) (by simp [results, Tryz.results19, go_sem, s0, s1, s2, s3, s4, s5, s6, s7, s8, s9, s10, s11, s12]) rfl ?_
  rw [HV.out.1, HV.out.2]; exact HO.out
 have e1 : (x.lost == -1) = false := by simp [l1]
 have i1 : 0 <= x.lost := by omega
 have i3 := hlo.2
 have hj : x.lost.toNat < ms.length := by omega
 obtain ⟨d, hdj⟩ : ∃ d, ms[x.lost.toNat]? = some d := ⟨_, List.getElem?_eq_getElem hj⟩
 have HLF := hidden (lost_at l1 hdj)
 rcases quads_at rfl q3 with h0' | ⟨b, off, rfl, hbl, hcs⟩
 . omega
 obtain ⟨v0, v1, v2, v3, q0, q1', q2, q3', hrv⟩ := hcs _ d hdj
 obtain ⟨a0, c0, a1, c1, a3, c3, ss, cs, f, bs, hde, rfl, rfl, rfl, rfl, p0, p1, p3⟩ := mem_at hrv
 have hf2 : d.2.2.1 = f := by rw [hde]
 rw [hf2] at HLF
 clear p0 p1 p3 hcs hrv q0 q1' q3' hde hf2 hdj l1 hlo k0 k1 k2 k3 k4 k5 k6 k7 k8 k9 k10 k11 k12
 obtain ⟨k0, k1, k2, k3, k4, k5, k6, k7, k8, k9, k10, k11, k12⟩ := X3.cells13
 cases f
 case true =>
  have HV := hidden (adopt_no (x := x) (ms := ms) (ds := ds) (c := 2) (by rw [HK.out]; rw [HLF.out.2]; simp) (by decide))
  clear HK
  obtain ⟨vm, vd, cvm, cvd, Yf, mf, df, hrf, r1f, r2f⟩ := A3
  have Y0 := Yf
  unfold arrC at Y0
  obtain ⟨t0, t1, t2, t3, t4, t5, t6, t7, t8, t9, t10, t11, t12⟩ := Y0.cells13
  obtain ⟨s0, s1, s2, s3, s4, s5, s6, s7, s8, s9, s10, s11, s12⟩ := R3.cells13
  have fz := R3.frozen
  have HO := hidden (arr_outC (y := x) (code := 2) (e := .returned (.tuple #[.agg (arrC x _ _), .int .i64 2])) (lo := BR + 1) B3 R3 rfl mf df hrf (fun b hb => by have := rm2 b hb; omega) (fun b hb => by have := rd2 b hb; omega) (by omega) (by omega))
  unfold arrC at HO
  simp only [puts] at HO
  clear Yf Y0 mf df R3 B3
  go_wp2
  refine bodyPost_ret (v := .tuple #[.agg #[.int .i64 x.id, .int .i64 x.n, .int .i64 x.s, .slice vm ms.length cvm, .int .i64 x.lost, .int .i64 x.built, .int .i64 x.seq, .int .i64 x.tail, .int .i64 x.gen, .slice vd ds.length cvd, .int .i64 x.fuse, .bool x.down, .bool x.broken], .int .i64 2]) (by simp [results, Tryz.results19, go_sem, s0, s1, s2, s3, s4, s5, s6, s7, s8, s9, s10, s11, s12]) rfl ?_
  rw [HV.out.1, HV.out.2]; exact HO.out
 by_cases hlw : x.built < x.s
 case pos =>
  have HV := hidden (adopt_no (x := x) (ms := ms) (ds := ds) (c := 2) (by rw [HK.out]; rw [HLF.out.2, decide_eq_false (by omega)]; rfl) (by decide))
  clear HK
  obtain ⟨vm, vd, cvm, cvd, Yf, mf, df, hrf, r1f, r2f⟩ := A3
  have Y0 := Yf
  unfold arrC at Y0
  obtain ⟨t0, t1, t2, t3, t4, t5, t6, t7, t8, t9, t10, t11, t12⟩ := Y0.cells13
  obtain ⟨s0, s1, s2, s3, s4, s5, s6, s7, s8, s9, s10, s11, s12⟩ := R3.cells13
  have fz := R3.frozen
  have HO := hidden (arr_outC (y := x) (code := 2) (e := .returned (.tuple #[.agg (arrC x _ _), .int .i64 2])) (lo := BR + 1) B3 R3 rfl mf df hrf (fun b hb => by have := rm2 b hb; omega) (fun b hb => by have := rd2 b hb; omega) (by omega) (by omega))
  unfold arrC at HO
  simp only [puts] at HO
  clear Yf Y0 mf df R3 B3
  go_wp2
  refine bodyPost_ret (v := .tuple #[.agg #[.int .i64 x.id, .int .i64 x.n, .int .i64 x.s, .slice vm ms.length cvm, .int .i64 x.lost, .int .i64 x.built, .int .i64 x.seq, .int .i64 x.tail, .int .i64 x.gen, .slice vd ds.length cvd, .int .i64 x.fuse, .bool x.down, .bool x.broken], .int .i64 2]) (by simp [results, Tryz.results19, go_sem, s0, s1, s2, s3, s4, s5, s6, s7, s8, s9, s10, s11, s12]) rfl ?_
  rw [HV.out.1, HV.out.2]; exact HO.out
 cases hbr : x.broken
 case true =>
  rw [hbr] at k12
  have HBR := hidden hbr
  clear hbr
  have HV := hidden (adopt_no (x := x) (ms := ms) (ds := ds) (c := 5) (by rw [HK.out]; rw [HLF.out.2, decide_eq_true (by omega)]; unfold mkC; rw [HBR.out]; simp) (by decide))
  clear HK
  obtain ⟨vm, vd, cvm, cvd, Yf, mf, df, hrf, r1f, r2f⟩ := A3
  have Y0 := Yf
  unfold arrC at Y0
  obtain ⟨t0, t1, t2, t3, t4, t5, t6, t7, t8, t9, t10, t11, t12⟩ := Y0.cells13
  obtain ⟨s0, s1, s2, s3, s4, s5, s6, s7, s8, s9, s10, s11, s12⟩ := R3.cells13
  have fz := R3.frozen
  have HO := hidden (arr_outC (y := x) (code := 5) (e := .returned (.tuple #[.agg (arrC x _ _), .int .i64 5])) (lo := BR + 1) B3 R3 rfl mf df hrf (fun b hb => by have := rm2 b hb; omega) (fun b hb => by have := rd2 b hb; omega) (by omega) (by omega))
  unfold arrC at HO
  simp only [puts] at HO
  clear Yf Y0 mf df R3 B3
  go_wp2
  refine bodyPost_ret (v := .tuple #[.agg #[.int .i64 x.id, .int .i64 x.n, .int .i64 x.s, .slice vm ms.length cvm, .int .i64 x.lost, .int .i64 x.built, .int .i64 x.seq, .int .i64 x.tail, .int .i64 x.gen, .slice vd ds.length cvd, .int .i64 x.fuse, .bool x.down, .bool x.broken], .int .i64 5]) (by simp [results, Tryz.results19, go_sem, s0, s1, s2, s3, s4, s5, s6, s7, s8, s9, s10, s11, s12]) rfl ?_
  rw [HV.out.1, HV.out.2]; exact HO.out
 rw [hbr] at k12
 have HBR := hidden hbr
 clear hbr
 by_cases hgn : 59990 <= x.gen
 case pos =>
  have HV := hidden (adopt_no (x := x) (ms := ms) (ds := ds) (c := 7) (by rw [HK.out]; rw [HLF.out.2, decide_eq_true (by omega)]; unfold mkC; rw [HBR.out, if_pos hgn]; simp) (by decide))
  clear HK
  obtain ⟨vm, vd, cvm, cvd, Yf, mf, df, hrf, r1f, r2f⟩ := A3
  have Y0 := Yf
  unfold arrC at Y0
  obtain ⟨t0, t1, t2, t3, t4, t5, t6, t7, t8, t9, t10, t11, t12⟩ := Y0.cells13
  obtain ⟨s0, s1, s2, s3, s4, s5, s6, s7, s8, s9, s10, s11, s12⟩ := R3.cells13
  have fz := R3.frozen
  have HO := hidden (arr_outC (y := x) (code := 7) (e := .returned (.tuple #[.agg (arrC x _ _), .int .i64 7])) (lo := BR + 1) B3 R3 rfl mf df hrf (fun b hb => by have := rm2 b hb; omega) (fun b hb => by have := rd2 b hb; omega) (by omega) (by omega))
  unfold arrC at HO
  simp only [puts] at HO
  clear Yf Y0 mf df R3 B3
  go_wp2
  refine bodyPost_ret (v := .tuple #[.agg #[.int .i64 x.id, .int .i64 x.n, .int .i64 x.s, .slice vm ms.length cvm, .int .i64 x.lost, .int .i64 x.built, .int .i64 x.seq, .int .i64 x.tail, .int .i64 x.gen, .slice vd ds.length cvd, .int .i64 x.fuse, .bool x.down, .bool x.broken], .int .i64 7]) (by simp [results, Tryz.results19, go_sem, s0, s1, s2, s3, s4, s5, s6, s7, s8, s9, s10, s11, s12]) rfl ?_
  rw [HV.out.1, HV.out.2]; exact HO.out
 have HV := hidden (adopt_yes (x := x) (ms := ms) (ds := ds) (by rw [HK.out]; rw [HLF.out.2, decide_eq_true (by omega)]; rw [if_pos (show (!false && true) = true from rfl)]; unfold mkC; rw [HBR.out, if_neg hgn]; simp))
 obtain ⟨m, hlm⟩ : ∃ m : Nat, x.lost = (m : Int) := ⟨x.lost.toNat, by omega⟩
 have hmm : m < ms.length := by omega
 have HIN := hidden (l12Adopt_any w3 B x ms ds fm fd A3 fc mk gc0 (by omega))
 clear A3 HK hlm
 go_wp2_with fail
 refine HIN.out.mono ?_
 rintro e w4 ⟨rfl, fm4, A4, M4⟩
 have rm4 : ∀ b ∈ fm4, W.heap.size <= b := fun b hb => by rcases M4.2 b hb with h | h; exact rm2 b h; omega
 have R4 := M4.box R3 (by omega) (fun hm => by have := rm2 _ hm; omega)
 have B4 := B3.trans (M4.belowN (N := w.heap.size) (by omega) (fun b hb => by have := rm2 b hb; omega) (by omega))
 have z4 := M4.size
 clear k0 k1 k2 k3 k4 k5 k6 k7 k8 k9 k10 k11 k12 X3 R3 B3 M4 HIN q2
 generalize dn12 (adoptA (x, ms)).1.down = cc at HV ⊢
 generalize adoptA (x, ms) = st at A4 HV
 obtain ⟨y, ns⟩ := st
 dsimp only at A4
 obtain ⟨vm, vd, cvm, cvd, Yf, mf, df, hrf, r1f, r2f⟩ := A4
 have Y0 := Yf
 unfold arrC at Y0
 obtain ⟨t0, t1, t2, t3, t4, t5, t6, t7, t8, t9, t10, t11, t12⟩ := Y0.cells13
 obtain ⟨s0, s1, s2, s3, s4, s5, s6, s7, s8, s9, s10, s11, s12⟩ := R4.cells13
 have fz := R4.frozen
 have HO := hidden (arr_outC (y := y) (code := cc) (e := .returned (.tuple #[.agg (arrC y _ _), .int .i64 cc])) (lo := BR + 1) B4 R4 rfl mf df hrf (fun b hb => by have := rm4 b hb; omega) (fun b hb => by have := rd2 b hb; omega) (by omega) (by omega))
 unfold arrC at HO
 simp only [puts] at HO
 clear Yf Y0 mf df R4 B4
 go_wp2
 refine bodyPost_ret (v := .tuple #[.agg #[.int .i64 y.id, .int .i64 y.n, .int .i64 y.s, .slice vm ns.length cvm, .int .i64 y.lost, .int .i64 y.built, .int .i64 y.seq, .int .i64 y.tail, .int .i64 y.gen, .slice vd ds.length cvd, .int .i64 y.fuse, .bool y.down, .bool y.broken], .int .i64 cc]) (by simp [results, Tryz.results19, go_sem, s0, s1, s2, s3, s4, s5, s6, s7, s8, s9, s10, s11, s12]) rfl ?_
 rw [HV.out.1, HV.out.2]; exact HO.out

theorem specBuildAll_any (w : World) (E F G : TypeId) (x : ArrN) (am ad : Option Addr) (nm cm nd cd : Nat) (ms : List MemD) (ds : List (Int × List Int)) (h0 : (tMemS E F).Rd w [.slice am nm cm] ms) (h1 : (tWrS G).Rd w [.slice ad nd cd] ds) (hw2 : wtArr ms ds <= 2000000) :
 Calls Tryz.prog 21 #[.agg #[.int .i64 x.id, .int .i64 x.n, .int .i64 x.s, .slice am nm cm, .int .i64 x.lost, .int .i64 x.built, .int .i64 x.seq, .int .i64 x.tail, .int .i64 x.gen, .slice ad nd cd, .int .i64 x.fuse, .bool x.down, .bool x.broken]] w fun e w' => ArrOutC w w' e (ballO x ms ds) (ballC x ms ds) ds := by
 obtain ⟨rfl, _⟩ := row_length h0
 obtain ⟨rfl, _⟩ := row_length h1
 have hw : wtArr ms ds <= 2097152 := by omega
 have hds : wtWrS ds <= 2000000 := by unfold wtArr at hw2; omega
 have hA := (new_below w (.cells #[.int .i64 x.id, .int .i64 x.n, .int .i64 x.s, .slice am ms.length cm, .int .i64 x.lost, .int .i64 x.built, .int .i64 x.seq, .int .i64 x.tail, .int .i64 x.gen, .slice ad ds.length cd, .int .i64 x.fuse, .bool x.down, .bool x.broken] 33)).alloc (by simp) (.cells #[.int .i64 0, .int .i64 0, .int .i64 0, .slice none 0 0, .int .i64 0, .int .i64 0, .int .i64 0, .int .i64 0, .int .i64 0, .slice none 0 0, .int .i64 0, .bool false, .bool false] 33)
 have X0 : Box ((w.alloc (.cells #[.int .i64 x.id, .int .i64 x.n, .int .i64 x.s, .slice am ms.length cm, .int .i64 x.lost, .int .i64 x.built, .int .i64 x.seq, .int .i64 x.tail, .int .i64 x.gen, .slice ad ds.length cd, .int .i64 x.fuse, .bool x.down, .bool x.broken] 33)).alloc (.cells #[.int .i64 0, .int .i64 0, .int .i64 0, .slice none 0 0, .int .i64 0, .int .i64 0, .int .i64 0, .int .i64 0, .int .i64 0, .slice none 0 0, .int .i64 0, .bool false, .bool false] 33)) w.heap.size 33 #[.int .i64 x.id, .int .i64 x.n, .int .i64 x.s, .slice am ms.length cm, .int .i64 x.lost, .int .i64 x.built, .int .i64 x.seq, .int .i64 x.tail, .int .i64 x.gen, .slice ad ds.length cd, .int .i64 x.fuse, .bool x.down, .bool x.broken] := (Box.new w _ _).alloc _
 have R0 := Box.new (w.alloc (.cells #[.int .i64 x.id, .int .i64 x.n, .int .i64 x.s, .slice am ms.length cm, .int .i64 x.lost, .int .i64 x.built, .int .i64 x.seq, .int .i64 x.tail, .int .i64 x.gen, .slice ad ds.length cd, .int .i64 x.fuse, .bool x.down, .bool x.broken] 33)) 33 #[.int .i64 0, .int .i64 0, .int .i64 0, .slice none 0 0, .int .i64 0, .int .i64 0, .int .i64 0, .int .i64 0, .int .i64 0, .slice none 0 0, .int .i64 0, .bool false, .bool false]
 rw [World.size_alloc] at R0
 have zX := X0.lt
 have zR := R0.lt
 have r0 := h0.below hA
 have r1 := h1.below hA
 have hzW : ((w.alloc (.cells #[.int .i64 x.id, .int .i64 x.n, .int .i64 x.s, .slice am ms.length cm, .int .i64 x.lost, .int .i64 x.built, .int .i64 x.seq, .int .i64 x.tail, .int .i64 x.gen, .slice ad ds.length cd, .int .i64 x.fuse, .bool x.down, .bool x.broken] 33)).alloc (.cells #[.int .i64 0, .int .i64 0, .int .i64 0, .slice none 0 0, .int .i64 0, .int .i64 0, .int .i64 0, .int .i64 0, .int .i64 0, .slice none 0 0, .int .i64 0, .bool false, .bool false] 33)).heap.size = w.heap.size + 1 + 1 := by simp
 obtain ⟨k0, k1, k2, k3, k4, k5, k6, k7, k8, k9, k10, k11, k12⟩ := X0.cells13
 go_enter Tryz.func21, Tryz.ntmps21
 go_wp2_with fail
 generalize (w.alloc (.cells #[.int .i64 x.id, .int .i64 x.n, .int .i64 x.s, .slice am ms.length cm, .int .i64 x.lost, .int .i64 x.built, .int .i64 x.seq, .int .i64 x.tail, .int .i64 x.gen, .slice ad ds.length cd, .int .i64 x.fuse, .bool x.down, .bool x.broken] 33)).alloc (.cells #[.int .i64 0, .int .i64 0, .int .i64 0, .slice none 0 0, .int .i64 0, .int .i64 0, .int .i64 0, .int .i64 0, .int .i64 0, .slice none 0 0, .int .i64 0, .bool false, .bool false] 33) = W at hA X0 R0 zX zR r0 r1 hzW k0 k1 k2 k3 k4 k5 k6 k7 k8 k9 k10 k11 k12 ⊢
 obtain ⟨BR, hBR⟩ : ∃ BR, w.heap.size + 1 = BR := ⟨_, rfl⟩
 rw [hBR] at R0 zR hzW ⊢
 have q1 : w.heap.size + 1 <= BR /\ BR + 1 <= W.heap.size /\ W.heap.size <= BR + 1 := by omega
 clear hBR hzW
 have HSP := hidden (specSpare_any W E F G x _ _ _ _ _ _ ms ds r0 r1 hw)
 have HBB := hidden (ball_bad (ds := ds) (q := (x, ms)))
 have HBG := hidden (ball_good (ds := ds) (q := (x, ms)))
 have HKP := hidden (spareT_keeps (q := (x, ms)) hds hw)
 have HVO : Hid (ballO x ms ds = (ballT ds (x, ms)).1 /\ ballC x ms ds = (ballT ds (x, ms)).2) := ⟨rfl, rfl⟩
 rw [show spareO x ms ds = (spareT ds (x, ms)).1 from rfl, show spareC x ms ds = (spareT ds (x, ms)).2 from rfl] at HSP
 generalize spareT ds (x, ms) = p at HSP HBB HBG HKP
 generalize ballT ds (x, ms) = t at HBB HBG HVO
 obtain ⟨⟨y, ns⟩, c⟩ := p
 dsimp only at HSP HBB HBG HKP
 refine HSP.out.mono ?_
 rintro e w1 ⟨bm, bd, cm1, cd1, rfl, ⟨fm, fd, mm, dd, hr, rm, rd⟩, b1⟩
 dsimp only at mm rm
 have R1 := R0.below b1 zR
 have B1 := Below.andThen hA b1
 have z1 := b1.size
 have bn := new_below w1 (.cells #[.int .i64 y.id, .int .i64 y.n, .int .i64 y.s, .slice bm ns.length cm1, .int .i64 y.lost, .int .i64 y.built, .int .i64 y.seq, .int .i64 y.tail, .int .i64 y.gen, .slice bd ds.length cd1, .int .i64 y.fuse, .bool y.down, .bool y.broken] 33)
 have Y := Box.new w1 33 #[.int .i64 y.id, .int .i64 y.n, .int .i64 y.s, .slice bm ns.length cm1, .int .i64 y.lost, .int .i64 y.built, .int .i64 y.seq, .int .i64 y.tail, .int .i64 y.gen, .slice bd ds.length cd1, .int .i64 y.fuse, .bool y.down, .bool y.broken]
 have zY := Y.lt
 have R2 := R1.below bn (by omega)
 have B2 := Below.andThen B1 bn
 have M2 := mm.below bn
 have D2 := dd.below bn
 have rm2 : ∀ b ∈ fm, BR < b /\ b ≠ w1.heap.size := fun b hb => by have := rm b hb; omega
 have rd2 : ∀ b ∈ fd, BR < b /\ b ≠ w1.heap.size := fun b hb => by have := rd b hb; omega
 clear k0 k1 k2 k3 k4 k5 k6 k7 k8 k9 k10 k11 k12 X0 R0 R1 B1 b1 bn hA r0 r1 mm dd rm rd HSP
 unfold arrC
 dsimp only
 by_cases hc : c = 0
 case neg =>
  have e0 : (c != 0) = true := by simpa using hc
  have HV := hidden (HBB.out hc)
  obtain ⟨t0, t1, t2, t3, t4, t5, t6, t7, t8, t9, t10, t11, t12⟩ := Y.cells13
  obtain ⟨s0, s1, s2, s3, s4, s5, s6, s7, s8, s9, s10, s11, s12⟩ := R2.cells13
  have fz := R2.frozen
  have HO := hidden (arr_outC (y := y) (code := c) (e := .returned (.tuple #[.agg (arrC y _ _), .int .i64 c])) (lo := BR + 1) B2 R2 rfl M2 D2 hr (fun b hb => by have := rm2 b hb; omega) (fun b hb => by have := rd2 b hb; omega) (by omega) (by omega))
  unfold arrC at HO
  simp only [puts] at HO
  clear hc Y M2 D2 R2 B2
  go_wp2
  refine bodyPost_ret (v := .tuple #[.agg #[.int .i64 y.id, .int .i64 y.n, .int .i64 y.s, .slice bm ns.length cm1, .int .i64 y.lost, .int .i64 y.built, .int .i64 y.seq, .int .i64 y.tail, .int .i64 y.gen, .slice bd ds.length cd1, .int .i64 y.fuse, .bool y.down, .bool y.broken], .int .i64 c]) (by simp [results, Tryz.results21, go_sem, s0, s1, s2, s3, s4, s5, s6, s7, s8, s9, s10, s11, s12]) rfl ?_
  rw [HVO.out.1, HVO.out.2, HV.out]; exact HO.out
 have e0 : (c != 0) = false := by simpa using hc
 have HST : Hid (BallSt w BR w1.heap.size ds t (y.s - y.built).toNat (w1.alloc (.cells #[.int .i64 y.id, .int .i64 y.n, .int .i64 y.s, .slice bm ns.length cm1, .int .i64 y.lost, .int .i64 y.built, .int .i64 y.seq, .int .i64 y.tail, .int .i64 y.gen, .slice bd ds.length cd1, .int .i64 y.fuse, .bool y.down, .bool y.broken] 33))) := ⟨(y, ns), bm, bd, cm1, cd1, fm, fd, Nat.le_refl _, HBG.out hc, HKP.out, Y, M2, D2, hr, rm2, rd2, R2, B2⟩
 have zO : BR < w1.heap.size /\ w1.heap.size < (w1.alloc (.cells #[.int .i64 y.id, .int .i64 y.n, .int .i64 y.s, .slice bm ns.length cm1, .int .i64 y.lost, .int .i64 y.built, .int .i64 y.seq, .int .i64 y.tail, .int .i64 y.gen, .slice bd ds.length cd1, .int .i64 y.fuse, .bool y.down, .bool y.broken] 33)).heap.size := by omega
 obtain ⟨t0, t1, t2, t3, t4, t5, t6, t7, t8, t9, t10, t11, t12⟩ := Y.cells13
 clear hc HBB HBG HKP M2 D2 R2 B2 rm2 rd2 Y
 go_wp2
 generalize w1.alloc (.cells #[.int .i64 y.id, .int .i64 y.n, .int .i64 y.s, .slice bm ns.length cm1, .int .i64 y.lost, .int .i64 y.built, .int .i64 y.seq, .int .i64 y.tail, .int .i64 y.gen, .slice bd ds.length cd1, .int .i64 y.fuse, .bool y.down, .bool y.broken] 33) = w2 at HST zO zY ⊢
 obtain ⟨BO, hBO⟩ : ∃ BO, w1.heap.size = BO := ⟨_, rfl⟩
 rw [hBO] at HST zO ⊢
 clear hBO t0 t1 t2 t3 t4 t5 t6 t7 t8 t9 t10 t11 t12 zY
 go_loopg [7] (y.s - y.built).toNat (fun kx _ wr => BallSt w BR BO ds t kx wr)
 case atStart => exact HST.out
 obtain ⟨⟨z, os⟩, bm2, bd2, cm2, cd2, fm2, fd2, hk, hrest, hwq, Y, M2, D2, hr2, rm2, rd2, R2, B2⟩ := hrel
 dsimp only at hk hwq Y M2
 have zBO := Y.lt
 unfold arrC at Y
 obtain ⟨t0, t1, t2, t3, t4, t5, t6, t7, t8, t9, t10, t11, t12⟩ := Y.cells13
 have HM := hidden M2.rd
 have HD := hidden D2.rd
 clear M2 D2 hr2 rm2 rd2
 by_cases hlt : z.built < z.s
 . have HSB := hidden (specBuildStep_any wr _ _ _ z _ _ _ _ _ _ os ds HM.out HD.out hwq)
   have HRB := hidden (rest_bad (ds := ds) (q := (z, os)) hlt)
   have HRG := hidden (rest_good (ds := ds) (q := (z, os)) hlt)
   have HKP := hidden (stepT_keeps (q := (z, os)) hds hwq)
   have HNM := hidden (step_good_num (ds := ds) (q := (z, os)))
   have HRE := hidden hrest
   rw [show bstepO z os ds = (stepT ds (z, os)).1 from rfl, show bstepC z os ds = (stepT ds (z, os)).2 from rfl] at HSB
   generalize stepT ds (z, os) = p at HSB HRB HRG HKP HNM
   obtain ⟨⟨y5, n5⟩, c5⟩ := p
   dsimp only at HSB HRB HRG HKP HNM
   have hk0 : 0 < (z.s - z.built).toNat := by omega
   clear hrest HM HD
   go_wp2_with fail
   refine HSB.out.mono ?_
   rintro e w3 ⟨bm5, bd5, cm5, cd5, rfl, ⟨fm5, fd5, mm5, dd5, hr5, rm5, rd5⟩, b5⟩
   dsimp only at mm5 rm5
   have z5 := b5.size
   have bn5 := new_below w3 (.cells #[.int .i64 y5.id, .int .i64 y5.n, .int .i64 y5.s, .slice bm5 n5.length cm5, .int .i64 y5.lost, .int .i64 y5.built, .int .i64 y5.seq, .int .i64 y5.tail, .int .i64 y5.gen, .slice bd5 ds.length cd5, .int .i64 y5.fuse, .bool y5.down, .bool y5.broken] 33)
   have zn5 : (w3.alloc (.cells #[.int .i64 y5.id, .int .i64 y5.n, .int .i64 y5.s, .slice bm5 n5.length cm5, .int .i64 y5.lost, .int .i64 y5.built, .int .i64 y5.seq, .int .i64 y5.tail, .int .i64 y5.gen, .slice bd5 ds.length cd5, .int .i64 y5.fuse, .bool y5.down, .bool y5.broken] 33)).heap.size = w3.heap.size + 1 := by simp
   have Y5 := Box.new w3 33 #[.int .i64 y5.id, .int .i64 y5.n, .int .i64 y5.s, .slice bm5 n5.length cm5, .int .i64 y5.lost, .int .i64 y5.built, .int .i64 y5.seq, .int .i64 y5.tail, .int .i64 y5.gen, .slice bd5 ds.length cd5, .int .i64 y5.fuse, .bool y5.down, .bool y5.broken]
   have b57 := Below.andThen b5 bn5
   have YO := Y.below b57 zBO
   have R5 := R2.below b57 R2.lt
   have B5 := Below.andThen B2 b57
   have zR2 := R2.lt
   have hbt := puts_but BO [(0, .int .i64 y5.id), (1, .int .i64 y5.n), (2, .int .i64 y5.s), (3, .slice bm5 n5.length cm5), (4, .int .i64 y5.lost), (5, .int .i64 y5.built), (6, .int .i64 y5.seq), (7, .int .i64 y5.tail), (8, .int .i64 y5.gen), (9, .slice bd5 ds.length cd5), (10, .int .i64 y5.fuse), (11, .bool y5.down), (12, .bool y5.broken)] (w3.alloc (.cells #[.int .i64 y5.id, .int .i64 y5.n, .int .i64 y5.s, .slice bm5 n5.length cm5, .int .i64 y5.lost, .int .i64 y5.built, .int .i64 y5.seq, .int .i64 y5.tail, .int .i64 y5.gen, .slice bd5 ds.length cd5, .int .i64 y5.fuse, .bool y5.down, .bool y5.broken] 33))
   have X6 := puts_arr YO (.int .i64 y5.id) (.int .i64 y5.n) (.int .i64 y5.s) (.slice bm5 n5.length cm5) (.int .i64 y5.lost) (.int .i64 y5.built) (.int .i64 y5.seq) (.int .i64 y5.tail) (.int .i64 y5.gen) (.slice bd5 ds.length cd5) (.int .i64 y5.fuse) (.bool y5.down) (.bool y5.broken)
   have M6 := (mm5.below bn5).but hbt (fun b hb => by have := rm5 b hb; omega)
   have D6 := (dd5.below bn5).but hbt (fun b hb => by have := rd5 b hb; omega)
   have R6 := R5.kept (hbt.block BR (by omega) (by omega))
   have B6 := Below.andBut B5 hbt (by omega)
   have rm6 : ∀ b ∈ fm5, BR < b /\ b ≠ BO := fun b hb => by have := rm5 b hb; omega
   have rd6 : ∀ b ∈ fd5, BR < b /\ b ≠ BO := fun b hb => by have := rd5 b hb; omega
   obtain ⟨u0, u1, u2, u3, u4, u5, u6, u7, u8, u9, u10, u11, u12⟩ := Y5.cells13
   obtain ⟨v0, v1, v2, v3, v4, v5, v6, v7, v8, v9, v10, v11, v12⟩ := YO.cells13
   have fzO := YO.frozen
   simp only [puts] at X6 M6 D6 R6 B6
   unfold arrC
   dsimp only
   clear t0 t1 t2 t3 t4 t5 t6 t7 t8 t9 t10 t11 t12 Y R2 B2 b5 bn5 b57 R5 B5 hbt mm5 dd5 HSB YO Y5
   go_upto_region 7 with fail
   generalize (((((((((((((w3.alloc (.cells #[.int .i64 y5.id, .int .i64 y5.n, .int .i64 y5.s, .slice bm5 n5.length cm5, .int .i64 y5.lost, .int .i64 y5.built, .int .i64 y5.seq, .int .i64 y5.tail, .int .i64 y5.gen, .slice bd5 ds.length cd5, .int .i64 y5.fuse, .bool y5.down, .bool y5.broken] 33)).setCell ⟨BO, 0, none⟩ (.int .i64 y5.id)).setCell ⟨BO, 1, none⟩ (.int .i64 y5.n)).setCell ⟨BO, 2, none⟩ (.int .i64 y5.s)).setCell ⟨BO, 3, none⟩ (.slice bm5 n5.length cm5)).setCell ⟨BO, 4, none⟩ (.int .i64 y5.lost)).setCell ⟨BO, 5, none⟩ (.int .i64 y5.built)).setCell ⟨BO, 6, none⟩ (.int .i64 y5.seq)).setCell ⟨BO, 7, none⟩ (.int .i64 y5.tail)).setCell ⟨BO, 8, none⟩ (.int .i64 y5.gen)).setCell ⟨BO, 9, none⟩ (.slice bd5 ds.length cd5)).setCell ⟨BO, 10, none⟩ (.int .i64 y5.fuse)).setCell ⟨BO, 11, none⟩ (.bool y5.down)).setCell ⟨BO, 12, none⟩ (.bool y5.broken) = w6 at X6 M6 D6 R6 B6 ⊢
   clear u0 u1 u2 u3 u4 u5 u6 u7 u8 u9 u10 u11 u12 v0 v1 v2 v3 v4 v5 v6 v7 v8 v9 v10 v11 v12 fzO
   by_cases hc5 : c5 = 0
   . have e5 : (c5 != 0) = false := by simpa using hc5
     have hn5 := HNM.out hc5
     have HS5 : Hid (BallSt w BR BO ds t ((z.s - z.built).toNat - 1) w6) := ⟨(y5, n5), bm5, bd5, cm5, cd5, fm5, fd5, by dsimp only; rw [hn5.1, hn5.2]; omega, (HRG.out hc5).trans HRE.out, HKP.out, X6, M6, D6, hr5, rm6, rd6, R6, B6⟩
     clear hc5 hn5 X6 M6 D6 R6 B6 HRB HRG HKP HNM
     go_wp2
     go_roundg ((z.s - z.built).toNat - 1)
     case measure => omega
     case rel => exact HS5.out
   have e5 : (c5 != 0) = true := by simpa using hc5
   have HV := hidden (HRE.out.symm.trans (HRB.out hc5))
   obtain ⟨u0, u1, u2, u3, u4, u5, u6, u7, u8, u9, u10, u11, u12⟩ := X6.cells13
   obtain ⟨s0, s1, s2, s3, s4, s5, s6, s7, s8, s9, s10, s11, s12⟩ := R6.cells13
   have fz := R6.frozen
   have HO := hidden (arr_outC (y := y5) (code := c5) (e := .returned (.tuple #[.agg (arrC y5 _ _), .int .i64 c5])) (lo := BR + 1) B6 R6 rfl M6 D6 hr5 (fun b hb => by have := rm6 b hb; omega) (fun b hb => by have := rd6 b hb; omega) (by omega) (by omega))
   unfold arrC at HO
   simp only [puts] at HO
   clear hc5 X6 M6 D6 R6 B6 HRB HRG HKP HNM
   go_wp2
   refine bodyPost_ret (v := .tuple #[.agg #[.int .i64 y5.id, .int .i64 y5.n, .int .i64 y5.s, .slice bm5 n5.length cm5, .int .i64 y5.lost, .int .i64 y5.built, .int .i64 y5.seq, .int .i64 y5.tail, .int .i64 y5.gen, .slice bd5 ds.length cd5, .int .i64 y5.fuse, .bool y5.down, .bool y5.broken], .int .i64 c5]) (by simp [results, Tryz.results21, go_sem, s0, s1, s2, s3, s4, s5, s6, s7, s8, s9, s10, s11, s12]) rfl ?_
   rw [HVO.out.1, HVO.out.2, HV.out]; exact HO.out
 have HAD := hidden (specAdopt_any wr _ _ _ z _ _ _ _ _ _ os ds HM.out HD.out hwq)
 have hre : adoptT ds (z, os) = t := (rest_end (q := (z, os)) hlt).symm.trans hrest
 rw [show adoptO z os ds = (adoptT ds (z, os)).1 from rfl, show adoptC z os ds = (adoptT ds (z, os)).2 from rfl, hre] at HAD
 obtain ⟨⟨y5, n5⟩, c5⟩ := t
 dsimp only at HAD HVO
 clear hrest hre HM HD hk HST
 go_wp2_with fail
 refine HAD.out.mono ?_
 rintro e w3 ⟨bm5, bd5, cm5, cd5, rfl, ⟨fm5, fd5, mm5, dd5, hr5, rm5, rd5⟩, b5⟩
 dsimp only at mm5 rm5
 have z5 := b5.size
 have zR2 := R2.lt
 have R5 := R2.below b5 R2.lt
 have B5 := Below.andThen B2 b5
 obtain ⟨s0, s1, s2, s3, s4, s5, s6, s7, s8, s9, s10, s11, s12⟩ := R5.cells13
 have fz := R5.frozen
 have HO := hidden (arr_outC (y := y5) (code := c5) (e := .returned (.tuple #[.agg (arrC y5 _ _), .int .i64 c5])) (lo := BR + 1) B5 R5 rfl mm5 dd5 hr5 (fun b hb => by have := rm5 b hb; omega) (fun b hb => by have := rd5 b hb; omega) (by omega) (by omega))
 unfold arrC at HO
 simp only [puts] at HO
 unfold arrC
 dsimp only
 clear t0 t1 t2 t3 t4 t5 t6 t7 t8 t9 t10 t11 t12 Y R2 B2 b5 R5 B5 mm5 dd5 HAD
 go_wp2
 refine bodyPost_ret (v := .tuple #[.agg #[.int .i64 y5.id, .int .i64 y5.n, .int .i64 y5.s, .slice bm5 n5.length cm5, .int .i64 y5.lost, .int .i64 y5.built, .int .i64 y5.seq, .int .i64 y5.tail, .int .i64 y5.gen, .slice bd5 ds.length cd5, .int .i64 y5.fuse, .bool y5.down, .bool y5.broken], .int .i64 c5]) (by simp [results, Tryz.results21, go_sem, s0, s1, s2, s3, s4, s5, s6, s7, s8, s9, s10, s11, s12]) rfl ?_
 rw [HVO.out.1, HVO.out.2]; exact HO.out

theorem heldMemS_any (w : World) (E F : TypeId) (a : Option Addr) (n cap : Nat) (d : List MemD) (k0 : Int) (h : (tMemS E F).Rd w [.slice a n cap] (markMS k0 d)) (hw : wtMemS d <= 2097152) (hk : 0 <= k0) (hk' : k0 + (wtMemS d : Int) <= 2097153) :
 Calls Tryz.prog 43 #[.slice a n cap, .int .i64 k0] w fun e w' => e = .returned (.int .i64 (k0 + (cntMS d : Int))) /\ Same w w' := by
 obtain ⟨hl, hc, hm⟩ := row_length h
 have hmL : (markMS k0 d).length = d.length := markL_length _ _ _ _
 rw [hmL] at hl
 have hnn : n <= 2097152 := by unfold wtMemS at hw; omega
 have hwt := cntMS_le d
 go_enter Tryz.func43, Tryz.ntmps43
 go_wp2
 go_loopw [1, 5] (fun kk i wr => ∃ j : Nat, j <= n /\ i = .int .i64 j /\ kk = .int .i64 (k0 + (sumL ((d.map cntMD).take j) : Int)) /\ Same w wr) (fun _ i _ => n - (intOf i).toNat)
 case atStart => exact ⟨0, Nat.zero_le _, rfl, by simp [sumL], Same.refl _⟩
 obtain ⟨j, hj, rfl, rfl, hs⟩ := hrel
 by_cases hjn : j < n
 . have hdj : d[j]? = some (d[j]'(by omega)) := List.getElem?_eq_getElem (by omega)
   generalize d[j]'(by omega) = x at hdj
   have hst := sumL_take (l := d.map cntMD) (j := j) (x := cntMD x) (by rw [List.getElem?_map, hdj]; rfl)
   have hle := sumL_le (l := d.map cntMD) (j + 1)
   have hin := Nat.le_trans (inner_leM hdj) hw
   unfold cntMS at hwt
   have hmj := markL_at (c := cntMD) (mk := markMD) (k := k0) hdj
   have HW := hidden hst
   generalize sumL ((d.map cntMD).take j) = S at hst hmj HW
   rcases quads_at rfl h with h0' | ⟨b, off, rfl, hbl, hcs⟩
   . omega
   obtain ⟨v0, v1, v2, v3, hv0, hv1, hv2, hv3, hrv⟩ := hcs j _ hmj
   obtain ⟨ss, cs, f, bs⟩ := x
   obtain ⟨a0, c0, a1, c1, a3, c3, ss', cs', f', bs', hx, rfl, rfl, rfl, rfl, r0, r1, r3⟩ := mem_at hrv
   have hcx : cntMD (ss, cs, f, bs) = cntSS ss + cntWS cs + 1 + bs.length := rfl
   have hin0 : wtIntSS ss <= 2097152 := by unfold wtMem at hin; simp only at hin; omega
   have hin1 : wtWrS cs <= 2097152 := by unfold wtMem at hin; simp only at hin; omega
   have hin3 : bs.length <= 2097152 := by unfold wtMem at hin; simp only at hin; omega
   have hcw := Nat.le_of_eq (cntWS_wt cs)
   have hcw' := Nat.le_of_eq (cntWS_wt cs).symm
   have hS : k0 + (S : Int) + (cntSS ss : Int) + (cntWS cs : Int) + 1 + (bs.length : Int) <= 2097153 := by omega
   unfold markMD at hx
   simp only [Prod.mk.injEq] at hx
   obtain ⟨e0, e1, e2, e3⟩ := hx
   subst e0
   subst e1
   subst e3
   rw [marks_length] at hv3 r3
   have w0 := (hs.cell _).trans hv0
   have w1 := (hs.cell _).trans hv1
   have w2 := (hs.cell _).trans hv2
   have w3 := (hs.cell _).trans hv3
   have HE2 := hidden e2
   have i1 : (0 : Int) <= (j : Int) := by omega
   have i2 : (j : Int) < (n : Int) := by omega
   have R0 := r0.same hs
   have R1 := r1.same hs
   have R3 := r3.same hs
   clear hcs hst hdj hv0 hv1 hv2 hv3 hrv hmj e2 r0 r1 r3
   go_wp2_with fail
   refine (heldIntSS_any _ _ _ _ ss _ R0 hin0 (by omega) (by omega)).mono ?_
   rintro e u1 ⟨rfl, s1⟩
   have w1' := (s1.cell _).trans w1
   have w2' := (s1.cell _).trans w2
   have w3' := (s1.cell _).trans w3
   have R1' := R1.same s1
   have R3' := R3.same s1
   clear w0 w1 w2 w3 R0 R1 R3
   have p1 : ¬ k0 + (S : Int) + (cntSS ss : Int) < 0 := by omega
   go_wp2_with fail
   refine (heldWrS_any _ E _ _ _ cs _ R1' hin1 (by omega) (by omega)).mono ?_
   rintro e u2 ⟨rfl, s2⟩
   have w2 := (s2.cell _).trans w2'
   have w3 := (s2.cell _).trans w3'
   have R3 := ints_rd (R3'.same s2)
   clear w1' w2' w3' R1' R3'
   have hK : 0 <= k0 + (S : Int) + (cntSS ss : Int) + (cntWS cs : Int) /\ k0 + (S : Int) + (cntSS ss : Int) + (cntWS cs : Int) <= 2097153 := by omega
   have HKK : Hid (k0 + (S : Int) + (cntSS ss : Int) + (cntWS cs : Int) + 1 + (bs.length : Int) = k0 + ((S + cntMD (ss, cs, f, bs) : Nat) : Int)) := by unfold Hid; rw [hcx]; omega
   generalize hKd : k0 + (S : Int) + (cntSS ss : Int) + (cntWS cs : Int) = K at hK HKK HE2 R3 hS ⊢
   clear hKd
   have p2 : ¬ K < 0 := by omega
   have t1 : K.tmod 3 = K % 3 := Int.tmod_eq_emod_of_nonneg hK.1
   have t2 : IntKind.i64.wrap (K % 3) = K % 3 := IntWalk.i64_in _ (by omega)
   have t3 : IntKind.i64.wrap (K + 1) = K + 1 := IntWalk.i64_in _ (by omega)
   have p3 : ¬ K + 1 + (bs.length : Int) < 0 := by omega
   have t4 : f' = (K % 3 == 0) := by rw [← HE2.out]; rfl
   have t5 : ((K % 3 == 0) != (K % 3 == 0)) = false := by simp
   have t6 : ((K % 3 == 0) == (K % 3 == 0)) = true := by simp
   subst t4
   clear HE2
   go_wp2_with fail
   refine (heldIntS_any _ _ _ _ _ R3.1 (by omega) (by omega) (by omega)).mono ?_
   rintro e u3 ⟨rfl, s3⟩
   have HS := hidden (((hs.trans s1).trans s2).trans s3)
   clear s1 s2 s3 hs R3 w2 w3
   go_wp2
   go_roundw
   case rel => exact ⟨j + 1, by omega, by go_num, by rw [HW.out, HKK.out], HS.out⟩
   case measure => simp [intOf]; omega
 have ej : j = n := by omega
 subst ej
 have ht : (d.map cntMD).take j = d.map cntMD := List.take_of_length_le (by simp; omega)
 have HT : Hid (k0 + (sumL ((d.map cntMD).take j) : Int) = k0 + (cntMS d : Int)) := by unfold Hid cntMS; rw [ht]
 clear ht
 go_wp2
 go_ret
 exact ⟨ret_int HT.out, hs⟩

theorem heldArr_any (w : World) (E F G : TypeId) (x : ArrN) (bm bd : Option Addr) (nm cm nd cd : Nat) (ms : List MemD) (ds : List (Int × List Int)) (h0 : (tMemS E F).Rd w [.slice bm nm cm] (markMS 1 ms)) (h1 : (tWrS G).Rd w [.slice bd nd cd] (markW (1 + (cntMS ms : Int)) ds)) (hw : wtArr ms ds <= 2097152) :
 Calls Tryz.prog 14 #[.agg #[.int .i64 x.id, .int .i64 x.n, .int .i64 x.s, .slice bm nm cm, .int .i64 x.lost, .int .i64 x.built, .int .i64 x.seq, .int .i64 x.tail, .int .i64 x.gen, .slice bd nd cd, .int .i64 x.fuse, .bool x.down, .bool x.broken], .int .i64 1] w fun e w' => e = .returned (.int .i64 (1 + (cntMS ms : Int) + (cntWS ds : Int))) /\ Below w.heap.size w w' := by
 have hw0 : wtMemS ms <= 2097152 := by unfold wtArr at hw; omega
 have hw1 : wtWrS ds <= 2097152 := by unfold wtArr at hw; omega
 have hws : wtMemS ms + wtWrS ds <= 2097152 := by unfold wtArr at hw; omega
 have hcm := cntMS_le ms
 have hA := new_below w (.cells #[.int .i64 x.id, .int .i64 x.n, .int .i64 x.s, .slice bm nm cm, .int .i64 x.lost, .int .i64 x.built, .int .i64 x.seq, .int .i64 x.tail, .int .i64 x.gen, .slice bd nd cd, .int .i64 x.fuse, .bool x.down, .bool x.broken] 33)
 have X := Box.new w 33 #[.int .i64 x.id, .int .i64 x.n, .int .i64 x.s, .slice bm nm cm, .int .i64 x.lost, .int .i64 x.built, .int .i64 x.seq, .int .i64 x.tail, .int .i64 x.gen, .slice bd nd cd, .int .i64 x.fuse, .bool x.down, .bool x.broken]
 obtain ⟨k0, k1, k2, k3, k4, k5, k6, k7, k8, k9, k10, k11, k12⟩ := X.cells13
 have r0 := h0.below hA
 have r1 := h1.below hA
 go_enter Tryz.func14, Tryz.ntmps14
 go_wp2_with fail
 generalize w.alloc (.cells #[.int .i64 x.id, .int .i64 x.n, .int .i64 x.s, .slice bm nm cm, .int .i64 x.lost, .int .i64 x.built, .int .i64 x.seq, .int .i64 x.tail, .int .i64 x.gen, .slice bd nd cd, .int .i64 x.fuse, .bool x.down, .bool x.broken] 33) = W at hA X r0 r1 k0 k1 k2 k3 k4 k5 k6 k7 k8 k9 k10 k11 k12 ⊢
 refine (heldMemS_any _ E F _ _ _ ms _ r0 hw0 (by omega) (by omega)).mono ?_
 rintro e w1 ⟨rfl, s1⟩
 have X1 := X.same s1
 have r2 := r1.same s1
 have B1 := Below.andSame hA s1
 clear k0 k1 k2 k3 k4 k5 k6 k7 k8 k9 k10 k11 k12 X r0 r1 s1 hA
 obtain ⟨k0, k1, k2, k3, k4, k5, k6, k7, k8, k9, k10, k11, k12⟩ := X1.cells13
 have p1 : ¬ 1 + (cntMS ms : Int) < 0 := by omega
 go_wp2_with fail
 refine (heldEntS_any _ G _ _ _ ds _ r2 hw1 (by omega) (by omega)).mono ?_
 rintro e w2 ⟨rfl, s2⟩
 have B2 := Below.andSame B1 s2
 have p2 : ¬ 1 + (cntMS ms : Int) + (cntWS ds : Int) < 0 := by omega
 clear k0 k1 k2 k3 k4 k5 k6 k7 k8 k9 k10 k11 k12 X1 r2 s2 B1
 go_wp2
 go_ret
 exact ⟨rfl, B2⟩

theorem cntA_le {ms : List MemD} {ds : List (Int × List Int)} (h : wtArr ms ds <= 1048576) : cntMS ms + cntWS ds <= 1048576 := by
 have h1 := cntMS_le ms
 have h2 := Nat.le_of_eq (cntWS_wt ds)
 unfold wtArr at h
 omega

theorem fnExactBuildAll_walk (x : ArrN) (am ad : Option Addr) (nm cm nd cd : Nat) (ms : List MemD) (ds : List (Int × List Int)) (w : World) (h0 : (tMemS 140 78).Rd w [.slice am nm cm] ms) (h1 : (tWrS 81).Rd w [.slice ad nd cd] ds) :
 Calls Tryz.prog 7 #[.agg #[.int .i64 x.id, .int .i64 x.n, .int .i64 x.s, .slice am nm cm, .int .i64 x.lost, .int .i64 x.built, .int .i64 x.seq, .int .i64 x.tail, .int .i64 x.gen, .slice ad nd cd, .int .i64 x.fuse, .bool x.down, .bool x.broken]] w fun e w' => e = .returned (.bool true) /\ Below w.heap.size w w' := by
 have hA := new_below w (.cells #[.int .i64 x.id, .int .i64 x.n, .int .i64 x.s, .slice am nm cm, .int .i64 x.lost, .int .i64 x.built, .int .i64 x.seq, .int .i64 x.tail, .int .i64 x.gen, .slice ad nd cd, .int .i64 x.fuse, .bool x.down, .bool x.broken] 27)
 have xm := Box.new w 27 #[.int .i64 x.id, .int .i64 x.n, .int .i64 x.s, .slice am nm cm, .int .i64 x.lost, .int .i64 x.built, .int .i64 x.seq, .int .i64 x.tail, .int .i64 x.gen, .slice ad nd cd, .int .i64 x.fuse, .bool x.down, .bool x.broken]
 have z0 := xm.lt
 have B0 := hidden hA
 have BR0 := hidden xm
 obtain ⟨l0, l1, l2, l3, l4, l5, l6, l7, l8, l9, l10, l11, l12⟩ := xm.cells13
 go_enter Tryz.func7, Tryz.ntmps7
 go_wp2_with fail
 generalize w.alloc (.cells #[.int .i64 x.id, .int .i64 x.n, .int .i64 x.s, .slice am nm cm, .int .i64 x.lost, .int .i64 x.built, .int .i64 x.seq, .int .i64 x.tail, .int .i64 x.gen, .slice ad nd cd, .int .i64 x.fuse, .bool x.down, .bool x.broken] 27) = w0 at hA xm z0 B0 BR0 l0 l1 l2 l3 l4 l5 l6 l7 l8 l9 l10 l11 l12 ⊢
 clear hA xm
 refine (szArr_any _ 140 78 81 x _ _ _ _ _ _ ms ds _ (h0.below B0.out) (h1.below B0.out) (by omega) (by omega)).mono ?_
 rintro e w1 ⟨rfl, hb1⟩
 clear l0 l1 l2 l3 l4 l5 l6 l7 l8 l9 l10 l11 l12
 have B1 := hidden (Below.andThen B0.out hb1)
 have BR1 := hidden (BR0.out.below hb1 (by omega))
 have z1 := hb1.size
 clear B0 BR0 hb1
 by_cases hwt : (wtArr ms ds : Int) <= 1048576
 . have hq := leftOf_pos hwt
   have hwt' : wtArr ms ds <= 1048576 := by omega
   have hwt2 : wtArr ms ds <= 2097152 := by omega
   have hwq0 := ballO_wt (x := x) hwt'
   obtain ⟨y, ns, hq0⟩ : ∃ (y : ArrN) (ns : List MemD), ballO x ms ds = (y, ns) := ⟨_, _, rfl⟩
   have HQ := hidden hq0
   have hwq : wtArr ns ds <= 2097152 := by rw [show ns = (y, ns).2 from rfl, ← hq0]; exact hwq0
   obtain ⟨sc, hsc⟩ : ∃ sc, ballC x ms ds = sc := ⟨_, rfl⟩
   have HQC := hidden hsc
   clear hq0 hwq0 hsc
   have hne : (sc != sc) = false := by simp
   have hwt3 : wtArr ms ds <= 2000000 := by omega
   have hcle := cntA_le hwt'
   obtain ⟨l0, l1, l2, l3, l4, l5, l6, l7, l8, l9, l10, l11, l12⟩ := BR1.out.cells13
   go_wp2_with fail
   refine (toArr_any _ 140 78 81 x _ _ _ _ _ _ ms ds (h0.below B1.out) (h1.below B1.out) hwt').mono ?_
   rintro e w2 ⟨bm2, bd2, rfl, om2, od2, ya2, yb2, hb2⟩
   clear l0 l1 l2 l3 l4 l5 l6 l7 l8 l9 l10 l11 l12
   have B2 := hidden (Below.andThen B1.out hb2)
   have BR2 := hidden (BR1.out.below hb2 (by omega))
   have z2 := hb2.size
   clear B1 BR1 hb2
   have Cm2 := hidden om2
   clear om2
   have Cd2 := hidden od2
   clear od2
   go_wp2_with fail
   refine (specBuildAll_any _ 109 51 82 x _ _ _ _ _ _ ms ds Cm2.out.rd Cd2.out.rd hwt3 ).mono ?_
   rintro e w3 ho3
   rw [HQ.out, HQC.out] at ho3
   obtain ⟨a3, d3, c3, b3, rfl, o3, hb3⟩ := ho3
   dsimp only at o3
   unfold arrC
   have B3 := hidden (Below.andThen B2.out hb3)
   have BR3 := hidden (BR2.out.below hb3 (by omega))
   have Cm3 := hidden (Cm2.out.below hb3)
   have Cd3 := hidden (Cd2.out.below hb3)
   have z3 := hb3.size
   clear B2 BR2 Cm2 Cd2 hb3
   have W3 := hidden o3
   clear o3
   clear Cm3
   clear Cd3
   have ba : Below w3.heap.size w3 (w3.alloc (.cells #[.int .i64 y.id, .int .i64 y.n, .int .i64 y.s, .slice a3 ns.length c3, .int .i64 y.lost, .int .i64 y.built, .int .i64 y.seq, .int .i64 y.tail, .int .i64 y.gen, .slice d3 ds.length b3, .int .i64 y.fuse, .bool y.down, .bool y.broken] 33)) := (Below.refl _ _).alloc (Nat.le_refl _) _
   have xb := Box.new w3 33 #[.int .i64 y.id, .int .i64 y.n, .int .i64 y.s, .slice a3 ns.length c3, .int .i64 y.lost, .int .i64 y.built, .int .i64 y.seq, .int .i64 y.tail, .int .i64 y.gen, .slice d3 ds.length b3, .int .i64 y.fuse, .bool y.down, .bool y.broken]
   have zx4 := xb.lt
   have B4 := hidden (Below.andThen B3.out ba)
   have BR4 := hidden (BR3.out.below ba (by omega))
   have W4 := hidden (W3.out.below ba)
   have z4 := ba.size
   clear B3 BR3 W3 ba
   have WB4 := hidden xb
   clear xb
   obtain ⟨l0, l1, l2, l3, l4, l5, l6, l7, l8, l9, l10, l11, l12⟩ := BR4.out.cells13
   go_wp2_with fail
   generalize w3.alloc (.cells #[.int .i64 y.id, .int .i64 y.n, .int .i64 y.s, .slice a3 ns.length c3, .int .i64 y.lost, .int .i64 y.built, .int .i64 y.seq, .int .i64 y.tail, .int .i64 y.gen, .slice d3 ds.length b3, .int .i64 y.fuse, .bool y.down, .bool y.broken] 33) = w4 at B4 BR4 W4 WB4 z4 zx4 l0 l1 l2 l3 l4 l5 l6 l7 l8 l9 l10 l11 l12 ⊢
   refine (toArr_any _ 140 78 81 x _ _ _ _ _ _ ms ds (h0.below B4.out) (h1.below B4.out) hwt').mono ?_
   rintro e w5 ⟨bm5, bd5, rfl, om5, od5, ya5, yb5, hb5⟩
   clear l0 l1 l2 l3 l4 l5 l6 l7 l8 l9 l10 l11 l12
   have B5 := hidden (Below.andThen B4.out hb5)
   have BR5 := hidden (BR4.out.below hb5 (by omega))
   have W5 := hidden (W4.out.below hb5)
   have WB5 := hidden (WB4.out.below hb5 (by omega))
   have z5 := hb5.size
   clear B4 BR4 W4 WB4 hb5
   have Dm5 := hidden om5
   clear om5
   have Dd5 := hidden od5
   clear od5
   have ba : Below w5.heap.size w5 (w5.alloc (.cells #[.int .i64 x.id, .int .i64 x.n, .int .i64 x.s, .slice (some ⟨bm5, 0, none⟩) nm nm, .int .i64 x.lost, .int .i64 x.built, .int .i64 x.seq, .int .i64 x.tail, .int .i64 x.gen, .slice (some ⟨bd5, 0, none⟩) nd nd, .int .i64 x.fuse, .bool x.down, .bool x.broken] 33)) := (Below.refl _ _).alloc (Nat.le_refl _) _
   have xb := Box.new w5 33 #[.int .i64 x.id, .int .i64 x.n, .int .i64 x.s, .slice (some ⟨bm5, 0, none⟩) nm nm, .int .i64 x.lost, .int .i64 x.built, .int .i64 x.seq, .int .i64 x.tail, .int .i64 x.gen, .slice (some ⟨bd5, 0, none⟩) nd nd, .int .i64 x.fuse, .bool x.down, .bool x.broken]
   have zx := xb.lt
   have B6 := hidden (Below.andThen B5.out ba)
   have BR6 := hidden (BR5.out.below ba (by omega))
   have W6 := hidden (W5.out.below ba)
   have WB6 := hidden (WB5.out.below ba (by omega))
   have Dm6 := hidden (Dm5.out.below ba)
   have Dd6 := hidden (Dd5.out.below ba)
   have z6 := ba.size
   clear B5 BR5 W5 WB5 Dm5 Dd5 ba
   have BX6 := hidden xb
   clear xb
   obtain ⟨q0, q1, q2, q3, q4, q5, q6, q7, q8, q9, q10, q11, q12⟩ := BX6.out.cells13
   go_wp2_with fail
   generalize w5.alloc (.cells #[.int .i64 x.id, .int .i64 x.n, .int .i64 x.s, .slice (some ⟨bm5, 0, none⟩) nm nm, .int .i64 x.lost, .int .i64 x.built, .int .i64 x.seq, .int .i64 x.tail, .int .i64 x.gen, .slice (some ⟨bd5, 0, none⟩) nd nd, .int .i64 x.fuse, .bool x.down, .bool x.broken] 33) = w6 at B6 BR6 W6 WB6 Dm6 Dd6 BX6 z6 zx q0 q1 q2 q3 q4 q5 q6 q7 q8 q9 q10 q11 q12 ⊢
   refine (implBuildAll_any _ 109 51 82 x _ _ _ _ _ _ ms ds Dm6.out.rd Dd6.out.rd hwt3 ).mono ?_
   rintro e w7 ho7
   rw [HQ.out, HQC.out] at ho7
   obtain ⟨a7, d7, c7, b7, rfl, o7, hb7⟩ := ho7
   dsimp only at o7
   unfold arrC
   have B7 := hidden (Below.andThen B6.out hb7)
   have BR7 := hidden (BR6.out.below hb7 (by omega))
   have W7 := hidden (W6.out.below hb7)
   have WB7 := hidden (WB6.out.below hb7 (by omega))
   have Dm7 := hidden (Dm6.out.below hb7)
   have Dd7 := hidden (Dd6.out.below hb7)
   have BX7 := hidden (BX6.out.below hb7 (by omega))
   have z7 := hb7.size
   clear B6 BR6 W6 WB6 Dm6 Dd6 BX6 hb7
   have G7 := hidden o7
   clear o7
   clear q0 q1 q2 q3 q4 q5 q6 q7 q8 q9 q10 q11 q12
   have ba : Below w7.heap.size w7 (w7.alloc (.cells #[.int .i64 y.id, .int .i64 y.n, .int .i64 y.s, .slice a7 ns.length c7, .int .i64 y.lost, .int .i64 y.built, .int .i64 y.seq, .int .i64 y.tail, .int .i64 y.gen, .slice d7 ds.length b7, .int .i64 y.fuse, .bool y.down, .bool y.broken] 33)) := (Below.refl _ _).alloc (Nat.le_refl _) _
   have xb := Box.new w7 33 #[.int .i64 y.id, .int .i64 y.n, .int .i64 y.s, .slice a7 ns.length c7, .int .i64 y.lost, .int .i64 y.built, .int .i64 y.seq, .int .i64 y.tail, .int .i64 y.gen, .slice d7 ds.length b7, .int .i64 y.fuse, .bool y.down, .bool y.broken]
   have zx8 := xb.lt
   have B8 := hidden (Below.andThen B7.out ba)
   have BR8 := hidden (BR7.out.below ba (by omega))
   have W8 := hidden (W7.out.below ba)
   have WB8 := hidden (WB7.out.below ba (by omega))
   have Dm8 := hidden (Dm7.out.below ba)
   have Dd8 := hidden (Dd7.out.below ba)
   have BX8 := hidden (BX7.out.below ba (by omega))
   have G8 := hidden (G7.out.below ba)
   have z8 := ba.size
   clear B7 BR7 W7 WB7 Dm7 Dd7 BX7 G7 ba
   have GB8 := hidden xb
   clear xb
   obtain ⟨p0, p1, p2, p3, p4, p5, p6, p7, p8, p9, p10, p11, p12⟩ := GB8.out.cells13
   obtain ⟨q0, q1, q2, q3, q4, q5, q6, q7, q8, q9, q10, q11, q12⟩ := WB8.out.cells13
   go_wp2_with fail
   generalize w7.alloc (.cells #[.int .i64 y.id, .int .i64 y.n, .int .i64 y.s, .slice a7 ns.length c7, .int .i64 y.lost, .int .i64 y.built, .int .i64 y.seq, .int .i64 y.tail, .int .i64 y.gen, .slice d7 ds.length b7, .int .i64 y.fuse, .bool y.down, .bool y.broken] 33) = w8 at B8 BR8 W8 WB8 Dm8 Dd8 BX8 G8 GB8 z8 zx8 p0 p1 p2 p3 p4 p5 p6 p7 p8 p9 p10 p11 p12 q0 q1 q2 q3 q4 q5 q6 q7 q8 q9 q10 q11 q12 ⊢
   refine (eqArr_same _ 109 109 51 51 82 82 y _ _ _ _ _ _ _ _ _ _ _ _ ns ds G8.out.rdm G8.out.rdd W8.out.rdm W8.out.rdd hwq).mono ?_
   rintro e w9 ⟨rfl, hb9⟩
   clear p0 p1 p2 p3 p4 p5 p6 p7 p8 p9 p10 p11 p12 q0 q1 q2 q3 q4 q5 q6 q7 q8 q9 q10 q11 q12
   have B9 := hidden (Below.andThen B8.out hb9)
   have BR9 := hidden (BR8.out.below hb9 (by omega))
   have W9 := hidden (W8.out.below hb9)
   have WB9 := hidden (WB8.out.below hb9 (by omega))
   have Dm9 := hidden (Dm8.out.below hb9)
   have Dd9 := hidden (Dd8.out.below hb9)
   have BX9 := hidden (BX8.out.below hb9 (by omega))
   have G9 := hidden (G8.out.below hb9)
   have GB9 := hidden (GB8.out.below hb9 (by omega))
   have z9 := hb9.size
   clear B8 BR8 W8 WB8 Dm8 Dd8 BX8 G8 GB8 hb9
   obtain ⟨y0, y1, y2, y3, y4, y5, y6, y7, y8, y9, y10, y11, y12⟩ := BX9.out.cells13
   obtain ⟨l0, l1, l2, l3, l4, l5, l6, l7, l8, l9, l10, l11, l12⟩ := BR9.out.cells13
   have zl := BR9.out.lt
   have zy := BX9.out.lt
   go_wp2_with fail
   refine wp_region_held_drew (S := fun w' => (w'.cell? ⟨w5.heap.size, 0, none⟩ = some (.int .i64 x.id) /\ w'.cell? ⟨w5.heap.size, 1, none⟩ = some (.int .i64 x.n) /\ w'.cell? ⟨w5.heap.size, 2, none⟩ = some (.int .i64 x.s) /\ w'.cell? ⟨w5.heap.size, 3, none⟩ = some (.slice (some ⟨bm5, 0, none⟩) nm nm) /\ w'.cell? ⟨w5.heap.size, 4, none⟩ = some (.int .i64 x.lost) /\ w'.cell? ⟨w5.heap.size, 5, none⟩ = some (.int .i64 x.built) /\ w'.cell? ⟨w5.heap.size, 6, none⟩ = some (.int .i64 x.seq) /\ w'.cell? ⟨w5.heap.size, 7, none⟩ = some (.int .i64 x.tail) /\ w'.cell? ⟨w5.heap.size, 8, none⟩ = some (.int .i64 x.gen) /\ w'.cell? ⟨w5.heap.size, 9, none⟩ = some (.slice (some ⟨bd5, 0, none⟩) nd nd) /\ w'.cell? ⟨w5.heap.size, 10, none⟩ = some (.int .i64 x.fuse) /\ w'.cell? ⟨w5.heap.size, 11, none⟩ = some (.bool x.down) /\ w'.cell? ⟨w5.heap.size, 12, none⟩ = some (.bool x.broken)) /\ w'.cell? ⟨w.heap.size, 0, none⟩ = some (.int .i64 x.id) /\ w'.cell? ⟨w.heap.size, 1, none⟩ = some (.int .i64 x.n) /\ w'.cell? ⟨w.heap.size, 2, none⟩ = some (.int .i64 x.s) /\ w'.cell? ⟨w.heap.size, 3, none⟩ = some (.slice am nm cm) /\ w'.cell? ⟨w.heap.size, 4, none⟩ = some (.int .i64 x.lost) /\ w'.cell? ⟨w.heap.size, 5, none⟩ = some (.int .i64 x.built) /\ w'.cell? ⟨w.heap.size, 6, none⟩ = some (.int .i64 x.seq) /\ w'.cell? ⟨w.heap.size, 7, none⟩ = some (.int .i64 x.tail) /\ w'.cell? ⟨w.heap.size, 8, none⟩ = some (.int .i64 x.gen) /\ w'.cell? ⟨w.heap.size, 9, none⟩ = some (.slice ad nd cd) /\ w'.cell? ⟨w.heap.size, 10, none⟩ = some (.int .i64 x.fuse) /\ w'.cell? ⟨w.heap.size, 11, none⟩ = some (.bool x.down) /\ w'.cell? ⟨w.heap.size, 12, none⟩ = some (.bool x.broken)) (by kernel_rfl) ?_ (fun hHeld => ?_)
   . exact ⟨BX9.out.cells13, BR9.out.cells13⟩
   refine held_take (i := 0) (v := ?_) rfl (by kernel_rfl) (by kernel_rfl) (by kernel_rfl) (fun _ _ _ h => h) (by kernel_rfl) ?_ hHeld ?_
   rotate_left 1
   . (intro w hSw; (try dsimp only at hSw); go_split_ands; go_simp; first | done | with_reducible rfl)
   simp only [Act.put, List.setIfInBounds_toArray, List.set_cons_zero, List.set_cons_succ]
   refine held_take (i := 1) (v := ?_) rfl (by kernel_rfl) (by kernel_rfl) (by kernel_rfl) (fun _ _ _ h => h) (by kernel_rfl) ?_ hHeld ?_
   rotate_left 1
   . (intro w hSw; (try dsimp only at hSw); go_split_ands; go_simp; first | done | with_reducible rfl)
   simp only [Act.put, List.setIfInBounds_toArray, List.set_cons_zero, List.set_cons_succ]
   refine held_one (i := 2) (by kernel_rfl) rfl (by kernel_rfl) (fun K hK => ?_)
   go_simp
   refine (toArr_any _ 140 78 81 x _ _ _ _ _ _ ms ds (h0.below B9.out).drew (h1.below B9.out).drew hwt').mono ?_
   rintro e w10 ⟨bm10, bd10, rfl, om10, od10, ya10, yb10, hb10⟩
   have hb10' : Below w9.heap.size w9 w10 := (Below.refl w9.heap.size w9).drew.trans hb10
   go_wp2_with fail
   clear hHeld
   refine hK.out _ _ ?_ (fun hHeld => ?_)
   . exact ⟨(BX9.out.below hb10' zy).cells13, (BR9.out.below hb10' zl).cells13⟩
   clear hK K
   refine held_one (i := 3) (by kernel_rfl) rfl (by kernel_rfl) (fun K hK => ?_)
   go_simp
   refine (eqArr_same _ 109 109 51 51 82 82 x _ _ _ _ _ _ _ _ _ _ _ _ ms ds (Dm9.out.below hb10').rd (Dd9.out.below hb10').rd om10.rd od10.rd hwt2).mono ?_
   rintro e w11 ⟨rfl, hb11⟩
   have hb11' : Below w9.heap.size w9 w11 := Below.andThen hb10' hb11
   go_wp2_with fail
   clear hHeld
   refine hK.out _ _ ?_ (fun hHeld => ?_)
   . exact ⟨(BX9.out.below hb11' zy).cells13, (BR9.out.below hb11' zl).cells13⟩
   clear hK K
   refine held_take (i := 4) (v := ?_) rfl (by kernel_rfl) (by kernel_rfl) (by kernel_rfl) (fun _ _ _ h => h) (by kernel_rfl) ?_ hHeld ?_
   rotate_left 1
   . (intro w hSw; (try dsimp only at hSw); go_split_ands; go_simp; first | done | with_reducible rfl)
   simp only [Act.put, List.setIfInBounds_toArray, List.set_cons_zero, List.set_cons_succ]
   refine wpAnyH_done (by kernel_rfl) ?_ _
   clear hHeld
   clear y0 y1 y2 y3 y4 y5 y6 y7 y8 y9 y10 y11 y12 l0 l1 l2 l3 l4 l5 l6 l7 l8 l9 l10 l11 l12
   clear zl zy om10 od10 ya10 yb10 hb10 hb11 hb10'
   have B11 := hidden (Below.andThen B9.out hb11')
   have BR11 := hidden (BR9.out.below hb11' (by omega))
   have W11 := hidden (W9.out.below hb11')
   have WB11 := hidden (WB9.out.below hb11' (by omega))
   have Dm11 := hidden (Dm9.out.below hb11')
   have Dd11 := hidden (Dd9.out.below hb11')
   have BX11 := hidden (BX9.out.below hb11' (by omega))
   have G11 := hidden (G9.out.below hb11')
   have GB11 := hidden (GB9.out.below hb11' (by omega))
   have z11 := hb11'.size
   clear B9 BR9 W9 WB9 Dm9 Dd9 BX9 G9 GB9 hb11'
   obtain ⟨q0, q1, q2, q3, q4, q5, q6, q7, q8, q9, q10, q11, q12⟩ := BX11.out.cells13
   go_wp2_with fail
   refine (markArr_own _ _ _ _ x _ _ _ _ _ _ ms ds Dm11.out Dd11.out (by omega) (by omega) (by omega) hwt2).mono ?_
   rintro e w12 ⟨rfl, _, _, hb12⟩
   clear q0 q1 q2 q3 q4 q5 q6 q7 q8 q9 q10 q11 q12
   clear Dm11
   clear Dd11
   clear BX11
   have B12 := hidden (Below.andBut B11.out hb12 (by omega))
   have BR12 := hidden (BR11.out.kept (hb12.block _ (by omega) (by omega)))
   have W12 := hidden (W11.out.but hb12 (by omega))
   have WB12 := hidden (WB11.out.kept (hb12.block _ (by omega) (by omega)))
   have G12 := hidden (G11.out.but hb12 (by omega))
   have GB12 := hidden (GB11.out.kept (hb12.block _ (by omega) (by omega)))
   have z12 := hb12.size
   clear B11 BR11 W11 WB11 G11 GB11 hb12
   have hcn : (0 : Int) <= 1 + (cntMS ms : Int) + (cntWS ds : Int) := by omega
   generalize 1 + (cntMS ms : Int) + (cntWS ds : Int) = cn at hcn ⊢
   obtain ⟨p0, p1, p2, p3, p4, p5, p6, p7, p8, p9, p10, p11, p12⟩ := GB12.out.cells13
   obtain ⟨q0, q1, q2, q3, q4, q5, q6, q7, q8, q9, q10, q11, q12⟩ := WB12.out.cells13
   go_wp2_with fail
   refine (eqArr_same _ 109 109 51 51 82 82 y _ _ _ _ _ _ _ _ _ _ _ _ ns ds G12.out.rdm G12.out.rdd W12.out.rdm W12.out.rdd hwq).mono ?_
   rintro e w13 ⟨rfl, hb13⟩
   clear p0 p1 p2 p3 p4 p5 p6 p7 p8 p9 p10 p11 p12 q0 q1 q2 q3 q4 q5 q6 q7 q8 q9 q10 q11 q12
   have B13 := hidden (Below.andThen B12.out hb13)
   have BR13 := hidden (BR12.out.below hb13 (by omega))
   have W13 := hidden (W12.out.below hb13)
   have WB13 := hidden (WB12.out.below hb13 (by omega))
   have G13 := hidden (G12.out.below hb13)
   have GB13 := hidden (GB12.out.below hb13 (by omega))
   have z13 := hb13.size
   clear B12 BR12 W12 WB12 G12 GB12 hb13
   obtain ⟨p0, p1, p2, p3, p4, p5, p6, p7, p8, p9, p10, p11, p12⟩ := GB13.out.cells13
   go_wp2_with fail
   refine (markArr_in _ w6.heap.size w7.heap.size y _ _ _ _ _ _ ns ds G13.out (by omega) hwq).mono ?_
   rintro e w14 ⟨rfl, oi14, hb14⟩
   clear p0 p1 p2 p3 p4 p5 p6 p7 p8 p9 p10 p11 p12
   clear G13
   have B14 := hidden (Below.andBut B13.out hb14 (by omega))
   have BR14 := hidden (BR13.out.kept (hb14.block _ (by omega) (by omega)))
   have W14 := hidden (W13.out.but hb14 (by omega))
   have WB14 := hidden (WB13.out.kept (hb14.block _ (by omega) (by omega)))
   have GB14 := hidden (GB13.out.kept (hb14.block _ (by omega) (by omega)))
   have z14 := hb14.size
   clear B13 BR13 W13 WB13 GB13 hb14
   have G14 := hidden oi14
   clear oi14
   obtain ⟨p0, p1, p2, p3, p4, p5, p6, p7, p8, p9, p10, p11, p12⟩ := GB14.out.cells13
   go_wp2_with fail
   refine (heldArr_any _ 109 51 82 y _ _ _ _ _ _ ns ds G14.out.rdm G14.out.rdd hwq).mono ?_
   rintro e w15 ⟨rfl, hb15⟩
   clear p0 p1 p2 p3 p4 p5 p6 p7 p8 p9 p10 p11 p12
   have B15 := hidden (Below.andThen B14.out hb15)
   have BR15 := hidden (BR14.out.below hb15 (by omega))
   have W15 := hidden (W14.out.below hb15)
   have WB15 := hidden (WB14.out.below hb15 (by omega))
   have GB15 := hidden (GB14.out.below hb15 (by omega))
   have G15 := hidden (G14.out.below hb15)
   have z15 := hb15.size
   clear B14 BR14 W14 WB14 GB14 G14 hb15
   have hcm : (0 : Int) <= 1 + (cntMS ns : Int) + (cntWS ds : Int) := by omega
   generalize hCM : 1 + (cntMS ns : Int) + (cntWS ds : Int) = ck at hcm ⊢
   have HCM := hidden hCM
   clear hCM
   obtain ⟨l0, l1, l2, l3, l4, l5, l6, l7, l8, l9, l10, l11, l12⟩ := BR15.out.cells13
   go_wp2_with fail
   refine (toArr_any _ 140 78 81 x _ _ _ _ _ _ ms ds (h0.below B15.out) (h1.below B15.out) hwt').mono ?_
   rintro e w16 ⟨bm16, bd16, rfl, om16, od16, ya16, yb16, hb16⟩
   clear l0 l1 l2 l3 l4 l5 l6 l7 l8 l9 l10 l11 l12
   have B16 := hidden (Below.andThen B15.out hb16)
   have BR16 := hidden (BR15.out.below hb16 (by omega))
   have W16 := hidden (W15.out.below hb16)
   have WB16 := hidden (WB15.out.below hb16 (by omega))
   have GB16 := hidden (GB15.out.below hb16 (by omega))
   have G16 := hidden (G15.out.below hb16)
   have z16 := hb16.size
   clear B15 BR15 W15 WB15 GB15 G15 hb16
   have Em16 := hidden om16
   clear om16
   have Ed16 := hidden od16
   clear od16
   go_wp2_with fail
   refine (implBuildAll_any _ 109 51 82 x _ _ _ _ _ _ ms ds Em16.out.rd Ed16.out.rd hwt3 ).mono ?_
   rintro e w17 ho17
   rw [HQ.out, HQC.out] at ho17
   obtain ⟨a17, d17, c17, b17, rfl, o17, hb17⟩ := ho17
   dsimp only at o17
   unfold arrC
   have B17 := hidden (Below.andThen B16.out hb17)
   have BR17 := hidden (BR16.out.below hb17 (by omega))
   have W17 := hidden (W16.out.below hb17)
   have WB17 := hidden (WB16.out.below hb17 (by omega))
   have GB17 := hidden (GB16.out.below hb17 (by omega))
   have G17 := hidden (G16.out.below hb17)
   have Em17 := hidden (Em16.out.below hb17)
   have Ed17 := hidden (Ed16.out.below hb17)
   have z17 := hb17.size
   clear B16 BR16 W16 WB16 GB16 G16 Em16 Ed16 hb17
   have H17 := hidden o17
   clear o17
   clear Em17
   clear Ed17
   have ba : Below w17.heap.size w17 (w17.alloc (.cells #[.int .i64 y.id, .int .i64 y.n, .int .i64 y.s, .slice a17 ns.length c17, .int .i64 y.lost, .int .i64 y.built, .int .i64 y.seq, .int .i64 y.tail, .int .i64 y.gen, .slice d17 ds.length b17, .int .i64 y.fuse, .bool y.down, .bool y.broken] 33)) := (Below.refl _ _).alloc (Nat.le_refl _) _
   have xb := Box.new w17 33 #[.int .i64 y.id, .int .i64 y.n, .int .i64 y.s, .slice a17 ns.length c17, .int .i64 y.lost, .int .i64 y.built, .int .i64 y.seq, .int .i64 y.tail, .int .i64 y.gen, .slice d17 ds.length b17, .int .i64 y.fuse, .bool y.down, .bool y.broken]
   have zx18 := xb.lt
   have B18 := hidden (Below.andThen B17.out ba)
   have BR18 := hidden (BR17.out.below ba (by omega))
   have W18 := hidden (W17.out.below ba)
   have WB18 := hidden (WB17.out.below ba (by omega))
   have GB18 := hidden (GB17.out.below ba (by omega))
   have G18 := hidden (G17.out.below ba)
   have H18 := hidden (H17.out.below ba)
   have z18 := ba.size
   clear B17 BR17 W17 WB17 GB17 G17 H17 ba
   have HB18 := hidden xb
   clear xb
   obtain ⟨p0, p1, p2, p3, p4, p5, p6, p7, p8, p9, p10, p11, p12⟩ := HB18.out.cells13
   obtain ⟨q0, q1, q2, q3, q4, q5, q6, q7, q8, q9, q10, q11, q12⟩ := WB18.out.cells13
   go_wp2_with fail
   generalize w17.alloc (.cells #[.int .i64 y.id, .int .i64 y.n, .int .i64 y.s, .slice a17 ns.length c17, .int .i64 y.lost, .int .i64 y.built, .int .i64 y.seq, .int .i64 y.tail, .int .i64 y.gen, .slice d17 ds.length b17, .int .i64 y.fuse, .bool y.down, .bool y.broken] 33) = w18 at B18 BR18 W18 WB18 GB18 G18 H18 HB18 z18 zx18 p0 p1 p2 p3 p4 p5 p6 p7 p8 p9 p10 p11 p12 q0 q1 q2 q3 q4 q5 q6 q7 q8 q9 q10 q11 q12 ⊢
   refine (eqArr_same _ 109 109 51 51 82 82 y _ _ _ _ _ _ _ _ _ _ _ _ ns ds H18.out.rdm H18.out.rdd W18.out.rdm W18.out.rdd hwq).mono ?_
   rintro e w19 ⟨rfl, hb19⟩
   clear p0 p1 p2 p3 p4 p5 p6 p7 p8 p9 p10 p11 p12 q0 q1 q2 q3 q4 q5 q6 q7 q8 q9 q10 q11 q12
   have B19 := hidden (Below.andThen B18.out hb19)
   have BR19 := hidden (BR18.out.below hb19 (by omega))
   have W19 := hidden (W18.out.below hb19)
   have WB19 := hidden (WB18.out.below hb19 (by omega))
   have GB19 := hidden (GB18.out.below hb19 (by omega))
   have G19 := hidden (G18.out.below hb19)
   have H19 := hidden (H18.out.below hb19)
   have HB19 := hidden (HB18.out.below hb19 (by omega))
   have z19 := hb19.size
   clear B18 BR18 W18 WB18 GB18 G18 H18 HB18 hb19
   clear H19
   clear HB19
   clear W19
   clear WB19
   obtain ⟨p0, p1, p2, p3, p4, p5, p6, p7, p8, p9, p10, p11, p12⟩ := GB19.out.cells13
   go_wp2_with fail
   refine (heldArr_any _ 109 51 82 y _ _ _ _ _ _ ns ds G19.out.rdm G19.out.rdd hwq).mono ?_
   rintro e w20 ⟨rfl, hb20⟩
   clear p0 p1 p2 p3 p4 p5 p6 p7 p8 p9 p10 p11 p12
   have B20 := hidden (Below.andThen B19.out hb20)
   have BR20 := hidden (BR19.out.below hb20 (by omega))
   have GB20 := hidden (GB19.out.below hb20 (by omega))
   have G20 := hidden (G19.out.below hb20)
   have z20 := hb20.size
   clear B19 BR19 GB19 G19 hb20
   rw [HCM.out]
   go_wp2
   go_ret
   exact ⟨rfl, B20.out⟩
 have hq := leftOf_neg (left := 1048576) (wt := wtArr ms ds) (by omega)
 go_wp2
 go_ret
 exact ⟨rfl, B1.out⟩

end Go.Proofs.YtechckninoilhaaGreat

namespace Go.Proofs.YtechckninoilhaaGreat
open Go.RowKit Go.ChangeShapes Go.WideShapes Go.ChangeAt Go.Joins Go.Deep

section
variable {H : Type} {enc : TypeId × Value -> H} {P : Program} {w : World} {held : Bool}

theorem rdInts_of {t q : TypeId} {fuel : Nat} {v : Value} {x : DataW H × List MemPlace} (ht : P.underlying t = some (.slice q)) (hq : P.underlying q = some (.int .i64)) (cq : P.cellsOf q = 1)
 (h : DataW.trod enc P w 0 (fun _ => true) held fuel t [v] = some x) : ∃ zs, tIntS.Rd w [v] zs := by
 rcases open_ints ht hq cq h with ⟨hcs, _⟩ | ⟨a, len, cap, zs, hcs, _, hl, hm, hz, _, hcell, hwz⟩
 . simp at hcs
   subst hcs
   exact ⟨[], ints_rd_of (.inl rfl) (Nat.le_refl _) (by simp) (fun _ => rfl)⟩
 simp at hcs
 subst hcs
 have hr : IsRow .i64 w (some a) len cap zs := .inr ⟨_, rfl, hl, hm, by simpa using hz, hcell, hwz⟩
 obtain ⟨h1, h2, _, _⟩ := hr.reads
 refine ⟨zs.take len, ?_⟩
 have := ints_rd_of (E := 3) (cap := cap) h1 (by omega) (by unfold maxLen at hm; omega) (by simp)
 rw [h2] at this
 exact this

theorem rd_row {t : Ty} {E : TypeId} {a : Addr} {len cap : Nat} (hl : len <= cap) (hm : cap <= 9223372036854775807) (cs : Nat -> List Value) (hn : 0 < t.n) (hcl : ∀ i, i < len -> (cs i).length = t.n)
 (hc : ∀ i, i < len -> ∀ j, j < t.n -> w.cell? (a.add (i * t.n + j)) = (cs i)[j]?) (hx : ∀ i, i < len -> ∃ x, t.Rd w (cs i) x) : ∃ d, (rowTy t E).Rd w [.slice (some a) len cap] d := by
 have each : ∀ i, i < len -> ∃ y : t.D × List Nat, t.rd w (cs i) y.1 y.2 := by
  intro i hi
  obtain ⟨x, fp, h⟩ := hx i hi
  exact ⟨(x, fp), h⟩
 by_cases h0 : len = 0
 . subst h0
   exact ⟨[], [], some a, cap, rfl, by simp, hm, .inl ⟨rfl, rfl, by simp⟩⟩
 have hne : Nonempty (t.D × List Nat) := by
  obtain ⟨y, _⟩ := each 0 (by omega)
  exact ⟨y⟩
 have hch : ∃ f : Nat -> t.D × List Nat, ∀ i, i < len -> t.rd w (cs i) (f i).1 (f i).2 := by
  refine ⟨fun i => if h : i < len then Classical.choose (each i h) else Classical.choice hne, fun i hi => ?_⟩
  simp only [dif_pos hi]
  exact Classical.choose_spec (each i hi)
 obtain ⟨f, hf⟩ := hch
 obtain ⟨b, off, spot⟩ := a
 have hc0 := hc 0 (by omega) 0 hn
 have hsome : ∃ v0, (cs 0)[0]? = some v0 := ⟨(cs 0)[0]'(by rw [hcl 0 (by omega)]; exact hn), List.getElem?_eq_getElem _⟩
 obtain ⟨v0, hv0⟩ := hsome
 rw [hv0] at hc0
 have hspot : spot = none := by simpa [Addr.add] using World.cell?_spot hc0
 subst hspot
 have ea : ∀ k, (⟨b, off, none⟩ : Addr).add k = ⟨b, off + k, none⟩ := by
  intro k
  unfold Addr.add
  split <;> simp_all
 rw [ea] at hc0
 have hblt : b < w.heap.size := World.block_lt_of_cell? w _ hc0
 refine ⟨(List.range len).map fun i => (f i).1, b :: ((List.range len).map fun i => (f i).2).flatten, _, cap, by simp, by simpa using hl, hm, .inr ⟨b, off, (List.range len).map fun i => (f i).2, rfl, hblt, rfl, by simp, fun i x hxi => ?_⟩⟩
 have hi : i < len := by
  have := (List.getElem?_eq_some_iff.1 hxi).1
  simpa using this
 rw [List.getElem?_map, List.getElem?_range hi] at hxi
 simp at hxi
 subst hxi
 refine ⟨(f i).2, cs i, by rw [List.getElem?_map, List.getElem?_range hi]; rfl, hf i hi, fun j hj => ?_⟩
 rw [← ea]
 exact hc i hi j hj

theorem rdIntSS_of {t e q : TypeId} {fuel : Nat} {v : Value} {x : DataW H × List MemPlace} (ht : P.underlying t = some (.slice e)) (he : P.underlying e = some (.slice q)) (hq : P.underlying q = some (.int .i64)) (ce : P.cellsOf e = 1) (cq : P.cellsOf q = 1)
 (h : DataW.trod enc P w 0 (fun _ => true) held fuel t [v] = some x) : ∃ d, tIntSS.Rd w [v] d := by
 rcases open_slice1 ht ce h with ⟨hcs, _⟩ | ⟨a, len, cap, m, n, V, D, Pl, hcs, _, hl, hm, hmm, _, hx⟩
 . simp at hcs
   subst hcs
   exact ⟨[], [], none, 0, rfl, by simp, by simp, .inl ⟨rfl, rfl, fun _ => rfl⟩⟩
 simp at hcs
 subst hcs
 simp only [if_true] at hmm
 refine rd_row hl (by unfold maxLen at hm; omega) (fun i => [V i]) (by decide) (fun _ _ => rfl) (fun i hi j hj => ?_) (fun i hi => rdInts_of he hq cq (hx i (by omega)).2)
 have hj0 : j = 0 := by have : j < 1 := hj; omega
 subst hj0
 have := (hx i (by omega)).1
 show w.cell? (a.add (i * 1 + 0)) = some (V i)
 rw [Nat.mul_one, Nat.add_zero]
 exact this

theorem rdWrS_of {t e q : TypeId} {f0 f1 : Field} {E : TypeId} {fuel : Nat} {v : Value} {x : DataW H × List MemPlace} (ht : P.underlying t = some (.slice e)) (he : P.underlying e = some (.struct #[f0, f1])) (ce : P.cellsOf e = 2) (o0 : f0.offset = 0) (o1 : f1.offset = 1) (c0 : P.cellsOf f0.type = 1) (c1 : P.cellsOf f1.type = 1)
 (hi0 : P.underlying f0.type = some (.int .i64)) (hi1 : P.underlying f1.type = some (.slice q)) (hq : P.underlying q = some (.int .i64)) (cq : P.cellsOf q = 1)
 (h : DataW.trod enc P w 0 (fun _ => true) held fuel t [v] = some x) : ∃ d, (tWrS E).Rd w [v] d := by
 rcases open_slice_pairs ht he ce o0 o1 c0 c1 h with ⟨hcs, _⟩ | ⟨a, len, cap, m, n, V0, V1, D0, D1, P0, P1, hcs, _, hl, hm, hmm, _, hx⟩
 . simp at hcs
   subst hcs
   exact ⟨[], [], none, 0, rfl, by simp, by simp, .inl ⟨rfl, rfl, fun _ => rfl⟩⟩
 simp at hcs
 subst hcs
 simp only [if_true] at hmm
 refine rd_row hl (by unfold maxLen at hm; omega) (fun i => [V0 i, V1 i]) (by decide) (fun _ _ => rfl) (fun i hi j hj => ?_) (fun i hi => ?_)
 . have hj2 : j < 2 := hj
   obtain ⟨h0, h1, _⟩ := hx i (by omega)
   match j, hj2 with
   | 0, _ => exact h0
   | 1, _ => exact h1
 obtain ⟨_, _, h2, h3⟩ := hx i (by omega)
 obtain ⟨y, hy, _, _⟩ := DataW.trod_int hi0 h2
 obtain ⟨zs, hzs⟩ := rdInts_of hi1 hq cq h3
 simp at hy
 exact ⟨(y, zs), by rw [hy]; exact pair_rd_of (t := intTy) (vs := [_]) ⟨[], rfl, rfl⟩ hzs⟩

end
end Go.Proofs.YtechckninoilhaaGreat

namespace Go.Proofs.YtechckninoilhaaGreat
open Go.RowKit Go.ChangeShapes Go.WideShapes Go.ChangeAt Go.Joins Go.Deep

section
variable {H : Type} {enc : TypeId × Value -> H} {w : World} {held : Bool}

theorem rdRow_of {P : Program} {t e E : TypeId} {u : Ty} {fuel : Nat} {v : Value} {x : DataW H × List MemPlace} (ht : P.underlying t = some (.slice e)) (ce : P.cellsOf e = u.n) (hn : 0 < u.n)
 (each : ∀ (n : Nat) (cs : List Value) (y : DataW H × List MemPlace), cs.length = u.n -> DataW.trod enc P w 0 (fun _ => true) held n e cs = some y -> ∃ d, u.Rd w cs d)
 (h : DataW.trod enc P w 0 (fun _ => true) held fuel t [v] = some x) : ∃ d, (rowTy u E).Rd w [v] d := by
 rcases open_slice ht h with ⟨hcs, _⟩ | ⟨a, len, cap, m, n, D, Pl, hcs, _, hl, hm, hmm, _, hx⟩
 . simp at hcs
   subst hcs
   exact ⟨[], [], none, 0, rfl, by simp, by simp, .inl ⟨rfl, rfl, fun _ => rfl⟩⟩
 simp at hcs
 subst hcs
 simp only [if_true] at hmm
 have one : ∀ i, i < len -> ∃ cs : List Value, cs.length = u.n /\ (∀ j, j < u.n -> w.cell? (a.add (i * u.n + j)) = cs[j]?) /\ ∃ d, u.Rd w cs d := by
  intro i hi
  obtain ⟨cs', h1, h2⟩ := hx i (by omega)
  rw [ce] at h1
  obtain ⟨_, hlen, hcell⟩ := World.cells?_some h1
  refine ⟨cs', hlen, fun j hj => ?_, each n cs' _ hlen h2⟩
  have := hcell j hj
  rw [add_add] at this
  exact this
 obtain ⟨q, hq⟩ := choose_lt one
 exact rd_row hl (by unfold maxLen at hm; omega) q hn (fun i hi => (hq i hi).1) (fun i hi => (hq i hi).2.1) (fun i hi => (hq i hi).2.2)

theorem rdMemS_of {fuel : Nat} {v : Value} {x : DataW H × List MemPlace} (h : DataW.trod enc Tryz.prog w 0 (fun _ => true) held fuel 24 [v] = some x) : ∃ d, (tMemS 140 78).Rd w [v] d := by
 refine rdRow_of (e := 78) Tryz.underlying24 (by kernel_rfl) (by decide) (fun n cs y hl hy => ?_) h
 match cs, hl with
 | [v0, v1, v2, v3], _ =>
  obtain ⟨xs, k, _, _, _, hxl, hf⟩ := DataW.trod_struct Tryz.underlying78 hy
  have c1 : Tryz.prog.cellsOf 47 = 1 := by kernel_rfl
  have c2 : Tryz.prog.cellsOf 76 = 1 := by kernel_rfl
  have c3 : Tryz.prog.cellsOf 4 = 1 := by kernel_rfl
  have c4 : Tryz.prog.cellsOf 49 = 1 := by kernel_rfl
  match xs, hxl with
  | [y0, y1, y2, y3], _ =>
   have g0 := hf 0 _ rfl
   have g1 := hf 1 _ rfl
   have g2 := hf 2 _ rfl
   have g3 := hf 3 _ rfl
   simp [c1] at g0
   simp [c2] at g1
   simp [c3] at g2
   simp [c4] at g3
   obtain ⟨ss, r0⟩ := rdIntSS_of Tryz.underlying47 Tryz.underlying49 Tryz.underlying3 (by kernel_rfl) (by kernel_rfl) g0
   obtain ⟨ws, r1⟩ := rdWrS_of (E := 140) Tryz.underlying76 Tryz.underlying140 (by kernel_rfl) rfl rfl (by kernel_rfl) (by kernel_rfl) Tryz.underlying3 Tryz.underlying49 Tryz.underlying3 (by kernel_rfl) g1
   obtain ⟨f, hfb, _⟩ := DataW.trod_bool Tryz.underlying4 g2
   obtain ⟨bs, r3⟩ := rdInts_of Tryz.underlying49 Tryz.underlying3 (by kernel_rfl) g3
   simp at hfb
   subst hfb
   exact ⟨(ss, ws, f, bs), pair_rd_of (vs := [v0]) r0 (pair_rd_of (vs := [v1]) r1 (pair_rd_of (t := boolTy) (vs := [.bool f]) ⟨[], rfl, rfl⟩ r3))⟩

theorem array13 {cs : Array Value} (h : cs.size = 13) : ∃ c0 c1 c2 c3 c4 c5 c6 c7 c8 c9 c10 c11 c12, cs = #[c0, c1, c2, c3, c4, c5, c6, c7, c8, c9, c10, c11, c12] := by
 obtain ⟨l⟩ := cs
 match l, h with
 | [c0, c1, c2, c3, c4, c5, c6, c7, c8, c9, c10, c11, c12], _ => exact ⟨c0, c1, c2, c3, c4, c5, c6, c7, c8, c9, c10, c11, c12, rfl⟩

theorem open_arr {r : Reach} {b0 : Nat} {v : Value} {d : DataW H} {p : List MemPlace} (hv : Value.okWide Tryz.prog w r b0 27 v) (h : DataW.Trod enc Tryz.prog w 0 (fun _ => true) held 27 v d p) :
 ∃ (x : ArrN) (am ad : Option Addr) (cm cd : Nat) (ms : List MemD) (ds : List (Int × List Int)), v = .agg #[.int .i64 x.id, .int .i64 x.n, .int .i64 x.s, .slice am ms.length cm, .int .i64 x.lost, .int .i64 x.built, .int .i64 x.seq, .int .i64 x.tail, .int .i64 x.gen, .slice ad ds.length cd, .int .i64 x.fuse, .bool x.down, .bool x.broken] /\ (tMemS 140 78).Rd w [.slice am ms.length cm] ms /\ (tWrS 81).Rd w [.slice ad ds.length cd] ds := by
 obtain ⟨cs, rfl, hsz⟩ := okWide_struct Tryz.underlying27 hv
 obtain ⟨c0, c1, c2, c3, c4, c5, c6, c7, c8, c9, c10, c11, c12, rfl⟩ := array13 (hsz.trans (by kernel_rfl))
 obtain ⟨fuel, hf⟩ := h
 obtain ⟨xs, n, _, _, _, hxl, hx⟩ := DataW.trod_struct Tryz.underlying27 hf
 have k3 : Tryz.prog.cellsOf 3 = 1 := by kernel_rfl
 have k4 : Tryz.prog.cellsOf 4 = 1 := by kernel_rfl
 have kG : Tryz.prog.cellsOf 23 = 2 := by kernel_rfl
 have kM : Tryz.prog.cellsOf 24 = 1 := by kernel_rfl
 have kE : Tryz.prog.cellsOf 25 = 1 := by kernel_rfl
 match xs, hxl with
 | [y0, y1, y2, y3, y4, y5, y6, y7, y8, y9, y10, y11], _ =>
  have g0 := hx 0 _ rfl
  have g1 := hx 1 _ rfl
  have g2 := hx 2 _ rfl
  have g3 := hx 3 _ rfl
  have g4 := hx 4 _ rfl
  have g5 := hx 5 _ rfl
  have g6 := hx 6 _ rfl
  have g7 := hx 7 _ rfl
  have g8 := hx 8 _ rfl
  have g9 := hx 9 _ rfl
  have g10 := hx 10 _ rfl
  have g11 := hx 11 _ rfl
  simp [Value.cells, k3] at g0
  simp [Value.cells, kG] at g1
  simp [Value.cells, kM] at g2
  simp [Value.cells, k3] at g3
  simp [Value.cells, k3] at g4
  simp [Value.cells, k3] at g5
  simp [Value.cells, k3] at g6
  simp [Value.cells, k3] at g7
  simp [Value.cells, kE] at g8
  simp [Value.cells, k3] at g9
  simp [Value.cells, k4] at g10
  simp [Value.cells, k4] at g11
  obtain ⟨n0, e0, _, _⟩ := DataW.trod_int Tryz.underlying3 g0
  simp at e0
  subst e0
  obtain ⟨zs, m, _, _, _, hzl, hz⟩ := DataW.trod_struct Tryz.underlying23 g1
  match zs, hzl with
  | [z0, z1], _ =>
  have q0 := hz 0 _ rfl
  have q1 := hz 1 _ rfl
  simp [k3] at q0 q1
  obtain ⟨nn, en, _, _⟩ := DataW.trod_int Tryz.underlying3 q0
  obtain ⟨ns, es, _, _⟩ := DataW.trod_int Tryz.underlying3 q1
  simp at en es
  subst en es
  obtain ⟨ms, r2⟩ := rdMemS_of g2
  obtain ⟨am, cm, rfl⟩ := row_shape r2
  obtain ⟨n3, e3, _, _⟩ := DataW.trod_int Tryz.underlying3 g3
  simp at e3
  subst e3
  obtain ⟨n4, e4, _, _⟩ := DataW.trod_int Tryz.underlying3 g4
  simp at e4
  subst e4
  obtain ⟨n5, e5, _, _⟩ := DataW.trod_int Tryz.underlying3 g5
  simp at e5
  subst e5
  obtain ⟨n6, e6, _, _⟩ := DataW.trod_int Tryz.underlying3 g6
  simp at e6
  subst e6
  obtain ⟨n7, e7, _, _⟩ := DataW.trod_int Tryz.underlying3 g7
  simp at e7
  subst e7
  obtain ⟨ds, r8⟩ := rdWrS_of (E := 81) Tryz.underlying25 Tryz.underlying81 (by kernel_rfl) rfl rfl (by kernel_rfl) (by kernel_rfl) Tryz.underlying3 Tryz.underlying49 Tryz.underlying3 (by kernel_rfl) g8
  obtain ⟨ad, cd, rfl⟩ := row_shape r8
  obtain ⟨n9, e9, _, _⟩ := DataW.trod_int Tryz.underlying3 g9
  simp at e9
  subst e9
  obtain ⟨n10, e10, _⟩ := DataW.trod_bool Tryz.underlying4 g10
  simp at e10
  subst e10
  obtain ⟨n11, e11, _⟩ := DataW.trod_bool Tryz.underlying4 g11
  simp at e11
  subst e11
  exact ⟨⟨n0, nn, ns, n3, n4, n5, n6, n7, n9, n10, n11⟩, am, ad, cm, cd, ms, ds, rfl, r2, r8⟩

end
end Go.Proofs.YtechckninoilhaaGreat

namespace Go.Proofs.YtechckninoilhaaGreat.fnExactBuildAll
open Go.ChangeShapes Go.WideShapes Go.ChangeAt Go.RowKit Go.Joins
open Go.ChangeMaps (open_string shut_string)
set_option linter.unusedVariables false

theorem own : ownKnob Tryz.prog.godebug = none := by kernel_rfl
theorem laidOut : laidOutB Tryz.prog = true := by kernel_rfl

theorem lifted (os : Os) (started : os.Started) (H : Type) (enc : TypeId × Value -> H) :
 ReturnsInHanded {} Tryz.checked os 7 .any (Rows.fnExactBuildAllSpec.pre6 enc Tryz.prog Tryz.f7 Rows.fnExactBuildAllRow.domain false) (Rows.fnExactBuildAllSpec.post enc Tryz.prog Tryz.f7 false true false false) := by
 refine returnsInHanded_of_change (C := Tryz.checked) own started (by kernel_rfl) Tryz.func7
  (ChangeSpec.witness6 (enc := enc) (C := Tryz.checked) false ⟨#[], #[.agg #[.int .i64 0, .int .i64 0, .int .i64 0, .slice none 0 0, .int .i64 0, .int .i64 0, .int .i64 0, .int .i64 0, .int .i64 0, .slice none 0 0, .int .i64 0, .bool false, .bool false]], []⟩ 8 (by kernel_rfl) (by kernel_rfl) (by kernel_rfl) (by kernel_rfl)) ?_
 intro W base args ds gs before hval0 hW hcnd _
 have hval : ∀ (j : Nat) t v, Tryz.f7.params[j]? = some t -> args[j]? = some v -> Value.okWide Tryz.prog W .any base t v := hval0
 have hW' := hW
 obtain ⟨p, q, hA0, hV, rfl, hfz, hnd⟩ := hW
 have hA : DataW.TrodAll enc Tryz.prog W 0 (fun _ => true) true Tryz.f7.params.toList args.toList ds p := hA0
 rw [Tryz.params7] at hA hval
 obtain ⟨v0, vs0, d0, ds0, p0, q0, hargs0, rfl, rfl, h0, r0⟩ := trodAll_cons hA
 obtain ⟨rfl, rfl, rfl⟩ := trodAll_nil r0
 obtain rfl : args = #[v0] := by cases args; simp_all
 obtain ⟨rfl, rfl⟩ := trodVars_none hV
 have k0 := h0
 have lt0 : ∀ x ∈ p0, x.block < W.heap.size := by obtain ⟨m, hm⟩ := k0; exact DataW.trod_lt m _ _ _ hm
 obtain ⟨x0, am0, ad0, cm0, cd0, ms0, ds0, rfl, g0m, g0d⟩ := open_arr (hval 0 27 v0 rfl rfl) h0
 clear hA0 hval0
 refine (fnExactBuildAll_walk x0 am0 ad0 ms0.length cm0 ds0.length cd0 ms0 ds0 W g0m g0d).mono fun e W' ⟨he, bel⟩ => ?_
 subst he
 exact ⟨_, rfl, _, _, _, [], _, [], hW', trodAll_mk1 (shut_bool Tryz.underlying4 _), (trodAll_cons_mk (Below.trod laidOut (by kernel_rfl) (of_decide_eq_true (by kernel_rfl)) k0 bel lt0) trodAll_mk0), rfl, bel.frame _, fun h => by cases h⟩

theorem over : Rows.fnExactBuildAllRow.holds Tryz.pinned (OpenSpec.ofChange Rows.fnExactBuildAllSpec) :=
 OpenClaim.holds_of_wide 7 Tryz.f7 rfl rfl rfl rfl rfl rfl rfl ⟨rfl, rfl, rfl, rfl, rfl⟩ rfl rfl rfl rfl rfl (by kernel_rfl) Tryz.func7 (by kernel_rfl)
  (of_decide_eq_true (by kernel_rfl)) (by unfold Func.isWrapper; first | (rw [if_pos (by decide +kernel)]; kernel_rfl) | (rw [if_neg (by decide +kernel)]; exact ⟨rfl, rfl⟩))
  (fun os started H enc _ => lifted os started H enc)
end Go.Proofs.YtechckninoilhaaGreat.fnExactBuildAll

namespace Go.Proofs.YtechckninoilhaaGreat
theorem fnExactBuildAll_holds : Rows.FnExactBuildAllSaid := fnExactBuildAll.over
#print axioms fnExactBuildAll_holds
end Go.Proofs.YtechckninoilhaaGreat


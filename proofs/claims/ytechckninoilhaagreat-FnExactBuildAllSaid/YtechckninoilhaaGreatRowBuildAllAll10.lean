/-
 What the operations on an array's disks make of it: one operation counted, a sector written, all flushed, marked, checked; what they keep. Plain lemmas. No condition.
-/
import Derived.Test.YtechckninoilhaaGreatRowBuildAllAll11
import Derived.Test.YtechckninoilhaaGreatHeld
import Derived.Test.YtechckninoilhaaGreatRowBuildAllAll13
import Derived.Test.YtechckninoilhaaGreatRowBuildAllAll12
import Derived.Test.YtechckninoilhaaGreatWalkSecOk
import Derived.Test.YtechckninoilhaaGreatData
import Derived.Test.YtechckninoilhaaGreatBox
import Derived.Test.YtechckninoilhaaGreatArr7
import Derived.Test.YtechckninoilhaaGreatWalkArrOk

set_option maxRecDepth 100000
set_option maxHeartbeats 8000000
set_option linter.unusedSimpArgs false

namespace Go.Proofs.YtechckninoilhaaGreat
open Go.RowKit

theorem l2Without_any (w : World) (a : Option Addr) (len cap : Nat) (zs : List Int) (n : Int) (h : tIntS.Rd w [.slice a len cap] zs) (hlen : len <= 2097152) :
 Calls Tryz.prog 154 #[.slice a len cap, .int .i64 n] w fun e w' => ∃ v, e = .returned v /\ tIntS.Own w' w.heap.size w'.heap.size [v] (filt zs n) /\ Below w.heap.size w w' := by
 obtain ⟨hr, hl, _, _⟩ := ints_rd h
 obtain ⟨i3, hi3, hx0, hx1, hx2⟩ := info_parts Tryz.info3
 go_enter Tryz.func154, Tryz.ntmps154
 go_wp2
 go_loopw [5, 6] (fun v i wr => ∃ (j : Nat) (fp : List Nat), j <= len /\ i = .int .i64 j /\ tIntS.Mine wr [v] (filt (zs.take j) n) fp /\ (∀ b ∈ fp, w.heap.size <= b) /\ Below w.heap.size w wr) (fun _ i _ => len - (intOf i).toNat)
 case atStart => exact ⟨0, [w.heap.size], Nat.zero_le _, rfl, lit0_mine _, by simp, (Below.refl _ _).alloc (Nat.le_refl _) _⟩
 obtain ⟨j, fp, hj, rfl, hm, hfp, hb⟩ := hrel
 have hs := hb.size
 by_cases hlt : j < len
 . rcases hr.cases with h0 | ⟨b, off, rfl, hbl, hcz⟩
   . omega
   have hc1 := (hb.cell (p := ⟨b, off + j, none⟩) hbl).trans (hcz j (by omega))
   have htk : zs.take (j + 1) = zs.take j ++ [zs.getD j 0] := by rw [List.take_add_one, List.getD_eq_getElem?_getD, List.getElem?_eq_getElem (by omega)]; rfl
   generalize zs.getD j 0 = x at hc1 htk
   have k1 : (0 : Int) <= (j : Int) := by omega
   have k2 : (j : Int) < (len : Int) := by omega
   have HTK := hidden htk
   clear hcz htk
   by_cases hxn : x = n
   . have HF : Hid (filt (zs.take (j + 1)) n = filt (zs.take j) n) := by unfold Hid; rw [HTK.out, filt_snoc, if_pos hxn]
     subst hxn
     go_wp2
     go_roundw
     case rel => exact ⟨j + 1, fp, by omega, by go_num, by rw [HF.out]; exact hm, hfp, hb⟩
     case measure => simp [intOf]; omega
   have HF : Hid (filt (zs.take (j + 1)) n = filt (zs.take j) n ++ [x]) := by unfold Hid; rw [HTK.out, filt_snoc, if_neg hxn]
   have MA := hidden (hm.alloc (.cells #[.int .i64 x] 3))
   have LI : Hid (intTy.Mine (wr.alloc (.cells #[.int .i64 x] 3)) [.int .i64 x] x []) := ⟨⟨rfl, rfl⟩, by simp⟩
   have NN := hidden (news_new wr #[.int .i64 x] 3)
   have BA := hidden (hb.alloc hs (.cells #[.int .i64 x] 3))
   have ZA : Hid ((wr.alloc (.cells #[.int .i64 x] 3)).heap.size = wr.heap.size + 1) := by unfold Hid; simp
   have hkl := filt_length (zs.take j) n
   rw [List.length_take] at hkl
   have L1 : Hid ((filt (zs.take j) n).length + 1 <= maxLen) := by unfold Hid maxLen; omega
   have L2 : Hid (((filt (zs.take j) n).length + 1) * 8 <= 140737488355328) := by unfold Hid; omega
   have HFP := hidden hfp
   clear hm hfp hb hkl
   go_wp2_with (at_builtin; refine wpList_appT intTy rfl (.tmp 20) (.tmp 25) 49 rfl 3 i3 (.int .i64 0) 8 Tryz.underlying49 hi3 hx0 hx1 hx2 rfl Nat.zero_lt_one u5 (filt (zs.take j) n) fp rfl ?_ ⟨wr.heap.size, 0, none⟩ 1 [.int .i64 x] x [] rfl ?_ ?_ ?_ ?_ ?_ ?_ ?_; exact MA.out; exact LI.out; simp; exact NN.out; (intro u hu; simp at hu; rw [hu]; rfl); exact L1.out; exact L2.out; intro v2 w2 fp2 m1 m2 m3; rw [← HF.out] at m1; have M1 := hidden m1; have M2 := hidden m2; have M3 := hidden m3; clear m1 m2 m3)
   have hf2 : ∀ b ∈ fp2, w.heap.size <= b := fun b hb => by
    rcases M2.out b hb with h | h | h
    . exact HFP.out b h
    . simp at h
    have h1 := h.1
    have h2 := ZA.out
    omega
   have HB := hidden (BA.out.trans (M3.out.below (N := w.heap.size) (by have := ZA.out; omega) (fun b hb => HFP.out b hb)))
   have HF2 := hidden hf2
   clear hf2
   go_roundw
   case rel => exact ⟨j + 1, fp2, by omega, by go_num, M1.out, HF2.out, HB.out⟩
   case measure => simp [intOf]; omega
 have e : j = len := by omega
 subst e
 rw [List.take_of_length_le (by omega)] at hm
 have hltb := hm.lt
 have HO := hidden (hm.own (lo := w.heap.size) (hi := wr.heap.size) (fun b hb' => ⟨hfp b hb', hltb b hb'⟩))
 go_wp2
 go_ret
 exact ⟨_, rfl, HO.out, hb⟩

theorem specWriteSec_any (w : World) (E : TypeId) (a0 a1 a3 a5 : Option Addr) (n0 c0 n1 c1 n3 c3 n5 c5 : Nat) (ss : List (List Int)) (cs : List (Int × List Int)) (f : Bool) (bs : List Int) (n : Int) (sw : List Int) (h0 : tIntSS.Rd w [.slice a0 n0 c0] ss) (h1 : (tWrS E).Rd w [.slice a1 n1 c1] cs) (h3 : tIntS.Rd w [.slice a3 n3 c3] bs) (h5 : tIntS.Rd w [.slice a5 n5 c5] sw) (hw : wtMem (ss, cs, f, bs) <= 2097152) (hw5 : n5 <= 2097152) :
 Calls Tryz.prog 129 #[.agg #[.slice a0 n0 c0, .slice a1 n1 c1, .bool f, .slice a3 n3 c3], .int .i64 n, .slice a5 n5 c5] w fun e w' => ∃ v0 v1 v3, e = .returned (.tuple #[.agg #[v0, v1, .bool f, v3], .bool (wrOk ss cs f bs n sw)]) /\ (tMem 109).Own w' w.heap.size w'.heap.size [v0, v1, .bool f, v3] (ss, wrCS ss cs f bs n sw, f, wrBS ss cs f bs n sw) /\ Below w.heap.size w w' := by
 obtain ⟨hl0, _, hm0⟩ := row_length h0
 obtain ⟨hl1, _, hm1⟩ := row_length h1
 obtain ⟨hl3, _, hm3⟩ := row_length h3
 obtain ⟨hl5, _, hm5⟩ := row_length h5
 have hA : Below w.heap.size w ((w.alloc (.cells #[.slice a0 n0 c0, .slice a1 n1 c1, .bool f, .slice a3 n3 c3] 51)).alloc (.cells #[.slice none 0 0, .slice none 0 0, .bool false, .slice none 0 0] 51)) := ((Below.refl _ _).alloc (Nat.le_refl _) _).alloc (by simp) _
 have xm : Box ((w.alloc (.cells #[.slice a0 n0 c0, .slice a1 n1 c1, .bool f, .slice a3 n3 c3] 51)).alloc (.cells #[.slice none 0 0, .slice none 0 0, .bool false, .slice none 0 0] 51)) w.heap.size 51 #[.slice a0 n0 c0, .slice a1 n1 c1, .bool f, .slice a3 n3 c3] := (Box.new w _ _).alloc _
 have xr : Box ((w.alloc (.cells #[.slice a0 n0 c0, .slice a1 n1 c1, .bool f, .slice a3 n3 c3] 51)).alloc (.cells #[.slice none 0 0, .slice none 0 0, .bool false, .slice none 0 0] 51)) (w.heap.size + 1) 51 #[.slice none 0 0, .slice none 0 0, .bool false, .slice none 0 0] := by
  have := Box.new (w.alloc (.cells #[.slice a0 n0 c0, .slice a1 n1 c1, .bool f, .slice a3 n3 c3] 51)) 51 #[.slice none 0 0, .slice none 0 0, .bool false, .slice none 0 0]
  rw [show (w.alloc (.cells #[.slice a0 n0 c0, .slice a1 n1 c1, .bool f, .slice a3 n3 c3] 51)).heap.size = w.heap.size + 1 by simp] at this
  exact this
 go_enter Tryz.func129, Tryz.ntmps129
 go_wp2_with fail
 generalize hW : (w.alloc (.cells #[.slice a0 n0 c0, .slice a1 n1 c1, .bool f, .slice a3 n3 c3] 51)).alloc (.cells #[.slice none 0 0, .slice none 0 0, .bool false, .slice none 0 0] 51) = W at hA xm xr ⊢
 clear hW
 have zr := xr.lt
 have B0 := hidden hA
 clear hA
 have XM0 := hidden xm
 clear xm
 have XR0 := hidden xr
 clear xr
 refine (l2Copy_any _ E _ _ _ _ _ _ _ _ _ ss cs f bs (h0.below B0.out) (h1.below B0.out) (h3.below B0.out) hw).mono ?_
 intro e w1 hc
 obtain ⟨b0, b1, b3, e0, e1, e3, m1, m2, rfl, o3, o0, o1, r1, r2, r3, hb1⟩ := copy_shapes hl0 hl1 hl3 hc
 clear hc
 have B1 := hidden (Below.andThen B0.out hb1)
 have XM1 := hidden (XM0.out.below hb1 (by omega))
 have XR1 := hidden (XR0.out.below hb1 (by omega))
 have z1 := hb1.size
 clear B0 XM0 XR0 hb1
 have S1 := hidden o0
 clear o0
 have C1 := hidden o1
 clear o1
 have D1 := hidden o3
 clear o3
 have ba : Below w1.heap.size w1 (w1.alloc (.cells #[.slice b0 n0 e0, .slice b1 n1 e1, .bool f, .slice b3 n3 e3] 51)) := (Below.refl _ _).alloc (Nat.le_refl _) _
 have yo := Box.new w1 51 #[.slice b0 n0 e0, .slice b1 n1 e1, .bool f, .slice b3 n3 e3]
 have zo := yo.lt
 have B2 := hidden (Below.andThen B1.out ba)
 have XM2 := hidden (XM1.out.below ba (by omega))
 have XR2 := hidden (XR1.out.below ba (by omega))
 have S2 := hidden (S1.out.below ba)
 have C2 := hidden (C1.out.below ba)
 have D2 := hidden (D1.out.below ba)
 have z2 := ba.size
 clear B1 XM1 XR1 S1 C1 D1 ba
 have XO2 := hidden yo
 clear yo
 have sW : w.heap.size + 1 < W.heap.size := zr
 obtain ⟨q0, q1, q2, q3⟩ := XM2.out.cells4
 go_wp2_with fail
 generalize w1.alloc (.cells #[.slice b0 n0 e0, .slice b1 n1 e1, .bool f, .slice b3 n3 e3] 51) = w2 at B2 XM2 XR2 S2 C2 D2 XO2 z2 zo q0 q1 q2 q3 ⊢
 refine (specMemOk_any _ E _ _ _ _ _ _ _ _ _ ss cs f bs (h0.below B2.out) (h1.below B2.out) (h3.below B2.out) hw).mono ?_
 rintro e w3 ⟨rfl, hb3⟩
 clear q0 q1 q2 q3
 have B3 := hidden (Below.andThen B2.out hb3)
 have XM3 := hidden (XM2.out.below hb3 (by omega))
 have XR3 := hidden (XR2.out.below hb3 (by omega))
 have S3 := hidden (S2.out.below hb3)
 have C3 := hidden (C2.out.below hb3)
 have D3 := hidden (D2.out.below hb3)
 have XO3 := hidden (XO2.out.below hb3 (by omega))
 have z3 := hb3.size
 clear B2 XM2 XR2 S2 C2 D2 XO2 hb3
 cases hM : memB ss cs bs
 . have HK : Hid (wrOk ss cs f bs n sw = false /\ wrCS ss cs f bs n sw = cs /\ wrBS ss cs f bs n sw = bs) := by
    have hk : wrOk ss cs f bs n sw = false := by unfold wrOk; simp [hM]
    unfold wrCS wrBS
    exact ⟨hk, by rw [hk]; rfl, by rw [hk]; rfl⟩
   obtain ⟨q0, q1, q2, q3⟩ := XM3.out.cells4
   obtain ⟨x0, x1, x2, x3⟩ := XO3.out.cells4
   obtain ⟨p0, p1, p2, p3⟩ := XR3.out.cells4
   have fz := XR3.out.frozen
   have FIN := hidden (mem_ret (f := f) B3.out D3.out S3.out C3.out r2 r1 r3 (by omega) sW (by omega))
   clear B3 XM3 XR3 S3 C3 D3 XO3
   go_wp2
   refine bodyPost_ret (v := .tuple #[.agg #[.slice b0 n0 e0, .slice b1 n1 e1, .bool f, .slice b3 n3 e3], .bool false]) (by simp [results, Tryz.results129, go_sem, p0, p1, p2, p3]) rfl ?_
   exact ⟨_, _, _, by rw [HK.out.1], by rw [HK.out.2.1, HK.out.2.2]; exact FIN.out.1, FIN.out.2⟩
 cases f
 rotate_left
 . skip
   have HK : Hid (wrOk ss cs true bs n sw = false /\ wrCS ss cs true bs n sw = cs /\ wrBS ss cs true bs n sw = bs) := by
    have hk : wrOk ss cs true bs n sw = false := by unfold wrOk; simp [hM]
    unfold wrCS wrBS
    exact ⟨hk, by rw [hk]; rfl, by rw [hk]; rfl⟩
   obtain ⟨q0, q1, q2, q3⟩ := XM3.out.cells4
   obtain ⟨x0, x1, x2, x3⟩ := XO3.out.cells4
   obtain ⟨p0, p1, p2, p3⟩ := XR3.out.cells4
   have fz := XR3.out.frozen
   have FIN := hidden (mem_ret (f := true) B3.out D3.out S3.out C3.out r2 r1 r3 (by omega) sW (by omega))
   clear B3 XM3 XR3 S3 C3 D3 XO3
   go_wp2
   refine bodyPost_ret (v := .tuple #[.agg #[.slice b0 n0 e0, .slice b1 n1 e1, .bool true, .slice b3 n3 e3], .bool false]) (by simp [results, Tryz.results129, go_sem, p0, p1, p2, p3]) rfl ?_
   exact ⟨_, _, _, by rw [HK.out.1], by rw [HK.out.2.1, HK.out.2.2]; exact FIN.out.1, FIN.out.2⟩
 obtain ⟨q0, q1, q2, q3⟩ := XM3.out.cells4
 have gw : IntKind.i64.wrap ((n0 : Int) - 1) = (n0 : Int) - 1 := IntWalk.i64_in _ (by omega)
 go_wp2_with fail
 refine (l1In_any _ _ _ _).mono ?_
 rintro e w4 ⟨rfl, hw4⟩
 have hs4 : Same w3 w4 := by rw [hw4]; exact Same.refl _
 clear hw4 gw
 clear q0 q1 q2 q3
 have B4 := hidden (Below.andSame B3.out hs4)
 have XM4 := hidden (XM3.out.same hs4)
 have XR4 := hidden (XR3.out.same hs4)
 have S4 := hidden (S3.out.same hs4)
 have C4 := hidden (C3.out.same hs4)
 have D4 := hidden (D3.out.same hs4)
 have XO4 := hidden (XO3.out.same hs4)
 have z4 := Nat.le_of_eq hs4.size.symm
 clear B3 XM3 XR3 S3 C3 D3 XO3 hs4
 cases hI : inB n 0 ((n0 : Int) - 1)
 . have hI2 : inB n 0 ((ss.length : Int) - 1) = false := by rw [hl0]; exact hI
   have HK : Hid (wrOk ss cs false bs n sw = false /\ wrCS ss cs false bs n sw = cs /\ wrBS ss cs false bs n sw = bs) := by
    have hk : wrOk ss cs false bs n sw = false := by unfold wrOk; simp [hI2]
    unfold wrCS wrBS
    exact ⟨hk, by rw [hk]; rfl, by rw [hk]; rfl⟩
   obtain ⟨q0, q1, q2, q3⟩ := XM4.out.cells4
   obtain ⟨x0, x1, x2, x3⟩ := XO4.out.cells4
   obtain ⟨p0, p1, p2, p3⟩ := XR4.out.cells4
   have fz := XR4.out.frozen
   have FIN := hidden (mem_ret (f := false) B4.out D4.out S4.out C4.out r2 r1 r3 (by omega) sW (by omega))
   clear B4 XM4 XR4 S4 C4 D4 XO4
   go_wp2
   refine bodyPost_ret (v := .tuple #[.agg #[.slice b0 n0 e0, .slice b1 n1 e1, .bool false, .slice b3 n3 e3], .bool false]) (by simp [results, Tryz.results129, go_sem, p0, p1, p2, p3]) rfl ?_
   exact ⟨_, _, _, by rw [HK.out.1], by rw [HK.out.2.1, HK.out.2.2]; exact FIN.out.1, FIN.out.2⟩
 obtain ⟨q0, q1, q2, q3⟩ := XM4.out.cells4
 go_wp2_with fail
 refine (specSecOk_any _ _ _ _ sw hl5 (ints_rd (h5.below B4.out)).1 hw5).mono ?_
 rintro e w5 ⟨rfl, hs5⟩
 clear q0 q1 q2 q3
 have B5 := hidden (Below.andSame B4.out hs5)
 have XM5 := hidden (XM4.out.same hs5)
 have XR5 := hidden (XR4.out.same hs5)
 have S5 := hidden (S4.out.same hs5)
 have C5 := hidden (C4.out.same hs5)
 have D5 := hidden (D4.out.same hs5)
 have XO5 := hidden (XO4.out.same hs5)
 have z5 := Nat.le_of_eq hs5.size.symm
 clear B4 XM4 XR4 S4 C4 D4 XO4 hs5
 cases hS : secB sw
 . have HK : Hid (wrOk ss cs false bs n sw = false /\ wrCS ss cs false bs n sw = cs /\ wrBS ss cs false bs n sw = bs) := by
    have hk : wrOk ss cs false bs n sw = false := by unfold wrOk; simp [hS]
    unfold wrCS wrBS
    exact ⟨hk, by rw [hk]; rfl, by rw [hk]; rfl⟩
   obtain ⟨q0, q1, q2, q3⟩ := XM5.out.cells4
   obtain ⟨x0, x1, x2, x3⟩ := XO5.out.cells4
   obtain ⟨p0, p1, p2, p3⟩ := XR5.out.cells4
   have fz := XR5.out.frozen
   have FIN := hidden (mem_ret (f := false) B5.out D5.out S5.out C5.out r2 r1 r3 (by omega) sW (by omega))
   clear B5 XM5 XR5 S5 C5 D5 XO5
   go_wp2
   refine bodyPost_ret (v := .tuple #[.agg #[.slice b0 n0 e0, .slice b1 n1 e1, .bool false, .slice b3 n3 e3], .bool false]) (by simp [results, Tryz.results129, go_sem, p0, p1, p2, p3]) rfl ?_
   exact ⟨_, _, _, by rw [HK.out.1], by rw [HK.out.2.1, HK.out.2.2]; exact FIN.out.1, FIN.out.2⟩
 by_cases hL : n1 < 60
 rotate_left
 . have hL' : (60 : Int) <= (n1 : Int) := by omega
   have hL2 : ¬ cs.length < 60 := by omega
   have HK : Hid (wrOk ss cs false bs n sw = false /\ wrCS ss cs false bs n sw = cs /\ wrBS ss cs false bs n sw = bs) := by
    have hk : wrOk ss cs false bs n sw = false := by unfold wrOk; simp [hL2]
    unfold wrCS wrBS
    exact ⟨hk, by rw [hk]; rfl, by rw [hk]; rfl⟩
   obtain ⟨q0, q1, q2, q3⟩ := XM5.out.cells4
   obtain ⟨x0, x1, x2, x3⟩ := XO5.out.cells4
   obtain ⟨p0, p1, p2, p3⟩ := XR5.out.cells4
   have fz := XR5.out.frozen
   have FIN := hidden (mem_ret (f := false) B5.out D5.out S5.out C5.out r2 r1 r3 (by omega) sW (by omega))
   clear B5 XM5 XR5 S5 C5 D5 XO5
   go_wp2
   refine bodyPost_ret (v := .tuple #[.agg #[.slice b0 n0 e0, .slice b1 n1 e1, .bool false, .slice b3 n3 e3], .bool false]) (by simp [results, Tryz.results129, go_sem, p0, p1, p2, p3]) rfl ?_
   exact ⟨_, _, _, by rw [HK.out.1], by rw [HK.out.2.1, HK.out.2.2]; exact FIN.out.1, FIN.out.2⟩
 have hL' : ¬ (60 : Int) <= (n1 : Int) := by omega
 have HK : Hid (wrOk ss cs false bs n sw = true /\ wrCS ss cs false bs n sw = cs ++ [(n, sw)] /\ wrBS ss cs false bs n sw = filt bs n) := by
  have hk : wrOk ss cs false bs n sw = true := by unfold wrOk; rw [hM, hl0, hI, hS, decide_eq_true (by omega)]; rfl
  unfold wrCS wrBS
  exact ⟨hk, by rw [hk]; rfl, by rw [hk]; rfl⟩
 clear hM hI hS
 obtain ⟨q0, q1, q2, q3⟩ := XM5.out.cells4
 obtain ⟨x0, x1, x2, x3⟩ := XO5.out.cells4
 have hle : ¬ (60 : Int) <= (n1 : Int) := by omega
 have hlw3 : n3 <= 2097152 := by unfold wtMem at hw; simp only at hw; omega
 go_wp2_with fail
 clear q0 q1 q2 q3
 obtain ⟨i1, hi1, hy0, hy1, hy2⟩ := info_parts Tryz.infoWr
 obtain ⟨i3, hi3, hx0, hx1, hx2⟩ := info_parts Tryz.info3
 obtain ⟨fpC, mC, rC⟩ := C5.out.mine
 have MC := hidden mC
 have RC := hidden rC
 clear mC rC
 have HX5 := hidden (h5.below B5.out)
 have L1 : Hid (cs.length + 1 <= maxLen) := by unfold Hid maxLen; omega
 have L2 : Hid ((cs.length + 1) * 32 <= 140737488355328) := by unfold Hid; omega
 have hS : w5.drew.cell? ⟨w1.heap.size, 1, none⟩ = some (.slice b1 n1 e1) := XO5.out.cell 1
 clear x0 x1 x2 x3 hle
 have bA : Below w5.heap.size w5 (w5.alloc (.cells #[] 3)) := (Below.refl _ _).alloc (Nat.le_refl _) _
 have hS2 : (w5.alloc (.cells #[] 3)).drew.cell? ⟨w1.heap.size, 1, none⟩ = some (.slice b1 n1 e1) := (XO5.out.alloc (.cells #[] 3)).cell 1
 have HG : Hid ((w5.alloc (.cells #[] 3)).drew.heap[w5.heap.size]? = some (.cells #[] 3 (0, 0))) := Box.new w5 3 #[]
 have RD : Hid (tIntS.Rd (w5.alloc (.cells #[] 3)).drew [.slice a5 n5 c5] sw) := (HX5.out.below bA).drew
 have BA := hidden bA
 clear bA
 refine Upto.start (S := fun w' => w'.cell? ⟨w1.heap.size, 1, none⟩ = some (.slice b1 n1 e1)) (k := 10) (by kernel_rfl) ?_
 refine Upto.t 0 hS ?_
 refine Upto.t 1 hS ?_
 refine Upto.t 2 hS ?_
 refine Upto.t 4 hS ?_
 refine Upto.one (i := 3) (by kernel_rfl) rfl (fun K hK => ?_)
 go_simp
 refine hK.out _ _ (fun _ => hS2) ?_
 clear hK K
 refine Upto.one (i := 5) (by kernel_rfl) rfl (fun K hK => ?_)
 refine step_copy (by rfl) _ _ 49 (by rfl) i3 Tryz.underlying49 hi3 hx0 hx1 hx2 w5.heap.size (by rfl) HG.out a5 n5 c5 sw (by rfl) RD.out (by omega) ?_
 intro ac cc wc fpx mx rx tx
 have tx' : Turned [w5.heap.size] (w5.alloc (.cells #[] 3)) wc := Turned.undrew tx
 have zA : (w5.alloc (.cells #[] 3)).heap.size = w5.heap.size + 1 := by simp
 have zd : (w5.alloc (.cells #[] 3)).drew.heap.size = (w5.alloc (.cells #[] 3)).heap.size := rfl
 have hbc : Below w5.heap.size w5 wc := BA.out.trans (tx'.below (N := w5.heap.size) (by omega) (by simp))
 have RX : Hid (∀ b ∈ fpx, w5.heap.size <= b /\ b < wc.heap.size) := fun b hb => by have := rx b hb; omega
 have MX := hidden mx
 clear mx rx tx tx' zA zd
 have xoc : Box wc w1.heap.size 51 _ := XO5.out.below hbc (by omega)
 have hS3 : wc.cell? ⟨w1.heap.size, 1, none⟩ = some (.slice b1 n1 e1) := xoc.cell 1
 have hS4 : (wc.alloc (.cells #[.int .i64 n, .slice ac n5 cc] 109)).cell? ⟨w1.heap.size, 1, none⟩ = some (.slice b1 n1 e1) := (xoc.alloc (.cells #[.int .i64 n, .slice ac n5 cc] 109)).cell 1
 have XOC := hidden xoc
 have HBC := hidden hbc
 clear xoc hbc
 refine hK.out _ _ (fun _ => hS3) ?_
 clear hK K
 simp only [Act.put, List.setIfInBounds_toArray, List.set_cons_zero, List.set_cons_succ]
 refine Upto.t 6 hS3 ?_
 refine Upto.one (i := 7) (by kernel_rfl) rfl (fun K hK => ?_)
 go_simp
 refine hK.out _ _ (fun _ => hS4) ?_
 clear hK K
 refine Upto.one (i := 8) (by kernel_rfl) rfl (fun K hK => ?_)
 refine step_appT tWr (by rfl) _ _ 48 (by rfl) 109 i1 (.agg #[.int .i64 0, .slice none 0 0]) 32 Tryz.underlying48 hi1 hy0 hy1 hy2 rfl Nat.zero_lt_two (.slice b1 n1 e1) cs fpC (by rfl) ?_ ⟨wc.heap.size, 0, none⟩ 1 [.int .i64 n, .slice ac n5 cc] (n, sw) fpx (by rfl) ?_ ?_ ?_ ?_ L1.out L2.out ?_
 . exact (MC.out.below HBC.out).alloc _
 . exact (wr_mine n MX.out).alloc _
 . intro b hb hb'
   have h1 := RC.out b hb
   have h2 := RX.out b hb'
   omega
 . exact news_new _ _ _
 . intro u hu
   simp at hu
   rcases hu with hu | hu <;> (rw [hu]; rfl)
 intro g cap wA fpA m1' m2' m3'
 rw [hl1] at m1' ⊢
 have zB : (wc.alloc (.cells #[.int .i64 n, .slice ac n5 cc] 109)).heap.size = wc.heap.size + 1 := by simp
 have ya : Box wA w1.heap.size 51 _ := (XOC.out.alloc _).turned m3' (fun hm => by have := RC.out _ hm; omega)
 have hS5 : wA.cell? ⟨w1.heap.size, 1, none⟩ = some (.slice b1 n1 e1) := ya.cell 1
 have c9 := hS5
 have fz := ya.frozen 1
 have YA := hidden ya
 have M1 := hidden m1'
 have M2 := hidden m2'
 have M3 := hidden m3'
 have ZB := hidden zB
 clear ya m1' m2' m3' zB
 refine hK.out _ _ (fun _ => hS5) ?_
 clear hK K
 simp only [Act.put, List.setIfInBounds_toArray, List.set_cons_zero, List.set_cons_succ]
 refine Upto.t 9 hS5 ?_
 refine Upto.one (i := 10) (by kernel_rfl) rfl (fun K hK => ?_)
 go_simp
 refine hK.out _ _ (fun h => absurd rfl h) ?_
 clear hK K
 refine Upto.done (by kernel_rfl) ?_ _
 have zc := HBC.out.size
 have zA := M3.out.size
 have zB := ZB.out
 have hb6 : But m2 (w1.heap.size + 1) w5 (wA.setCell ⟨w1.heap.size, 1, none⟩ (.slice (some ⟨g, 0, none⟩) (n1 + 1) cap)) := ((But.of_below (Below.andThen HBC.out ((Below.refl _ _).alloc (Nat.le_refl _) _))).trans (M3.out.but (fun b hb => by have := RC.out b hb; omega))).trans (But.setCell (by omega) (by omega) _)
 have rA : ∀ b ∈ fpA, m2 <= b /\ b ≠ w1.heap.size /\ b < wA.heap.size := fun b hb => by
  have hlt := M1.out.lt b hb
  rcases M2.out b hb with h | h | h
  . have := RC.out b h
    omega
  . have := RX.out b h
    omega
  have := h.1
  omega
 have mZ := M1.out.setCell (g := w1.heap.size) (j := 1) (fun hm => by have := rA _ hm; omega) (.slice (some ⟨g, 0, none⟩) (n1 + 1) cap)
 have yZ := YA.out.set 1 (.slice (some ⟨g, 0, none⟩) (n1 + 1) cap)
 have zs : wA.heap.size <= (wA.setCell ⟨w1.heap.size, 1, none⟩ (.slice (some ⟨g, 0, none⟩) (n1 + 1) cap)).heap.size := by simp
 have MZ := hidden mZ
 have RZ : Hid (∀ b ∈ fpA, m2 <= b /\ b ≠ w1.heap.size /\ b < (wA.setCell ⟨w1.heap.size, 1, none⟩ (.slice (some ⟨g, 0, none⟩) (n1 + 1) cap)).heap.size) := fun b hb => by have := rA b hb; omega
 have YZ := hidden yZ
 clear mZ rA yZ zs zA zB zc hS hS3 hS4 hS5 c9 fz YA M1 M2 M3 ZB XOC MX RX HBC MC RC HX5 L1 L2 hS2 HG RD BA
 clear XO5
 clear C5
 have B6 := hidden (Below.andBut B5.out hb6 (by omega))
 have XM6 := hidden (XM5.out.kept (hb6.block _ (by omega) (by omega)))
 have XR6 := hidden (XR5.out.kept (hb6.block _ (by omega) (by omega)))
 have S6 := hidden (S5.out.but hb6 (by omega))
 have D6 := hidden (D5.out.but hb6 (by omega))
 have z6 := hb6.size
 clear B5 XM5 XR5 S5 D5 hb6
 generalize (wA.setCell ⟨w1.heap.size, 1, none⟩ (.slice (some ⟨g, 0, none⟩) (n1 + 1) cap)) = w6 at B6 XM6 XR6 S6 D6 z6 MZ RZ YZ ⊢
 have XO6 : Hid (Box w6 w1.heap.size 51 #[.slice b0 n0 e0, .slice (some ⟨g, 0, none⟩) (n1 + 1) cap, .bool false, .slice b3 n3 e3]) := YZ.out
 clear YZ
 obtain ⟨q0, q1, q2, q3⟩ := XM6.out.cells4
 go_wp2_with fail
 refine (l2Without_any _ _ _ _ bs n (h3.below B6.out) (by omega)).mono ?_
 rintro e wb ⟨vd, rfl, od, hbB⟩
 obtain ⟨d3, f3, hvd⟩ := row_shape od.rd
 subst hvd
 have zb := hbB.size
 have xob : Box wb w1.heap.size 51 _ := XO6.out.below hbB (by omega)
 obtain ⟨x0, x1, x2, x3⟩ := xob.cells4
 have fz := xob.frozen 3
 have XOB := hidden xob
 have OD := hidden od
 have HBB := hidden hbB
 clear xob od hbB q0 q1 q2 q3
 have bs9 := But.setCell (lo := w1.heap.size) (hi := w1.heap.size + 1) (g := w1.heap.size) (j := 3) (w := wb) (Nat.le_refl _) (Nat.lt_succ_self _) (.slice d3 (filt bs n).length f3)
 have zt := bs9.size
 have MY := hidden ((MZ.out.below HBB.out).but bs9 (fun b hb => by have := RZ.out b hb; omega))
 have YZ := hidden (XOB.out.set 3 (.slice d3 (filt bs n).length f3))
 have D7 := hidden (OD.out.but bs9 (.inr (by omega)))
 have S7 := hidden ((S6.out.below HBB.out).but bs9 (.inl (by omega)))
 have XR7 := hidden ((XR6.out.below HBB.out (by omega)).kept (bs9.block _ (by omega) (by omega)))
 have B7 := hidden (Below.andBut (Below.andThen B6.out HBB.out) bs9 (by omega))
 have RY : Hid (∀ b ∈ fpA, m2 <= b /\ b < w6.heap.size) := fun b hb => by have := RZ.out b hb; omega
 have z7 : wb.heap.size <= (wb.setCell ⟨w1.heap.size, 3, none⟩ (.slice d3 (filt bs n).length f3)).heap.size := zt
 clear bs9 zt XOB OD HBB MZ RZ B6 XM6 XR6 S6 D6 XO6
 obtain ⟨t0, t1, t2, t3⟩ := Box.cells4 (v0 := .slice b0 n0 e0) (v1 := .slice (some ⟨g, 0, none⟩) (n1 + 1) cap) (v2 := .bool false) (v3 := .slice d3 (filt bs n).length f3) YZ.out
 obtain ⟨p0, p1, p2, p3⟩ := XR7.out.cells4
 have fr := XR7.out.frozen
 go_wp2
 generalize (wb.setCell ⟨w1.heap.size, 3, none⟩ (.slice d3 (filt bs n).length f3)) = w7 at B7 S7 D7 XR7 MY RY YZ z7 p0 p1 p2 p3 fr t0 t1 t2 t3 ⊢
 have hbt : But (w.heap.size + 1) (w.heap.size + 1 + 1) w7 ((((w7.setCell ⟨w.heap.size + 1, 0, none⟩ (.slice b0 n0 e0)).setCell ⟨w.heap.size + 1, 1, none⟩ (.slice (some ⟨g, 0, none⟩) (n1 + 1) cap)).setCell ⟨w.heap.size + 1, 2, none⟩ (.bool false)).setCell ⟨w.heap.size + 1, 3, none⟩ (.slice d3 (filt bs n).length f3)) :=
  (((But.setCell (by omega) (by omega) _).trans (But.setCell (by omega) (by omega) _)).trans (But.setCell (by omega) (by omega) _)).trans (But.setCell (by omega) (by omega) _)
 have z99 := hbt.size
 refine bodyPost_ret (v := .tuple #[.agg #[.slice b0 n0 e0, .slice (some ⟨g, 0, none⟩) (n1 + 1) cap, .bool false, .slice d3 (filt bs n).length f3], .bool true]) (by simp [results, Tryz.results129, go_sem, p0, p1, p2, p3]) rfl ?_
 have FIN : Hid ((tMem 109).Own ((((w7.setCell ⟨w.heap.size + 1, 0, none⟩ (.slice b0 n0 e0)).setCell ⟨w.heap.size + 1, 1, none⟩ (.slice (some ⟨g, 0, none⟩) (n1 + 1) cap)).setCell ⟨w.heap.size + 1, 2, none⟩ (.bool false)).setCell ⟨w.heap.size + 1, 3, none⟩ (.slice d3 (filt bs n).length f3)) w.heap.size ((((w7.setCell ⟨w.heap.size + 1, 0, none⟩ (.slice b0 n0 e0)).setCell ⟨w.heap.size + 1, 1, none⟩ (.slice (some ⟨g, 0, none⟩) (n1 + 1) cap)).setCell ⟨w.heap.size + 1, 2, none⟩ (.bool false)).setCell ⟨w.heap.size + 1, 3, none⟩ (.slice d3 (filt bs n).length f3)).heap.size [.slice b0 n0 e0, .slice (some ⟨g, 0, none⟩) (n1 + 1) cap, .bool false, .slice d3 (filt bs n).length f3] (ss, cs ++ [(n, sw)], false, filt bs n)) := mem_own3 (S7.out.but hbt (by omega)) ((MY.out.own (lo := m2) (hi := w6.heap.size) (fun b hb => RY.out b hb)).but hbt (by omega)) (D7.out.but hbt (by omega)) (by omega) (by omega) (by omega) (by omega) (by omega) (by omega)
 have FB := hidden (Below.andBut B7.out hbt (by omega))
 exact ⟨_, _, _, by rw [HK.out.1], by rw [HK.out.2.1, HK.out.2.2]; exact FIN.out, FB.out⟩

def wsCS (ss : List (List Int)) (cs : List (Int × List Int)) (f : Bool) (bs : List Int) (x : Sup) : List (Int × List Int) := if supB x = true then wrCS ss cs f bs (x.gen % 2) (putD x) else cs
def wsBS (ss : List (List Int)) (cs : List (Int × List Int)) (f : Bool) (bs : List Int) (x : Sup) : List Int := if supB x = true then wrBS ss cs f bs (x.gen % 2) (putD x) else bs
def set4 (w : World) (B : Nat) (v0 v1 v2 v3 : Value) : World := (((w.setCell ⟨B, 0, none⟩ v0).setCell ⟨B, 1, none⟩ v1).setCell ⟨B, 2, none⟩ v2).setCell ⟨B, 3, none⟩ v3
theorem set4_but (w : World) (B : Nat) (v0 v1 v2 v3 : Value) : But B (B + 1) w (set4 w B v0 v1 v2 v3) := by
 unfold set4
 exact (((But.setCell (by omega) (by omega) _).trans (But.setCell (by omega) (by omega) _)).trans (But.setCell (by omega) (by omega) _)).trans (But.setCell (by omega) (by omega) _)
theorem mem_letters2 {w : World} {E : TypeId} {lo hi : Nat} {v0 v1 v3 : Value} {f : Bool} {d : (tMem E).D} (h : (tMem E).Own w lo hi [v0, v1, .bool f, v3] d) : ∃ a0 l0 c0 a1 l1 c1 a3 l3 c3, v0 = .slice a0 l0 c0 /\ v1 = .slice a1 l1 c1 /\ v3 = .slice a3 l3 c3 := by
 obtain ⟨a0, c0, a1, c1, a3, c3, h0, h1, _, h3, _⟩ := mem_rd h.rd
 exact ⟨a0, _, c0, a1, _, c1, a3, _, c3, h0, h1, h3⟩
theorem putD_le2 (x : Sup) : (putD x).length <= 9 := by
 unfold putD
 split <;> simp

theorem implWriteSuper_any (w : World) (E : TypeId) (a0 a1 a3 : Option Addr) (n0 c0 n1 c1 n3 c3 : Nat) (ss : List (List Int)) (cs : List (Int × List Int)) (f : Bool) (bs : List Int) (x : Sup) (h0 : tIntSS.Rd w [.slice a0 n0 c0] ss) (h1 : (tWrS E).Rd w [.slice a1 n1 c1] cs) (h3 : tIntS.Rd w [.slice a3 n3 c3] bs) (hw : wtMem (ss, cs, f, bs) <= 2097152) :
 Calls Tryz.prog 161 #[.agg #[.slice a0 n0 c0, .slice a1 n1 c1, .bool f, .slice a3 n3 c3], .agg #[.int .i64 x.id, .int .i64 x.gen, .int .i64 x.role, .int .i64 x.n, .int .i64 x.s, .int .i64 x.tail, .int .i64 x.lost, .int .i64 x.built]] w fun e w' => ∃ v0 v1 v3, e = .returned (.agg #[v0, v1, .bool f, v3]) /\ (tMem 109).Own w' w.heap.size w'.heap.size [v0, v1, .bool f, v3] (ss, wsCS ss cs f bs x, f, wsBS ss cs f bs x) /\ Below w.heap.size w w' := by
 have hA := ((new_below w (.cells #[.slice a0 n0 c0, .slice a1 n1 c1, .bool f, .slice a3 n3 c3] 51)).alloc (by simp) (.cells #[.int .i64 x.id, .int .i64 x.gen, .int .i64 x.role, .int .i64 x.n, .int .i64 x.s, .int .i64 x.tail, .int .i64 x.lost, .int .i64 x.built] 114)).alloc (by simp; omega) (.cells #[.slice none 0 0, .slice none 0 0, .bool false, .slice none 0 0] 51)
 have M0 := ((Box.new w 51 #[.slice a0 n0 c0, .slice a1 n1 c1, .bool f, .slice a3 n3 c3]).alloc (.cells #[.int .i64 x.id, .int .i64 x.gen, .int .i64 x.role, .int .i64 x.n, .int .i64 x.s, .int .i64 x.tail, .int .i64 x.lost, .int .i64 x.built] 114)).alloc (.cells #[.slice none 0 0, .slice none 0 0, .bool false, .slice none 0 0] 51)
 have S0 := (Box.new (w.alloc (.cells #[.slice a0 n0 c0, .slice a1 n1 c1, .bool f, .slice a3 n3 c3] 51)) 114 #[.int .i64 x.id, .int .i64 x.gen, .int .i64 x.role, .int .i64 x.n, .int .i64 x.s, .int .i64 x.tail, .int .i64 x.lost, .int .i64 x.built]).alloc (.cells #[.slice none 0 0, .slice none 0 0, .bool false, .slice none 0 0] 51)
 have R0 := Box.new ((w.alloc (.cells #[.slice a0 n0 c0, .slice a1 n1 c1, .bool f, .slice a3 n3 c3] 51)).alloc (.cells #[.int .i64 x.id, .int .i64 x.gen, .int .i64 x.role, .int .i64 x.n, .int .i64 x.s, .int .i64 x.tail, .int .i64 x.lost, .int .i64 x.built] 114)) 51 #[.slice none 0 0, .slice none 0 0, .bool false, .slice none 0 0]
 rw [World.size_alloc] at S0
 rw [World.size_alloc, World.size_alloc] at R0
 obtain ⟨x0, x1, x2, x3, x4, x5, x6, x7⟩ := S0.cells8
 go_enter Tryz.func161, Tryz.ntmps161
 go_wp2_with fail
 generalize ((w.alloc (.cells #[.slice a0 n0 c0, .slice a1 n1 c1, .bool f, .slice a3 n3 c3] 51)).alloc (.cells #[.int .i64 x.id, .int .i64 x.gen, .int .i64 x.role, .int .i64 x.n, .int .i64 x.s, .int .i64 x.tail, .int .i64 x.lost, .int .i64 x.built] 114)).alloc (.cells #[.slice none 0 0, .slice none 0 0, .bool false, .slice none 0 0] 51) = W at hA M0 S0 R0 x0 x1 x2 x3 x4 x5 x6 x7 ⊢
 refine (implSuperOk_any _ x).mono ?_
 rintro e w1 ⟨rfl, b1⟩
 have M1 := M0.below b1 M0.lt
 have S1 := S0.below b1 S0.lt
 have R1 := R0.below b1 R0.lt
 have B1 := Below.andThen hA b1
 clear x0 x1 x2 x3 x4 x5 x6 x7 M0 S0 R0 hA b1
 obtain ⟨q0, q1, q2, q3⟩ := M1.cells4
 have zR := R1.lt
 have zS := S1.lt
 have zM := M1.lt
 by_cases hx : supB x = true
 . have hg := (supB_iff.1 hx).2.2.2.2.1
   have e1 : x.gen.tmod 2 = x.gen % 2 := Int.tmod_eq_emod_of_nonneg hg.1
   have HC : Hid (wsCS ss cs f bs x = wrCS ss cs f bs (x.gen % 2) (putD x)) := by unfold Hid wsCS; rw [if_pos hx]
   have HB : Hid (wsBS ss cs f bs x = wrBS ss cs f bs (x.gen % 2) (putD x)) := by unfold Hid wsBS; rw [if_pos hx]
   have hpl := putD_le2 x
   obtain ⟨x0, x1, x2, x3, x4, x5, x6, x7⟩ := S1.cells8
   have HB1 := hidden B1
   have HR1 := hidden R1
   clear B1 R1
   have hS : ∀ w', Box w' w.heap.size 51 #[.slice a0 n0 c0, .slice a1 n1 c1, .bool f, .slice a3 n3 c3] -> Box w' (w.heap.size + 1) 114 #[.int .i64 x.id, .int .i64 x.gen, .int .i64 x.role, .int .i64 x.n, .int .i64 x.s, .int .i64 x.tail, .int .i64 x.lost, .int .i64 x.built] -> w'.cell? ⟨w.heap.size, 0, none⟩ = some (.slice a0 n0 c0) /\ w'.cell? ⟨w.heap.size, 1, none⟩ = some (.slice a1 n1 c1) /\ w'.cell? ⟨w.heap.size, 2, none⟩ = some (.bool f) /\ w'.cell? ⟨w.heap.size, 3, none⟩ = some (.slice a3 n3 c3) /\ w'.cell? ⟨w.heap.size + 1, 0, none⟩ = some (.int .i64 x.id) /\ w'.cell? ⟨w.heap.size + 1, 1, none⟩ = some (.int .i64 x.gen) /\ w'.cell? ⟨w.heap.size + 1, 2, none⟩ = some (.int .i64 x.role) /\ w'.cell? ⟨w.heap.size + 1, 3, none⟩ = some (.int .i64 x.n) /\ w'.cell? ⟨w.heap.size + 1, 4, none⟩ = some (.int .i64 x.s) /\ w'.cell? ⟨w.heap.size + 1, 5, none⟩ = some (.int .i64 x.tail) /\ w'.cell? ⟨w.heap.size + 1, 6, none⟩ = some (.int .i64 x.lost) /\ w'.cell? ⟨w.heap.size + 1, 7, none⟩ = some (.int .i64 x.built) := fun w' hm hs => ⟨hm.cell 0, hm.cell 1, hm.cell 2, hm.cell 3, hs.cell 0, hs.cell 1, hs.cell 2, hs.cell 3, hs.cell 4, hs.cell 5, hs.cell 6, hs.cell 7⟩
   have hD : ∀ w', Box w' w.heap.size 51 #[.slice a0 n0 c0, .slice a1 n1 c1, .bool f, .slice a3 n3 c3] -> Box w' (w.heap.size + 1) 114 #[.int .i64 x.id, .int .i64 x.gen, .int .i64 x.role, .int .i64 x.n, .int .i64 x.s, .int .i64 x.tail, .int .i64 x.lost, .int .i64 x.built] -> w'.drew.cell? ⟨w.heap.size, 0, none⟩ = some (.slice a0 n0 c0) /\ w'.drew.cell? ⟨w.heap.size, 1, none⟩ = some (.slice a1 n1 c1) /\ w'.drew.cell? ⟨w.heap.size, 2, none⟩ = some (.bool f) /\ w'.drew.cell? ⟨w.heap.size, 3, none⟩ = some (.slice a3 n3 c3) /\ w'.drew.cell? ⟨w.heap.size + 1, 0, none⟩ = some (.int .i64 x.id) /\ w'.drew.cell? ⟨w.heap.size + 1, 1, none⟩ = some (.int .i64 x.gen) /\ w'.drew.cell? ⟨w.heap.size + 1, 2, none⟩ = some (.int .i64 x.role) /\ w'.drew.cell? ⟨w.heap.size + 1, 3, none⟩ = some (.int .i64 x.n) /\ w'.drew.cell? ⟨w.heap.size + 1, 4, none⟩ = some (.int .i64 x.s) /\ w'.drew.cell? ⟨w.heap.size + 1, 5, none⟩ = some (.int .i64 x.tail) /\ w'.drew.cell? ⟨w.heap.size + 1, 6, none⟩ = some (.int .i64 x.lost) /\ w'.drew.cell? ⟨w.heap.size + 1, 7, none⟩ = some (.int .i64 x.built) := hS
   have HM1 := hidden M1
   have HS1 := hidden S1
   have nA : Hid (w.heap.size ≠ w1.heap.size) := by unfold Hid; omega
   have nA' : Hid (w.heap.size + 1 ≠ w1.heap.size) := by unfold Hid; omega
   have ZW : Hid (w.heap.size + 2 < w1.heap.size) := by unfold Hid; omega
   have HG := hidden hg.1
   clear M1 S1 hg
   go_wp2_with fail
   go_region_held3 (fun w' => w'.cell? ⟨w.heap.size, 0, none⟩ = some (.slice a0 n0 c0) /\ w'.cell? ⟨w.heap.size, 1, none⟩ = some (.slice a1 n1 c1) /\ w'.cell? ⟨w.heap.size, 2, none⟩ = some (.bool f) /\ w'.cell? ⟨w.heap.size, 3, none⟩ = some (.slice a3 n3 c3) /\ w'.cell? ⟨w.heap.size + 1, 0, none⟩ = some (.int .i64 x.id) /\ w'.cell? ⟨w.heap.size + 1, 1, none⟩ = some (.int .i64 x.gen) /\ w'.cell? ⟨w.heap.size + 1, 2, none⟩ = some (.int .i64 x.role) /\ w'.cell? ⟨w.heap.size + 1, 3, none⟩ = some (.int .i64 x.n) /\ w'.cell? ⟨w.heap.size + 1, 4, none⟩ = some (.int .i64 x.s) /\ w'.cell? ⟨w.heap.size + 1, 5, none⟩ = some (.int .i64 x.tail) /\ w'.cell? ⟨w.heap.size + 1, 6, none⟩ = some (.int .i64 x.lost) /\ w'.cell? ⟨w.heap.size + 1, 7, none⟩ = some (.int .i64 x.built))
    (first
     | (with_reducible exact hS w4 M4.out S4.out)
     | (with_reducible exact hS _ (M4.out.alloc _) (S4.out.alloc _))
     | (with_reducible exact hS _ ((((M4.out.other nA.out 0 _).other nA.out 1 _).other nA.out 2 _).other nA.out 3 _) ((((S4.out.other nA'.out 0 _).other nA'.out 1 _).other nA'.out 2 _).other nA'.out 3 _))
     | (with_reducible exact hS _ ((((M4.out.other nB.out 0 _).other nB.out 1 _).other nB.out 2 _).other nB.out 3 _) ((((S4.out.other nB'.out 0 _).other nB'.out 1 _).other nB'.out 2 _).other nB'.out 3 _))
     | (with_reducible exact hS w3 M3.out S3.out)
     | (with_reducible exact hS _ (M3.out.alloc _) (S3.out.alloc _))
     | (with_reducible exact hD _ HM1.out HS1.out)
     | (with_reducible exact hD _ (HM1.out.alloc _) (HS1.out.alloc _))
     | go_keep)
    (first
     | (go_at_call 171; refine (superPlace_any _ _ HG.out).mono ?_; rintro e w2 ⟨rfl, rfl⟩)
     | (go_at_call 172; refine (implPutSuper_any _ x).mono ?_; rintro e w3 ⟨pa, pl, pc, rfl, o3, b3⟩; have hpl3 := (row_length o3.rd).1; have b3c : Below w1.drew.heap.size w1.drew w3 := (by with_reducible exact b3); have b3' : Below w1.heap.size w1 w3 := (Below.refl w1.heap.size w1).drew.trans b3c; have M3 := hidden (HM1.out.below b3' zM); have S3 := hidden (HS1.out.below b3' zS); have O3 := hidden o3; have hb3 := hidden b3'; clear b3 b3c b3' o3)
     | (go_at_call 159; have xo3 := XO3.out; refine (implWriteSec_any _ E _ _ _ _ _ _ _ _ _ _ _ _ ss cs f bs (x.gen % 2) (putD x) (by with_reducible exact h0.below (Below.andThen HB1.out hb3.out)) (by with_reducible exact h1.below (Below.andThen HB1.out hb3.out)) (by with_reducible exact h3.below (Below.andThen HB1.out hb3.out)) (by with_reducible exact O3.out.rd) hw (by omega)).mono ?_; rintro e w4 ⟨u0, u1, u3, rfl, o4, b4⟩; obtain ⟨fa0, fl0, fc0, fa1, fl1, fc1, fa3, fl3, fc3, hv0, hv1, hv3⟩ := mem_letters2 o4; subst hv0 hv1 hv3; have M4 := hidden (M3.out.below b4 M3.out.lt); have S4 := hidden (S3.out.below b4 S3.out.lt); have xo4 := xo3.below b4 xo3.lt; obtain ⟨s0, s1, s2, s3⟩ := xo4.cells4; have u0 := xo4.frozen 0; have u1 := xo4.frozen 1; have u2 := xo4.frozen 2; have u3 := xo4.frozen 3; have XO4 := hidden xo4; have O4 := hidden o4; have hb4 := hidden b4; clear b4 o4 xo4 xo3)
     | (go_at_call 159; refine (implWriteSec_any _ E _ _ _ _ _ _ _ _ _ _ _ _ ss cs f bs (x.gen % 2) (putD x) (by with_reducible exact h0.below (Below.andThen HB1.out hb3.out)) (by with_reducible exact h1.below (Below.andThen HB1.out hb3.out)) (by with_reducible exact h3.below (Below.andThen HB1.out hb3.out)) (by with_reducible exact O3.out.rd) hw (by omega)).mono ?_; rintro e w4 ⟨u0, u1, u3, rfl, o4, b4⟩; obtain ⟨fa0, fl0, fc0, fa1, fl1, fc1, fa3, fl3, fc3, hv0, hv1, hv3⟩ := mem_letters2 o4; subst hv0 hv1 hv3; have M4 := hidden (M3.out.below b4 M3.out.lt); have S4 := hidden (S3.out.below b4 S3.out.lt); have O4 := hidden o4; have hb4 := hidden b4; clear b4 o4)
     | (go_at_call 159; refine (implWriteSec_any _ E _ _ _ _ _ _ _ _ _ _ _ _ ss cs f bs (x.gen % 2) (putD x) (by with_reducible exact h0.below ((Below.andThen HB1.out hb3.out).alloc (Below.andThen HB1.out hb3.out).size _)) (by with_reducible exact h1.below ((Below.andThen HB1.out hb3.out).alloc (Below.andThen HB1.out hb3.out).size _)) (by with_reducible exact h3.below ((Below.andThen HB1.out hb3.out).alloc (Below.andThen HB1.out hb3.out).size _)) (by with_reducible exact (O3.out.rd.below (new_below w3 _))) hw (by omega)).mono ?_; rintro e w4 ⟨u0, u1, u3, rfl, o4, b4⟩; obtain ⟨fa0, fl0, fc0, fa1, fl1, fc1, fa3, fl3, fc3, hv0, hv1, hv3⟩ := mem_letters2 o4; subst hv0 hv1 hv3; have M4 := hidden ((M3.out.alloc (.cells #[.slice none 0 0, .slice none 0 0, .bool false, .slice none 0 0] 51)).below b4 (M3.out.alloc (.cells #[.slice none 0 0, .slice none 0 0, .bool false, .slice none 0 0] 51)).lt); have S4 := hidden ((S3.out.alloc (.cells #[.slice none 0 0, .slice none 0 0, .bool false, .slice none 0 0] 51)).below b4 (S3.out.alloc (.cells #[.slice none 0 0, .slice none 0 0, .bool false, .slice none 0 0] 51)).lt); have xp4 := (Box.new w3 51 #[.slice none 0 0, .slice none 0 0, .bool false, .slice none 0 0]).below b4 (by simp); obtain ⟨s0, s1, s2, s3⟩ := xp4.cells4; have u0 := xp4.frozen 0; have u1 := xp4.frozen 1; have u2 := xp4.frozen 2; have u3 := xp4.frozen 3; have z3 := hb3.out.size; have zW := ZW.out; have nB : Hid (w.heap.size ≠ w3.heap.size) := (by unfold Hid; omega); have nB' : Hid (w.heap.size + 1 ≠ w3.heap.size) := (by unfold Hid; omega); have XP4 := hidden xp4; have O4 := hidden o4; have hb4 := hidden b4; clear b4 o4 xp4 z3 zW)
     | (go_at_call 172; refine (implPutSuper_any _ x).mono ?_; rintro e w3 ⟨pa, pl, pc, rfl, o3, b3⟩; have hpl3 := (row_length o3.rd).1; have ba : Below w1.heap.size w1 (w1.alloc (.cells #[.slice none 0 0, .slice none 0 0, .bool false, .slice none 0 0] 51)) := new_below w1 _; have b3c : Below (w1.alloc (.cells #[.slice none 0 0, .slice none 0 0, .bool false, .slice none 0 0] 51)).drew.heap.size (w1.alloc (.cells #[.slice none 0 0, .slice none 0 0, .bool false, .slice none 0 0] 51)).drew w3 := (by with_reducible exact b3); have b3a : Below (w1.alloc (.cells #[.slice none 0 0, .slice none 0 0, .bool false, .slice none 0 0] 51)).heap.size (w1.alloc (.cells #[.slice none 0 0, .slice none 0 0, .bool false, .slice none 0 0] 51)) w3 := (Below.refl _ (w1.alloc (.cells #[.slice none 0 0, .slice none 0 0, .bool false, .slice none 0 0] 51))).drew.trans b3c; have b3' : Below w1.heap.size w1 w3 := Below.andThen ba b3a; have M3 := hidden (HM1.out.below b3' zM); have S3 := hidden (HS1.out.below b3' zS); have XO3 := hidden ((Box.new w1 51 #[.slice none 0 0, .slice none 0 0, .bool false, .slice none 0 0]).below b3a (by simp)); have O3 := hidden o3; have hb3 := hidden b3'; clear b3 b3c b3a ba b3' o3))
   . have z4 := hb4.out.size
     have z3 := hb3.out.size
     have zW := ZW.out
     have B4 := Below.andThen HB1.out (Below.andThen hb3.out hb4.out)
     have RF0 := (HR1.out.below (Below.andThen hb3.out hb4.out) zR).alloc (.cells #[.slice fa0 fl0 fc0, .slice fa1 fl1 fc1, .bool f, .slice fa3 fl3 fc3] 51)
     have YF0 := Box.new w4 51 #[.slice fa0 fl0 fc0, .slice fa1 fl1 fc1, .bool f, .slice fa3 fl3 fc3]
     have OF0 := (O4.out.below (new_below w4 (.cells #[.slice fa0 fl0 fc0, .slice fa1 fl1 fc1, .bool f, .slice fa3 fl3 fc3] 51))).widen (lo' := w1.heap.size) (hi' := (w4.alloc (.cells #[.slice fa0 fl0 fc0, .slice fa1 fl1 fc1, .bool f, .slice fa3 fl3 fc3] 51)).heap.size) (by omega) (by simp)
     have BF0 := B4.alloc B4.size (.cells #[.slice fa0 fl0 fc0, .slice fa1 fl1 fc1, .bool f, .slice fa3 fl3 fc3] 51)
     have ZF0 : w.heap.size + 2 < w1.heap.size := zW
     clear B4
     have RF := RF0
     have HBF := hidden BF0
     have HYF := hidden YF0
     have HOF := hidden OF0
     have zF := ZF0
     clear RF0 BF0 YF0 OF0 ZF0
     generalize w4.alloc (.cells #[.slice fa0 fl0 fc0, .slice fa1 fl1 fc1, .bool f, .slice fa3 fl3 fc3] 51) = WF at RF HBF HYF HOF zF ⊢
     generalize w4.heap.size = BO at HYF ⊢
     obtain ⟨y0, y1, y2, y3⟩ := HYF.out.cells4
     obtain ⟨r0, r1, r2, r3⟩ := RF.cells4
     have fz := RF.frozen
     have hbt := set4_but WF (w.heap.size + 1 + 1) (.slice fa0 fl0 fc0) (.slice fa1 fl1 fc1) (.bool f) (.slice fa3 fl3 fc3)
     have zt := hbt.size
     have FO := hidden ((HOF.out.but hbt (.inr (by omega))).widen (lo' := w.heap.size) (hi' := (set4 WF (w.heap.size + 1 + 1) (.slice fa0 fl0 fc0) (.slice fa1 fl1 fc1) (.bool f) (.slice fa3 fl3 fc3)).heap.size) (by omega) hbt.size)
     rw [← HC.out, ← HB.out] at FO
     have FB := hidden (Below.andBut HBF.out hbt (by omega))
     unfold set4 at FO FB
     clear hbt RF HBF HYF HOF zt
     go_wp2
     refine bodyPost_ret (v := .agg #[.slice fa0 fl0 fc0, .slice fa1 fl1 fc1, .bool f, .slice fa3 fl3 fc3]) (by simp [results, Tryz.results161, go_sem, r0, r1, r2, r3]) rfl ?_
     exact ⟨_, _, _, rfl, FO.out, FB.out⟩
   . have xo4 := XP4.out
     have zal : (w3.alloc (.cells #[.slice none 0 0, .slice none 0 0, .bool false, .slice none 0 0] 51)).heap.size = w3.heap.size + 1 := by simp
     have z4 := hb4.out.size
     have z3 := hb3.out.size
     have zW := ZW.out
     have hbs := set4_but w4 w3.heap.size (.slice fa0 fl0 fc0) (.slice fa1 fl1 fc1) (.bool f) (.slice fa3 fl3 fc3)
     have zs := hbs.size
     have B4 := Below.andThen HB1.out (Below.andThen hb3.out (Below.andThen (new_below w3 _) hb4.out))
     have RF0 := (HR1.out.below (Below.andThen hb3.out (Below.andThen (new_below w3 _) hb4.out)) zR).kept (hbs.block _ (by omega) (by omega))
     have YF0 := (((xo4.set 0 (.slice fa0 fl0 fc0)).set 1 (.slice fa1 fl1 fc1)).set 2 (.bool f)).set 3 (.slice fa3 fl3 fc3)
     have OF0 := ((O4.out.but hbs (.inr (by omega))).widen (lo' := w1.heap.size) (hi' := (set4 w4 w3.heap.size (.slice fa0 fl0 fc0) (.slice fa1 fl1 fc1) (.bool f) (.slice fa3 fl3 fc3)).heap.size) (by omega) zs)
     have BF0 := Below.andBut B4 hbs (by omega)
     have ZF0 : w.heap.size + 2 < w1.heap.size := zW
     unfold set4 at RF0 OF0 BF0
     clear hbs zs B4 xo4
     have RF := RF0
     have HBF := hidden BF0
     have HYF := hidden YF0
     have HOF := hidden OF0
     have zF := ZF0
     clear RF0 BF0 YF0 OF0 ZF0
     generalize ((((w4.setCell ⟨w3.heap.size, 0, none⟩ (.slice fa0 fl0 fc0)).setCell ⟨w3.heap.size, 1, none⟩ (.slice fa1 fl1 fc1)).setCell ⟨w3.heap.size, 2, none⟩ (.bool f)).setCell ⟨w3.heap.size, 3, none⟩ (.slice fa3 fl3 fc3)) = WF at RF HBF HYF HOF zF ⊢
     generalize w3.heap.size = BO at HYF ⊢
     obtain ⟨y0, y1, y2, y3⟩ := HYF.out.cells4
     obtain ⟨r0, r1, r2, r3⟩ := RF.cells4
     have fz := RF.frozen
     have hbt := set4_but WF (w.heap.size + 1 + 1) (.slice fa0 fl0 fc0) (.slice fa1 fl1 fc1) (.bool f) (.slice fa3 fl3 fc3)
     have zt := hbt.size
     have FO := hidden ((HOF.out.but hbt (.inr (by omega))).widen (lo' := w.heap.size) (hi' := (set4 WF (w.heap.size + 1 + 1) (.slice fa0 fl0 fc0) (.slice fa1 fl1 fc1) (.bool f) (.slice fa3 fl3 fc3)).heap.size) (by omega) hbt.size)
     rw [← HC.out, ← HB.out] at FO
     have FB := hidden (Below.andBut HBF.out hbt (by omega))
     unfold set4 at FO FB
     clear hbt RF HBF HYF HOF zt
     go_wp2
     refine bodyPost_ret (v := .agg #[.slice fa0 fl0 fc0, .slice fa1 fl1 fc1, .bool f, .slice fa3 fl3 fc3]) (by simp [results, Tryz.results161, go_sem, r0, r1, r2, r3]) rfl ?_
     exact ⟨_, _, _, rfl, FO.out, FB.out⟩
   . have xo4 := XO4.out
     have zal := XO3.out.lt
     have z4 := hb4.out.size
     have z3 := hb3.out.size
     have zW := ZW.out
     have hbs := set4_but w4 w1.heap.size (.slice fa0 fl0 fc0) (.slice fa1 fl1 fc1) (.bool f) (.slice fa3 fl3 fc3)
     have zs := hbs.size
     have B4 := Below.andThen HB1.out (Below.andThen hb3.out hb4.out)
     have RF0 := (HR1.out.below (Below.andThen hb3.out hb4.out) zR).kept (hbs.block _ (by omega) (by omega))
     have YF0 := (((xo4.set 0 (.slice fa0 fl0 fc0)).set 1 (.slice fa1 fl1 fc1)).set 2 (.bool f)).set 3 (.slice fa3 fl3 fc3)
     have OF0 := ((O4.out.but hbs (.inr (by omega))).widen (lo' := w1.heap.size) (hi' := (set4 w4 w1.heap.size (.slice fa0 fl0 fc0) (.slice fa1 fl1 fc1) (.bool f) (.slice fa3 fl3 fc3)).heap.size) (by omega) zs)
     have BF0 := Below.andBut B4 hbs (by omega)
     have ZF0 : w.heap.size + 2 < w1.heap.size := zW
     unfold set4 at RF0 OF0 BF0
     clear hbs zs B4 xo4
     have RF := RF0
     have HBF := hidden BF0
     have HYF := hidden YF0
     have HOF := hidden OF0
     have zF := ZF0
     clear RF0 BF0 YF0 OF0 ZF0
     generalize ((((w4.setCell ⟨w1.heap.size, 0, none⟩ (.slice fa0 fl0 fc0)).setCell ⟨w1.heap.size, 1, none⟩ (.slice fa1 fl1 fc1)).setCell ⟨w1.heap.size, 2, none⟩ (.bool f)).setCell ⟨w1.heap.size, 3, none⟩ (.slice fa3 fl3 fc3)) = WF at RF HBF HYF HOF zF ⊢
     generalize w1.heap.size = BO at HYF ⊢
     obtain ⟨y0, y1, y2, y3⟩ := HYF.out.cells4
     obtain ⟨r0, r1, r2, r3⟩ := RF.cells4
     have fz := RF.frozen
     have hbt := set4_but WF (w.heap.size + 1 + 1) (.slice fa0 fl0 fc0) (.slice fa1 fl1 fc1) (.bool f) (.slice fa3 fl3 fc3)
     have zt := hbt.size
     have FO := hidden ((HOF.out.but hbt (.inr (by omega))).widen (lo' := w.heap.size) (hi' := (set4 WF (w.heap.size + 1 + 1) (.slice fa0 fl0 fc0) (.slice fa1 fl1 fc1) (.bool f) (.slice fa3 fl3 fc3)).heap.size) (by omega) hbt.size)
     rw [← HC.out, ← HB.out] at FO
     have FB := hidden (Below.andBut HBF.out hbt (by omega))
     unfold set4 at FO FB
     clear hbt RF HBF HYF HOF zt
     go_wp2
     refine bodyPost_ret (v := .agg #[.slice fa0 fl0 fc0, .slice fa1 fl1 fc1, .bool f, .slice fa3 fl3 fc3]) (by simp [results, Tryz.results161, go_sem, r0, r1, r2, r3]) rfl ?_
     exact ⟨_, _, _, rfl, FO.out, FB.out⟩
   have xo4 := XO4.out
   have zal := XO3.out.lt
   have z4 := hb4.out.size
   have z3 := hb3.out.size
   have zW := ZW.out
   have hbs := set4_but w4 w1.heap.size (.slice fa0 fl0 fc0) (.slice fa1 fl1 fc1) (.bool f) (.slice fa3 fl3 fc3)
   have zs := hbs.size
   have B4 := Below.andThen HB1.out (Below.andThen hb3.out hb4.out)
   have RF0 := (HR1.out.below (Below.andThen hb3.out hb4.out) zR).kept (hbs.block _ (by omega) (by omega))
   have YF0 := (((xo4.set 0 (.slice fa0 fl0 fc0)).set 1 (.slice fa1 fl1 fc1)).set 2 (.bool f)).set 3 (.slice fa3 fl3 fc3)
   have OF0 := ((O4.out.but hbs (.inr (by omega))).widen (lo' := w1.heap.size) (hi' := (set4 w4 w1.heap.size (.slice fa0 fl0 fc0) (.slice fa1 fl1 fc1) (.bool f) (.slice fa3 fl3 fc3)).heap.size) (by omega) zs)
   have BF0 := Below.andBut B4 hbs (by omega)
   have ZF0 : w.heap.size + 2 < w1.heap.size := zW
   unfold set4 at RF0 OF0 BF0
   clear hbs zs B4 xo4
   have RF := RF0
   have HBF := hidden BF0
   have HYF := hidden YF0
   have HOF := hidden OF0
   have zF := ZF0
   clear RF0 BF0 YF0 OF0 ZF0
   generalize ((((w4.setCell ⟨w1.heap.size, 0, none⟩ (.slice fa0 fl0 fc0)).setCell ⟨w1.heap.size, 1, none⟩ (.slice fa1 fl1 fc1)).setCell ⟨w1.heap.size, 2, none⟩ (.bool f)).setCell ⟨w1.heap.size, 3, none⟩ (.slice fa3 fl3 fc3)) = WF at RF HBF HYF HOF zF ⊢
   generalize w1.heap.size = BO at HYF ⊢
   obtain ⟨y0, y1, y2, y3⟩ := HYF.out.cells4
   obtain ⟨r0, r1, r2, r3⟩ := RF.cells4
   have fz := RF.frozen
   have hbt := set4_but WF (w.heap.size + 1 + 1) (.slice fa0 fl0 fc0) (.slice fa1 fl1 fc1) (.bool f) (.slice fa3 fl3 fc3)
   have zt := hbt.size
   have FO := hidden ((HOF.out.but hbt (.inr (by omega))).widen (lo' := w.heap.size) (hi' := (set4 WF (w.heap.size + 1 + 1) (.slice fa0 fl0 fc0) (.slice fa1 fl1 fc1) (.bool f) (.slice fa3 fl3 fc3)).heap.size) (by omega) hbt.size)
   rw [← HC.out, ← HB.out] at FO
   have FB := hidden (Below.andBut HBF.out hbt (by omega))
   unfold set4 at FO FB
   clear hbt RF HBF HYF HOF zt
   go_wp2
   refine bodyPost_ret (v := .agg #[.slice fa0 fl0 fc0, .slice fa1 fl1 fc1, .bool f, .slice fa3 fl3 fc3]) (by simp [results, Tryz.results161, go_sem, r0, r1, r2, r3]) rfl ?_
   exact ⟨_, _, _, rfl, FO.out, FB.out⟩
 have hx' : supB x = false := by simpa using hx
 have HC : Hid (wsCS ss cs f bs x = cs) := by unfold Hid wsCS; rw [if_neg hx]
 have HB : Hid (wsBS ss cs f bs x = bs) := by unfold Hid wsBS; rw [if_neg hx]
 go_wp2_with fail
 refine (copyMem_any _ E _ _ _ _ _ _ _ _ _ ss cs f bs (h0.below B1) (h1.below B1) (h3.below B1) hw).mono ?_
 rintro e w2 ⟨v0, v1, v3, m1, m2, rfl, k3, k0, k1, zm1, zm2, zm3, b2⟩
 have R2 := R1.below b2 zR
 have B2 := Below.andThen B1 b2
 obtain ⟨fa0, fc0, rfl⟩ := row_shape k0.rd
 obtain ⟨fa1, fc1, rfl⟩ := row_shape k1.rd
 obtain ⟨fa3, fc3, rfl⟩ := row_shape k3.rd
 obtain ⟨r0, r1, r2, r3⟩ := R2.cells4
 have fz := R2.frozen
 have zw := b2.size
 have hbt := set4_but w2 (w.heap.size + 1 + 1) (.slice fa0 ss.length fc0) (.slice fa1 cs.length fc1) (.bool f) (.slice fa3 bs.length fc3)
 have zt := hbt.size
 have FO := hidden (mem_own3 (lo := w.heap.size) (hi := (set4 w2 (w.heap.size + 1 + 1) (.slice fa0 ss.length fc0) (.slice fa1 cs.length fc1) (.bool f) (.slice fa3 bs.length fc3)).heap.size) (f := f) (k0.but hbt (by omega)) (k1.but hbt (by omega)) (k3.but hbt (by omega)) (by omega) (by omega) (by omega) (by omega) (by omega) (by omega))
 have FB := hidden (Below.andBut B2 hbt (by omega))
 unfold set4 at FO FB
 clear hbt R1 R2 B1 B2 b2 q0 q1 q2 q3 M1 S1 k0 k1 k3 zt
 go_wp2
 refine bodyPost_ret (v := .agg #[.slice fa0 ss.length fc0, .slice fa1 cs.length fc1, .bool f, .slice fa3 bs.length fc3]) (by simp [results, Tryz.results161, go_sem, r0, r1, r2, r3]) rfl ?_
 exact ⟨_, _, _, rfl, by rw [HC.out, HB.out]; exact FO.out, FB.out⟩

def inL (zs : List Int) (n : Int) : Bool := zs.any fun x => decide (x = n)

theorem inL_step {zs : List Int} {n x : Int} {j : Nat} (h : j < zs.length) (hx : zs.getD j 0 = x) : (x = n -> inL zs n = true) /\ (x ≠ n -> inL (zs.take j) n = false -> inL (zs.take (j + 1)) n = false) := by
 have e : zs[j] = x := by rw [← hx]; simp [List.getElem?_eq_getElem h]
 refine ⟨fun h1 => ?_, fun h1 h2 => ?_⟩
 . unfold inL
   rw [List.any_eq_true]
   exact ⟨x, by rw [← e]; exact List.getElem_mem h, by simp [h1]⟩
 unfold inL at *
 rw [List.take_succ_eq_append_getElem h, List.any_append, h2, e]
 simp [h1]

theorem l2Has_any (w : World) (a : Option Addr) (len cap : Nat) (zs : List Int) (n : Int) (hz : zs.length = len) (hr : Reads .i64 w a zs) (hlen : len <= 2097152) :
 Calls Tryz.prog 165 #[.slice a len cap, .int .i64 n] w fun e w' => e = .returned (.bool (inL zs n)) /\ Same w w' := by
 go_enter Tryz.func165, Tryz.ntmps165
 go_wp2
 go_loop [5] (fun i => ∃ j : Nat, j <= len /\ i = .int .i64 j /\ inL (zs.take j) n = false) (fun i => len - (intOf i).toNat)
 case atStart => exact ⟨0, Nat.zero_le _, rfl, rfl⟩
 obtain ⟨j, hj, rfl, ht⟩ := hrel
 by_cases hlt : j < len
 . rcases hr.cases with h0 | ⟨b, off, rfl, hbl, hc⟩
   . omega
   have hc1 := hc j (by omega)
   have hd := inL_step (zs := zs) (n := n) (j := j) (by omega) rfl
   generalize zs.getD j 0 = x at hc1 hd
   have HT := hidden ht
   clear hc ht
   by_cases hx : x = n
   . have HD := hidden (hd.1 hx)
     clear hd
     go_wp2
     go_ret
     exact ⟨ret_bool HD.out.symm, Same.refl _⟩
   have HD := hidden (hd.2 hx HT.out)
   clear hd
   go_wp2
   go_round
   case rel => exact ⟨j + 1, by omega, by go_num, HD.out⟩
   case measure => simp [intOf]; omega
 go_wp2
 go_ret
 have e : j = len := by omega
 subst e
 rw [List.take_of_length_le (by omega)] at ht
 exact ⟨ret_bool ht.symm, Same.refl _⟩

def newSS (n : Int) : List (List Int) := if 1 <= n /\ n <= 20 then List.replicate n.toNat [] else []

theorem implMemNew_any (w : World) (n : Int) :
 Calls Tryz.prog 125 #[.int .i64 n] w fun e w' => ∃ a0 c0, e = .returned (.agg #[.slice a0 (newSS n).length c0, .slice none 0 0, .bool false, .slice none 0 0]) /\
  tIntSS.Own w' w.heap.size w'.heap.size [.slice a0 (newSS n).length c0] (newSS n) /\ Below w.heap.size w w' := by
 obtain ⟨i0, hi, hz0, hz1, hz2⟩ := info_parts Tryz.infoIntS
 have hA : Below w.heap.size w (w.alloc (.cells #[.slice none 0 0, .slice none 0 0, .bool false, .slice none 0 0] 51)) := (Below.refl _ _).alloc (Nat.le_refl _) _
 by_cases h1 : 1 <= n
 . by_cases h2 : n <= 20
   . obtain ⟨k, rfl⟩ : ∃ k : Nat, n = (k : Int) := ⟨n.toNat, by omega⟩
     have hk : k <= 20 := by omega
     have hb3 : i0.bytes * k <= 281474976710656 := by rw [hz2]; omega
     have hm3 : k <= maxLen := by unfold maxLen; omega
     have hN : newSS (k : Int) = List.replicate k [] := by unfold newSS; rw [if_pos ⟨h1, h2⟩, Int.toNat_natCast]
     have HN := hidden hN
     clear hN
     go_enter Tryz.func125, Tryz.ntmps125
     go_wp2_with (at_make; refine wpList_make_full _ rfl _ _ 47 rfl (w.heap.size + 1) 49 i0 (.slice none 0 0) 1 Tryz.underlying47 hi hz0 hz1 _ _ _ _ k rfl rfl rfl rfl hb3 hm3 (by simp) ?_; intro w1 hown hgrow; have hB1 : Below (w.alloc (.cells #[.slice none 0 0, .slice none 0 0, .bool false, .slice none 0 0] 51)).heap.size (w.alloc (.cells #[.slice none 0 0, .slice none 0 0, .bool false, .slice none 0 0] 51)) w1 := (Below.refl _ _).grown hgrow (Nat.le_refl _) (by simp); have hbx := (Box.new w 51 #[.slice none 0 0, .slice none 0 0, .bool false, .slice none 0 0]).below hB1 (by simp); obtain ⟨b0, b1, b2, b3⟩ := hbx.cells4; have fz := hbx.frozen)
     have hs1 : w.heap.size + 1 <= w1.heap.size := by have := hgrow.size; simp at this; exact this
     have hO := row_made (t := tIntS) (z := []) hown (by omega) rfl (fun _ => .inl ⟨rfl, rfl, rfl⟩)
     have eW : (w.alloc (.cells #[.slice none 0 0, .slice none 0 0, .bool false, .slice none 0 0] 51)).heap.size = w.heap.size + 1 := by simp
     rw [eW] at hO
     have hbt : But w.heap.size (w.heap.size + 1) w1 ((((w1.setCell ⟨w.heap.size, 0, none⟩ (.slice (some ⟨w.heap.size + 1, 0, none⟩) k k)).setCell ⟨w.heap.size, 1, none⟩ (.slice none 0 0)).setCell ⟨w.heap.size, 2, none⟩ (.bool false)).setCell ⟨w.heap.size, 3, none⟩ (.slice none 0 0)) :=
      (((But.setCell (by omega) (by omega) _).trans (But.setCell (by omega) (by omega) _)).trans (But.setCell (by omega) (by omega) _)).trans (But.setCell (by omega) (by omega) _)
     have hO' := hO.but hbt (.inr (Nat.le_refl _))
     have hB' := Below.andBut (hA.trans (hB1.mono (by simp))) hbt (Nat.le_refl _)
     have hS := hbt.size
     refine bodyPost_ret (v := .agg #[.slice (some ⟨w.heap.size + 1, 0, none⟩) k k, .slice none 0 0, .bool false, .slice none 0 0]) (by simp [results, Tryz.results125, go_sem, b0, b1, b2, b3]) rfl ?_
     have hl : (newSS (k : Int)).length = k := by rw [HN.out, List.length_replicate]
     rw [hl, HN.out]
     exact ⟨_, _, rfl, hO'.widen (by omega) hS, hB'⟩
   have hN : newSS n = [] := by unfold newSS; rw [if_neg (by omega)]
   rw [hN]
   go_enter Tryz.func125, Tryz.ntmps125
   go_wp2
   refine bodyPost_ret (v := .agg #[.slice none 0 0, .slice none 0 0, .bool false, .slice none 0 0]) (by simp [results, Tryz.results125, go_sem]) rfl ⟨none, 0, rfl, nil_own _ _ _, hA⟩
 have hN : newSS n = [] := by unfold newSS; rw [if_neg (by omega)]
 rw [hN]
 go_enter Tryz.func125, Tryz.ntmps125
 go_wp2
 refine bodyPost_ret (v := .agg #[.slice none 0 0, .slice none 0 0, .bool false, .slice none 0 0]) (by simp [results, Tryz.results125, go_sem]) rfl ⟨none, 0, rfl, nil_own _ _ _, hA⟩

theorem specMemNew_any (w : World) (n : Int) :
 Calls Tryz.prog 85 #[.int .i64 n] w fun e w' => ∃ a0 c0, e = .returned (.agg #[.slice a0 (newSS n).length c0, .slice none 0 0, .bool false, .slice none 0 0]) /\
  tIntSS.Own w' w.heap.size w'.heap.size [.slice a0 (newSS n).length c0] (newSS n) /\ Below w.heap.size w w' := by
 obtain ⟨i0, hi, hz0, hz1, hz2⟩ := info_parts Tryz.infoIntS
 by_cases h1 : inB n 1 20 = true
 . have hn : 1 <= n /\ n <= 20 := by unfold inB at h1; simpa using h1
   obtain ⟨k, rfl⟩ : ∃ k : Nat, n = (k : Int) := ⟨n.toNat, by omega⟩
   have hk : k <= 20 := by omega
   have hN : newSS (k : Int) = List.replicate k [] := by unfold newSS; rw [if_pos hn, Int.toNat_natCast]
   have HN := hidden hN
   clear hN hn
   have hA : Below w.heap.size w ((w.alloc (.cells #[.slice none 0 0, .slice none 0 0, .bool false, .slice none 0 0] 51)).alloc (.cells #[.slice none 0 0, .slice none 0 0, .bool false, .slice none 0 0] 51)) := ((Below.refl _ _).alloc (Nat.le_refl _) _).alloc (by simp) _
   have hB0 : Box ((w.alloc (.cells #[.slice none 0 0, .slice none 0 0, .bool false, .slice none 0 0] 51)).alloc (.cells #[.slice none 0 0, .slice none 0 0, .bool false, .slice none 0 0] 51)) w.heap.size 51 #[.slice none 0 0, .slice none 0 0, .bool false, .slice none 0 0] := (Box.new w _ _).alloc _
   have hB1 : Box ((w.alloc (.cells #[.slice none 0 0, .slice none 0 0, .bool false, .slice none 0 0] 51)).alloc (.cells #[.slice none 0 0, .slice none 0 0, .bool false, .slice none 0 0] 51)) (w.heap.size + 1) 51 #[.slice none 0 0, .slice none 0 0, .bool false, .slice none 0 0] := by
    have := Box.new (w.alloc (.cells #[.slice none 0 0, .slice none 0 0, .bool false, .slice none 0 0] 51)) 51 #[.slice none 0 0, .slice none 0 0, .bool false, .slice none 0 0]
    rw [show (w.alloc (.cells #[.slice none 0 0, .slice none 0 0, .bool false, .slice none 0 0] 51)).heap.size = w.heap.size + 1 by simp] at this
    exact this
   go_enter Tryz.func85, Tryz.ntmps85
   go_wp2_with fail
   refine (l1In_any _ _ _ _).mono ?_
   rintro e w1 ⟨rfl, hw1⟩
   subst w1
   go_wp2
   generalize hW : (w.alloc (.cells #[.slice none 0 0, .slice none 0 0, .bool false, .slice none 0 0] 51)).alloc (.cells #[.slice none 0 0, .slice none 0 0, .bool false, .slice none 0 0] 51) = W at hA hB0 hB1 ⊢
   clear hW
   go_loopw [4] (fun i wr => ∃ (j : Nat) (v : Value) (fp : List Nat), j <= k /\ i = .int .i64 j /\ Box wr w.heap.size 51 #[.slice none 0 0, .slice none 0 0, .bool false, .slice none 0 0] /\ Box wr (w.heap.size + 1) 51 #[v, .slice none 0 0, .bool false, .slice none 0 0] /\ tIntSS.Mine wr [v] (List.replicate j []) fp /\ (∀ b ∈ fp, w.heap.size + 1 < b) /\ Below w.heap.size w wr) (fun i _ => k - (intOf i).toNat)
   case atStart => exact ⟨0, _, [], Nat.zero_le _, rfl, hB0, hB1, nil_mine _, by simp, hA⟩
   clear hA hB0 hB1
   obtain ⟨j, v, fp, hj, rfl, x0, x1, ho, hfp, hb⟩ := hrel
   obtain ⟨q0, _, _, _⟩ := x1.cells4
   by_cases hjn : j < k
   . have hj1 : (j : Int) < (k : Int) := by omega
     have M1 := hidden (((ho.alloc (.cells #[] 3)).alloc (.cells #[.slice (some ⟨wr.heap.size, 0, none⟩) 0 0] 49)))
     have E1 := hidden ((lit0_mine (t := intTy) (E := 3) wr).alloc (.cells #[.slice (some ⟨wr.heap.size, 0, none⟩) 0 0] 49))
     have n1 := news_new (wr.alloc (.cells #[] 3)) #[.slice (some ⟨wr.heap.size, 0, none⟩) 0 0] 49
     rw [show (wr.alloc (.cells #[] 3)).heap.size = wr.heap.size + 1 by simp] at n1
     have N1 := hidden n1
     clear n1
     have hlt := ho.lt
     have D1 := hidden (show ∀ b ∈ fp, b ∉ [wr.heap.size] from fun b hb hb' => by have := hlt b hb; simp at hb'; omega)
     have X0 := hidden ((x0.alloc (.cells #[] 3)).alloc (.cells #[.slice (some ⟨wr.heap.size, 0, none⟩) 0 0] 49))
     have X1 := hidden ((x1.alloc (.cells #[] 3)).alloc (.cells #[.slice (some ⟨wr.heap.size, 0, none⟩) 0 0] 49))
     have F0 := hidden (show w.heap.size ∉ fp from fun hm => by have := hfp _ hm; omega)
     have F1 := hidden (show w.heap.size + 1 ∉ fp from fun hm => by have := hfp _ hm; omega)
     have HFP := hidden hfp
     have BA := hidden ((hb.alloc hb.size (.cells #[] 3)).alloc (by simp; have := hb.size; omega) (.cells #[.slice (some ⟨wr.heap.size, 0, none⟩) 0 0] 49))
     have hsz := x1.lt
     have O1 := hidden (show ∀ u ∈ [Value.slice (some ⟨wr.heap.size, 0, none⟩) 0 0], u.oneCell' = true from fun u hu => by simp at hu; rw [hu]; rfl)
     have L1 := hidden (show (List.replicate j ([] : List Int)).length + 1 <= maxLen by rw [List.length_replicate]; unfold maxLen; omega)
     have L2 := hidden (show ((List.replicate j ([] : List Int)).length + 1) * 24 <= 140737488355328 by rw [List.length_replicate]; omega)
     clear ho hlt hfp x0 x1 hb
     have HREP := hidden (show List.replicate j ([] : List Int) ++ [[]] = List.replicate (j + 1) [] by rw [List.replicate_succ'])
     go_wp2_with (at_builtin; refine wpList_appT tIntS rfl (.tmp 16) (.tmp 18) 47 rfl 49 i0 (.slice none 0 0) 24 Tryz.underlying47 hi hz0 hz1 hz2 rfl Nat.zero_lt_one v (List.replicate j []) fp rfl ?_ ⟨wr.heap.size + 1, 0, none⟩ 1 [.slice (some ⟨wr.heap.size, 0, none⟩) 0 0] [] [wr.heap.size] rfl ?_ ?_ ?_ ?_ ?_ ?_ ?_; exact M1.out; exact E1.out; exact D1.out; exact N1.out; exact O1.out; exact L1.out; exact L2.out; intro v2 w2 fp2 m1 m2 m3; rw [HREP.out] at m1; obtain ⟨a2, c2, hv2⟩ := row_shape m1.rd; rw [List.length_replicate] at hv2; subst hv2; have y1 := X1.out.turned m3 F1.out; obtain ⟨r0, _, _, _⟩ := y1.cells4; have fz := y1.frozen 0; have Y1 := hidden y1; have HM1 := hidden m1; have HM2 := hidden m2; have HM3 := hidden m3; clear m1 m2 m3 y1)
     have hf2 : ∀ b ∈ fp2, w.heap.size + 1 < b := by
      intro b hb
      rcases HM2.out b hb with h | h | h
      . exact HFP.out b h
      . simp at h
        omega
      have := h.1
      simp at this
      omega
     have hmine := HM1.out.setCell (g := w.heap.size + 1) (j := 0) (fun hm => by have := hf2 _ hm; omega) (.slice a2 (j + 1) c2)
     have Z0 := hidden ((X0.out.turned HM3.out F0.out).other (g := w.heap.size + 1) (by omega) 0 (.slice a2 (j + 1) c2))
     have Z1 := hidden (Y1.out.set 0 (.slice a2 (j + 1) c2))
     have ZM := hidden hmine
     have ZB := hidden ((BA.out.trans (HM3.out.below (N := w.heap.size) (by simp; omega) (fun b hb => by have := HFP.out b hb; omega))).setCell (p := ⟨w.heap.size + 1, 0, none⟩) (by simp) (.slice a2 (j + 1) c2))
     clear M1 E1 N1 D1 O1 L1 L2 X0 X1 F0 F1 HFP BA HM1 HM2 HM3 Y1 hmine HREP
     go_roundw
     case rel => exact ⟨j + 1, _, fp2, by omega, by go_num, Z0.out, Z1.out, ZM.out, hf2, ZB.out⟩
     case measure => simp [intOf]; omega
   have e : j = k := by omega
   subst e
   obtain ⟨a0, c0, hv⟩ := row_shape ho.rd
   subst hv
   rw [List.length_replicate] at q0 x1 ho
   obtain ⟨_, q1, q2, q3⟩ := x1.cells4
   obtain ⟨p0, p1, p2, p3⟩ := x0.cells4
   have fz := x0.frozen
   have hbt : But w.heap.size (w.heap.size + 1) wr ((((wr.setCell ⟨w.heap.size, 0, none⟩ (.slice a0 j c0)).setCell ⟨w.heap.size, 1, none⟩ (.slice none 0 0)).setCell ⟨w.heap.size, 2, none⟩ (.bool false)).setCell ⟨w.heap.size, 3, none⟩ (.slice none 0 0)) :=
    (((But.setCell (by omega) (by omega) _).trans (But.setCell (by omega) (by omega) _)).trans (But.setCell (by omega) (by omega) _)).trans (But.setCell (by omega) (by omega) _)
   have hlt := ho.lt
   have HO := hidden ((ho.own (lo := w.heap.size + 1) (hi := wr.heap.size) (fun b hb => by have h1 := hfp b hb; have h2 := hlt b hb; omega)).but hbt (.inr (Nat.le_refl _)))
   have HB := hidden (Below.andBut hb hbt (Nat.le_refl _))
   have HS := hidden hbt.size
   clear hbt ho hb hfp hlt x0 x1
   go_wp2
   refine bodyPost_ret (v := .agg #[.slice a0 j c0, .slice none 0 0, .bool false, .slice none 0 0]) (by simp [results, Tryz.results85, go_sem, p0, p1, p2, p3]) rfl ?_
   have hl : (newSS (j : Int)).length = j := by rw [HN.out, List.length_replicate]
   rw [hl, HN.out]
   exact ⟨_, _, rfl, HO.out.widen (by omega) HS.out, HB.out⟩
 have hN : newSS n = [] := by unfold newSS; rw [if_neg (by intro h; apply h1; unfold inB; simp; omega)]
 rw [hN]
 have h1 : inB n 1 20 = false := by simpa using h1
 have hA : Below w.heap.size w (w.alloc (.cells #[.slice none 0 0, .slice none 0 0, .bool false, .slice none 0 0] 51)) := (Below.refl _ _).alloc (Nat.le_refl _) _
 go_enter Tryz.func85, Tryz.ntmps85
 go_wp2_with fail
 refine (l1In_any _ _ _ _).mono ?_
 rintro e w1 ⟨rfl, hw1⟩
 subst w1
 go_wp2
 refine bodyPost_ret (v := .agg #[.slice none 0 0, .slice none 0 0, .bool false, .slice none 0 0]) (by simp [results, Tryz.results85, go_sem]) rfl ⟨none, 0, rfl, nil_own _ _ _, hA⟩

theorem asc_pairwise {bs : List Int} (ha : ∀ i, i + 1 < bs.length -> bs.getD i 0 < bs.getD (i + 1) 0) : bs.Pairwise (· < ·) := by
 have mono : ∀ d i, i + (d + 1) < bs.length -> bs.getD i 0 < bs.getD (i + (d + 1)) 0 := by
  intro d
  induction d with
  | zero => intro i hi; exact ha i hi
  | succ d ih =>
   intro i hi
   have h1 := ih i (by omega)
   have h2 := ha (i + (d + 1)) (by omega)
   have e : i + (d + 1) + 1 = i + (d + 1 + 1) := by omega
   rw [e] at h2
   omega
 rw [List.pairwise_iff_getElem]
 intro i j hi hj hij
 have h := mono (j - i - 1) i (by omega)
 have e : i + (j - i - 1 + 1) = j := by omega
 rw [e, List.getD_eq_getElem?_getD, List.getD_eq_getElem?_getD, List.getElem?_eq_getElem hi, List.getElem?_eq_getElem hj] at h
 exact h

theorem badB_iff (n : Int) (bs : List Int) : badB n bs = true ↔ (∀ x ∈ bs, 0 <= x /\ x <= n - 1) /\ bs.Pairwise (· < ·) := by
 unfold badB
 rw [List.all_eq_true]
 constructor
 . intro h
   refine ⟨fun x hx => ?_, asc_pairwise (fun i hi => ?_)⟩
   . obtain ⟨i, hi⟩ := List.mem_iff_getElem?.1 hx
     have hil : i < bs.length := (List.getElem?_eq_some_iff.1 hi).1
     have h1 := h i (List.mem_range.2 hil)
     unfold badAt inB at h1
     rw [List.getD_eq_getElem?_getD, hi] at h1
     simp at h1
     omega
   have h1 := h (i + 1) (List.mem_range.2 hi)
   unfold badAt at h1
   simp at h1
   rw [List.getD_eq_getElem?_getD, List.getD_eq_getElem?_getD]
   exact h1.2
 rintro ⟨h1, h2⟩ i hi
 have hil : i < bs.length := List.mem_range.1 hi
 unfold badAt inB
 have e : bs.getD i 0 = bs[i] := by rw [List.getD_eq_getElem?_getD, List.getElem?_eq_getElem hil]; rfl
 have h3 := h1 bs[i] (List.getElem_mem hil)
 rw [e]
 simp only [Bool.and_eq_true, Bool.or_eq_true, decide_eq_true_eq]
 refine ⟨⟨by omega, by omega⟩, ?_⟩
 by_cases h0 : i = 0
 . exact .inl h0
 right
 have h4 := List.pairwise_iff_getElem.1 h2 (i - 1) i (by omega) hil (by omega)
 rw [List.getD_eq_getElem?_getD, List.getElem?_eq_getElem (by omega : i - 1 < bs.length)]
 exact h4

theorem memB_iff (ss : List (List Int)) (cs : List (Int × List Int)) (bs : List Int) : memB ss cs bs = true ↔ (∀ x ∈ ss, secB x = true) /\ (∀ x ∈ cs, wrB ss.length x = true) /\ badB ss.length bs = true /\ inB ss.length 1 20 = true /\ cs.length <= 60 := by
 unfold memB
 simp only [Bool.and_eq_true, List.all_eq_true, decide_eq_true_eq]

theorem memB_flush {ss : List (List Int)} {cs : List (Int × List Int)} {bs : List Int} (h : memB ss cs bs = true) (ks : List (Int × List Int)) (hk : ∀ x ∈ ks, x ∈ cs) : memB (flushD ss ks) [] bs = true := by
 obtain ⟨h1, h2, h3, h4, _⟩ := (memB_iff _ _ _).1 h
 rw [memB_iff, flushD_length]
 refine ⟨fun x hx => ?_, by simp, h3, h4, by simp⟩
 unfold flushD at hx
 obtain ⟨k, hkr, rfl⟩ := List.mem_map.1 hx
 have hkl : k < ss.length := List.mem_range.1 hkr
 cases hl : lastW ks (k : Int) with
 | some zs =>
  have h5 := h2 _ (hk _ (lastW_mem hl))
  unfold wrB at h5
  simp only [Bool.and_eq_true] at h5
  exact h5.2
 | none => exact h1 _ (List.mem_of_getElem? (getD_some hkl))

theorem memB_write {ss : List (List Int)} {cs : List (Int × List Int)} {f : Bool} {bs : List Int} {n : Int} {sw : List Int} (h : wrOk ss cs f bs n sw = true) : memB ss (cs ++ [(n, sw)]) (filt bs n) = true := by
 unfold wrOk at h
 simp only [Bool.and_eq_true, decide_eq_true_eq] at h
 obtain ⟨hM, _, hI, hS, hL⟩ := h
 obtain ⟨h1, h2, h3, h4, _⟩ := (memB_iff _ _ _).1 hM
 rw [memB_iff]
 refine ⟨h1, fun x hx => ?_, ?_, h4, by rw [List.length_append]; simp; omega⟩
 . rcases List.mem_append.1 hx with hx | hx
   . exact h2 x hx
   simp at hx
   subst hx
   unfold wrB
   rw [hI, hS]
   rfl
 rw [badB_iff] at h3 ⊢
 exact ⟨fun x hx => h3.1 x (List.mem_filter.1 hx).1, h3.2.filter _⟩

theorem memB_new {n : Int} (h1 : 1 <= n) (h2 : n <= 20) : memB (newSS n) [] [] = true := by
 rw [memB_iff]
 unfold newSS
 rw [if_pos ⟨h1, h2⟩]
 refine ⟨fun x hx => ?_, by simp, by rw [badB_iff]; simp, ?_, by simp⟩
 . rw [List.eq_of_mem_replicate hx]
   decide
 unfold inB
 simp
 omega

def memZ : MemD := ([], [], false, [])
def opB (x : ArrN) : Bool := !x.down && !decide (x.fuse = 0)
def opX (x : ArrN) : ArrN := if x.down = true then x else if x.fuse = 0 then {x with down := true, fuse := -1} else if 0 < x.fuse then {x with fuse := x.fuse - 1} else x
def wrM (d : MemD) (n : Int) (s : List Int) : MemD := (d.1, wrCS d.1 d.2.1 d.2.2.1 d.2.2.2 n s, d.2.2.1, wrBS d.1 d.2.1 d.2.2.1 d.2.2.2 n s)
def flM (d : MemD) : MemD := (flSS d.1 d.2.1 d.2.2.1 d.2.2.2, flCS d.1 d.2.1 d.2.2.1 d.2.2.2, d.2.2.1, d.2.2.2)
def doS (q : ArrN × List MemD) (i : Nat) (f : MemD -> MemD) : ArrN × List MemD :=
 if (q.2.getD i memZ).2.2.1 = true then q else if opB q.1 = true then (opX q.1, q.2.set i (f (q.2.getD i memZ))) else (opX q.1, q.2)
def putS (q : ArrN × List MemD) (i : Nat) (n : Int) (s : List Int) : ArrN × List MemD := doS q i fun d => wrM d n s
def syncS (q : ArrN × List MemD) (j : Nat) : ArrN × List MemD := (List.range j).foldl (fun q i => doS q i flM) q
def supA (x : ArrN) (i : Nat) : Sup := ⟨x.id, x.gen, (i : Int), x.n, x.s, x.tail, x.lost, x.built⟩
def supsS (q : ArrN × List MemD) (j : Nat) : ArrN × List MemD := (List.range j).foldl (fun q i => putS q i (q.1.gen % 2) (putD (supA q.1 i))) q
def markS (q : ArrN × List MemD) : ArrN × List MemD := syncS (supsS ({q.1 with gen := q.1.gen + 1}, q.2) q.2.length) q.2.length
def checkS (q : ArrN × List MemD) : ArrN × List MemD := if (syncS q q.2.length).1.down = true then syncS q q.2.length else markS ({(syncS q q.2.length).1 with tail := (syncS q q.2.length).1.seq}, (syncS q q.2.length).2)

def MsOk (ms : List MemD) : Prop := ∀ (i : Nat) (d : MemD), ms[i]? = some d -> memB d.1 d.2.1 d.2.2.2 = true

def SameN (x y : ArrN) : Prop := y.id = x.id /\ y.n = x.n /\ y.s = x.s /\ y.lost = x.lost /\ y.built = x.built /\ y.seq = x.seq /\ y.tail = x.tail /\ y.gen = x.gen /\ y.broken = x.broken /\ y.fuse <= 1000 /\ (-1 <= x.fuse -> -1 <= y.fuse)
theorem SameN.refl {x : ArrN} (h : x.fuse <= 1000) : SameN x x := ⟨rfl, rfl, rfl, rfl, rfl, rfl, rfl, rfl, rfl, h, fun h => h⟩
theorem SameN.trans {x y z : ArrN} (h : SameN x y) (k : SameN y z) : SameN x z := by
 obtain ⟨a1, a2, a3, a4, a5, a6, a7, a8, a9, _, b⟩ := h
 obtain ⟨c1, c2, c3, c4, c5, c6, c7, c8, c9, c10, d⟩ := k
 exact ⟨c1.trans a1, c2.trans a2, c3.trans a3, c4.trans a4, c5.trans a5, c6.trans a6, c7.trans a7, c8.trans a8, c9.trans a9, c10, fun h => d (b h)⟩
theorem opX_same {x : ArrN} (h : x.fuse <= 1000) : SameN x (opX x) := by
 unfold opX
 split
 . exact SameN.refl h
 split
 . exact ⟨rfl, rfl, rfl, rfl, rfl, rfl, rfl, rfl, rfl, by dsimp only; omega, fun _ => by dsimp only; omega⟩
 split
 . exact ⟨rfl, rfl, rfl, rfl, rfl, rfl, rfl, rfl, rfl, by dsimp only; omega, fun _ => by dsimp only; omega⟩
 exact SameN.refl h
theorem getD_at {ms : List MemD} {i : Nat} {d : MemD} (h : ms[i]? = some d) : ms.getD i memZ = d := by rw [List.getD_eq_getElem?_getD, h]; rfl
theorem doS_failed {q : ArrN × List MemD} {i : Nat} {d : MemD} {f : MemD -> MemD} (h : q.2[i]? = some d) (hf : d.2.2.1 = true) : doS q i f = q := by unfold doS; rw [getD_at h, if_pos hf]
theorem doS_no {q : ArrN × List MemD} {i : Nat} {d : MemD} {f : MemD -> MemD} (h : q.2[i]? = some d) (hf : d.2.2.1 = false) (ho : opB q.1 = false) : doS q i f = (opX q.1, q.2) := by unfold doS; rw [getD_at h, if_neg (by simp [hf]), if_neg (by simp [ho])]
theorem doS_yes {q : ArrN × List MemD} {i : Nat} {d : MemD} {f : MemD -> MemD} (h : q.2[i]? = some d) (hf : d.2.2.1 = false) (ho : opB q.1 = true) : doS q i f = (opX q.1, q.2.set i (f d)) := by unfold doS; rw [getD_at h, if_neg (by simp [hf]), if_pos ho]
theorem doS_len (q : ArrN × List MemD) (i : Nat) (f : MemD -> MemD) : (doS q i f).2.length = q.2.length := by
 unfold doS
 split
 . rfl
 split
 . exact List.length_set
 rfl
theorem doS_same {q : ArrN × List MemD} (i : Nat) (f : MemD -> MemD) (h : q.1.fuse <= 1000) : SameN q.1 (doS q i f).1 := by
 unfold doS
 split
 . exact SameN.refl h
 split <;> exact opX_same h
theorem MsOk.set {ms : List MemD} {i : Nat} {d : MemD} (h : MsOk ms) (hd : memB d.1 d.2.1 d.2.2.2 = true) : MsOk (ms.set i d) := by
 intro k e he
 by_cases hk : k = i
 . subst hk
   by_cases hl : k < ms.length
   . rw [List.getElem?_set_self hl] at he
     simp at he
     subst he
     exact hd
   rw [List.getElem?_eq_none (by rw [List.length_set]; omega)] at he
   cases he
 rw [List.getElem?_set_ne (fun e => hk e.symm)] at he
 exact h k e he
theorem doS_ok {q : ArrN × List MemD} {i : Nat} {f : MemD -> MemD} (h : MsOk q.2) (hf : ∀ d : MemD, memB d.1 d.2.1 d.2.2.2 = true -> memB (f d).1 (f d).2.1 (f d).2.2.2 = true) : MsOk (doS q i f).2 := by
 unfold doS
 split
 . exact h
 split
 . cases hd : q.2[i]? with
   | none =>
    rw [List.set_eq_of_length_le (by rw [List.getElem?_eq_none_iff] at hd; exact hd)]
    exact h
   | some d => rw [getD_at hd]; exact h.set (hf d (h i d hd))
 exact h
theorem wrM_ok (n : Int) (s : List Int) (d : MemD) (h : memB d.1 d.2.1 d.2.2.2 = true) : memB (wrM d n s).1 (wrM d n s).2.1 (wrM d n s).2.2.2 = true := by
 unfold wrM wrCS wrBS
 dsimp only
 by_cases hw : wrOk d.1 d.2.1 d.2.2.1 d.2.2.2 n s = true
 . rw [if_pos hw, if_pos hw]
   exact memB_write hw
 rw [if_neg hw, if_neg hw]
 exact h
theorem flM_ok (d : MemD) (h : memB d.1 d.2.1 d.2.2.2 = true) : memB (flM d).1 (flM d).2.1 (flM d).2.2.2 = true := by
 unfold flM flSS flCS
 dsimp only
 by_cases hw : (memB d.1 d.2.1 d.2.2.2 && !d.2.2.1) = true
 . rw [if_pos hw, if_pos hw]
   exact memB_flush h d.2.1 (fun _ h => h)
 rw [if_neg hw, if_neg hw]
 exact h
theorem putS_ok {q : ArrN × List MemD} {i : Nat} {n : Int} {s : List Int} (h : MsOk q.2) : MsOk (putS q i n s).2 := doS_ok h (wrM_ok n s)
theorem syncS_succ (q : ArrN × List MemD) (j : Nat) : syncS q (j + 1) = doS (syncS q j) j flM := by unfold syncS; rw [List.range_succ, List.foldl_append]; rfl
theorem syncS_keeps {q : ArrN × List MemD} (h : MsOk q.2) (hf : q.1.fuse <= 1000) : ∀ j, MsOk (syncS q j).2 /\ SameN q.1 (syncS q j).1 /\ (syncS q j).2.length = q.2.length
 | 0 => ⟨h, SameN.refl hf, rfl⟩
 | j + 1 => by
  obtain ⟨h1, h2, h3⟩ := syncS_keeps h hf j
  rw [syncS_succ]
  exact ⟨doS_ok h1 flM_ok, h2.trans (doS_same _ _ h2.2.2.2.2.2.2.2.2.2.1), by rw [doS_len]; exact h3⟩
theorem supsS_succ (q : ArrN × List MemD) (j : Nat) : supsS q (j + 1) = putS (supsS q j) j ((supsS q j).1.gen % 2) (putD (supA (supsS q j).1 j)) := by unfold supsS; rw [List.range_succ, List.foldl_append]; rfl
theorem supsS_keeps {q : ArrN × List MemD} (h : MsOk q.2) (hf : q.1.fuse <= 1000) : ∀ j, MsOk (supsS q j).2 /\ SameN q.1 (supsS q j).1 /\ (supsS q j).2.length = q.2.length
 | 0 => ⟨h, SameN.refl hf, rfl⟩
 | j + 1 => by
  obtain ⟨h1, h2, h3⟩ := supsS_keeps h hf j
  rw [supsS_succ]
  exact ⟨putS_ok h1, h2.trans (doS_same _ _ h2.2.2.2.2.2.2.2.2.2.1), by unfold putS; rw [doS_len]; exact h3⟩
theorem bad_ge {n : Int} {bs : List Int} (h : badB n bs = true) : ∀ i : Nat, i < bs.length -> (i : Int) <= bs.getD i 0
 | 0, hi => by
  unfold badB at h
  have := (List.all_eq_true.1 h) 0 (List.mem_range.2 hi)
  unfold badAt inB at this
  simp at this
  have e : bs.getD 0 0 = bs[0]?.getD 0 := List.getD_eq_getElem?_getD ..
  rw [e]
  omega
 | i + 1, hi => by
  have h1 := bad_ge h i (by omega)
  unfold badB at h
  have h2 := (List.all_eq_true.1 h) (i + 1) (List.mem_range.2 hi)
  unfold badAt at h2
  simp only [Bool.and_eq_true, Bool.or_eq_true, decide_eq_true_eq] at h2
  rw [Nat.add_sub_cancel] at h2
  omega
theorem bad_len {n : Int} {bs : List Int} (h : badB n bs = true) : bs = [] ∨ (bs.length : Int) <= n := by
 by_cases h0 : bs.length = 0
 . exact .inl (List.length_eq_zero_iff.1 h0)
 right
 have h1 := bad_ge h (bs.length - 1) (by omega)
 unfold badB at h
 have h2 := (List.all_eq_true.1 h) (bs.length - 1) (List.mem_range.2 (by omega))
 unfold badAt at h2
 simp only [Bool.and_eq_true] at h2
 have h3 := inB_iff.1 h2.1
 omega
theorem memB_light {ss : List (List Int)} {cs : List (Int × List Int)} {bs : List Int} (h : memB ss cs bs = true) (f : Bool) : wtMem (ss, cs, f, bs) <= 2000 := by
 have h1 := sumL_bound (ss.map List.length) 12 (fun x hx => by
  obtain ⟨y, hy, rfl⟩ := List.mem_map.1 hx
  exact (mem_small h).1 y hy)
 have h2 := sumL_bound (cs.map fun x => x.2.length) 12 (fun x hx => by
  obtain ⟨y, hy, rfl⟩ := List.mem_map.1 hx
  exact (mem_small h).2 y hy)
 have h3 := mem_secs h
 have h5 := h
 unfold memB at h5
 simp only [Bool.and_eq_true, decide_eq_true_eq] at h5
 have h4 : cs.length <= 60 := h5.2.2.2.2
 have h6 : bs.length <= 20 := by
  rcases bad_len h5.2.2.1 with h7 | h7
  . rw [h7]; simp
  omega
 rw [List.length_map] at h1 h2
 unfold wtMem wtIntSS wtWrS
 simp only
 omega

end Go.Proofs.YtechckninoilhaaGreat

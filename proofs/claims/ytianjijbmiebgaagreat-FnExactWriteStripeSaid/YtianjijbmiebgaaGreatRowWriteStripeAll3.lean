/-
 The walk of the specification's FlushMem: what is written is in its sector, the cache empty, in memory of its own; what is not MemOk, or failed, as it was. Condition: the disk weighs at most 2097152.
-/
import Derived.Test.YtianjijbmiebgaaGreatRowWriteStripeAll4
import Derived.Test.YtianjijbmiebgaaGreatHeld
import Derived.Test.YtianjijbmiebgaaGreatSupPlace
import Derived.Test.YtianjijbmiebgaaGreatWalkCopySpec
import Derived.Test.YtianjijbmiebgaaGreatWalkArr
import Derived.Test.YtianjijbmiebgaaGreatWalkMemOk
import Derived.Test.YtianjijbmiebgaaGreatWalkSecOk
import Derived.Test.YtianjijbmiebgaaGreatData
import Derived.Test.YtianjijbmiebgaaGreatBox
import Derived.Test.YtianjijbmiebgaaGreatArr7
import Derived.Test.YtianjijbmiebgaaGreatWalkMarkIn

set_option maxRecDepth 100000
set_option maxHeartbeats 8000000
set_option linter.unusedSimpArgs false

namespace Go.Proofs.YtianjijbmiebgaaGreat
open Go.RowKit

theorem l2Without_any (w : World) (a : Option Addr) (len cap : Nat) (zs : List Int) (n : Int) (h : tIntS.Rd w [.slice a len cap] zs) (hlen : len <= 2097152) :
 Calls Tryz.prog 232 #[.slice a len cap, .int .i64 n] w fun e w' => ∃ v, e = .returned v /\ tIntS.Own w' w.heap.size w'.heap.size [v] (filt zs n) /\ Below w.heap.size w w' := by
 obtain ⟨hr, hl, _, _⟩ := ints_rd h
 obtain ⟨i3, hi3, hx0, hx1, hx2⟩ := info_parts Tryz.info3
 go_enter Tryz.func232, Tryz.ntmps232
 go_wp2
 go_loopw [5, 6] (fun v i wr => ∃ (j : Nat) (fp : List Nat), j <= len /\ i = .int .i64 j /\ tIntS.Mine wr [v] (filt (zs.take j) n) fp /\ (∀ b ∈ fp, w.heap.size <= b) /\ Below w.heap.size w wr) (fun _ i _ => len - (intOf i).toNat)
 case atStart => exact ⟨0, [w.heap.size], Nat.zero_le _, rfl, lit0_mine _, by simp, (Below.refl _ _).alloc (Nat.le_refl _) _⟩
 case round =>
  obtain ⟨j, fp, hj, rfl, hm, hfp, hb⟩ := hrel
  have hs := hb.size
  by_cases hlt : j < len
  . rcases hr.cases with h0 | ⟨b, off, rfl, hbl, hcz⟩
    . omega
    have hc1 := (hb.cell (p := ⟨b, off + j, none⟩) hbl).trans (hcz j (by omega))
    have htk : zs.take (j + 1) = zs.take j ++ [zs.getD j 0] := by rw [List.take_add_one, List.getD_eq_getElem?_getD, List.getElem?_eq_getElem (by omega)]; rfl
    generalize zs.getD j 0 = x at hc1 htk
    have k1 : (0 : Int) <= (j : Int) := by omega
    have k2 : (j : Int) < (len : Int) := by omega
    have HTK := hidden htk
    clear hcz htk
    by_cases hxn : x = n
    . have HF : Hid (filt (zs.take (j + 1)) n = filt (zs.take j) n) := by unfold Hid; rw [HTK.out, filt_snoc, if_pos hxn]
      subst hxn
      go_wp2
      go_roundw
      case rel => exact ⟨j + 1, fp, by omega, by go_num, by rw [HF.out]; exact hm, hfp, hb⟩
      case measure => simp [intOf]; omega
    . have HF : Hid (filt (zs.take (j + 1)) n = filt (zs.take j) n ++ [x]) := by unfold Hid; rw [HTK.out, filt_snoc, if_neg hxn]
      have MA := hidden (hm.alloc (.cells #[.int .i64 x] 3))
      have LI : Hid (intTy.Mine (wr.alloc (.cells #[.int .i64 x] 3)) [.int .i64 x] x []) := ⟨⟨rfl, rfl⟩, by simp⟩
      have NN := hidden (news_new wr #[.int .i64 x] 3)
      have BA := hidden (hb.alloc hs (.cells #[.int .i64 x] 3))
      have ZA : Hid ((wr.alloc (.cells #[.int .i64 x] 3)).heap.size = wr.heap.size + 1) := by unfold Hid; simp
      have hkl := filt_length (zs.take j) n
      rw [List.length_take] at hkl
      have L1 : Hid ((filt (zs.take j) n).length + 1 <= maxLen) := by unfold Hid maxLen; omega
      have L2 : Hid (((filt (zs.take j) n).length + 1) * 8 <= 140737488355328) := by unfold Hid; omega
      have HFP := hidden hfp
      clear hm hfp hb hkl
      go_wp2_with (at_builtin; refine wpList_appT intTy rfl (.tmp 20) (.tmp 25) 30 rfl 3 i3 (.int .i64 0) 8 Tryz.underlying30 hi3 hx0 hx1 hx2 rfl Nat.zero_lt_one u5 (filt (zs.take j) n) fp rfl ?_ ⟨wr.heap.size, 0, none⟩ 1 [.int .i64 x] x [] rfl ?_ ?_ ?_ ?_ ?_ ?_ ?_; exact MA.out; exact LI.out; simp; exact NN.out; (intro u hu; simp at hu; rw [hu]; rfl); exact L1.out; exact L2.out; intro v2 w2 fp2 m1 m2 m3; rw [← HF.out] at m1; have M1 := hidden m1; have M2 := hidden m2; have M3 := hidden m3; clear m1 m2 m3)
      have hf2 : ∀ b ∈ fp2, w.heap.size <= b := fun b hb => by
       rcases M2.out b hb with h | h | h
       . exact HFP.out b h
       . simp at h
       . have h1 := h.1
         have h2 := ZA.out
         omega
      have HB := hidden (BA.out.trans (M3.out.below (N := w.heap.size) (by have := ZA.out; omega) (fun b hb => HFP.out b hb)))
      have HF2 := hidden hf2
      clear hf2
      go_roundw
      case rel => exact ⟨j + 1, fp2, by omega, by go_num, M1.out, HF2.out, HB.out⟩
      case measure => simp [intOf]; omega
  . have e : j = len := by omega
    subst e
    rw [List.take_of_length_le (by omega)] at hm
    have hltb := hm.lt
    have HO := hidden (hm.own (lo := w.heap.size) (hi := wr.heap.size) (fun b hb' => ⟨hfp b hb', hltb b hb'⟩))
    go_wp2
    go_ret
    exact ⟨_, rfl, HO.out, hb⟩

theorem specWriteSec_any (w : World) (E : TypeId) (a0 a1 a3 a5 : Option Addr) (n0 c0 n1 c1 n3 c3 n5 c5 : Nat) (ss : List (List Int)) (cs : List (Int × List Int)) (f : Bool) (bs : List Int) (n : Int) (sw : List Int) (h0 : tIntSS.Rd w [.slice a0 n0 c0] ss) (h1 : (tWrS E).Rd w [.slice a1 n1 c1] cs) (h3 : tIntS.Rd w [.slice a3 n3 c3] bs) (h5 : tIntS.Rd w [.slice a5 n5 c5] sw) (hw : wtMem (ss, cs, f, bs) <= 2097152) (hw5 : n5 <= 2097152) :
 Calls Tryz.prog 188 #[.agg #[.slice a0 n0 c0, .slice a1 n1 c1, .bool f, .slice a3 n3 c3], .int .i64 n, .slice a5 n5 c5] w fun e w' => ∃ v0 v1 v3, e = .returned (.tuple #[.agg #[v0, v1, .bool f, v3], .bool (wrOk ss cs f bs n sw)]) /\ (tMem 159).Own w' w.heap.size w'.heap.size [v0, v1, .bool f, v3] (ss, wrCS ss cs f bs n sw, f, wrBS ss cs f bs n sw) /\ Below w.heap.size w w' := by
 obtain ⟨hl0, _, hm0⟩ := row_length h0
 obtain ⟨hl1, _, hm1⟩ := row_length h1
 obtain ⟨hl3, _, hm3⟩ := row_length h3
 obtain ⟨hl5, _, hm5⟩ := row_length h5
 by_cases hM : memB ss cs bs = true
 . by_cases hf : f = true
   . subst hf
     have hok : wrOk ss cs true bs n sw = false := by unfold wrOk; simp [hM]
     have e1 : wrCS ss cs true bs n sw = cs := by unfold wrCS; rw [hok]; rfl
     have e2 : wrBS ss cs true bs n sw = bs := by unfold wrBS; rw [hok]; rfl
     rw [hok, e1, e2]
     clear hok e1 e2
     have hA : Below w.heap.size w ((w.alloc (.cells #[.slice a0 n0 c0, .slice a1 n1 c1, .bool true, .slice a3 n3 c3] 109)).alloc (.cells #[.slice none 0 0, .slice none 0 0, .bool false, .slice none 0 0] 109)) := ((Below.refl _ _).alloc (Nat.le_refl _) _).alloc (by simp) _
     have xm : Box ((w.alloc (.cells #[.slice a0 n0 c0, .slice a1 n1 c1, .bool true, .slice a3 n3 c3] 109)).alloc (.cells #[.slice none 0 0, .slice none 0 0, .bool false, .slice none 0 0] 109)) w.heap.size 109 #[.slice a0 n0 c0, .slice a1 n1 c1, .bool true, .slice a3 n3 c3] := (Box.new w _ _).alloc _
     have xr : Box ((w.alloc (.cells #[.slice a0 n0 c0, .slice a1 n1 c1, .bool true, .slice a3 n3 c3] 109)).alloc (.cells #[.slice none 0 0, .slice none 0 0, .bool false, .slice none 0 0] 109)) (w.heap.size + 1) 109 #[.slice none 0 0, .slice none 0 0, .bool false, .slice none 0 0] := by
      have := Box.new (w.alloc (.cells #[.slice a0 n0 c0, .slice a1 n1 c1, .bool true, .slice a3 n3 c3] 109)) 109 #[.slice none 0 0, .slice none 0 0, .bool false, .slice none 0 0]
      rw [show (w.alloc (.cells #[.slice a0 n0 c0, .slice a1 n1 c1, .bool true, .slice a3 n3 c3] 109)).heap.size = w.heap.size + 1 by simp] at this
      exact this
     go_enter Tryz.func188, Tryz.ntmps188
     go_wp2_with fail
     generalize hW : (w.alloc (.cells #[.slice a0 n0 c0, .slice a1 n1 c1, .bool true, .slice a3 n3 c3] 109)).alloc (.cells #[.slice none 0 0, .slice none 0 0, .bool false, .slice none 0 0] 109) = W at hA xm xr ⊢
     clear hW
     have zr := xr.lt
     have B0 := hidden hA
     clear hA
     have XM0 := hidden xm
     clear xm
     have XR0 := hidden xr
     clear xr
     obtain ⟨q0, q1, q2, q3⟩ := XM0.out.cells4
     clear q0 q1 q2 q3
     refine (l2Copy_any _ E _ _ _ _ _ _ _ _ _ ss cs true bs (h0.below B0.out) (h1.below B0.out) (h3.below B0.out) hw).mono ?_
     intro e w1 hc
     obtain ⟨b0, b1, b3, e0, e1, e3, m1, m2, rfl, o3, o0, o1, r1, r2, r3, hb1⟩ := copy_shapes hl0 hl1 hl3 hc
     clear hc
     have B1 := hidden (Below.andThen B0.out hb1)
     have XM1 := hidden (XM0.out.below hb1 (by omega))
     have XR1 := hidden (XR0.out.below hb1 (by omega))
     have z1 := hb1.size
     clear B0 XM0 XR0 hb1
     have S1 := hidden o0
     clear o0
     have C1 := hidden o1
     clear o1
     have D1 := hidden o3
     clear o3
     have ba : Below w1.heap.size w1 (w1.alloc (.cells #[.slice b0 n0 e0, .slice b1 n1 e1, .bool true, .slice b3 n3 e3] 109)) := (Below.refl _ _).alloc (Nat.le_refl _) _
     have yo := Box.new w1 109 #[.slice b0 n0 e0, .slice b1 n1 e1, .bool true, .slice b3 n3 e3]
     have zo := yo.lt
     have B2 := hidden (Below.andThen B1.out ba)
     have XM2 := hidden (XM1.out.below ba (by omega))
     have XR2 := hidden (XR1.out.below ba (by omega))
     have S2 := hidden (S1.out.below ba)
     have C2 := hidden (C1.out.below ba)
     have D2 := hidden (D1.out.below ba)
     have z2 := ba.size
     clear B1 XM1 XR1 S1 C1 D1 ba
     have XO2 := hidden yo
     clear yo
     have sW : w.heap.size + 1 < W.heap.size := zr
     obtain ⟨q0, q1, q2, q3⟩ := XM2.out.cells4
     go_wp2_with fail
     generalize w1.alloc (.cells #[.slice b0 n0 e0, .slice b1 n1 e1, .bool true, .slice b3 n3 e3] 109) = w2 at B2 XM2 XR2 S2 C2 D2 XO2 z2 zo q0 q1 q2 q3 ⊢
     refine (specMemOk_any _ E _ _ _ _ _ _ _ _ _ ss cs true bs (h0.below B2.out) (h1.below B2.out) (h3.below B2.out) hw).mono ?_
     rintro e w3 ⟨rfl, hb3⟩
     clear q0 q1 q2 q3
     have B3 := hidden (Below.andThen B2.out hb3)
     have XM3 := hidden (XM2.out.below hb3 (by omega))
     have XR3 := hidden (XR2.out.below hb3 (by omega))
     have S3 := hidden (S2.out.below hb3)
     have C3 := hidden (C2.out.below hb3)
     have D3 := hidden (D2.out.below hb3)
     have XO3 := hidden (XO2.out.below hb3 (by omega))
     have z3 := hb3.size
     clear B2 XM2 XR2 S2 C2 D2 XO2 hb3
     obtain ⟨q0, q1, q2, q3⟩ := XM3.out.cells4
     obtain ⟨x0, x1, x2, x3⟩ := XO3.out.cells4
     obtain ⟨p0, p1, p2, p3⟩ := XR3.out.cells4
     have fz := XR3.out.frozen
     have hbt : But (w.heap.size + 1) (w.heap.size + 1 + 1) w3 ((((w3.setCell ⟨w.heap.size + 1, 0, none⟩ (.slice b0 n0 e0)).setCell ⟨w.heap.size + 1, 1, none⟩ (.slice b1 n1 e1)).setCell ⟨w.heap.size + 1, 2, none⟩ (.bool true)).setCell ⟨w.heap.size + 1, 3, none⟩ (.slice b3 n3 e3)) :=
      (((But.setCell (by omega) (by omega) _).trans (But.setCell (by omega) (by omega) _)).trans (But.setCell (by omega) (by omega) _)).trans (But.setCell (by omega) (by omega) _)
     have z99 := hbt.size
     have FIN : Hid ((tMem 159).Own ((((w3.setCell ⟨w.heap.size + 1, 0, none⟩ (.slice b0 n0 e0)).setCell ⟨w.heap.size + 1, 1, none⟩ (.slice b1 n1 e1)).setCell ⟨w.heap.size + 1, 2, none⟩ (.bool true)).setCell ⟨w.heap.size + 1, 3, none⟩ (.slice b3 n3 e3)) w.heap.size ((((w3.setCell ⟨w.heap.size + 1, 0, none⟩ (.slice b0 n0 e0)).setCell ⟨w.heap.size + 1, 1, none⟩ (.slice b1 n1 e1)).setCell ⟨w.heap.size + 1, 2, none⟩ (.bool true)).setCell ⟨w.heap.size + 1, 3, none⟩ (.slice b3 n3 e3)).heap.size [.slice b0 n0 e0, .slice b1 n1 e1, .bool true, .slice b3 n3 e3] (ss, cs, true, bs)) := mem_own3 (S3.out.but hbt (by omega)) (C3.out.but hbt (by omega)) (D3.out.but hbt (by omega)) (by omega) (by omega) (by omega) (by omega) (by omega) (by omega)
     have FB := hidden (Below.andBut B3.out hbt (by omega))
     clear hbt
     go_wp2
     refine bodyPost_ret (v := .tuple #[.agg #[.slice b0 n0 e0, .slice b1 n1 e1, .bool true, .slice b3 n3 e3], .bool false]) (by simp [results, Tryz.results188, go_sem, p0, p1, p2, p3]) rfl ?_
     exact ⟨_, _, _, rfl, FIN.out, FB.out⟩
   . have hf : f = false := by simpa using hf
     subst hf
     by_cases hI : inB n 0 ((n0 : Int) - 1) = true
     . by_cases hS : secB sw = true
       . by_cases hL : n1 < 60
         . have hL' : ¬ (60 : Int) <= (n1 : Int) := by omega
           have hok : wrOk ss cs false bs n sw = true := by unfold wrOk; rw [hM, hl0, hI, hS, decide_eq_true (by omega)]; rfl
           have e1 : wrCS ss cs false bs n sw = cs ++ [(n, sw)] := by unfold wrCS; rw [hok]; rfl
           have e2 : wrBS ss cs false bs n sw = filt bs n := by unfold wrBS; rw [hok]; rfl
           rw [hok, e1, e2]
           clear hok e1 e2
           have hA : Below w.heap.size w ((w.alloc (.cells #[.slice a0 n0 c0, .slice a1 n1 c1, .bool false, .slice a3 n3 c3] 109)).alloc (.cells #[.slice none 0 0, .slice none 0 0, .bool false, .slice none 0 0] 109)) := ((Below.refl _ _).alloc (Nat.le_refl _) _).alloc (by simp) _
           have xm : Box ((w.alloc (.cells #[.slice a0 n0 c0, .slice a1 n1 c1, .bool false, .slice a3 n3 c3] 109)).alloc (.cells #[.slice none 0 0, .slice none 0 0, .bool false, .slice none 0 0] 109)) w.heap.size 109 #[.slice a0 n0 c0, .slice a1 n1 c1, .bool false, .slice a3 n3 c3] := (Box.new w _ _).alloc _
           have xr : Box ((w.alloc (.cells #[.slice a0 n0 c0, .slice a1 n1 c1, .bool false, .slice a3 n3 c3] 109)).alloc (.cells #[.slice none 0 0, .slice none 0 0, .bool false, .slice none 0 0] 109)) (w.heap.size + 1) 109 #[.slice none 0 0, .slice none 0 0, .bool false, .slice none 0 0] := by
            have := Box.new (w.alloc (.cells #[.slice a0 n0 c0, .slice a1 n1 c1, .bool false, .slice a3 n3 c3] 109)) 109 #[.slice none 0 0, .slice none 0 0, .bool false, .slice none 0 0]
            rw [show (w.alloc (.cells #[.slice a0 n0 c0, .slice a1 n1 c1, .bool false, .slice a3 n3 c3] 109)).heap.size = w.heap.size + 1 by simp] at this
            exact this
           go_enter Tryz.func188, Tryz.ntmps188
           go_wp2_with fail
           generalize hW : (w.alloc (.cells #[.slice a0 n0 c0, .slice a1 n1 c1, .bool false, .slice a3 n3 c3] 109)).alloc (.cells #[.slice none 0 0, .slice none 0 0, .bool false, .slice none 0 0] 109) = W at hA xm xr ⊢
           clear hW
           have zr := xr.lt
           have B0 := hidden hA
           clear hA
           have XM0 := hidden xm
           clear xm
           have XR0 := hidden xr
           clear xr
           obtain ⟨q0, q1, q2, q3⟩ := XM0.out.cells4
           clear q0 q1 q2 q3
           refine (l2Copy_any _ E _ _ _ _ _ _ _ _ _ ss cs false bs (h0.below B0.out) (h1.below B0.out) (h3.below B0.out) hw).mono ?_
           intro e w1 hc
           obtain ⟨b0, b1, b3, e0, e1, e3, m1, m2, rfl, o3, o0, o1, r1, r2, r3, hb1⟩ := copy_shapes hl0 hl1 hl3 hc
           clear hc
           have B1 := hidden (Below.andThen B0.out hb1)
           have XM1 := hidden (XM0.out.below hb1 (by omega))
           have XR1 := hidden (XR0.out.below hb1 (by omega))
           have z1 := hb1.size
           clear B0 XM0 XR0 hb1
           have S1 := hidden o0
           clear o0
           have C1 := hidden o1
           clear o1
           have D1 := hidden o3
           clear o3
           have ba : Below w1.heap.size w1 (w1.alloc (.cells #[.slice b0 n0 e0, .slice b1 n1 e1, .bool false, .slice b3 n3 e3] 109)) := (Below.refl _ _).alloc (Nat.le_refl _) _
           have yo := Box.new w1 109 #[.slice b0 n0 e0, .slice b1 n1 e1, .bool false, .slice b3 n3 e3]
           have zo := yo.lt
           have B2 := hidden (Below.andThen B1.out ba)
           have XM2 := hidden (XM1.out.below ba (by omega))
           have XR2 := hidden (XR1.out.below ba (by omega))
           have S2 := hidden (S1.out.below ba)
           have C2 := hidden (C1.out.below ba)
           have D2 := hidden (D1.out.below ba)
           have z2 := ba.size
           clear B1 XM1 XR1 S1 C1 D1 ba
           have XO2 := hidden yo
           clear yo
           have sW : w.heap.size + 1 < W.heap.size := zr
           obtain ⟨q0, q1, q2, q3⟩ := XM2.out.cells4
           go_wp2_with fail
           generalize w1.alloc (.cells #[.slice b0 n0 e0, .slice b1 n1 e1, .bool false, .slice b3 n3 e3] 109) = w2 at B2 XM2 XR2 S2 C2 D2 XO2 z2 zo q0 q1 q2 q3 ⊢
           refine (specMemOk_any _ E _ _ _ _ _ _ _ _ _ ss cs false bs (h0.below B2.out) (h1.below B2.out) (h3.below B2.out) hw).mono ?_
           rintro e w3 ⟨rfl, hb3⟩
           clear q0 q1 q2 q3
           have B3 := hidden (Below.andThen B2.out hb3)
           have XM3 := hidden (XM2.out.below hb3 (by omega))
           have XR3 := hidden (XR2.out.below hb3 (by omega))
           have S3 := hidden (S2.out.below hb3)
           have C3 := hidden (C2.out.below hb3)
           have D3 := hidden (D2.out.below hb3)
           have XO3 := hidden (XO2.out.below hb3 (by omega))
           have z3 := hb3.size
           clear B2 XM2 XR2 S2 C2 D2 XO2 hb3
           obtain ⟨q0, q1, q2, q3⟩ := XM3.out.cells4
           have gw : IntKind.i64.wrap ((n0 : Int) - 1) = (n0 : Int) - 1 := IntWalk.i64_in _ (by omega)
           go_wp2_with fail
           refine (l1In_any _ _ _ _).mono ?_
           rintro e w4 ⟨rfl, hw4⟩
           have hs4 : Same w3 w4 := by rw [hw4]; exact Same.refl _
           clear hw4 gw
           clear q0 q1 q2 q3
           have B4 := hidden (Below.andSame B3.out hs4)
           have XM4 := hidden (XM3.out.same hs4)
           have XR4 := hidden (XR3.out.same hs4)
           have S4 := hidden (S3.out.same hs4)
           have C4 := hidden (C3.out.same hs4)
           have D4 := hidden (D3.out.same hs4)
           have XO4 := hidden (XO3.out.same hs4)
           have z4 := Nat.le_of_eq hs4.size.symm
           clear B3 XM3 XR3 S3 C3 D3 XO3 hs4
           obtain ⟨q0, q1, q2, q3⟩ := XM4.out.cells4
           go_wp2_with fail
           refine (specSecOk_any _ _ _ _ sw hl5 (ints_rd (h5.below B4.out)).1 hw5).mono ?_
           rintro e w5 ⟨rfl, hs5⟩
           clear q0 q1 q2 q3
           have B5 := hidden (Below.andSame B4.out hs5)
           have XM5 := hidden (XM4.out.same hs5)
           have XR5 := hidden (XR4.out.same hs5)
           have S5 := hidden (S4.out.same hs5)
           have C5 := hidden (C4.out.same hs5)
           have D5 := hidden (D4.out.same hs5)
           have XO5 := hidden (XO4.out.same hs5)
           have z5 := Nat.le_of_eq hs5.size.symm
           clear B4 XM4 XR4 S4 C4 D4 XO4 hs5
           obtain ⟨q0, q1, q2, q3⟩ := XM5.out.cells4
           obtain ⟨x0, x1, x2, x3⟩ := XO5.out.cells4
           have hle : ¬ (60 : Int) <= (n1 : Int) := by omega
           have hlw3 : n3 <= 2097152 := by unfold wtMem at hw; simp only at hw; omega
           go_wp2_with fail
           clear q0 q1 q2 q3
           obtain ⟨i1, hi1, hy0, hy1, hy2⟩ := info_parts Tryz.infoWr
           obtain ⟨i3, hi3, hx0, hx1, hx2⟩ := info_parts Tryz.info3
           obtain ⟨fpC, mC, rC⟩ := C5.out.mine
           have MC := hidden mC
           have RC := hidden rC
           clear mC rC
           have HX5 := hidden (h5.below B5.out)
           have L1 : Hid (cs.length + 1 <= maxLen) := by unfold Hid maxLen; omega
           have L2 : Hid ((cs.length + 1) * 32 <= 140737488355328) := by unfold Hid; omega
           have hS : w5.drew.cell? ⟨w1.heap.size, 1, none⟩ = some (.slice b1 n1 e1) := XO5.out.cell 1
           clear x0 x1 x2 x3 hle
           have bA : Below w5.heap.size w5 (w5.alloc (.cells #[] 3)) := (Below.refl _ _).alloc (Nat.le_refl _) _
           have hS2 : (w5.alloc (.cells #[] 3)).drew.cell? ⟨w1.heap.size, 1, none⟩ = some (.slice b1 n1 e1) := (XO5.out.alloc (.cells #[] 3)).cell 1
           have HG : Hid ((w5.alloc (.cells #[] 3)).drew.heap[w5.heap.size]? = some (.cells #[] 3 (0, 0))) := Box.new w5 3 #[]
           have RD : Hid (tIntS.Rd (w5.alloc (.cells #[] 3)).drew [.slice a5 n5 c5] sw) := (HX5.out.below bA).drew
           have BA := hidden bA
           clear bA
           refine Upto.start (S := fun w' => w'.cell? ⟨w1.heap.size, 1, none⟩ = some (.slice b1 n1 e1)) (k := 10) (by kernel_rfl) ?_
           refine Upto.t 0 hS ?_
           refine Upto.t 1 hS ?_
           refine Upto.t 2 hS ?_
           refine Upto.t 4 hS ?_
           refine Upto.one (i := 3) (by kernel_rfl) rfl (fun K hK => ?_)
           go_simp
           refine hK.out _ _ (fun _ => hS2) ?_
           clear hK K
           refine Upto.one (i := 5) (by kernel_rfl) rfl (fun K hK => ?_)
           refine step_copy (by rfl) _ _ 30 (by rfl) i3 Tryz.underlying30 hi3 hx0 hx1 hx2 w5.heap.size (by rfl) HG.out a5 n5 c5 sw (by rfl) RD.out (by omega) ?_
           intro ac cc wc fpx mx rx tx
           have tx' : Turned [w5.heap.size] (w5.alloc (.cells #[] 3)) wc := Turned.undrew tx
           have zA : (w5.alloc (.cells #[] 3)).heap.size = w5.heap.size + 1 := by simp
           have zd : (w5.alloc (.cells #[] 3)).drew.heap.size = (w5.alloc (.cells #[] 3)).heap.size := rfl
           have hbc : Below w5.heap.size w5 wc := BA.out.trans (tx'.below (N := w5.heap.size) (by omega) (by simp))
           have RX : Hid (∀ b ∈ fpx, w5.heap.size <= b /\ b < wc.heap.size) := fun b hb => by have := rx b hb; omega
           have MX := hidden mx
           clear mx rx tx tx' zA zd
           have xoc : Box wc w1.heap.size 109 _ := XO5.out.below hbc (by omega)
           have hS3 : wc.cell? ⟨w1.heap.size, 1, none⟩ = some (.slice b1 n1 e1) := xoc.cell 1
           have hS4 : (wc.alloc (.cells #[.int .i64 n, .slice ac n5 cc] 159)).cell? ⟨w1.heap.size, 1, none⟩ = some (.slice b1 n1 e1) := (xoc.alloc (.cells #[.int .i64 n, .slice ac n5 cc] 159)).cell 1
           have XOC := hidden xoc
           have HBC := hidden hbc
           clear xoc hbc
           refine hK.out _ _ (fun _ => hS3) ?_
           clear hK K
           simp only [Act.put, List.setIfInBounds_toArray, List.set_cons_zero, List.set_cons_succ]
           refine Upto.t 6 hS3 ?_
           refine Upto.one (i := 7) (by kernel_rfl) rfl (fun K hK => ?_)
           go_simp
           refine hK.out _ _ (fun _ => hS4) ?_
           clear hK K
           refine Upto.one (i := 8) (by kernel_rfl) rfl (fun K hK => ?_)
           refine step_appT tWr (by rfl) _ _ 107 (by rfl) 159 i1 (.agg #[.int .i64 0, .slice none 0 0]) 32 Tryz.underlying107 hi1 hy0 hy1 hy2 rfl Nat.zero_lt_two (.slice b1 n1 e1) cs fpC (by rfl) ?_ ⟨wc.heap.size, 0, none⟩ 1 [.int .i64 n, .slice ac n5 cc] (n, sw) fpx (by rfl) ?_ ?_ ?_ ?_ L1.out L2.out ?_
           . exact (MC.out.below HBC.out).alloc _
           . exact (wr_mine n MX.out).alloc _
           . intro b hb hb'
             have h1 := RC.out b hb
             have h2 := RX.out b hb'
             omega
           . exact news_new _ _ _
           . intro u hu
             simp at hu
             rcases hu with hu | hu <;> (rw [hu]; rfl)
           intro g cap wA fpA m1' m2' m3'
           rw [hl1] at m1' ⊢
           have zB : (wc.alloc (.cells #[.int .i64 n, .slice ac n5 cc] 159)).heap.size = wc.heap.size + 1 := by simp
           have ya : Box wA w1.heap.size 109 _ := (XOC.out.alloc _).turned m3' (fun hm => by have := RC.out _ hm; omega)
           have hS5 : wA.cell? ⟨w1.heap.size, 1, none⟩ = some (.slice b1 n1 e1) := ya.cell 1
           have c9 := hS5
           have fz := ya.frozen 1
           have YA := hidden ya
           have M1 := hidden m1'
           have M2 := hidden m2'
           have M3 := hidden m3'
           have ZB := hidden zB
           clear ya m1' m2' m3' zB
           refine hK.out _ _ (fun _ => hS5) ?_
           clear hK K
           simp only [Act.put, List.setIfInBounds_toArray, List.set_cons_zero, List.set_cons_succ]
           refine Upto.t 9 hS5 ?_
           refine Upto.one (i := 10) (by kernel_rfl) rfl (fun K hK => ?_)
           go_simp
           refine hK.out _ _ (fun h => absurd rfl h) ?_
           clear hK K
           refine Upto.done (by kernel_rfl) ?_ _
           have zc := HBC.out.size
           have zA := M3.out.size
           have zB := ZB.out
           have hb6 : But m2 (w1.heap.size + 1) w5 (wA.setCell ⟨w1.heap.size, 1, none⟩ (.slice (some ⟨g, 0, none⟩) (n1 + 1) cap)) := ((But.of_below (Below.andThen HBC.out ((Below.refl _ _).alloc (Nat.le_refl _) _))).trans (M3.out.but (fun b hb => by have := RC.out b hb; omega))).trans (But.setCell (by omega) (by omega) _)
           have rA : ∀ b ∈ fpA, m2 <= b /\ b ≠ w1.heap.size /\ b < wA.heap.size := fun b hb => by
            have hlt := M1.out.lt b hb
            rcases M2.out b hb with h | h | h
            . have := RC.out b h
              omega
            . have := RX.out b h
              omega
            . have := h.1
              omega
           have mZ := M1.out.setCell (g := w1.heap.size) (j := 1) (fun hm => by have := rA _ hm; omega) (.slice (some ⟨g, 0, none⟩) (n1 + 1) cap)
           have yZ := YA.out.set 1 (.slice (some ⟨g, 0, none⟩) (n1 + 1) cap)
           have zs : wA.heap.size <= (wA.setCell ⟨w1.heap.size, 1, none⟩ (.slice (some ⟨g, 0, none⟩) (n1 + 1) cap)).heap.size := by simp
           have MZ := hidden mZ
           have RZ : Hid (∀ b ∈ fpA, m2 <= b /\ b ≠ w1.heap.size /\ b < (wA.setCell ⟨w1.heap.size, 1, none⟩ (.slice (some ⟨g, 0, none⟩) (n1 + 1) cap)).heap.size) := fun b hb => by have := rA b hb; omega
           have YZ := hidden yZ
           clear mZ rA yZ zs zA zB zc hS hS3 hS4 hS5 c9 fz YA M1 M2 M3 ZB XOC MX RX HBC MC RC HX5 L1 L2 hS2 HG RD BA
           clear XO5
           clear C5
           have B6 := hidden (Below.andBut B5.out hb6 (by omega))
           have XM6 := hidden (XM5.out.kept (hb6.block _ (by omega) (by omega)))
           have XR6 := hidden (XR5.out.kept (hb6.block _ (by omega) (by omega)))
           have S6 := hidden (S5.out.but hb6 (by omega))
           have D6 := hidden (D5.out.but hb6 (by omega))
           have z6 := hb6.size
           clear B5 XM5 XR5 S5 D5 hb6
           generalize (wA.setCell ⟨w1.heap.size, 1, none⟩ (.slice (some ⟨g, 0, none⟩) (n1 + 1) cap)) = w6 at B6 XM6 XR6 S6 D6 z6 MZ RZ YZ ⊢
           have XO6 : Hid (Box w6 w1.heap.size 109 #[.slice b0 n0 e0, .slice (some ⟨g, 0, none⟩) (n1 + 1) cap, .bool false, .slice b3 n3 e3]) := YZ.out
           clear YZ
           obtain ⟨q0, q1, q2, q3⟩ := XM6.out.cells4
           go_wp2_with fail
           refine (l2Without_any _ _ _ _ bs n (h3.below B6.out) (by omega)).mono ?_
           rintro e wb ⟨vd, rfl, od, hbB⟩
           obtain ⟨d3, f3, hvd⟩ := row_shape od.rd
           subst hvd
           have zb := hbB.size
           have xob : Box wb w1.heap.size 109 _ := XO6.out.below hbB (by omega)
           obtain ⟨x0, x1, x2, x3⟩ := xob.cells4
           have fz := xob.frozen 3
           have XOB := hidden xob
           have OD := hidden od
           have HBB := hidden hbB
           clear xob od hbB q0 q1 q2 q3
           have bs9 := But.setCell (lo := w1.heap.size) (hi := w1.heap.size + 1) (g := w1.heap.size) (j := 3) (w := wb) (Nat.le_refl _) (Nat.lt_succ_self _) (.slice d3 (filt bs n).length f3)
           have zt := bs9.size
           have MY := hidden ((MZ.out.below HBB.out).but bs9 (fun b hb => by have := RZ.out b hb; omega))
           have YZ := hidden (XOB.out.set 3 (.slice d3 (filt bs n).length f3))
           have D7 := hidden (OD.out.but bs9 (.inr (by omega)))
           have S7 := hidden ((S6.out.below HBB.out).but bs9 (.inl (by omega)))
           have XR7 := hidden ((XR6.out.below HBB.out (by omega)).kept (bs9.block _ (by omega) (by omega)))
           have B7 := hidden (Below.andBut (Below.andThen B6.out HBB.out) bs9 (by omega))
           have RY : Hid (∀ b ∈ fpA, m2 <= b /\ b < w6.heap.size) := fun b hb => by have := RZ.out b hb; omega
           have z7 : wb.heap.size <= (wb.setCell ⟨w1.heap.size, 3, none⟩ (.slice d3 (filt bs n).length f3)).heap.size := zt
           clear bs9 zt XOB OD HBB MZ RZ B6 XM6 XR6 S6 D6 XO6
           obtain ⟨t0, t1, t2, t3⟩ := Box.cells4 (v0 := .slice b0 n0 e0) (v1 := .slice (some ⟨g, 0, none⟩) (n1 + 1) cap) (v2 := .bool false) (v3 := .slice d3 (filt bs n).length f3) YZ.out
           obtain ⟨p0, p1, p2, p3⟩ := XR7.out.cells4
           have fr := XR7.out.frozen
           go_wp2
           generalize (wb.setCell ⟨w1.heap.size, 3, none⟩ (.slice d3 (filt bs n).length f3)) = w7 at B7 S7 D7 XR7 MY RY YZ z7 p0 p1 p2 p3 fr t0 t1 t2 t3 ⊢
           have hbt : But (w.heap.size + 1) (w.heap.size + 1 + 1) w7 ((((w7.setCell ⟨w.heap.size + 1, 0, none⟩ (.slice b0 n0 e0)).setCell ⟨w.heap.size + 1, 1, none⟩ (.slice (some ⟨g, 0, none⟩) (n1 + 1) cap)).setCell ⟨w.heap.size + 1, 2, none⟩ (.bool false)).setCell ⟨w.heap.size + 1, 3, none⟩ (.slice d3 (filt bs n).length f3)) :=
            (((But.setCell (by omega) (by omega) _).trans (But.setCell (by omega) (by omega) _)).trans (But.setCell (by omega) (by omega) _)).trans (But.setCell (by omega) (by omega) _)
           have z99 := hbt.size
           refine bodyPost_ret (v := .tuple #[.agg #[.slice b0 n0 e0, .slice (some ⟨g, 0, none⟩) (n1 + 1) cap, .bool false, .slice d3 (filt bs n).length f3], .bool true]) (by simp [results, Tryz.results188, go_sem, p0, p1, p2, p3]) rfl ?_
           have FIN : Hid ((tMem 159).Own ((((w7.setCell ⟨w.heap.size + 1, 0, none⟩ (.slice b0 n0 e0)).setCell ⟨w.heap.size + 1, 1, none⟩ (.slice (some ⟨g, 0, none⟩) (n1 + 1) cap)).setCell ⟨w.heap.size + 1, 2, none⟩ (.bool false)).setCell ⟨w.heap.size + 1, 3, none⟩ (.slice d3 (filt bs n).length f3)) w.heap.size ((((w7.setCell ⟨w.heap.size + 1, 0, none⟩ (.slice b0 n0 e0)).setCell ⟨w.heap.size + 1, 1, none⟩ (.slice (some ⟨g, 0, none⟩) (n1 + 1) cap)).setCell ⟨w.heap.size + 1, 2, none⟩ (.bool false)).setCell ⟨w.heap.size + 1, 3, none⟩ (.slice d3 (filt bs n).length f3)).heap.size [.slice b0 n0 e0, .slice (some ⟨g, 0, none⟩) (n1 + 1) cap, .bool false, .slice d3 (filt bs n).length f3] (ss, cs ++ [(n, sw)], false, filt bs n)) := mem_own3 (S7.out.but hbt (by omega)) ((MY.out.own (lo := m2) (hi := w6.heap.size) (fun b hb => RY.out b hb)).but hbt (by omega)) (D7.out.but hbt (by omega)) (by omega) (by omega) (by omega) (by omega) (by omega) (by omega)
           have FB := hidden (Below.andBut B7.out hbt (by omega))
           exact ⟨_, _, _, rfl, FIN.out, FB.out⟩
         . have hL' : (60 : Int) <= (n1 : Int) := by omega
           have hL2 : ¬ cs.length < 60 := by omega
           have hok : wrOk ss cs false bs n sw = false := by unfold wrOk; simp [hL2]
           have e1 : wrCS ss cs false bs n sw = cs := by unfold wrCS; rw [hok]; rfl
           have e2 : wrBS ss cs false bs n sw = bs := by unfold wrBS; rw [hok]; rfl
           rw [hok, e1, e2]
           clear hok e1 e2
           have hA : Below w.heap.size w ((w.alloc (.cells #[.slice a0 n0 c0, .slice a1 n1 c1, .bool false, .slice a3 n3 c3] 109)).alloc (.cells #[.slice none 0 0, .slice none 0 0, .bool false, .slice none 0 0] 109)) := ((Below.refl _ _).alloc (Nat.le_refl _) _).alloc (by simp) _
           have xm : Box ((w.alloc (.cells #[.slice a0 n0 c0, .slice a1 n1 c1, .bool false, .slice a3 n3 c3] 109)).alloc (.cells #[.slice none 0 0, .slice none 0 0, .bool false, .slice none 0 0] 109)) w.heap.size 109 #[.slice a0 n0 c0, .slice a1 n1 c1, .bool false, .slice a3 n3 c3] := (Box.new w _ _).alloc _
           have xr : Box ((w.alloc (.cells #[.slice a0 n0 c0, .slice a1 n1 c1, .bool false, .slice a3 n3 c3] 109)).alloc (.cells #[.slice none 0 0, .slice none 0 0, .bool false, .slice none 0 0] 109)) (w.heap.size + 1) 109 #[.slice none 0 0, .slice none 0 0, .bool false, .slice none 0 0] := by
            have := Box.new (w.alloc (.cells #[.slice a0 n0 c0, .slice a1 n1 c1, .bool false, .slice a3 n3 c3] 109)) 109 #[.slice none 0 0, .slice none 0 0, .bool false, .slice none 0 0]
            rw [show (w.alloc (.cells #[.slice a0 n0 c0, .slice a1 n1 c1, .bool false, .slice a3 n3 c3] 109)).heap.size = w.heap.size + 1 by simp] at this
            exact this
           go_enter Tryz.func188, Tryz.ntmps188
           go_wp2_with fail
           generalize hW : (w.alloc (.cells #[.slice a0 n0 c0, .slice a1 n1 c1, .bool false, .slice a3 n3 c3] 109)).alloc (.cells #[.slice none 0 0, .slice none 0 0, .bool false, .slice none 0 0] 109) = W at hA xm xr ⊢
           clear hW
           have zr := xr.lt
           have B0 := hidden hA
           clear hA
           have XM0 := hidden xm
           clear xm
           have XR0 := hidden xr
           clear xr
           obtain ⟨q0, q1, q2, q3⟩ := XM0.out.cells4
           clear q0 q1 q2 q3
           refine (l2Copy_any _ E _ _ _ _ _ _ _ _ _ ss cs false bs (h0.below B0.out) (h1.below B0.out) (h3.below B0.out) hw).mono ?_
           intro e w1 hc
           obtain ⟨b0, b1, b3, e0, e1, e3, m1, m2, rfl, o3, o0, o1, r1, r2, r3, hb1⟩ := copy_shapes hl0 hl1 hl3 hc
           clear hc
           have B1 := hidden (Below.andThen B0.out hb1)
           have XM1 := hidden (XM0.out.below hb1 (by omega))
           have XR1 := hidden (XR0.out.below hb1 (by omega))
           have z1 := hb1.size
           clear B0 XM0 XR0 hb1
           have S1 := hidden o0
           clear o0
           have C1 := hidden o1
           clear o1
           have D1 := hidden o3
           clear o3
           have ba : Below w1.heap.size w1 (w1.alloc (.cells #[.slice b0 n0 e0, .slice b1 n1 e1, .bool false, .slice b3 n3 e3] 109)) := (Below.refl _ _).alloc (Nat.le_refl _) _
           have yo := Box.new w1 109 #[.slice b0 n0 e0, .slice b1 n1 e1, .bool false, .slice b3 n3 e3]
           have zo := yo.lt
           have B2 := hidden (Below.andThen B1.out ba)
           have XM2 := hidden (XM1.out.below ba (by omega))
           have XR2 := hidden (XR1.out.below ba (by omega))
           have S2 := hidden (S1.out.below ba)
           have C2 := hidden (C1.out.below ba)
           have D2 := hidden (D1.out.below ba)
           have z2 := ba.size
           clear B1 XM1 XR1 S1 C1 D1 ba
           have XO2 := hidden yo
           clear yo
           have sW : w.heap.size + 1 < W.heap.size := zr
           obtain ⟨q0, q1, q2, q3⟩ := XM2.out.cells4
           go_wp2_with fail
           generalize w1.alloc (.cells #[.slice b0 n0 e0, .slice b1 n1 e1, .bool false, .slice b3 n3 e3] 109) = w2 at B2 XM2 XR2 S2 C2 D2 XO2 z2 zo q0 q1 q2 q3 ⊢
           refine (specMemOk_any _ E _ _ _ _ _ _ _ _ _ ss cs false bs (h0.below B2.out) (h1.below B2.out) (h3.below B2.out) hw).mono ?_
           rintro e w3 ⟨rfl, hb3⟩
           clear q0 q1 q2 q3
           have B3 := hidden (Below.andThen B2.out hb3)
           have XM3 := hidden (XM2.out.below hb3 (by omega))
           have XR3 := hidden (XR2.out.below hb3 (by omega))
           have S3 := hidden (S2.out.below hb3)
           have C3 := hidden (C2.out.below hb3)
           have D3 := hidden (D2.out.below hb3)
           have XO3 := hidden (XO2.out.below hb3 (by omega))
           have z3 := hb3.size
           clear B2 XM2 XR2 S2 C2 D2 XO2 hb3
           obtain ⟨q0, q1, q2, q3⟩ := XM3.out.cells4
           have gw : IntKind.i64.wrap ((n0 : Int) - 1) = (n0 : Int) - 1 := IntWalk.i64_in _ (by omega)
           go_wp2_with fail
           refine (l1In_any _ _ _ _).mono ?_
           rintro e w4 ⟨rfl, hw4⟩
           have hs4 : Same w3 w4 := by rw [hw4]; exact Same.refl _
           clear hw4 gw
           clear q0 q1 q2 q3
           have B4 := hidden (Below.andSame B3.out hs4)
           have XM4 := hidden (XM3.out.same hs4)
           have XR4 := hidden (XR3.out.same hs4)
           have S4 := hidden (S3.out.same hs4)
           have C4 := hidden (C3.out.same hs4)
           have D4 := hidden (D3.out.same hs4)
           have XO4 := hidden (XO3.out.same hs4)
           have z4 := Nat.le_of_eq hs4.size.symm
           clear B3 XM3 XR3 S3 C3 D3 XO3 hs4
           obtain ⟨q0, q1, q2, q3⟩ := XM4.out.cells4
           go_wp2_with fail
           refine (specSecOk_any _ _ _ _ sw hl5 (ints_rd (h5.below B4.out)).1 hw5).mono ?_
           rintro e w5 ⟨rfl, hs5⟩
           clear q0 q1 q2 q3
           have B5 := hidden (Below.andSame B4.out hs5)
           have XM5 := hidden (XM4.out.same hs5)
           have XR5 := hidden (XR4.out.same hs5)
           have S5 := hidden (S4.out.same hs5)
           have C5 := hidden (C4.out.same hs5)
           have D5 := hidden (D4.out.same hs5)
           have XO5 := hidden (XO4.out.same hs5)
           have z5 := Nat.le_of_eq hs5.size.symm
           clear B4 XM4 XR4 S4 C4 D4 XO4 hs5
           obtain ⟨q0, q1, q2, q3⟩ := XM5.out.cells4
           obtain ⟨x0, x1, x2, x3⟩ := XO5.out.cells4
           obtain ⟨p0, p1, p2, p3⟩ := XR5.out.cells4
           have fz := XR5.out.frozen
           have hbt : But (w.heap.size + 1) (w.heap.size + 1 + 1) w5 ((((w5.setCell ⟨w.heap.size + 1, 0, none⟩ (.slice b0 n0 e0)).setCell ⟨w.heap.size + 1, 1, none⟩ (.slice b1 n1 e1)).setCell ⟨w.heap.size + 1, 2, none⟩ (.bool false)).setCell ⟨w.heap.size + 1, 3, none⟩ (.slice b3 n3 e3)) :=
            (((But.setCell (by omega) (by omega) _).trans (But.setCell (by omega) (by omega) _)).trans (But.setCell (by omega) (by omega) _)).trans (But.setCell (by omega) (by omega) _)
           have z99 := hbt.size
           have FIN : Hid ((tMem 159).Own ((((w5.setCell ⟨w.heap.size + 1, 0, none⟩ (.slice b0 n0 e0)).setCell ⟨w.heap.size + 1, 1, none⟩ (.slice b1 n1 e1)).setCell ⟨w.heap.size + 1, 2, none⟩ (.bool false)).setCell ⟨w.heap.size + 1, 3, none⟩ (.slice b3 n3 e3)) w.heap.size ((((w5.setCell ⟨w.heap.size + 1, 0, none⟩ (.slice b0 n0 e0)).setCell ⟨w.heap.size + 1, 1, none⟩ (.slice b1 n1 e1)).setCell ⟨w.heap.size + 1, 2, none⟩ (.bool false)).setCell ⟨w.heap.size + 1, 3, none⟩ (.slice b3 n3 e3)).heap.size [.slice b0 n0 e0, .slice b1 n1 e1, .bool false, .slice b3 n3 e3] (ss, cs, false, bs)) := mem_own3 (S5.out.but hbt (by omega)) (C5.out.but hbt (by omega)) (D5.out.but hbt (by omega)) (by omega) (by omega) (by omega) (by omega) (by omega) (by omega)
           have FB := hidden (Below.andBut B5.out hbt (by omega))
           clear hbt
           go_wp2
           refine bodyPost_ret (v := .tuple #[.agg #[.slice b0 n0 e0, .slice b1 n1 e1, .bool false, .slice b3 n3 e3], .bool false]) (by simp [results, Tryz.results188, go_sem, p0, p1, p2, p3]) rfl ?_
           exact ⟨_, _, _, rfl, FIN.out, FB.out⟩
       . have hS : secB sw = false := by simpa using hS
         have hok : wrOk ss cs false bs n sw = false := by unfold wrOk; simp [hS]
         have e1 : wrCS ss cs false bs n sw = cs := by unfold wrCS; rw [hok]; rfl
         have e2 : wrBS ss cs false bs n sw = bs := by unfold wrBS; rw [hok]; rfl
         rw [hok, e1, e2]
         clear hok e1 e2
         have hA : Below w.heap.size w ((w.alloc (.cells #[.slice a0 n0 c0, .slice a1 n1 c1, .bool false, .slice a3 n3 c3] 109)).alloc (.cells #[.slice none 0 0, .slice none 0 0, .bool false, .slice none 0 0] 109)) := ((Below.refl _ _).alloc (Nat.le_refl _) _).alloc (by simp) _
         have xm : Box ((w.alloc (.cells #[.slice a0 n0 c0, .slice a1 n1 c1, .bool false, .slice a3 n3 c3] 109)).alloc (.cells #[.slice none 0 0, .slice none 0 0, .bool false, .slice none 0 0] 109)) w.heap.size 109 #[.slice a0 n0 c0, .slice a1 n1 c1, .bool false, .slice a3 n3 c3] := (Box.new w _ _).alloc _
         have xr : Box ((w.alloc (.cells #[.slice a0 n0 c0, .slice a1 n1 c1, .bool false, .slice a3 n3 c3] 109)).alloc (.cells #[.slice none 0 0, .slice none 0 0, .bool false, .slice none 0 0] 109)) (w.heap.size + 1) 109 #[.slice none 0 0, .slice none 0 0, .bool false, .slice none 0 0] := by
          have := Box.new (w.alloc (.cells #[.slice a0 n0 c0, .slice a1 n1 c1, .bool false, .slice a3 n3 c3] 109)) 109 #[.slice none 0 0, .slice none 0 0, .bool false, .slice none 0 0]
          rw [show (w.alloc (.cells #[.slice a0 n0 c0, .slice a1 n1 c1, .bool false, .slice a3 n3 c3] 109)).heap.size = w.heap.size + 1 by simp] at this
          exact this
         go_enter Tryz.func188, Tryz.ntmps188
         go_wp2_with fail
         generalize hW : (w.alloc (.cells #[.slice a0 n0 c0, .slice a1 n1 c1, .bool false, .slice a3 n3 c3] 109)).alloc (.cells #[.slice none 0 0, .slice none 0 0, .bool false, .slice none 0 0] 109) = W at hA xm xr ⊢
         clear hW
         have zr := xr.lt
         have B0 := hidden hA
         clear hA
         have XM0 := hidden xm
         clear xm
         have XR0 := hidden xr
         clear xr
         obtain ⟨q0, q1, q2, q3⟩ := XM0.out.cells4
         clear q0 q1 q2 q3
         refine (l2Copy_any _ E _ _ _ _ _ _ _ _ _ ss cs false bs (h0.below B0.out) (h1.below B0.out) (h3.below B0.out) hw).mono ?_
         intro e w1 hc
         obtain ⟨b0, b1, b3, e0, e1, e3, m1, m2, rfl, o3, o0, o1, r1, r2, r3, hb1⟩ := copy_shapes hl0 hl1 hl3 hc
         clear hc
         have B1 := hidden (Below.andThen B0.out hb1)
         have XM1 := hidden (XM0.out.below hb1 (by omega))
         have XR1 := hidden (XR0.out.below hb1 (by omega))
         have z1 := hb1.size
         clear B0 XM0 XR0 hb1
         have S1 := hidden o0
         clear o0
         have C1 := hidden o1
         clear o1
         have D1 := hidden o3
         clear o3
         have ba : Below w1.heap.size w1 (w1.alloc (.cells #[.slice b0 n0 e0, .slice b1 n1 e1, .bool false, .slice b3 n3 e3] 109)) := (Below.refl _ _).alloc (Nat.le_refl _) _
         have yo := Box.new w1 109 #[.slice b0 n0 e0, .slice b1 n1 e1, .bool false, .slice b3 n3 e3]
         have zo := yo.lt
         have B2 := hidden (Below.andThen B1.out ba)
         have XM2 := hidden (XM1.out.below ba (by omega))
         have XR2 := hidden (XR1.out.below ba (by omega))
         have S2 := hidden (S1.out.below ba)
         have C2 := hidden (C1.out.below ba)
         have D2 := hidden (D1.out.below ba)
         have z2 := ba.size
         clear B1 XM1 XR1 S1 C1 D1 ba
         have XO2 := hidden yo
         clear yo
         have sW : w.heap.size + 1 < W.heap.size := zr
         obtain ⟨q0, q1, q2, q3⟩ := XM2.out.cells4
         go_wp2_with fail
         generalize w1.alloc (.cells #[.slice b0 n0 e0, .slice b1 n1 e1, .bool false, .slice b3 n3 e3] 109) = w2 at B2 XM2 XR2 S2 C2 D2 XO2 z2 zo q0 q1 q2 q3 ⊢
         refine (specMemOk_any _ E _ _ _ _ _ _ _ _ _ ss cs false bs (h0.below B2.out) (h1.below B2.out) (h3.below B2.out) hw).mono ?_
         rintro e w3 ⟨rfl, hb3⟩
         clear q0 q1 q2 q3
         have B3 := hidden (Below.andThen B2.out hb3)
         have XM3 := hidden (XM2.out.below hb3 (by omega))
         have XR3 := hidden (XR2.out.below hb3 (by omega))
         have S3 := hidden (S2.out.below hb3)
         have C3 := hidden (C2.out.below hb3)
         have D3 := hidden (D2.out.below hb3)
         have XO3 := hidden (XO2.out.below hb3 (by omega))
         have z3 := hb3.size
         clear B2 XM2 XR2 S2 C2 D2 XO2 hb3
         obtain ⟨q0, q1, q2, q3⟩ := XM3.out.cells4
         have gw : IntKind.i64.wrap ((n0 : Int) - 1) = (n0 : Int) - 1 := IntWalk.i64_in _ (by omega)
         go_wp2_with fail
         refine (l1In_any _ _ _ _).mono ?_
         rintro e w4 ⟨rfl, hw4⟩
         have hs4 : Same w3 w4 := by rw [hw4]; exact Same.refl _
         clear hw4 gw
         clear q0 q1 q2 q3
         have B4 := hidden (Below.andSame B3.out hs4)
         have XM4 := hidden (XM3.out.same hs4)
         have XR4 := hidden (XR3.out.same hs4)
         have S4 := hidden (S3.out.same hs4)
         have C4 := hidden (C3.out.same hs4)
         have D4 := hidden (D3.out.same hs4)
         have XO4 := hidden (XO3.out.same hs4)
         have z4 := Nat.le_of_eq hs4.size.symm
         clear B3 XM3 XR3 S3 C3 D3 XO3 hs4
         obtain ⟨q0, q1, q2, q3⟩ := XM4.out.cells4
         go_wp2_with fail
         refine (specSecOk_any _ _ _ _ sw hl5 (ints_rd (h5.below B4.out)).1 hw5).mono ?_
         rintro e w5 ⟨rfl, hs5⟩
         clear q0 q1 q2 q3
         have B5 := hidden (Below.andSame B4.out hs5)
         have XM5 := hidden (XM4.out.same hs5)
         have XR5 := hidden (XR4.out.same hs5)
         have S5 := hidden (S4.out.same hs5)
         have C5 := hidden (C4.out.same hs5)
         have D5 := hidden (D4.out.same hs5)
         have XO5 := hidden (XO4.out.same hs5)
         have z5 := Nat.le_of_eq hs5.size.symm
         clear B4 XM4 XR4 S4 C4 D4 XO4 hs5
         obtain ⟨q0, q1, q2, q3⟩ := XM5.out.cells4
         obtain ⟨x0, x1, x2, x3⟩ := XO5.out.cells4
         obtain ⟨p0, p1, p2, p3⟩ := XR5.out.cells4
         have fz := XR5.out.frozen
         have hbt : But (w.heap.size + 1) (w.heap.size + 1 + 1) w5 ((((w5.setCell ⟨w.heap.size + 1, 0, none⟩ (.slice b0 n0 e0)).setCell ⟨w.heap.size + 1, 1, none⟩ (.slice b1 n1 e1)).setCell ⟨w.heap.size + 1, 2, none⟩ (.bool false)).setCell ⟨w.heap.size + 1, 3, none⟩ (.slice b3 n3 e3)) :=
          (((But.setCell (by omega) (by omega) _).trans (But.setCell (by omega) (by omega) _)).trans (But.setCell (by omega) (by omega) _)).trans (But.setCell (by omega) (by omega) _)
         have z99 := hbt.size
         have FIN : Hid ((tMem 159).Own ((((w5.setCell ⟨w.heap.size + 1, 0, none⟩ (.slice b0 n0 e0)).setCell ⟨w.heap.size + 1, 1, none⟩ (.slice b1 n1 e1)).setCell ⟨w.heap.size + 1, 2, none⟩ (.bool false)).setCell ⟨w.heap.size + 1, 3, none⟩ (.slice b3 n3 e3)) w.heap.size ((((w5.setCell ⟨w.heap.size + 1, 0, none⟩ (.slice b0 n0 e0)).setCell ⟨w.heap.size + 1, 1, none⟩ (.slice b1 n1 e1)).setCell ⟨w.heap.size + 1, 2, none⟩ (.bool false)).setCell ⟨w.heap.size + 1, 3, none⟩ (.slice b3 n3 e3)).heap.size [.slice b0 n0 e0, .slice b1 n1 e1, .bool false, .slice b3 n3 e3] (ss, cs, false, bs)) := mem_own3 (S5.out.but hbt (by omega)) (C5.out.but hbt (by omega)) (D5.out.but hbt (by omega)) (by omega) (by omega) (by omega) (by omega) (by omega) (by omega)
         have FB := hidden (Below.andBut B5.out hbt (by omega))
         clear hbt
         go_wp2
         refine bodyPost_ret (v := .tuple #[.agg #[.slice b0 n0 e0, .slice b1 n1 e1, .bool false, .slice b3 n3 e3], .bool false]) (by simp [results, Tryz.results188, go_sem, p0, p1, p2, p3]) rfl ?_
         exact ⟨_, _, _, rfl, FIN.out, FB.out⟩
     . have hI : inB n 0 ((n0 : Int) - 1) = false := by simpa using hI
       have hI2 : inB n 0 ((ss.length : Int) - 1) = false := by rw [hl0]; exact hI
       have hok : wrOk ss cs false bs n sw = false := by unfold wrOk; simp [hI2]
       have e1 : wrCS ss cs false bs n sw = cs := by unfold wrCS; rw [hok]; rfl
       have e2 : wrBS ss cs false bs n sw = bs := by unfold wrBS; rw [hok]; rfl
       rw [hok, e1, e2]
       clear hok e1 e2
       have hA : Below w.heap.size w ((w.alloc (.cells #[.slice a0 n0 c0, .slice a1 n1 c1, .bool false, .slice a3 n3 c3] 109)).alloc (.cells #[.slice none 0 0, .slice none 0 0, .bool false, .slice none 0 0] 109)) := ((Below.refl _ _).alloc (Nat.le_refl _) _).alloc (by simp) _
       have xm : Box ((w.alloc (.cells #[.slice a0 n0 c0, .slice a1 n1 c1, .bool false, .slice a3 n3 c3] 109)).alloc (.cells #[.slice none 0 0, .slice none 0 0, .bool false, .slice none 0 0] 109)) w.heap.size 109 #[.slice a0 n0 c0, .slice a1 n1 c1, .bool false, .slice a3 n3 c3] := (Box.new w _ _).alloc _
       have xr : Box ((w.alloc (.cells #[.slice a0 n0 c0, .slice a1 n1 c1, .bool false, .slice a3 n3 c3] 109)).alloc (.cells #[.slice none 0 0, .slice none 0 0, .bool false, .slice none 0 0] 109)) (w.heap.size + 1) 109 #[.slice none 0 0, .slice none 0 0, .bool false, .slice none 0 0] := by
        have := Box.new (w.alloc (.cells #[.slice a0 n0 c0, .slice a1 n1 c1, .bool false, .slice a3 n3 c3] 109)) 109 #[.slice none 0 0, .slice none 0 0, .bool false, .slice none 0 0]
        rw [show (w.alloc (.cells #[.slice a0 n0 c0, .slice a1 n1 c1, .bool false, .slice a3 n3 c3] 109)).heap.size = w.heap.size + 1 by simp] at this
        exact this
       go_enter Tryz.func188, Tryz.ntmps188
       go_wp2_with fail
       generalize hW : (w.alloc (.cells #[.slice a0 n0 c0, .slice a1 n1 c1, .bool false, .slice a3 n3 c3] 109)).alloc (.cells #[.slice none 0 0, .slice none 0 0, .bool false, .slice none 0 0] 109) = W at hA xm xr ⊢
       clear hW
       have zr := xr.lt
       have B0 := hidden hA
       clear hA
       have XM0 := hidden xm
       clear xm
       have XR0 := hidden xr
       clear xr
       obtain ⟨q0, q1, q2, q3⟩ := XM0.out.cells4
       clear q0 q1 q2 q3
       refine (l2Copy_any _ E _ _ _ _ _ _ _ _ _ ss cs false bs (h0.below B0.out) (h1.below B0.out) (h3.below B0.out) hw).mono ?_
       intro e w1 hc
       obtain ⟨b0, b1, b3, e0, e1, e3, m1, m2, rfl, o3, o0, o1, r1, r2, r3, hb1⟩ := copy_shapes hl0 hl1 hl3 hc
       clear hc
       have B1 := hidden (Below.andThen B0.out hb1)
       have XM1 := hidden (XM0.out.below hb1 (by omega))
       have XR1 := hidden (XR0.out.below hb1 (by omega))
       have z1 := hb1.size
       clear B0 XM0 XR0 hb1
       have S1 := hidden o0
       clear o0
       have C1 := hidden o1
       clear o1
       have D1 := hidden o3
       clear o3
       have ba : Below w1.heap.size w1 (w1.alloc (.cells #[.slice b0 n0 e0, .slice b1 n1 e1, .bool false, .slice b3 n3 e3] 109)) := (Below.refl _ _).alloc (Nat.le_refl _) _
       have yo := Box.new w1 109 #[.slice b0 n0 e0, .slice b1 n1 e1, .bool false, .slice b3 n3 e3]
       have zo := yo.lt
       have B2 := hidden (Below.andThen B1.out ba)
       have XM2 := hidden (XM1.out.below ba (by omega))
       have XR2 := hidden (XR1.out.below ba (by omega))
       have S2 := hidden (S1.out.below ba)
       have C2 := hidden (C1.out.below ba)
       have D2 := hidden (D1.out.below ba)
       have z2 := ba.size
       clear B1 XM1 XR1 S1 C1 D1 ba
       have XO2 := hidden yo
       clear yo
       have sW : w.heap.size + 1 < W.heap.size := zr
       obtain ⟨q0, q1, q2, q3⟩ := XM2.out.cells4
       go_wp2_with fail
       generalize w1.alloc (.cells #[.slice b0 n0 e0, .slice b1 n1 e1, .bool false, .slice b3 n3 e3] 109) = w2 at B2 XM2 XR2 S2 C2 D2 XO2 z2 zo q0 q1 q2 q3 ⊢
       refine (specMemOk_any _ E _ _ _ _ _ _ _ _ _ ss cs false bs (h0.below B2.out) (h1.below B2.out) (h3.below B2.out) hw).mono ?_
       rintro e w3 ⟨rfl, hb3⟩
       clear q0 q1 q2 q3
       have B3 := hidden (Below.andThen B2.out hb3)
       have XM3 := hidden (XM2.out.below hb3 (by omega))
       have XR3 := hidden (XR2.out.below hb3 (by omega))
       have S3 := hidden (S2.out.below hb3)
       have C3 := hidden (C2.out.below hb3)
       have D3 := hidden (D2.out.below hb3)
       have XO3 := hidden (XO2.out.below hb3 (by omega))
       have z3 := hb3.size
       clear B2 XM2 XR2 S2 C2 D2 XO2 hb3
       obtain ⟨q0, q1, q2, q3⟩ := XM3.out.cells4
       have gw : IntKind.i64.wrap ((n0 : Int) - 1) = (n0 : Int) - 1 := IntWalk.i64_in _ (by omega)
       go_wp2_with fail
       refine (l1In_any _ _ _ _).mono ?_
       rintro e w4 ⟨rfl, hw4⟩
       have hs4 : Same w3 w4 := by rw [hw4]; exact Same.refl _
       clear hw4 gw
       clear q0 q1 q2 q3
       have B4 := hidden (Below.andSame B3.out hs4)
       have XM4 := hidden (XM3.out.same hs4)
       have XR4 := hidden (XR3.out.same hs4)
       have S4 := hidden (S3.out.same hs4)
       have C4 := hidden (C3.out.same hs4)
       have D4 := hidden (D3.out.same hs4)
       have XO4 := hidden (XO3.out.same hs4)
       have z4 := Nat.le_of_eq hs4.size.symm
       clear B3 XM3 XR3 S3 C3 D3 XO3 hs4
       obtain ⟨q0, q1, q2, q3⟩ := XM4.out.cells4
       obtain ⟨x0, x1, x2, x3⟩ := XO4.out.cells4
       obtain ⟨p0, p1, p2, p3⟩ := XR4.out.cells4
       have fz := XR4.out.frozen
       have hbt : But (w.heap.size + 1) (w.heap.size + 1 + 1) w4 ((((w4.setCell ⟨w.heap.size + 1, 0, none⟩ (.slice b0 n0 e0)).setCell ⟨w.heap.size + 1, 1, none⟩ (.slice b1 n1 e1)).setCell ⟨w.heap.size + 1, 2, none⟩ (.bool false)).setCell ⟨w.heap.size + 1, 3, none⟩ (.slice b3 n3 e3)) :=
        (((But.setCell (by omega) (by omega) _).trans (But.setCell (by omega) (by omega) _)).trans (But.setCell (by omega) (by omega) _)).trans (But.setCell (by omega) (by omega) _)
       have z99 := hbt.size
       have FIN : Hid ((tMem 159).Own ((((w4.setCell ⟨w.heap.size + 1, 0, none⟩ (.slice b0 n0 e0)).setCell ⟨w.heap.size + 1, 1, none⟩ (.slice b1 n1 e1)).setCell ⟨w.heap.size + 1, 2, none⟩ (.bool false)).setCell ⟨w.heap.size + 1, 3, none⟩ (.slice b3 n3 e3)) w.heap.size ((((w4.setCell ⟨w.heap.size + 1, 0, none⟩ (.slice b0 n0 e0)).setCell ⟨w.heap.size + 1, 1, none⟩ (.slice b1 n1 e1)).setCell ⟨w.heap.size + 1, 2, none⟩ (.bool false)).setCell ⟨w.heap.size + 1, 3, none⟩ (.slice b3 n3 e3)).heap.size [.slice b0 n0 e0, .slice b1 n1 e1, .bool false, .slice b3 n3 e3] (ss, cs, false, bs)) := mem_own3 (S4.out.but hbt (by omega)) (C4.out.but hbt (by omega)) (D4.out.but hbt (by omega)) (by omega) (by omega) (by omega) (by omega) (by omega) (by omega)
       have FB := hidden (Below.andBut B4.out hbt (by omega))
       clear hbt
       go_wp2
       refine bodyPost_ret (v := .tuple #[.agg #[.slice b0 n0 e0, .slice b1 n1 e1, .bool false, .slice b3 n3 e3], .bool false]) (by simp [results, Tryz.results188, go_sem, p0, p1, p2, p3]) rfl ?_
       exact ⟨_, _, _, rfl, FIN.out, FB.out⟩
 . have hM : memB ss cs bs = false := by simpa using hM
   have hok : wrOk ss cs f bs n sw = false := by unfold wrOk; simp [hM]
   have e1 : wrCS ss cs f bs n sw = cs := by unfold wrCS; rw [hok]; rfl
   have e2 : wrBS ss cs f bs n sw = bs := by unfold wrBS; rw [hok]; rfl
   rw [hok, e1, e2]
   clear hok e1 e2
   have hA : Below w.heap.size w ((w.alloc (.cells #[.slice a0 n0 c0, .slice a1 n1 c1, .bool f, .slice a3 n3 c3] 109)).alloc (.cells #[.slice none 0 0, .slice none 0 0, .bool false, .slice none 0 0] 109)) := ((Below.refl _ _).alloc (Nat.le_refl _) _).alloc (by simp) _
   have xm : Box ((w.alloc (.cells #[.slice a0 n0 c0, .slice a1 n1 c1, .bool f, .slice a3 n3 c3] 109)).alloc (.cells #[.slice none 0 0, .slice none 0 0, .bool false, .slice none 0 0] 109)) w.heap.size 109 #[.slice a0 n0 c0, .slice a1 n1 c1, .bool f, .slice a3 n3 c3] := (Box.new w _ _).alloc _
   have xr : Box ((w.alloc (.cells #[.slice a0 n0 c0, .slice a1 n1 c1, .bool f, .slice a3 n3 c3] 109)).alloc (.cells #[.slice none 0 0, .slice none 0 0, .bool false, .slice none 0 0] 109)) (w.heap.size + 1) 109 #[.slice none 0 0, .slice none 0 0, .bool false, .slice none 0 0] := by
    have := Box.new (w.alloc (.cells #[.slice a0 n0 c0, .slice a1 n1 c1, .bool f, .slice a3 n3 c3] 109)) 109 #[.slice none 0 0, .slice none 0 0, .bool false, .slice none 0 0]
    rw [show (w.alloc (.cells #[.slice a0 n0 c0, .slice a1 n1 c1, .bool f, .slice a3 n3 c3] 109)).heap.size = w.heap.size + 1 by simp] at this
    exact this
   go_enter Tryz.func188, Tryz.ntmps188
   go_wp2_with fail
   generalize hW : (w.alloc (.cells #[.slice a0 n0 c0, .slice a1 n1 c1, .bool f, .slice a3 n3 c3] 109)).alloc (.cells #[.slice none 0 0, .slice none 0 0, .bool false, .slice none 0 0] 109) = W at hA xm xr ⊢
   clear hW
   have zr := xr.lt
   have B0 := hidden hA
   clear hA
   have XM0 := hidden xm
   clear xm
   have XR0 := hidden xr
   clear xr
   obtain ⟨q0, q1, q2, q3⟩ := XM0.out.cells4
   clear q0 q1 q2 q3
   refine (l2Copy_any _ E _ _ _ _ _ _ _ _ _ ss cs f bs (h0.below B0.out) (h1.below B0.out) (h3.below B0.out) hw).mono ?_
   intro e w1 hc
   obtain ⟨b0, b1, b3, e0, e1, e3, m1, m2, rfl, o3, o0, o1, r1, r2, r3, hb1⟩ := copy_shapes hl0 hl1 hl3 hc
   clear hc
   have B1 := hidden (Below.andThen B0.out hb1)
   have XM1 := hidden (XM0.out.below hb1 (by omega))
   have XR1 := hidden (XR0.out.below hb1 (by omega))
   have z1 := hb1.size
   clear B0 XM0 XR0 hb1
   have S1 := hidden o0
   clear o0
   have C1 := hidden o1
   clear o1
   have D1 := hidden o3
   clear o3
   have ba : Below w1.heap.size w1 (w1.alloc (.cells #[.slice b0 n0 e0, .slice b1 n1 e1, .bool f, .slice b3 n3 e3] 109)) := (Below.refl _ _).alloc (Nat.le_refl _) _
   have yo := Box.new w1 109 #[.slice b0 n0 e0, .slice b1 n1 e1, .bool f, .slice b3 n3 e3]
   have zo := yo.lt
   have B2 := hidden (Below.andThen B1.out ba)
   have XM2 := hidden (XM1.out.below ba (by omega))
   have XR2 := hidden (XR1.out.below ba (by omega))
   have S2 := hidden (S1.out.below ba)
   have C2 := hidden (C1.out.below ba)
   have D2 := hidden (D1.out.below ba)
   have z2 := ba.size
   clear B1 XM1 XR1 S1 C1 D1 ba
   have XO2 := hidden yo
   clear yo
   have sW : w.heap.size + 1 < W.heap.size := zr
   obtain ⟨q0, q1, q2, q3⟩ := XM2.out.cells4
   go_wp2_with fail
   generalize w1.alloc (.cells #[.slice b0 n0 e0, .slice b1 n1 e1, .bool f, .slice b3 n3 e3] 109) = w2 at B2 XM2 XR2 S2 C2 D2 XO2 z2 zo q0 q1 q2 q3 ⊢
   refine (specMemOk_any _ E _ _ _ _ _ _ _ _ _ ss cs f bs (h0.below B2.out) (h1.below B2.out) (h3.below B2.out) hw).mono ?_
   rintro e w3 ⟨rfl, hb3⟩
   clear q0 q1 q2 q3
   have B3 := hidden (Below.andThen B2.out hb3)
   have XM3 := hidden (XM2.out.below hb3 (by omega))
   have XR3 := hidden (XR2.out.below hb3 (by omega))
   have S3 := hidden (S2.out.below hb3)
   have C3 := hidden (C2.out.below hb3)
   have D3 := hidden (D2.out.below hb3)
   have XO3 := hidden (XO2.out.below hb3 (by omega))
   have z3 := hb3.size
   clear B2 XM2 XR2 S2 C2 D2 XO2 hb3
   obtain ⟨q0, q1, q2, q3⟩ := XM3.out.cells4
   obtain ⟨x0, x1, x2, x3⟩ := XO3.out.cells4
   obtain ⟨p0, p1, p2, p3⟩ := XR3.out.cells4
   have fz := XR3.out.frozen
   have hbt : But (w.heap.size + 1) (w.heap.size + 1 + 1) w3 ((((w3.setCell ⟨w.heap.size + 1, 0, none⟩ (.slice b0 n0 e0)).setCell ⟨w.heap.size + 1, 1, none⟩ (.slice b1 n1 e1)).setCell ⟨w.heap.size + 1, 2, none⟩ (.bool f)).setCell ⟨w.heap.size + 1, 3, none⟩ (.slice b3 n3 e3)) :=
    (((But.setCell (by omega) (by omega) _).trans (But.setCell (by omega) (by omega) _)).trans (But.setCell (by omega) (by omega) _)).trans (But.setCell (by omega) (by omega) _)
   have z99 := hbt.size
   have FIN : Hid ((tMem 159).Own ((((w3.setCell ⟨w.heap.size + 1, 0, none⟩ (.slice b0 n0 e0)).setCell ⟨w.heap.size + 1, 1, none⟩ (.slice b1 n1 e1)).setCell ⟨w.heap.size + 1, 2, none⟩ (.bool f)).setCell ⟨w.heap.size + 1, 3, none⟩ (.slice b3 n3 e3)) w.heap.size ((((w3.setCell ⟨w.heap.size + 1, 0, none⟩ (.slice b0 n0 e0)).setCell ⟨w.heap.size + 1, 1, none⟩ (.slice b1 n1 e1)).setCell ⟨w.heap.size + 1, 2, none⟩ (.bool f)).setCell ⟨w.heap.size + 1, 3, none⟩ (.slice b3 n3 e3)).heap.size [.slice b0 n0 e0, .slice b1 n1 e1, .bool f, .slice b3 n3 e3] (ss, cs, f, bs)) := mem_own3 (S3.out.but hbt (by omega)) (C3.out.but hbt (by omega)) (D3.out.but hbt (by omega)) (by omega) (by omega) (by omega) (by omega) (by omega) (by omega)
   have FB := hidden (Below.andBut B3.out hbt (by omega))
   clear hbt
   go_wp2
   refine bodyPost_ret (v := .tuple #[.agg #[.slice b0 n0 e0, .slice b1 n1 e1, .bool f, .slice b3 n3 e3], .bool false]) (by simp [results, Tryz.results188, go_sem, p0, p1, p2, p3]) rfl ?_
   exact ⟨_, _, _, rfl, FIN.out, FB.out⟩

def wsCS (ss : List (List Int)) (cs : List (Int × List Int)) (f : Bool) (bs : List Int) (x : Sup) : List (Int × List Int) := if supB x = true then wrCS ss cs f bs (x.gen % 2) (putD x) else cs
def wsBS (ss : List (List Int)) (cs : List (Int × List Int)) (f : Bool) (bs : List Int) (x : Sup) : List Int := if supB x = true then wrBS ss cs f bs (x.gen % 2) (putD x) else bs
def set4 (w : World) (B : Nat) (v0 v1 v2 v3 : Value) : World := (((w.setCell ⟨B, 0, none⟩ v0).setCell ⟨B, 1, none⟩ v1).setCell ⟨B, 2, none⟩ v2).setCell ⟨B, 3, none⟩ v3
theorem set4_but (w : World) (B : Nat) (v0 v1 v2 v3 : Value) : But B (B + 1) w (set4 w B v0 v1 v2 v3) := by
 unfold set4
 exact (((But.setCell (by omega) (by omega) _).trans (But.setCell (by omega) (by omega) _)).trans (But.setCell (by omega) (by omega) _)).trans (But.setCell (by omega) (by omega) _)
theorem mem_letters2 {w : World} {E : TypeId} {lo hi : Nat} {v0 v1 v3 : Value} {f : Bool} {d : (tMem E).D} (h : (tMem E).Own w lo hi [v0, v1, .bool f, v3] d) : ∃ a0 l0 c0 a1 l1 c1 a3 l3 c3, v0 = .slice a0 l0 c0 /\ v1 = .slice a1 l1 c1 /\ v3 = .slice a3 l3 c3 := by
 obtain ⟨a0, c0, a1, c1, a3, c3, h0, h1, _, h3, _⟩ := mem_rd h.rd
 exact ⟨a0, _, c0, a1, _, c1, a3, _, c3, h0, h1, h3⟩
theorem putD_le2 (x : Sup) : (putD x).length <= 9 := by
 unfold putD
 split <;> simp

theorem implWriteSuper_any (w : World) (E : TypeId) (a0 a1 a3 : Option Addr) (n0 c0 n1 c1 n3 c3 : Nat) (ss : List (List Int)) (cs : List (Int × List Int)) (f : Bool) (bs : List Int) (x : Sup) (h0 : tIntSS.Rd w [.slice a0 n0 c0] ss) (h1 : (tWrS E).Rd w [.slice a1 n1 c1] cs) (h3 : tIntS.Rd w [.slice a3 n3 c3] bs) (hw : wtMem (ss, cs, f, bs) <= 2097152) :
 Calls Tryz.prog 230 #[.agg #[.slice a0 n0 c0, .slice a1 n1 c1, .bool f, .slice a3 n3 c3], .agg #[.int .i64 x.id, .int .i64 x.gen, .int .i64 x.role, .int .i64 x.n, .int .i64 x.s, .int .i64 x.tail, .int .i64 x.lost, .int .i64 x.built]] w fun e w' => ∃ v0 v1 v3, e = .returned (.agg #[v0, v1, .bool f, v3]) /\ (tMem 159).Own w' w.heap.size w'.heap.size [v0, v1, .bool f, v3] (ss, wsCS ss cs f bs x, f, wsBS ss cs f bs x) /\ Below w.heap.size w w' := by
 have hA := ((new_below w (.cells #[.slice a0 n0 c0, .slice a1 n1 c1, .bool f, .slice a3 n3 c3] 109)).alloc (by simp) (.cells #[.int .i64 x.id, .int .i64 x.gen, .int .i64 x.role, .int .i64 x.n, .int .i64 x.s, .int .i64 x.tail, .int .i64 x.lost, .int .i64 x.built] 133)).alloc (by simp; omega) (.cells #[.slice none 0 0, .slice none 0 0, .bool false, .slice none 0 0] 109)
 have M0 := ((Box.new w 109 #[.slice a0 n0 c0, .slice a1 n1 c1, .bool f, .slice a3 n3 c3]).alloc (.cells #[.int .i64 x.id, .int .i64 x.gen, .int .i64 x.role, .int .i64 x.n, .int .i64 x.s, .int .i64 x.tail, .int .i64 x.lost, .int .i64 x.built] 133)).alloc (.cells #[.slice none 0 0, .slice none 0 0, .bool false, .slice none 0 0] 109)
 have S0 := (Box.new (w.alloc (.cells #[.slice a0 n0 c0, .slice a1 n1 c1, .bool f, .slice a3 n3 c3] 109)) 133 #[.int .i64 x.id, .int .i64 x.gen, .int .i64 x.role, .int .i64 x.n, .int .i64 x.s, .int .i64 x.tail, .int .i64 x.lost, .int .i64 x.built]).alloc (.cells #[.slice none 0 0, .slice none 0 0, .bool false, .slice none 0 0] 109)
 have R0 := Box.new ((w.alloc (.cells #[.slice a0 n0 c0, .slice a1 n1 c1, .bool f, .slice a3 n3 c3] 109)).alloc (.cells #[.int .i64 x.id, .int .i64 x.gen, .int .i64 x.role, .int .i64 x.n, .int .i64 x.s, .int .i64 x.tail, .int .i64 x.lost, .int .i64 x.built] 133)) 109 #[.slice none 0 0, .slice none 0 0, .bool false, .slice none 0 0]
 rw [World.size_alloc] at S0
 rw [World.size_alloc, World.size_alloc] at R0
 obtain ⟨x0, x1, x2, x3, x4, x5, x6, x7⟩ := S0.cells8
 go_enter Tryz.func230, Tryz.ntmps230
 go_wp2_with fail
 generalize ((w.alloc (.cells #[.slice a0 n0 c0, .slice a1 n1 c1, .bool f, .slice a3 n3 c3] 109)).alloc (.cells #[.int .i64 x.id, .int .i64 x.gen, .int .i64 x.role, .int .i64 x.n, .int .i64 x.s, .int .i64 x.tail, .int .i64 x.lost, .int .i64 x.built] 133)).alloc (.cells #[.slice none 0 0, .slice none 0 0, .bool false, .slice none 0 0] 109) = W at hA M0 S0 R0 x0 x1 x2 x3 x4 x5 x6 x7 ⊢
 refine (implSuperOk_any _ x).mono ?_
 rintro e w1 ⟨rfl, b1⟩
 have M1 := M0.below b1 M0.lt
 have S1 := S0.below b1 S0.lt
 have R1 := R0.below b1 R0.lt
 have B1 := Below.andThen hA b1
 clear x0 x1 x2 x3 x4 x5 x6 x7 M0 S0 R0 hA b1
 obtain ⟨q0, q1, q2, q3⟩ := M1.cells4
 have zR := R1.lt
 have zS := S1.lt
 have zM := M1.lt
 by_cases hx : supB x = true
 . have hg := (supB_iff.1 hx).2.2.2.2.1
   have e1 : x.gen.tmod 2 = x.gen % 2 := Int.tmod_eq_emod_of_nonneg hg.1
   have HC : Hid (wsCS ss cs f bs x = wrCS ss cs f bs (x.gen % 2) (putD x)) := by unfold Hid wsCS; rw [if_pos hx]
   have HB : Hid (wsBS ss cs f bs x = wrBS ss cs f bs (x.gen % 2) (putD x)) := by unfold Hid wsBS; rw [if_pos hx]
   have hpl := putD_le2 x
   obtain ⟨x0, x1, x2, x3, x4, x5, x6, x7⟩ := S1.cells8
   have HB1 := hidden B1
   have HR1 := hidden R1
   clear B1 R1
   have hS : ∀ w', Box w' w.heap.size 109 #[.slice a0 n0 c0, .slice a1 n1 c1, .bool f, .slice a3 n3 c3] -> Box w' (w.heap.size + 1) 133 #[.int .i64 x.id, .int .i64 x.gen, .int .i64 x.role, .int .i64 x.n, .int .i64 x.s, .int .i64 x.tail, .int .i64 x.lost, .int .i64 x.built] -> w'.cell? ⟨w.heap.size, 0, none⟩ = some (.slice a0 n0 c0) /\ w'.cell? ⟨w.heap.size, 1, none⟩ = some (.slice a1 n1 c1) /\ w'.cell? ⟨w.heap.size, 2, none⟩ = some (.bool f) /\ w'.cell? ⟨w.heap.size, 3, none⟩ = some (.slice a3 n3 c3) /\ w'.cell? ⟨w.heap.size + 1, 0, none⟩ = some (.int .i64 x.id) /\ w'.cell? ⟨w.heap.size + 1, 1, none⟩ = some (.int .i64 x.gen) /\ w'.cell? ⟨w.heap.size + 1, 2, none⟩ = some (.int .i64 x.role) /\ w'.cell? ⟨w.heap.size + 1, 3, none⟩ = some (.int .i64 x.n) /\ w'.cell? ⟨w.heap.size + 1, 4, none⟩ = some (.int .i64 x.s) /\ w'.cell? ⟨w.heap.size + 1, 5, none⟩ = some (.int .i64 x.tail) /\ w'.cell? ⟨w.heap.size + 1, 6, none⟩ = some (.int .i64 x.lost) /\ w'.cell? ⟨w.heap.size + 1, 7, none⟩ = some (.int .i64 x.built) := fun w' hm hs => ⟨hm.cell 0, hm.cell 1, hm.cell 2, hm.cell 3, hs.cell 0, hs.cell 1, hs.cell 2, hs.cell 3, hs.cell 4, hs.cell 5, hs.cell 6, hs.cell 7⟩
   have hD : ∀ w', Box w' w.heap.size 109 #[.slice a0 n0 c0, .slice a1 n1 c1, .bool f, .slice a3 n3 c3] -> Box w' (w.heap.size + 1) 133 #[.int .i64 x.id, .int .i64 x.gen, .int .i64 x.role, .int .i64 x.n, .int .i64 x.s, .int .i64 x.tail, .int .i64 x.lost, .int .i64 x.built] -> w'.drew.cell? ⟨w.heap.size, 0, none⟩ = some (.slice a0 n0 c0) /\ w'.drew.cell? ⟨w.heap.size, 1, none⟩ = some (.slice a1 n1 c1) /\ w'.drew.cell? ⟨w.heap.size, 2, none⟩ = some (.bool f) /\ w'.drew.cell? ⟨w.heap.size, 3, none⟩ = some (.slice a3 n3 c3) /\ w'.drew.cell? ⟨w.heap.size + 1, 0, none⟩ = some (.int .i64 x.id) /\ w'.drew.cell? ⟨w.heap.size + 1, 1, none⟩ = some (.int .i64 x.gen) /\ w'.drew.cell? ⟨w.heap.size + 1, 2, none⟩ = some (.int .i64 x.role) /\ w'.drew.cell? ⟨w.heap.size + 1, 3, none⟩ = some (.int .i64 x.n) /\ w'.drew.cell? ⟨w.heap.size + 1, 4, none⟩ = some (.int .i64 x.s) /\ w'.drew.cell? ⟨w.heap.size + 1, 5, none⟩ = some (.int .i64 x.tail) /\ w'.drew.cell? ⟨w.heap.size + 1, 6, none⟩ = some (.int .i64 x.lost) /\ w'.drew.cell? ⟨w.heap.size + 1, 7, none⟩ = some (.int .i64 x.built) := hS
   have HM1 := hidden M1
   have HS1 := hidden S1
   have nA : Hid (w.heap.size ≠ w1.heap.size) := by unfold Hid; omega
   have nA' : Hid (w.heap.size + 1 ≠ w1.heap.size) := by unfold Hid; omega
   have ZW : Hid (w.heap.size + 2 < w1.heap.size) := by unfold Hid; omega
   have HG := hidden hg.1
   clear M1 S1 hg
   go_wp2_with fail
   go_region_held3 (fun w' => w'.cell? ⟨w.heap.size, 0, none⟩ = some (.slice a0 n0 c0) /\ w'.cell? ⟨w.heap.size, 1, none⟩ = some (.slice a1 n1 c1) /\ w'.cell? ⟨w.heap.size, 2, none⟩ = some (.bool f) /\ w'.cell? ⟨w.heap.size, 3, none⟩ = some (.slice a3 n3 c3) /\ w'.cell? ⟨w.heap.size + 1, 0, none⟩ = some (.int .i64 x.id) /\ w'.cell? ⟨w.heap.size + 1, 1, none⟩ = some (.int .i64 x.gen) /\ w'.cell? ⟨w.heap.size + 1, 2, none⟩ = some (.int .i64 x.role) /\ w'.cell? ⟨w.heap.size + 1, 3, none⟩ = some (.int .i64 x.n) /\ w'.cell? ⟨w.heap.size + 1, 4, none⟩ = some (.int .i64 x.s) /\ w'.cell? ⟨w.heap.size + 1, 5, none⟩ = some (.int .i64 x.tail) /\ w'.cell? ⟨w.heap.size + 1, 6, none⟩ = some (.int .i64 x.lost) /\ w'.cell? ⟨w.heap.size + 1, 7, none⟩ = some (.int .i64 x.built))
    (first
     | (with_reducible exact hS w4 M4.out S4.out)
     | (with_reducible exact hS _ (M4.out.alloc _) (S4.out.alloc _))
     | (with_reducible exact hS _ ((((M4.out.other nA.out 0 _).other nA.out 1 _).other nA.out 2 _).other nA.out 3 _) ((((S4.out.other nA'.out 0 _).other nA'.out 1 _).other nA'.out 2 _).other nA'.out 3 _))
     | (with_reducible exact hS _ ((((M4.out.other nB.out 0 _).other nB.out 1 _).other nB.out 2 _).other nB.out 3 _) ((((S4.out.other nB'.out 0 _).other nB'.out 1 _).other nB'.out 2 _).other nB'.out 3 _))
     | (with_reducible exact hS w3 M3.out S3.out)
     | (with_reducible exact hS _ (M3.out.alloc _) (S3.out.alloc _))
     | (with_reducible exact hD _ HM1.out HS1.out)
     | (with_reducible exact hD _ (HM1.out.alloc _) (HS1.out.alloc _))
     | go_keep)
    (first
     | (go_at_call 249; refine (superPlace_any _ _ HG.out).mono ?_; rintro e w2 ⟨rfl, rfl⟩)
     | (go_at_call 250; refine (implPutSuper_any _ x).mono ?_; rintro e w3 ⟨pa, pl, pc, rfl, o3, b3⟩; have hpl3 := (row_length o3.rd).1; have b3c : Below w1.drew.heap.size w1.drew w3 := (by with_reducible exact b3); have b3' : Below w1.heap.size w1 w3 := (Below.refl w1.heap.size w1).drew.trans b3c; have M3 := hidden (HM1.out.below b3' zM); have S3 := hidden (HS1.out.below b3' zS); have O3 := hidden o3; have hb3 := hidden b3'; clear b3 b3c b3' o3)
     | (go_at_call 220; have xo3 := XO3.out; refine (implWriteSec_any _ E _ _ _ _ _ _ _ _ _ _ _ _ ss cs f bs (x.gen % 2) (putD x) (by with_reducible exact h0.below (Below.andThen HB1.out hb3.out)) (by with_reducible exact h1.below (Below.andThen HB1.out hb3.out)) (by with_reducible exact h3.below (Below.andThen HB1.out hb3.out)) (by with_reducible exact O3.out.rd) hw (by omega)).mono ?_; rintro e w4 ⟨u0, u1, u3, rfl, o4, b4⟩; obtain ⟨fa0, fl0, fc0, fa1, fl1, fc1, fa3, fl3, fc3, hv0, hv1, hv3⟩ := mem_letters2 o4; subst hv0 hv1 hv3; have M4 := hidden (M3.out.below b4 M3.out.lt); have S4 := hidden (S3.out.below b4 S3.out.lt); have xo4 := xo3.below b4 xo3.lt; obtain ⟨s0, s1, s2, s3⟩ := xo4.cells4; have u0 := xo4.frozen 0; have u1 := xo4.frozen 1; have u2 := xo4.frozen 2; have u3 := xo4.frozen 3; have XO4 := hidden xo4; have O4 := hidden o4; have hb4 := hidden b4; clear b4 o4 xo4 xo3)
     | (go_at_call 220; refine (implWriteSec_any _ E _ _ _ _ _ _ _ _ _ _ _ _ ss cs f bs (x.gen % 2) (putD x) (by with_reducible exact h0.below (Below.andThen HB1.out hb3.out)) (by with_reducible exact h1.below (Below.andThen HB1.out hb3.out)) (by with_reducible exact h3.below (Below.andThen HB1.out hb3.out)) (by with_reducible exact O3.out.rd) hw (by omega)).mono ?_; rintro e w4 ⟨u0, u1, u3, rfl, o4, b4⟩; obtain ⟨fa0, fl0, fc0, fa1, fl1, fc1, fa3, fl3, fc3, hv0, hv1, hv3⟩ := mem_letters2 o4; subst hv0 hv1 hv3; have M4 := hidden (M3.out.below b4 M3.out.lt); have S4 := hidden (S3.out.below b4 S3.out.lt); have O4 := hidden o4; have hb4 := hidden b4; clear b4 o4)
     | (go_at_call 220; refine (implWriteSec_any _ E _ _ _ _ _ _ _ _ _ _ _ _ ss cs f bs (x.gen % 2) (putD x) (by with_reducible exact h0.below ((Below.andThen HB1.out hb3.out).alloc (Below.andThen HB1.out hb3.out).size _)) (by with_reducible exact h1.below ((Below.andThen HB1.out hb3.out).alloc (Below.andThen HB1.out hb3.out).size _)) (by with_reducible exact h3.below ((Below.andThen HB1.out hb3.out).alloc (Below.andThen HB1.out hb3.out).size _)) (by with_reducible exact (O3.out.rd.below (new_below w3 _))) hw (by omega)).mono ?_; rintro e w4 ⟨u0, u1, u3, rfl, o4, b4⟩; obtain ⟨fa0, fl0, fc0, fa1, fl1, fc1, fa3, fl3, fc3, hv0, hv1, hv3⟩ := mem_letters2 o4; subst hv0 hv1 hv3; have M4 := hidden ((M3.out.alloc (.cells #[.slice none 0 0, .slice none 0 0, .bool false, .slice none 0 0] 109)).below b4 (M3.out.alloc (.cells #[.slice none 0 0, .slice none 0 0, .bool false, .slice none 0 0] 109)).lt); have S4 := hidden ((S3.out.alloc (.cells #[.slice none 0 0, .slice none 0 0, .bool false, .slice none 0 0] 109)).below b4 (S3.out.alloc (.cells #[.slice none 0 0, .slice none 0 0, .bool false, .slice none 0 0] 109)).lt); have xp4 := (Box.new w3 109 #[.slice none 0 0, .slice none 0 0, .bool false, .slice none 0 0]).below b4 (by simp); obtain ⟨s0, s1, s2, s3⟩ := xp4.cells4; have u0 := xp4.frozen 0; have u1 := xp4.frozen 1; have u2 := xp4.frozen 2; have u3 := xp4.frozen 3; have z3 := hb3.out.size; have zW := ZW.out; have nB : Hid (w.heap.size ≠ w3.heap.size) := (by unfold Hid; omega); have nB' : Hid (w.heap.size + 1 ≠ w3.heap.size) := (by unfold Hid; omega); have XP4 := hidden xp4; have O4 := hidden o4; have hb4 := hidden b4; clear b4 o4 xp4 z3 zW)
     | (go_at_call 250; refine (implPutSuper_any _ x).mono ?_; rintro e w3 ⟨pa, pl, pc, rfl, o3, b3⟩; have hpl3 := (row_length o3.rd).1; have ba : Below w1.heap.size w1 (w1.alloc (.cells #[.slice none 0 0, .slice none 0 0, .bool false, .slice none 0 0] 109)) := new_below w1 _; have b3c : Below (w1.alloc (.cells #[.slice none 0 0, .slice none 0 0, .bool false, .slice none 0 0] 109)).drew.heap.size (w1.alloc (.cells #[.slice none 0 0, .slice none 0 0, .bool false, .slice none 0 0] 109)).drew w3 := (by with_reducible exact b3); have b3a : Below (w1.alloc (.cells #[.slice none 0 0, .slice none 0 0, .bool false, .slice none 0 0] 109)).heap.size (w1.alloc (.cells #[.slice none 0 0, .slice none 0 0, .bool false, .slice none 0 0] 109)) w3 := (Below.refl _ (w1.alloc (.cells #[.slice none 0 0, .slice none 0 0, .bool false, .slice none 0 0] 109))).drew.trans b3c; have b3' : Below w1.heap.size w1 w3 := Below.andThen ba b3a; have M3 := hidden (HM1.out.below b3' zM); have S3 := hidden (HS1.out.below b3' zS); have XO3 := hidden ((Box.new w1 109 #[.slice none 0 0, .slice none 0 0, .bool false, .slice none 0 0]).below b3a (by simp)); have O3 := hidden o3; have hb3 := hidden b3'; clear b3 b3c b3a ba b3' o3))
   . have z4 := hb4.out.size
     have z3 := hb3.out.size
     have zW := ZW.out
     have B4 := Below.andThen HB1.out (Below.andThen hb3.out hb4.out)
     have RF0 := (HR1.out.below (Below.andThen hb3.out hb4.out) zR).alloc (.cells #[.slice fa0 fl0 fc0, .slice fa1 fl1 fc1, .bool f, .slice fa3 fl3 fc3] 109)
     have YF0 := Box.new w4 109 #[.slice fa0 fl0 fc0, .slice fa1 fl1 fc1, .bool f, .slice fa3 fl3 fc3]
     have OF0 := (O4.out.below (new_below w4 (.cells #[.slice fa0 fl0 fc0, .slice fa1 fl1 fc1, .bool f, .slice fa3 fl3 fc3] 109))).widen (lo' := w1.heap.size) (hi' := (w4.alloc (.cells #[.slice fa0 fl0 fc0, .slice fa1 fl1 fc1, .bool f, .slice fa3 fl3 fc3] 109)).heap.size) (by omega) (by simp)
     have BF0 := B4.alloc B4.size (.cells #[.slice fa0 fl0 fc0, .slice fa1 fl1 fc1, .bool f, .slice fa3 fl3 fc3] 109)
     have ZF0 : w.heap.size + 2 < w1.heap.size := zW
     clear B4
     have RF := RF0
     have HBF := hidden BF0
     have HYF := hidden YF0
     have HOF := hidden OF0
     have zF := ZF0
     clear RF0 BF0 YF0 OF0 ZF0
     generalize w4.alloc (.cells #[.slice fa0 fl0 fc0, .slice fa1 fl1 fc1, .bool f, .slice fa3 fl3 fc3] 109) = WF at RF HBF HYF HOF zF ⊢
     generalize w4.heap.size = BO at HYF ⊢
     obtain ⟨y0, y1, y2, y3⟩ := HYF.out.cells4
     obtain ⟨r0, r1, r2, r3⟩ := RF.cells4
     have fz := RF.frozen
     have hbt := set4_but WF (w.heap.size + 1 + 1) (.slice fa0 fl0 fc0) (.slice fa1 fl1 fc1) (.bool f) (.slice fa3 fl3 fc3)
     have zt := hbt.size
     have FO := hidden ((HOF.out.but hbt (.inr (by omega))).widen (lo' := w.heap.size) (hi' := (set4 WF (w.heap.size + 1 + 1) (.slice fa0 fl0 fc0) (.slice fa1 fl1 fc1) (.bool f) (.slice fa3 fl3 fc3)).heap.size) (by omega) hbt.size)
     rw [← HC.out, ← HB.out] at FO
     have FB := hidden (Below.andBut HBF.out hbt (by omega))
     unfold set4 at FO FB
     clear hbt RF HBF HYF HOF zt
     go_wp2
     refine bodyPost_ret (v := .agg #[.slice fa0 fl0 fc0, .slice fa1 fl1 fc1, .bool f, .slice fa3 fl3 fc3]) (by simp [results, Tryz.results230, go_sem, r0, r1, r2, r3]) rfl ?_
     exact ⟨_, _, _, rfl, FO.out, FB.out⟩
   . have xo4 := XP4.out
     have zal : (w3.alloc (.cells #[.slice none 0 0, .slice none 0 0, .bool false, .slice none 0 0] 109)).heap.size = w3.heap.size + 1 := by simp
     have z4 := hb4.out.size
     have z3 := hb3.out.size
     have zW := ZW.out
     have hbs := set4_but w4 w3.heap.size (.slice fa0 fl0 fc0) (.slice fa1 fl1 fc1) (.bool f) (.slice fa3 fl3 fc3)
     have zs := hbs.size
     have B4 := Below.andThen HB1.out (Below.andThen hb3.out (Below.andThen (new_below w3 _) hb4.out))
     have RF0 := (HR1.out.below (Below.andThen hb3.out (Below.andThen (new_below w3 _) hb4.out)) zR).kept (hbs.block _ (by omega) (by omega))
     have YF0 := (((xo4.set 0 (.slice fa0 fl0 fc0)).set 1 (.slice fa1 fl1 fc1)).set 2 (.bool f)).set 3 (.slice fa3 fl3 fc3)
     have OF0 := ((O4.out.but hbs (.inr (by omega))).widen (lo' := w1.heap.size) (hi' := (set4 w4 w3.heap.size (.slice fa0 fl0 fc0) (.slice fa1 fl1 fc1) (.bool f) (.slice fa3 fl3 fc3)).heap.size) (by omega) zs)
     have BF0 := Below.andBut B4 hbs (by omega)
     have ZF0 : w.heap.size + 2 < w1.heap.size := zW
     unfold set4 at RF0 OF0 BF0
     clear hbs zs B4 xo4
     have RF := RF0
     have HBF := hidden BF0
     have HYF := hidden YF0
     have HOF := hidden OF0
     have zF := ZF0
     clear RF0 BF0 YF0 OF0 ZF0
     generalize ((((w4.setCell ⟨w3.heap.size, 0, none⟩ (.slice fa0 fl0 fc0)).setCell ⟨w3.heap.size, 1, none⟩ (.slice fa1 fl1 fc1)).setCell ⟨w3.heap.size, 2, none⟩ (.bool f)).setCell ⟨w3.heap.size, 3, none⟩ (.slice fa3 fl3 fc3)) = WF at RF HBF HYF HOF zF ⊢
     generalize w3.heap.size = BO at HYF ⊢
     obtain ⟨y0, y1, y2, y3⟩ := HYF.out.cells4
     obtain ⟨r0, r1, r2, r3⟩ := RF.cells4
     have fz := RF.frozen
     have hbt := set4_but WF (w.heap.size + 1 + 1) (.slice fa0 fl0 fc0) (.slice fa1 fl1 fc1) (.bool f) (.slice fa3 fl3 fc3)
     have zt := hbt.size
     have FO := hidden ((HOF.out.but hbt (.inr (by omega))).widen (lo' := w.heap.size) (hi' := (set4 WF (w.heap.size + 1 + 1) (.slice fa0 fl0 fc0) (.slice fa1 fl1 fc1) (.bool f) (.slice fa3 fl3 fc3)).heap.size) (by omega) hbt.size)
     rw [← HC.out, ← HB.out] at FO
     have FB := hidden (Below.andBut HBF.out hbt (by omega))
     unfold set4 at FO FB
     clear hbt RF HBF HYF HOF zt
     go_wp2
     refine bodyPost_ret (v := .agg #[.slice fa0 fl0 fc0, .slice fa1 fl1 fc1, .bool f, .slice fa3 fl3 fc3]) (by simp [results, Tryz.results230, go_sem, r0, r1, r2, r3]) rfl ?_
     exact ⟨_, _, _, rfl, FO.out, FB.out⟩
   . have xo4 := XO4.out
     have zal := XO3.out.lt
     have z4 := hb4.out.size
     have z3 := hb3.out.size
     have zW := ZW.out
     have hbs := set4_but w4 w1.heap.size (.slice fa0 fl0 fc0) (.slice fa1 fl1 fc1) (.bool f) (.slice fa3 fl3 fc3)
     have zs := hbs.size
     have B4 := Below.andThen HB1.out (Below.andThen hb3.out hb4.out)
     have RF0 := (HR1.out.below (Below.andThen hb3.out hb4.out) zR).kept (hbs.block _ (by omega) (by omega))
     have YF0 := (((xo4.set 0 (.slice fa0 fl0 fc0)).set 1 (.slice fa1 fl1 fc1)).set 2 (.bool f)).set 3 (.slice fa3 fl3 fc3)
     have OF0 := ((O4.out.but hbs (.inr (by omega))).widen (lo' := w1.heap.size) (hi' := (set4 w4 w1.heap.size (.slice fa0 fl0 fc0) (.slice fa1 fl1 fc1) (.bool f) (.slice fa3 fl3 fc3)).heap.size) (by omega) zs)
     have BF0 := Below.andBut B4 hbs (by omega)
     have ZF0 : w.heap.size + 2 < w1.heap.size := zW
     unfold set4 at RF0 OF0 BF0
     clear hbs zs B4 xo4
     have RF := RF0
     have HBF := hidden BF0
     have HYF := hidden YF0
     have HOF := hidden OF0
     have zF := ZF0
     clear RF0 BF0 YF0 OF0 ZF0
     generalize ((((w4.setCell ⟨w1.heap.size, 0, none⟩ (.slice fa0 fl0 fc0)).setCell ⟨w1.heap.size, 1, none⟩ (.slice fa1 fl1 fc1)).setCell ⟨w1.heap.size, 2, none⟩ (.bool f)).setCell ⟨w1.heap.size, 3, none⟩ (.slice fa3 fl3 fc3)) = WF at RF HBF HYF HOF zF ⊢
     generalize w1.heap.size = BO at HYF ⊢
     obtain ⟨y0, y1, y2, y3⟩ := HYF.out.cells4
     obtain ⟨r0, r1, r2, r3⟩ := RF.cells4
     have fz := RF.frozen
     have hbt := set4_but WF (w.heap.size + 1 + 1) (.slice fa0 fl0 fc0) (.slice fa1 fl1 fc1) (.bool f) (.slice fa3 fl3 fc3)
     have zt := hbt.size
     have FO := hidden ((HOF.out.but hbt (.inr (by omega))).widen (lo' := w.heap.size) (hi' := (set4 WF (w.heap.size + 1 + 1) (.slice fa0 fl0 fc0) (.slice fa1 fl1 fc1) (.bool f) (.slice fa3 fl3 fc3)).heap.size) (by omega) hbt.size)
     rw [← HC.out, ← HB.out] at FO
     have FB := hidden (Below.andBut HBF.out hbt (by omega))
     unfold set4 at FO FB
     clear hbt RF HBF HYF HOF zt
     go_wp2
     refine bodyPost_ret (v := .agg #[.slice fa0 fl0 fc0, .slice fa1 fl1 fc1, .bool f, .slice fa3 fl3 fc3]) (by simp [results, Tryz.results230, go_sem, r0, r1, r2, r3]) rfl ?_
     exact ⟨_, _, _, rfl, FO.out, FB.out⟩
   . have xo4 := XO4.out
     have zal := XO3.out.lt
     have z4 := hb4.out.size
     have z3 := hb3.out.size
     have zW := ZW.out
     have hbs := set4_but w4 w1.heap.size (.slice fa0 fl0 fc0) (.slice fa1 fl1 fc1) (.bool f) (.slice fa3 fl3 fc3)
     have zs := hbs.size
     have B4 := Below.andThen HB1.out (Below.andThen hb3.out hb4.out)
     have RF0 := (HR1.out.below (Below.andThen hb3.out hb4.out) zR).kept (hbs.block _ (by omega) (by omega))
     have YF0 := (((xo4.set 0 (.slice fa0 fl0 fc0)).set 1 (.slice fa1 fl1 fc1)).set 2 (.bool f)).set 3 (.slice fa3 fl3 fc3)
     have OF0 := ((O4.out.but hbs (.inr (by omega))).widen (lo' := w1.heap.size) (hi' := (set4 w4 w1.heap.size (.slice fa0 fl0 fc0) (.slice fa1 fl1 fc1) (.bool f) (.slice fa3 fl3 fc3)).heap.size) (by omega) zs)
     have BF0 := Below.andBut B4 hbs (by omega)
     have ZF0 : w.heap.size + 2 < w1.heap.size := zW
     unfold set4 at RF0 OF0 BF0
     clear hbs zs B4 xo4
     have RF := RF0
     have HBF := hidden BF0
     have HYF := hidden YF0
     have HOF := hidden OF0
     have zF := ZF0
     clear RF0 BF0 YF0 OF0 ZF0
     generalize ((((w4.setCell ⟨w1.heap.size, 0, none⟩ (.slice fa0 fl0 fc0)).setCell ⟨w1.heap.size, 1, none⟩ (.slice fa1 fl1 fc1)).setCell ⟨w1.heap.size, 2, none⟩ (.bool f)).setCell ⟨w1.heap.size, 3, none⟩ (.slice fa3 fl3 fc3)) = WF at RF HBF HYF HOF zF ⊢
     generalize w1.heap.size = BO at HYF ⊢
     obtain ⟨y0, y1, y2, y3⟩ := HYF.out.cells4
     obtain ⟨r0, r1, r2, r3⟩ := RF.cells4
     have fz := RF.frozen
     have hbt := set4_but WF (w.heap.size + 1 + 1) (.slice fa0 fl0 fc0) (.slice fa1 fl1 fc1) (.bool f) (.slice fa3 fl3 fc3)
     have zt := hbt.size
     have FO := hidden ((HOF.out.but hbt (.inr (by omega))).widen (lo' := w.heap.size) (hi' := (set4 WF (w.heap.size + 1 + 1) (.slice fa0 fl0 fc0) (.slice fa1 fl1 fc1) (.bool f) (.slice fa3 fl3 fc3)).heap.size) (by omega) hbt.size)
     rw [← HC.out, ← HB.out] at FO
     have FB := hidden (Below.andBut HBF.out hbt (by omega))
     unfold set4 at FO FB
     clear hbt RF HBF HYF HOF zt
     go_wp2
     refine bodyPost_ret (v := .agg #[.slice fa0 fl0 fc0, .slice fa1 fl1 fc1, .bool f, .slice fa3 fl3 fc3]) (by simp [results, Tryz.results230, go_sem, r0, r1, r2, r3]) rfl ?_
     exact ⟨_, _, _, rfl, FO.out, FB.out⟩
 . have hx' : supB x = false := by simpa using hx
   have HC : Hid (wsCS ss cs f bs x = cs) := by unfold Hid wsCS; rw [if_neg hx]
   have HB : Hid (wsBS ss cs f bs x = bs) := by unfold Hid wsBS; rw [if_neg hx]
   go_wp2_with fail
   refine (copyMem_any _ E _ _ _ _ _ _ _ _ _ ss cs f bs (h0.below B1) (h1.below B1) (h3.below B1) hw).mono ?_
   rintro e w2 ⟨v0, v1, v3, m1, m2, rfl, k3, k0, k1, zm1, zm2, zm3, b2⟩
   have R2 := R1.below b2 zR
   have B2 := Below.andThen B1 b2
   obtain ⟨fa0, fc0, rfl⟩ := row_shape k0.rd
   obtain ⟨fa1, fc1, rfl⟩ := row_shape k1.rd
   obtain ⟨fa3, fc3, rfl⟩ := row_shape k3.rd
   obtain ⟨r0, r1, r2, r3⟩ := R2.cells4
   have fz := R2.frozen
   have zw := b2.size
   have hbt := set4_but w2 (w.heap.size + 1 + 1) (.slice fa0 ss.length fc0) (.slice fa1 cs.length fc1) (.bool f) (.slice fa3 bs.length fc3)
   have zt := hbt.size
   have FO := hidden (mem_own3 (lo := w.heap.size) (hi := (set4 w2 (w.heap.size + 1 + 1) (.slice fa0 ss.length fc0) (.slice fa1 cs.length fc1) (.bool f) (.slice fa3 bs.length fc3)).heap.size) (f := f) (k0.but hbt (by omega)) (k1.but hbt (by omega)) (k3.but hbt (by omega)) (by omega) (by omega) (by omega) (by omega) (by omega) (by omega))
   have FB := hidden (Below.andBut B2 hbt (by omega))
   unfold set4 at FO FB
   clear hbt R1 R2 B1 B2 b2 q0 q1 q2 q3 M1 S1 k0 k1 k3 zt
   go_wp2
   refine bodyPost_ret (v := .agg #[.slice fa0 ss.length fc0, .slice fa1 cs.length fc1, .bool f, .slice fa3 bs.length fc3]) (by simp [results, Tryz.results230, go_sem, r0, r1, r2, r3]) rfl ?_
   exact ⟨_, _, _, rfl, by rw [HC.out, HB.out]; exact FO.out, FB.out⟩

def allIx {α : Type} (p : Nat -> α -> Bool) (l : List α) : Bool := (List.range l.length).all fun i => (l[i]?.map (p i)).getD true
theorem allIx_iff {α : Type} {p : Nat -> α -> Bool} {l : List α} : allIx p l = true ↔ ∀ (i : Nat) (x : α), l[i]? = some x -> p i x = true := by
 unfold allIx
 rw [List.all_eq_true]
 constructor
 . intro h i x hx
   have := h i (by rw [List.mem_range]; exact (List.getElem?_eq_some_iff.1 hx).1)
   rw [hx] at this
   simpa using this
 . intro h i hi
   cases hx : l[i]? with
   | none => rfl
   | some x => simpa using h i x hx
theorem allIx_no {α : Type} {p : Nat -> α -> Bool} {l : List α} {i : Nat} {x : α} (hx : l[i]? = some x) (h : p i x = false) : allIx p l = false := by
 cases hb : allIx p l with
 | false => rfl
 | true => rw [allIx_iff.1 hb i x hx] at h; cases h

def memAt (x : ArrN) (i : Nat) (m : MemD) : Bool := memB m.1 m.2.1 m.2.2.2 && (decide ((m.1.length : Int) = 6 + x.s) && (!m.2.2.1 || (decide ((i : Int) = x.lost) || x.broken)))
def memsB (x : ArrN) (ms : List MemD) : Bool := allIx (memAt x) ms && decide ((ms.length : Int) = x.n)
def entAt (x : ArrN) (ds : List (Int × List Int)) (i : Nat) (e : Int × List Int) : Bool := inB e.1 0 (x.s - 1) && (decide ((e.2.length : Int) = x.n - 1) && (allW e.2 && (decide (i = 0) || decide ((ds.getD (i - 1) (0, [])).1 < e.1))))
def entsB (x : ArrN) (ds : List (Int × List Int)) : Bool := allIx (entAt x ds) ds
def lostB6 (x : ArrN) : Bool := inB x.lost (-1) (x.n - 1) && (inB x.built 0 x.s && (!decide (x.lost = -1) || decide (x.built = 0)))
def seqB6 (x : ArrN) : Bool := inB x.tail 0 60000 && (inB x.seq x.tail 60000 && (decide (x.seq <= x.tail + 4) && (inB x.gen 0 60000 && inB x.fuse (-1) 1000)))
def arrB (x : ArrN) (ms : List MemD) (ds : List (Int × List Int)) : Bool := geoB x.n x.s && (inB x.id 1 60000 && (memsB x ms && (entsB x ds && (lostB6 x && seqB6 x))))

theorem l6Secs_any (w : World) (n s : Int) (hs : 1 <= s /\ s <= 8) : Calls Tryz.prog 185 #[.agg #[.int .i64 n, .int .i64 s]] w fun e w' => e = .returned (.int .i64 (6 + s)) /\ Below w.heap.size w w' := by
 have hA := new_below w (.cells #[.int .i64 n, .int .i64 s] 25)
 obtain ⟨k0, k1⟩ := (Gbox.new w 25 n s).cells
 have hw : IntKind.i64.wrap (6 + s) = 6 + s := IntWalk.i64_in _ (by omega)
 go_enter Tryz.func185, Tryz.ntmps185
 go_wp2
 go_ret
 exact ⟨rfl, hA⟩

theorem l6Mems_any (w : World) (E F : TypeId) (x : ArrN) (am ad : Option Addr) (nm cm nd cd : Nat) (ms : List MemD) (h0 : (tMemS E F).Rd w [.slice am nm cm] ms) (hw : wtMemS ms <= 2097152) (hg : geoB x.n x.s = true) :
 Calls Tryz.prog 132 #[.agg #[.int .i64 x.id, .int .i64 x.n, .int .i64 x.s, .slice am nm cm, .int .i64 x.lost, .int .i64 x.built, .int .i64 x.seq, .int .i64 x.tail, .int .i64 x.gen, .slice ad nd cd, .int .i64 x.fuse, .bool x.down, .bool x.broken]] w fun e w' => e = .returned (.bool (memsB x ms)) /\ Below w.heap.size w w' := by
 obtain ⟨hl, hc, hm⟩ := row_length h0
 obtain ⟨g1, g2, g3, g4⟩ := geoB_iff.1 hg
 have hA := new_below w (.cells #[.int .i64 x.id, .int .i64 x.n, .int .i64 x.s, .slice am nm cm, .int .i64 x.lost, .int .i64 x.built, .int .i64 x.seq, .int .i64 x.tail, .int .i64 x.gen, .slice ad nd cd, .int .i64 x.fuse, .bool x.down, .bool x.broken] 29)
 have X := Box.new w 29 #[.int .i64 x.id, .int .i64 x.n, .int .i64 x.s, .slice am nm cm, .int .i64 x.lost, .int .i64 x.built, .int .i64 x.seq, .int .i64 x.tail, .int .i64 x.gen, .slice ad nd cd, .int .i64 x.fuse, .bool x.down, .bool x.broken]
 have zA := X.lt
 have hnm : nm <= 2097152 := by unfold wtMemS at hw; omega
 have h1 := h0.below hA
 go_enter Tryz.func132, Tryz.ntmps132
 go_wp2
 generalize w.alloc (.cells #[.int .i64 x.id, .int .i64 x.n, .int .i64 x.s, .slice am nm cm, .int .i64 x.lost, .int .i64 x.built, .int .i64 x.seq, .int .i64 x.tail, .int .i64 x.gen, .slice ad nd cd, .int .i64 x.fuse, .bool x.down, .bool x.broken] 29) = W at hA X zA h1 ⊢
 go_loopw [3] (fun i wr => ∃ j : Nat, j <= nm /\ i = .int .i64 j /\ (∀ (q : Nat) (m : MemD), q < j -> ms[q]? = some m -> memAt x q m = true) /\ Below W.heap.size W wr) (fun i _ => nm - (intOf i).toNat)
 case atStart => exact ⟨0, Nat.zero_le _, rfl, fun q m hq => by omega, Below.refl _ _⟩
 case round =>
  obtain ⟨j, hj, rfl, hall, hb⟩ := hrel
  have Xr := X.below hb zA
  obtain ⟨k0, k1, k2, k3, k4, k5, k6, k7, k8, k9, k10, k11, k12⟩ := Xr.cells13
  by_cases hjn : j < nm
  . rcases quads_at rfl h1 with h0' | ⟨b, off, rfl, hbl, hcs⟩
    . omega
    have hdj : ms[j]? = some (ms[j]'(by omega)) := List.getElem?_eq_getElem (by omega)
    generalize ms[j]'(by omega) = m at hdj
    obtain ⟨v0, v1, v2, v3, hv0, hv1, hv2, hv3, hrv⟩ := hcs j m hdj
    obtain ⟨a0, c0, a1, c1, a3, c3, ss, cs, f, bs, rfl, rfl, rfl, rfl, rfl, r0, r1, r3⟩ := mem_at hrv
    have u0 := (hb.cell (p := ⟨b, off + j * 4, none⟩) hbl).trans hv0
    have u1 := (hb.cell (p := ⟨b, off + j * 4 + 1, none⟩) hbl).trans hv1
    have u2 := (hb.cell (p := ⟨b, off + j * 4 + 2, none⟩) hbl).trans hv2
    have u3 := (hb.cell (p := ⟨b, off + j * 4 + 3, none⟩) hbl).trans hv3
    have i1 : (0 : Int) <= (j : Int) := by omega
    have i2 : (j : Int) < (nm : Int) := by omega
    have hwm := Nat.le_trans (inner_leM hdj) hw
    have HDJ := hidden hdj
    clear hcs hv0 hv1 hv2 hv3 hrv hdj
    have b1 := new_below wr (.cells #[.slice a0 ss.length c0, .slice a1 cs.length c1, .bool f, .slice a3 bs.length c3] 109)
    have Y1 := Box.new wr 109 #[.slice a0 ss.length c0, .slice a1 cs.length c1, .bool f, .slice a3 bs.length c3]
    have X1 := Xr.below b1 Xr.lt
    have R0 := (r0.below hb).below b1
    have R1 := (r1.below hb).below b1
    have R3 := (r3.below hb).below b1
    have B1 := hb.trans (b1.mono hb.size)
    clear r0 r1 r3 b1
    obtain ⟨y0, y1, y2, y3⟩ := Y1.cells4
    obtain ⟨e0, e1, e2, e3, e4, e5, e6, e7, e8, e9, e10, e11, e12⟩ := X1.cells13
    have zy := Y1.lt
    have zx := X1.lt
    clear e0 e3 e5 e6 e7 e8 e9 e10 e11
    cases hM : memB ss cs bs
    . skip
      go_wp2_with fail
      generalize wr.alloc (.cells #[.slice a0 ss.length c0, .slice a1 cs.length c1, .bool f, .slice a3 bs.length c3] 109) = w1 at X1 Y1 R0 R1 R3 B1 y0 y1 y2 y3 e1 e2 e4 e12 zy zx ⊢
      refine wp_region_held_drew (S := fun w' => w'.cell? ⟨wr.heap.size, 0, none⟩ = some (.slice a0 ss.length c0) /\ w'.cell? ⟨wr.heap.size, 1, none⟩ = some (.slice a1 cs.length c1) /\ w'.cell? ⟨wr.heap.size, 2, none⟩ = some (.bool f) /\ w'.cell? ⟨wr.heap.size, 3, none⟩ = some (.slice a3 bs.length c3) /\ w'.cell? ⟨w.heap.size, 1, none⟩ = some (.int .i64 x.n) /\ w'.cell? ⟨w.heap.size, 2, none⟩ = some (.int .i64 x.s) /\ w'.cell? ⟨w.heap.size, 4, none⟩ = some (.int .i64 x.lost) /\ w'.cell? ⟨w.heap.size, 12, none⟩ = some (.bool x.broken)) (by kernel_rfl) ?_ (fun hHeld => ?_)
      . exact ⟨y0, y1, y2, y3, e1, e2, e4, e12⟩
      refine held_t 0 hHeld ?_
      refine held_one (i := 1) (by kernel_rfl) rfl (by kernel_rfl) (fun K hK => ?_)
      go_simp
      refine (specMemOk_any _ E _ _ _ _ _ _ _ _ _ ss cs f bs R0.drew R1.drew R3.drew hwm).mono ?_
      rintro e w2 ⟨rfl, b2⟩
      rw [hM]
      have b2' : Below w1.heap.size w1 w2 := (Below.refl w1.heap.size w1).drew.trans b2
      clear b2
      go_wp2_with fail
      clear hHeld
      refine hK.out _ _ ?_ (fun hHeld => ?_)
      . exact ⟨(b2'.cell (p := ⟨wr.heap.size, 0, none⟩) zy).trans y0, (b2'.cell (p := ⟨wr.heap.size, 1, none⟩) zy).trans y1, (b2'.cell (p := ⟨wr.heap.size, 2, none⟩) zy).trans y2, (b2'.cell (p := ⟨wr.heap.size, 3, none⟩) zy).trans y3, (b2'.cell (p := ⟨w.heap.size, 1, none⟩) zx).trans e1, (b2'.cell (p := ⟨w.heap.size, 2, none⟩) zx).trans e2, (b2'.cell (p := ⟨w.heap.size, 4, none⟩) zx).trans e4, (b2'.cell (p := ⟨w.heap.size, 12, none⟩) zx).trans e12⟩
      clear hK K
      refine held_t 2 hHeld ?_
      refine held_t 3 hHeld ?_
      refine held_p 4 hHeld ?_
      refine held_p 5 hHeld ?_
      refine held_p 6 hHeld ?_
      refine held_p 7 hHeld ?_
      refine held_p 8 hHeld ?_
      refine held_none (i := 9) (by kernel_rfl) rfl (by kernel_rfl) hHeld ?_
      simp only [Act.put, List.setIfInBounds_toArray, List.set_cons_zero, List.set_cons_succ]
      refine held_p 10 hHeld ?_
      refine held_t 11 hHeld ?_
      refine held_t 12 hHeld ?_
      refine held_p 13 hHeld ?_
      refine held_p 14 hHeld ?_
      refine held_p 15 hHeld ?_
      refine held_p 16 hHeld ?_
      refine held_p 17 hHeld ?_
      refine held_p 18 hHeld ?_
      refine held_p 19 hHeld ?_
      refine held_p 20 hHeld ?_
      refine held_p 21 hHeld ?_
      refine held_p 22 hHeld ?_
      refine held_p 23 hHeld ?_
      refine held_p 24 hHeld ?_
      refine held_p 25 hHeld ?_
      refine held_t 26 hHeld ?_
      refine wpAnyH_done (by kernel_rfl) ?_ _
      clear hHeld
      have HB := hidden (hA.trans ((B1.trans (b2'.mono B1.size)).mono hA.size))
      go_wp2
      go_ret
      exact ⟨ret_bool (by rw [show memsB x ms = false from (by unfold memsB; rw [allIx_no HDJ.out (by unfold memAt; simp [hM])]; rfl)]), HB.out⟩
    . by_cases hS : (ss.length : Int) = 6 + x.s
      . have hS1 : ((ss.length : Int) == 6 + x.s) = true := by simpa using hS
        have hS2 : ((ss.length : Int) != 6 + x.s) = false := by simpa using hS
        have HS := hidden hS
        clear hS
        cases f
        . skip
          go_wp2_with fail
          generalize wr.alloc (.cells #[.slice a0 ss.length c0, .slice a1 cs.length c1, .bool false, .slice a3 bs.length c3] 109) = w1 at X1 Y1 R0 R1 R3 B1 y0 y1 y2 y3 e1 e2 e4 e12 zy zx ⊢
          refine wp_region_held_drew (S := fun w' => w'.cell? ⟨wr.heap.size, 0, none⟩ = some (.slice a0 ss.length c0) /\ w'.cell? ⟨wr.heap.size, 1, none⟩ = some (.slice a1 cs.length c1) /\ w'.cell? ⟨wr.heap.size, 2, none⟩ = some (.bool false) /\ w'.cell? ⟨wr.heap.size, 3, none⟩ = some (.slice a3 bs.length c3) /\ w'.cell? ⟨w.heap.size, 1, none⟩ = some (.int .i64 x.n) /\ w'.cell? ⟨w.heap.size, 2, none⟩ = some (.int .i64 x.s) /\ w'.cell? ⟨w.heap.size, 4, none⟩ = some (.int .i64 x.lost) /\ w'.cell? ⟨w.heap.size, 12, none⟩ = some (.bool x.broken)) (by kernel_rfl) ?_ (fun hHeld => ?_)
          . exact ⟨y0, y1, y2, y3, e1, e2, e4, e12⟩
          refine held_t 0 hHeld ?_
          refine held_one (i := 1) (by kernel_rfl) rfl (by kernel_rfl) (fun K hK => ?_)
          go_simp
          refine (specMemOk_any _ E _ _ _ _ _ _ _ _ _ ss cs false bs R0.drew R1.drew R3.drew hwm).mono ?_
          rintro e w2 ⟨rfl, b2⟩
          rw [hM]
          have b2' : Below w1.heap.size w1 w2 := (Below.refl w1.heap.size w1).drew.trans b2
          clear b2
          go_wp2_with fail
          clear hHeld
          refine hK.out _ _ ?_ (fun hHeld => ?_)
          . exact ⟨(b2'.cell (p := ⟨wr.heap.size, 0, none⟩) zy).trans y0, (b2'.cell (p := ⟨wr.heap.size, 1, none⟩) zy).trans y1, (b2'.cell (p := ⟨wr.heap.size, 2, none⟩) zy).trans y2, (b2'.cell (p := ⟨wr.heap.size, 3, none⟩) zy).trans y3, (b2'.cell (p := ⟨w.heap.size, 1, none⟩) zx).trans e1, (b2'.cell (p := ⟨w.heap.size, 2, none⟩) zx).trans e2, (b2'.cell (p := ⟨w.heap.size, 4, none⟩) zx).trans e4, (b2'.cell (p := ⟨w.heap.size, 12, none⟩) zx).trans e12⟩
          clear hK K
          refine held_t 2 hHeld ?_
          refine held_t 3 hHeld ?_
          refine held_t 4 hHeld ?_
          refine held_t 5 hHeld ?_
          refine held_t 6 hHeld ?_
          refine held_t 7 hHeld ?_
          refine held_t 8 hHeld ?_
          refine held_one (i := 9) (by kernel_rfl) rfl (by kernel_rfl) (fun K hK => ?_)
          go_simp
          refine (l6Secs_any _ x.n x.s ⟨g3, g4⟩).mono ?_
          rintro e w3 ⟨rfl, b3⟩
          have b3' : Below w1.heap.size w1 w3 := Below.andThen b2' b3
          clear b3
          go_wp2_with fail
          clear hHeld
          refine hK.out _ _ ?_ (fun hHeld => ?_)
          . exact ⟨(b3'.cell (p := ⟨wr.heap.size, 0, none⟩) zy).trans y0, (b3'.cell (p := ⟨wr.heap.size, 1, none⟩) zy).trans y1, (b3'.cell (p := ⟨wr.heap.size, 2, none⟩) zy).trans y2, (b3'.cell (p := ⟨wr.heap.size, 3, none⟩) zy).trans y3, (b3'.cell (p := ⟨w.heap.size, 1, none⟩) zx).trans e1, (b3'.cell (p := ⟨w.heap.size, 2, none⟩) zx).trans e2, (b3'.cell (p := ⟨w.heap.size, 4, none⟩) zx).trans e4, (b3'.cell (p := ⟨w.heap.size, 12, none⟩) zx).trans e12⟩
          clear hK K
          refine held_t 10 hHeld ?_
          refine held_t 11 hHeld ?_
          refine held_t 12 hHeld ?_
          refine held_t 13 hHeld ?_
          refine held_t 14 hHeld ?_
          refine held_t 15 hHeld ?_
          refine held_p 16 hHeld ?_
          refine held_p 17 hHeld ?_
          refine held_p 18 hHeld ?_
          refine held_p 19 hHeld ?_
          refine held_t 20 hHeld ?_
          refine held_t 21 hHeld ?_
          refine held_p 22 hHeld ?_
          refine held_p 23 hHeld ?_
          refine held_p 24 hHeld ?_
          refine held_t 25 hHeld ?_
          refine held_t 26 hHeld ?_
          refine wpAnyH_done (by kernel_rfl) ?_ _
          clear hHeld
          have HB := hidden (B1.trans (b3'.mono B1.size))
          have hat : memAt x j (ss, cs, false, bs) = true := (by unfold memAt; simp [hM, HS.out])
          go_wp2
          go_roundw
          case rel => exact ⟨j + 1, by omega, by go_num, fun q m hq hm' => by
           rcases Nat.lt_or_ge q j with h | h
           . exact hall q m h hm'
           . obtain rfl : q = j := by omega
             rw [HDJ.out] at hm'
             cases hm'
             exact hat, HB.out⟩
          case measure => simp [intOf]; omega
        . by_cases hL : (j : Int) = x.lost
          . have hL1 : ((j : Int) == x.lost) = true := by simpa using hL
            have hL2 : ((j : Int) != x.lost) = false := by simpa using hL
            have HL := hidden hL
            clear hL
            go_wp2_with fail
            generalize wr.alloc (.cells #[.slice a0 ss.length c0, .slice a1 cs.length c1, .bool true, .slice a3 bs.length c3] 109) = w1 at X1 Y1 R0 R1 R3 B1 y0 y1 y2 y3 e1 e2 e4 e12 zy zx ⊢
            refine wp_region_held_drew (S := fun w' => w'.cell? ⟨wr.heap.size, 0, none⟩ = some (.slice a0 ss.length c0) /\ w'.cell? ⟨wr.heap.size, 1, none⟩ = some (.slice a1 cs.length c1) /\ w'.cell? ⟨wr.heap.size, 2, none⟩ = some (.bool true) /\ w'.cell? ⟨wr.heap.size, 3, none⟩ = some (.slice a3 bs.length c3) /\ w'.cell? ⟨w.heap.size, 1, none⟩ = some (.int .i64 x.n) /\ w'.cell? ⟨w.heap.size, 2, none⟩ = some (.int .i64 x.s) /\ w'.cell? ⟨w.heap.size, 4, none⟩ = some (.int .i64 x.lost) /\ w'.cell? ⟨w.heap.size, 12, none⟩ = some (.bool x.broken)) (by kernel_rfl) ?_ (fun hHeld => ?_)
            . exact ⟨y0, y1, y2, y3, e1, e2, e4, e12⟩
            refine held_t 0 hHeld ?_
            refine held_one (i := 1) (by kernel_rfl) rfl (by kernel_rfl) (fun K hK => ?_)
            go_simp
            refine (specMemOk_any _ E _ _ _ _ _ _ _ _ _ ss cs true bs R0.drew R1.drew R3.drew hwm).mono ?_
            rintro e w2 ⟨rfl, b2⟩
            rw [hM]
            have b2' : Below w1.heap.size w1 w2 := (Below.refl w1.heap.size w1).drew.trans b2
            clear b2
            go_wp2_with fail
            clear hHeld
            refine hK.out _ _ ?_ (fun hHeld => ?_)
            . exact ⟨(b2'.cell (p := ⟨wr.heap.size, 0, none⟩) zy).trans y0, (b2'.cell (p := ⟨wr.heap.size, 1, none⟩) zy).trans y1, (b2'.cell (p := ⟨wr.heap.size, 2, none⟩) zy).trans y2, (b2'.cell (p := ⟨wr.heap.size, 3, none⟩) zy).trans y3, (b2'.cell (p := ⟨w.heap.size, 1, none⟩) zx).trans e1, (b2'.cell (p := ⟨w.heap.size, 2, none⟩) zx).trans e2, (b2'.cell (p := ⟨w.heap.size, 4, none⟩) zx).trans e4, (b2'.cell (p := ⟨w.heap.size, 12, none⟩) zx).trans e12⟩
            clear hK K
            refine held_t 2 hHeld ?_
            refine held_t 3 hHeld ?_
            refine held_t 4 hHeld ?_
            refine held_t 5 hHeld ?_
            refine held_t 6 hHeld ?_
            refine held_t 7 hHeld ?_
            refine held_t 8 hHeld ?_
            refine held_one (i := 9) (by kernel_rfl) rfl (by kernel_rfl) (fun K hK => ?_)
            go_simp
            refine (l6Secs_any _ x.n x.s ⟨g3, g4⟩).mono ?_
            rintro e w3 ⟨rfl, b3⟩
            have b3' : Below w1.heap.size w1 w3 := Below.andThen b2' b3
            clear b3
            go_wp2_with fail
            clear hHeld
            refine hK.out _ _ ?_ (fun hHeld => ?_)
            . exact ⟨(b3'.cell (p := ⟨wr.heap.size, 0, none⟩) zy).trans y0, (b3'.cell (p := ⟨wr.heap.size, 1, none⟩) zy).trans y1, (b3'.cell (p := ⟨wr.heap.size, 2, none⟩) zy).trans y2, (b3'.cell (p := ⟨wr.heap.size, 3, none⟩) zy).trans y3, (b3'.cell (p := ⟨w.heap.size, 1, none⟩) zx).trans e1, (b3'.cell (p := ⟨w.heap.size, 2, none⟩) zx).trans e2, (b3'.cell (p := ⟨w.heap.size, 4, none⟩) zx).trans e4, (b3'.cell (p := ⟨w.heap.size, 12, none⟩) zx).trans e12⟩
            clear hK K
            refine held_t 10 hHeld ?_
            refine held_t 11 hHeld ?_
            refine held_t 12 hHeld ?_
            refine held_t 13 hHeld ?_
            refine held_t 14 hHeld ?_
            refine held_t 15 hHeld ?_
            refine held_t 16 hHeld ?_
            refine held_t 17 hHeld ?_
            refine held_t 18 hHeld ?_
            refine held_t 19 hHeld ?_
            refine held_t 20 hHeld ?_
            refine held_t 21 hHeld ?_
            refine held_p 22 hHeld ?_
            refine held_p 23 hHeld ?_
            refine held_p 24 hHeld ?_
            refine held_t 25 hHeld ?_
            refine held_t 26 hHeld ?_
            refine wpAnyH_done (by kernel_rfl) ?_ _
            clear hHeld
            have HB := hidden (B1.trans (b3'.mono B1.size))
            have hat : memAt x j (ss, cs, true, bs) = true := (by unfold memAt; simp [hM, HS.out, HL.out])
            go_wp2
            go_roundw
            case rel => exact ⟨j + 1, by omega, by go_num, fun q m hq hm' => by
             rcases Nat.lt_or_ge q j with h | h
             . exact hall q m h hm'
             . obtain rfl : q = j := by omega
               rw [HDJ.out] at hm'
               cases hm'
               exact hat, HB.out⟩
            case measure => simp [intOf]; omega
          . have hL1 : ((j : Int) == x.lost) = false := by simpa using hL
            have hL2 : ((j : Int) != x.lost) = true := by simpa using hL
            have HL := hidden hL
            clear hL
            cases hBr : x.broken
            . rw [hBr] at e12
              go_wp2_with fail
              generalize wr.alloc (.cells #[.slice a0 ss.length c0, .slice a1 cs.length c1, .bool true, .slice a3 bs.length c3] 109) = w1 at X1 Y1 R0 R1 R3 B1 y0 y1 y2 y3 e1 e2 e4 e12 zy zx ⊢
              refine wp_region_held_drew (S := fun w' => w'.cell? ⟨wr.heap.size, 0, none⟩ = some (.slice a0 ss.length c0) /\ w'.cell? ⟨wr.heap.size, 1, none⟩ = some (.slice a1 cs.length c1) /\ w'.cell? ⟨wr.heap.size, 2, none⟩ = some (.bool true) /\ w'.cell? ⟨wr.heap.size, 3, none⟩ = some (.slice a3 bs.length c3) /\ w'.cell? ⟨w.heap.size, 1, none⟩ = some (.int .i64 x.n) /\ w'.cell? ⟨w.heap.size, 2, none⟩ = some (.int .i64 x.s) /\ w'.cell? ⟨w.heap.size, 4, none⟩ = some (.int .i64 x.lost) /\ w'.cell? ⟨w.heap.size, 12, none⟩ = some (.bool false)) (by kernel_rfl) ?_ (fun hHeld => ?_)
              . exact ⟨y0, y1, y2, y3, e1, e2, e4, e12⟩
              refine held_t 0 hHeld ?_
              refine held_one (i := 1) (by kernel_rfl) rfl (by kernel_rfl) (fun K hK => ?_)
              go_simp
              refine (specMemOk_any _ E _ _ _ _ _ _ _ _ _ ss cs true bs R0.drew R1.drew R3.drew hwm).mono ?_
              rintro e w2 ⟨rfl, b2⟩
              rw [hM]
              have b2' : Below w1.heap.size w1 w2 := (Below.refl w1.heap.size w1).drew.trans b2
              clear b2
              go_wp2_with fail
              clear hHeld
              refine hK.out _ _ ?_ (fun hHeld => ?_)
              . exact ⟨(b2'.cell (p := ⟨wr.heap.size, 0, none⟩) zy).trans y0, (b2'.cell (p := ⟨wr.heap.size, 1, none⟩) zy).trans y1, (b2'.cell (p := ⟨wr.heap.size, 2, none⟩) zy).trans y2, (b2'.cell (p := ⟨wr.heap.size, 3, none⟩) zy).trans y3, (b2'.cell (p := ⟨w.heap.size, 1, none⟩) zx).trans e1, (b2'.cell (p := ⟨w.heap.size, 2, none⟩) zx).trans e2, (b2'.cell (p := ⟨w.heap.size, 4, none⟩) zx).trans e4, (b2'.cell (p := ⟨w.heap.size, 12, none⟩) zx).trans e12⟩
              clear hK K
              refine held_t 2 hHeld ?_
              refine held_t 3 hHeld ?_
              refine held_t 4 hHeld ?_
              refine held_t 5 hHeld ?_
              refine held_t 6 hHeld ?_
              refine held_t 7 hHeld ?_
              refine held_t 8 hHeld ?_
              refine held_one (i := 9) (by kernel_rfl) rfl (by kernel_rfl) (fun K hK => ?_)
              go_simp
              refine (l6Secs_any _ x.n x.s ⟨g3, g4⟩).mono ?_
              rintro e w3 ⟨rfl, b3⟩
              have b3' : Below w1.heap.size w1 w3 := Below.andThen b2' b3
              clear b3
              go_wp2_with fail
              clear hHeld
              refine hK.out _ _ ?_ (fun hHeld => ?_)
              . exact ⟨(b3'.cell (p := ⟨wr.heap.size, 0, none⟩) zy).trans y0, (b3'.cell (p := ⟨wr.heap.size, 1, none⟩) zy).trans y1, (b3'.cell (p := ⟨wr.heap.size, 2, none⟩) zy).trans y2, (b3'.cell (p := ⟨wr.heap.size, 3, none⟩) zy).trans y3, (b3'.cell (p := ⟨w.heap.size, 1, none⟩) zx).trans e1, (b3'.cell (p := ⟨w.heap.size, 2, none⟩) zx).trans e2, (b3'.cell (p := ⟨w.heap.size, 4, none⟩) zx).trans e4, (b3'.cell (p := ⟨w.heap.size, 12, none⟩) zx).trans e12⟩
              clear hK K
              refine held_t 10 hHeld ?_
              refine held_t 11 hHeld ?_
              refine held_t 12 hHeld ?_
              refine held_t 13 hHeld ?_
              refine held_t 14 hHeld ?_
              refine held_t 15 hHeld ?_
              refine held_t 16 hHeld ?_
              refine held_t 17 hHeld ?_
              refine held_t 18 hHeld ?_
              refine held_t 19 hHeld ?_
              refine held_t 20 hHeld ?_
              refine held_t 21 hHeld ?_
              refine held_t 22 hHeld ?_
              refine held_t 23 hHeld ?_
              refine held_t 24 hHeld ?_
              refine held_t 25 hHeld ?_
              refine held_t 26 hHeld ?_
              refine wpAnyH_done (by kernel_rfl) ?_ _
              clear hHeld
              have HB := hidden (hA.trans ((B1.trans (b3'.mono B1.size)).mono hA.size))
              go_wp2
              go_ret
              exact ⟨ret_bool (by rw [show memsB x ms = false from (by unfold memsB; rw [allIx_no HDJ.out (by unfold memAt; simp [HL.out, hBr])]; rfl)]), HB.out⟩
            . rw [hBr] at e12
              go_wp2_with fail
              generalize wr.alloc (.cells #[.slice a0 ss.length c0, .slice a1 cs.length c1, .bool true, .slice a3 bs.length c3] 109) = w1 at X1 Y1 R0 R1 R3 B1 y0 y1 y2 y3 e1 e2 e4 e12 zy zx ⊢
              refine wp_region_held_drew (S := fun w' => w'.cell? ⟨wr.heap.size, 0, none⟩ = some (.slice a0 ss.length c0) /\ w'.cell? ⟨wr.heap.size, 1, none⟩ = some (.slice a1 cs.length c1) /\ w'.cell? ⟨wr.heap.size, 2, none⟩ = some (.bool true) /\ w'.cell? ⟨wr.heap.size, 3, none⟩ = some (.slice a3 bs.length c3) /\ w'.cell? ⟨w.heap.size, 1, none⟩ = some (.int .i64 x.n) /\ w'.cell? ⟨w.heap.size, 2, none⟩ = some (.int .i64 x.s) /\ w'.cell? ⟨w.heap.size, 4, none⟩ = some (.int .i64 x.lost) /\ w'.cell? ⟨w.heap.size, 12, none⟩ = some (.bool true)) (by kernel_rfl) ?_ (fun hHeld => ?_)
              . exact ⟨y0, y1, y2, y3, e1, e2, e4, e12⟩
              refine held_t 0 hHeld ?_
              refine held_one (i := 1) (by kernel_rfl) rfl (by kernel_rfl) (fun K hK => ?_)
              go_simp
              refine (specMemOk_any _ E _ _ _ _ _ _ _ _ _ ss cs true bs R0.drew R1.drew R3.drew hwm).mono ?_
              rintro e w2 ⟨rfl, b2⟩
              rw [hM]
              have b2' : Below w1.heap.size w1 w2 := (Below.refl w1.heap.size w1).drew.trans b2
              clear b2
              go_wp2_with fail
              clear hHeld
              refine hK.out _ _ ?_ (fun hHeld => ?_)
              . exact ⟨(b2'.cell (p := ⟨wr.heap.size, 0, none⟩) zy).trans y0, (b2'.cell (p := ⟨wr.heap.size, 1, none⟩) zy).trans y1, (b2'.cell (p := ⟨wr.heap.size, 2, none⟩) zy).trans y2, (b2'.cell (p := ⟨wr.heap.size, 3, none⟩) zy).trans y3, (b2'.cell (p := ⟨w.heap.size, 1, none⟩) zx).trans e1, (b2'.cell (p := ⟨w.heap.size, 2, none⟩) zx).trans e2, (b2'.cell (p := ⟨w.heap.size, 4, none⟩) zx).trans e4, (b2'.cell (p := ⟨w.heap.size, 12, none⟩) zx).trans e12⟩
              clear hK K
              refine held_t 2 hHeld ?_
              refine held_t 3 hHeld ?_
              refine held_t 4 hHeld ?_
              refine held_t 5 hHeld ?_
              refine held_t 6 hHeld ?_
              refine held_t 7 hHeld ?_
              refine held_t 8 hHeld ?_
              refine held_one (i := 9) (by kernel_rfl) rfl (by kernel_rfl) (fun K hK => ?_)
              go_simp
              refine (l6Secs_any _ x.n x.s ⟨g3, g4⟩).mono ?_
              rintro e w3 ⟨rfl, b3⟩
              have b3' : Below w1.heap.size w1 w3 := Below.andThen b2' b3
              clear b3
              go_wp2_with fail
              clear hHeld
              refine hK.out _ _ ?_ (fun hHeld => ?_)
              . exact ⟨(b3'.cell (p := ⟨wr.heap.size, 0, none⟩) zy).trans y0, (b3'.cell (p := ⟨wr.heap.size, 1, none⟩) zy).trans y1, (b3'.cell (p := ⟨wr.heap.size, 2, none⟩) zy).trans y2, (b3'.cell (p := ⟨wr.heap.size, 3, none⟩) zy).trans y3, (b3'.cell (p := ⟨w.heap.size, 1, none⟩) zx).trans e1, (b3'.cell (p := ⟨w.heap.size, 2, none⟩) zx).trans e2, (b3'.cell (p := ⟨w.heap.size, 4, none⟩) zx).trans e4, (b3'.cell (p := ⟨w.heap.size, 12, none⟩) zx).trans e12⟩
              clear hK K
              refine held_t 10 hHeld ?_
              refine held_t 11 hHeld ?_
              refine held_t 12 hHeld ?_
              refine held_t 13 hHeld ?_
              refine held_t 14 hHeld ?_
              refine held_t 15 hHeld ?_
              refine held_t 16 hHeld ?_
              refine held_t 17 hHeld ?_
              refine held_t 18 hHeld ?_
              refine held_t 19 hHeld ?_
              refine held_t 20 hHeld ?_
              refine held_t 21 hHeld ?_
              refine held_t 22 hHeld ?_
              refine held_t 23 hHeld ?_
              refine held_t 24 hHeld ?_
              refine held_t 25 hHeld ?_
              refine held_t 26 hHeld ?_
              refine wpAnyH_done (by kernel_rfl) ?_ _
              clear hHeld
              have HB := hidden (B1.trans (b3'.mono B1.size))
              have hat : memAt x j (ss, cs, true, bs) = true := (by unfold memAt; simp [hM, HS.out, hBr])
              go_wp2
              go_roundw
              case rel => exact ⟨j + 1, by omega, by go_num, fun q m hq hm' => by
               rcases Nat.lt_or_ge q j with h | h
               . exact hall q m h hm'
               . obtain rfl : q = j := by omega
                 rw [HDJ.out] at hm'
                 cases hm'
                 exact hat, HB.out⟩
              case measure => simp [intOf]; omega
      . have hS1 : ((ss.length : Int) == 6 + x.s) = false := by simpa using hS
        have hS2 : ((ss.length : Int) != 6 + x.s) = true := by simpa using hS
        have HS := hidden hS
        clear hS
        go_wp2_with fail
        generalize wr.alloc (.cells #[.slice a0 ss.length c0, .slice a1 cs.length c1, .bool f, .slice a3 bs.length c3] 109) = w1 at X1 Y1 R0 R1 R3 B1 y0 y1 y2 y3 e1 e2 e4 e12 zy zx ⊢
        refine wp_region_held_drew (S := fun w' => w'.cell? ⟨wr.heap.size, 0, none⟩ = some (.slice a0 ss.length c0) /\ w'.cell? ⟨wr.heap.size, 1, none⟩ = some (.slice a1 cs.length c1) /\ w'.cell? ⟨wr.heap.size, 2, none⟩ = some (.bool f) /\ w'.cell? ⟨wr.heap.size, 3, none⟩ = some (.slice a3 bs.length c3) /\ w'.cell? ⟨w.heap.size, 1, none⟩ = some (.int .i64 x.n) /\ w'.cell? ⟨w.heap.size, 2, none⟩ = some (.int .i64 x.s) /\ w'.cell? ⟨w.heap.size, 4, none⟩ = some (.int .i64 x.lost) /\ w'.cell? ⟨w.heap.size, 12, none⟩ = some (.bool x.broken)) (by kernel_rfl) ?_ (fun hHeld => ?_)
        . exact ⟨y0, y1, y2, y3, e1, e2, e4, e12⟩
        refine held_t 0 hHeld ?_
        refine held_one (i := 1) (by kernel_rfl) rfl (by kernel_rfl) (fun K hK => ?_)
        go_simp
        refine (specMemOk_any _ E _ _ _ _ _ _ _ _ _ ss cs f bs R0.drew R1.drew R3.drew hwm).mono ?_
        rintro e w2 ⟨rfl, b2⟩
        rw [hM]
        have b2' : Below w1.heap.size w1 w2 := (Below.refl w1.heap.size w1).drew.trans b2
        clear b2
        go_wp2_with fail
        clear hHeld
        refine hK.out _ _ ?_ (fun hHeld => ?_)
        . exact ⟨(b2'.cell (p := ⟨wr.heap.size, 0, none⟩) zy).trans y0, (b2'.cell (p := ⟨wr.heap.size, 1, none⟩) zy).trans y1, (b2'.cell (p := ⟨wr.heap.size, 2, none⟩) zy).trans y2, (b2'.cell (p := ⟨wr.heap.size, 3, none⟩) zy).trans y3, (b2'.cell (p := ⟨w.heap.size, 1, none⟩) zx).trans e1, (b2'.cell (p := ⟨w.heap.size, 2, none⟩) zx).trans e2, (b2'.cell (p := ⟨w.heap.size, 4, none⟩) zx).trans e4, (b2'.cell (p := ⟨w.heap.size, 12, none⟩) zx).trans e12⟩
        clear hK K
        refine held_t 2 hHeld ?_
        refine held_t 3 hHeld ?_
        refine held_t 4 hHeld ?_
        refine held_t 5 hHeld ?_
        refine held_t 6 hHeld ?_
        refine held_t 7 hHeld ?_
        refine held_t 8 hHeld ?_
        refine held_one (i := 9) (by kernel_rfl) rfl (by kernel_rfl) (fun K hK => ?_)
        go_simp
        refine (l6Secs_any _ x.n x.s ⟨g3, g4⟩).mono ?_
        rintro e w3 ⟨rfl, b3⟩
        have b3' : Below w1.heap.size w1 w3 := Below.andThen b2' b3
        clear b3
        go_wp2_with fail
        clear hHeld
        refine hK.out _ _ ?_ (fun hHeld => ?_)
        . exact ⟨(b3'.cell (p := ⟨wr.heap.size, 0, none⟩) zy).trans y0, (b3'.cell (p := ⟨wr.heap.size, 1, none⟩) zy).trans y1, (b3'.cell (p := ⟨wr.heap.size, 2, none⟩) zy).trans y2, (b3'.cell (p := ⟨wr.heap.size, 3, none⟩) zy).trans y3, (b3'.cell (p := ⟨w.heap.size, 1, none⟩) zx).trans e1, (b3'.cell (p := ⟨w.heap.size, 2, none⟩) zx).trans e2, (b3'.cell (p := ⟨w.heap.size, 4, none⟩) zx).trans e4, (b3'.cell (p := ⟨w.heap.size, 12, none⟩) zx).trans e12⟩
        clear hK K
        refine held_t 10 hHeld ?_
        refine held_t 11 hHeld ?_
        refine held_t 12 hHeld ?_
        refine held_p 13 hHeld ?_
        refine held_p 14 hHeld ?_
        refine held_p 15 hHeld ?_
        refine held_p 16 hHeld ?_
        refine held_p 17 hHeld ?_
        refine held_p 18 hHeld ?_
        refine held_p 19 hHeld ?_
        refine held_p 20 hHeld ?_
        refine held_p 21 hHeld ?_
        refine held_p 22 hHeld ?_
        refine held_p 23 hHeld ?_
        refine held_p 24 hHeld ?_
        refine held_p 25 hHeld ?_
        refine held_t 26 hHeld ?_
        refine wpAnyH_done (by kernel_rfl) ?_ _
        clear hHeld
        have HB := hidden (hA.trans ((B1.trans (b3'.mono B1.size)).mono hA.size))
        go_wp2
        go_ret
        exact ⟨ret_bool (by rw [show memsB x ms = false from (by unfold memsB; rw [allIx_no HDJ.out (by unfold memAt; simp [HS.out])]; rfl)]), HB.out⟩
  . have e : j = nm := by omega
    subst e
    have hAll : allIx (memAt x) ms = true := allIx_iff.2 (fun q m hq => hall q m (by have := (List.getElem?_eq_some_iff.1 hq).1; omega) hq)
    have HB := hidden (hA.trans (hb.mono hA.size))
    have hR : memsB x ms = ((j : Int) == x.n) := by unfold memsB; rw [hAll, hl]; simp [BEq.beq]
    go_wp2
    go_ret
    exact ⟨ret_bool hR.symm, HB.out⟩

theorem asc_pairwise {bs : List Int} (ha : ∀ i, i + 1 < bs.length -> bs.getD i 0 < bs.getD (i + 1) 0) : bs.Pairwise (· < ·) := by
 have mono : ∀ d i, i + (d + 1) < bs.length -> bs.getD i 0 < bs.getD (i + (d + 1)) 0 := by
  intro d
  induction d with
  | zero => intro i hi; exact ha i hi
  | succ d ih =>
   intro i hi
   have h1 := ih i (by omega)
   have h2 := ha (i + (d + 1)) (by omega)
   have e : i + (d + 1) + 1 = i + (d + 1 + 1) := by omega
   rw [e] at h2
   omega
 rw [List.pairwise_iff_getElem]
 intro i j hi hj hij
 have h := mono (j - i - 1) i (by omega)
 have e : i + (j - i - 1 + 1) = j := by omega
 rw [e, List.getD_eq_getElem?_getD, List.getD_eq_getElem?_getD, List.getElem?_eq_getElem hi, List.getElem?_eq_getElem hj] at h
 exact h

theorem badB_iff (n : Int) (bs : List Int) : badB n bs = true ↔ (∀ x ∈ bs, 0 <= x /\ x <= n - 1) /\ bs.Pairwise (· < ·) := by
 unfold badB
 rw [List.all_eq_true]
 constructor
 . intro h
   refine ⟨fun x hx => ?_, asc_pairwise (fun i hi => ?_)⟩
   . obtain ⟨i, hi⟩ := List.mem_iff_getElem?.1 hx
     have hil : i < bs.length := (List.getElem?_eq_some_iff.1 hi).1
     have h1 := h i (List.mem_range.2 hil)
     unfold badAt inB at h1
     rw [List.getD_eq_getElem?_getD, hi] at h1
     simp at h1
     omega
   . have h1 := h (i + 1) (List.mem_range.2 hi)
     unfold badAt at h1
     simp at h1
     rw [List.getD_eq_getElem?_getD, List.getD_eq_getElem?_getD]
     exact h1.2
 . rintro ⟨h1, h2⟩ i hi
   have hil : i < bs.length := List.mem_range.1 hi
   unfold badAt inB
   have e : bs.getD i 0 = bs[i] := by rw [List.getD_eq_getElem?_getD, List.getElem?_eq_getElem hil]; rfl
   have h3 := h1 bs[i] (List.getElem_mem hil)
   rw [e]
   simp only [Bool.and_eq_true, Bool.or_eq_true, decide_eq_true_eq]
   refine ⟨⟨by omega, by omega⟩, ?_⟩
   by_cases h0 : i = 0
   . exact .inl h0
   . right
     have h4 := List.pairwise_iff_getElem.1 h2 (i - 1) i (by omega) hil (by omega)
     rw [List.getD_eq_getElem?_getD, List.getElem?_eq_getElem (by omega : i - 1 < bs.length)]
     exact h4

theorem memB_iff (ss : List (List Int)) (cs : List (Int × List Int)) (bs : List Int) : memB ss cs bs = true ↔ (∀ x ∈ ss, secB x = true) /\ (∀ x ∈ cs, wrB ss.length x = true) /\ badB ss.length bs = true /\ inB ss.length 1 20 = true /\ cs.length <= 60 := by
 unfold memB
 simp only [Bool.and_eq_true, List.all_eq_true, decide_eq_true_eq]

theorem memB_flush {ss : List (List Int)} {cs : List (Int × List Int)} {bs : List Int} (h : memB ss cs bs = true) (ks : List (Int × List Int)) (hk : ∀ x ∈ ks, x ∈ cs) : memB (flushD ss ks) [] bs = true := by
 obtain ⟨h1, h2, h3, h4, _⟩ := (memB_iff _ _ _).1 h
 rw [memB_iff, flushD_length]
 refine ⟨fun x hx => ?_, by simp, h3, h4, by simp⟩
 unfold flushD at hx
 obtain ⟨k, hkr, rfl⟩ := List.mem_map.1 hx
 have hkl : k < ss.length := List.mem_range.1 hkr
 cases hl : lastW ks (k : Int) with
 | some zs =>
  have h5 := h2 _ (hk _ (lastW_mem hl))
  unfold wrB at h5
  simp only [Bool.and_eq_true] at h5
  exact h5.2
 | none => exact h1 _ (List.mem_of_getElem? (getD_some hkl))

theorem memB_write {ss : List (List Int)} {cs : List (Int × List Int)} {f : Bool} {bs : List Int} {n : Int} {sw : List Int} (h : wrOk ss cs f bs n sw = true) : memB ss (cs ++ [(n, sw)]) (filt bs n) = true := by
 unfold wrOk at h
 simp only [Bool.and_eq_true, decide_eq_true_eq] at h
 obtain ⟨hM, _, hI, hS, hL⟩ := h
 obtain ⟨h1, h2, h3, h4, _⟩ := (memB_iff _ _ _).1 hM
 rw [memB_iff]
 refine ⟨h1, fun x hx => ?_, ?_, h4, by rw [List.length_append]; simp; omega⟩
 . rcases List.mem_append.1 hx with hx | hx
   . exact h2 x hx
   . simp at hx
     subst hx
     unfold wrB
     rw [hI, hS]
     rfl
 . rw [badB_iff] at h3 ⊢
   exact ⟨fun x hx => h3.1 x (List.mem_filter.1 hx).1, h3.2.filter _⟩

def memZ : MemD := ([], [], false, [])
def opB (x : ArrN) : Bool := !x.down && !decide (x.fuse = 0)
def opX (x : ArrN) : ArrN := if x.down = true then x else if x.fuse = 0 then {x with down := true, fuse := -1} else if 0 < x.fuse then {x with fuse := x.fuse - 1} else x
def wrM (d : MemD) (n : Int) (s : List Int) : MemD := (d.1, wrCS d.1 d.2.1 d.2.2.1 d.2.2.2 n s, d.2.2.1, wrBS d.1 d.2.1 d.2.2.1 d.2.2.2 n s)
def flM (d : MemD) : MemD := (flSS d.1 d.2.1 d.2.2.1 d.2.2.2, flCS d.1 d.2.1 d.2.2.1 d.2.2.2, d.2.2.1, d.2.2.2)
def doS (q : ArrN × List MemD) (i : Nat) (f : MemD -> MemD) : ArrN × List MemD :=
 if (q.2.getD i memZ).2.2.1 = true then q else if opB q.1 = true then (opX q.1, q.2.set i (f (q.2.getD i memZ))) else (opX q.1, q.2)
def putS (q : ArrN × List MemD) (i : Nat) (n : Int) (s : List Int) : ArrN × List MemD := doS q i fun d => wrM d n s
def syncS (q : ArrN × List MemD) (j : Nat) : ArrN × List MemD := (List.range j).foldl (fun q i => doS q i flM) q
def supA (x : ArrN) (i : Nat) : Sup := ⟨x.id, x.gen, (i : Int), x.n, x.s, x.tail, x.lost, x.built⟩
def supsS (q : ArrN × List MemD) (j : Nat) : ArrN × List MemD := (List.range j).foldl (fun q i => putS q i (q.1.gen % 2) (putD (supA q.1 i))) q
def markS (q : ArrN × List MemD) : ArrN × List MemD := syncS (supsS ({q.1 with gen := q.1.gen + 1}, q.2) q.2.length) q.2.length
def checkS (q : ArrN × List MemD) : ArrN × List MemD := if (syncS q q.2.length).1.down = true then syncS q q.2.length else markS ({(syncS q q.2.length).1 with tail := (syncS q q.2.length).1.seq}, (syncS q q.2.length).2)

def MsOk (ms : List MemD) : Prop := ∀ (i : Nat) (d : MemD), ms[i]? = some d -> memB d.1 d.2.1 d.2.2.2 = true

def SameN (x y : ArrN) : Prop := y.id = x.id /\ y.n = x.n /\ y.s = x.s /\ y.lost = x.lost /\ y.built = x.built /\ y.seq = x.seq /\ y.tail = x.tail /\ y.gen = x.gen /\ y.broken = x.broken /\ y.fuse <= 1000 /\ (-1 <= x.fuse -> -1 <= y.fuse)
theorem SameN.refl {x : ArrN} (h : x.fuse <= 1000) : SameN x x := ⟨rfl, rfl, rfl, rfl, rfl, rfl, rfl, rfl, rfl, h, fun h => h⟩
theorem SameN.trans {x y z : ArrN} (h : SameN x y) (k : SameN y z) : SameN x z := by
 obtain ⟨a1, a2, a3, a4, a5, a6, a7, a8, a9, _, b⟩ := h
 obtain ⟨c1, c2, c3, c4, c5, c6, c7, c8, c9, c10, d⟩ := k
 exact ⟨c1.trans a1, c2.trans a2, c3.trans a3, c4.trans a4, c5.trans a5, c6.trans a6, c7.trans a7, c8.trans a8, c9.trans a9, c10, fun h => d (b h)⟩
theorem opX_same {x : ArrN} (h : x.fuse <= 1000) : SameN x (opX x) := by
 unfold opX
 split
 . exact SameN.refl h
 . split
   . exact ⟨rfl, rfl, rfl, rfl, rfl, rfl, rfl, rfl, rfl, by dsimp only; omega, fun _ => by dsimp only; omega⟩
   . split
     . exact ⟨rfl, rfl, rfl, rfl, rfl, rfl, rfl, rfl, rfl, by dsimp only; omega, fun _ => by dsimp only; omega⟩
     . exact SameN.refl h
theorem getD_at {ms : List MemD} {i : Nat} {d : MemD} (h : ms[i]? = some d) : ms.getD i memZ = d := by rw [List.getD_eq_getElem?_getD, h]; rfl
theorem doS_failed {q : ArrN × List MemD} {i : Nat} {d : MemD} {f : MemD -> MemD} (h : q.2[i]? = some d) (hf : d.2.2.1 = true) : doS q i f = q := by unfold doS; rw [getD_at h, if_pos hf]
theorem doS_no {q : ArrN × List MemD} {i : Nat} {d : MemD} {f : MemD -> MemD} (h : q.2[i]? = some d) (hf : d.2.2.1 = false) (ho : opB q.1 = false) : doS q i f = (opX q.1, q.2) := by unfold doS; rw [getD_at h, if_neg (by simp [hf]), if_neg (by simp [ho])]
theorem doS_yes {q : ArrN × List MemD} {i : Nat} {d : MemD} {f : MemD -> MemD} (h : q.2[i]? = some d) (hf : d.2.2.1 = false) (ho : opB q.1 = true) : doS q i f = (opX q.1, q.2.set i (f d)) := by unfold doS; rw [getD_at h, if_neg (by simp [hf]), if_pos ho]
theorem doS_len (q : ArrN × List MemD) (i : Nat) (f : MemD -> MemD) : (doS q i f).2.length = q.2.length := by
 unfold doS
 split
 . rfl
 . split
   . exact List.length_set
   . rfl
theorem doS_same {q : ArrN × List MemD} (i : Nat) (f : MemD -> MemD) (h : q.1.fuse <= 1000) : SameN q.1 (doS q i f).1 := by
 unfold doS
 split
 . exact SameN.refl h
 . split <;> exact opX_same h
theorem MsOk.set {ms : List MemD} {i : Nat} {d : MemD} (h : MsOk ms) (hd : memB d.1 d.2.1 d.2.2.2 = true) : MsOk (ms.set i d) := by
 intro k e he
 by_cases hk : k = i
 . subst hk
   by_cases hl : k < ms.length
   . rw [List.getElem?_set_self hl] at he
     simp at he
     subst he
     exact hd
   . rw [List.getElem?_eq_none (by rw [List.length_set]; omega)] at he
     cases he
 . rw [List.getElem?_set_ne (fun e => hk e.symm)] at he
   exact h k e he
theorem doS_ok {q : ArrN × List MemD} {i : Nat} {f : MemD -> MemD} (h : MsOk q.2) (hf : ∀ d : MemD, memB d.1 d.2.1 d.2.2.2 = true -> memB (f d).1 (f d).2.1 (f d).2.2.2 = true) : MsOk (doS q i f).2 := by
 unfold doS
 split
 . exact h
 . split
   . cases hd : q.2[i]? with
     | none =>
      rw [List.set_eq_of_length_le (by rw [List.getElem?_eq_none_iff] at hd; exact hd)]
      exact h
     | some d => rw [getD_at hd]; exact h.set (hf d (h i d hd))
   . exact h
theorem wrM_ok (n : Int) (s : List Int) (d : MemD) (h : memB d.1 d.2.1 d.2.2.2 = true) : memB (wrM d n s).1 (wrM d n s).2.1 (wrM d n s).2.2.2 = true := by
 unfold wrM wrCS wrBS
 dsimp only
 by_cases hw : wrOk d.1 d.2.1 d.2.2.1 d.2.2.2 n s = true
 . rw [if_pos hw, if_pos hw]
   exact memB_write hw
 . rw [if_neg hw, if_neg hw]
   exact h
theorem flM_ok (d : MemD) (h : memB d.1 d.2.1 d.2.2.2 = true) : memB (flM d).1 (flM d).2.1 (flM d).2.2.2 = true := by
 unfold flM flSS flCS
 dsimp only
 by_cases hw : (memB d.1 d.2.1 d.2.2.2 && !d.2.2.1) = true
 . rw [if_pos hw, if_pos hw]
   exact memB_flush h d.2.1 (fun _ h => h)
 . rw [if_neg hw, if_neg hw]
   exact h
theorem putS_ok {q : ArrN × List MemD} {i : Nat} {n : Int} {s : List Int} (h : MsOk q.2) : MsOk (putS q i n s).2 := doS_ok h (wrM_ok n s)
theorem syncS_succ (q : ArrN × List MemD) (j : Nat) : syncS q (j + 1) = doS (syncS q j) j flM := by unfold syncS; rw [List.range_succ, List.foldl_append]; rfl
theorem syncS_keeps {q : ArrN × List MemD} (h : MsOk q.2) (hf : q.1.fuse <= 1000) : ∀ j, MsOk (syncS q j).2 /\ SameN q.1 (syncS q j).1 /\ (syncS q j).2.length = q.2.length
 | 0 => ⟨h, SameN.refl hf, rfl⟩
 | j + 1 => by
  obtain ⟨h1, h2, h3⟩ := syncS_keeps h hf j
  rw [syncS_succ]
  exact ⟨doS_ok h1 flM_ok, h2.trans (doS_same _ _ h2.2.2.2.2.2.2.2.2.2.1), by rw [doS_len]; exact h3⟩
theorem supsS_succ (q : ArrN × List MemD) (j : Nat) : supsS q (j + 1) = putS (supsS q j) j ((supsS q j).1.gen % 2) (putD (supA (supsS q j).1 j)) := by unfold supsS; rw [List.range_succ, List.foldl_append]; rfl
theorem supsS_keeps {q : ArrN × List MemD} (h : MsOk q.2) (hf : q.1.fuse <= 1000) : ∀ j, MsOk (supsS q j).2 /\ SameN q.1 (supsS q j).1 /\ (supsS q j).2.length = q.2.length
 | 0 => ⟨h, SameN.refl hf, rfl⟩
 | j + 1 => by
  obtain ⟨h1, h2, h3⟩ := supsS_keeps h hf j
  rw [supsS_succ]
  exact ⟨putS_ok h1, h2.trans (doS_same _ _ h2.2.2.2.2.2.2.2.2.2.1), by unfold putS; rw [doS_len]; exact h3⟩
theorem bad_ge {n : Int} {bs : List Int} (h : badB n bs = true) : ∀ i : Nat, i < bs.length -> (i : Int) <= bs.getD i 0
 | 0, hi => by
  unfold badB at h
  have := (List.all_eq_true.1 h) 0 (List.mem_range.2 hi)
  unfold badAt inB at this
  simp at this
  have e : bs.getD 0 0 = bs[0]?.getD 0 := List.getD_eq_getElem?_getD ..
  rw [e]
  omega
 | i + 1, hi => by
  have h1 := bad_ge h i (by omega)
  unfold badB at h
  have h2 := (List.all_eq_true.1 h) (i + 1) (List.mem_range.2 hi)
  unfold badAt at h2
  simp only [Bool.and_eq_true, Bool.or_eq_true, decide_eq_true_eq] at h2
  rw [Nat.add_sub_cancel] at h2
  omega
theorem bad_len {n : Int} {bs : List Int} (h : badB n bs = true) : bs = [] ∨ (bs.length : Int) <= n := by
 by_cases h0 : bs.length = 0
 . exact .inl (List.length_eq_zero_iff.1 h0)
 . right
   have h1 := bad_ge h (bs.length - 1) (by omega)
   unfold badB at h
   have h2 := (List.all_eq_true.1 h) (bs.length - 1) (List.mem_range.2 (by omega))
   unfold badAt at h2
   simp only [Bool.and_eq_true] at h2
   have h3 := inB_iff.1 h2.1
   omega
theorem memB_light {ss : List (List Int)} {cs : List (Int × List Int)} {bs : List Int} (h : memB ss cs bs = true) (f : Bool) : wtMem (ss, cs, f, bs) <= 2000 := by
 have h1 := sumL_bound (ss.map List.length) 12 (fun x hx => by
  obtain ⟨y, hy, rfl⟩ := List.mem_map.1 hx
  exact (mem_small h).1 y hy)
 have h2 := sumL_bound (cs.map fun x => x.2.length) 12 (fun x hx => by
  obtain ⟨y, hy, rfl⟩ := List.mem_map.1 hx
  exact (mem_small h).2 y hy)
 have h3 := mem_secs h
 have h5 := h
 unfold memB at h5
 simp only [Bool.and_eq_true, decide_eq_true_eq] at h5
 have h4 : cs.length <= 60 := h5.2.2.2.2
 have h6 : bs.length <= 20 := by
  rcases bad_len h5.2.2.1 with h7 | h7
  . rw [h7]; simp
  . omega
 rw [List.length_map] at h1 h2
 unfold wtMem wtIntSS wtWrS
 simp only
 omega

theorem entsB_no {x : ArrN} {ds : List (Int × List Int)} {i : Nat} {d : Int × List Int} (hx : ds[i]? = some d) (h : entAt x ds i d = false) : entsB x ds = false := allIx_no hx h
theorem entAt_1 {x : ArrN} {ds : List (Int × List Int)} {i : Nat} {y : Int} {zs : List Int} (h : inB y 0 (x.s - 1) = false) : entAt x ds i (y, zs) = false := by unfold entAt; rw [h]; rfl
theorem entAt_2 {x : ArrN} {ds : List (Int × List Int)} {i : Nat} {y : Int} {zs : List Int} (h : ¬ (zs.length : Int) = x.n - 1) : entAt x ds i (y, zs) = false := by unfold entAt; simp [h]
theorem entAt_3 {x : ArrN} {ds : List (Int × List Int)} {i : Nat} {y : Int} {zs : List Int} (h : allW zs = false) : entAt x ds i (y, zs) = false := by unfold entAt; simp [h]
theorem entAt_4 {x : ArrN} {ds : List (Int × List Int)} {y : Int} {zs : List Int} (h1 : inB y 0 (x.s - 1) = true) (h2 : (zs.length : Int) = x.n - 1) (h3 : allW zs = true) : entAt x ds 0 (y, zs) = true := by unfold entAt; simp [h1, h2, h3]
theorem entAt_5 {x : ArrN} {ds : List (Int × List Int)} {p : Nat} {y : Int} {zs : List Int} {q : Int × List Int} (h1 : inB y 0 (x.s - 1) = true) (h2 : (zs.length : Int) = x.n - 1) (h3 : allW zs = true) (hq : ds[p]? = some q) : entAt x ds (p + 1) (y, zs) = decide (q.1 < y) := by
 unfold entAt
 rw [h1, h3]
 have : ds.getD (p + 1 - 1) (0, []) = q := by rw [Nat.add_sub_cancel, List.getD_eq_getElem?_getD, hq]; rfl
 simp only [h2, decide_true, Bool.true_and, this]
 simp

theorem l6Dirty_any (w : World) (G : TypeId) (x : ArrN) (am ad : Option Addr) (nm cm nd cd : Nat) (ds : List (Int × List Int)) (h0 : (tWrS G).Rd w [.slice ad nd cd] ds) (hw : wtWrS ds <= 2097152) (hg : geoB x.n x.s = true) :
 Calls Tryz.prog 133 #[.agg #[.int .i64 x.id, .int .i64 x.n, .int .i64 x.s, .slice am nm cm, .int .i64 x.lost, .int .i64 x.built, .int .i64 x.seq, .int .i64 x.tail, .int .i64 x.gen, .slice ad nd cd, .int .i64 x.fuse, .bool x.down, .bool x.broken]] w fun e w' => e = .returned (.bool (entsB x ds)) /\ Below w.heap.size w w' := by
 obtain ⟨hl, hc, hm⟩ := row_length h0
 obtain ⟨g1, g2, g3, g4⟩ := geoB_iff.1 hg
 have hA := new_below w (.cells #[.int .i64 x.id, .int .i64 x.n, .int .i64 x.s, .slice am nm cm, .int .i64 x.lost, .int .i64 x.built, .int .i64 x.seq, .int .i64 x.tail, .int .i64 x.gen, .slice ad nd cd, .int .i64 x.fuse, .bool x.down, .bool x.broken] 29)
 have X := Box.new w 29 #[.int .i64 x.id, .int .i64 x.n, .int .i64 x.s, .slice am nm cm, .int .i64 x.lost, .int .i64 x.built, .int .i64 x.seq, .int .i64 x.tail, .int .i64 x.gen, .slice ad nd cd, .int .i64 x.fuse, .bool x.down, .bool x.broken]
 have zA := X.lt
 have hnd : nd <= 2097152 := by unfold wtWrS at hw; omega
 have h1 := h0.below hA
 have hws : IntKind.i64.wrap (x.s - 1) = x.s - 1 := IntWalk.i64_in _ (by omega)
 have hwn : IntKind.i64.wrap (x.n - 1) = x.n - 1 := IntWalk.i64_in _ (by omega)
 go_enter Tryz.func133, Tryz.ntmps133
 go_wp2
 generalize w.alloc (.cells #[.int .i64 x.id, .int .i64 x.n, .int .i64 x.s, .slice am nm cm, .int .i64 x.lost, .int .i64 x.built, .int .i64 x.seq, .int .i64 x.tail, .int .i64 x.gen, .slice ad nd cd, .int .i64 x.fuse, .bool x.down, .bool x.broken] 29) = W at hA X zA h1 ⊢
 go_loopw [3] (fun i wr => ∃ j : Nat, j <= nd /\ i = .int .i64 j /\ (∀ (q : Nat) (d : Int × List Int), q < j -> ds[q]? = some d -> entAt x ds q d = true) /\ Below W.heap.size W wr) (fun i _ => nd - (intOf i).toNat)
 case atStart => exact ⟨0, Nat.zero_le _, rfl, fun q d hq => by omega, Below.refl _ _⟩
 case round =>
  obtain ⟨j, hj, rfl, hall, hb⟩ := hrel
  have Xr := X.below hb zA
  obtain ⟨k0, k1, k2, k3, k4, k5, k6, k7, k8, k9, k10, k11, k12⟩ := Xr.cells13
  by_cases hjn : j < nd
  . rcases pairs_at rfl h1 with h0' | ⟨b, off, rfl, hbl, hcs⟩
    . omega
    have hdj : ds[j]? = some (ds[j]'(by omega)) := List.getElem?_eq_getElem (by omega)
    generalize ds[j]'(by omega) = d at hdj
    obtain ⟨v0, v1, hv0, hv1, hrv⟩ := hcs j d hdj
    obtain ⟨rfl, hrw⟩ := wr_rd hrv
    obtain ⟨av, cv, rfl⟩ := row_shape hrw
    obtain ⟨y, zs⟩ := d
    simp only at hv0 hv1 hrw hrv
    have u0 := (hb.cell (p := ⟨b, off + j * 2, none⟩) hbl).trans hv0
    have u1 := (hb.cell (p := ⟨b, off + j * 2 + 1, none⟩) hbl).trans hv1
    have i1 : (0 : Int) <= (j : Int) := by omega
    have i2 : (j : Int) < (nd : Int) := by omega
    have hwz : zs.length <= 2097152 := Nat.le_trans (inner_le' hdj) hw
    have HDJ := hidden hdj
    have b1 := new_below wr (.cells #[.int .i64 y, .slice av zs.length cv] 86)
    have Y1 := Box.new wr 86 #[.int .i64 y, .slice av zs.length cv]
    have X1 := Xr.below b1 Xr.lt
    have RZ := (ints_rd ((hrw.below hb).below b1)).1
    have B1 := hb.trans (b1.mono hb.size)
    obtain ⟨y0, y1⟩ := Y1.cells2
    obtain ⟨e0, e1, e2, e3, e4, e5, e6, e7, e8, e9, e10, e11, e12⟩ := X1.cells13
    have hq : ∀ (p : Nat) (q : Int × List Int), ds[p]? = some q -> (wr.alloc (.cells #[.int .i64 y, .slice av zs.length cv] 86)).cell? ⟨b, off + p * 2, none⟩ = some (.int .i64 q.1) := fun p q hpq => by
     obtain ⟨c0, c1, hc0, hc1, hrc⟩ := hcs p q hpq
     obtain ⟨rfl, _⟩ := wr_rd hrc
     exact (B1.cell (p := ⟨b, off + p * 2, none⟩) hbl).trans hc0
    have HQ := hidden hq
    clear hcs hv0 hv1 hrv hrw hdj hq b1 e0 e3 e4 e5 e6 e7 e8 e10 e11 e12
    cases hI : inB y 0 (x.s - 1)
    . skip
      go_wp2_with fail
      generalize wr.alloc (.cells #[.int .i64 y, .slice av zs.length cv] 86) = w1 at X1 Y1 RZ B1 y0 y1 e1 e2 e9 HQ ⊢
      refine wp_region_held_drew (S := fun w' => w'.cell? ⟨wr.heap.size, 0, none⟩ = some (.int .i64 y) /\ w'.cell? ⟨wr.heap.size, 1, none⟩ = some (.slice av zs.length cv) /\ w'.cell? ⟨w.heap.size, 1, none⟩ = some (.int .i64 x.n) /\ w'.cell? ⟨w.heap.size, 2, none⟩ = some (.int .i64 x.s) /\ w'.cell? ⟨w.heap.size, 9, none⟩ = some (.slice (some ⟨b, off, none⟩) nd cd)) (by kernel_rfl) ?_ (fun hHeld => ?_)
      . exact ⟨y0, y1, e1, e2, e9⟩
      refine held_t 0 hHeld ?_
      refine held_t 1 hHeld ?_
      refine held_t 2 hHeld ?_
      refine held_t 3 hHeld ?_
      refine held_t 4 hHeld ?_
      refine held_t 5 hHeld ?_
      refine held_one (i := 6) (by kernel_rfl) rfl (by kernel_rfl) (fun K hK => ?_)
      go_simp
      refine (l1In_any _ _ _ _).mono ?_
      rintro e w2 ⟨rfl, hw2⟩
      subst hw2
      rw [hI]
      go_wp2_with fail
      clear hHeld
      refine hK.out _ _ ?_ (fun hHeld => ?_)
      . exact ⟨y0, y1, e1, e2, e9⟩
      clear hK K
      refine held_t 7 hHeld ?_
      refine held_t 8 hHeld ?_
      refine held_p 9 hHeld ?_
      refine held_p 10 hHeld ?_
      refine held_p 11 hHeld ?_
      refine held_p 12 hHeld ?_
      refine held_p 13 hHeld ?_
      refine held_p 14 hHeld ?_
      refine held_p 15 hHeld ?_
      refine held_p 16 hHeld ?_
      refine held_t 17 hHeld ?_
      refine held_t 18 hHeld ?_
      refine held_p 19 hHeld ?_
      refine held_p 20 hHeld ?_
      refine held_none (i := 21) (by kernel_rfl) rfl (by kernel_rfl) hHeld ?_
      simp only [Act.put, List.setIfInBounds_toArray, List.set_cons_zero, List.set_cons_succ]
      refine held_p 22 hHeld ?_
      refine held_t 23 hHeld ?_
      refine held_t 24 hHeld ?_
      refine held_p 25 hHeld ?_
      refine held_p 26 hHeld ?_
      refine held_p 27 hHeld ?_
      refine held_p 28 hHeld ?_
      refine held_p 29 hHeld ?_
      refine held_p 30 hHeld ?_
      refine held_p 31 hHeld ?_
      refine held_p 32 hHeld ?_
      refine held_p 33 hHeld ?_
      refine held_p 34 hHeld ?_
      refine held_p 35 hHeld ?_
      refine held_p 36 hHeld ?_
      refine held_p 37 hHeld ?_
      refine held_p 38 hHeld ?_
      refine held_t 39 hHeld ?_
      refine wpAnyH_done (by kernel_rfl) ?_ _
      clear hHeld
      have HB := hidden (hA.trans (B1.drew.mono hA.size))
      have HE := hidden (entsB_no (x := x) HDJ.out (entAt_1 hI))
      go_wp2
      go_ret
      exact ⟨ret_bool HE.out.symm, HB.out⟩
    . by_cases hL : (zs.length : Int) = x.n - 1
      . have hL1 : ((zs.length : Int) == x.n - 1) = true := by simpa using hL
        have hL2 : ((zs.length : Int) != x.n - 1) = false := by simpa using hL
        have HL := hidden hL
        clear hL
        cases hZ : allW zs
        . skip
          go_wp2_with fail
          generalize wr.alloc (.cells #[.int .i64 y, .slice av zs.length cv] 86) = w1 at X1 Y1 RZ B1 y0 y1 e1 e2 e9 HQ ⊢
          refine wp_region_held_drew (S := fun w' => w'.cell? ⟨wr.heap.size, 0, none⟩ = some (.int .i64 y) /\ w'.cell? ⟨wr.heap.size, 1, none⟩ = some (.slice av zs.length cv) /\ w'.cell? ⟨w.heap.size, 1, none⟩ = some (.int .i64 x.n) /\ w'.cell? ⟨w.heap.size, 2, none⟩ = some (.int .i64 x.s) /\ w'.cell? ⟨w.heap.size, 9, none⟩ = some (.slice (some ⟨b, off, none⟩) nd cd)) (by kernel_rfl) ?_ (fun hHeld => ?_)
          . exact ⟨y0, y1, e1, e2, e9⟩
          refine held_t 0 hHeld ?_
          refine held_t 1 hHeld ?_
          refine held_t 2 hHeld ?_
          refine held_t 3 hHeld ?_
          refine held_t 4 hHeld ?_
          refine held_t 5 hHeld ?_
          refine held_one (i := 6) (by kernel_rfl) rfl (by kernel_rfl) (fun K hK => ?_)
          go_simp
          refine (l1In_any _ _ _ _).mono ?_
          rintro e w2 ⟨rfl, hw2⟩
          subst hw2
          rw [hI]
          go_wp2_with fail
          clear hHeld
          refine hK.out _ _ ?_ (fun hHeld => ?_)
          . exact ⟨y0, y1, e1, e2, e9⟩
          clear hK K
          refine held_t 7 hHeld ?_
          refine held_t 8 hHeld ?_
          refine held_t 9 hHeld ?_
          refine held_t 10 hHeld ?_
          refine held_t 11 hHeld ?_
          refine held_t 12 hHeld ?_
          refine held_t 13 hHeld ?_
          refine held_t 14 hHeld ?_
          refine held_t 15 hHeld ?_
          refine held_t 16 hHeld ?_
          refine held_t 17 hHeld ?_
          refine held_t 18 hHeld ?_
          refine held_t 19 hHeld ?_
          refine held_t 20 hHeld ?_
          refine held_one (i := 21) (by kernel_rfl) rfl (by kernel_rfl) (fun K hK => ?_)
          go_simp
          refine (l1Words_any _ _ _ _ zs rfl RZ.draw hwz).mono ?_
          rintro e w2 ⟨rfl, hw2⟩
          subst hw2
          rw [hZ]
          go_wp2_with fail
          clear hHeld
          refine hK.out _ _ ?_ (fun hHeld => ?_)
          . exact ⟨y0, y1, e1, e2, e9⟩
          clear hK K
          refine held_t 22 hHeld ?_
          refine held_t 23 hHeld ?_
          refine held_t 24 hHeld ?_
          refine held_p 25 hHeld ?_
          refine held_p 26 hHeld ?_
          refine held_p 27 hHeld ?_
          refine held_p 28 hHeld ?_
          refine held_p 29 hHeld ?_
          refine held_p 30 hHeld ?_
          refine held_p 31 hHeld ?_
          refine held_p 32 hHeld ?_
          refine held_p 33 hHeld ?_
          refine held_p 34 hHeld ?_
          refine held_p 35 hHeld ?_
          refine held_p 36 hHeld ?_
          refine held_p 37 hHeld ?_
          refine held_p 38 hHeld ?_
          refine held_t 39 hHeld ?_
          refine wpAnyH_done (by kernel_rfl) ?_ _
          clear hHeld
          have HB := hidden (hA.trans (B1.drew.mono hA.size))
          have HE := hidden (entsB_no (x := x) HDJ.out (entAt_3 hZ))
          go_wp2
          go_ret
          exact ⟨ret_bool HE.out.symm, HB.out⟩
        . by_cases hj0 : j = 0
          . subst hj0
            simp only [Nat.zero_mul, Nat.add_zero] at u0 u1
            go_wp2_with fail
            generalize wr.alloc (.cells #[.int .i64 y, .slice av zs.length cv] 86) = w1 at X1 Y1 RZ B1 y0 y1 e1 e2 e9 HQ ⊢
            refine wp_region_held_drew (S := fun w' => w'.cell? ⟨wr.heap.size, 0, none⟩ = some (.int .i64 y) /\ w'.cell? ⟨wr.heap.size, 1, none⟩ = some (.slice av zs.length cv) /\ w'.cell? ⟨w.heap.size, 1, none⟩ = some (.int .i64 x.n) /\ w'.cell? ⟨w.heap.size, 2, none⟩ = some (.int .i64 x.s) /\ w'.cell? ⟨w.heap.size, 9, none⟩ = some (.slice (some ⟨b, off, none⟩) nd cd)) (by kernel_rfl) ?_ (fun hHeld => ?_)
            . exact ⟨y0, y1, e1, e2, e9⟩
            refine held_t 0 hHeld ?_
            refine held_t 1 hHeld ?_
            refine held_t 2 hHeld ?_
            refine held_t 3 hHeld ?_
            refine held_t 4 hHeld ?_
            refine held_t 5 hHeld ?_
            refine held_one (i := 6) (by kernel_rfl) rfl (by kernel_rfl) (fun K hK => ?_)
            go_simp
            refine (l1In_any _ _ _ _).mono ?_
            rintro e w2 ⟨rfl, hw2⟩
            subst hw2
            rw [hI]
            go_wp2_with fail
            clear hHeld
            refine hK.out _ _ ?_ (fun hHeld => ?_)
            . exact ⟨y0, y1, e1, e2, e9⟩
            clear hK K
            refine held_t 7 hHeld ?_
            refine held_t 8 hHeld ?_
            refine held_t 9 hHeld ?_
            refine held_t 10 hHeld ?_
            refine held_t 11 hHeld ?_
            refine held_t 12 hHeld ?_
            refine held_t 13 hHeld ?_
            refine held_t 14 hHeld ?_
            refine held_t 15 hHeld ?_
            refine held_t 16 hHeld ?_
            refine held_t 17 hHeld ?_
            refine held_t 18 hHeld ?_
            refine held_t 19 hHeld ?_
            refine held_t 20 hHeld ?_
            refine held_one (i := 21) (by kernel_rfl) rfl (by kernel_rfl) (fun K hK => ?_)
            go_simp
            refine (l1Words_any _ _ _ _ zs rfl RZ.draw hwz).mono ?_
            rintro e w2 ⟨rfl, hw2⟩
            subst hw2
            rw [hZ]
            go_wp2_with fail
            clear hHeld
            refine hK.out _ _ ?_ (fun hHeld => ?_)
            . exact ⟨y0, y1, e1, e2, e9⟩
            clear hK K
            refine held_t 22 hHeld ?_
            refine held_t 23 hHeld ?_
            refine held_t 24 hHeld ?_
            refine held_t 25 hHeld ?_
            refine held_t 26 hHeld ?_
            refine held_t 27 hHeld ?_
            refine held_p 28 hHeld ?_
            refine held_p 29 hHeld ?_
            refine held_p 30 hHeld ?_
            refine held_p 31 hHeld ?_
            refine held_p 32 hHeld ?_
            refine held_p 33 hHeld ?_
            refine held_p 34 hHeld ?_
            refine held_p 35 hHeld ?_
            refine held_p 36 hHeld ?_
            refine held_p 37 hHeld ?_
            refine held_t 38 hHeld ?_
            refine held_t 39 hHeld ?_
            refine wpAnyH_done (by kernel_rfl) ?_ _
            clear hHeld
            have HB := hidden B1.drew
            have hat : entAt x ds (0) (y, zs) = true := entAt_4 hI HL.out hZ
            go_wp2
            go_roundw
            case rel => exact ⟨0 + 1, by omega, by go_num, fun q d hq hm' => by
             rcases Nat.lt_or_ge q (0) with h | h
             . exact hall q d h hm'
             . obtain rfl : q = 0 := by omega
               rw [HDJ.out] at hm'
               cases hm'
               exact hat, HB.out⟩
            case measure => simp [intOf]; omega
          . obtain ⟨p, rfl⟩ : ∃ p, j = p + 1 := ⟨j - 1, by omega⟩
            have hpq : ds[p]? = some (ds[p]'(by omega)) := List.getElem?_eq_getElem (by omega)
            generalize ds[p]'(by omega) = q at hpq
            have hE := entAt_5 hI HL.out hZ hpq
            have qc := HQ.out p q hpq
            obtain ⟨s, zq⟩ := q
            simp only at qc hE
            have HE5 := hidden hE
            clear hpq hE
            have j1 : IntKind.i64.wrap (((p + 1 : Nat) : Int) - 1) = (p : Int) := by rw [IntWalk.i64_in _ (by omega)]; omega
            have j2 : IntKind.i64.wrap ((p : Int) + 1 - 1) = (p : Int) := by rw [IntWalk.i64_in _ (by omega)]; omega
            have j3 : IntKind.i64.wrap (p : Int) = (p : Int) := IntWalk.i64_in _ (by omega)
            have j4 : (0 : Int) <= (p : Int) := by omega
            have j5 : (p : Int) < (nd : Int) := by omega
            have j6 : (0 : Int) < ((p + 1 : Nat) : Int) := by omega
            by_cases hlt : s < y
            . have hd1 : decide (s < y) = true := by simpa using hlt
              have hge : ¬ y <= s := by omega
              go_wp2_with fail
              generalize wr.alloc (.cells #[.int .i64 y, .slice av zs.length cv] 86) = w1 at X1 Y1 RZ B1 y0 y1 e1 e2 e9 HQ qc ⊢
              refine wp_region_held_drew (S := fun w' => w'.cell? ⟨wr.heap.size, 0, none⟩ = some (.int .i64 y) /\ w'.cell? ⟨wr.heap.size, 1, none⟩ = some (.slice av zs.length cv) /\ w'.cell? ⟨w.heap.size, 1, none⟩ = some (.int .i64 x.n) /\ w'.cell? ⟨w.heap.size, 2, none⟩ = some (.int .i64 x.s) /\ w'.cell? ⟨w.heap.size, 9, none⟩ = some (.slice (some ⟨b, off, none⟩) nd cd) /\ w'.cell? ⟨b, off + p * 2, none⟩ = some (.int .i64 s)) (by kernel_rfl) ?_ (fun hHeld => ?_)
              . exact ⟨y0, y1, e1, e2, e9, qc⟩
              refine held_t 0 hHeld ?_
              refine held_t 1 hHeld ?_
              refine held_t 2 hHeld ?_
              refine held_t 3 hHeld ?_
              refine held_t 4 hHeld ?_
              refine held_t 5 hHeld ?_
              refine held_one (i := 6) (by kernel_rfl) rfl (by kernel_rfl) (fun K hK => ?_)
              go_simp
              refine (l1In_any _ _ _ _).mono ?_
              rintro e w2 ⟨rfl, hw2⟩
              subst hw2
              rw [hI]
              go_wp2_with fail
              clear hHeld
              refine hK.out _ _ ?_ (fun hHeld => ?_)
              . exact ⟨y0, y1, e1, e2, e9, qc⟩
              clear hK K
              refine held_t 7 hHeld ?_
              refine held_t 8 hHeld ?_
              refine held_t 9 hHeld ?_
              refine held_t 10 hHeld ?_
              refine held_t 11 hHeld ?_
              refine held_t 12 hHeld ?_
              refine held_t 13 hHeld ?_
              refine held_t 14 hHeld ?_
              refine held_t 15 hHeld ?_
              refine held_t 16 hHeld ?_
              refine held_t 17 hHeld ?_
              refine held_t 18 hHeld ?_
              refine held_t 19 hHeld ?_
              refine held_t 20 hHeld ?_
              refine held_one (i := 21) (by kernel_rfl) rfl (by kernel_rfl) (fun K hK => ?_)
              go_simp
              refine (l1Words_any _ _ _ _ zs rfl RZ.draw hwz).mono ?_
              rintro e w2 ⟨rfl, hw2⟩
              subst hw2
              rw [hZ]
              go_wp2_with fail
              clear hHeld
              refine hK.out _ _ ?_ (fun hHeld => ?_)
              . exact ⟨y0, y1, e1, e2, e9, qc⟩
              clear hK K
              refine held_t 22 hHeld ?_
              refine held_t 23 hHeld ?_
              refine held_t 24 hHeld ?_
              refine held_t 25 hHeld ?_
              refine held_t 26 hHeld ?_
              refine held_t 27 hHeld ?_
              refine held_t 28 hHeld ?_
              refine held_t 29 hHeld ?_
              refine held_t 30 hHeld ?_
              refine held_t 31 hHeld ?_
              refine held_t 32 hHeld ?_
              refine held_t 33 hHeld ?_
              refine held_t 34 hHeld ?_
              refine held_t 35 hHeld ?_
              refine held_t 36 hHeld ?_
              refine held_t 37 hHeld ?_
              refine held_t 38 hHeld ?_
              refine held_t 39 hHeld ?_
              refine wpAnyH_done (by kernel_rfl) ?_ _
              clear hHeld
              have HB := hidden B1.drew
              have hat : entAt x ds (p + 1) (y, zs) = true := HE5.out.trans hd1
              go_wp2
              go_roundw
              case rel => exact ⟨p + 1 + 1, by omega, by go_num, fun q d hq hm' => by
               rcases Nat.lt_or_ge q (p + 1) with h | h
               . exact hall q d h hm'
               . obtain rfl : q = p + 1 := by omega
                 rw [HDJ.out] at hm'
                 cases hm'
                 exact hat, HB.out⟩
              case measure => simp [intOf]; omega
            . have hd1 : decide (s < y) = false := by simpa using hlt
              have hge : y <= s := by omega
              go_wp2_with fail
              generalize wr.alloc (.cells #[.int .i64 y, .slice av zs.length cv] 86) = w1 at X1 Y1 RZ B1 y0 y1 e1 e2 e9 HQ qc ⊢
              refine wp_region_held_drew (S := fun w' => w'.cell? ⟨wr.heap.size, 0, none⟩ = some (.int .i64 y) /\ w'.cell? ⟨wr.heap.size, 1, none⟩ = some (.slice av zs.length cv) /\ w'.cell? ⟨w.heap.size, 1, none⟩ = some (.int .i64 x.n) /\ w'.cell? ⟨w.heap.size, 2, none⟩ = some (.int .i64 x.s) /\ w'.cell? ⟨w.heap.size, 9, none⟩ = some (.slice (some ⟨b, off, none⟩) nd cd) /\ w'.cell? ⟨b, off + p * 2, none⟩ = some (.int .i64 s)) (by kernel_rfl) ?_ (fun hHeld => ?_)
              . exact ⟨y0, y1, e1, e2, e9, qc⟩
              refine held_t 0 hHeld ?_
              refine held_t 1 hHeld ?_
              refine held_t 2 hHeld ?_
              refine held_t 3 hHeld ?_
              refine held_t 4 hHeld ?_
              refine held_t 5 hHeld ?_
              refine held_one (i := 6) (by kernel_rfl) rfl (by kernel_rfl) (fun K hK => ?_)
              go_simp
              refine (l1In_any _ _ _ _).mono ?_
              rintro e w2 ⟨rfl, hw2⟩
              subst hw2
              rw [hI]
              go_wp2_with fail
              clear hHeld
              refine hK.out _ _ ?_ (fun hHeld => ?_)
              . exact ⟨y0, y1, e1, e2, e9, qc⟩
              clear hK K
              refine held_t 7 hHeld ?_
              refine held_t 8 hHeld ?_
              refine held_t 9 hHeld ?_
              refine held_t 10 hHeld ?_
              refine held_t 11 hHeld ?_
              refine held_t 12 hHeld ?_
              refine held_t 13 hHeld ?_
              refine held_t 14 hHeld ?_
              refine held_t 15 hHeld ?_
              refine held_t 16 hHeld ?_
              refine held_t 17 hHeld ?_
              refine held_t 18 hHeld ?_
              refine held_t 19 hHeld ?_
              refine held_t 20 hHeld ?_
              refine held_one (i := 21) (by kernel_rfl) rfl (by kernel_rfl) (fun K hK => ?_)
              go_simp
              refine (l1Words_any _ _ _ _ zs rfl RZ.draw hwz).mono ?_
              rintro e w2 ⟨rfl, hw2⟩
              subst hw2
              rw [hZ]
              go_wp2_with fail
              clear hHeld
              refine hK.out _ _ ?_ (fun hHeld => ?_)
              . exact ⟨y0, y1, e1, e2, e9, qc⟩
              clear hK K
              refine held_t 22 hHeld ?_
              refine held_t 23 hHeld ?_
              refine held_t 24 hHeld ?_
              refine held_t 25 hHeld ?_
              refine held_t 26 hHeld ?_
              refine held_t 27 hHeld ?_
              refine held_t 28 hHeld ?_
              refine held_t 29 hHeld ?_
              refine held_t 30 hHeld ?_
              refine held_t 31 hHeld ?_
              refine held_t 32 hHeld ?_
              refine held_t 33 hHeld ?_
              refine held_t 34 hHeld ?_
              refine held_t 35 hHeld ?_
              refine held_t 36 hHeld ?_
              refine held_t 37 hHeld ?_
              refine held_t 38 hHeld ?_
              refine held_t 39 hHeld ?_
              refine wpAnyH_done (by kernel_rfl) ?_ _
              clear hHeld
              have HB := hidden (hA.trans (B1.drew.mono hA.size))
              have HE := hidden (entsB_no (x := x) HDJ.out (HE5.out.trans hd1))
              go_wp2
              go_ret
              exact ⟨ret_bool HE.out.symm, HB.out⟩
      . have hL1 : ((zs.length : Int) == x.n - 1) = false := by simpa using hL
        have hL2 : ((zs.length : Int) != x.n - 1) = true := by simpa using hL
        have HL := hidden hL
        clear hL
        go_wp2_with fail
        generalize wr.alloc (.cells #[.int .i64 y, .slice av zs.length cv] 86) = w1 at X1 Y1 RZ B1 y0 y1 e1 e2 e9 HQ ⊢
        refine wp_region_held_drew (S := fun w' => w'.cell? ⟨wr.heap.size, 0, none⟩ = some (.int .i64 y) /\ w'.cell? ⟨wr.heap.size, 1, none⟩ = some (.slice av zs.length cv) /\ w'.cell? ⟨w.heap.size, 1, none⟩ = some (.int .i64 x.n) /\ w'.cell? ⟨w.heap.size, 2, none⟩ = some (.int .i64 x.s) /\ w'.cell? ⟨w.heap.size, 9, none⟩ = some (.slice (some ⟨b, off, none⟩) nd cd)) (by kernel_rfl) ?_ (fun hHeld => ?_)
        . exact ⟨y0, y1, e1, e2, e9⟩
        refine held_t 0 hHeld ?_
        refine held_t 1 hHeld ?_
        refine held_t 2 hHeld ?_
        refine held_t 3 hHeld ?_
        refine held_t 4 hHeld ?_
        refine held_t 5 hHeld ?_
        refine held_one (i := 6) (by kernel_rfl) rfl (by kernel_rfl) (fun K hK => ?_)
        go_simp
        refine (l1In_any _ _ _ _).mono ?_
        rintro e w2 ⟨rfl, hw2⟩
        subst hw2
        rw [hI]
        go_wp2_with fail
        clear hHeld
        refine hK.out _ _ ?_ (fun hHeld => ?_)
        . exact ⟨y0, y1, e1, e2, e9⟩
        clear hK K
        refine held_t 7 hHeld ?_
        refine held_t 8 hHeld ?_
        refine held_t 9 hHeld ?_
        refine held_t 10 hHeld ?_
        refine held_t 11 hHeld ?_
        refine held_t 12 hHeld ?_
        refine held_t 13 hHeld ?_
        refine held_t 14 hHeld ?_
        refine held_t 15 hHeld ?_
        refine held_t 16 hHeld ?_
        refine held_t 17 hHeld ?_
        refine held_t 18 hHeld ?_
        refine held_p 19 hHeld ?_
        refine held_p 20 hHeld ?_
        refine held_none (i := 21) (by kernel_rfl) rfl (by kernel_rfl) hHeld ?_
        simp only [Act.put, List.setIfInBounds_toArray, List.set_cons_zero, List.set_cons_succ]
        refine held_p 22 hHeld ?_
        refine held_t 23 hHeld ?_
        refine held_t 24 hHeld ?_
        refine held_p 25 hHeld ?_
        refine held_p 26 hHeld ?_
        refine held_p 27 hHeld ?_
        refine held_p 28 hHeld ?_
        refine held_p 29 hHeld ?_
        refine held_p 30 hHeld ?_
        refine held_p 31 hHeld ?_
        refine held_p 32 hHeld ?_
        refine held_p 33 hHeld ?_
        refine held_p 34 hHeld ?_
        refine held_p 35 hHeld ?_
        refine held_p 36 hHeld ?_
        refine held_p 37 hHeld ?_
        refine held_p 38 hHeld ?_
        refine held_t 39 hHeld ?_
        refine wpAnyH_done (by kernel_rfl) ?_ _
        clear hHeld
        have HB := hidden (hA.trans (B1.drew.mono hA.size))
        have HE := hidden (entsB_no (x := x) HDJ.out (entAt_2 HL.out))
        go_wp2
        go_ret
        exact ⟨ret_bool HE.out.symm, HB.out⟩
  . have ej : j = nd := by omega
    subst ej
    have hAll : entsB x ds = true := allIx_iff.2 (fun q d hq => hall q d (by have := (List.getElem?_eq_some_iff.1 hq).1; omega) hq)
    have HB := hidden (hA.trans (hb.mono hA.size))
    go_wp2
    go_ret
    exact ⟨ret_bool hAll.symm, HB.out⟩

def liveB (x : ArrN) (ms : List MemD) (m s : Int) : Bool := inB m 0 ((ms.length : Int) - 1) && (!(ms.getD m.toNat ([], [], false, [])).2.2.1 && (!decide (m = x.lost) || decide (s < x.built)))

theorem specArrOk_any (w : World) (E F G : TypeId) (x : ArrN) (am ad : Option Addr) (nm cm nd cd : Nat) (ms : List MemD) (ds : List (Int × List Int)) (h0 : (tMemS E F).Rd w [.slice am nm cm] ms) (h1 : (tWrS G).Rd w [.slice ad nd cd] ds) (hw : wtArr ms ds <= 2097152) :
 Calls Tryz.prog 63 #[.agg #[.int .i64 x.id, .int .i64 x.n, .int .i64 x.s, .slice am nm cm, .int .i64 x.lost, .int .i64 x.built, .int .i64 x.seq, .int .i64 x.tail, .int .i64 x.gen, .slice ad nd cd, .int .i64 x.fuse, .bool x.down, .bool x.broken]] w fun e w' => e = .returned (.bool (arrB x ms ds)) /\ Below w.heap.size w w' := by
 have hwm : wtMemS ms <= 2097152 := by unfold wtArr at hw; omega
 have hwd : wtWrS ds <= 2097152 := by unfold wtArr at hw; omega
 have hA := new_below w (.cells #[.int .i64 x.id, .int .i64 x.n, .int .i64 x.s, .slice am nm cm, .int .i64 x.lost, .int .i64 x.built, .int .i64 x.seq, .int .i64 x.tail, .int .i64 x.gen, .slice ad nd cd, .int .i64 x.fuse, .bool x.down, .bool x.broken] 29)
 have X := Box.new w 29 #[.int .i64 x.id, .int .i64 x.n, .int .i64 x.s, .slice am nm cm, .int .i64 x.lost, .int .i64 x.built, .int .i64 x.seq, .int .i64 x.tail, .int .i64 x.gen, .slice ad nd cd, .int .i64 x.fuse, .bool x.down, .bool x.broken]
 obtain ⟨k0, k1, k2, k3, k4, k5, k6, k7, k8, k9, k10, k11, k12⟩ := X.cells13
 have zA := X.lt
 have r0 := h0.below hA
 have r1 := h1.below hA
 go_enter Tryz.func63, Tryz.ntmps63
 go_wp2_with fail
 generalize w.alloc (.cells #[.int .i64 x.id, .int .i64 x.n, .int .i64 x.s, .slice am nm cm, .int .i64 x.lost, .int .i64 x.built, .int .i64 x.seq, .int .i64 x.tail, .int .i64 x.gen, .slice ad nd cd, .int .i64 x.fuse, .bool x.down, .bool x.broken] 29) = W at hA X zA r0 r1 k0 k1 k2 k3 k4 k5 k6 k7 k8 k9 k10 k11 k12 ⊢
 refine (specGeoOk_any _ _ _).mono ?_
 rintro e w1 ⟨rfl, b1⟩
 have X1 := X.below b1 X.lt
 have B1 := Below.andThen hA b1
 have q1 := r0.below b1
 have t1 := r1.below b1
 clear k0 k1 k2 k3 k4 k5 k6 k7 k8 k9 k10 k11 k12 b1 hA X r0 r1
 obtain ⟨k0, k1, k2, k3, k4, k5, k6, k7, k8, k9, k10, k11, k12⟩ := X1.cells13
 cases hg : geoB x.n x.s
 . skip
   have HF : Hid (arrB x ms ds = false) := by unfold Hid arrB; simp [hg]
   go_wp2
   go_ret
   exact ⟨ret_bool HF.out.symm, B1⟩
 . obtain ⟨g1, g2, g3, g4⟩ := geoB_iff.1 hg
   have hws : IntKind.i64.wrap (x.n - 1) = x.n - 1 := IntWalk.i64_in _ (by omega)
   go_wp2_with fail
   refine (l1In_any _ _ _ _).mono ?_
   rintro e wq ⟨rfl, hq⟩
   obtain rfl := hq.symm
   cases hid : inB x.id 1 60000
   . skip
     have HF : Hid (arrB x ms ds = false) := by unfold Hid arrB; simp [hid]
     go_wp2
     go_ret
     exact ⟨ret_bool HF.out.symm, B1⟩
   . skip
     go_wp2_with fail
     refine (l6Mems_any _ E F x _ _ _ _ _ _ ms q1 hwm hg).mono ?_
     rintro e w2 ⟨rfl, b2⟩
     have X2 := X1.below b2 X1.lt
     have B2 := Below.andThen B1 b2
     have q2 := q1.below b2
     have t2 := t1.below b2
     clear k0 k1 k2 k3 k4 k5 k6 k7 k8 k9 k10 k11 k12 b2 B1 X1 q1 t1
     obtain ⟨k0, k1, k2, k3, k4, k5, k6, k7, k8, k9, k10, k11, k12⟩ := X2.cells13
     cases hms : memsB x ms
     . skip
       have HF : Hid (arrB x ms ds = false) := by unfold Hid arrB; simp [hms]
       go_wp2
       go_ret
       exact ⟨ret_bool HF.out.symm, B2⟩
     . skip
       go_wp2_with fail
       refine (l6Dirty_any _ G x _ _ _ _ _ _ ds t2 hwd hg).mono ?_
       rintro e w3 ⟨rfl, b3⟩
       have X3 := X2.below b3 X2.lt
       have B3 := Below.andThen B2 b3
       have q3 := q2.below b3
       have t3 := t2.below b3
       clear k0 k1 k2 k3 k4 k5 k6 k7 k8 k9 k10 k11 k12 b3 B2 X2 q2 t2
       obtain ⟨k0, k1, k2, k3, k4, k5, k6, k7, k8, k9, k10, k11, k12⟩ := X3.cells13
       cases hds : entsB x ds
       . skip
         have HF : Hid (arrB x ms ds = false) := by unfold Hid arrB; simp [hds]
         go_wp2
         go_ret
         exact ⟨ret_bool HF.out.symm, B3⟩
       . skip
         go_wp2_with fail
         refine (l1In_any _ _ _ _).mono ?_
         rintro e wq ⟨rfl, hq⟩
         obtain rfl := hq.symm
         cases hlo : inB x.lost (-1) (x.n - 1)
         . skip
           have HF : Hid (arrB x ms ds = false) := by unfold Hid arrB; simp [lostB6, hlo]
           go_wp2
           go_ret
           exact ⟨ret_bool HF.out.symm, B3⟩
         . skip
           go_wp2_with fail
           refine (l1In_any _ _ _ _).mono ?_
           rintro e wq ⟨rfl, hq⟩
           obtain rfl := hq.symm
           cases hbu : inB x.built 0 x.s
           . skip
             have HF : Hid (arrB x ms ds = false) := by unfold Hid arrB; simp [lostB6, hbu]
             go_wp2
             go_ret
             exact ⟨ret_bool HF.out.symm, B3⟩
           . skip
             have hlb : (x.lost = -1 /\ ¬ x.built = 0) ∨ (x.lost = -1 /\ x.built = 0) ∨ ¬ x.lost = -1 := by omega
             have HLB : Hid (lostB6 x = (!decide (x.lost = -1) || decide (x.built = 0))) := by unfold Hid lostB6; rw [hlo, hbu]; simp
             rcases hlb with ⟨l1, l2⟩ | ⟨l1, l2⟩ | l1
             . have e1 : (x.lost == -1) = true := by simpa using l1
               have e2 : (x.built != 0) = true := by simpa using l2
               have e3 : (x.built == 0) = false := by simpa using l2
               have hL : lostB6 x = false := by rw [HLB.out]; simp [l1, l2]
               rw [l1] at k4
               have HF : Hid (arrB x ms ds = false) := by unfold Hid arrB; simp [hL]
               clear hL l1 l2
               go_wp2
               go_ret
               exact ⟨ret_bool HF.out.symm, B3⟩
             . have e1 : (x.lost == -1) = true := by simpa using l1
               have e2 : (x.built != 0) = false := by simpa using l2
               have e3 : (x.built == 0) = true := by simpa using l2
               have HLT : Hid (lostB6 x = true) := by unfold Hid; rw [HLB.out]; simp [l2]
               rw [l1] at k4
               rw [l2] at k5
               clear l1 l2
               have HT : Hid (arrB x ms ds = seqB6 x) := by unfold Hid arrB; rw [hg, hid, hms, hds, HLT.out]; rfl
               go_wp2_with fail
               refine (l1In_any _ _ _ _).mono ?_
               rintro e wq ⟨rfl, hq⟩
               obtain rfl := hq.symm
               cases ht : inB x.tail 0 60000
               . have HF : Hid (arrB x ms ds = false) := by unfold Hid; rw [HT.out]; unfold seqB6; simp [ht]
                 go_wp2
                 go_ret
                 exact ⟨ret_bool HF.out.symm, B3⟩
               . skip
                 have ht2 : 0 <= x.tail /\ x.tail <= 60000 := by unfold inB at ht; simpa using ht
                 have hw4 : IntKind.i64.wrap (x.tail + 4) = x.tail + 4 := IntWalk.i64_in _ (by omega)
                 go_wp2_with fail
                 refine (l1In_any _ _ _ _).mono ?_
                 rintro e wq ⟨rfl, hq⟩
                 obtain rfl := hq.symm
                 cases hs : inB x.seq x.tail 60000
                 . have HF : Hid (arrB x ms ds = false) := by unfold Hid; rw [HT.out]; unfold seqB6; simp [hs]
                   go_wp2
                   go_ret
                   exact ⟨ret_bool HF.out.symm, B3⟩
                 . skip
                   by_cases hle : x.seq <= x.tail + 4
                   . skip
                     go_wp2_with fail
                     refine (l1In_any _ _ _ _).mono ?_
                     rintro e wq ⟨rfl, hq⟩
                     obtain rfl := hq.symm
                     cases hge : inB x.gen 0 60000
                     . have HF : Hid (arrB x ms ds = false) := by unfold Hid; rw [HT.out]; unfold seqB6; simp [hge]
                       go_wp2
                       go_ret
                       exact ⟨ret_bool HF.out.symm, B3⟩
                     . skip
                       have HF : Hid (arrB x ms ds = inB x.fuse (-1) 1000) := by unfold Hid; rw [HT.out]; unfold seqB6; simp [ht, hs, hle, hge]
                       go_wp2_with fail
                       refine (l1In_any _ _ _ _).mono ?_
                       rintro e wq ⟨rfl, hq⟩
                       obtain rfl := hq.symm
                       cases hfu : inB x.fuse (-1) 1000
                       . go_wp2
                         go_ret
                         exact ⟨ret_bool (by rw [HF.out, hfu]), B3⟩
                       . go_wp2
                         go_ret
                         exact ⟨ret_bool (by rw [HF.out, hfu]), B3⟩
                   . have HF : Hid (arrB x ms ds = false) := by unfold Hid; rw [HT.out]; unfold seqB6; simp; omega
                     have hgt : x.tail + 4 < x.seq := by omega
                     go_wp2
                     go_ret
                     exact ⟨ret_bool HF.out.symm, B3⟩
             . have e1 : (x.lost == -1) = false := by simpa using l1
               have HLT : Hid (lostB6 x = true) := by unfold Hid; rw [HLB.out]; simp [l1]
               clear l1
               have HT : Hid (arrB x ms ds = seqB6 x) := by unfold Hid arrB; rw [hg, hid, hms, hds, HLT.out]; rfl
               go_wp2_with fail
               refine (l1In_any _ _ _ _).mono ?_
               rintro e wq ⟨rfl, hq⟩
               obtain rfl := hq.symm
               cases ht : inB x.tail 0 60000
               . have HF : Hid (arrB x ms ds = false) := by unfold Hid; rw [HT.out]; unfold seqB6; simp [ht]
                 go_wp2
                 go_ret
                 exact ⟨ret_bool HF.out.symm, B3⟩
               . skip
                 have ht2 : 0 <= x.tail /\ x.tail <= 60000 := by unfold inB at ht; simpa using ht
                 have hw4 : IntKind.i64.wrap (x.tail + 4) = x.tail + 4 := IntWalk.i64_in _ (by omega)
                 go_wp2_with fail
                 refine (l1In_any _ _ _ _).mono ?_
                 rintro e wq ⟨rfl, hq⟩
                 obtain rfl := hq.symm
                 cases hs : inB x.seq x.tail 60000
                 . have HF : Hid (arrB x ms ds = false) := by unfold Hid; rw [HT.out]; unfold seqB6; simp [hs]
                   go_wp2
                   go_ret
                   exact ⟨ret_bool HF.out.symm, B3⟩
                 . skip
                   by_cases hle : x.seq <= x.tail + 4
                   . skip
                     go_wp2_with fail
                     refine (l1In_any _ _ _ _).mono ?_
                     rintro e wq ⟨rfl, hq⟩
                     obtain rfl := hq.symm
                     cases hge : inB x.gen 0 60000
                     . have HF : Hid (arrB x ms ds = false) := by unfold Hid; rw [HT.out]; unfold seqB6; simp [hge]
                       go_wp2
                       go_ret
                       exact ⟨ret_bool HF.out.symm, B3⟩
                     . skip
                       have HF : Hid (arrB x ms ds = inB x.fuse (-1) 1000) := by unfold Hid; rw [HT.out]; unfold seqB6; simp [ht, hs, hle, hge]
                       go_wp2_with fail
                       refine (l1In_any _ _ _ _).mono ?_
                       rintro e wq ⟨rfl, hq⟩
                       obtain rfl := hq.symm
                       cases hfu : inB x.fuse (-1) 1000
                       . go_wp2
                         go_ret
                         exact ⟨ret_bool (by rw [HF.out, hfu]), B3⟩
                       . go_wp2
                         go_ret
                         exact ⟨ret_bool (by rw [HF.out, hfu]), B3⟩
                   . have HF : Hid (arrB x ms ds = false) := by unfold Hid; rw [HT.out]; unfold seqB6; simp; omega
                     have hgt : x.tail + 4 < x.seq := by omega
                     go_wp2
                     go_ret
                     exact ⟨ret_bool HF.out.symm, B3⟩

theorem specLiveAt_any (w : World) (E F : TypeId) (x : ArrN) (am ad : Option Addr) (nm cm nd cd : Nat) (ms : List MemD) (m s : Int) (h0 : (tMemS E F).Rd w [.slice am nm cm] ms) (hw : wtMemS ms <= 2097152) :
 Calls Tryz.prog 178 #[.agg #[.int .i64 x.id, .int .i64 x.n, .int .i64 x.s, .slice am nm cm, .int .i64 x.lost, .int .i64 x.built, .int .i64 x.seq, .int .i64 x.tail, .int .i64 x.gen, .slice ad nd cd, .int .i64 x.fuse, .bool x.down, .bool x.broken], .int .i64 m, .int .i64 s] w fun e w' => e = .returned (.bool (liveB x ms m s)) /\ Below w.heap.size w w' := by
 obtain ⟨hl, hc, hm⟩ := row_length h0
 have hnm : nm <= 2097152 := by unfold wtMemS at hw; omega
 have hA := new_below w (.cells #[.int .i64 x.id, .int .i64 x.n, .int .i64 x.s, .slice am nm cm, .int .i64 x.lost, .int .i64 x.built, .int .i64 x.seq, .int .i64 x.tail, .int .i64 x.gen, .slice ad nd cd, .int .i64 x.fuse, .bool x.down, .bool x.broken] 29)
 have X := Box.new w 29 #[.int .i64 x.id, .int .i64 x.n, .int .i64 x.s, .slice am nm cm, .int .i64 x.lost, .int .i64 x.built, .int .i64 x.seq, .int .i64 x.tail, .int .i64 x.gen, .slice ad nd cd, .int .i64 x.fuse, .bool x.down, .bool x.broken]
 obtain ⟨k0, k1, k2, k3, k4, k5, k6, k7, k8, k9, k10, k11, k12⟩ := X.cells13
 have h1 := h0.below hA
 have hwn : IntKind.i64.wrap ((nm : Int) - 1) = (nm : Int) - 1 := IntWalk.i64_in _ (by omega)
 go_enter Tryz.func178, Tryz.ntmps178
 go_wp2_with fail
 generalize w.alloc (.cells #[.int .i64 x.id, .int .i64 x.n, .int .i64 x.s, .slice am nm cm, .int .i64 x.lost, .int .i64 x.built, .int .i64 x.seq, .int .i64 x.tail, .int .i64 x.gen, .slice ad nd cd, .int .i64 x.fuse, .bool x.down, .bool x.broken] 29) = W at hA X h1 k0 k1 k2 k3 k4 k5 k6 k7 k8 k9 k10 k11 k12 ⊢
 refine (l1In_any _ _ _ _).mono ?_
 rintro e wq ⟨rfl, hq⟩
 obtain rfl := hq.symm
 cases hi : inB m 0 ((nm : Int) - 1)
 . have HF : Hid (liveB x ms m s = false) := by unfold Hid liveB; rw [hl, hi]; rfl
   go_wp2
   go_ret
   exact ⟨ret_bool HF.out.symm, hA⟩
 . have hi2 : 0 <= m /\ m <= (nm : Int) - 1 := by unfold inB at hi; simpa using hi
   obtain ⟨j, rfl⟩ := Int.eq_ofNat_of_zero_le hi2.1
   rcases quads_at rfl h1 with h0' | ⟨b, off, rfl, hbl, hcs⟩
   . omega
   have hdj : ms[j]? = some (ms[j]'(by omega)) := List.getElem?_eq_getElem (by omega)
   generalize ms[j]'(by omega) = d at hdj
   obtain ⟨v0, v1, v2, v3, hv0, hv1, hv2, hv3, hrv⟩ := hcs j d hdj
   obtain ⟨a0, c0, a1, c1, a3, c3, ss, cs, f, bs, rfl, rfl, rfl, rfl, rfl, r0, r1, r3⟩ := mem_at hrv
   have i1 : (0 : Int) <= (j : Int) := by omega
   have i2 : (j : Int) < (nm : Int) := by omega
   have HD : Hid (liveB x ms (j : Int) s = (!f && (!decide ((j : Int) = x.lost) || decide (s < x.built)))) := by
    unfold Hid liveB
    rw [hl, hi, Int.toNat_natCast, List.getD_eq_getElem?_getD, hdj]
    rfl
   clear hcs hv0 hv1 hv3 hrv r0 r1 r3 hdj
   cases f
   . by_cases hj : (j : Int) = x.lost
     . have e1 : ((j : Int) == x.lost) = true := by simpa using hj
       have e2 : ((j : Int) != x.lost) = false := by simpa using hj
       have HF : Hid (liveB x ms (j : Int) s = decide (s < x.built)) := by unfold Hid; rw [HD.out]; simp [hj]
       clear hj
       go_wp2
       go_ret
       exact ⟨ret_bool HF.out.symm, hA⟩
     . have e1 : ((j : Int) == x.lost) = false := by simpa using hj
       have e2 : ((j : Int) != x.lost) = true := by simpa using hj
       have HF : Hid (liveB x ms (j : Int) s = true) := by unfold Hid; rw [HD.out]; simp [hj]
       clear hj
       go_wp2
       go_ret
       exact ⟨ret_bool HF.out.symm, hA⟩
   . have HF : Hid (liveB x ms (j : Int) s = false) := by unfold Hid; rw [HD.out]; rfl
     go_wp2
     go_ret
     exact ⟨ret_bool HF.out.symm, hA⟩

def ArrOut (w w' : World) (e : Ending) (q : ArrN × List MemD) (ds : List (Int × List Int)) : Prop :=
 ∃ (bm bd : Option Addr) (cm cd : Nat), e = .returned (.agg (arrC q.1 (.slice bm q.2.length cm) (.slice bd ds.length cd))) /\ ArrIn w' w.heap.size w'.heap.size bm bd q.2.length cm ds.length cd q.2 ds /\ Below w.heap.size w w'
theorem Moved.belowN {B N : Nat} {f1 f2 : List Nat} {w1 w2 : World} (h : Moved B f1 w1 f2 w2) (hB : N <= B) (hf : ∀ b ∈ f1, N <= b) (hN : N <= w1.heap.size) : Below N w1 w2 :=
 ⟨h.1.os, h.1.tape, h.1.output, h.1.size, fun k hk => h.1.block k (by omega) (fun hm => by
  rcases List.mem_cons.1 hm with e | hm
  . omega
  . have := hf k hm; omega)⟩
theorem arr_facts {x : ArrN} {ms : List MemD} {ds : List (Int × List Int)} (h : arrB x ms ds = true) : x.fuse <= 1000 /\ MsOk ms /\ 0 <= x.gen /\ x.gen <= 60000 := by
 unfold arrB memsB seqB6 at h
 simp only [Bool.and_eq_true, inB_iff] at h
 obtain ⟨_, _, ⟨hm, _⟩, _, _, _, _, _, hg, hf⟩ := h
 refine ⟨hf.2, fun i d hd => ?_, hg.1, hg.2⟩
 have := allIx_iff.1 hm i d hd
 unfold memAt at this
 simp only [Bool.and_eq_true] at this
 exact this.1
theorem arr_out {w w4 : World} {R lo : Nat} {y : ArrN} {ns : List MemD} {ds : List (Int × List Int)} {vm vd : Option Addr} {cvm cvd : Nat} {fm fd : List Nat} {e : Ending} {T : TypeId} {cs : Array Value} (hb : Below w.heap.size w w4) (_ : Box w4 R T cs) (he : e = .returned (.agg (arrC y (.slice vm ns.length cvm) (.slice vd ds.length cvd)))) (hm : (tMemS 159 109).Mine w4 [.slice vm ns.length cvm] ns fm) (hd : (tWrS 86).Mine w4 [.slice vd ds.length cvd] ds fd) (hr : ∀ b ∈ fm, b ∉ fd) (rm : ∀ b ∈ fm, lo <= b) (rd : ∀ b ∈ fd, lo <= b) (h1 : w.heap.size <= R) (h2 : R < lo) :
 ArrOut w (puts w4 R [(0, .int .i64 y.id), (1, .int .i64 y.n), (2, .int .i64 y.s), (3, .slice vm ns.length cvm), (4, .int .i64 y.lost), (5, .int .i64 y.built), (6, .int .i64 y.seq), (7, .int .i64 y.tail), (8, .int .i64 y.gen), (9, .slice vd ds.length cvd), (10, .int .i64 y.fuse), (11, .bool y.down), (12, .bool y.broken)]) e (y, ns) ds := by
 have hbt := puts_but R [(0, .int .i64 y.id), (1, .int .i64 y.n), (2, .int .i64 y.s), (3, .slice vm ns.length cvm), (4, .int .i64 y.lost), (5, .int .i64 y.built), (6, .int .i64 y.seq), (7, .int .i64 y.tail), (8, .int .i64 y.gen), (9, .slice vd ds.length cvd), (10, .int .i64 y.fuse), (11, .bool y.down), (12, .bool y.broken)] w4
 have hz := hbt.size
 have hlm := hm.lt
 have hld := hd.lt
 refine ⟨vm, vd, cvm, cvd, he, ⟨fm, fd, hm.but hbt (fun b hb => by have := rm b hb; omega), hd.but hbt (fun b hb => by have := rd b hb; omega), hr, fun b hb => ?_, fun b hb => ?_⟩, Below.andBut hb hbt h1⟩
 . have h3 := rm b hb
   have h4 := hlm b hb
   omega
 . have h3 := rd b hb
   have h4 := hld b hb
   omega

abbrev DOp := Nat × Option (Option (Int × List Int))
def supM (d : MemD) (u : Sup) : MemD := (d.1, wsCS d.1 d.2.1 d.2.2.1 d.2.2.2 u, d.2.2.1, wsBS d.1 d.2.1 d.2.2.1 d.2.2.2 u)
def opF (o : DOp) (x : ArrN) : MemD -> MemD :=
 match o.2 with
 | none => flM
 | some none => fun d => supM d (supA x o.1)
 | some (some p) => fun d => wrM d p.1 p.2
def runS (q : ArrN × List MemD) (ops : List DOp) : ArrN × List MemD := ops.foldl (fun q o => doS q o.1 (opF o q.1)) q

theorem opX_down {x : ArrN} (h : x.down = true) : opX x = x := by unfold opX; rw [if_pos h]
theorem opB_down {x : ArrN} (h : x.down = true) : opB x = false := by unfold opB; simp [h]
theorem opX_no {x : ArrN} (h : opB x = false) : (opX x).down = true := by
 unfold opB at h
 unfold opX
 by_cases hd : x.down = true
 . rw [if_pos hd]; exact hd
 . rw [if_neg hd]
   simp at h
   rw [if_pos (h (by simpa using hd))]
theorem opX_yes {x : ArrN} (h : opB x = true) : (opX x).down = false := by
 unfold opB at h
 simp at h
 unfold opX
 rw [if_neg (by simp [h.1]), if_neg h.2]
 split
 . exact h.1
 . exact h.1
theorem doS_down {q : ArrN × List MemD} (i : Nat) (f : MemD -> MemD) (h : q.1.down = true) : doS q i f = q := by
 unfold doS
 rw [opB_down h, opX_down h]
 split
 . rfl
 . rfl
theorem runS_down {q : ArrN × List MemD} (h : q.1.down = true) : ∀ ops : List DOp, runS q ops = q
 | [] => rfl
 | o :: ops => by
  unfold runS
  rw [List.foldl_cons, doS_down _ _ h]
  exact runS_down h ops
theorem runS_app (q : ArrN × List MemD) (a b : List DOp) : runS q (a ++ b) = runS (runS q a) b := by unfold runS; rw [List.foldl_append]
theorem runS_one (q : ArrN × List MemD) (o : DOp) : runS q [o] = doS q o.1 (opF o q.1) := rfl
theorem runS_next {q : ArrN × List MemD} {ops : List DOp} {j : Nat} {o : DOp} (h : ops[j]? = some o) : runS q (ops.take (j + 1)) = doS (runS q (ops.take j)) o.1 (opF o (runS q (ops.take j)).1) := by
 rw [List.take_add_one, h, runS_app]
 rfl
theorem runS_end {q : ArrN × List MemD} {ops : List DOp} {j : Nat} (h : (runS q (ops.take j)).1.down = true) : runS q ops = runS q (ops.take j) := by
 have := runS_app q (ops.take j) (ops.drop j)
 rw [List.take_append_drop, runS_down h] at this
 exact this
theorem supM_ok (u : Sup) (d : MemD) (h : memB d.1 d.2.1 d.2.2.2 = true) : memB (supM d u).1 (supM d u).2.1 (supM d u).2.2.2 = true := by
 unfold supM wsCS wsBS
 dsimp only
 by_cases hu : supB u = true
 . rw [if_pos hu, if_pos hu]
   exact wrM_ok (u.gen % 2) (putD u) d h
 . rw [if_neg hu, if_neg hu]
   exact h
theorem supM_put {u : Sup} (h : supB u = true) (d : MemD) : supM d u = wrM d (u.gen % 2) (putD u) := by
 unfold supM wsCS wsBS wrM
 rw [if_pos h, if_pos h]
theorem opF_ok (o : DOp) (x : ArrN) (d : MemD) (h : memB d.1 d.2.1 d.2.2.2 = true) : memB (opF o x d).1 (opF o x d).2.1 (opF o x d).2.2.2 = true := by
 obtain ⟨i, k⟩ := o
 rcases k with _ | _ | ⟨n, s⟩
 . exact flM_ok d h
 . exact supM_ok _ d h
 . exact wrM_ok n s d h
theorem opF_flag (o : DOp) (x : ArrN) (d : MemD) : (opF o x d).2.2.1 = d.2.2.1 := by
 obtain ⟨i, k⟩ := o
 rcases k with _ | _ | ⟨n, s⟩ <;> rfl
theorem runS_keeps {q : ArrN × List MemD} (h : MsOk q.2) (hf : q.1.fuse <= 1000) : ∀ ops : List DOp, MsOk (runS q ops).2 /\ SameN q.1 (runS q ops).1 /\ (runS q ops).2.length = q.2.length := by
 intro ops
 induction ops generalizing q with
 | nil => exact ⟨h, SameN.refl hf, rfl⟩
 | cons o ops ih =>
  have h1 := doS_same (q := q) o.1 (opF o q.1) hf
  obtain ⟨a, b, c⟩ := ih (q := doS q o.1 (opF o q.1)) (doS_ok h (opF_ok o q.1)) h1.2.2.2.2.2.2.2.2.2.1
  exact ⟨a, h1.trans b, c.trans (doS_len _ _ _)⟩
theorem opF_opX (o : DOp) (x : ArrN) : opF o (opX x) = opF o x := by
 obtain ⟨i, k⟩ := o
 rcases k with _ | _ | ⟨n, s⟩
 . rfl
 . have e : supA (opX x) i = supA x i := by
    unfold opX
    split
    . rfl
    . split
      . rfl
      . split <;> rfl
   show (fun d => supM d (supA (opX x) i)) = fun d => supM d (supA x i)
   rw [e]
 . rfl
def flagAt (ms : List MemD) (k : Nat) : Bool := (ms.getD k memZ).2.2.1
theorem flag_set {ms : List MemD} {i : Nat} {d : MemD} (h : d.2.2.1 = flagAt ms i) (k : Nat) : flagAt (ms.set i d) k = flagAt ms k := by
 unfold flagAt
 by_cases hk : k = i
 . subst hk
   by_cases hl : k < ms.length
   . rw [List.getD_eq_getElem?_getD, List.getElem?_set_self hl]
     exact h
   . rw [List.set_eq_of_length_le (by omega)]
 . rw [List.getD_eq_getElem?_getD, List.getD_eq_getElem?_getD, List.getElem?_set_ne (fun e => hk e.symm)]
theorem doS_flag (q : ArrN × List MemD) (i : Nat) {f : MemD -> MemD} (hf : ∀ d, (f d).2.2.1 = d.2.2.1) (k : Nat) : flagAt (doS q i f).2 k = flagAt q.2 k := by
 unfold doS
 split
 . rfl
 . split
   . exact flag_set (hf _) k
   . rfl
theorem runS_flag (q : ArrN × List MemD) (ops : List DOp) (k : Nat) : flagAt (runS q ops).2 k = flagAt q.2 k := by
 induction ops generalizing q with
 | nil => rfl
 | cons o ops ih => exact (ih (doS q o.1 (opF o q.1))).trans (doS_flag q o.1 (opF_flag o q.1) k)
def opsL (K : Nat -> DOp) (ms : List MemD) (j : Nat) : List DOp := ((List.range j).filter fun i => !flagAt ms i).map K
theorem opsL_succ (K : Nat -> DOp) (ms : List MemD) (j : Nat) : opsL K ms (j + 1) = opsL K ms j ++ (if flagAt ms j = true then [] else [K j]) := by
 unfold opsL
 rw [List.range_succ, List.filter_append, List.map_append]
 cases h : flagAt ms j <;> simp [h]
theorem opsL_len (K : Nat -> DOp) (ms : List MemD) (j : Nat) : (opsL K ms j).length <= j := by
 unfold opsL
 rw [List.length_map]
 exact Nat.le_trans (List.length_filter_le _ _) (by rw [List.length_range]; exact Nat.le_refl _)
theorem opsL_mem {K : Nat -> DOp} {ms : List MemD} {j : Nat} {o : DOp} (h : o ∈ opsL K ms j) : ∃ i, i < j /\ flagAt ms i = false /\ o = K i := by
 unfold opsL at h
 obtain ⟨i, hi, rfl⟩ := List.mem_map.1 h
 obtain ⟨h1, h2⟩ := List.mem_filter.1 hi
 exact ⟨i, List.mem_range.1 h1, by simpa using h2, rfl⟩
theorem run_list {K : Nat -> DOp} (hK : ∀ i, (K i).1 = i) (q : ArrN × List MemD) : ∀ j, runS q (opsL K q.2 j) = (List.range j).foldl (fun q i => doS q i (opF (K i) q.1)) q
 | 0 => rfl
 | j + 1 => by
  rw [opsL_succ, runS_app, List.range_succ, List.foldl_append, ← run_list hK q j]
  cases h : flagAt q.2 j
  . rw [if_neg (by simp), runS_one, hK]
    rfl
  . rw [if_pos rfl]
    have h2 : flagAt (runS q (opsL K q.2 j)).2 j = true := by rw [runS_flag]; exact h
    show runS q (opsL K q.2 j) = doS (runS q (opsL K q.2 j)) j _
    unfold flagAt at h2
    unfold doS
    rw [if_pos h2]
def flushK (i : Nat) : DOp := (i, none)
def supK (i : Nat) : DOp := (i, some none)
def wrK (n : Int) (s : List Int) (i : Nat) : DOp := (i, some (some (n, s)))
theorem run_sync (q : ArrN × List MemD) (j : Nat) : runS q (opsL flushK q.2 j) = syncS q j := run_list (fun _ => rfl) q j
theorem run_sups {q : ArrN × List MemD} (h : MsOk q.2) (hf : q.1.fuse <= 1000) (hu : ∀ i : Nat, i < q.2.length -> supB (supA q.1 i) = true) : ∀ j, j <= q.2.length -> runS q (opsL supK q.2 j) = supsS q j
 | 0, _ => rfl
 | j + 1, hj => by
  have ih := run_sups h hf hu j (by omega)
  have hs := (supsS_keeps h hf j).2.1
  rw [run_list (fun _ => rfl)] at ih ⊢
  rw [List.range_succ, List.foldl_append, ih, supsS_succ]
  have e : supA (supsS q j).1 j = supA q.1 j := by
   obtain ⟨a1, a2, a3, a4, a5, a6, a7, a8, a9, _⟩ := hs
   unfold supA
   rw [a1, a2, a3, a4, a5, a7, a8]
  have hu2 : supB (supA (supsS q j).1 j) = true := by rw [e]; exact hu j (by omega)
  show doS (supsS q j) j (fun d => supM d (supA (supsS q j).1 j)) = putS _ _ _ _
  unfold putS
  congr 1
  funext d
  exact supM_put hu2 d

theorem arr_len {x : ArrN} {ms : List MemD} {ds : List (Int × List Int)} (h : arrB x ms ds = true) : 3 <= x.n /\ x.n <= 5 /\ (ms.length : Int) = x.n := by
 unfold arrB memsB at h
 simp only [Bool.and_eq_true, geoB_iff, decide_eq_true_eq] at h
 exact ⟨h.1.1, h.1.2.1, h.2.2.1.2⟩
theorem ms_light {ns : List MemD} (h : MsOk ns) (hl : ns.length <= 5) : wtMemS ns <= 10005 := by
 have h1 := sumL_bound (ns.map wtMem) 2000 (fun y hy => by
  obtain ⟨d, hd, rfl⟩ := List.mem_map.1 hy
  obtain ⟨i, hi⟩ := List.mem_iff_getElem?.1 hd
  obtain ⟨ss, cs, f, bs⟩ := d
  exact memB_light (h i _ hi) f)
 rw [List.length_map] at h1
 unfold wtMemS
 omega
theorem out_light {x : ArrN} {ms : List MemD} {ds : List (Int × List Int)} {q : ArrN × List MemD} (h : arrB x ms ds = true) (hk : MsOk q.2) (hl : q.2.length = ms.length) (hw : wtArr ms ds <= 1048576) : wtArr q.2 ds <= 2097152 := by
 have h1 := arr_len h
 have h2 := ms_light hk (by omega)
 unfold wtArr at hw ⊢
 omega

theorem l7Op_any (w : World) (B : Nat) (x : ArrN) (ms : List MemD) (ds : List (Int × List Int)) (fm fd : List Nat) (h : ArrAt w B x ms ds fm fd) (hf : x.fuse <= 1000) :
 Calls Tryz.prog 134 #[.pointer (some ⟨B, 0, none⟩)] w fun e w' => e = .returned (.bool (opB x)) /\ ArrAt w' B (opX x) ms ds fm fd /\ Moved B fm w fm w' := by
 obtain ⟨bm, bd, cm, cd, X, hm, hd, hr, r1, r2⟩ := h
 unfold arrC at X
 obtain ⟨k0, k1, k2, k3, k4, k5, k6, k7, k8, k9, k10, k11, k12⟩ := X.cells13
 have fz := X.frozen
 cases hdn : x.down
 . rw [hdn] at k11
   by_cases h0 : x.fuse = 0
   . have HB : Hid (opB x = false) := by unfold Hid opB; simp [h0]
     have HX : Hid (opX x = {x with down := true, fuse := -1}) := by unfold Hid opX; rw [if_neg (by simp [hdn]), if_pos h0]
     have Y := (X.set 11 (.bool true)).set 10 (.int .i64 (-1))
     have M := hidden ((hm.setCell (g := B) (j := 11) r1 (.bool true)).setCell (g := B) (j := 10) r1 (.int .i64 (-1)))
     have D := hidden ((hd.setCell (g := B) (j := 11) r2 (.bool true)).setCell (g := B) (j := 10) r2 (.int .i64 (-1)))
     have MV := hidden ((Moved.set (B := B) (j := 11) (fm := fm) (w := w) (.bool true)).trans (Moved.set (B := B) (j := 10) (.int .i64 (-1))))
     have YH := hidden Y
     rw [h0] at k10
     clear Y X hm hd hdn h0
     go_enter Tryz.func134, Tryz.ntmps134
     go_wp2
     go_ret
     exact ⟨ret_bool HB.out.symm, by rw [HX.out]; exact ⟨bm, bd, cm, cd, YH.out, M.out, D.out, hr, r1, r2⟩, MV.out⟩
   . have e0 : (x.fuse == 0) = false := by simpa using h0
     have HB : Hid (opB x = true) := by unfold Hid opB; simp [h0, hdn]
     by_cases h1 : 0 < x.fuse
     . have hw : IntKind.i64.wrap (x.fuse - 1) = x.fuse - 1 := IntWalk.i64_in _ (by omega)
       have HX : Hid (opX x = {x with fuse := x.fuse - 1}) := by unfold Hid opX; rw [if_neg (by simp [hdn]), if_neg h0, if_pos h1]
       have YH := hidden (X.set 10 (.int .i64 (x.fuse - 1)))
       have M := hidden (hm.setCell (g := B) (j := 10) r1 (.int .i64 (x.fuse - 1)))
       have D := hidden (hd.setCell (g := B) (j := 10) r2 (.int .i64 (x.fuse - 1)))
       have MV := hidden (Moved.set (B := B) (j := 10) (fm := fm) (w := w) (.int .i64 (x.fuse - 1)))
       clear X hm hd hdn h0
       go_enter Tryz.func134, Tryz.ntmps134
       go_wp2
       go_ret
       exact ⟨ret_bool HB.out.symm, by rw [HX.out]; exact ⟨bm, bd, cm, cd, YH.out, M.out, D.out, hr, r1, r2⟩, MV.out⟩
     . have HX : Hid (opX x = x) := by unfold Hid opX; rw [if_neg (by simp [hdn]), if_neg h0, if_neg h1]
       have YH := hidden X
       clear hdn h0 X
       go_enter Tryz.func134, Tryz.ntmps134
       go_wp2
       go_ret
       exact ⟨ret_bool HB.out.symm, by rw [HX.out]; exact ⟨bm, bd, cm, cd, YH.out, hm, hd, hr, r1, r2⟩, Moved.refl _ _ _⟩
 . have HB : Hid (opB x = false) := by unfold Hid opB; simp [hdn]
   have HX : Hid (opX x = x) := by unfold Hid opX; rw [if_pos hdn]
   rw [hdn] at k11
   have YH := hidden X
   clear hdn X
   go_enter Tryz.func134, Tryz.ntmps134
   go_wp2
   go_ret
   exact ⟨ret_bool HB.out.symm, by rw [HX.out]; exact ⟨bm, bd, cm, cd, YH.out, hm, hd, hr, r1, r2⟩, Moved.refl _ _ _⟩

theorem l7Put_any (w : World) (B : Nat) (x : ArrN) (ms : List MemD) (ds : List (Int × List Int)) (fm fd : List Nat) (h : ArrAt w B x ms ds fm fd) (hf : x.fuse <= 1000) (hM : MsOk ms) (m : Nat) (hm : m < ms.length) (n : Int) (a5 : Option Addr) (n5 c5 : Nat) (sw : List Int) (f5 : List Nat) (h5 : tIntS.Mine w [.slice a5 n5 c5] sw f5) (h5B : B ∉ f5) (h5f : ∀ b ∈ f5, b ∉ fm) (hn5 : n5 <= 2097152) :
 Calls Tryz.prog 137 #[.pointer (some ⟨B, 0, none⟩), .int .i64 (m : Int), .int .i64 n, .slice a5 n5 c5] w fun e w' => e = .returned (.tuple #[]) /\ ∃ fm', ArrAt w' B (putS (x, ms) m n sw).1 (putS (x, ms) m n sw).2 ds fm' fd /\ Moved B fm w fm' w' := by
 have h00 := h
 obtain ⟨bm, bd, cm, cd, X, hmm, hdd, hr, r1, r2⟩ := h
 unfold arrC at X
 obtain ⟨g, rfl⟩ := row_head hmm (by omega)
 have hdj : ms[m]? = some (ms[m]'hm) := List.getElem?_eq_getElem hm
 generalize ms[m]'hm = d at hdj
 obtain ⟨hgl, a0, a1, a3, c0, c1, c3, ss, cs, f, bs, rfl, q0, q1, q2, q3, _, _, _⟩ := disk_at hmm hdj
 obtain ⟨k0, k1, k2, k3, k4, k5, k6, k7, k8, k9, k10, k11, k12⟩ := X.cells13
 have i1 : (0 : Int) <= (m : Int) := by omega
 have i2 : (m : Int) < (ms.length : Int) := by omega
 cases f
 . have H0 := hidden h00
   clear X hmm hdd hgl q0 q1 q3
   go_enter Tryz.func137, Tryz.ntmps137
   go_wp2_with fail
   refine (l7Op_any _ B x ms ds fm fd H0.out hf).mono ?_
   rintro e w1 ⟨rfl, hA1, hMv1⟩
   clear k0 k1 k2 k3 k4 k5 k6 k7 k8 k9 k10 k11 k12 q2 H0 h00
   cases ho : opB x
   . have HP : Hid (putS (x, ms) m n sw = (opX x, ms)) := doS_no hdj rfl ho
     go_wp2
     refine bodyPost_ret (v := .tuple #[]) (by simp [results, Tryz.results137, go_sem]) rfl ?_
     exact ⟨rfl, fm, by rw [HP.out]; exact hA1, hMv1⟩
   . have HP : Hid (putS (x, ms) m n sw = (opX x, ms.set m (wrM (ss, cs, false, bs) n sw))) := doS_yes hdj rfl ho
     obtain ⟨bm, bd, cm, cd, X, hmm, hdd, hr, r1, r2⟩ := hA1
     obtain ⟨g, rfl⟩ := row_head hmm (by omega)
     obtain ⟨hgl, a0, a1, a3, c0, c1, c3, ss, cs, f, bs, hde, q0, q1, q2, q3, p0, p1, p3⟩ := disk_at hmm hdj
     simp only [Prod.mk.injEq] at hde
     obtain ⟨rfl, rfl, rfl, rfl⟩ := hde
     have X0 := X
     unfold arrC at X0
     obtain ⟨k0, k1, k2, k3, k4, k5, k6, k7, k8, k9, k10, k11, k12⟩ := X0.cells13
     have hwt := memB_light (hM m _ hdj) false
     dsimp only at hwt
     have XH := hidden X
     have MH := hidden hmm
     have DH := hidden hdd
     have MV := hidden hMv1
     have DJ := hidden hdj
     have h51 := (hMv1.mine h5 h5B h5f).rd
     clear X X0 hmm hdd hMv1 hdj
     go_wp2_with fail
     refine (specWriteSec_any _ 159 _ _ _ _ _ _ _ _ _ _ _ _ ss cs false bs n sw p0 p1 p3 h51 (by omega) hn5).mono ?_
     rintro e w2 ⟨u0, u1, u3, rfl, o2, b2⟩
     obtain ⟨d0, l0, f0, d1, l1, f1, d3, l3, f3, hv0, hv1, hv3⟩ := mem_slices o2
     subst hv0 hv1 hv3
     have b3 := new_below w2 (.cells #[.slice d0 l0 f0, .slice d1 l1 f1, .bool false, .slice d3 l3 f3] 109)
     have b13 : Below w1.heap.size w1 (w2.alloc (.cells #[.slice d0 l0 f0, .slice d1 l1 f1, .bool false, .slice d3 l3 f3] 109)) := Below.andThen b2 b3
     have Y3 := Box.new w2 109 #[.slice d0 l0 f0, .slice d1 l1 f1, .bool false, .slice d3 l3 f3]
     have zY := Y3.lt
     have z2 := b2.size
     obtain ⟨fpx, mx, rx⟩ := (o2.below b3).mine
     obtain ⟨cOld, fz, hgm, fm9, hA9, hMv9⟩ := arr_store XH.out MH.out DH.out hr r1 r2 b13 hm mx (fun b hb => (rx b hb).1)
     obtain ⟨o0, t0⟩ := cOld 0 (by omega)
     obtain ⟨o1, t1⟩ := cOld 1 (by omega)
     obtain ⟨o2', t2⟩ := cOld 2 (by omega)
     obtain ⟨o3, t3⟩ := cOld 3 (by omega)
     rw [Nat.add_zero] at t0
     have HA := hidden hA9
     have HMV := hidden (MV.out.trans hMv9)
     have X3 := XH.out.below b13 XH.out.lt
     unfold arrC at X3
     have gB : ¬ g = B := fun e => r1 (e ▸ hgm)
     have gY : ¬ g = w2.heap.size := by omega
     obtain ⟨y0, y1, y2, y3⟩ := Y3.cells4
     have x3 := X3.cells13.2.2.2.1
     have hS : (w2.alloc (.cells #[.slice d0 l0 f0, .slice d1 l1 f1, .bool false, .slice d3 l3 f3] 109)).drew.cell? ⟨B, 3, none⟩ = some (.slice (some ⟨g, 0, none⟩) ms.length cm) /\ (w2.alloc (.cells #[.slice d0 l0 f0, .slice d1 l1 f1, .bool false, .slice d3 l3 f3] 109)).drew.cell? ⟨w2.heap.size, 0, none⟩ = some (.slice d0 l0 f0) /\ (w2.alloc (.cells #[.slice d0 l0 f0, .slice d1 l1 f1, .bool false, .slice d3 l3 f3] 109)).drew.cell? ⟨w2.heap.size, 1, none⟩ = some (.slice d1 l1 f1) /\ (w2.alloc (.cells #[.slice d0 l0 f0, .slice d1 l1 f1, .bool false, .slice d3 l3 f3] 109)).drew.cell? ⟨w2.heap.size, 2, none⟩ = some (.bool false) /\ (w2.alloc (.cells #[.slice d0 l0 f0, .slice d1 l1 f1, .bool false, .slice d3 l3 f3] 109)).drew.cell? ⟨w2.heap.size, 3, none⟩ = some (.slice d3 l3 f3) := ⟨x3, y0, y1, y2, y3⟩
     unfold put4 at HA HMV
     clear k0 k1 k2 k3 k4 k5 k6 k7 k8 k9 k10 k11 k12 q0 q1 q2 q3 p0 p1 p3 h51 o2 b2 b3 b13 Y3 mx rx cOld hA9 hMv9 X3 x3 XH MH DH MV hwt
     go_wp2_with fail
     refine Upto.start (S := fun w' => w'.cell? ⟨B, 3, none⟩ = some (.slice (some ⟨g, 0, none⟩) ms.length cm) /\ w'.cell? ⟨w2.heap.size, 0, none⟩ = some (.slice d0 l0 f0) /\ w'.cell? ⟨w2.heap.size, 1, none⟩ = some (.slice d1 l1 f1) /\ w'.cell? ⟨w2.heap.size, 2, none⟩ = some (.bool false) /\ w'.cell? ⟨w2.heap.size, 3, none⟩ = some (.slice d3 l3 f3)) (k := 7) (by kernel_rfl) ?_
     refine Upto.t 0 hS ?_
     refine Upto.t 1 hS ?_
     refine Upto.t 2 hS ?_
     refine Upto.t 3 hS ?_
     refine Upto.t 4 hS ?_
     refine Upto.t 5 hS ?_
     refine Upto.t 6 hS ?_
     refine Upto.one (i := 7) (by kernel_rfl) rfl (fun K hK => ?_)
     go_simp
     refine hK.out _ _ (fun h => absurd rfl h) ?_
     clear hK K
     refine Upto.done (by kernel_rfl) ?_ _
     clear hS y0 y1 y2 y3 t0 t1 t2 t3 fz
     go_wp2
     refine bodyPost_end (v := .tuple #[]) (results_none rfl _ _ _) rfl ?_
     exact ⟨rfl, fm9, by rw [HP.out]; exact HA.out.drew, HMV.out.drew⟩
 . have HP : Hid (putS (x, ms) m n sw = (x, ms)) := doS_failed hdj rfl
   clear X hmm hdd hgl q0 q1 q3
   go_enter Tryz.func137, Tryz.ntmps137
   go_wp2
   refine bodyPost_ret (v := .tuple #[]) (by simp [results, Tryz.results137, go_sem]) rfl ?_
   exact ⟨rfl, fm, by rw [HP.out]; exact h00, Moved.refl _ _ _⟩

theorem wr_mine_inv {w : World} {vs : List Value} {x : Int × List Int} {fp : List Nat} (h : tWr.Mine w vs x fp) : ∃ a cap, vs = [.int .i64 x.1, .slice a x.2.length cap] /\ tIntS.Mine w [.slice a x.2.length cap] x.2 fp := by
 have hl : vs.length = 2 := tWr.rdLen (tWr.owRd h.1)
 match vs, hl, h with
 | [u0, u1], _, h =>
  obtain ⟨f1, f2, hf, m1, m2, _⟩ := pair_mine (t := intTy) (u := tIntS) (vs := [u0]) (us := [u1]) rfl h
  obtain ⟨e1, e2⟩ := m1.1
  subst e2
  obtain ⟨a, cap, rfl⟩ := row_shape m2.rd
  refine ⟨a, cap, by simpa using e1, ?_⟩
  rw [hf]
  exact m2
theorem Turned.adrew {fp : List Nat} {w w' : World} (h : Turned fp w w') : Turned fp w w'.drew := ⟨h.os, h.tape, h.output, h.size, h.block⟩
theorem Ty.Mine.adrew {t : Ty} {w : World} {vs : List Value} {d : t.D} {fp : List Nat} (h : t.Mine w vs d fp) : t.Mine w.drew vs d fp := h.kept (Turned.adrew (Turned.refl [] w)) (by simp)
theorem cache_parts {w : World} {E : TypeId} {lo hi n cap : Nat} {b : Option Addr} {cs : List (Int × List Int)} (h : (tWrS E).Own w lo hi [.slice b n cap] cs) :
 ∃ (gC : Nat) (F : Nat -> List Nat), (n = 0 ∨ (b = some ⟨gC, 0, none⟩ /\ lo <= gC /\ gC < hi)) /\ (∀ i x, cs[i]? = some x -> ∃ a c, tIntS.Mine w [.slice a x.2.length c] x.2 (F i) /\ (∀ b ∈ F i, lo <= b /\ b < hi) /\ w.cell? ⟨gC, i * 2, none⟩ = some (.int .i64 x.1) /\ w.cell? ⟨gC, i * 2 + 1, none⟩ = some (.slice a x.2.length c)) /\ ∀ i j, i < j -> j < cs.length -> ∀ b ∈ F i, b ∉ F j := by
 have hl := (row_length h.rd).1
 rcases h.rowShape with h0 | ⟨g, rfl⟩
 . refine ⟨0, fun _ => [], .inl h0, fun i x hx => ?_, by simp⟩
   have := (List.getElem?_eq_some_iff.1 hx).1
   omega
 . obtain ⟨fp, m, r⟩ := h.mine
   obtain ⟨hg, F, h1, h2⟩ := row_parts m
   refine ⟨g, F, .inr ⟨rfl, r g hg⟩, fun i x hx => ?_, h2⟩
   obtain ⟨vs, m1, _, m3, m4⟩ := h1 i x hx
   obtain ⟨a, c, rfl, m5⟩ := wr_mine_inv m1
   exact ⟨a, c, m5, fun b hb => r b (m3 b hb), m4 0 (by decide), m4 1 (by decide)⟩

theorem specFlushMem_any (w : World) (E : TypeId) (a0 a1 a3 : Option Addr) (n0 c0 n1 c1 n3 c3 : Nat) (ss : List (List Int)) (cs : List (Int × List Int)) (f : Bool) (bs : List Int) (h0 : tIntSS.Rd w [.slice a0 n0 c0] ss) (h1 : (tWrS E).Rd w [.slice a1 n1 c1] cs) (h3 : tIntS.Rd w [.slice a3 n3 c3] bs) (hw : wtMem (ss, cs, f, bs) <= 2097152) :
 Calls Tryz.prog 135 #[.agg #[.slice a0 n0 c0, .slice a1 n1 c1, .bool f, .slice a3 n3 c3]] w fun e w' => ∃ v0 v1 v3, e = .returned (.agg #[v0, v1, .bool f, v3]) /\ (tMem 159).Own w' w.heap.size w'.heap.size [v0, v1, .bool f, v3] (flSS ss cs f bs, flCS ss cs f bs, f, bs) /\ Below w.heap.size w w' := by
 obtain ⟨hl0, _, hm0⟩ := row_length h0
 obtain ⟨hl1, _, hm1⟩ := row_length h1
 obtain ⟨hl3, _, hm3⟩ := row_length h3
 have hwc : wtWrS cs <= 2097152 := by unfold wtMem at hw; simp only at hw; omega
 by_cases hM : memB ss cs bs = true
 . have hn20 : n0 <= 20 := by have := mem_secs hM; omega
   have hks := mem_writes hM
   by_cases hf : f = true
   . subst hf
     have e1 : flSS ss cs true bs = ss := by unfold flSS; simp
     have e2 : flCS ss cs true bs = cs := by unfold flCS; simp
     rw [e1, e2]
     clear e1 e2
     have hA : Below w.heap.size w ((w.alloc (.cells #[.slice a0 n0 c0, .slice a1 n1 c1, .bool true, .slice a3 n3 c3] 109)).alloc (.cells #[.slice none 0 0, .slice none 0 0, .bool false, .slice none 0 0] 109)) := ((Below.refl _ _).alloc (Nat.le_refl _) _).alloc (by simp) _
     have xm : Box ((w.alloc (.cells #[.slice a0 n0 c0, .slice a1 n1 c1, .bool true, .slice a3 n3 c3] 109)).alloc (.cells #[.slice none 0 0, .slice none 0 0, .bool false, .slice none 0 0] 109)) w.heap.size 109 #[.slice a0 n0 c0, .slice a1 n1 c1, .bool true, .slice a3 n3 c3] := (Box.new w _ _).alloc _
     have xr : Box ((w.alloc (.cells #[.slice a0 n0 c0, .slice a1 n1 c1, .bool true, .slice a3 n3 c3] 109)).alloc (.cells #[.slice none 0 0, .slice none 0 0, .bool false, .slice none 0 0] 109)) (w.heap.size + 1) 109 #[.slice none 0 0, .slice none 0 0, .bool false, .slice none 0 0] := by
      have := Box.new (w.alloc (.cells #[.slice a0 n0 c0, .slice a1 n1 c1, .bool true, .slice a3 n3 c3] 109)) 109 #[.slice none 0 0, .slice none 0 0, .bool false, .slice none 0 0]
      rw [show (w.alloc (.cells #[.slice a0 n0 c0, .slice a1 n1 c1, .bool true, .slice a3 n3 c3] 109)).heap.size = w.heap.size + 1 by simp] at this
      exact this
     go_enter Tryz.func135, Tryz.ntmps135
     go_wp2_with fail
     generalize hW : (w.alloc (.cells #[.slice a0 n0 c0, .slice a1 n1 c1, .bool true, .slice a3 n3 c3] 109)).alloc (.cells #[.slice none 0 0, .slice none 0 0, .bool false, .slice none 0 0] 109) = W at hA xm xr ⊢
     clear hW
     have zr := xr.lt
     obtain ⟨q0, q1, q2, q3⟩ := xm.cells4
     have XM := hidden xm
     have XR := hidden xr
     clear xm xr
     refine (l2Copy_any _ E _ _ _ _ _ _ _ _ _ ss cs true bs (h0.below hA) (h1.below hA) (h3.below hA) hw).mono ?_
     intro e w1 hc
     obtain ⟨b0, b1, b3, e0, e1, e3, m1, m2, rfl, o3, o0, o1, r1, r2, r3, bb⟩ := copy_shapes hl0 hl1 hl3 hc
     clear hc
     have z1 := bb.size
     have sW : w.heap.size + 2 <= W.heap.size := by omega
     have ba : Below w1.heap.size w1 (w1.alloc (.cells #[.slice b0 n0 e0, .slice b1 n1 e1, .bool true, .slice b3 n3 e3] 109)) := (Below.refl _ _).alloc (Nat.le_refl _) _
     have yo := Box.new w1 109 #[.slice b0 n0 e0, .slice b1 n1 e1, .bool true, .slice b3 n3 e3]
     have zo := yo.lt
     have YO := hidden yo
     have YR := hidden ((XR.out.below bb zr).below ba (by omega))
     have YM := hidden ((XM.out.below bb (by omega)).below ba (by omega))
     have K0 := hidden (o0.below ba)
     have K1 := hidden (o1.below ba)
     have K3 := hidden (o3.below ba)
     have KB := hidden (hA.trans ((bb.mono (by omega : w.heap.size <= W.heap.size)).trans (ba.mono (by omega))))
     clear yo o0 o1 o3 XM XR bb ba hA q0 q1 q2 q3
     obtain ⟨q0, q1, q2, q3⟩ := YM.out.cells4
     go_wp2_with fail
     generalize w1.alloc (.cells #[.slice b0 n0 e0, .slice b1 n1 e1, .bool true, .slice b3 n3 e3] 109) = w2 at YO YR YM K0 K1 K3 KB zo q0 q1 q2 q3 ⊢
     refine (specMemOk_any _ E _ _ _ _ _ _ _ _ _ ss cs true bs (h0.below KB.out) (h1.below KB.out) (h3.below KB.out) hw).mono ?_
     rintro e w3 ⟨rfl, b4⟩
     have z3 := b4.size
     have XO := hidden (YO.out.below b4 (by omega))
     have XR := hidden (YR.out.below b4 (by omega))
     have XM := hidden (YM.out.below b4 (by omega))
     have L0 := hidden (K0.out.below b4)
     have L1 := hidden (K1.out.below b4)
     have L3 := hidden (K3.out.below b4)
     have LB := hidden (KB.out.trans (b4.mono (by have := KB.out.size; omega)))
     clear YO YR YM K0 K1 K3 KB b4 q0 q1 q2 q3
     obtain ⟨q0, q1, q2, q3⟩ := XM.out.cells4
     obtain ⟨x0, x1, x2, x3⟩ := XO.out.cells4
     obtain ⟨p0, p1, p2, p3⟩ := XR.out.cells4
     have fz := XR.out.frozen
     have hbt : But (w.heap.size + 1) (w.heap.size + 2) w3 ((((w3.setCell ⟨w.heap.size + 1, 0, none⟩ (.slice b0 n0 e0)).setCell ⟨w.heap.size + 1, 1, none⟩ (.slice b1 n1 e1)).setCell ⟨w.heap.size + 1, 2, none⟩ (.bool true)).setCell ⟨w.heap.size + 1, 3, none⟩ (.slice b3 n3 e3)) :=
      (((But.setCell (by omega) (by omega) _).trans (But.setCell (by omega) (by omega) _)).trans (But.setCell (by omega) (by omega) _)).trans (But.setCell (by omega) (by omega) _)
     have z9 := hbt.size
     have FIN : Hid ((tMem 159).Own ((((w3.setCell ⟨w.heap.size + 1, 0, none⟩ (.slice b0 n0 e0)).setCell ⟨w.heap.size + 1, 1, none⟩ (.slice b1 n1 e1)).setCell ⟨w.heap.size + 1, 2, none⟩ (.bool true)).setCell ⟨w.heap.size + 1, 3, none⟩ (.slice b3 n3 e3)) w.heap.size ((((w3.setCell ⟨w.heap.size + 1, 0, none⟩ (.slice b0 n0 e0)).setCell ⟨w.heap.size + 1, 1, none⟩ (.slice b1 n1 e1)).setCell ⟨w.heap.size + 1, 2, none⟩ (.bool true)).setCell ⟨w.heap.size + 1, 3, none⟩ (.slice b3 n3 e3)).heap.size [.slice b0 n0 e0, .slice b1 n1 e1, .bool true, .slice b3 n3 e3] (ss, cs, true, bs)) := mem_own3 (L0.out.but hbt (by omega)) (L1.out.but hbt (by omega)) (L3.out.but hbt (by omega)) (by omega) (by omega) (by omega) (by omega) (by omega) (by omega)
     have FB := hidden (Below.andBut LB.out hbt (by omega))
     clear hbt
     go_wp2
     refine bodyPost_ret (v := .agg #[.slice b0 n0 e0, .slice b1 n1 e1, .bool true, .slice b3 n3 e3]) (by simp [results, Tryz.results135, go_sem, p0, p1, p2, p3]) rfl ?_
     exact ⟨_, _, _, rfl, FIN.out, FB.out⟩
   . have hf : f = false := by simpa using hf
     subst hf
     have e1 : flSS ss cs false bs = flushD ss cs := by unfold flSS; simp [hM]
     have e2 : flCS ss cs false bs = [] := by unfold flCS; simp [hM]
     rw [e1, e2]
     clear e1 e2
     have hA : Below w.heap.size w ((w.alloc (.cells #[.slice a0 n0 c0, .slice a1 n1 c1, .bool false, .slice a3 n3 c3] 109)).alloc (.cells #[.slice none 0 0, .slice none 0 0, .bool false, .slice none 0 0] 109)) := ((Below.refl _ _).alloc (Nat.le_refl _) _).alloc (by simp) _
     have xm : Box ((w.alloc (.cells #[.slice a0 n0 c0, .slice a1 n1 c1, .bool false, .slice a3 n3 c3] 109)).alloc (.cells #[.slice none 0 0, .slice none 0 0, .bool false, .slice none 0 0] 109)) w.heap.size 109 #[.slice a0 n0 c0, .slice a1 n1 c1, .bool false, .slice a3 n3 c3] := (Box.new w _ _).alloc _
     have xr : Box ((w.alloc (.cells #[.slice a0 n0 c0, .slice a1 n1 c1, .bool false, .slice a3 n3 c3] 109)).alloc (.cells #[.slice none 0 0, .slice none 0 0, .bool false, .slice none 0 0] 109)) (w.heap.size + 1) 109 #[.slice none 0 0, .slice none 0 0, .bool false, .slice none 0 0] := by
      have := Box.new (w.alloc (.cells #[.slice a0 n0 c0, .slice a1 n1 c1, .bool false, .slice a3 n3 c3] 109)) 109 #[.slice none 0 0, .slice none 0 0, .bool false, .slice none 0 0]
      rw [show (w.alloc (.cells #[.slice a0 n0 c0, .slice a1 n1 c1, .bool false, .slice a3 n3 c3] 109)).heap.size = w.heap.size + 1 by simp] at this
      exact this
     go_enter Tryz.func135, Tryz.ntmps135
     go_wp2_with fail
     generalize hW : (w.alloc (.cells #[.slice a0 n0 c0, .slice a1 n1 c1, .bool false, .slice a3 n3 c3] 109)).alloc (.cells #[.slice none 0 0, .slice none 0 0, .bool false, .slice none 0 0] 109) = W at hA xm xr ⊢
     clear hW
     have zr := xr.lt
     obtain ⟨q0, q1, q2, q3⟩ := xm.cells4
     have XM := hidden xm
     have XR := hidden xr
     clear xm xr
     refine (l2Copy_any _ E _ _ _ _ _ _ _ _ _ ss cs false bs (h0.below hA) (h1.below hA) (h3.below hA) hw).mono ?_
     intro e w1 hc
     obtain ⟨b0, b1, b3, e0, e1, e3, m1, m2, rfl, o3, o0, o1, r1, r2, r3, bb⟩ := copy_shapes hl0 hl1 hl3 hc
     clear hc
     have z1 := bb.size
     have sW : w.heap.size + 2 <= W.heap.size := by omega
     have ba : Below w1.heap.size w1 (w1.alloc (.cells #[.slice b0 n0 e0, .slice b1 n1 e1, .bool false, .slice b3 n3 e3] 109)) := (Below.refl _ _).alloc (Nat.le_refl _) _
     have yo := Box.new w1 109 #[.slice b0 n0 e0, .slice b1 n1 e1, .bool false, .slice b3 n3 e3]
     have zo := yo.lt
     have YO := hidden yo
     have YR := hidden ((XR.out.below bb zr).below ba (by omega))
     have YM := hidden ((XM.out.below bb (by omega)).below ba (by omega))
     have K0 := hidden (o0.below ba)
     have K1 := hidden (o1.below ba)
     have K3 := hidden (o3.below ba)
     have KB := hidden (hA.trans ((bb.mono (by omega : w.heap.size <= W.heap.size)).trans (ba.mono (by omega))))
     clear yo o0 o1 o3 XM XR bb ba hA q0 q1 q2 q3
     obtain ⟨q0, q1, q2, q3⟩ := YM.out.cells4
     go_wp2_with fail
     generalize w1.alloc (.cells #[.slice b0 n0 e0, .slice b1 n1 e1, .bool false, .slice b3 n3 e3] 109) = w2 at YO YR YM K0 K1 K3 KB zo q0 q1 q2 q3 ⊢
     refine (specMemOk_any _ E _ _ _ _ _ _ _ _ _ ss cs false bs (h0.below KB.out) (h1.below KB.out) (h3.below KB.out) hw).mono ?_
     rintro e w3 ⟨rfl, b4⟩
     have z3 := b4.size
     have XO := hidden (YO.out.below b4 (by omega))
     have XR := hidden (YR.out.below b4 (by omega))
     have XM := hidden (YM.out.below b4 (by omega))
     have L0 := hidden (K0.out.below b4)
     have L1 := hidden (K1.out.below b4)
     have L3 := hidden (K3.out.below b4)
     have LB := hidden (KB.out.trans (b4.mono (by have := KB.out.size; omega)))
     clear YO YR YM K0 K1 K3 KB b4 q0 q1 q2 q3
     obtain ⟨q0, q1, q2, q3⟩ := XM.out.cells4
     obtain ⟨x0, x1, x2, x3⟩ := XO.out.cells4
     have hn1' : 0 < n0 := by have := mem_some hM; omega
     obtain ⟨gS, hb0⟩ : ∃ gS, b0 = some ⟨gS, 0, none⟩ := by
      rcases L0.out.rowShape with h | ⟨g, h⟩
      . omega
      . exact ⟨g, h⟩
     subst hb0
     obtain ⟨fpS0, mS0, rS0⟩ := L0.out.mine
     have hgS := rS0 gS (row_parts mS0).1
     obtain ⟨gC, FC, hC0, hC1, hC2⟩ := cache_parts L1.out
     have MS0 := hidden mS0
     have RS0 := hidden rS0
     have HC1 := hidden hC1
     have HC2 := hidden hC2
     clear mS0 rS0 hC1 hC2
     go_wp2
     clear x0 x1 x2 x3
     go_loopw [4] (fun i wr => ∃ (j : Nat) (fpS : List Nat), j <= n1 /\ i = .int .i64 j /\ Turned [gS] w3 wr /\ tIntSS.Mine wr [.slice (some ⟨gS, 0, none⟩) n0 e0] (flushD ss (cs.take j)) fpS /\ (∀ b ∈ fpS, (m1 <= b /\ b < m2) ∨ ∃ i, i < j /\ b ∈ FC i)) (fun i _ => n1 - (intOf i).toNat)
     case atStart => exact ⟨0, fpS0, Nat.zero_le _, rfl, Turned.refl _ _, by rw [List.take_zero, flushD_nil]; exact MS0.out, fun b hb => .inl (RS0.out b hb)⟩
     case round =>
      obtain ⟨j, fpS, hj, rfl, tn, hS, hfp⟩ := hrel
      have hs := tn.size
      have xo := XO.out.turned tn (by simp; omega)
      obtain ⟨y0, y1, y2, y3⟩ := xo.cells4
      by_cases hjn : j < n1
      . have k1 : (0 : Int) <= (j : Int) := by omega
        have k2 : (j : Int) < (n1 : Int) := by omega
        rcases hC0 with hC0 | ⟨rfl, hC3, hC4⟩
        . omega
        have hdj : cs[j]? = some (cs[j]'(by omega)) := List.getElem?_eq_getElem (by omega)
        have htk : cs.take (j + 1) = cs.take j ++ [cs[j]'(by omega)] := List.take_succ_eq_append_getElem (by omega)
        have hmem : cs[j]'(by omega) ∈ cs := List.getElem_mem _
        generalize cs[j]'(by omega) = x at hdj htk hmem
        obtain ⟨q, hq, hql⟩ := mem_writes_lt hM x hmem
        obtain ⟨av, cv, mx, rx, cv0, cv1⟩ := HC1.out j x hdj
        obtain ⟨x0, x1⟩ := x
        simp only at hq mx rx cv0 cv1
        subst hq
        have ncs : gC ≠ gS := by omega
        have d0 := (cell_kept (tn.block gC (by omega) (by simp; omega)) (j * 2)).trans cv0
        have d1 := (cell_kept (tn.block gC (by omega) (by simp; omega)) (j * 2 + 1)).trans cv1
        have mr := mx.kept tn (fun b hb hb' => by have := rx b hb; simp at hb'; omega)
        obtain ⟨⟨old, cOld⟩, fz, hgm, fpA, mA, rA⟩ := row_set1 (j := q) rfl hS (by omega) mr (fun b hb hb' => by
         have h1 := rx b hb
         rcases hfp b hb' with h2 | ⟨i, h2, h3⟩
         . omega
         . exact HC2.out i j h2 (by omega) b h3 hb)
        have hfA : ∀ b ∈ fpA, (m1 <= b /\ b < m2) ∨ ∃ i, i < j + 1 /\ b ∈ FC i := fun b hb => by
         rcases rA b hb with h | h
         . rcases hfp b h with h2 | ⟨i, h2, h3⟩
           . exact .inl h2
           . exact .inr ⟨i, by omega, h3⟩
         . exact .inr ⟨j, by omega, h⟩
        have k3 : (0 : Int) <= (q : Int) := by omega
        have k4 : (q : Int) < (n0 : Int) := by omega
        have HTK := hidden htk
        have HFA := hidden hfA
        have MA := hidden mA
        have TA := hidden (tn.trans (Turned.setCell (w := wr) (g := gS) (j := q) (.slice av x1.length cv) (List.mem_cons_self : gS ∈ [gS])))
        have XOR := hidden xo
        have nO : Hid (w1.heap.size ≠ gS) := by unfold Hid; omega
        have nC : Hid (gC ≠ gS) := ncs
        have hT : Hid (wr.cell? ⟨gC, j * 2, none⟩ = some (.int .i64 (q : Int)) /\ wr.cell? ⟨gC, j * 2 + 1, none⟩ = some (.slice av x1.length cv)) := ⟨d0, d1⟩
        clear hdj htk hmem mx rx cv0 cv1 mr hfA mA rA tn hS hfp xo hgm ncs
        go_wp2_with fail
        go_region_held3 (fun w' => w'.cell? ⟨w1.heap.size, 0, none⟩ = some (.slice (some ⟨gS, 0, none⟩) n0 e0) /\ w'.cell? ⟨w1.heap.size, 1, none⟩ = some (.slice (some ⟨gC, 0, none⟩) n1 e1) /\ w'.cell? ⟨gC, j * 2, none⟩ = some (.int .i64 (q : Int)) /\ w'.cell? ⟨gC, j * 2 + 1, none⟩ = some (.slice av x1.length cv))
         (first | (exact ⟨y0, y1, d0, d1⟩) | (exact ⟨(XOR.out.other nO.out q (.slice av x1.length cv)).cell 0, (XOR.out.other nO.out q (.slice av x1.length cv)).cell 1, (cell_kept (Below.heap_setCell _ _ _ _ nC.out) _).trans d0, (cell_kept (Below.heap_setCell _ _ _ _ nC.out) _).trans d1⟩) | go_keep)
         (fail)
        clear d0 d1 y0 y1 y2 y3 cOld fz XOR nO nC hT
        go_wp2
        go_roundw
        case rel => exact ⟨j + 1, fpA, by omega, by go_num, Turned.adrew TA.out, by rw [HTK.out, flushD_snoc (by omega)]; exact Ty.Mine.adrew MA.out, HFA.out⟩
        case measure => simp [intOf]; omega
      . have e : n1 = j := by omega
        subst e
        rw [List.take_of_length_le (by omega)] at hS
        have yo := xo.alloc (.cells #[] 159)
        have ys := yo.set 1 (.slice (some ⟨wr.heap.size, 0, none⟩) 0 0)
        have yt := ((XR.out.turned tn (by simp; omega)).alloc (.cells #[] 159)).other (g := w1.heap.size) (by omega) 1 (.slice (some ⟨wr.heap.size, 0, none⟩) 0 0)
        obtain ⟨s0, s1, s2, s3⟩ := yo.cells4
        have fo := yo.frozen 1
        obtain ⟨t0, t1, t2, t3⟩ := Box.cells4 (v0 := .slice (some ⟨gS, 0, none⟩) n0 e0) (v1 := (.slice (some ⟨wr.heap.size, 0, none⟩) 0 0)) (v2 := .bool false) (v3 := .slice b3 n3 e3) ys
        obtain ⟨p0, p1, p2, p3⟩ := yt.cells4
        have fz := yt.frozen
        have zl : (wr.alloc (.cells #[] 159)).heap.size = wr.heap.size + 1 := by simp
        have ZL := hidden zl
        have bo := But.setCell (lo := w1.heap.size) (hi := w1.heap.size + 1) (g := w1.heap.size) (j := 1) (w := (wr.alloc (.cells #[] 159))) (Nat.le_refl _) (Nat.lt_succ_self _) (.slice (some ⟨wr.heap.size, 0, none⟩) 0 0)
        have bl : Below wr.heap.size wr (wr.alloc (.cells #[] 159)) := (Below.refl _ _).alloc (Nat.le_refl _) _
        have kl := ((lit0_mine (t := tWr) (E := 159) wr).own (lo := wr.heap.size) (hi := wr.heap.size + 1) (fun b hb => by simp at hb; omega)).but bo (.inr (by omega))
        have k0 := ((hS.own (lo := m1) (hi := w1.heap.size) (fun b hb => by
         rcases hfp b hb with h | ⟨i, h2, h3⟩
         . omega
         . by_cases hin : i < n1
           . obtain ⟨_, _, _, r, _⟩ := HC1.out i _ (List.getElem?_eq_getElem (by omega))
             have := r b h3
             omega
           . omega)).below bl).but bo (.inl (Nat.le_refl _))
        have k3 := ((L3.out.but (tn.but (lo := m1) (hi := m2) (by simp; omega)) (.inl (Nat.le_refl _))).below bl).but bo (.inl (by omega))
        have kb : Below w.heap.size w ((wr.alloc (.cells #[] 159)).setCell ⟨w1.heap.size, 1, none⟩ (.slice (some ⟨wr.heap.size, 0, none⟩) 0 0)) := LB.out.trans ((tn.below (N := w.heap.size) (by omega) (by simp; omega)).trans ((bl.mono (by omega)).trans (bo.below (by omega) (by omega))))
        have zs := bo.size
        clear zl bo bl hS tn hfp xo yo ys yt q0 q1 q2 q3 XM hC0 HC1 HC2 MS0 RS0
        go_wp2
        generalize ((wr.alloc (.cells #[] 159)).setCell ⟨w1.heap.size, 1, none⟩ (.slice (some ⟨wr.heap.size, 0, none⟩) 0 0)) = wz at t0 t1 t2 t3 p0 p1 p2 p3 fz kl k0 k3 kb zs ⊢
        have zL := ZL.out
        have hbt : But (w.heap.size + 1) (w.heap.size + 2) wz ((((wz.setCell ⟨w.heap.size + 1, 0, none⟩ (.slice (some ⟨gS, 0, none⟩) n0 e0)).setCell ⟨w.heap.size + 1, 1, none⟩ (.slice (some ⟨wr.heap.size, 0, none⟩) 0 0)).setCell ⟨w.heap.size + 1, 2, none⟩ (.bool false)).setCell ⟨w.heap.size + 1, 3, none⟩ (.slice b3 n3 e3)) :=
         (((But.setCell (by omega) (by omega) _).trans (But.setCell (by omega) (by omega) _)).trans (But.setCell (by omega) (by omega) _)).trans (But.setCell (by omega) (by omega) _)
        have z9 := hbt.size
        refine bodyPost_ret (v := .agg #[.slice (some ⟨gS, 0, none⟩) n0 e0, (.slice (some ⟨wr.heap.size, 0, none⟩) 0 0), .bool false, .slice b3 n3 e3]) (by simp [results, Tryz.results135, go_sem, p0, p1, p2, p3]) rfl ?_
        exact ⟨_, _, _, rfl, mem_own3 (k0.but hbt (by omega)) (kl.but hbt (by omega)) (k3.but hbt (by omega)) (by omega) (by omega) (by omega) (by omega) (by omega) (by omega), Below.andBut kb hbt (by omega)⟩
 . have hM : memB ss cs bs = false := by simpa using hM
   have e1 : flSS ss cs f bs = ss := by unfold flSS; simp [hM]
   have e2 : flCS ss cs f bs = cs := by unfold flCS; simp [hM]
   rw [e1, e2]
   clear e1 e2
   have hA : Below w.heap.size w ((w.alloc (.cells #[.slice a0 n0 c0, .slice a1 n1 c1, .bool f, .slice a3 n3 c3] 109)).alloc (.cells #[.slice none 0 0, .slice none 0 0, .bool false, .slice none 0 0] 109)) := ((Below.refl _ _).alloc (Nat.le_refl _) _).alloc (by simp) _
   have xm : Box ((w.alloc (.cells #[.slice a0 n0 c0, .slice a1 n1 c1, .bool f, .slice a3 n3 c3] 109)).alloc (.cells #[.slice none 0 0, .slice none 0 0, .bool false, .slice none 0 0] 109)) w.heap.size 109 #[.slice a0 n0 c0, .slice a1 n1 c1, .bool f, .slice a3 n3 c3] := (Box.new w _ _).alloc _
   have xr : Box ((w.alloc (.cells #[.slice a0 n0 c0, .slice a1 n1 c1, .bool f, .slice a3 n3 c3] 109)).alloc (.cells #[.slice none 0 0, .slice none 0 0, .bool false, .slice none 0 0] 109)) (w.heap.size + 1) 109 #[.slice none 0 0, .slice none 0 0, .bool false, .slice none 0 0] := by
    have := Box.new (w.alloc (.cells #[.slice a0 n0 c0, .slice a1 n1 c1, .bool f, .slice a3 n3 c3] 109)) 109 #[.slice none 0 0, .slice none 0 0, .bool false, .slice none 0 0]
    rw [show (w.alloc (.cells #[.slice a0 n0 c0, .slice a1 n1 c1, .bool f, .slice a3 n3 c3] 109)).heap.size = w.heap.size + 1 by simp] at this
    exact this
   go_enter Tryz.func135, Tryz.ntmps135
   go_wp2_with fail
   generalize hW : (w.alloc (.cells #[.slice a0 n0 c0, .slice a1 n1 c1, .bool f, .slice a3 n3 c3] 109)).alloc (.cells #[.slice none 0 0, .slice none 0 0, .bool false, .slice none 0 0] 109) = W at hA xm xr ⊢
   clear hW
   have zr := xr.lt
   obtain ⟨q0, q1, q2, q3⟩ := xm.cells4
   have XM := hidden xm
   have XR := hidden xr
   clear xm xr
   refine (l2Copy_any _ E _ _ _ _ _ _ _ _ _ ss cs f bs (h0.below hA) (h1.below hA) (h3.below hA) hw).mono ?_
   intro e w1 hc
   obtain ⟨b0, b1, b3, e0, e1, e3, m1, m2, rfl, o3, o0, o1, r1, r2, r3, bb⟩ := copy_shapes hl0 hl1 hl3 hc
   clear hc
   have z1 := bb.size
   have sW : w.heap.size + 2 <= W.heap.size := by omega
   have ba : Below w1.heap.size w1 (w1.alloc (.cells #[.slice b0 n0 e0, .slice b1 n1 e1, .bool f, .slice b3 n3 e3] 109)) := (Below.refl _ _).alloc (Nat.le_refl _) _
   have yo := Box.new w1 109 #[.slice b0 n0 e0, .slice b1 n1 e1, .bool f, .slice b3 n3 e3]
   have zo := yo.lt
   have YO := hidden yo
   have YR := hidden ((XR.out.below bb zr).below ba (by omega))
   have YM := hidden ((XM.out.below bb (by omega)).below ba (by omega))
   have K0 := hidden (o0.below ba)
   have K1 := hidden (o1.below ba)
   have K3 := hidden (o3.below ba)
   have KB := hidden (hA.trans ((bb.mono (by omega : w.heap.size <= W.heap.size)).trans (ba.mono (by omega))))
   clear yo o0 o1 o3 XM XR bb ba hA q0 q1 q2 q3
   obtain ⟨q0, q1, q2, q3⟩ := YM.out.cells4
   go_wp2_with fail
   generalize w1.alloc (.cells #[.slice b0 n0 e0, .slice b1 n1 e1, .bool f, .slice b3 n3 e3] 109) = w2 at YO YR YM K0 K1 K3 KB zo q0 q1 q2 q3 ⊢
   refine (specMemOk_any _ E _ _ _ _ _ _ _ _ _ ss cs f bs (h0.below KB.out) (h1.below KB.out) (h3.below KB.out) hw).mono ?_
   rintro e w3 ⟨rfl, b4⟩
   have z3 := b4.size
   have XO := hidden (YO.out.below b4 (by omega))
   have XR := hidden (YR.out.below b4 (by omega))
   have XM := hidden (YM.out.below b4 (by omega))
   have L0 := hidden (K0.out.below b4)
   have L1 := hidden (K1.out.below b4)
   have L3 := hidden (K3.out.below b4)
   have LB := hidden (KB.out.trans (b4.mono (by have := KB.out.size; omega)))
   clear YO YR YM K0 K1 K3 KB b4 q0 q1 q2 q3
   obtain ⟨q0, q1, q2, q3⟩ := XM.out.cells4
   obtain ⟨x0, x1, x2, x3⟩ := XO.out.cells4
   obtain ⟨p0, p1, p2, p3⟩ := XR.out.cells4
   have fz := XR.out.frozen
   have hbt : But (w.heap.size + 1) (w.heap.size + 2) w3 ((((w3.setCell ⟨w.heap.size + 1, 0, none⟩ (.slice b0 n0 e0)).setCell ⟨w.heap.size + 1, 1, none⟩ (.slice b1 n1 e1)).setCell ⟨w.heap.size + 1, 2, none⟩ (.bool f)).setCell ⟨w.heap.size + 1, 3, none⟩ (.slice b3 n3 e3)) :=
    (((But.setCell (by omega) (by omega) _).trans (But.setCell (by omega) (by omega) _)).trans (But.setCell (by omega) (by omega) _)).trans (But.setCell (by omega) (by omega) _)
   have z9 := hbt.size
   have FIN : Hid ((tMem 159).Own ((((w3.setCell ⟨w.heap.size + 1, 0, none⟩ (.slice b0 n0 e0)).setCell ⟨w.heap.size + 1, 1, none⟩ (.slice b1 n1 e1)).setCell ⟨w.heap.size + 1, 2, none⟩ (.bool f)).setCell ⟨w.heap.size + 1, 3, none⟩ (.slice b3 n3 e3)) w.heap.size ((((w3.setCell ⟨w.heap.size + 1, 0, none⟩ (.slice b0 n0 e0)).setCell ⟨w.heap.size + 1, 1, none⟩ (.slice b1 n1 e1)).setCell ⟨w.heap.size + 1, 2, none⟩ (.bool f)).setCell ⟨w.heap.size + 1, 3, none⟩ (.slice b3 n3 e3)).heap.size [.slice b0 n0 e0, .slice b1 n1 e1, .bool f, .slice b3 n3 e3] (ss, cs, f, bs)) := mem_own3 (L0.out.but hbt (by omega)) (L1.out.but hbt (by omega)) (L3.out.but hbt (by omega)) (by omega) (by omega) (by omega) (by omega) (by omega) (by omega)
   have FB := hidden (Below.andBut LB.out hbt (by omega))
   clear hbt
   go_wp2
   refine bodyPost_ret (v := .agg #[.slice b0 n0 e0, .slice b1 n1 e1, .bool f, .slice b3 n3 e3]) (by simp [results, Tryz.results135, go_sem, p0, p1, p2, p3]) rfl ?_
   exact ⟨_, _, _, rfl, FIN.out, FB.out⟩

end Go.Proofs.YtianjijbmiebgaaGreat

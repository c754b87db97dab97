/-
  The walks of the program's copyWords and copyMem and of the specification's l2Copy: the same data in memory of its own. Condition: it weighs at most 2097152.
-/
import Derived.Test.YtbkkjfgjlapadaaGreatHeld
import Derived.Test.YtbkkjfgjlapadaaGreatFrame
import Derived.Test.YtbkkjfgjlapadaaGreatWalkCopyWords
import Derived.Test.YtbkkjfgjlapadaaGreatOrder
namespace Go.Proofs.YtbkkjfgjlapadaaGreat
open Go.RowKit

set_option maxHeartbeats 8000000 in
theorem copyMem_any (w : World) (E : TypeId) (a0 a1 a3 : Option Addr) (n0 c0 n1 c1 n3 c3 : Nat) (ss : List (List Int)) (cs : List (Int × List Int)) (f : Bool) (bs : List Int) (h0 : tIntSS.Rd w [.slice a0 n0 c0] ss) (h1 : (tWrS E).Rd w [.slice a1 n1 c1] cs) (h3 : tIntS.Rd w [.slice a3 n3 c3] bs) (hw : wtMem (ss, cs, f, bs) ≤ 2097152) :
    Calls Tryz.prog 190 #[.agg #[.slice a0 n0 c0, .slice a1 n1 c1, .bool f, .slice a3 n3 c3]] w fun e w' => ∃ v0 v1 v3 m1 m2, e = .returned (.agg #[v0, v1, .bool f, v3]) ∧ tIntS.Own w' w.heap.size m1 [v3] bs ∧ tIntSS.Own w' m1 m2 [v0] ss ∧ (tWrS 214).Own w' m2 w'.heap.size [v1] cs ∧ m1 ≤ m2 ∧ w.heap.size ≤ m1 ∧ m2 ≤ w'.heap.size ∧ Below w.heap.size w w' := by
  obtain ⟨hl0, _, hm0⟩ := row_length h0
  obtain ⟨hl1, _, hm1⟩ := row_length h1
  obtain ⟨hl3, _, hm3⟩ := row_length h3
  have hw0 : wtIntSS ss ≤ 2097152 := by unfold wtMem at hw; simp only at hw; omega
  have hw1 : wtWrS cs ≤ 2097152 := by unfold wtMem at hw; simp only at hw; omega
  have hw3 : n3 ≤ 2097152 := by unfold wtMem at hw; simp only at hw; omega
  have hn0 : n0 ≤ 2097152 := by unfold wtIntSS at hw0; omega
  have hn1 : n1 ≤ 2097152 := by unfold wtWrS at hw1; omega
  obtain ⟨i0, hi, hz0, hz1, hz2⟩ := info_parts Tryz.infoIntS
  obtain ⟨i1, hi1, hy0, hy1, hy2⟩ := info_parts Tryz.infoWr
  have hA : Below w.heap.size w ((w.alloc (.cells #[.slice a0 n0 c0, .slice a1 n1 c1, .bool f, .slice a3 n3 c3] 147)).alloc (.cells #[.slice none 0 0, .slice none 0 0, .bool false, .slice none 0 0] 147)) := ((Below.refl _ _).alloc (Nat.le_refl _) _).alloc (by simp) _
  have xm : Box ((w.alloc (.cells #[.slice a0 n0 c0, .slice a1 n1 c1, .bool f, .slice a3 n3 c3] 147)).alloc (.cells #[.slice none 0 0, .slice none 0 0, .bool false, .slice none 0 0] 147)) w.heap.size 147 #[.slice a0 n0 c0, .slice a1 n1 c1, .bool f, .slice a3 n3 c3] := (Box.new w _ _).alloc _
  have xr : Box ((w.alloc (.cells #[.slice a0 n0 c0, .slice a1 n1 c1, .bool f, .slice a3 n3 c3] 147)).alloc (.cells #[.slice none 0 0, .slice none 0 0, .bool false, .slice none 0 0] 147)) (w.heap.size + 1) 147 #[.slice none 0 0, .slice none 0 0, .bool false, .slice none 0 0] := by
    have := Box.new (w.alloc (.cells #[.slice a0 n0 c0, .slice a1 n1 c1, .bool f, .slice a3 n3 c3] 147)) 147 #[.slice none 0 0, .slice none 0 0, .bool false, .slice none 0 0]
    rw [show (w.alloc (.cells #[.slice a0 n0 c0, .slice a1 n1 c1, .bool f, .slice a3 n3 c3] 147)).heap.size = w.heap.size + 1 by simp] at this
    exact this
  have hsz : ((w.alloc (.cells #[.slice a0 n0 c0, .slice a1 n1 c1, .bool f, .slice a3 n3 c3] 147)).alloc (.cells #[.slice none 0 0, .slice none 0 0, .bool false, .slice none 0 0] 147)).heap.size = w.heap.size + 1 + 1 := by simp
  have HSZ := hidden hsz
  clear hsz
  go_enter Tryz.func190, Tryz.ntmps190
  go_wp2_with fail
  generalize hW : (w.alloc (.cells #[.slice a0 n0 c0, .slice a1 n1 c1, .bool f, .slice a3 n3 c3] 147)).alloc (.cells #[.slice none 0 0, .slice none 0 0, .bool false, .slice none 0 0] 147) = W at hA xm xr HSZ ⊢
  clear hW
  obtain ⟨q0, q1, q2, q3⟩ := xm.cells4
  have zW : w.heap.size < W.heap.size := xm.lt
  have g3 := h3.below hA
  have hS : ∀ w', Below W.heap.size W w' → w'.cell? ⟨w.heap.size, 2, none⟩ = some (.bool f) ∧ w'.cell? ⟨w.heap.size, 3, none⟩ = some (.slice a3 n3 c3) := fun w' hb => ⟨(hb.cell (p := ⟨w.heap.size, 2, none⟩) zW).trans q2, (hb.cell (p := ⟨w.heap.size, 3, none⟩) zW).trans q3⟩
  go_region_held3 (fun w' => w'.cell? ⟨w.heap.size, 2, none⟩ = some (.bool f) ∧ w'.cell? ⟨w.heap.size, 3, none⟩ = some (.slice a3 n3 c3))
    (first | (exact hS _ hb5') | (exact hS _ (hb5'.alloc hb5'.size _)) | (exact hS _ (by go_grown)) | go_keep)
    (first
      | (go_at_call 125; refine (copyWords_any _ _ _ _ bs (by exact g3.drew) (by omega)).mono ?_; rintro e w5 ⟨a5, c5, rfl, o5, hb5⟩; have hb5' : Below W.heap.size W w5 := by exact (Below.refl W.heap.size W).drew.trans hb5)
      | (go_at_call 125; refine (copyWords_any _ _ _ _ bs (by exact (g3.below ((Below.refl _ _).alloc (Nat.le_refl _) _)).drew) (by omega)).mono ?_; rintro e w5 ⟨a5, c5, rfl, o5, hb5⟩; have hb5' : Below W.heap.size W w5 := (by exact ((Below.refl W.heap.size W).alloc (Nat.le_refl _) _).drew.trans (hb5.mono (by simp))); have xo : Box w5 W.heap.size 147 #[.slice none 0 0, .slice none 0 0, .bool false, .slice none 0 0] := (by exact Box.below (w := (W.alloc (.cells #[.slice none 0 0, .slice none 0 0, .bool false, .slice none 0 0] 147)).drew) (Box.new W 147 _) hb5 (by simp)); obtain ⟨t0, t1, t2, t3⟩ := xo.cells4; have u0 := xo.frozen 0; have u1 := xo.frozen 1; have u2 := xo.frozen 2; have u3 := xo.frozen 3))
  · have sW := HSZ.out
    have zz := hb5'.size
    have ba : Below w5.heap.size w5 (w5.alloc (.cells #[.slice none 0 0, .slice none 0 0, .bool f, .slice a5 n3 c5] 147)) := (Below.refl _ _).alloc (Nat.le_refl _) _
    have bb := Below.andThen hb5' ba
    obtain ⟨fp3, m3, r3⟩ := Ty.Own.mine (show tIntS.Own w5 W.heap.size w5.heap.size [.slice a5 n3 c5] bs from o5)
    have hz6 : (w5.alloc (.cells #[.slice none 0 0, .slice none 0 0, .bool f, .slice a5 n3 c5] 147)).heap.size = w5.heap.size + 1 := by simp
    have FM := hidden (xm.below bb zW)
    have FR := hidden (xr.below bb (by omega))
    have FO := hidden (Box.new w5 147 #[.slice none 0 0, .slice none 0 0, .bool f, .slice a5 n3 c5])
    have F3 := hidden (m3.below ba)
    have FB := hidden (hA.trans (bb.mono (by omega)))
    have FS : Hid (w.heap.size + 2 ≤ w5.heap.size ∧ w5.heap.size < (w5.alloc (.cells #[.slice none 0 0, .slice none 0 0, .bool f, .slice a5 n3 c5] 147)).heap.size ∧ ∀ b ∈ fp3, w.heap.size + 2 ≤ b ∧ b < (w5.alloc (.cells #[.slice none 0 0, .slice none 0 0, .bool f, .slice a5 n3 c5] 147)).heap.size ∧ b ≠ w5.heap.size) := ⟨by omega, by omega, fun b hb => by have := r3 b hb; omega⟩
    clear sW zz ba bb m3 r3 hz6 hS g3 q0 q1 q2 q3 xm xr hb5' o5 hb5 hA HSZ zW
    generalize w5.alloc (.cells #[.slice none 0 0, .slice none 0 0, .bool f, .slice a5 n3 c5] 147) = w6 at FM FR FO F3 FB FS ⊢
    generalize w5.heap.size = BO at FO FS ⊢
    obtain ⟨p0, p1, p2, p3⟩ := FM.out.cells4
    obtain ⟨fs1, fs2, fs3⟩ := FS.out
    go_wp2
    go_loopw [17] (fun i wr => ∃ (j : Nat) (v0 : Value) (fp0 : List Nat), j ≤ n0 ∧ i = .int .i64 j ∧ Fr w6.heap.size BO w6 wr ∧ Box wr BO 147 #[v0, .slice none 0 0, .bool f, .slice a5 n3 c5] ∧ tIntSS.Mine wr [v0] (ss.take j) fp0 ∧ (∀ b ∈ fp0, w6.heap.size ≤ b)) (fun i _ => n0 - (intOf i).toNat)
    case atStart => exact ⟨0, _, [], Nat.zero_le _, rfl, Fr.refl _ _ _, FO.out, nil_mine _, by simp⟩
    case round =>
      obtain ⟨j, v0, fp0, hj, rfl, fr, xo, hm, hfp⟩ := hrel
      have hs := fr.size
      have xm := fr.box FM.out (by omega) (by omega)
      have hb := FB.out.trans (fr.below (M := w.heap.size) (by omega) (by omega))
      obtain ⟨q0, q1, q2, q3⟩ := xm.cells4
      clear xm
      by_cases hjn : j < n0
      · rcases rows_at rfl h0 with h0' | ⟨b, off, rfl, hbl, hcs⟩
        · omega
        have hdj : ss[j]? = some (ss[j]'(by omega)) := List.getElem?_eq_getElem (by omega)
        have htk : ss.take (j + 1) = ss.take j ++ [ss[j]'(by omega)] := List.take_succ_eq_append_getElem (by omega)
        generalize ss[j]'(by omega) = x at hdj htk
        have hil := inner_le hdj
        obtain ⟨v, hv, hrv⟩ := hcs j x hdj
        obtain ⟨av, cv, rfl⟩ := row_shape hrv
        have pv := (hb.cell (p := ⟨b, off + j, none⟩) hbl).trans hv
        have HX := hidden (hrv.below hb)
        have k1 : (0 : Int) ≤ (j : Int) := by omega
        have k2 : (j : Int) < (n0 : Int) := by omega
        have HTK := hidden htk
        have XO := hidden xo
        have FRR := hidden fr
        have HM := hidden hm
        have HFP := hidden hfp
        have HL : Hid ((ss.take j).length = j) := by unfold Hid; rw [List.length_take]; omega
        have L1 : Hid ((ss.take j).length + 1 ≤ maxLen) := by unfold Hid; rw [HL.out]; unfold maxLen; omega
        have L2 : Hid (((ss.take j).length + 1) * 24 ≤ 140737488355328) := by unfold Hid; rw [HL.out]; omega
        have c0 : wr.drew.cell? ⟨BO, 0, none⟩ = some v0 := xo.cell 0
        clear hcs hdj hv hrv htk xo hm hfp hb fr
        go_wp2_with fail
        refine Upto.start (S := fun w' => w'.cell? ⟨BO, 0, none⟩ = some v0) (k := 7) (by kernel_rfl) ?_
        refine Upto.t 0 c0 ?_
        refine Upto.t 1 c0 ?_
        refine Upto.t 2 c0 ?_
        refine Upto.one (i := 3) (by kernel_rfl) rfl (fun K hK => ?_)
        go_simp
        refine (copyWords_any _ _ _ _ x (by exact HX.out.drew) (by omega)).mono ?_
        rintro e wc ⟨ac, cc, rfl, oc, hbc⟩
        have hbc' : Below wr.heap.size wr wc := (by exact (Below.refl wr.heap.size wr).drew.trans hbc)
        have xoc : Box wc BO 147 _ := XO.out.below hbc' (by omega)
        have c1 : wc.cell? ⟨BO, 0, none⟩ = some v0 := xoc.cell 0
        have c2 : (wc.alloc (.cells #[.slice ac x.length cc] 36)).cell? ⟨BO, 0, none⟩ = some v0 := (xoc.alloc (.cells #[.slice ac x.length cc] 36)).cell 0
        obtain ⟨fpx, mx, rx⟩ := Ty.Own.mine (lo := wr.heap.size) oc
        have XOC := hidden xoc
        have MX := hidden mx
        have RX := hidden rx
        have HBC := hidden hbc'
        clear xoc mx rx oc hbc hbc'
        go_wp2_with fail
        refine hK.out _ _ (fun _ => c1) ?_
        clear hK K
        refine Upto.one (i := 4) (by kernel_rfl) rfl (fun K hK => ?_)
        go_simp
        refine hK.out _ _ (fun _ => c2) ?_
        clear hK K
        refine Upto.one (i := 5) (by kernel_rfl) rfl (fun K hK => ?_)
        refine step_appT tIntS (by rfl) _ _ 144 (by rfl) 36 i0 (.slice none 0 0) 24 Tryz.underlying144 hi hz0 hz1 hz2 rfl Nat.zero_lt_one v0 (ss.take j) fp0 (by rfl) ?_ ⟨wc.heap.size, 0, none⟩ 1 [.slice ac x.length cc] x fpx (by rfl) ?_ ?_ ?_ ?_ L1.out L2.out ?_
        · exact (HM.out.below HBC.out).alloc _
        · exact MX.out.alloc _
        · intro b hb hb'
          have h1 := HM.out.lt b hb
          have h2 := RX.out b hb'
          omega
        · exact news_new _ _ _
        · intro u hu
          simp at hu
          rw [hu]
          rfl
        intro g cap wA fpA m1 m2 m3
        rw [HL.out] at m1 ⊢
        rw [← HTK.out] at m1
        have ya : Box wA BO 147 _ := (XOC.out.alloc _).turned m3 (fun hm => by have := HFP.out _ hm; omega)
        have r0 : wA.cell? ⟨BO, 0, none⟩ = some v0 := ya.cell 0
        have fz := ya.frozen 0
        have YA := hidden ya
        have M1 := hidden m1
        have M2 := hidden m2
        have M3 := hidden m3
        clear ya m1 m2 m3
        refine hK.out _ _ (fun _ => r0) ?_
        clear hK K
        simp only [Act.put, List.setIfInBounds_toArray, List.set_cons_zero, List.set_cons_succ]
        refine Upto.t 6 r0 ?_
        refine Upto.one (i := 7) (by kernel_rfl) rfl (fun K hK => ?_)
        go_simp
        refine hK.out _ _ (fun h => absurd rfl h) ?_
        clear hK K
        refine Upto.done (by kernel_rfl) ?_ _
        have hfA := round_fp (N := w6.heap.size) hs HBC.out HFP.out RX.out M2.out
        have frA := Fr.round FRR.out hs HBC.out _ M3.out HFP.out 0 (.slice (some ⟨g, 0, none⟩) (j + 1) cap)
        have mA := M1.out.setCell (g := BO) (j := 0) (fun hm => by have := hfA _ hm; omega) (.slice (some ⟨g, 0, none⟩) (j + 1) cap)
        have yA := YA.out.set 0 (.slice (some ⟨g, 0, none⟩) (j + 1) cap)
        have HFA := hidden hfA
        have FRA := hidden frA
        have MA := hidden mA
        have YA' := hidden yA
        clear hfA frA mA yA c0 c1 c2 r0 YA M1 M2 M3 XOC MX RX HBC HFP HM FRR XO
        go_wp2
        go_roundw
        case rel => exact ⟨j + 1, _, fpA, by omega, by go_num, FRA.out, YA'.out, MA.out, HFA.out⟩
        case measure => simp [intOf]; omega
      · have e : n0 = j := by omega
        subst e
        rw [List.take_of_length_le (by omega)] at hm
        have hlt := hm.lt
        have GR := hidden (fr.box FR.out (by omega) (by omega))
        have GM := hidden (fr.box FM.out (by omega) (by omega))
        have GB := hidden (FB.out.trans (fr.below (M := w.heap.size) (by omega) (by omega)))
        have G3 := hidden (fr.mine F3.out (fun b hb => by have := fs3 b hb; omega))
        have G0 := hidden (hm.own (lo := w6.heap.size) (hi := wr.heap.size) (fun b hb => ⟨hfp b hb, hlt b hb⟩))
        have GO := hidden xo
        clear fr xo hm hfp hlt FM FO F3 FB FR
        go_wp2
        generalize wr = w7 at hs GM GR GB G3 G0 GO q0 q1 q2 q3 ⊢
        go_loopw [32] (fun i wr => ∃ (j : Nat) (v1 : Value) (fp1 : List Nat), j ≤ n1 ∧ i = .int .i64 j ∧ Fr w7.heap.size BO w7 wr ∧ Box wr BO 147 #[v0, v1, .bool f, .slice a5 n3 c5] ∧ (tWrS 214).Mine wr [v1] (cs.take j) fp1 ∧ (∀ b ∈ fp1, w7.heap.size ≤ b)) (fun i _ => n1 - (intOf i).toNat)
        case atStart => exact ⟨0, _, [], Nat.zero_le _, rfl, Fr.refl _ _ _, GO.out, nil_mine _, by simp⟩
        case round =>
          obtain ⟨j, v1, fp1, hj, rfl, fr, xo, hm, hfp⟩ := hrel
          have hs2 := fr.size
          have xm := fr.box GM.out (by omega) (by omega)
          have hb := GB.out.trans (fr.below (M := w.heap.size) (by omega) (by omega))
          clear q0 q1 q2 q3
          obtain ⟨q0, q1, q2, q3⟩ := xm.cells4
          clear xm
          by_cases hjn : j < n1
          · rcases pairs_at rfl h1 with h0' | ⟨b, off, rfl, hbl, hcs⟩
            · omega
            have hdj : cs[j]? = some (cs[j]'(by omega)) := List.getElem?_eq_getElem (by omega)
            have htk : cs.take (j + 1) = cs.take j ++ [cs[j]'(by omega)] := List.take_succ_eq_append_getElem (by omega)
            generalize cs[j]'(by omega) = x at hdj htk
            have hil := inner_le' hdj
            obtain ⟨u0, u1, hv0, hv1, hrv⟩ := hcs j x hdj
            obtain ⟨rfl, hrv'⟩ := wr_rd hrv
            obtain ⟨av, cv, rfl⟩ := row_shape hrv'
            have pv0 := (hb.cell (p := ⟨b, off + j * 2, none⟩) hbl).trans hv0
            have pv1 := (hb.cell (p := ⟨b, off + j * 2 + 1, none⟩) hbl).trans hv1
            obtain ⟨x0, x1⟩ := x
            simp only at pv0 pv1 hrv' hil
            have HX := hidden (hrv'.below hb)
            have k1 : (0 : Int) ≤ (j : Int) := by omega
            have k2 : (j : Int) < (n1 : Int) := by omega
            have HTK := hidden htk
            have XO := hidden xo
            have FRR := hidden fr
            have HM := hidden hm
            have HFP := hidden hfp
            have HL : Hid ((cs.take j).length = j) := by unfold Hid; rw [List.length_take]; omega
            have L1 : Hid ((cs.take j).length + 1 ≤ maxLen) := by unfold Hid; rw [HL.out]; unfold maxLen; omega
            have L2 : Hid (((cs.take j).length + 1) * 32 ≤ 140737488355328) := by unfold Hid; rw [HL.out]; omega
            have xw := Box.new wr 214 #[.int .i64 x0, .slice av x1.length cv]
            have ba : Below wr.heap.size wr (wr.alloc (.cells #[.int .i64 x0, .slice av x1.length cv] 214)) := (Below.refl _ _).alloc (Nat.le_refl _) _
            have XO2 := hidden (xo.alloc (.cells #[.int .i64 x0, .slice av x1.length cv] 214))
            have HM2 := hidden (hm.alloc (.cells #[.int .i64 x0, .slice av x1.length cv] 214))
            have HX2 := hidden (HX.out.below ba)
            have FR2 := hidden (fr.trans (Fr.ofBelow (B := BO) ba hs2))
            have HZ : Hid (wr.heap.size < (wr.alloc (.cells #[.int .i64 x0, .slice av x1.length cv] 214)).heap.size) := by unfold Hid; simp
            have XW := hidden xw
            have HFX := hidden hm.lt
            clear hcs hdj hv0 hv1 hrv hrv' htk xo hm hfp hb fr xw ba HX HM FRR XO
            go_wp2_with fail
            generalize wr.alloc (.cells #[.int .i64 x0, .slice av x1.length cv] 214) = w8 at XO2 HM2 HX2 FR2 HZ XW ⊢
            have zw := HZ.out
            have hs8 : w7.heap.size ≤ w8.heap.size := by omega
            have c0 : w8.drew.cell? ⟨BO, 1, none⟩ = some v1 := XO2.out.cell 1
            have c1 : w8.drew.cell? ⟨wr.heap.size, 0, none⟩ = some (.int .i64 x0) := XW.out.cell 0
            have c2 : w8.drew.cell? ⟨wr.heap.size, 1, none⟩ = some (.slice av x1.length cv) := XW.out.cell 1
            have hS : w8.drew.cell? ⟨BO, 1, none⟩ = some v1 ∧ w8.drew.cell? ⟨wr.heap.size, 0, none⟩ = some (.int .i64 x0) ∧ w8.drew.cell? ⟨wr.heap.size, 1, none⟩ = some (.slice av x1.length cv) := ⟨c0, c1, c2⟩
            clear c0 c1 c2
            refine Upto.start (S := fun w' => w'.cell? ⟨BO, 1, none⟩ = some v1 ∧ w'.cell? ⟨wr.heap.size, 0, none⟩ = some (.int .i64 x0) ∧ w'.cell? ⟨wr.heap.size, 1, none⟩ = some (.slice av x1.length cv)) (k := 11) (by kernel_rfl) ?_
            refine Upto.take (i := 0) (v := ?_) rfl (by kernel_rfl) (by kernel_rfl) (by kernel_rfl) (by kernel_rfl) (fun _ _ _ h => h) (Or.inl ⟨by rfl, ?_⟩) hS ?_
            rotate_left 1
            · (intro w hSw; (try dsimp only at hSw); go_split_ands; go_simp; first | done | with_reducible rfl)
            refine Upto.t 1 hS ?_
            refine Upto.t 2 hS ?_
            refine Upto.t 3 hS ?_
            refine Upto.t 4 hS ?_
            refine Upto.t 5 hS ?_
            refine Upto.one (i := 6) (by kernel_rfl) rfl (fun K hK => ?_)
            go_simp
            refine (copyWords_any _ _ _ _ x1 (by exact HX2.out.drew) (by omega)).mono ?_
            rintro e wc ⟨ac, cc, rfl, oc, hbc⟩
            have hbc' : Below w8.heap.size w8 wc := (by exact (Below.refl w8.heap.size w8).drew.trans hbc)
            have xoc : Box wc BO 147 _ := XO2.out.below hbc' (by omega)
            have xwc : Box wc wr.heap.size 214 _ := XW.out.below hbc' zw
            have d0 : wc.cell? ⟨BO, 1, none⟩ = some v1 ∧ wc.cell? ⟨wr.heap.size, 0, none⟩ = some (.int .i64 x0) ∧ wc.cell? ⟨wr.heap.size, 1, none⟩ = some (.slice av x1.length cv) := ⟨xoc.cell 1, xwc.cell 0, xwc.cell 1⟩
            have d2 : (wc.alloc (.cells #[.int .i64 x0, .slice ac x1.length cc] 214)).cell? ⟨BO, 1, none⟩ = some v1 ∧ (wc.alloc (.cells #[.int .i64 x0, .slice ac x1.length cc] 214)).cell? ⟨wr.heap.size, 0, none⟩ = some (.int .i64 x0) ∧ (wc.alloc (.cells #[.int .i64 x0, .slice ac x1.length cc] 214)).cell? ⟨wr.heap.size, 1, none⟩ = some (.slice av x1.length cv) := ⟨(xoc.alloc _).cell 1, (xwc.alloc _).cell 0, (xwc.alloc _).cell 1⟩
            obtain ⟨fpx, mx, rx⟩ := Ty.Own.mine (lo := w8.heap.size) oc
            have XOC := hidden xoc
            have XWC := hidden xwc
            have MX := hidden mx
            have RX := hidden rx
            have HBC := hidden hbc'
            clear xoc xwc mx rx oc hbc hbc'
            go_wp2_with fail
            refine hK.out _ _ (fun _ => d0) ?_
            clear hK K
            refine Upto.t 7 d0 ?_
            refine Upto.one (i := 8) (by kernel_rfl) rfl (fun K hK => ?_)
            go_simp
            refine hK.out _ _ (fun _ => d2) ?_
            clear hK K
            refine Upto.one (i := 9) (by kernel_rfl) rfl (fun K hK => ?_)
            refine step_appT tWr (by rfl) _ _ 145 (by rfl) 214 i1 (.agg #[.int .i64 0, .slice none 0 0]) 32 Tryz.underlying145 hi1 hy0 hy1 hy2 rfl Nat.zero_lt_two v1 (cs.take j) fp1 (by rfl) ?_ ⟨wc.heap.size, 0, none⟩ 1 [.int .i64 x0, .slice ac x1.length cc] (x0, x1) fpx (by rfl) ?_ ?_ ?_ ?_ L1.out L2.out ?_
            · exact (HM2.out.below HBC.out).alloc _
            · exact (wr_mine x0 MX.out).alloc _
            · intro b hb hb'
              have h1 := HM2.out.lt b hb
              have h2 := RX.out b hb'
              omega
            · exact news_new _ _ _
            · intro u hu
              simp at hu
              rcases hu with hu | hu <;> (rw [hu]; rfl)
            intro g cap wA fpA m1 m2 m3
            rw [HL.out] at m1 ⊢
            rw [← HTK.out] at m1
            have ya : Box wA BO 147 _ := (XOC.out.alloc _).turned m3 (fun hm => by have := HFP.out _ hm; omega)
            have yw : Box wA wr.heap.size 214 _ := (XWC.out.alloc _).turned m3 (fun hm => by have h1 := HM2.out; have h2 := HFX.out _ hm; omega)
            have r0 : wA.cell? ⟨BO, 1, none⟩ = some v1 ∧ wA.cell? ⟨wr.heap.size, 0, none⟩ = some (.int .i64 x0) ∧ wA.cell? ⟨wr.heap.size, 1, none⟩ = some (.slice av x1.length cv) := ⟨ya.cell 1, yw.cell 0, yw.cell 1⟩
            have q9 := r0.1
            have fz := ya.frozen 1
            have YA := hidden ya
            have M1 := hidden m1
            have M2 := hidden m2
            have M3 := hidden m3
            clear ya yw m1 m2 m3
            refine hK.out _ _ (fun _ => r0) ?_
            clear hK K
            simp only [Act.put, List.setIfInBounds_toArray, List.set_cons_zero, List.set_cons_succ]
            refine Upto.t 10 r0 ?_
            refine Upto.one (i := 11) (by kernel_rfl) rfl (fun K hK => ?_)
            go_simp
            refine hK.out _ _ (fun h => absurd rfl h) ?_
            clear hK K
            refine Upto.done (by kernel_rfl) ?_ _
            have hfA := round_fp (N := w7.heap.size) hs8 HBC.out HFP.out RX.out M2.out
            have frA := Fr.round FR2.out hs8 HBC.out _ M3.out HFP.out 1 (.slice (some ⟨g, 0, none⟩) (j + 1) cap)
            have mA := M1.out.setCell (g := BO) (j := 1) (fun hm => by have := hfA _ hm; omega) (.slice (some ⟨g, 0, none⟩) (j + 1) cap)
            have yA := YA.out.set 1 (.slice (some ⟨g, 0, none⟩) (j + 1) cap)
            have HFA := hidden hfA
            have FRA := hidden frA
            have MA := hidden mA
            have YA' := hidden yA
            clear hfA frA mA yA hS d0 d2 r0 q9 YA M1 M2 M3 XOC MX RX HBC HFP HM2 FR2 XO2 XW HX2 XWC HFX
            go_wp2
            go_roundw
            case rel => exact ⟨j + 1, _, fpA, by omega, by go_num, FRA.out, YA'.out, MA.out, HFA.out⟩
            case measure => simp [intOf]; omega
          · have e : n1 = j := by omega
            subst e
            rw [List.take_of_length_le (by omega)] at hm
            have hlt := hm.lt
            have xr := fr.box GR.out (by omega) (by omega)
            obtain ⟨p0, p1, p2, p3⟩ := xr.cells4
            have fz := xr.frozen
            obtain ⟨r0, r1, r2, r3⟩ := xo.cells4
            have K3 := fr.mine G3.out (fun b hb => by have := fs3 b hb; omega)
            have K0 := fr.own G0.out (by omega) (by omega)
            have K1 := hm.own (lo := w7.heap.size) (hi := wr.heap.size) (fun b hb => ⟨hfp b hb, hlt b hb⟩)
            have KB := GB.out.trans (fr.below (M := w.heap.size) (by omega) (by omega))
            obtain ⟨e0, g0, hv0⟩ := row_shape K0.rd
            obtain ⟨e1, g1, hv1⟩ := row_shape K1.rd
            rw [hl0] at hv0
            rw [hl1] at hv1
            subst hv0 hv1
            have hbt : But (w.heap.size + 1) (w.heap.size + 2) wr ((((wr.setCell ⟨w.heap.size + 1, 0, none⟩ (.slice e0 n0 g0)).setCell ⟨w.heap.size + 1, 1, none⟩ (.slice e1 n1 g1)).setCell ⟨w.heap.size + 1, 2, none⟩ (.bool f)).setCell ⟨w.heap.size + 1, 3, none⟩ (.slice a5 n3 c5)) :=
              (((But.setCell (by omega) (by omega) _).trans (But.setCell (by omega) (by omega) _)).trans (But.setCell (by omega) (by omega) _)).trans (But.setCell (by omega) (by omega) _)
            have H3 := hidden ((K3.but hbt (fun b hb => by have := fs3 b hb; omega)).own (lo := w.heap.size) (hi := w6.heap.size) (fun b hb => by have := fs3 b hb; omega))
            have H0 := hidden (K0.but hbt (by omega))
            have H1 := hidden (K1.but hbt (by omega))
            have HB := hidden (Below.andBut KB hbt (by omega))
            have hsz := hbt.size
            clear fr xo hm hfp hlt xr K3 K0 K1 KB hbt GM GR GB G3 G0 GO
            go_wp2
            refine bodyPost_ret (v := .agg #[.slice e0 n0 g0, .slice e1 n1 g1, .bool f, .slice a5 n3 c5]) (by simp [results, Tryz.results190, go_sem, p0, p1, p2, p3]) rfl ?_
            exact ⟨_, _, _, w6.heap.size, w7.heap.size, rfl, H3.out, H0.out, H1.out.widen (Nat.le_refl _) hsz, by omega, by omega, by omega, HB.out⟩
  · have sW := HSZ.out
    have zz := hb5'.size
    have zy : W.heap.size < w5.heap.size := xo.lt
    have hbt : But W.heap.size (W.heap.size + 1) w5 ((((w5.setCell ⟨W.heap.size, 0, none⟩ (.slice none 0 0)).setCell ⟨W.heap.size, 1, none⟩ (.slice none 0 0)).setCell ⟨W.heap.size, 2, none⟩ (.bool f)).setCell ⟨W.heap.size, 3, none⟩ (.slice a5 n3 c5)) :=
      (((But.setCell (by omega) (by omega) _).trans (But.setCell (by omega) (by omega) _)).trans (But.setCell (by omega) (by omega) _)).trans (But.setCell (by omega) (by omega) _)
    obtain ⟨fp3, m3, r3⟩ := Ty.Own.mine (show tIntS.Own w5 (W.alloc (.cells #[.slice none 0 0, .slice none 0 0, .bool false, .slice none 0 0] 147)).heap.size w5.heap.size [.slice a5 n3 c5] bs from o5)
    have hz6 : (W.alloc (.cells #[.slice none 0 0, .slice none 0 0, .bool false, .slice none 0 0] 147)).heap.size = W.heap.size + 1 := by simp
    have FM := hidden ((xm.below hb5' zW).kept (hbt.block _ (by omega) (by omega)))
    have FR := hidden ((xr.below hb5' (by omega)).kept (hbt.block _ (by omega) (by omega)))
    have FO := hidden ((((xo.set 0 (.slice none 0 0)).set 1 (.slice none 0 0)).set 2 (.bool f)).set 3 (.slice a5 n3 c5))
    have F3 := hidden (m3.but hbt (fun b hb => by have := r3 b hb; omega))
    have FB := hidden (hA.trans ((hb5'.mono (by omega : w.heap.size ≤ W.heap.size)).trans (hbt.below (by omega) (by omega))))
    have hsz := hbt.size
    have FS : Hid (w.heap.size + 2 ≤ W.heap.size ∧ W.heap.size < ((((w5.setCell ⟨W.heap.size, 0, none⟩ (.slice none 0 0)).setCell ⟨W.heap.size, 1, none⟩ (.slice none 0 0)).setCell ⟨W.heap.size, 2, none⟩ (.bool f)).setCell ⟨W.heap.size, 3, none⟩ (.slice a5 n3 c5)).heap.size ∧ ∀ b ∈ fp3, w.heap.size + 2 ≤ b ∧ b < ((((w5.setCell ⟨W.heap.size, 0, none⟩ (.slice none 0 0)).setCell ⟨W.heap.size, 1, none⟩ (.slice none 0 0)).setCell ⟨W.heap.size, 2, none⟩ (.bool f)).setCell ⟨W.heap.size, 3, none⟩ (.slice a5 n3 c5)).heap.size ∧ b ≠ W.heap.size) := ⟨by omega, by omega, fun b hb => by have := r3 b hb; omega⟩
    clear sW zz zy hbt m3 r3 hz6 hsz hS g3 q0 q1 q2 q3 xm xr hb5' o5 hb5 hA HSZ zW xo t0 t1 t2 t3 u0 u1 u2 u3
    generalize (((w5.setCell ⟨W.heap.size, 0, none⟩ (.slice none 0 0)).setCell ⟨W.heap.size, 1, none⟩ (.slice none 0 0)).setCell ⟨W.heap.size, 2, none⟩ (.bool f)).setCell ⟨W.heap.size, 3, none⟩ (.slice a5 n3 c5) = w6 at FM FR FO F3 FB FS ⊢
    generalize W.heap.size = BO at FO FS ⊢
    obtain ⟨p0, p1, p2, p3⟩ := FM.out.cells4
    obtain ⟨fs1, fs2, fs3⟩ := FS.out
    go_wp2
    go_loopw [17] (fun i wr => ∃ (j : Nat) (v0 : Value) (fp0 : List Nat), j ≤ n0 ∧ i = .int .i64 j ∧ Fr w6.heap.size BO w6 wr ∧ Box wr BO 147 #[v0, .slice none 0 0, .bool f, .slice a5 n3 c5] ∧ tIntSS.Mine wr [v0] (ss.take j) fp0 ∧ (∀ b ∈ fp0, w6.heap.size ≤ b)) (fun i _ => n0 - (intOf i).toNat)
    case atStart => exact ⟨0, _, [], Nat.zero_le _, rfl, Fr.refl _ _ _, FO.out, nil_mine _, by simp⟩
    case round =>
      obtain ⟨j, v0, fp0, hj, rfl, fr, xo, hm, hfp⟩ := hrel
      have hs := fr.size
      have xm := fr.box FM.out (by omega) (by omega)
      have hb := FB.out.trans (fr.below (M := w.heap.size) (by omega) (by omega))
      obtain ⟨q0, q1, q2, q3⟩ := xm.cells4
      clear xm
      by_cases hjn : j < n0
      · rcases rows_at rfl h0 with h0' | ⟨b, off, rfl, hbl, hcs⟩
        · omega
        have hdj : ss[j]? = some (ss[j]'(by omega)) := List.getElem?_eq_getElem (by omega)
        have htk : ss.take (j + 1) = ss.take j ++ [ss[j]'(by omega)] := List.take_succ_eq_append_getElem (by omega)
        generalize ss[j]'(by omega) = x at hdj htk
        have hil := inner_le hdj
        obtain ⟨v, hv, hrv⟩ := hcs j x hdj
        obtain ⟨av, cv, rfl⟩ := row_shape hrv
        have pv := (hb.cell (p := ⟨b, off + j, none⟩) hbl).trans hv
        have HX := hidden (hrv.below hb)
        have k1 : (0 : Int) ≤ (j : Int) := by omega
        have k2 : (j : Int) < (n0 : Int) := by omega
        have HTK := hidden htk
        have XO := hidden xo
        have FRR := hidden fr
        have HM := hidden hm
        have HFP := hidden hfp
        have HL : Hid ((ss.take j).length = j) := by unfold Hid; rw [List.length_take]; omega
        have L1 : Hid ((ss.take j).length + 1 ≤ maxLen) := by unfold Hid; rw [HL.out]; unfold maxLen; omega
        have L2 : Hid (((ss.take j).length + 1) * 24 ≤ 140737488355328) := by unfold Hid; rw [HL.out]; omega
        have c0 : wr.drew.cell? ⟨BO, 0, none⟩ = some v0 := xo.cell 0
        clear hcs hdj hv hrv htk xo hm hfp hb fr
        go_wp2_with fail
        refine Upto.start (S := fun w' => w'.cell? ⟨BO, 0, none⟩ = some v0) (k := 7) (by kernel_rfl) ?_
        refine Upto.take (i := 0) (v := ?_) rfl (by kernel_rfl) (by kernel_rfl) (by kernel_rfl) (by kernel_rfl) (fun _ _ _ h => h) (Or.inl ⟨by rfl, ?_⟩) c0 ?_
        rotate_left 1
        · (intro w hSw; (try dsimp only at hSw); go_split_ands; go_simp; first | done | with_reducible rfl)
        refine Upto.t 1 c0 ?_
        refine Upto.t 2 c0 ?_
        refine Upto.one (i := 3) (by kernel_rfl) rfl (fun K hK => ?_)
        go_simp
        refine (copyWords_any _ _ _ _ x (by exact HX.out.drew) (by omega)).mono ?_
        rintro e wc ⟨ac, cc, rfl, oc, hbc⟩
        have hbc' : Below wr.heap.size wr wc := (by exact (Below.refl wr.heap.size wr).drew.trans hbc)
        have xoc : Box wc BO 147 _ := XO.out.below hbc' (by omega)
        have c1 : wc.cell? ⟨BO, 0, none⟩ = some v0 := xoc.cell 0
        have c2 : (wc.alloc (.cells #[.slice ac x.length cc] 36)).cell? ⟨BO, 0, none⟩ = some v0 := (xoc.alloc (.cells #[.slice ac x.length cc] 36)).cell 0
        obtain ⟨fpx, mx, rx⟩ := Ty.Own.mine (lo := wr.heap.size) oc
        have XOC := hidden xoc
        have MX := hidden mx
        have RX := hidden rx
        have HBC := hidden hbc'
        clear xoc mx rx oc hbc hbc'
        go_wp2_with fail
        refine hK.out _ _ (fun _ => c1) ?_
        clear hK K
        refine Upto.one (i := 4) (by kernel_rfl) rfl (fun K hK => ?_)
        go_simp
        refine hK.out _ _ (fun _ => c2) ?_
        clear hK K
        refine Upto.one (i := 5) (by kernel_rfl) rfl (fun K hK => ?_)
        refine step_appT tIntS (by rfl) _ _ 144 (by rfl) 36 i0 (.slice none 0 0) 24 Tryz.underlying144 hi hz0 hz1 hz2 rfl Nat.zero_lt_one v0 (ss.take j) fp0 (by rfl) ?_ ⟨wc.heap.size, 0, none⟩ 1 [.slice ac x.length cc] x fpx (by rfl) ?_ ?_ ?_ ?_ L1.out L2.out ?_
        · exact (HM.out.below HBC.out).alloc _
        · exact MX.out.alloc _
        · intro b hb hb'
          have h1 := HM.out.lt b hb
          have h2 := RX.out b hb'
          omega
        · exact news_new _ _ _
        · intro u hu
          simp at hu
          rw [hu]
          rfl
        intro g cap wA fpA m1 m2 m3
        rw [HL.out] at m1 ⊢
        rw [← HTK.out] at m1
        have ya : Box wA BO 147 _ := (XOC.out.alloc _).turned m3 (fun hm => by have := HFP.out _ hm; omega)
        have r0 : wA.cell? ⟨BO, 0, none⟩ = some v0 := ya.cell 0
        have fz := ya.frozen 0
        have YA := hidden ya
        have M1 := hidden m1
        have M2 := hidden m2
        have M3 := hidden m3
        clear ya m1 m2 m3
        refine hK.out _ _ (fun _ => r0) ?_
        clear hK K
        simp only [Act.put, List.setIfInBounds_toArray, List.set_cons_zero, List.set_cons_succ]
        refine Upto.t 6 r0 ?_
        refine Upto.one (i := 7) (by kernel_rfl) rfl (fun K hK => ?_)
        go_simp
        refine hK.out _ _ (fun h => absurd rfl h) ?_
        clear hK K
        refine Upto.done (by kernel_rfl) ?_ _
        have hfA := round_fp (N := w6.heap.size) hs HBC.out HFP.out RX.out M2.out
        have frA := Fr.round FRR.out hs HBC.out _ M3.out HFP.out 0 (.slice (some ⟨g, 0, none⟩) (j + 1) cap)
        have mA := M1.out.setCell (g := BO) (j := 0) (fun hm => by have := hfA _ hm; omega) (.slice (some ⟨g, 0, none⟩) (j + 1) cap)
        have yA := YA.out.set 0 (.slice (some ⟨g, 0, none⟩) (j + 1) cap)
        have HFA := hidden hfA
        have FRA := hidden frA
        have MA := hidden mA
        have YA' := hidden yA
        clear hfA frA mA yA c0 c1 c2 r0 YA M1 M2 M3 XOC MX RX HBC HFP HM FRR XO
        go_wp2
        go_roundw
        case rel => exact ⟨j + 1, _, fpA, by omega, by go_num, FRA.out, YA'.out, MA.out, HFA.out⟩
        case measure => simp [intOf]; omega
      · have e : n0 = j := by omega
        subst e
        rw [List.take_of_length_le (by omega)] at hm
        have hlt := hm.lt
        have GR := hidden (fr.box FR.out (by omega) (by omega))
        have GM := hidden (fr.box FM.out (by omega) (by omega))
        have GB := hidden (FB.out.trans (fr.below (M := w.heap.size) (by omega) (by omega)))
        have G3 := hidden (fr.mine F3.out (fun b hb => by have := fs3 b hb; omega))
        have G0 := hidden (hm.own (lo := w6.heap.size) (hi := wr.heap.size) (fun b hb => ⟨hfp b hb, hlt b hb⟩))
        have GO := hidden xo
        clear fr xo hm hfp hlt FM FO F3 FB FR
        go_wp2
        generalize wr = w7 at hs GM GR GB G3 G0 GO q0 q1 q2 q3 ⊢
        go_loopw [32] (fun i wr => ∃ (j : Nat) (v1 : Value) (fp1 : List Nat), j ≤ n1 ∧ i = .int .i64 j ∧ Fr w7.heap.size BO w7 wr ∧ Box wr BO 147 #[v0, v1, .bool f, .slice a5 n3 c5] ∧ (tWrS 214).Mine wr [v1] (cs.take j) fp1 ∧ (∀ b ∈ fp1, w7.heap.size ≤ b)) (fun i _ => n1 - (intOf i).toNat)
        case atStart => exact ⟨0, _, [], Nat.zero_le _, rfl, Fr.refl _ _ _, GO.out, nil_mine _, by simp⟩
        case round =>
          obtain ⟨j, v1, fp1, hj, rfl, fr, xo, hm, hfp⟩ := hrel
          have hs2 := fr.size
          have xm := fr.box GM.out (by omega) (by omega)
          have hb := GB.out.trans (fr.below (M := w.heap.size) (by omega) (by omega))
          clear q0 q1 q2 q3
          obtain ⟨q0, q1, q2, q3⟩ := xm.cells4
          clear xm
          by_cases hjn : j < n1
          · rcases pairs_at rfl h1 with h0' | ⟨b, off, rfl, hbl, hcs⟩
            · omega
            have hdj : cs[j]? = some (cs[j]'(by omega)) := List.getElem?_eq_getElem (by omega)
            have htk : cs.take (j + 1) = cs.take j ++ [cs[j]'(by omega)] := List.take_succ_eq_append_getElem (by omega)
            generalize cs[j]'(by omega) = x at hdj htk
            have hil := inner_le' hdj
            obtain ⟨u0, u1, hv0, hv1, hrv⟩ := hcs j x hdj
            obtain ⟨rfl, hrv'⟩ := wr_rd hrv
            obtain ⟨av, cv, rfl⟩ := row_shape hrv'
            have pv0 := (hb.cell (p := ⟨b, off + j * 2, none⟩) hbl).trans hv0
            have pv1 := (hb.cell (p := ⟨b, off + j * 2 + 1, none⟩) hbl).trans hv1
            obtain ⟨x0, x1⟩ := x
            simp only at pv0 pv1 hrv' hil
            have HX := hidden (hrv'.below hb)
            have k1 : (0 : Int) ≤ (j : Int) := by omega
            have k2 : (j : Int) < (n1 : Int) := by omega
            have HTK := hidden htk
            have XO := hidden xo
            have FRR := hidden fr
            have HM := hidden hm
            have HFP := hidden hfp
            have HL : Hid ((cs.take j).length = j) := by unfold Hid; rw [List.length_take]; omega
            have L1 : Hid ((cs.take j).length + 1 ≤ maxLen) := by unfold Hid; rw [HL.out]; unfold maxLen; omega
            have L2 : Hid (((cs.take j).length + 1) * 32 ≤ 140737488355328) := by unfold Hid; rw [HL.out]; omega
            have xw := Box.new wr 214 #[.int .i64 x0, .slice av x1.length cv]
            have ba : Below wr.heap.size wr (wr.alloc (.cells #[.int .i64 x0, .slice av x1.length cv] 214)) := (Below.refl _ _).alloc (Nat.le_refl _) _
            have XO2 := hidden (xo.alloc (.cells #[.int .i64 x0, .slice av x1.length cv] 214))
            have HM2 := hidden (hm.alloc (.cells #[.int .i64 x0, .slice av x1.length cv] 214))
            have HX2 := hidden (HX.out.below ba)
            have FR2 := hidden (fr.trans (Fr.ofBelow (B := BO) ba hs2))
            have HZ : Hid (wr.heap.size < (wr.alloc (.cells #[.int .i64 x0, .slice av x1.length cv] 214)).heap.size) := by unfold Hid; simp
            have XW := hidden xw
            have HFX := hidden hm.lt
            clear hcs hdj hv0 hv1 hrv hrv' htk xo hm hfp hb fr xw ba HX HM FRR XO
            go_wp2_with fail
            generalize wr.alloc (.cells #[.int .i64 x0, .slice av x1.length cv] 214) = w8 at XO2 HM2 HX2 FR2 HZ XW ⊢
            have zw := HZ.out
            have hs8 : w7.heap.size ≤ w8.heap.size := by omega
            have c0 : w8.drew.cell? ⟨BO, 1, none⟩ = some v1 := XO2.out.cell 1
            have c1 : w8.drew.cell? ⟨wr.heap.size, 0, none⟩ = some (.int .i64 x0) := XW.out.cell 0
            have c2 : w8.drew.cell? ⟨wr.heap.size, 1, none⟩ = some (.slice av x1.length cv) := XW.out.cell 1
            have hS : w8.drew.cell? ⟨BO, 1, none⟩ = some v1 ∧ w8.drew.cell? ⟨wr.heap.size, 0, none⟩ = some (.int .i64 x0) ∧ w8.drew.cell? ⟨wr.heap.size, 1, none⟩ = some (.slice av x1.length cv) := ⟨c0, c1, c2⟩
            clear c0 c1 c2
            refine Upto.start (S := fun w' => w'.cell? ⟨BO, 1, none⟩ = some v1 ∧ w'.cell? ⟨wr.heap.size, 0, none⟩ = some (.int .i64 x0) ∧ w'.cell? ⟨wr.heap.size, 1, none⟩ = some (.slice av x1.length cv)) (k := 11) (by kernel_rfl) ?_
            refine Upto.take (i := 0) (v := ?_) rfl (by kernel_rfl) (by kernel_rfl) (by kernel_rfl) (by kernel_rfl) (fun _ _ _ h => h) (Or.inl ⟨by rfl, ?_⟩) hS ?_
            rotate_left 1
            · (intro w hSw; (try dsimp only at hSw); go_split_ands; go_simp; first | done | with_reducible rfl)
            refine Upto.t 1 hS ?_
            refine Upto.t 2 hS ?_
            refine Upto.t 3 hS ?_
            refine Upto.t 4 hS ?_
            refine Upto.t 5 hS ?_
            refine Upto.one (i := 6) (by kernel_rfl) rfl (fun K hK => ?_)
            go_simp
            refine (copyWords_any _ _ _ _ x1 (by exact HX2.out.drew) (by omega)).mono ?_
            rintro e wc ⟨ac, cc, rfl, oc, hbc⟩
            have hbc' : Below w8.heap.size w8 wc := (by exact (Below.refl w8.heap.size w8).drew.trans hbc)
            have xoc : Box wc BO 147 _ := XO2.out.below hbc' (by omega)
            have xwc : Box wc wr.heap.size 214 _ := XW.out.below hbc' zw
            have d0 : wc.cell? ⟨BO, 1, none⟩ = some v1 ∧ wc.cell? ⟨wr.heap.size, 0, none⟩ = some (.int .i64 x0) ∧ wc.cell? ⟨wr.heap.size, 1, none⟩ = some (.slice av x1.length cv) := ⟨xoc.cell 1, xwc.cell 0, xwc.cell 1⟩
            have d2 : (wc.alloc (.cells #[.int .i64 x0, .slice ac x1.length cc] 214)).cell? ⟨BO, 1, none⟩ = some v1 ∧ (wc.alloc (.cells #[.int .i64 x0, .slice ac x1.length cc] 214)).cell? ⟨wr.heap.size, 0, none⟩ = some (.int .i64 x0) ∧ (wc.alloc (.cells #[.int .i64 x0, .slice ac x1.length cc] 214)).cell? ⟨wr.heap.size, 1, none⟩ = some (.slice av x1.length cv) := ⟨(xoc.alloc _).cell 1, (xwc.alloc _).cell 0, (xwc.alloc _).cell 1⟩
            obtain ⟨fpx, mx, rx⟩ := Ty.Own.mine (lo := w8.heap.size) oc
            have XOC := hidden xoc
            have XWC := hidden xwc
            have MX := hidden mx
            have RX := hidden rx
            have HBC := hidden hbc'
            clear xoc xwc mx rx oc hbc hbc'
            go_wp2_with fail
            refine hK.out _ _ (fun _ => d0) ?_
            clear hK K
            refine Upto.t 7 d0 ?_
            refine Upto.one (i := 8) (by kernel_rfl) rfl (fun K hK => ?_)
            go_simp
            refine hK.out _ _ (fun _ => d2) ?_
            clear hK K
            refine Upto.one (i := 9) (by kernel_rfl) rfl (fun K hK => ?_)
            refine step_appT tWr (by rfl) _ _ 145 (by rfl) 214 i1 (.agg #[.int .i64 0, .slice none 0 0]) 32 Tryz.underlying145 hi1 hy0 hy1 hy2 rfl Nat.zero_lt_two v1 (cs.take j) fp1 (by rfl) ?_ ⟨wc.heap.size, 0, none⟩ 1 [.int .i64 x0, .slice ac x1.length cc] (x0, x1) fpx (by rfl) ?_ ?_ ?_ ?_ L1.out L2.out ?_
            · exact (HM2.out.below HBC.out).alloc _
            · exact (wr_mine x0 MX.out).alloc _
            · intro b hb hb'
              have h1 := HM2.out.lt b hb
              have h2 := RX.out b hb'
              omega
            · exact news_new _ _ _
            · intro u hu
              simp at hu
              rcases hu with hu | hu <;> (rw [hu]; rfl)
            intro g cap wA fpA m1 m2 m3
            rw [HL.out] at m1 ⊢
            rw [← HTK.out] at m1
            have ya : Box wA BO 147 _ := (XOC.out.alloc _).turned m3 (fun hm => by have := HFP.out _ hm; omega)
            have yw : Box wA wr.heap.size 214 _ := (XWC.out.alloc _).turned m3 (fun hm => by have h1 := HM2.out; have h2 := HFX.out _ hm; omega)
            have r0 : wA.cell? ⟨BO, 1, none⟩ = some v1 ∧ wA.cell? ⟨wr.heap.size, 0, none⟩ = some (.int .i64 x0) ∧ wA.cell? ⟨wr.heap.size, 1, none⟩ = some (.slice av x1.length cv) := ⟨ya.cell 1, yw.cell 0, yw.cell 1⟩
            have q9 := r0.1
            have fz := ya.frozen 1
            have YA := hidden ya
            have M1 := hidden m1
            have M2 := hidden m2
            have M3 := hidden m3
            clear ya yw m1 m2 m3
            refine hK.out _ _ (fun _ => r0) ?_
            clear hK K
            simp only [Act.put, List.setIfInBounds_toArray, List.set_cons_zero, List.set_cons_succ]
            refine Upto.t 10 r0 ?_
            refine Upto.one (i := 11) (by kernel_rfl) rfl (fun K hK => ?_)
            go_simp
            refine hK.out _ _ (fun h => absurd rfl h) ?_
            clear hK K
            refine Upto.done (by kernel_rfl) ?_ _
            have hfA := round_fp (N := w7.heap.size) hs8 HBC.out HFP.out RX.out M2.out
            have frA := Fr.round FR2.out hs8 HBC.out _ M3.out HFP.out 1 (.slice (some ⟨g, 0, none⟩) (j + 1) cap)
            have mA := M1.out.setCell (g := BO) (j := 1) (fun hm => by have := hfA _ hm; omega) (.slice (some ⟨g, 0, none⟩) (j + 1) cap)
            have yA := YA.out.set 1 (.slice (some ⟨g, 0, none⟩) (j + 1) cap)
            have HFA := hidden hfA
            have FRA := hidden frA
            have MA := hidden mA
            have YA' := hidden yA
            clear hfA frA mA yA hS d0 d2 r0 q9 YA M1 M2 M3 XOC MX RX HBC HFP HM2 FR2 XO2 XW HX2 XWC HFX
            go_wp2
            go_roundw
            case rel => exact ⟨j + 1, _, fpA, by omega, by go_num, FRA.out, YA'.out, MA.out, HFA.out⟩
            case measure => simp [intOf]; omega
          · have e : n1 = j := by omega
            subst e
            rw [List.take_of_length_le (by omega)] at hm
            have hlt := hm.lt
            have xr := fr.box GR.out (by omega) (by omega)
            obtain ⟨p0, p1, p2, p3⟩ := xr.cells4
            have fz := xr.frozen
            obtain ⟨r0, r1, r2, r3⟩ := xo.cells4
            have K3 := fr.mine G3.out (fun b hb => by have := fs3 b hb; omega)
            have K0 := fr.own G0.out (by omega) (by omega)
            have K1 := hm.own (lo := w7.heap.size) (hi := wr.heap.size) (fun b hb => ⟨hfp b hb, hlt b hb⟩)
            have KB := GB.out.trans (fr.below (M := w.heap.size) (by omega) (by omega))
            obtain ⟨e0, g0, hv0⟩ := row_shape K0.rd
            obtain ⟨e1, g1, hv1⟩ := row_shape K1.rd
            rw [hl0] at hv0
            rw [hl1] at hv1
            subst hv0 hv1
            have hbt : But (w.heap.size + 1) (w.heap.size + 2) wr ((((wr.setCell ⟨w.heap.size + 1, 0, none⟩ (.slice e0 n0 g0)).setCell ⟨w.heap.size + 1, 1, none⟩ (.slice e1 n1 g1)).setCell ⟨w.heap.size + 1, 2, none⟩ (.bool f)).setCell ⟨w.heap.size + 1, 3, none⟩ (.slice a5 n3 c5)) :=
              (((But.setCell (by omega) (by omega) _).trans (But.setCell (by omega) (by omega) _)).trans (But.setCell (by omega) (by omega) _)).trans (But.setCell (by omega) (by omega) _)
            have H3 := hidden ((K3.but hbt (fun b hb => by have := fs3 b hb; omega)).own (lo := w.heap.size) (hi := w6.heap.size) (fun b hb => by have := fs3 b hb; omega))
            have H0 := hidden (K0.but hbt (by omega))
            have H1 := hidden (K1.but hbt (by omega))
            have HB := hidden (Below.andBut KB hbt (by omega))
            have hsz := hbt.size
            clear fr xo hm hfp hlt xr K3 K0 K1 KB hbt GM GR GB G3 G0 GO
            go_wp2
            refine bodyPost_ret (v := .agg #[.slice e0 n0 g0, .slice e1 n1 g1, .bool f, .slice a5 n3 c5]) (by simp [results, Tryz.results190, go_sem, p0, p1, p2, p3]) rfl ?_
            exact ⟨_, _, _, w6.heap.size, w7.heap.size, rfl, H3.out, H0.out, H1.out.widen (Nat.le_refl _) hsz, by omega, by omega, by omega, HB.out⟩

end Go.Proofs.YtbkkjfgjlapadaaGreat

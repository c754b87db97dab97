/-
  The program's EngOk walked, with isRight, jobsRight and notTooMany. Condition: the engine weighs at most 2097152.
-/
import Derived.Test.YtgjldmjlbhkgbaaGreatWalkJobs15
import Derived.Test.YtgjldmjlbhkgbaaGreatWalkImplArrOk2
import Derived.Test.YtgjldmjlbhkgbaaGreatHeld
namespace Go.Proofs.YtgjldmjlbhkgbaaGreat
open Go.RowKit

set_option maxRecDepth 20000 in
set_option maxHeartbeats 1600000 in
theorem isRight_any (w : World) (gn gs : Int) (b off : Nat) (o d1 b1 k t1 q1 : Int) (a0 a1 : Option Addr) (c0 c1 : Nat) (zs us : List Int) (hb : b < w.heap.size) (h0 : w.cell? ⟨b, off, none⟩ = some (.int .i64 o)) (h1 : w.cell? ⟨b, off + 1, none⟩ = some (.int .i64 d1)) (h2 : w.cell? ⟨b, off + 2, none⟩ = some (.int .i64 b1)) (h3 : w.cell? ⟨b, off + 3, none⟩ = some (.int .i64 k)) (h4 : w.cell? ⟨b, off + 4, none⟩ = some (.slice a0 zs.length c0)) (h5 : w.cell? ⟨b, off + 5, none⟩ = some (.int .i64 t1)) (h6 : w.cell? ⟨b, off + 6, none⟩ = some (.slice a1 us.length c1)) (h7 : w.cell? ⟨b, off + 7, none⟩ = some (.int .i64 q1)) (r0 : tIntS.Rd w [.slice a0 zs.length c0] zs) (r1 : tIntS.Rd w [.slice a1 us.length c1] us) (hz : zs.length ≤ 2097152) (hu : us.length ≤ 2097152) :
    Calls Tryz.prog 118 #[.pointer (some ⟨b, off, none⟩), .agg #[.int .i64 gn, .int .i64 gs]] w fun e w' => e = .returned (.bool (rightJ gn gs (o, d1, b1, k, zs, t1, us, q1))) ∧ Below w.heap.size w w' := by
  have hR : Hid (rightJ gn gs (o, d1, b1, k, zs, t1, us, q1) = (decide (codeC gn gs o d1 b1 k zs = 0) && (inB t1 0 40 && (gotB us && wentB q1)))) := rfl
  have hG : Hid (gotB us = (secB us && decide (us.length ≤ 6))) := sec_got.symm
  generalize rightJ gn gs (o, d1, b1, k, zs, t1, us, q1) = R at hR ⊢
  go_enter Tryz.func118, Tryz.ntmps118
  go_wp2_with fail
  refine seal_newC ?_
  intro V A B
  have e0 := (B.cell (p := ⟨b, off, none⟩) hb).trans h0
  have e1 := (B.cell (p := ⟨b, off + 1, none⟩) hb).trans h1
  have e2 := (B.cell (p := ⟨b, off + 2, none⟩) hb).trans h2
  have e3 := (B.cell (p := ⟨b, off + 3, none⟩) hb).trans h3
  have e4 := (B.cell (p := ⟨b, off + 4, none⟩) hb).trans h4
  have e5 := (B.cell (p := ⟨b, off + 5, none⟩) hb).trans h5
  have e6 := (B.cell (p := ⟨b, off + 6, none⟩) hb).trans h6
  have e7 := (B.cell (p := ⟨b, off + 7, none⟩) hb).trans h7
  have lA := A.lt
  have hbv : b < V.heap.size := Nat.lt_of_lt_of_le hb B.size
  obtain ⟨k0, k1⟩ := A.cells2
  have Q0 := hidden (ints_rd (r0.below B)).1
  have R1 := hidden (r1.below B)
  clear h0 h1 h2 h3 h4 h5 h6 h7
  have hrange := code_range gn gs o d1 b1 k zs
  generalize hC : codeC gn gs o d1 b1 k zs = C at hR hrange ⊢
  have HC := hidden hC
  clear hC
  by_cases hc : C = 0
  · have hcn : (C != 0) = false := by simp [hc]
    have HD : Hid (decide (C = 0) = true) := decide_eq_true hc
    cases hI : inB t1 0 40
    · go_region_held3 (fun w' => (∀ q, w'.cell? ⟨b, q, none⟩ = V.cell? ⟨b, q, none⟩) ∧ (∀ q, w'.cell? ⟨w.heap.size, q, none⟩ = V.cell? ⟨w.heap.size, q, none⟩))
        (first | (exact ⟨fun q => hbC.cell (p := ⟨b, q, none⟩) hbv, fun q => hbC.cell (p := ⟨w.heap.size, q, none⟩) lA⟩) | (exact ⟨fun _ => rfl, fun _ => rfl⟩) | go_keep)
        (first | (go_at_call 157; refine (implCmdCode_any _ gn gs o d1 b1 k _ _ _ zs rfl Q0.out.draw hz).mono ?_; rintro e wC ⟨he, hbC0⟩; rw [HC.out] at he; subst he; have hbC : Below V.heap.size V wC := (Below.refl V.heap.size V).drew.trans hbC0) | (go_at_call 86; refine (within_any _ _ _ _).mono ?_; rintro e wD ⟨he, rfl⟩; rw [hI] at he; subst he))
      have HB := Below.andThen B hbC
      have HR : Hid (R = false) := by unfold Hid; rw [hR.out, hI]; simp
      clear hI
      go_wp2
      go_ret
      exact ⟨ret_bool HR.out.symm, HB⟩
    · go_region_held3 (fun w' => (∀ q, w'.cell? ⟨b, q, none⟩ = V.cell? ⟨b, q, none⟩) ∧ (∀ q, w'.cell? ⟨w.heap.size, q, none⟩ = V.cell? ⟨w.heap.size, q, none⟩))
        (first | (exact ⟨fun q => hbC.cell (p := ⟨b, q, none⟩) hbv, fun q => hbC.cell (p := ⟨w.heap.size, q, none⟩) lA⟩) | (exact ⟨fun _ => rfl, fun _ => rfl⟩) | go_keep)
        (first | (go_at_call 157; refine (implCmdCode_any _ gn gs o d1 b1 k _ _ _ zs rfl Q0.out.draw hz).mono ?_; rintro e wC ⟨he, hbC0⟩; rw [HC.out] at he; subst he; have hbC : Below V.heap.size V wC := (Below.refl V.heap.size V).drew.trans hbC0) | (go_at_call 86; refine (within_any _ _ _ _).mono ?_; rintro e wD ⟨he, rfl⟩; rw [hI] at he; subst he))
      have HB := Below.andThen B hbC
      have HR : Hid (R = ((secB us && decide (us.length ≤ 6)) && wentB q1)) := by unfold Hid; rw [hR.out, hI, HD.out, ← hG.out]; simp
      have RR := hidden (ints_rd (R1.out.below hbC)).1
      have F6 := hidden ((hbC.cell (p := ⟨b, off + 6, none⟩) hbv).trans e6)
      have F7 := hidden ((hbC.cell (p := ⟨b, off + 7, none⟩) hbv).trans e7)
      clear hI e0 e1 e2 e3 e4 e5 hbC hR hG
      go_wp2_with fail
      refine (implSecOk_any _ _ _ _ us rfl RR.out hu).mono ?_
      rintro e wS ⟨rfl, hs⟩
      have HB := Below.andSame HB hs
      have g7 := (hs.cell _).trans F7.out
      have g6 := (hs.cell _).trans F6.out
      cases hS : secB us
      · rw [hS] at HR
        clear hS
        go_wp2
        go_ret
        exact ⟨ret_bool (by rw [HR.out]; simp), HB⟩
      · rw [hS] at HR
        clear hS
        by_cases h6 : us.length ≤ 6
        · have HR2 : Hid (R = (decide (q1 = 0) || inB q1 4 7)) := by unfold Hid; rw [HR.out, decide_eq_true h6]; simp [wentB]
          have hq6 : ¬ ((6 : Int) < (us.length : Int)) := by omega
          clear HR
          by_cases hq : q1 = 0
          · have hqn : (q1 == 0) = true := by simp [hq]
            have HR3 : Hid (R = true) := by unfold Hid; rw [HR2.out, decide_eq_true hq]; simp
            clear HR2
            go_wp2
            go_ret
            exact ⟨ret_bool HR3.out.symm, HB⟩
          · have hqn : (q1 == 0) = false := by simp [hq]
            have HR3 : Hid (R = inB q1 4 7) := by unfold Hid; rw [HR2.out, decide_eq_false hq]; simp
            clear HR2
            go_wp2_with fail
            refine (within_any _ _ _ _).mono ?_
            rintro e wD ⟨rfl, rfl⟩
            go_wp2
            go_ret
            exact ⟨ret_bool HR3.out.symm, HB⟩
        · have HR2 : Hid (R = false) := by unfold Hid; rw [HR.out, decide_eq_false h6]; simp
          have hq6 : (6 : Int) < (us.length : Int) := by omega
          clear HR
          go_wp2
          go_ret
          exact ⟨ret_bool HR2.out.symm, HB⟩
  · have hcn : (C != 0) = true := by simp [hc]
    have HR : Hid (R = false) := by unfold Hid; rw [hR.out, decide_eq_false hc]; simp
    refine wp_region_held_drew (S := fun w' => w'.cell? ⟨b, off, none⟩ = some (.int .i64 o) ∧ w'.cell? ⟨b, off + 1, none⟩ = some (.int .i64 d1) ∧ w'.cell? ⟨b, off + 2, none⟩ = some (.int .i64 b1) ∧ w'.cell? ⟨b, off + 3, none⟩ = some (.int .i64 k) ∧ w'.cell? ⟨b, off + 4, none⟩ = some (.slice a0 zs.length c0) ∧ w'.cell? ⟨w.heap.size, 0, none⟩ = some (.int .i64 gn) ∧ w'.cell? ⟨w.heap.size, 1, none⟩ = some (.int .i64 gs)) (by kernel_rfl) ?_ (fun hHeld => ?_)
    · exact ⟨e0, e1, e2, e3, e4, k0, k1⟩
    refine held_t 0 hHeld ?_
    refine held_t 1 hHeld ?_
    refine held_t 2 hHeld ?_
    refine held_t 3 hHeld ?_
    refine held_t 4 hHeld ?_
    refine held_one (i := 5) (by kernel_rfl) rfl (by kernel_rfl) (fun K hK => ?_)
    go_simp
    refine (implCmdCode_any _ gn gs o d1 b1 k _ _ _ zs rfl Q0.out.draw hz).mono ?_
    rintro e wC ⟨he, hbC0⟩
    rw [HC.out] at he
    subst he
    have hbC : Below V.heap.size V wC := (Below.refl V.heap.size V).drew.trans hbC0
    have HB := Below.andThen B hbC
    go_wp2_with fail
    clear hHeld
    refine hK.out _ _ ?_ (fun hHeld => ?_)
    · exact ⟨(hbC.cell (p := ⟨b, off, none⟩) hbv).trans e0, (hbC.cell (p := ⟨b, off + 1, none⟩) hbv).trans e1, (hbC.cell (p := ⟨b, off + 2, none⟩) hbv).trans e2, (hbC.cell (p := ⟨b, off + 3, none⟩) hbv).trans e3, (hbC.cell (p := ⟨b, off + 4, none⟩) hbv).trans e4, (hbC.cell (p := ⟨w.heap.size, 0, none⟩) lA).trans k0, (hbC.cell (p := ⟨w.heap.size, 1, none⟩) lA).trans k1⟩
    clear hK K
    refine held_t 6 hHeld ?_
    refine held_t 7 hHeld ?_
    refine held_p 8 hHeld ?_
    refine held_p 9 hHeld ?_
    refine held_p 10 hHeld ?_
    refine held_p 11 hHeld ?_
    refine held_p 12 hHeld ?_
    refine held_p 13 hHeld ?_
    refine held_t 14 hHeld ?_
    refine wpAnyH_done (by kernel_rfl) ?_ _
    clear hHeld
    go_wp2
    go_ret
    exact ⟨ret_bool HR.out.symm, HB⟩

set_option linter.unusedSimpArgs false in
theorem notTooMany_any (w : World) (B : Nat) (aw aj aa au : Option Addr) (nw cw nj cj na ca nu cu : Nat) (h13 : w.cell? ⟨B, 13, none⟩ = some (.slice aw nw cw)) (h14 : w.cell? ⟨B, 14, none⟩ = some (.slice aj nj cj)) (h15 : w.cell? ⟨B, 15, none⟩ = some (.slice aa na ca)) (h16 : w.cell? ⟨B, 16, none⟩ = some (.slice au nu cu)) :
    Calls Tryz.prog 48 #[.pointer (some ⟨B, 0, none⟩)] w fun e w' => e = .returned (.bool (decide (nw ≤ 8) && (decide (nj ≤ 4) && (decide (na ≤ 8) && decide (nu ≤ 400))))) ∧ w' = w := by
  go_enter Tryz.func48, Tryz.ntmps48
  by_cases q0 : nw ≤ 8
  · by_cases q1 : nj ≤ 4
    · by_cases q2 : na ≤ 8
      · have e : Hid (∀ b : Bool, (decide (nw ≤ 8) && (decide (nj ≤ 4) && (decide (na ≤ 8) && b))) = b) := fun b => by simp [q0, q1, q2]
        have e2 : Hid (decide ((nu : Int) ≤ 400) = decide (nu ≤ 400)) := by unfold Hid; rw [decide_eq_decide]; omega
        go_wp2
        go_ret
        exact ⟨ret_bool (by rw [e.out, e2.out]), rfl⟩
      · go_wp2
        go_ret
        exact ⟨ret_bool (by simp [q0, q1, q2]), rfl⟩
    · go_wp2
      go_ret
      exact ⟨ret_bool (by simp [q0, q1]), rfl⟩
  · go_wp2
    go_ret
    exact ⟨ret_bool (by simp [q0]), rfl⟩

set_option maxRecDepth 20000 in
set_option maxHeartbeats 3200000 in
theorem jobsRight_any (w : World) (B : Nat) (T : TypeId) (x : ArrN) (vm vd vw va vt : Value) (aj : Option Addr) (cj : Nat) (js : List JobD) (X : Box w B T (engC x vm vd vw (.slice aj js.length cj) va vt)) (hJ : (tJobS 0).Rd w [.slice aj js.length cj] js) (hw : wttJobS js ≤ 1048576) :
    Calls Tryz.prog 49 #[.pointer (some ⟨B, 0, none⟩)] w fun e w' => e = .returned (.bool (jobsB x.n x.s js js.length)) ∧ Below w.heap.size w w' := by
  have hjl : js.length ≤ 1048576 := by unfold wttJobS at hw; omega
  obtain ⟨hl, hc, hm⟩ := row_length hJ
  have hBl := X.lt
  have X1 := X.cell 1
  have X2 := X.cell 2
  have x1 : w.cell? ⟨B, 1, none⟩ = some (.int .i64 x.n) := X1
  have x2 : w.cell? ⟨B, 2, none⟩ = some (.int .i64 x.s) := X2
  clear X1 X2
  obtain ⟨b, off, hj⟩ : ∃ b off, aj = some ⟨b, off, none⟩ ∨ js.length = 0 := by
    rcases jobS_at hJ with h | ⟨b, off, h, _⟩
    · exact ⟨0, 0, .inr h⟩
    · exact ⟨b, off, .inl h⟩
  go_enter Tryz.func49, Tryz.ntmps49
  go_wp2_with fail
  refine (jobs_any _ B T _ aj js.length cj b off X rfl hj hjl hc).mono ?_
  rintro e w1 ⟨pb, pc, rfl, hP, hpc, hb1⟩
  go_wp2
  go_loopw [10] (fun iv wr => ∃ j : Nat, j ≤ js.length ∧ iv = .int .i64 j ∧ jobsB x.n x.s js j = true ∧ Below w.heap.size w wr ∧ Below w1.heap.size w1 wr) (fun iv _ => js.length - (intOf iv).toNat)
  case atStart => exact ⟨0, Nat.zero_le _, rfl, rfl, hb1, Below.refl _ _⟩
  case round =>
    obtain ⟨j, hjn, rfl, ht, hb, hb2⟩ := hrel
    by_cases hlt : j < js.length
    · rcases hj with rfl | h0
      · rcases jobS_at (hJ.below hb) with h0' | ⟨bb, oo, hbo, hbl, hcs⟩
        · omega
        simp only [Option.some.injEq, Addr.mk.injEq, and_true] at hbo
        obtain ⟨rfl, rfl⟩ := hbo
        obtain ⟨o, d1, b1, k, zs, t1, us, q1, hdj⟩ : ∃ o d1 b1 k zs t1 us q1, js[j]? = some (o, d1, b1, k, zs, t1, us, q1) := ⟨_, _, _, _, _, _, _, _, List.getElem?_eq_getElem (by omega)⟩
        have hin := job_inner hdj
        have hlen : zs.length ≤ 2097152 := by unfold wttJobS at hw; simp only [wJob] at hin; omega
        have hlen2 : us.length ≤ 2097152 := by unfold wttJobS at hw; simp only [wJob] at hin; omega
        obtain ⟨av0, cv0, av1, cv1, c0, c1, c2, c3, c4, c5, c6, c7, r0, r1⟩ := hcs j o d1 b1 k zs t1 us q1 hdj
        have hPr := hP.below hb2
        have hp := hPr.2 j hlt
        have y1 := (hb.cell (p := ⟨B, 1, none⟩) hBl).trans x1
        have y2 := (hb.cell (p := ⟨B, 2, none⟩) hBl).trans x2
        have hBr : B < wr.heap.size := Nat.lt_of_lt_of_le hBl hb.size
        have i1 : (0 : Int) ≤ (j : Int) := by omega
        have i2 : (j : Int) < (js.length : Int) := by omega
        have i3 : (j : Int) ≤ (pc : Int) := by omega
        have EQ := hidden (jobAt_eq (gn := x.n) (gs := x.s) hdj)
        have STP := hidden (jobsB_step ht)
        have FL := hidden (jobsB_fail (gn := x.n) (gs := x.s) (js := js) (n := js.length) hlt)
        have CR := hidden (fun (W : World) (q : Below wr.heap.size wr W) => isRight_any W x.n x.s b (off + j * 8) o d1 b1 k t1 q1 _ _ _ _ zs us (Nat.lt_of_lt_of_le hbl q.size) ((q.cell (p := ⟨b, off + j * 8, none⟩) hbl).trans c0) ((q.cell (p := ⟨b, off + j * 8 + 1, none⟩) hbl).trans c1) ((q.cell (p := ⟨b, off + j * 8 + 2, none⟩) hbl).trans c2) ((q.cell (p := ⟨b, off + j * 8 + 3, none⟩) hbl).trans c3) ((q.cell (p := ⟨b, off + j * 8 + 4, none⟩) hbl).trans c4) ((q.cell (p := ⟨b, off + j * 8 + 5, none⟩) hbl).trans c5) ((q.cell (p := ⟨b, off + j * 8 + 6, none⟩) hbl).trans c6) ((q.cell (p := ⟨b, off + j * 8 + 7, none⟩) hbl).trans c7) (r0.below q) (r1.below q) hlen hlen2)
        have CC := hidden (fun (W : World) (q : Below wr.heap.size wr W) => clashesAny_any W x.n x.s pb pc j b off cj js o d1 b1 k _ _ zs ⟨(hPr.below q).1, fun i hi => (hPr.below q).2 i (by omega)⟩ (by omega) ((hJ.below hb).below q) (by omega) (r0.below q) hlen)
        clear hcs hdj hin ht r0 r1 hP hPr c5 c6 c7
        cases hR : rightJ x.n x.s (o, d1, b1, k, zs, t1, us, q1)
        · have HF := hidden (FL.out (by rw [EQ.out, hR]; rfl))
          go_wp2_with fail
          refine wp_region_held_drew (S := fun w' => w'.cell? ⟨B, 1, none⟩ = some (.int .i64 x.n) ∧ w'.cell? ⟨B, 2, none⟩ = some (.int .i64 x.s)) (by kernel_rfl) ?_ (fun hHeld => ?_)
          · exact ⟨y1, y2⟩
          refine held_t 0 hHeld ?_
          refine held_t 1 hHeld ?_
          refine held_t 2 hHeld ?_
          refine held_t 3 hHeld ?_
          refine held_t 4 hHeld ?_
          refine held_t 5 hHeld ?_
          refine held_one (i := 6) (by kernel_rfl) rfl (by kernel_rfl) (fun K hK => ?_)
          go_simp
          refine (CR.out _ ((Below.refl _ _).drew)).mono ?_
          rintro e wC ⟨he, hbC0⟩
          rw [hR] at he
          subst he
          have hbC : Below wr.heap.size wr wC := (Below.refl wr.heap.size wr).drew.trans hbC0
          have HB := hidden (Below.andThen hb hbC)
          go_wp2_with fail
          clear hHeld
          refine hK.out _ _ ?_ (fun hHeld => ?_)
          · exact ⟨(hbC.cell (p := ⟨B, 1, none⟩) hBr).trans y1, (hbC.cell (p := ⟨B, 2, none⟩) hBr).trans y2⟩
          clear hK K
          refine held_t 7 hHeld ?_
          refine held_t 8 hHeld ?_
          refine held_p 9 hHeld ?_
          refine held_p 10 hHeld ?_
          refine held_p 11 hHeld ?_
          refine held_p 12 hHeld ?_
          refine held_p 13 hHeld ?_
          refine held_p 14 hHeld ?_
          refine held_p 15 hHeld ?_
          refine held_p 16 hHeld ?_
          refine held_p 17 hHeld ?_
          refine held_p 18 hHeld ?_
          refine held_p 19 hHeld ?_
          refine held_p 20 hHeld ?_
          refine held_p 21 hHeld ?_
          refine held_t 22 hHeld ?_
          refine wpAnyH_done (by kernel_rfl) ?_ _
          clear hHeld
          go_wp2
          go_ret
          exact ⟨ret_bool HF.out.symm, HB.out⟩
        · cases hM : (js.take j).any fun y => clashD x.n x.s (jobC y) (o, d1, b1, k, zs)
          · have HF := hidden (STP.out (by rw [EQ.out, hR]; show (true && !((js.take j).any fun y => clashD x.n x.s (jobC y) (o, d1, b1, k, zs))) = true; rw [hM]; rfl))
            go_wp2_with fail
            go_region_held3 (fun w' => (∀ q, w'.cell? ⟨B, q, none⟩ = wr.cell? ⟨B, q, none⟩) ∧ (∀ q, w'.cell? ⟨b, q, none⟩ = wr.cell? ⟨b, q, none⟩))
              (first | (exact ⟨fun q => hbD.cell (p := ⟨B, q, none⟩) hBr, fun q => hbD.cell (p := ⟨b, q, none⟩) hbl⟩) | (exact ⟨fun q => hbC.cell (p := ⟨B, q, none⟩) hBr, fun q => hbC.cell (p := ⟨b, q, none⟩) hbl⟩) | (exact ⟨fun _ => rfl, fun _ => rfl⟩) | go_keep)
              (first | (go_at_call 118; refine (CR.out _ ((Below.refl _ _).drew)).mono ?_; rintro e wC ⟨he, hbC0⟩; rw [hR] at he; subst he; have hbC : Below wr.heap.size wr wC := (Below.refl wr.heap.size wr).drew.trans hbC0) | (go_at_call 119; refine (CC.out _ hbC).mono ?_; rintro e wD ⟨he, hbD0⟩; rw [hM] at he; subst he; have hbD : Below wr.heap.size wr wD := Below.andThen hbC hbD0))
            have HB := hidden (Below.andThen hb hbD)
            have HB2 := hidden (Below.andThen hb2 hbD)
            go_wp2
            go_roundw
            case rel => exact ⟨j + 1, by omega, by go_num, HF.out, HB.out, HB2.out⟩
            case measure => simp [intOf]; omega
          · have HF := hidden (FL.out (by rw [EQ.out, hR]; show (true && !((js.take j).any fun y => clashD x.n x.s (jobC y) (o, d1, b1, k, zs))) = false; rw [hM]; rfl))
            go_wp2_with fail
            go_region_held3 (fun w' => (∀ q, w'.cell? ⟨B, q, none⟩ = wr.cell? ⟨B, q, none⟩) ∧ (∀ q, w'.cell? ⟨b, q, none⟩ = wr.cell? ⟨b, q, none⟩))
              (first | (exact ⟨fun q => hbD.cell (p := ⟨B, q, none⟩) hBr, fun q => hbD.cell (p := ⟨b, q, none⟩) hbl⟩) | (exact ⟨fun q => hbC.cell (p := ⟨B, q, none⟩) hBr, fun q => hbC.cell (p := ⟨b, q, none⟩) hbl⟩) | (exact ⟨fun _ => rfl, fun _ => rfl⟩) | go_keep)
              (first | (go_at_call 118; refine (CR.out _ ((Below.refl _ _).drew)).mono ?_; rintro e wC ⟨he, hbC0⟩; rw [hR] at he; subst he; have hbC : Below wr.heap.size wr wC := (Below.refl wr.heap.size wr).drew.trans hbC0) | (go_at_call 119; refine (CC.out _ hbC).mono ?_; rintro e wD ⟨he, hbD0⟩; rw [hM] at he; subst he; have hbD : Below wr.heap.size wr wD := Below.andThen hbC hbD0))
            have HB := hidden (Below.andThen hb hbD)
            go_wp2
            go_ret
            exact ⟨ret_bool HF.out.symm, HB.out⟩
      · omega
    · obtain rfl : j = js.length := by omega
      have HT := hidden ht
      clear ht
      go_wp2
      go_ret
      exact ⟨ret_bool HT.out.symm, hb⟩

set_option maxRecDepth 20000 in
set_option maxHeartbeats 3200000 in
theorem implEngOk_any (w : World) (cs : Array Value) (e : EngD) (h : EngRd w cs e) (hw : wtEng e ≤ 1048576) :
    Calls Tryz.prog 15 #[.agg cs] w fun e' w' => e' = .returned (.bool (engB e)) ∧ Below w.heap.size w w' := by
  obtain ⟨x, ms, ds, ws, js, an, ts⟩ := e
  obtain ⟨am, cm, ad, cd, aw, cw, aj, cj, aa, ca, au, cu, rfl, r0, r1, r2, r3, r4, r5⟩ := h.parts
  have HT : wtArr ms ds + wttCmdS ws + wttJobS js + wttAnsS an + wttTurnS ts ≤ 1048576 := hw
  have HE : Hid (engB ⟨x, ms, ds, ws, js, an, ts⟩ = (arrB x ms ds && ((decide (ws.length ≤ 8) && (decide (js.length ≤ 4) && (decide (an.length ≤ 8) && decide (ts.length ≤ 400)))) && jobsB x.n x.s js js.length))) := rfl
  generalize engB ⟨x, ms, ds, ws, js, an, ts⟩ = R at HE ⊢
  clear hw h
  go_enter Tryz.func15, Tryz.ntmps15
  unfold engC
  go_wp2_with fail
  refine seal_new ?_
  intro V A B
  refine (implArrOk_any _ 0 0 0 x _ _ _ _ _ _ ms ds (r0.below B) (r1.below B) (by omega)).mono ?_
  rintro e w1 ⟨rfl, b⟩
  have A := A.below b A.lt
  have B := Below.andThen B b
  clear b
  cases hA : arrB x ms ds
  · have HR : Hid (R = false) := by unfold Hid; rw [HE.out, hA]; rfl
    clear hA
    go_wp2
    go_ret
    exact ⟨ret_bool HR.out.symm, B⟩
  · rw [hA] at HE
    clear hA
    go_wp2_with fail
    refine (notTooMany_any _ _ _ _ _ _ _ _ _ _ _ _ _ _ (A.cell 13) (A.cell 14) (A.cell 15) (A.cell 16)).mono ?_
    rintro e w2 ⟨rfl, rfl⟩
    cases hF : (decide (ws.length ≤ 8) && (decide (js.length ≤ 4) && (decide (an.length ≤ 8) && decide (ts.length ≤ 400))))
    · have HR : Hid (R = false) := by unfold Hid; rw [HE.out, hF]; rfl
      clear hF
      go_wp2
      go_ret
      exact ⟨ret_bool HR.out.symm, B⟩
    · have HR : Hid (R = jobsB x.n x.s js js.length) := by unfold Hid; rw [HE.out, hF]; simp
      clear hF HE
      go_wp2_with fail
      refine (jobsRight_any _ _ _ x _ _ _ _ _ _ _ js A (r3.below B) (by omega)).mono ?_
      rintro e w3 ⟨rfl, b⟩
      have B := Below.andThen B b
      go_wp2
      go_ret
      exact ⟨ret_bool HR.out.symm, B⟩

end Go.Proofs.YtgjldmjlbhkgbaaGreat

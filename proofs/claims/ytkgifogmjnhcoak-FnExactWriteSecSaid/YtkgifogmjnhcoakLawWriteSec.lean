/-
  The walk of the exact law of WriteSec: at every disk, every number and every slice of int it answers true, and nothing that was there has turned. No condition.
-/
import Derived.Test.YtkgifogmjnhcoakWalkMemRd
import Derived.Test.YtkgifogmjnhcoakWalkWriteSpec
namespace Go.Proofs.Ytkgifogmjnhcoak
open Go.RowKit

theorem sumL_append : ∀ (l m : List Nat), sumL (l ++ m) = sumL l + sumL m
  | [], m => by simp [sumL]
  | x :: l, m => by
    have h := sumL_append l m
    have e1 : sumL (x :: (l ++ m)) = x + sumL (l ++ m) := by simp [sumL]
    have e2 : sumL (x :: l) = x + sumL l := by simp [sumL]
    rw [List.cons_append, e1, e2, h]
    omega
theorem cntM_le {ss : List (List Int)} {cs : List (Int × List Int)} {f : Bool} {bs : List Int} (h : wtMem (ss, cs, f, bs) ≤ 1048576) : cntM ss cs bs ≤ 1048576 := by
  have h1 := Nat.le_of_eq (cntWS_wt cs)
  unfold cntM cntSS
  unfold wtMem wtIntSS at h
  simp only at h
  omega
theorem wr_wt {ss : List (List Int)} {cs : List (Int × List Int)} {f : Bool} {bs : List Int} {n : Int} {sw : List Int} (h : wtMem (ss, cs, f, bs) ≤ 1048576) (h5 : sw.length ≤ 1048576 - 1) : wtMem (ss, wrCS ss cs f bs n sw, f, wrBS ss cs f bs n sw) ≤ 2097152 := by
  unfold wrCS wrBS
  by_cases hc : wrOk ss cs f bs n sw = true
  · rw [if_pos hc, if_pos hc]
    have h1 := filt_length bs n
    unfold wtMem wtWrS at *
    simp only [List.map_append, List.length_append, List.map_cons, List.map_nil, List.length_cons, List.length_nil] at *
    rw [sumL_append]
    have h2 : sumL [sw.length] = sw.length := by simp [sumL]
    omega
  · rw [if_neg hc, if_neg hc]
    omega
theorem wr_wt' {ss : List (List Int)} {cs : List (Int × List Int)} {f : Bool} {bs : List Int} {n : Int} {sw : List Int} (h : wtMem (ss, cs, f, bs) ≤ 1048576) : wtMem (ss, wrCS ss cs f bs n sw, f, wrBS ss cs f bs n sw) ≤ 2097152 := by
  by_cases hs : sw.length ≤ 1048576 - 1
  · exact wr_wt h hs
  · have hn : wrOk ss cs f bs n sw = false := by
      have : secB sw = false := by unfold secB; simp; omega
      unfold wrOk
      rw [this]
      simp
    unfold wrCS wrBS
    rw [hn]
    simp only [Bool.false_eq_true, if_false]
    omega

set_option maxHeartbeats 4000000 in
theorem fnExactWriteSec_walk (a0 a1 a3 : Option Addr) (n0 c0 n1 c1 n3 c3 : Nat) (ss : List (List Int)) (cs : List (Int × List Int)) (f : Bool) (bs : List Int) (n : Int) (a5 : Option Addr) (n5 c5 : Nat) (sw : List Int) (w : World) (h0 : tIntSS.Rd w [.slice a0 n0 c0] ss) (h1 : (tWrS 68).Rd w [.slice a1 n1 c1] cs) (h3 : tIntS.Rd w [.slice a3 n3 c3] bs) (h5 : tIntS.Rd w [.slice a5 n5 c5] sw) :
    Calls Try.prog 3 #[.agg #[.slice a0 n0 c0, .slice a1 n1 c1, .bool f, .slice a3 n3 c3], .int .i64 n, .slice a5 n5 c5] w fun e w' => e = .returned (.bool true) ∧ Below w.heap.size w w' := by
  have hA : Below w.heap.size w (w.alloc (.cells #[.slice a0 n0 c0, .slice a1 n1 c1, .bool f, .slice a3 n3 c3] 26)) := (Below.refl _ _).alloc (Nat.le_refl _) _
  obtain ⟨_, hl5, _, hm5⟩ := ints_rd h5
  by_cases hbig : n5 ≤ 1048576
  case neg =>
    have hbg : (1048576 : Int) < (n5 : Int) := by omega
    go_enter Try.func3, Try.ntmps3
    go_wp2
    go_ret
    exact ⟨rfl, hA⟩
  have hbg : ¬ (1048576 : Int) < (n5 : Int) := by omega
  have xm := Box.new w 26 #[.slice a0 n0 c0, .slice a1 n1 c1, .bool f, .slice a3 n3 c3]
  have zm := xm.lt
  obtain ⟨l0, l1, l2, l3⟩ := xm.cells4
  have XM := hidden xm
  clear xm
  go_enter Try.func3, Try.ntmps3
  go_wp2_with fail
  refine (szMem_any _ 68 _ _ _ _ _ _ _ _ _ ss cs f bs _ (h0.below hA) (h1.below hA) (h3.below hA) (by omega) (by omega)).mono ?_
  rintro e w1 ⟨rfl, hb1⟩
  have BM1 := hidden (XM.out.below hb1 zm)
  have B1 := hidden (Below.andThen hA hb1)
  have z1 : w.heap.size < w1.heap.size := Nat.lt_of_lt_of_le zm hb1.size
  clear hb1 hA l0 l1 l2 l3 zm XM
  by_cases hwt : (wtMem (ss, cs, f, bs) : Int) ≤ 1048576
  · have hq := leftOf_pos hwt
    have hwt' : wtMem (ss, cs, f, bs) ≤ 1048576 := by omega
    have hcp := cntM_pos ss cs bs
    have hwr := wr_wt' (n := n) (sw := sw) hwt'
    have hcle := cntM_le hwt'
    have hne : (wrOk ss cs f bs n sw != wrOk ss cs f bs n sw) = false := by simp
    have hd : decide (sw = sw) = true := by simp
    have hcq := cntM_pos ss (wrCS ss cs f bs n sw) (wrBS ss cs f bs n sw)
    obtain ⟨l0, l1, l2, l3⟩ := BM1.out.cells4
    go_wp2_with fail
    refine (toMem_any _ 68 _ _ _ _ _ _ _ _ _ ss cs f bs (h0.below B1.out) (h1.below B1.out) (h3.below B1.out) hwt').mono ?_
    rintro e w2 ⟨b0, b1, b3, rfl, o2, hb2⟩
    clear l0 l1 l2 l3
    have B2 := hidden (Below.andThen B1.out hb2)
    have BM2 := hidden (BM1.out.below hb2 (by omega))
    have z2 := hb2.size
    clear B1 BM1 hb2
    have Y2 := hidden o2
    clear o2
    go_wp2_with fail
    refine (toIntS_any _ _ _ _ sw hl5 (ints_rd (h5.below B2.out)).1 (by omega)).mono ?_
    rintro e w3 ⟨rfl, o3, hb3⟩
    have B3 := hidden (Below.andThen B2.out hb3)
    have BM3 := hidden (BM2.out.below hb3 (by omega))
    have Y3 := hidden (Y2.out.below hb3)
    have z3 := hb3.size
    clear B2 BM2 Y2 hb3
    have YS3 := hidden (own_ints o3)
    clear o3
    obtain ⟨p0, p1, p3⟩ := mem_parts Y3.out
    go_wp2_with fail
    refine (specWriteSec_any _ 50 _ _ _ _ _ _ _ _ _ _ _ _ ss cs f bs n sw p0 p1 p3 YS3.out.rd (by omega) (by omega)).mono ?_
    rintro e w4 ⟨y0, y1, y3, rfl, o4, hb4⟩
    clear p0 p1 p3
    clear Y3
    clear YS3
    obtain ⟨ya0, yl0, yc0, ya1, yl1, yc1, ya3, yl3, yc3, hv0, hv1, hv3⟩ := mem_letters o4
    subst hv0 hv1 hv3
    have B4 := hidden (Below.andThen B3.out hb4)
    have BM4 := hidden (BM3.out.below hb4 (by omega))
    have z4 := hb4.size
    clear B3 BM3 hb4
    have W4 := hidden o4
    clear o4
    have ba : Below w4.heap.size w4 (w4.alloc (.cells #[.slice ya0 yl0 yc0, .slice ya1 yl1 yc1, .bool f, .slice ya3 yl3 yc3] 30)) := (Below.refl _ _).alloc (Nat.le_refl _) _
    have xb := Box.new w4 30 #[.slice ya0 yl0 yc0, .slice ya1 yl1 yc1, .bool f, .slice ya3 yl3 yc3]
    have zx5 := xb.lt
    have B5 := hidden (Below.andThen B4.out ba)
    have BM5 := hidden (BM4.out.below ba (by omega))
    have W5 := hidden (W4.out.below ba)
    have z5 := ba.size
    clear B4 BM4 W4 ba
    have WB5 := hidden xb
    clear xb
    obtain ⟨l0, l1, l2, l3⟩ := BM5.out.cells4
    go_wp2_with fail
    generalize w4.alloc (.cells #[.slice ya0 yl0 yc0, .slice ya1 yl1 yc1, .bool f, .slice ya3 yl3 yc3] 30) = w5 at B5 BM5 W5 WB5 z5 zx5 l0 l1 l2 l3 ⊢
    refine (toMem_any _ 68 _ _ _ _ _ _ _ _ _ ss cs f bs (h0.below B5.out) (h1.below B5.out) (h3.below B5.out) hwt').mono ?_
    rintro e w6 ⟨d0, d1, d3, rfl, o6, hb6⟩
    clear l0 l1 l2 l3
    have B6 := hidden (Below.andThen B5.out hb6)
    have BM6 := hidden (BM5.out.below hb6 (by omega))
    have W6 := hidden (W5.out.below hb6)
    have WB6 := hidden (WB5.out.below hb6 (by omega))
    have z6 := hb6.size
    clear B5 BM5 W5 WB5 hb6
    have X6 := hidden o6
    clear o6
    have ba : Below w6.heap.size w6 (w6.alloc (.cells #[.slice d0 n0 n0, .slice d1 n1 n1, .bool f, .slice d3 n3 n3] 30)) := (Below.refl _ _).alloc (Nat.le_refl _) _
    have xb := Box.new w6 30 #[.slice d0 n0 n0, .slice d1 n1 n1, .bool f, .slice d3 n3 n3]
    have zx7 := xb.lt
    have B7 := hidden (Below.andThen B6.out ba)
    have BM7 := hidden (BM6.out.below ba (by omega))
    have W7 := hidden (W6.out.below ba)
    have WB7 := hidden (WB6.out.below ba (by omega))
    have X7 := hidden (X6.out.below ba)
    have z7 := ba.size
    clear B6 BM6 W6 WB6 X6 ba
    have XB7 := hidden xb
    clear xb
    go_wp2_with fail
    generalize w6.alloc (.cells #[.slice d0 n0 n0, .slice d1 n1 n1, .bool f, .slice d3 n3 n3] 30) = w7 at B7 BM7 W7 WB7 X7 XB7 z7 zx7  ⊢
    refine (toIntS_any _ _ _ _ sw hl5 (ints_rd (h5.below B7.out)).1 (by omega)).mono ?_
    rintro e w8 ⟨rfl, o8, hb8⟩
    have B8 := hidden (Below.andThen B7.out hb8)
    have BM8 := hidden (BM7.out.below hb8 (by omega))
    have W8 := hidden (W7.out.below hb8)
    have WB8 := hidden (WB7.out.below hb8 (by omega))
    have X8 := hidden (X7.out.below hb8)
    have XB8 := hidden (XB7.out.below hb8 (by omega))
    have z8 := hb8.size
    clear B7 BM7 W7 WB7 X7 XB7 hb8
    have XS8 := hidden (own_ints o8)
    clear o8
    obtain ⟨p0, p1, p3⟩ := mem_parts X8.out
    obtain ⟨x0, x1, x2, x3⟩ := XB8.out.cells4
    go_wp2_with fail
    refine (implWriteSec_any _ 50 _ _ _ _ _ _ _ _ _ _ _ _ ss cs f bs n sw p0 p1 p3 XS8.out.rd (by omega) (by omega)).mono ?_
    rintro e w9 ⟨g0, g1, g3, rfl, o9, hb9⟩
    clear p0 p1 p3
    clear x0 x1 x2 x3
    obtain ⟨ga0, gl0, gc0, ga1, gl1, gc1, ga3, gl3, gc3, hv0, hv1, hv3⟩ := mem_letters o9
    subst hv0 hv1 hv3
    have B9 := hidden (Below.andThen B8.out hb9)
    have BM9 := hidden (BM8.out.below hb9 (by omega))
    have W9 := hidden (W8.out.below hb9)
    have WB9 := hidden (WB8.out.below hb9 (by omega))
    have X9 := hidden (X8.out.below hb9)
    have XB9 := hidden (XB8.out.below hb9 (by omega))
    have XS9 := hidden (XS8.out.below hb9)
    have z9 := hb9.size
    clear B8 BM8 W8 WB8 X8 XB8 XS8 hb9
    have G9 := hidden o9
    clear o9
    have ba : Below w9.heap.size w9 (w9.alloc (.cells #[.slice ga0 gl0 gc0, .slice ga1 gl1 gc1, .bool f, .slice ga3 gl3 gc3] 30)) := (Below.refl _ _).alloc (Nat.le_refl _) _
    have xb := Box.new w9 30 #[.slice ga0 gl0 gc0, .slice ga1 gl1 gc1, .bool f, .slice ga3 gl3 gc3]
    have zx10 := xb.lt
    have B10 := hidden (Below.andThen B9.out ba)
    have BM10 := hidden (BM9.out.below ba (by omega))
    have W10 := hidden (W9.out.below ba)
    have WB10 := hidden (WB9.out.below ba (by omega))
    have X10 := hidden (X9.out.below ba)
    have XB10 := hidden (XB9.out.below ba (by omega))
    have XS10 := hidden (XS9.out.below ba)
    have G10 := hidden (G9.out.below ba)
    have z10 := ba.size
    clear B9 BM9 W9 WB9 X9 XB9 XS9 G9 ba
    have GB10 := hidden xb
    clear xb
    obtain ⟨u0, u1, u2, u3⟩ := GB10.out.cells4
    obtain ⟨v0, v1, v2, v3⟩ := WB10.out.cells4
    go_wp2_with fail
    generalize w9.alloc (.cells #[.slice ga0 gl0 gc0, .slice ga1 gl1 gc1, .bool f, .slice ga3 gl3 gc3] 30) = w10 at B10 BM10 W10 WB10 X10 XB10 XS10 G10 GB10 z10 zx10 u0 u1 u2 u3 v0 v1 v2 v3 ⊢
    refine (eqMem_rd _ 50 50 _ _ _ _ _ _ f ss (wrCS ss cs f bs n sw) (wrBS ss cs f bs n sw) G10.out.rd W10.out.rd hwr).mono ?_
    rintro e w11 ⟨rfl, hb11⟩
    clear u0 u1 u2 u3 v0 v1 v2 v3
    have B11 := hidden (Below.andThen B10.out hb11)
    have BM11 := hidden (BM10.out.below hb11 (by omega))
    have W11 := hidden (W10.out.below hb11)
    have WB11 := hidden (WB10.out.below hb11 (by omega))
    have X11 := hidden (X10.out.below hb11)
    have XB11 := hidden (XB10.out.below hb11 (by omega))
    have XS11 := hidden (XS10.out.below hb11)
    have G11 := hidden (G10.out.below hb11)
    have GB11 := hidden (GB10.out.below hb11 (by omega))
    have z11 := hb11.size
    clear B10 BM10 W10 WB10 X10 XB10 XS10 G10 GB10 hb11
    obtain ⟨y0, y1, y2, y3⟩ := XB11.out.cells4
    obtain ⟨l0, l1, l2, l3⟩ := BM11.out.cells4
    have zl := BM11.out.lt
    have zy := XB11.out.lt
    go_wp2_with fail
    go_region_held3 (fun w' => w'.cell? ⟨w6.heap.size, 0, none⟩ = some (.slice d0 n0 n0) ∧ w'.cell? ⟨w6.heap.size, 1, none⟩ = some (.slice d1 n1 n1) ∧ w'.cell? ⟨w6.heap.size, 2, none⟩ = some (.bool f) ∧ w'.cell? ⟨w6.heap.size, 3, none⟩ = some (.slice d3 n3 n3) ∧ w'.cell? ⟨w.heap.size, 0, none⟩ = some (.slice a0 n0 c0) ∧ w'.cell? ⟨w.heap.size, 1, none⟩ = some (.slice a1 n1 c1) ∧ w'.cell? ⟨w.heap.size, 2, none⟩ = some (.bool f) ∧ w'.cell? ⟨w.heap.size, 3, none⟩ = some (.slice a3 n3 c3))
      (first | (exact ⟨(hb13'.cell (p := ⟨w6.heap.size, 0, none⟩) zy).trans y0, (hb13'.cell (p := ⟨w6.heap.size, 1, none⟩) zy).trans y1, (hb13'.cell (p := ⟨w6.heap.size, 2, none⟩) zy).trans y2, (hb13'.cell (p := ⟨w6.heap.size, 3, none⟩) zy).trans y3, (hb13'.cell (p := ⟨w.heap.size, 0, none⟩) zl).trans l0, (hb13'.cell (p := ⟨w.heap.size, 1, none⟩) zl).trans l1, (hb13'.cell (p := ⟨w.heap.size, 2, none⟩) zl).trans l2, (hb13'.cell (p := ⟨w.heap.size, 3, none⟩) zl).trans l3⟩) | (exact ⟨(hb12'.cell (p := ⟨w6.heap.size, 0, none⟩) zy).trans y0, (hb12'.cell (p := ⟨w6.heap.size, 1, none⟩) zy).trans y1, (hb12'.cell (p := ⟨w6.heap.size, 2, none⟩) zy).trans y2, (hb12'.cell (p := ⟨w6.heap.size, 3, none⟩) zy).trans y3, (hb12'.cell (p := ⟨w.heap.size, 0, none⟩) zl).trans l0, (hb12'.cell (p := ⟨w.heap.size, 1, none⟩) zl).trans l1, (hb12'.cell (p := ⟨w.heap.size, 2, none⟩) zl).trans l2, (hb12'.cell (p := ⟨w.heap.size, 3, none⟩) zl).trans l3⟩) | (exact ⟨y0, y1, y2, y3, l0, l1, l2, l3⟩) | go_keep)
      (first
        | (go_at_call 10; refine (toMem_any _ 68 _ _ _ _ _ _ _ _ _ ss cs f bs (by exact (h0.below B11.out).drew) (by exact (h1.below B11.out).drew) (by exact (h3.below B11.out).drew) hwt').mono ?_; rintro e w12 ⟨g0, g1, g3, rfl, o12, hb12⟩; have hb12' : Below w11.heap.size w11 w12 := (Below.refl w11.heap.size w11).drew.trans hb12)
        | (go_at_call 13; refine (eqMem_rd _ 50 50 _ _ _ _ _ _ _ ss cs bs (by exact (X11.out.below hb12').rd) (by exact o12.rd) (by omega)).mono ?_; rintro e w13 ⟨rfl, hb13⟩; have hb13' : Below w11.heap.size w11 w13 := Below.andThen hb12' hb13))
    clear y0 y1 y2 y3 l0 l1 l2 l3
    clear zl zy o12 hb12 hb13 hb12'
    have B13 := hidden (Below.andThen B11.out hb13')
    have BM13 := hidden (BM11.out.below hb13' (by omega))
    have W13 := hidden (W11.out.below hb13')
    have WB13 := hidden (WB11.out.below hb13' (by omega))
    have X13 := hidden (X11.out.below hb13')
    have XB13 := hidden (XB11.out.below hb13' (by omega))
    have XS13 := hidden (XS11.out.below hb13')
    have G13 := hidden (G11.out.below hb13')
    have GB13 := hidden (GB11.out.below hb13' (by omega))
    have z13 := hb13'.size
    clear B11 BM11 W11 WB11 X11 XB11 XS11 G11 GB11 hb13'
    go_wp2_with fail
    refine (toIntS_any _ _ _ _ sw hl5 (ints_rd (h5.below B13.out)).1 (by omega)).mono ?_
    rintro e w14 ⟨rfl, o14, hb14⟩
    have B14 := hidden (Below.andThen B13.out hb14)
    have BM14 := hidden (BM13.out.below hb14 (by omega))
    have W14 := hidden (W13.out.below hb14)
    have WB14 := hidden (WB13.out.below hb14 (by omega))
    have X14 := hidden (X13.out.below hb14)
    have XB14 := hidden (XB13.out.below hb14 (by omega))
    have XS14 := hidden (XS13.out.below hb14)
    have G14 := hidden (G13.out.below hb14)
    have GB14 := hidden (GB13.out.below hb14 (by omega))
    have z14 := hb14.size
    clear B13 BM13 W13 WB13 X13 XB13 XS13 G13 GB13 hb14
    have T14 := hidden (own_ints o14)
    clear o14
    go_wp2_with fail
    refine (eqIntS_any _ _ _ _ _ _ _ sw sw hl5 hl5 (ints_rd XS14.out.rd).1 (ints_rd T14.out.rd).1 (by omega)).mono ?_
    rintro e w15 ⟨rfl, hs15⟩
    clear T14
    have B15 := hidden (Below.andSame B14.out hs15)
    have BM15 := hidden (BM14.out.same hs15)
    have W15 := hidden (W14.out.same hs15)
    have WB15 := hidden (WB14.out.same hs15)
    have X15 := hidden (X14.out.same hs15)
    have XB15 := hidden (XB14.out.same hs15)
    have XS15 := hidden (XS14.out.same hs15)
    have G15 := hidden (G14.out.same hs15)
    have GB15 := hidden (GB14.out.same hs15)
    have z15 := Nat.le_of_eq hs15.size.symm
    clear B14 BM14 W14 WB14 X14 XB14 XS14 G14 GB14 hs15
    obtain ⟨y0, y1, y2, y3⟩ := XB15.out.cells4
    go_wp2_with fail
    refine (markMem_own _ _ _ _ _ _ f ss cs bs X15.out (by omega) (by omega)).mono ?_
    rintro e w16 ⟨rfl, o16, hb16⟩
    clear y0 y1 y2 y3
    clear o16
    clear X15
    clear XB15
    have B16 := hidden (Below.andBut B15.out hb16 (by omega))
    have BM16 := hidden (BM15.out.kept (hb16.block _ (by omega) (by omega)))
    have W16 := hidden (W15.out.but hb16 (by omega))
    have WB16 := hidden (WB15.out.kept (hb16.block _ (by omega) (by omega)))
    have XS16 := hidden (XS15.out.but hb16 (by omega))
    have G16 := hidden (G15.out.but hb16 (by omega))
    have GB16 := hidden (GB15.out.kept (hb16.block _ (by omega) (by omega)))
    have z16 := hb16.size
    clear B15 BM15 W15 WB15 XS15 G15 GB15 hb16
    generalize hC : cntM ss cs bs = C at hcp hcle ⊢
    clear hC
    obtain ⟨fpS, mS, rS⟩ := XS16.out.mine
    go_wp2_with fail
    refine (markIntS_fp _ _ _ _ sw _ fpS mS (by omega) (by omega) (by omega)).mono ?_
    rintro e w17 ⟨rfl, m17, t17⟩
    clear XS16
    have hb17 := t17.but rS
    clear mS m17 t17 rS
    have B17 := hidden (Below.andBut B16.out hb17 (by omega))
    have BM17 := hidden (BM16.out.kept (hb17.block _ (by omega) (by omega)))
    have W17 := hidden (W16.out.but hb17 (by omega))
    have WB17 := hidden (WB16.out.kept (hb17.block _ (by omega) (by omega)))
    have G17 := hidden (G16.out.but hb17 (by omega))
    have GB17 := hidden (GB16.out.kept (hb17.block _ (by omega) (by omega)))
    have z17 := hb17.size
    clear B16 BM16 W16 WB16 G16 GB16 hb17
    obtain ⟨u0, u1, u2, u3⟩ := GB17.out.cells4
    obtain ⟨v0, v1, v2, v3⟩ := WB17.out.cells4
    go_wp2_with fail
    refine (eqMem_rd _ 50 50 _ _ _ _ _ _ f ss (wrCS ss cs f bs n sw) (wrBS ss cs f bs n sw) G17.out.rd W17.out.rd hwr).mono ?_
    rintro e w18 ⟨rfl, hb18⟩
    clear u0 u1 u2 u3 v0 v1 v2 v3
    have B18 := hidden (Below.andThen B17.out hb18)
    have BM18 := hidden (BM17.out.below hb18 (by omega))
    have W18 := hidden (W17.out.below hb18)
    have WB18 := hidden (WB17.out.below hb18 (by omega))
    have G18 := hidden (G17.out.below hb18)
    have GB18 := hidden (GB17.out.below hb18 (by omega))
    have z18 := hb18.size
    clear B17 BM17 W17 WB17 G17 GB17 hb18
    obtain ⟨u0, u1, u2, u3⟩ := GB18.out.cells4
    go_wp2_with fail
    refine (markMem_own _ _ _ _ _ _ f ss (wrCS ss cs f bs n sw) (wrBS ss cs f bs n sw) G18.out (by omega) hwr).mono ?_
    rintro e w19 ⟨rfl, o19, hb19⟩
    clear u0 u1 u2 u3
    clear G18
    have B19 := hidden (Below.andBut B18.out hb19 (by omega))
    have BM19 := hidden (BM18.out.kept (hb19.block _ (by omega) (by omega)))
    have W19 := hidden (W18.out.but hb19 (by omega))
    have WB19 := hidden (WB18.out.kept (hb19.block _ (by omega) (by omega)))
    have GB19 := hidden (GB18.out.kept (hb19.block _ (by omega) (by omega)))
    have z19 := hb19.size
    clear B18 BM18 W18 WB18 GB18 hb19
    have G19 := hidden o19
    clear o19
    obtain ⟨u0, u1, u2, u3⟩ := GB19.out.cells4
    go_wp2_with fail
    refine (heldMem_rd _ 50 _ _ _ f ss (wrCS ss cs f bs n sw) (wrBS ss cs f bs n sw) G19.out.rd hwr).mono ?_
    rintro e w20 ⟨rfl, hb20⟩
    clear u0 u1 u2 u3
    have B20 := hidden (Below.andThen B19.out hb20)
    have BM20 := hidden (BM19.out.below hb20 (by omega))
    have W20 := hidden (W19.out.below hb20)
    have WB20 := hidden (WB19.out.below hb20 (by omega))
    have GB20 := hidden (GB19.out.below hb20 (by omega))
    have G20 := hidden (G19.out.below hb20)
    have z20 := hb20.size
    clear B19 BM19 W19 WB19 GB19 G19 hb20
    generalize hE : cntM ss (wrCS ss cs f bs n sw) (wrBS ss cs f bs n sw) = CE at hcq ⊢
    have HE := hidden hE
    clear hE
    obtain ⟨l0, l1, l2, l3⟩ := BM20.out.cells4
    go_wp2_with fail
    refine (toMem_any _ 68 _ _ _ _ _ _ _ _ _ ss cs f bs (h0.below B20.out) (h1.below B20.out) (h3.below B20.out) hwt').mono ?_
    rintro e w21 ⟨e0, e1, e3, rfl, o21, hb21⟩
    clear l0 l1 l2 l3
    have B21 := hidden (Below.andThen B20.out hb21)
    have BM21 := hidden (BM20.out.below hb21 (by omega))
    have W21 := hidden (W20.out.below hb21)
    have WB21 := hidden (WB20.out.below hb21 (by omega))
    have GB21 := hidden (GB20.out.below hb21 (by omega))
    have G21 := hidden (G20.out.below hb21)
    have z21 := hb21.size
    clear B20 BM20 W20 WB20 GB20 G20 hb21
    have Y21 := hidden o21
    clear o21
    go_wp2_with fail
    refine (toIntS_any _ _ _ _ sw hl5 (ints_rd (h5.below B21.out)).1 (by omega)).mono ?_
    rintro e w22 ⟨rfl, o22, hb22⟩
    have B22 := hidden (Below.andThen B21.out hb22)
    have BM22 := hidden (BM21.out.below hb22 (by omega))
    have W22 := hidden (W21.out.below hb22)
    have WB22 := hidden (WB21.out.below hb22 (by omega))
    have GB22 := hidden (GB21.out.below hb22 (by omega))
    have G22 := hidden (G21.out.below hb22)
    have Y22 := hidden (Y21.out.below hb22)
    have z22 := hb22.size
    clear B21 BM21 W21 WB21 GB21 G21 Y21 hb22
    have YS22 := hidden (own_ints o22)
    clear o22
    obtain ⟨p0, p1, p3⟩ := mem_parts Y22.out
    go_wp2_with fail
    refine (implWriteSec_any _ 50 _ _ _ _ _ _ _ _ _ _ _ _ ss cs f bs n sw p0 p1 p3 YS22.out.rd (by omega) (by omega)).mono ?_
    rintro e w23 ⟨k0, k1, k3, rfl, o23, hb23⟩
    clear p0 p1 p3
    clear Y22
    clear YS22
    obtain ⟨ka0, kl0, kc0, ka1, kl1, kc1, ka3, kl3, kc3, hv0, hv1, hv3⟩ := mem_letters o23
    subst hv0 hv1 hv3
    have B23 := hidden (Below.andThen B22.out hb23)
    have BM23 := hidden (BM22.out.below hb23 (by omega))
    have W23 := hidden (W22.out.below hb23)
    have WB23 := hidden (WB22.out.below hb23 (by omega))
    have GB23 := hidden (GB22.out.below hb23 (by omega))
    have G23 := hidden (G22.out.below hb23)
    have z23 := hb23.size
    clear B22 BM22 W22 WB22 GB22 G22 hb23
    have H23 := hidden o23
    clear o23
    have ba : Below w23.heap.size w23 (w23.alloc (.cells #[.slice ka0 kl0 kc0, .slice ka1 kl1 kc1, .bool f, .slice ka3 kl3 kc3] 30)) := (Below.refl _ _).alloc (Nat.le_refl _) _
    have xb := Box.new w23 30 #[.slice ka0 kl0 kc0, .slice ka1 kl1 kc1, .bool f, .slice ka3 kl3 kc3]
    have zx24 := xb.lt
    have B24 := hidden (Below.andThen B23.out ba)
    have BM24 := hidden (BM23.out.below ba (by omega))
    have W24 := hidden (W23.out.below ba)
    have WB24 := hidden (WB23.out.below ba (by omega))
    have GB24 := hidden (GB23.out.below ba (by omega))
    have G24 := hidden (G23.out.below ba)
    have H24 := hidden (H23.out.below ba)
    have z24 := ba.size
    clear B23 BM23 W23 WB23 GB23 G23 H23 ba
    have HB24 := hidden xb
    clear xb
    obtain ⟨u0, u1, u2, u3⟩ := HB24.out.cells4
    obtain ⟨v0, v1, v2, v3⟩ := WB24.out.cells4
    go_wp2_with fail
    generalize w23.alloc (.cells #[.slice ka0 kl0 kc0, .slice ka1 kl1 kc1, .bool f, .slice ka3 kl3 kc3] 30) = w24 at B24 BM24 W24 WB24 GB24 G24 H24 HB24 z24 zx24 u0 u1 u2 u3 v0 v1 v2 v3 ⊢
    refine (eqMem_rd _ 50 50 _ _ _ _ _ _ f ss (wrCS ss cs f bs n sw) (wrBS ss cs f bs n sw) H24.out.rd W24.out.rd hwr).mono ?_
    rintro e w25 ⟨rfl, hb25⟩
    clear u0 u1 u2 u3 v0 v1 v2 v3
    have B25 := hidden (Below.andThen B24.out hb25)
    have BM25 := hidden (BM24.out.below hb25 (by omega))
    have W25 := hidden (W24.out.below hb25)
    have WB25 := hidden (WB24.out.below hb25 (by omega))
    have GB25 := hidden (GB24.out.below hb25 (by omega))
    have G25 := hidden (G24.out.below hb25)
    have H25 := hidden (H24.out.below hb25)
    have HB25 := hidden (HB24.out.below hb25 (by omega))
    have z25 := hb25.size
    clear B24 BM24 W24 WB24 GB24 G24 H24 HB24 hb25
    clear H25
    clear HB25
    clear W25
    clear WB25
    obtain ⟨u0, u1, u2, u3⟩ := GB25.out.cells4
    go_wp2_with fail
    refine (heldMem_rd _ 50 _ _ _ f ss (wrCS ss cs f bs n sw) (wrBS ss cs f bs n sw) G25.out.rd hwr).mono ?_
    rintro e w26 ⟨rfl, hb26⟩
    clear u0 u1 u2 u3
    have B26 := hidden (Below.andThen B25.out hb26)
    have BM26 := hidden (BM25.out.below hb26 (by omega))
    have GB26 := hidden (GB25.out.below hb26 (by omega))
    have G26 := hidden (G25.out.below hb26)
    have z26 := hb26.size
    clear B25 BM25 GB25 G25 hb26
    rw [HE.out]
    go_wp2
    go_ret
    exact ⟨rfl, B26.out⟩
  · have hq := leftOf_neg (left := 1048576) (wt := wtMem (ss, cs, f, bs)) (by omega)
    go_wp2
    go_ret
    exact ⟨rfl, B1.out⟩

end Go.Proofs.Ytkgifogmjnhcoak

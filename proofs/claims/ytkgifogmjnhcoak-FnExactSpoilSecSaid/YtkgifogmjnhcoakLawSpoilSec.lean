/-
  The walk of the exact law of SpoilSec: at every disk and every number it answers true, and nothing that was there has turned. No condition.
-/
import Derived.Test.YtkgifogmjnhcoakWalkMemRd
import Derived.Test.YtkgifogmjnhcoakWalkSpoil
namespace Go.Proofs.Ytkgifogmjnhcoak
open Go.RowKit

theorem sp_len {ss : List (List Int)} {cs : List (Int × List Int)} {bs : List Int} {n : Int} : (spBS ss cs bs n).length ≤ bs.length + 1 := by
  unfold spBS
  by_cases h : spOk ss cs bs n = true
  · rw [if_pos h]
    unfold insD
    rw [List.length_append, List.length_cons, List.length_take, List.length_drop]
    omega
  · rw [if_neg h]
    omega
theorem sp_wt {ss : List (List Int)} {cs : List (Int × List Int)} {f : Bool} {bs : List Int} {n : Int} (h : wtMem (ss, cs, f, bs) ≤ 1048576) : wtMem (ss, cs, f, spBS ss cs bs n) ≤ 2097152 := by
  have h1 := sp_len (ss := ss) (cs := cs) (bs := bs) (n := n)
  unfold wtMem at *
  simp only at *
  omega

set_option maxHeartbeats 4000000 in
theorem fnExactSpoilSec_walk (a0 a1 a3 : Option Addr) (n0 c0 n1 c1 n3 c3 : Nat) (ss : List (List Int)) (cs : List (Int × List Int)) (f : Bool) (bs : List Int) (n : Int) (w : World) (h0 : tIntSS.Rd w [.slice a0 n0 c0] ss) (h1 : (tWrS 68).Rd w [.slice a1 n1 c1] cs) (h3 : tIntS.Rd w [.slice a3 n3 c3] bs) :
    Calls Try.prog 7 #[.agg #[.slice a0 n0 c0, .slice a1 n1 c1, .bool f, .slice a3 n3 c3], .int .i64 n] w fun e w' => e = .returned (.bool true) ∧ Below w.heap.size w w' := by
  have hA : Below w.heap.size w (w.alloc (.cells #[.slice a0 n0 c0, .slice a1 n1 c1, .bool f, .slice a3 n3 c3] 26)) := (Below.refl _ _).alloc (Nat.le_refl _) _
  have xm := Box.new w 26 #[.slice a0 n0 c0, .slice a1 n1 c1, .bool f, .slice a3 n3 c3]
  have zm := xm.lt
  obtain ⟨l0, l1, l2, l3⟩ := xm.cells4
  have XM := hidden xm
  clear xm
  go_enter Try.func7, Try.ntmps7
  go_wp2_with fail
  refine (szMem_any _ 68 _ _ _ _ _ _ _ _ _ ss cs f bs _ (h0.below hA) (h1.below hA) (h3.below hA) (by omega) (by omega)).mono ?_
  rintro e w1 ⟨rfl, hb1⟩
  have BM1 := hidden (XM.out.below hb1 zm)
  have B1 := hidden (Below.andThen hA hb1)
  have z1 : w.heap.size < w1.heap.size := Nat.lt_of_lt_of_le zm hb1.size
  clear hb1 hA l0 l1 l2 l3 zm XM
  by_cases hwt : (wtMem (ss, cs, f, bs) : Int) ≤ 1048576
  · have hq := leftOf_pos hwt
    have hwt' : wtMem (ss, cs, f, bs) ≤ 1048576 := by omega
    have hcp := cntM_pos ss cs bs
    have hwr := sp_wt (n := n) hwt'
    have hcq := cntM_pos ss cs (spBS ss cs bs n)
    obtain ⟨l0, l1, l2, l3⟩ := BM1.out.cells4
    go_wp2_with fail
    refine (toMem_any _ 68 _ _ _ _ _ _ _ _ _ ss cs f bs (h0.below B1.out) (h1.below B1.out) (h3.below B1.out) hwt').mono ?_
    rintro e w2 ⟨b0, b1, b3, rfl, o2, hb2⟩
    clear l0 l1 l2 l3
    have B2 := hidden (Below.andThen B1.out hb2)
    have BM2 := hidden (BM1.out.below hb2 (by omega))
    have z2 := hb2.size
    clear B1 BM1 hb2
    have Y2 := hidden o2
    clear o2
    obtain ⟨p0, p1, p3⟩ := mem_parts Y2.out
    go_wp2_with fail
    refine (specSpoilSec_any _ 50 _ _ _ _ _ _ _ _ _ ss cs f bs n p0 p1 p3 (by omega)).mono ?_
    rintro e w3 ⟨y0, y1, y3, rfl, o3, hb3⟩
    clear p0 p1 p3
    clear Y2
    obtain ⟨ya0, yl0, yc0, ya1, yl1, yc1, ya3, yl3, yc3, hv0, hv1, hv3⟩ := mem_letters o3
    subst hv0 hv1 hv3
    have B3 := hidden (Below.andThen B2.out hb3)
    have BM3 := hidden (BM2.out.below hb3 (by omega))
    have z3 := hb3.size
    clear B2 BM2 hb3
    have W3 := hidden o3
    clear o3
    have ba : Below w3.heap.size w3 (w3.alloc (.cells #[.slice ya0 yl0 yc0, .slice ya1 yl1 yc1, .bool f, .slice ya3 yl3 yc3] 30)) := (Below.refl _ _).alloc (Nat.le_refl _) _
    have xb := Box.new w3 30 #[.slice ya0 yl0 yc0, .slice ya1 yl1 yc1, .bool f, .slice ya3 yl3 yc3]
    have zx4 := xb.lt
    have B4 := hidden (Below.andThen B3.out ba)
    have BM4 := hidden (BM3.out.below ba (by omega))
    have W4 := hidden (W3.out.below ba)
    have z4 := ba.size
    clear B3 BM3 W3 ba
    have WB4 := hidden xb
    clear xb
    obtain ⟨l0, l1, l2, l3⟩ := BM4.out.cells4
    go_wp2_with fail
    generalize w3.alloc (.cells #[.slice ya0 yl0 yc0, .slice ya1 yl1 yc1, .bool f, .slice ya3 yl3 yc3] 30) = w4 at B4 BM4 W4 WB4 z4 zx4 l0 l1 l2 l3 ⊢
    refine (toMem_any _ 68 _ _ _ _ _ _ _ _ _ ss cs f bs (h0.below B4.out) (h1.below B4.out) (h3.below B4.out) hwt').mono ?_
    rintro e w5 ⟨d0, d1, d3, rfl, o5, hb5⟩
    clear l0 l1 l2 l3
    have B5 := hidden (Below.andThen B4.out hb5)
    have BM5 := hidden (BM4.out.below hb5 (by omega))
    have W5 := hidden (W4.out.below hb5)
    have WB5 := hidden (WB4.out.below hb5 (by omega))
    have z5 := hb5.size
    clear B4 BM4 W4 WB4 hb5
    have X5 := hidden o5
    clear o5
    have ba : Below w5.heap.size w5 (w5.alloc (.cells #[.slice d0 n0 n0, .slice d1 n1 n1, .bool f, .slice d3 n3 n3] 30)) := (Below.refl _ _).alloc (Nat.le_refl _) _
    have xb := Box.new w5 30 #[.slice d0 n0 n0, .slice d1 n1 n1, .bool f, .slice d3 n3 n3]
    have zx6 := xb.lt
    have B6 := hidden (Below.andThen B5.out ba)
    have BM6 := hidden (BM5.out.below ba (by omega))
    have W6 := hidden (W5.out.below ba)
    have WB6 := hidden (WB5.out.below ba (by omega))
    have X6 := hidden (X5.out.below ba)
    have z6 := ba.size
    clear B5 BM5 W5 WB5 X5 ba
    have XB6 := hidden xb
    clear xb
    obtain ⟨p0, p1, p3⟩ := mem_parts X6.out
    obtain ⟨x0, x1, x2, x3⟩ := XB6.out.cells4
    go_wp2_with fail
    generalize w5.alloc (.cells #[.slice d0 n0 n0, .slice d1 n1 n1, .bool f, .slice d3 n3 n3] 30) = w6 at B6 BM6 W6 WB6 X6 XB6 z6 zx6 p0 p1 p3 x0 x1 x2 x3 ⊢
    refine (implSpoilSec_any _ 50 _ _ _ _ _ _ _ _ _ ss cs f bs n p0 p1 p3 (by omega)).mono ?_
    rintro e w7 ⟨g0, g1, g3, rfl, o7, hb7⟩
    clear p0 p1 p3
    clear x0 x1 x2 x3
    obtain ⟨ga0, gl0, gc0, ga1, gl1, gc1, ga3, gl3, gc3, hv0, hv1, hv3⟩ := mem_letters o7
    subst hv0 hv1 hv3
    have B7 := hidden (Below.andThen B6.out hb7)
    have BM7 := hidden (BM6.out.below hb7 (by omega))
    have W7 := hidden (W6.out.below hb7)
    have WB7 := hidden (WB6.out.below hb7 (by omega))
    have X7 := hidden (X6.out.below hb7)
    have XB7 := hidden (XB6.out.below hb7 (by omega))
    have z7 := hb7.size
    clear B6 BM6 W6 WB6 X6 XB6 hb7
    have G7 := hidden o7
    clear o7
    have ba : Below w7.heap.size w7 (w7.alloc (.cells #[.slice ga0 gl0 gc0, .slice ga1 gl1 gc1, .bool f, .slice ga3 gl3 gc3] 30)) := (Below.refl _ _).alloc (Nat.le_refl _) _
    have xb := Box.new w7 30 #[.slice ga0 gl0 gc0, .slice ga1 gl1 gc1, .bool f, .slice ga3 gl3 gc3]
    have zx8 := xb.lt
    have B8 := hidden (Below.andThen B7.out ba)
    have BM8 := hidden (BM7.out.below ba (by omega))
    have W8 := hidden (W7.out.below ba)
    have WB8 := hidden (WB7.out.below ba (by omega))
    have X8 := hidden (X7.out.below ba)
    have XB8 := hidden (XB7.out.below ba (by omega))
    have G8 := hidden (G7.out.below ba)
    have z8 := ba.size
    clear B7 BM7 W7 WB7 X7 XB7 G7 ba
    have GB8 := hidden xb
    clear xb
    obtain ⟨u0, u1, u2, u3⟩ := GB8.out.cells4
    obtain ⟨v0, v1, v2, v3⟩ := WB8.out.cells4
    go_wp2_with fail
    generalize w7.alloc (.cells #[.slice ga0 gl0 gc0, .slice ga1 gl1 gc1, .bool f, .slice ga3 gl3 gc3] 30) = w8 at B8 BM8 W8 WB8 X8 XB8 G8 GB8 z8 zx8 u0 u1 u2 u3 v0 v1 v2 v3 ⊢
    refine (eqMem_rd _ 50 50 _ _ _ _ _ _ f ss cs (spBS ss cs bs n) G8.out.rd W8.out.rd hwr).mono ?_
    rintro e w9 ⟨rfl, hb9⟩
    clear u0 u1 u2 u3 v0 v1 v2 v3
    have B9 := hidden (Below.andThen B8.out hb9)
    have BM9 := hidden (BM8.out.below hb9 (by omega))
    have W9 := hidden (W8.out.below hb9)
    have WB9 := hidden (WB8.out.below hb9 (by omega))
    have X9 := hidden (X8.out.below hb9)
    have XB9 := hidden (XB8.out.below hb9 (by omega))
    have G9 := hidden (G8.out.below hb9)
    have GB9 := hidden (GB8.out.below hb9 (by omega))
    have z9 := hb9.size
    clear B8 BM8 W8 WB8 X8 XB8 G8 GB8 hb9
    obtain ⟨y0, y1, y2, y3⟩ := XB9.out.cells4
    obtain ⟨l0, l1, l2, l3⟩ := BM9.out.cells4
    have zl := BM9.out.lt
    have zy := XB9.out.lt
    go_wp2_with fail
    go_region_held3 (fun w' => w'.cell? ⟨w5.heap.size, 0, none⟩ = some (.slice d0 n0 n0) ∧ w'.cell? ⟨w5.heap.size, 1, none⟩ = some (.slice d1 n1 n1) ∧ w'.cell? ⟨w5.heap.size, 2, none⟩ = some (.bool f) ∧ w'.cell? ⟨w5.heap.size, 3, none⟩ = some (.slice d3 n3 n3) ∧ w'.cell? ⟨w.heap.size, 0, none⟩ = some (.slice a0 n0 c0) ∧ w'.cell? ⟨w.heap.size, 1, none⟩ = some (.slice a1 n1 c1) ∧ w'.cell? ⟨w.heap.size, 2, none⟩ = some (.bool f) ∧ w'.cell? ⟨w.heap.size, 3, none⟩ = some (.slice a3 n3 c3))
      (first | (exact ⟨(hb11'.cell (p := ⟨w5.heap.size, 0, none⟩) zy).trans y0, (hb11'.cell (p := ⟨w5.heap.size, 1, none⟩) zy).trans y1, (hb11'.cell (p := ⟨w5.heap.size, 2, none⟩) zy).trans y2, (hb11'.cell (p := ⟨w5.heap.size, 3, none⟩) zy).trans y3, (hb11'.cell (p := ⟨w.heap.size, 0, none⟩) zl).trans l0, (hb11'.cell (p := ⟨w.heap.size, 1, none⟩) zl).trans l1, (hb11'.cell (p := ⟨w.heap.size, 2, none⟩) zl).trans l2, (hb11'.cell (p := ⟨w.heap.size, 3, none⟩) zl).trans l3⟩) | (exact ⟨(hb10'.cell (p := ⟨w5.heap.size, 0, none⟩) zy).trans y0, (hb10'.cell (p := ⟨w5.heap.size, 1, none⟩) zy).trans y1, (hb10'.cell (p := ⟨w5.heap.size, 2, none⟩) zy).trans y2, (hb10'.cell (p := ⟨w5.heap.size, 3, none⟩) zy).trans y3, (hb10'.cell (p := ⟨w.heap.size, 0, none⟩) zl).trans l0, (hb10'.cell (p := ⟨w.heap.size, 1, none⟩) zl).trans l1, (hb10'.cell (p := ⟨w.heap.size, 2, none⟩) zl).trans l2, (hb10'.cell (p := ⟨w.heap.size, 3, none⟩) zl).trans l3⟩) | (exact ⟨y0, y1, y2, y3, l0, l1, l2, l3⟩) | go_keep)
      (first
        | (go_at_call 10; refine (toMem_any _ 68 _ _ _ _ _ _ _ _ _ ss cs f bs (by exact (h0.below B9.out).drew) (by exact (h1.below B9.out).drew) (by exact (h3.below B9.out).drew) hwt').mono ?_; rintro e w10 ⟨g0, g1, g3, rfl, o10, hb10⟩; have hb10' : Below w9.heap.size w9 w10 := (Below.refl w9.heap.size w9).drew.trans hb10)
        | (go_at_call 13; refine (eqMem_rd _ 50 50 _ _ _ _ _ _ _ ss cs bs (by exact (X9.out.below hb10').rd) (by exact o10.rd) (by omega)).mono ?_; rintro e w11 ⟨rfl, hb11⟩; have hb11' : Below w9.heap.size w9 w11 := Below.andThen hb10' hb11))
    clear y0 y1 y2 y3 l0 l1 l2 l3
    clear zl zy o10 hb10 hb11 hb10'
    have B11 := hidden (Below.andThen B9.out hb11')
    have BM11 := hidden (BM9.out.below hb11' (by omega))
    have W11 := hidden (W9.out.below hb11')
    have WB11 := hidden (WB9.out.below hb11' (by omega))
    have X11 := hidden (X9.out.below hb11')
    have XB11 := hidden (XB9.out.below hb11' (by omega))
    have G11 := hidden (G9.out.below hb11')
    have GB11 := hidden (GB9.out.below hb11' (by omega))
    have z11 := hb11'.size
    clear B9 BM9 W9 WB9 X9 XB9 G9 GB9 hb11'
    obtain ⟨y0, y1, y2, y3⟩ := XB11.out.cells4
    go_wp2_with fail
    refine (markMem_own _ _ _ _ _ _ f ss cs bs X11.out (by omega) (by omega)).mono ?_
    rintro e w12 ⟨rfl, o12, hb12⟩
    clear y0 y1 y2 y3
    clear o12
    clear X11
    clear XB11
    have B12 := hidden (Below.andBut B11.out hb12 (by omega))
    have BM12 := hidden (BM11.out.kept (hb12.block _ (by omega) (by omega)))
    have W12 := hidden (W11.out.but hb12 (by omega))
    have WB12 := hidden (WB11.out.kept (hb12.block _ (by omega) (by omega)))
    have G12 := hidden (G11.out.but hb12 (by omega))
    have GB12 := hidden (GB11.out.kept (hb12.block _ (by omega) (by omega)))
    have z12 := hb12.size
    clear B11 BM11 W11 WB11 G11 GB11 hb12
    generalize hC : cntM ss cs bs = C at hcp ⊢
    clear hC
    obtain ⟨u0, u1, u2, u3⟩ := GB12.out.cells4
    obtain ⟨v0, v1, v2, v3⟩ := WB12.out.cells4
    go_wp2_with fail
    refine (eqMem_rd _ 50 50 _ _ _ _ _ _ f ss cs (spBS ss cs bs n) G12.out.rd W12.out.rd hwr).mono ?_
    rintro e w13 ⟨rfl, hb13⟩
    clear u0 u1 u2 u3 v0 v1 v2 v3
    have B13 := hidden (Below.andThen B12.out hb13)
    have BM13 := hidden (BM12.out.below hb13 (by omega))
    have W13 := hidden (W12.out.below hb13)
    have WB13 := hidden (WB12.out.below hb13 (by omega))
    have G13 := hidden (G12.out.below hb13)
    have GB13 := hidden (GB12.out.below hb13 (by omega))
    have z13 := hb13.size
    clear B12 BM12 W12 WB12 G12 GB12 hb13
    obtain ⟨u0, u1, u2, u3⟩ := GB13.out.cells4
    go_wp2_with fail
    refine (markMem_own _ _ _ _ _ _ f ss cs (spBS ss cs bs n) G13.out (by omega) hwr).mono ?_
    rintro e w14 ⟨rfl, o14, hb14⟩
    clear u0 u1 u2 u3
    clear G13
    have B14 := hidden (Below.andBut B13.out hb14 (by omega))
    have BM14 := hidden (BM13.out.kept (hb14.block _ (by omega) (by omega)))
    have W14 := hidden (W13.out.but hb14 (by omega))
    have WB14 := hidden (WB13.out.kept (hb14.block _ (by omega) (by omega)))
    have GB14 := hidden (GB13.out.kept (hb14.block _ (by omega) (by omega)))
    have z14 := hb14.size
    clear B13 BM13 W13 WB13 GB13 hb14
    have G14 := hidden o14
    clear o14
    obtain ⟨u0, u1, u2, u3⟩ := GB14.out.cells4
    go_wp2_with fail
    refine (heldMem_rd _ 50 _ _ _ f ss cs (spBS ss cs bs n) G14.out.rd hwr).mono ?_
    rintro e w15 ⟨rfl, hb15⟩
    clear u0 u1 u2 u3
    have B15 := hidden (Below.andThen B14.out hb15)
    have BM15 := hidden (BM14.out.below hb15 (by omega))
    have W15 := hidden (W14.out.below hb15)
    have WB15 := hidden (WB14.out.below hb15 (by omega))
    have GB15 := hidden (GB14.out.below hb15 (by omega))
    have G15 := hidden (G14.out.below hb15)
    have z15 := hb15.size
    clear B14 BM14 W14 WB14 GB14 G14 hb15
    generalize hE : cntM ss cs (spBS ss cs bs n) = CE at hcq ⊢
    have HE := hidden hE
    clear hE
    obtain ⟨l0, l1, l2, l3⟩ := BM15.out.cells4
    go_wp2_with fail
    refine (toMem_any _ 68 _ _ _ _ _ _ _ _ _ ss cs f bs (h0.below B15.out) (h1.below B15.out) (h3.below B15.out) hwt').mono ?_
    rintro e w16 ⟨e0, e1, e3, rfl, o16, hb16⟩
    clear l0 l1 l2 l3
    have B16 := hidden (Below.andThen B15.out hb16)
    have BM16 := hidden (BM15.out.below hb16 (by omega))
    have W16 := hidden (W15.out.below hb16)
    have WB16 := hidden (WB15.out.below hb16 (by omega))
    have GB16 := hidden (GB15.out.below hb16 (by omega))
    have G16 := hidden (G15.out.below hb16)
    have z16 := hb16.size
    clear B15 BM15 W15 WB15 GB15 G15 hb16
    have Y16 := hidden o16
    clear o16
    obtain ⟨p0, p1, p3⟩ := mem_parts Y16.out
    go_wp2_with fail
    refine (implSpoilSec_any _ 50 _ _ _ _ _ _ _ _ _ ss cs f bs n p0 p1 p3 (by omega)).mono ?_
    rintro e w17 ⟨k0, k1, k3, rfl, o17, hb17⟩
    clear p0 p1 p3
    clear Y16
    obtain ⟨ka0, kl0, kc0, ka1, kl1, kc1, ka3, kl3, kc3, hv0, hv1, hv3⟩ := mem_letters o17
    subst hv0 hv1 hv3
    have B17 := hidden (Below.andThen B16.out hb17)
    have BM17 := hidden (BM16.out.below hb17 (by omega))
    have W17 := hidden (W16.out.below hb17)
    have WB17 := hidden (WB16.out.below hb17 (by omega))
    have GB17 := hidden (GB16.out.below hb17 (by omega))
    have G17 := hidden (G16.out.below hb17)
    have z17 := hb17.size
    clear B16 BM16 W16 WB16 GB16 G16 hb17
    have H17 := hidden o17
    clear o17
    have ba : Below w17.heap.size w17 (w17.alloc (.cells #[.slice ka0 kl0 kc0, .slice ka1 kl1 kc1, .bool f, .slice ka3 kl3 kc3] 30)) := (Below.refl _ _).alloc (Nat.le_refl _) _
    have xb := Box.new w17 30 #[.slice ka0 kl0 kc0, .slice ka1 kl1 kc1, .bool f, .slice ka3 kl3 kc3]
    have zx18 := xb.lt
    have B18 := hidden (Below.andThen B17.out ba)
    have BM18 := hidden (BM17.out.below ba (by omega))
    have W18 := hidden (W17.out.below ba)
    have WB18 := hidden (WB17.out.below ba (by omega))
    have GB18 := hidden (GB17.out.below ba (by omega))
    have G18 := hidden (G17.out.below ba)
    have H18 := hidden (H17.out.below ba)
    have z18 := ba.size
    clear B17 BM17 W17 WB17 GB17 G17 H17 ba
    have HB18 := hidden xb
    clear xb
    obtain ⟨u0, u1, u2, u3⟩ := HB18.out.cells4
    obtain ⟨v0, v1, v2, v3⟩ := WB18.out.cells4
    go_wp2_with fail
    generalize w17.alloc (.cells #[.slice ka0 kl0 kc0, .slice ka1 kl1 kc1, .bool f, .slice ka3 kl3 kc3] 30) = w18 at B18 BM18 W18 WB18 GB18 G18 H18 HB18 z18 zx18 u0 u1 u2 u3 v0 v1 v2 v3 ⊢
    refine (eqMem_rd _ 50 50 _ _ _ _ _ _ f ss cs (spBS ss cs bs n) H18.out.rd W18.out.rd hwr).mono ?_
    rintro e w19 ⟨rfl, hb19⟩
    clear u0 u1 u2 u3 v0 v1 v2 v3
    have B19 := hidden (Below.andThen B18.out hb19)
    have BM19 := hidden (BM18.out.below hb19 (by omega))
    have W19 := hidden (W18.out.below hb19)
    have WB19 := hidden (WB18.out.below hb19 (by omega))
    have GB19 := hidden (GB18.out.below hb19 (by omega))
    have G19 := hidden (G18.out.below hb19)
    have H19 := hidden (H18.out.below hb19)
    have HB19 := hidden (HB18.out.below hb19 (by omega))
    have z19 := hb19.size
    clear B18 BM18 W18 WB18 GB18 G18 H18 HB18 hb19
    clear H19
    clear HB19
    clear W19
    clear WB19
    obtain ⟨u0, u1, u2, u3⟩ := GB19.out.cells4
    go_wp2_with fail
    refine (heldMem_rd _ 50 _ _ _ f ss cs (spBS ss cs bs n) G19.out.rd hwr).mono ?_
    rintro e w20 ⟨rfl, hb20⟩
    clear u0 u1 u2 u3
    have B20 := hidden (Below.andThen B19.out hb20)
    have BM20 := hidden (BM19.out.below hb20 (by omega))
    have GB20 := hidden (GB19.out.below hb20 (by omega))
    have G20 := hidden (G19.out.below hb20)
    have z20 := hb20.size
    clear B19 BM19 GB19 G19 hb20
    rw [HE.out]
    go_wp2
    go_ret
    exact ⟨rfl, B20.out⟩
  · have hq := leftOf_neg (left := 1048576) (wt := wtMem (ss, cs, f, bs)) (by omega)
    go_wp2
    go_ret
    exact ⟨rfl, B1.out⟩

end Go.Proofs.Ytkgifogmjnhcoak

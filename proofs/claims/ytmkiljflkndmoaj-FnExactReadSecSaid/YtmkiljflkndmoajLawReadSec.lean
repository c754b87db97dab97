/-
  The walk of the exact law of ReadSec: at every disk and every number it answers true, and nothing that was there has turned. No condition.
-/
import Derived.Test.YtmkiljflkndmoajWalkMemRd
import Derived.Test.YtmkiljflkndmoajWalkRead2
namespace Go.Proofs.Ytmkiljflkndmoaj
open Go.RowKit

theorem readD_le {ss : List (List Int)} {cs : List (Int × List Int)} {f : Bool} {bs : List Int} {n : Int} (hw : wtMem (ss, cs, f, bs) ≤ 1048576) : (readD ss cs f bs n).length ≤ 1048576 := by
  have hw0 : wtIntSS ss ≤ 1048576 := by unfold wtMem at hw; simp only at hw; omega
  have hw1 : wtWrS cs ≤ 1048576 := by unfold wtMem at hw; simp only at hw; omega
  unfold readD
  split
  · cases h : lastW cs n with
    | some zs => exact lastW_le hw1 h
    | none =>
      unfold secAt
      rw [Option.getD_none, List.getD_eq_getElem?_getD]
      cases h2 : ss[n.toNat]? with
      | none => simp
      | some x => exact Nat.le_trans (inner_le h2) hw0
  · simp
theorem own_len {w : World} {lo hi l : Nat} {a : Option Addr} {c : Nat} {zs ps : List Int} {pl : Nat} (h : tIntS.Own w lo hi [.slice a l c] zs) (hp : zs = ps) (hl : ps.length = pl) : l = pl ∧ tIntS.Own w lo hi [.slice a pl c] ps := by
  subst hp
  have := (row_length h.rd).1
  have e : l = pl := by omega
  subst e
  exact ⟨rfl, h⟩

set_option maxHeartbeats 4000000 in
theorem fnExactReadSec_walk (a0 a1 a3 : Option Addr) (n0 c0 n1 c1 n3 c3 : Nat) (ss : List (List Int)) (cs : List (Int × List Int)) (f : Bool) (bs : List Int) (n : Int) (w : World) (h0 : tIntSS.Rd w [.slice a0 n0 c0] ss) (h1 : (tWrS 75).Rd w [.slice a1 n1 c1] cs) (h3 : tIntS.Rd w [.slice a3 n3 c3] bs) :
    Calls Try.prog 8 #[.agg #[.slice a0 n0 c0, .slice a1 n1 c1, .bool f, .slice a3 n3 c3], .int .i64 n] w fun e w' => e = .returned (.bool true) ∧ Below w.heap.size w w' := by
  have hA : Below w.heap.size w (w.alloc (.cells #[.slice a0 n0 c0, .slice a1 n1 c1, .bool f, .slice a3 n3 c3] 47)) := (Below.refl _ _).alloc (Nat.le_refl _) _
  have xm := Box.new w 47 #[.slice a0 n0 c0, .slice a1 n1 c1, .bool f, .slice a3 n3 c3]
  have zm := xm.lt
  obtain ⟨l0, l1, l2, l3⟩ := xm.cells4
  have XM := hidden xm
  clear xm
  go_enter Try.func8, Try.ntmps8
  go_wp2_with fail
  refine (szMem_any _ 75 _ _ _ _ _ _ _ _ _ ss cs f bs _ (h0.below hA) (h1.below hA) (h3.below hA) (by omega) (by omega)).mono ?_
  rintro e w1 ⟨rfl, hb1⟩
  have BM1 := hidden (XM.out.below hb1 zm)
  have B1 := hidden (Below.andThen hA hb1)
  have z1 : w.heap.size < w1.heap.size := Nat.lt_of_lt_of_le zm hb1.size
  clear hb1 hA l0 l1 l2 l3 zm XM
  by_cases hwt : (wtMem (ss, cs, f, bs) : Int) ≤ 1048576
  · have hq := leftOf_pos hwt
    have hwt' : wtMem (ss, cs, f, bs) ≤ 1048576 := by omega
    have hcp := cntM_pos ss cs bs
    have hgl := readD_le (n := n) hwt'
    generalize hP : readD ss cs f bs n = ps at hgl
    generalize hn : ps.length = pl at hgl
    have HP := hidden hP
    have HN := hidden hn
    clear hP hn
    have hne : (readOk ss cs f bs n != readOk ss cs f bs n) = false := by simp
    have hd : decide (ps = ps) = true := by simp
    obtain ⟨l0, l1, l2, l3⟩ := BM1.out.cells4
    go_wp2_with fail
    refine (toMem_any _ 75 _ _ _ _ _ _ _ _ _ ss cs f bs (h0.below B1.out) (h1.below B1.out) (h3.below B1.out) hwt').mono ?_
    rintro e w2 ⟨b0, b1, b3, rfl, o2, hb2⟩
    clear l0 l1 l2 l3
    have B2 := hidden (Below.andThen B1.out hb2)
    have BM2 := hidden (BM1.out.below hb2 (by omega))
    have z2 := hb2.size
    clear B1 BM1 hb2
    have Y2 := hidden o2
    clear o2
    obtain ⟨p0, p1, p3⟩ := mem_parts Y2.out
    go_wp2_with fail
    refine (specReadSec_any _ 65 _ _ _ _ _ _ _ _ _ ss cs f bs n p0 p1 p3 (by omega)).mono ?_
    rintro e w3 ⟨aw, lw, cw, rfl, o3, hb3⟩
    obtain ⟨rfl, o3'⟩ := own_len o3 HP.out HN.out
    clear o3 p0 p1 p3
    clear Y2
    have B3 := hidden (Below.andThen B2.out hb3)
    have BM3 := hidden (BM2.out.below hb3 (by omega))
    have z3 := hb3.size
    clear B2 BM2 hb3
    have W3 := hidden o3'
    clear o3'
    obtain ⟨l0, l1, l2, l3⟩ := BM3.out.cells4
    go_wp2_with fail
    refine (toMem_any _ 75 _ _ _ _ _ _ _ _ _ ss cs f bs (h0.below B3.out) (h1.below B3.out) (h3.below B3.out) hwt').mono ?_
    rintro e w4 ⟨d0, d1, d3, rfl, o4, hb4⟩
    clear l0 l1 l2 l3
    have B4 := hidden (Below.andThen B3.out hb4)
    have BM4 := hidden (BM3.out.below hb4 (by omega))
    have W4 := hidden (W3.out.below hb4)
    have z4 := hb4.size
    clear B3 BM3 W3 hb4
    have X4 := hidden o4
    clear o4
    have ba : Below w4.heap.size w4 (w4.alloc (.cells #[.slice d0 n0 n0, .slice d1 n1 n1, .bool f, .slice d3 n3 n3] 40)) := (Below.refl _ _).alloc (Nat.le_refl _) _
    have xb := Box.new w4 40 #[.slice d0 n0 n0, .slice d1 n1 n1, .bool f, .slice d3 n3 n3]
    have zx := xb.lt
    have B5 := hidden (Below.andThen B4.out ba)
    have BM5 := hidden (BM4.out.below ba (by omega))
    have W5 := hidden (W4.out.below ba)
    have X5 := hidden (X4.out.below ba)
    have z5 := ba.size
    clear B4 BM4 W4 X4 ba
    have XB5 := hidden xb
    clear xb
    obtain ⟨p0, p1, p3⟩ := mem_parts X5.out
    obtain ⟨x0, x1, x2, x3⟩ := XB5.out.cells4
    go_wp2_with fail
    generalize w4.alloc (.cells #[.slice d0 n0 n0, .slice d1 n1 n1, .bool f, .slice d3 n3 n3] 40) = w5 at B5 BM5 W5 X5 XB5 p0 p1 p3 x0 x1 x2 x3 z5 zx ⊢
    refine (implReadSec_any _ 65 _ _ _ _ _ _ _ _ _ ss cs f bs n p0 p1 p3 (by omega)).mono ?_
    rintro e w6 ⟨ag, lg, cg, rfl, o6, hb6⟩
    obtain ⟨rfl, o6'⟩ := own_len o6 HP.out HN.out
    clear o6 p0 p1 p3
    clear x0 x1 x2 x3
    have B6 := hidden (Below.andThen B5.out hb6)
    have BM6 := hidden (BM5.out.below hb6 (by omega))
    have W6 := hidden (W5.out.below hb6)
    have X6 := hidden (X5.out.below hb6)
    have XB6 := hidden (XB5.out.below hb6 (by omega))
    have z6 := hb6.size
    clear B5 BM5 W5 X5 XB5 hb6
    have G6 := hidden o6'
    clear o6'
    go_wp2_with fail
    refine (eqIntS_any _ _ _ _ _ _ _ ps ps HN.out HN.out (ints_rd G6.out.rd).1 (ints_rd W6.out.rd).1 (by omega)).mono ?_
    rintro e w7 ⟨rfl, hs7⟩
    have B7 := hidden (Below.andSame B6.out hs7)
    have BM7 := hidden (BM6.out.same hs7)
    have W7 := hidden (W6.out.same hs7)
    have X7 := hidden (X6.out.same hs7)
    have XB7 := hidden (XB6.out.same hs7)
    have G7 := hidden (G6.out.same hs7)
    have z7 := Nat.le_of_eq hs7.size.symm
    clear B6 BM6 W6 X6 XB6 G6 hs7
    obtain ⟨y0, y1, y2, y3⟩ := XB7.out.cells4
    obtain ⟨l0, l1, l2, l3⟩ := BM7.out.cells4
    have zl := BM7.out.lt
    have zy := XB7.out.lt
    go_wp2_with fail
    go_region_held3 (fun w' => w'.cell? ⟨w4.heap.size, 0, none⟩ = some (.slice d0 n0 n0) ∧ w'.cell? ⟨w4.heap.size, 1, none⟩ = some (.slice d1 n1 n1) ∧ w'.cell? ⟨w4.heap.size, 2, none⟩ = some (.bool f) ∧ w'.cell? ⟨w4.heap.size, 3, none⟩ = some (.slice d3 n3 n3) ∧ w'.cell? ⟨w.heap.size, 0, none⟩ = some (.slice a0 n0 c0) ∧ w'.cell? ⟨w.heap.size, 1, none⟩ = some (.slice a1 n1 c1) ∧ w'.cell? ⟨w.heap.size, 2, none⟩ = some (.bool f) ∧ w'.cell? ⟨w.heap.size, 3, none⟩ = some (.slice a3 n3 c3))
      (first | (exact ⟨(hb9'.cell (p := ⟨w4.heap.size, 0, none⟩) zy).trans y0, (hb9'.cell (p := ⟨w4.heap.size, 1, none⟩) zy).trans y1, (hb9'.cell (p := ⟨w4.heap.size, 2, none⟩) zy).trans y2, (hb9'.cell (p := ⟨w4.heap.size, 3, none⟩) zy).trans y3, (hb9'.cell (p := ⟨w.heap.size, 0, none⟩) zl).trans l0, (hb9'.cell (p := ⟨w.heap.size, 1, none⟩) zl).trans l1, (hb9'.cell (p := ⟨w.heap.size, 2, none⟩) zl).trans l2, (hb9'.cell (p := ⟨w.heap.size, 3, none⟩) zl).trans l3⟩) | (exact ⟨(hb8'.cell (p := ⟨w4.heap.size, 0, none⟩) zy).trans y0, (hb8'.cell (p := ⟨w4.heap.size, 1, none⟩) zy).trans y1, (hb8'.cell (p := ⟨w4.heap.size, 2, none⟩) zy).trans y2, (hb8'.cell (p := ⟨w4.heap.size, 3, none⟩) zy).trans y3, (hb8'.cell (p := ⟨w.heap.size, 0, none⟩) zl).trans l0, (hb8'.cell (p := ⟨w.heap.size, 1, none⟩) zl).trans l1, (hb8'.cell (p := ⟨w.heap.size, 2, none⟩) zl).trans l2, (hb8'.cell (p := ⟨w.heap.size, 3, none⟩) zl).trans l3⟩) | (exact ⟨y0, y1, y2, y3, l0, l1, l2, l3⟩) | go_keep)
      (first
        | (go_at_call 30; refine (toMem_any _ 75 _ _ _ _ _ _ _ _ _ ss cs f bs (by exact (h0.below B7.out).drew) (by exact (h1.below B7.out).drew) (by exact (h3.below B7.out).drew) hwt').mono ?_; rintro e w8 ⟨g0, g1, g3, rfl, o8, hb8⟩; have hb8' : Below w7.heap.size w7 w8 := (Below.refl w7.heap.size w7).drew.trans hb8)
        | (go_at_call 25; refine (eqMem_rd _ 65 65 _ _ _ _ _ _ _ ss cs bs (by exact (X7.out.below hb8').rd) (by exact o8.rd) (by omega)).mono ?_; rintro e w9 ⟨rfl, hb9⟩; have hb9' : Below w7.heap.size w7 w9 := Below.andThen hb8' hb9))
    clear y0 y1 y2 y3 l0 l1 l2 l3
    clear zl zy o8 hb8 hb9 hb8'
    have B9 := hidden (Below.andThen B7.out hb9')
    have BM9 := hidden (BM7.out.below hb9' (by omega))
    have W9 := hidden (W7.out.below hb9')
    have X9 := hidden (X7.out.below hb9')
    have XB9 := hidden (XB7.out.below hb9' (by omega))
    have G9 := hidden (G7.out.below hb9')
    have z9 := hb9'.size
    clear B7 BM7 W7 X7 XB7 G7 hb9'
    obtain ⟨y0, y1, y2, y3⟩ := XB9.out.cells4
    go_wp2_with fail
    refine (markMem_own _ _ _ _ _ _ _ ss cs bs X9.out (by omega) (by omega)).mono ?_
    rintro e w10 ⟨rfl, o10, hb10⟩
    clear y0 y1 y2 y3
    clear o10
    clear X9
    clear XB9
    have B10 := hidden (Below.andBut B9.out hb10 (by omega))
    have BM10 := hidden (BM9.out.kept (hb10.block _ (by omega) (by omega)))
    have W10 := hidden (W9.out.but hb10 (by omega))
    have G10 := hidden (G9.out.but hb10 (by omega))
    have z10 := hb10.size
    clear B9 BM9 W9 G9 hb10
    generalize hC : cntM ss cs bs = C at hcp ⊢
    clear hC
    go_wp2_with fail
    refine (eqIntS_any _ _ _ _ _ _ _ ps ps HN.out HN.out (ints_rd G10.out.rd).1 (ints_rd W10.out.rd).1 (by omega)).mono ?_
    rintro e w11 ⟨rfl, hs11⟩
    have B11 := hidden (Below.andSame B10.out hs11)
    have BM11 := hidden (BM10.out.same hs11)
    have W11 := hidden (W10.out.same hs11)
    have G11 := hidden (G10.out.same hs11)
    have z11 := Nat.le_of_eq hs11.size.symm
    clear B10 BM10 W10 G10 hs11
    go_wp2_with fail
    obtain ⟨fpG, mG, rG⟩ := G11.out.mine
    refine (markIntS_fp _ _ _ _ ps _ fpG mG (by omega) (by omega) (by omega)).mono ?_
    rintro e w12 ⟨rfl, m12, t12⟩
    clear G11
    have hb12 := t12.but rG
    have g12 := m12.own rG
    clear mG m12 t12 rG
    have B12 := hidden (Below.andBut B11.out hb12 (by omega))
    have BM12 := hidden (BM11.out.kept (hb12.block _ (by omega) (by omega)))
    have W12 := hidden (W11.out.but hb12 (by omega))
    have z12 := hb12.size
    clear B11 BM11 W11 hb12
    have G12 := hidden g12
    clear g12
    go_wp2_with fail
    refine (heldIntS_any _ _ _ _ _ (ints_rd G12.out.rd).1 (by omega) (by omega) (by omega)).mono ?_
    rintro e w13 ⟨rfl, hs13⟩
    have B13 := hidden (Below.andSame B12.out hs13)
    have BM13 := hidden (BM12.out.same hs13)
    have W13 := hidden (W12.out.same hs13)
    have G13 := hidden (G12.out.same hs13)
    have z13 := Nat.le_of_eq hs13.size.symm
    clear B12 BM12 W12 G12 hs13
    obtain ⟨l0, l1, l2, l3⟩ := BM13.out.cells4
    go_wp2_with fail
    refine (toMem_any _ 75 _ _ _ _ _ _ _ _ _ ss cs f bs (h0.below B13.out) (h1.below B13.out) (h3.below B13.out) hwt').mono ?_
    rintro e w14 ⟨e0, e1, e3, rfl, o14, hb14⟩
    clear l0 l1 l2 l3
    have B14 := hidden (Below.andThen B13.out hb14)
    have BM14 := hidden (BM13.out.below hb14 (by omega))
    have W14 := hidden (W13.out.below hb14)
    have G14 := hidden (G13.out.below hb14)
    have z14 := hb14.size
    clear B13 BM13 W13 G13 hb14
    have Y14 := hidden o14
    clear o14
    obtain ⟨p0, p1, p3⟩ := mem_parts Y14.out
    go_wp2_with fail
    refine (implReadSec_any _ 65 _ _ _ _ _ _ _ _ _ ss cs f bs n p0 p1 p3 (by omega)).mono ?_
    rintro e w15 ⟨ah, lh, ch, rfl, o15, hb15⟩
    obtain ⟨rfl, o15'⟩ := own_len o15 HP.out HN.out
    clear o15 p0 p1 p3
    clear Y14
    have B15 := hidden (Below.andThen B14.out hb15)
    have BM15 := hidden (BM14.out.below hb15 (by omega))
    have W15 := hidden (W14.out.below hb15)
    have G15 := hidden (G14.out.below hb15)
    have z15 := hb15.size
    clear B14 BM14 W14 G14 hb15
    have H15 := hidden o15'
    clear o15'
    go_wp2_with fail
    refine (eqIntS_any _ _ _ _ _ _ _ ps ps HN.out HN.out (ints_rd H15.out.rd).1 (ints_rd W15.out.rd).1 (by omega)).mono ?_
    rintro e w16 ⟨rfl, hs16⟩
    have B16 := hidden (Below.andSame B15.out hs16)
    have BM16 := hidden (BM15.out.same hs16)
    have W16 := hidden (W15.out.same hs16)
    have G16 := hidden (G15.out.same hs16)
    have H16 := hidden (H15.out.same hs16)
    have z16 := Nat.le_of_eq hs16.size.symm
    clear B15 BM15 W15 G15 H15 hs16
    clear H16
    clear W16
    go_wp2_with fail
    refine (heldIntS_any _ _ _ _ _ (ints_rd G16.out.rd).1 (by omega) (by omega) (by omega)).mono ?_
    rintro e w17 ⟨rfl, hs17⟩
    have B17 := hidden (Below.andSame B16.out hs17)
    have BM17 := hidden (BM16.out.same hs17)
    have G17 := hidden (G16.out.same hs17)
    have z17 := Nat.le_of_eq hs17.size.symm
    clear B16 BM16 G16 hs17
    go_wp2
    go_ret
    exact ⟨rfl, B17.out⟩
  · have hq := leftOf_neg (left := 1048576) (wt := wtMem (ss, cs, f, bs)) (by omega)
    go_wp2
    go_ret
    exact ⟨rfl, B1.out⟩

end Go.Proofs.Ytmkiljflkndmoaj

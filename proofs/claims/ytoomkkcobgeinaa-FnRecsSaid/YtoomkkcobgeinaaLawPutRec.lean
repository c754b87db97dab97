/-
  The walk of the exact law of PutRec: at every record it answers true, and nothing that was there has turned. No condition.
-/
import Derived.Test.YtoomkkcobgeinaaWalkPutRec
namespace Go.Proofs.Ytoomkkcobgeinaa
open Go.RowKit

theorem putR_le (x y : Int) (zs : List Int) : (putR x y zs).length ≤ 8 := by
  unfold putR
  split
  · rename_i h
    have := (recB_of.1 h).2.2.1
    simp
    omega
  · simp

set_option maxHeartbeats 4000000 in
theorem fnExactPutRec_walk (x y : Int) (a : Option Addr) (n cap : Nat) (zs : List Int) (w : World) (h : tIntS.Rd w [.slice a n cap] zs) :
    Calls Try.prog 5 #[.agg #[.int .i64 x, .int .i64 y, .slice a n cap]] w fun e w' => e = .returned (.bool true) ∧ Below w.heap.size w w' := by
  obtain ⟨hr, hl, hnc, hcm⟩ := ints_rd h
  have hnm : n ≤ 9223372036854775807 := by omega
  clear h hnc hcm
  have hA := new_below w (.cells #[.int .i64 x, .int .i64 y, .slice a n cap] 39)
  have xm := Box.new w 39 #[.int .i64 x, .int .i64 y, .slice a n cap]
  have z0 := xm.lt
  have B0 := hidden hA
  have BR0 := hidden xm
  obtain ⟨l0, l1, l2⟩ := xm.cells3
  go_enter Try.func5, Try.ntmps5
  go_wp2_with fail
  generalize w.alloc (.cells #[.int .i64 x, .int .i64 y, .slice a n cap] 39) = w0 at hA xm z0 B0 BR0 l0 l1 l2 ⊢
  clear hA xm
  refine (szRec_any _ _ _ _ _ _ _ hnm (by omega) (by omega)).mono ?_
  rintro e w1 ⟨rfl, hb1⟩
  clear l0 l1 l2
  have B1 := hidden (Below.andThen B0.out hb1)
  have BR1 := hidden (BR0.out.below hb1 (by omega))
  have z1 := hb1.size
  clear B0 BR0 hb1
  by_cases hwt : (n : Int) ≤ 1048576
  · have hq := leftOf_pos hwt
    have hwt' : n ≤ 1048576 := by omega
    have hgl := putR_le x y zs
    generalize hP : putR x y zs = ps at hgl
    generalize hn : ps.length = pl at hgl
    have HP := hidden hP
    have HN := hidden hn
    clear hP hn
    have hd : decide (ps = ps) = true := by simp
    obtain ⟨l0, l1, l2⟩ := BR1.out.cells3
    go_wp2_with fail
    refine (toRec_any _ x y _ _ _ zs hl (hr.below B1.out) hwt').mono ?_
    rintro e w2 ⟨g2, rfl, o2, hb2⟩
    clear l0 l1 l2
    have B2 := hidden (Below.andThen B1.out hb2)
    have BR2 := hidden (BR1.out.below hb2 (by omega))
    have z2 := hb2.size
    clear B1 BR1 hb2
    have C2 := hidden o2
    clear o2
    go_wp2_with fail
    refine (specPutRec_any _ x y _ _ _ zs hl (ints_rd C2.out.rd).1 (by omega)).mono ?_
    rintro e w3 ⟨a3, l3, c3, rfl, o3, hb3⟩
    obtain ⟨rfl, o3'⟩ := own_len2 o3 HP.out HN.out
    clear o3
    have B3 := hidden (Below.andThen B2.out hb3)
    have BR3 := hidden (BR2.out.below hb3 (by omega))
    have C3 := hidden (C2.out.below hb3)
    have z3 := hb3.size
    clear B2 BR2 C2 hb3
    have W3 := hidden o3'
    clear o3'
    clear C3
    obtain ⟨l0, l1, l2⟩ := BR3.out.cells3
    go_wp2_with fail
    refine (toRec_any _ x y _ _ _ zs hl (hr.below B3.out) hwt').mono ?_
    rintro e w4 ⟨g4, rfl, o4, hb4⟩
    clear l0 l1 l2
    have B4 := hidden (Below.andThen B3.out hb4)
    have BR4 := hidden (BR3.out.below hb4 (by omega))
    have W4 := hidden (W3.out.below hb4)
    have z4 := hb4.size
    clear B3 BR3 W3 hb4
    have D4 := hidden o4
    clear o4
    have ba : Below w4.heap.size w4 (w4.alloc (.cells #[.int .i64 x, .int .i64 y, .slice (some ⟨g4, 0, none⟩) n n] 26)) := (Below.refl _ _).alloc (Nat.le_refl _) _
    have xb := Box.new w4 26 #[.int .i64 x, .int .i64 y, .slice (some ⟨g4, 0, none⟩) n n]
    have zx := xb.lt
    have B5 := hidden (Below.andThen B4.out ba)
    have BR5 := hidden (BR4.out.below ba (by omega))
    have W5 := hidden (W4.out.below ba)
    have D5 := hidden (D4.out.below ba)
    have z5 := ba.size
    clear B4 BR4 W4 D4 ba
    have BX5 := hidden xb
    clear xb
    obtain ⟨y0, y1, y2⟩ := BX5.out.cells3
    go_wp2_with fail
    generalize w4.alloc (.cells #[.int .i64 x, .int .i64 y, .slice (some ⟨g4, 0, none⟩) n n] 26) = w5 at B5 BR5 W5 D5 BX5 z5 zx y0 y1 y2 ⊢
    refine (implPutRec_any _ x y _ _ _ zs hl (ints_rd D5.out.rd).1 (by omega)).mono ?_
    rintro e w6 ⟨a6, l6, c6, rfl, o6, hb6⟩
    clear y0 y1 y2
    obtain ⟨rfl, o6'⟩ := own_len2 o6 HP.out HN.out
    clear o6
    have B6 := hidden (Below.andThen B5.out hb6)
    have BR6 := hidden (BR5.out.below hb6 (by omega))
    have W6 := hidden (W5.out.below hb6)
    have D6 := hidden (D5.out.below hb6)
    have BX6 := hidden (BX5.out.below hb6 (by omega))
    have z6 := hb6.size
    clear B5 BR5 W5 D5 BX5 hb6
    have G6 := hidden o6'
    clear o6'
    go_wp2_with fail
    refine (eqIntS_any _ _ _ _ _ _ _ ps ps HN.out HN.out (ints_rd G6.out.rd).1 (ints_rd W6.out.rd).1 (by omega)).mono ?_
    rintro e w7 ⟨rfl, hs7⟩
    have B7 := hidden (Below.andSame B6.out hs7)
    have BR7 := hidden (BR6.out.same hs7)
    have W7 := hidden (W6.out.same hs7)
    have D7 := hidden (D6.out.same hs7)
    have BX7 := hidden (BX6.out.same hs7)
    have G7 := hidden (G6.out.same hs7)
    have z7 := Nat.le_of_eq hs7.size.symm
    clear B6 BR6 W6 D6 BX6 G6 hs7
    obtain ⟨y0, y1, y2⟩ := BX7.out.cells3
    obtain ⟨l0, l1, l2⟩ := BR7.out.cells3
    have zl := BR7.out.lt
    have zy := BX7.out.lt
    go_wp2_with fail
    go_region_held3 (fun w' => w'.cell? ⟨w4.heap.size, 0, none⟩ = some (.int .i64 x) ∧ w'.cell? ⟨w4.heap.size, 1, none⟩ = some (.int .i64 y) ∧ w'.cell? ⟨w4.heap.size, 2, none⟩ = some (.slice (some ⟨g4, 0, none⟩) n n) ∧ w'.cell? ⟨w.heap.size, 0, none⟩ = some (.int .i64 x) ∧ w'.cell? ⟨w.heap.size, 1, none⟩ = some (.int .i64 y) ∧ w'.cell? ⟨w.heap.size, 2, none⟩ = some (.slice a n cap))
      (first | (exact ⟨(hb9'.cell (p := ⟨w4.heap.size, 0, none⟩) zy).trans y0, (hb9'.cell (p := ⟨w4.heap.size, 1, none⟩) zy).trans y1, (hb9'.cell (p := ⟨w4.heap.size, 2, none⟩) zy).trans y2, (hb9'.cell (p := ⟨w.heap.size, 0, none⟩) zl).trans l0, (hb9'.cell (p := ⟨w.heap.size, 1, none⟩) zl).trans l1, (hb9'.cell (p := ⟨w.heap.size, 2, none⟩) zl).trans l2⟩) | (exact ⟨(hb8'.cell (p := ⟨w4.heap.size, 0, none⟩) zy).trans y0, (hb8'.cell (p := ⟨w4.heap.size, 1, none⟩) zy).trans y1, (hb8'.cell (p := ⟨w4.heap.size, 2, none⟩) zy).trans y2, (hb8'.cell (p := ⟨w.heap.size, 0, none⟩) zl).trans l0, (hb8'.cell (p := ⟨w.heap.size, 1, none⟩) zl).trans l1, (hb8'.cell (p := ⟨w.heap.size, 2, none⟩) zl).trans l2⟩) | (exact ⟨y0, y1, y2, l0, l1, l2⟩) | go_keep)
      (first
        | (go_at_call 28; refine (toRec_any _ x y _ _ _ zs hl (by exact (hr.below B7.out).draw) hwt').mono ?_; rintro e w8 ⟨ge, rfl, o8, hb8⟩; have hb8' : Below w7.heap.size w7 w8 := (Below.refl w7.heap.size w7).drew.trans hb8)
        | (go_at_call 29; refine (eqRec_same _ x y _ _ _ _ _ zs hl (by exact (ints_rd (D7.out.below hb8').rd).1) (by exact (ints_rd o8.rd).1) (by omega)).mono ?_; rintro e w9 ⟨rfl, hb9⟩; have hb9' : Below w7.heap.size w7 w9 := Below.andThen hb8' hb9))
    clear y0 y1 y2 l0 l1 l2
    clear zl zy o8 hb8 hb9 hb8'
    have B9 := hidden (Below.andThen B7.out hb9')
    have BR9 := hidden (BR7.out.below hb9' (by omega))
    have W9 := hidden (W7.out.below hb9')
    have D9 := hidden (D7.out.below hb9')
    have BX9 := hidden (BX7.out.below hb9' (by omega))
    have G9 := hidden (G7.out.below hb9')
    have z9 := hb9'.size
    clear B7 BR7 W7 D7 BX7 G7 hb9'
    obtain ⟨y0, y1, y2⟩ := BX9.out.cells3
    go_wp2_with fail
    obtain ⟨fpD, mD, rD⟩ := D9.out.mine
    refine (markRec_fp _ x y _ _ _ zs _ fpD mD (by omega) (by omega) (by omega)).mono ?_
    rintro e w10 ⟨rfl, m10, t10⟩
    clear y0 y1 y2
    clear D9
    clear BX9
    have hb10 := t10.but rD
    clear mD m10 t10 rD
    have B10 := hidden (Below.andBut B9.out hb10 (by omega))
    have BR10 := hidden (BR9.out.kept (hb10.block _ (by omega) (by omega)))
    have W10 := hidden (W9.out.but hb10 (by omega))
    have G10 := hidden (G9.out.but hb10 (by omega))
    have z10 := hb10.size
    clear B9 BR9 W9 G9 hb10
    go_wp2_with fail
    refine (eqIntS_any _ _ _ _ _ _ _ ps ps HN.out HN.out (ints_rd G10.out.rd).1 (ints_rd W10.out.rd).1 (by omega)).mono ?_
    rintro e w11 ⟨rfl, hs11⟩
    have B11 := hidden (Below.andSame B10.out hs11)
    have BR11 := hidden (BR10.out.same hs11)
    have W11 := hidden (W10.out.same hs11)
    have G11 := hidden (G10.out.same hs11)
    have z11 := Nat.le_of_eq hs11.size.symm
    clear B10 BR10 W10 G10 hs11
    go_wp2_with fail
    obtain ⟨fpG, mG, rG⟩ := G11.out.mine
    refine (markIntS_fp _ _ _ _ ps _ fpG mG (by omega) (by omega) (by omega)).mono ?_
    rintro e w12 ⟨rfl, m12, t12⟩
    clear G11
    have hb12 := t12.but rG
    have g12 := m12.own rG
    clear mG m12 t12 rG
    have B12 := hidden (Below.andBut B11.out hb12 (by omega))
    have BR12 := hidden (BR11.out.kept (hb12.block _ (by omega) (by omega)))
    have W12 := hidden (W11.out.but hb12 (by omega))
    have z12 := hb12.size
    clear B11 BR11 W11 hb12
    have G12 := hidden g12
    clear g12
    go_wp2_with fail
    refine (heldIntS_any _ _ _ _ _ (ints_rd G12.out.rd).1 (by omega) (by omega) (by omega)).mono ?_
    rintro e w13 ⟨rfl, hs13⟩
    have B13 := hidden (Below.andSame B12.out hs13)
    have BR13 := hidden (BR12.out.same hs13)
    have W13 := hidden (W12.out.same hs13)
    have G13 := hidden (G12.out.same hs13)
    have z13 := Nat.le_of_eq hs13.size.symm
    clear B12 BR12 W12 G12 hs13
    obtain ⟨l0, l1, l2⟩ := BR13.out.cells3
    go_wp2_with fail
    refine (toRec_any _ x y _ _ _ zs hl (hr.below B13.out) hwt').mono ?_
    rintro e w14 ⟨g14, rfl, o14, hb14⟩
    clear l0 l1 l2
    have B14 := hidden (Below.andThen B13.out hb14)
    have BR14 := hidden (BR13.out.below hb14 (by omega))
    have W14 := hidden (W13.out.below hb14)
    have G14 := hidden (G13.out.below hb14)
    have z14 := hb14.size
    clear B13 BR13 W13 G13 hb14
    have D14 := hidden o14
    clear o14
    go_wp2_with fail
    refine (implPutRec_any _ x y _ _ _ zs hl (ints_rd D14.out.rd).1 (by omega)).mono ?_
    rintro e w15 ⟨a15, l15, c15, rfl, o15, hb15⟩
    obtain ⟨rfl, o15'⟩ := own_len2 o15 HP.out HN.out
    clear o15
    have B15 := hidden (Below.andThen B14.out hb15)
    have BR15 := hidden (BR14.out.below hb15 (by omega))
    have W15 := hidden (W14.out.below hb15)
    have G15 := hidden (G14.out.below hb15)
    have D15 := hidden (D14.out.below hb15)
    have z15 := hb15.size
    clear B14 BR14 W14 G14 D14 hb15
    have H15 := hidden o15'
    clear o15'
    clear D15
    go_wp2_with fail
    refine (eqIntS_any _ _ _ _ _ _ _ ps ps HN.out HN.out (ints_rd H15.out.rd).1 (ints_rd W15.out.rd).1 (by omega)).mono ?_
    rintro e w16 ⟨rfl, hs16⟩
    have B16 := hidden (Below.andSame B15.out hs16)
    have BR16 := hidden (BR15.out.same hs16)
    have W16 := hidden (W15.out.same hs16)
    have G16 := hidden (G15.out.same hs16)
    have H16 := hidden (H15.out.same hs16)
    have z16 := Nat.le_of_eq hs16.size.symm
    clear B15 BR15 W15 G15 H15 hs16
    clear H16
    clear W16
    go_wp2_with fail
    refine (heldIntS_any _ _ _ _ _ (ints_rd G16.out.rd).1 (by omega) (by omega) (by omega)).mono ?_
    rintro e w17 ⟨rfl, hs17⟩
    have B17 := hidden (Below.andSame B16.out hs17)
    have BR17 := hidden (BR16.out.same hs17)
    have G17 := hidden (G16.out.same hs17)
    have z17 := Nat.le_of_eq hs17.size.symm
    clear B16 BR16 G16 hs17
    go_wp2
    go_ret
    exact ⟨rfl, B17.out⟩
  · have hq := leftOf_neg (left := 1048576) (wt := n) (by omega)
    go_wp2
    go_ret
    exact ⟨rfl, B1.out⟩

end Go.Proofs.Ytoomkkcobgeinaa

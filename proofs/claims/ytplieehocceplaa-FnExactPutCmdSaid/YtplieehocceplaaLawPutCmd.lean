/-
  The walk of the exact law of PutCmd: for every command it answers true, and nothing that was there has turned. No condition.
-/
import Derived.Test.YtplieehocceplaaWalkPutCmd
namespace Go.Proofs.Ytplieehocceplaa
open Go.RowKit

set_option maxRecDepth 20000 in
set_option maxHeartbeats 4000000 in
theorem fnExactPutCmd_walk (o d b k : Int) (a : Option Addr) (n cap : Nat) (zs : List Int) (w : World) (h : tIntS.Rd w [.slice a n cap] zs) :
    Calls Try.prog 8 #[.agg #[.int .i64 o, .int .i64 d, .int .i64 b, .int .i64 k, .slice a n cap]] w fun e w' => e = .returned (.bool true) ∧ Below w.heap.size w w' := by
  obtain ⟨hr, hl, hnc0, hcm0⟩ := ints_rd h
  have hnm0 : n ≤ 9223372036854775807 := by omega
  clear h hnc0 hcm0
  have hA : Below w.heap.size w (w.alloc (.cells #[.int .i64 o, .int .i64 d, .int .i64 b, .int .i64 k, .slice a n cap] 44)) := (Below.refl w.heap.size w).alloc (by exact Nat.le_refl _) (.cells #[.int .i64 o, .int .i64 d, .int .i64 b, .int .i64 k, .slice a n cap] 44)
  have xBC : Box (w.alloc (.cells #[.int .i64 o, .int .i64 d, .int .i64 b, .int .i64 k, .slice a n cap] 44)) (w.heap.size) 44 #[.int .i64 o, .int .i64 d, .int .i64 b, .int .i64 k, .slice a n cap] := by
    have := Box.new w 44 #[.int .i64 o, .int .i64 d, .int .i64 b, .int .i64 k, .slice a n cap]
    exact this
  have zA : w.heap.size + 1 ≤ (w.alloc (.cells #[.int .i64 o, .int .i64 d, .int .i64 b, .int .i64 k, .slice a n cap] 44)).heap.size := by simp
  have B0 := hidden hA
  have BC0 := hidden xBC
  clear hA xBC
  go_enter Try.func8, Try.ntmps8
  obtain ⟨l0, l1, l2, l3, l4⟩ := BC0.out.cells5
  go_wp2_with fail
  generalize (w.alloc (.cells #[.int .i64 o, .int .i64 d, .int .i64 b, .int .i64 k, .slice a n cap] 44)) = w0 at zA B0 BC0 l0 l1 l2 l3 l4 ⊢
  have z0 := zA
  clear zA
  refine (szCmd_any _ o d b k _ _ _ _ hnm0 (by omega) (by omega)).mono ?_
  rintro e w1 ⟨rfl, hb1⟩
  clear l0 l1 l2 l3 l4
  have B1 := hidden (Below.andThen B0.out hb1)
  have BC1 := hidden (BC0.out.below hb1 (by omega))
  have z1 := hb1.size
  clear B0 BC0 hb1
  by_cases hwt : (n : Int) ≤ 1048576
  rotate_left
  · have hq := leftOf_neg (left := 1048576) (wt := n) (by omega)
    go_wp2
    go_ret
    exact ⟨rfl, B1.out⟩
  have hq0 := leftOf_pos hwt
  have hwt' : n ≤ 1048576 := by omega
  have hgl := putC_le o d b k zs
  generalize hP : putC o d b k zs = ps at hgl
  generalize hn : ps.length = pl at hgl
  have HP := hidden hP
  have HN := hidden hn
  clear hP hn
  have hd : decide (ps = ps) = true := by simp
  obtain ⟨l0, l1, l2, l3, l4⟩ := BC1.out.cells5
  go_wp2_with fail
  refine (toCmd_any _ o d b k _ _ _ zs hl (hr.below B1.out) hwt').mono ?_
  rintro e w2 ⟨g2, rfl, o2, hb2⟩
  clear l0 l1 l2 l3 l4
  have B2 := hidden (Below.andThen B1.out hb2)
  have BC2 := hidden (BC1.out.below hb2 (by omega))
  have z2 := hb2.size
  clear B1 BC1 hb2
  have E2 := hidden o2
  clear o2
  go_wp2_with fail
  refine (specPutCmd_any _ o d b k _ _ _ zs E2.out.rd (by omega)).mono ?_
  rintro e w3 ⟨a3, l3, c3, rfl, o3, hb3⟩
  obtain ⟨rfl, o3'⟩ := own_len2 o3 HP.out HN.out
  clear o3
  have B3 := hidden (Below.andThen B2.out hb3)
  have BC3 := hidden (BC2.out.below hb3 (by omega))
  have E3 := hidden (E2.out.below hb3)
  have z3 := hb3.size
  clear B2 BC2 E2 hb3
  have W3 := hidden o3'
  clear o3'
  clear E3
  obtain ⟨l0, l1, l2, l3, l4⟩ := BC3.out.cells5
  go_wp2_with fail
  refine (toCmd_any _ o d b k _ _ _ zs hl (hr.below B3.out) hwt').mono ?_
  rintro e w4 ⟨g4, rfl, o4, hb4⟩
  clear l0 l1 l2 l3 l4
  have B4 := hidden (Below.andThen B3.out hb4)
  have BC4 := hidden (BC3.out.below hb4 (by omega))
  have W4 := hidden (W3.out.below hb4)
  have z4 := hb4.size
  clear B3 BC3 W3 hb4
  have D4 := hidden o4
  clear o4
  have ba : Below w4.heap.size w4 (w4.alloc (.cells #[.int .i64 o, .int .i64 d, .int .i64 b, .int .i64 k, .slice (some ⟨g4, 0, none⟩) n n] 26)) := (Below.refl _ _).alloc (Nat.le_refl _) _
  have xb := Box.new w4 26 #[.int .i64 o, .int .i64 d, .int .i64 b, .int .i64 k, .slice (some ⟨g4, 0, none⟩) n n]
  have zx := xb.lt
  have B5 := hidden (Below.andThen B4.out ba)
  have BC5 := hidden (BC4.out.below ba (by omega))
  have W5 := hidden (W4.out.below ba)
  have D5 := hidden (D4.out.below ba)
  have z5 := ba.size
  clear B4 BC4 W4 D4 ba
  have BX5 := hidden xb
  clear xb
  have zz : w4.heap.size < (w4.alloc (.cells #[.int .i64 o, .int .i64 d, .int .i64 b, .int .i64 k, .slice (some ⟨g4, 0, none⟩) n n] 26)).heap.size := zx
  obtain ⟨y0, y1, y2, y3, y4⟩ := BX5.out.cells5
  go_wp2_with fail
  generalize w4.alloc (.cells #[.int .i64 o, .int .i64 d, .int .i64 b, .int .i64 k, .slice (some ⟨g4, 0, none⟩) n n] 26) = w5 at B5 BC5 W5 D5 BX5 z5 zx zz y0 y1 y2 y3 y4 ⊢
  clear zx
  have zb5 := zz
  clear zz
  refine (implPutCmd_any _ o d b k _ _ _ zs D5.out.rd (by omega)).mono ?_
  rintro e w6 ⟨a6, l6, c6, rfl, o6, hb6⟩
  obtain ⟨rfl, o6'⟩ := own_len2 o6 HP.out HN.out
  clear o6
  have B6 := hidden (Below.andThen B5.out hb6)
  have BC6 := hidden (BC5.out.below hb6 (by omega))
  have W6 := hidden (W5.out.below hb6)
  have D6 := hidden (D5.out.below hb6)
  have BX6 := hidden (BX5.out.below hb6 (by omega))
  have z6 := hb6.size
  clear B5 BC5 W5 D5 BX5 hb6
  have G6 := hidden o6'
  clear o6'
  clear y0 y1 y2 y3 y4
  go_wp2_with fail
  refine (eqIntS_any _ _ _ _ _ _ _ ps ps HN.out HN.out (ints_rd G6.out.rd).1 (ints_rd W6.out.rd).1 (by omega)).mono ?_
  rintro e w7 ⟨rfl, hs7⟩
  have B7 := hidden (Below.andSame B6.out hs7)
  have BC7 := hidden (BC6.out.same hs7)
  have W7 := hidden (W6.out.same hs7)
  have D7 := hidden (D6.out.same hs7)
  have BX7 := hidden (BX6.out.same hs7)
  have G7 := hidden (G6.out.same hs7)
  have z7 := Nat.le_of_eq hs7.size.symm
  clear B6 BC6 W6 D6 BX6 G6 hs7
  obtain ⟨y0, y1, y2, y3, y4⟩ := BX7.out.cells5
  have zy := BX7.out.lt
  obtain ⟨l0, l1, l2, l3, l4⟩ := BC7.out.cells5
  have zl := BC7.out.lt
  go_wp2_with fail
  have q0 : Below w7.heap.size w7 w7.drew := (Below.refl _ _).drew
  go_region_held3 (fun w' => w'.cell? ⟨w4.heap.size, 0, none⟩ = some (.int .i64 o) ∧ w'.cell? ⟨w4.heap.size, 1, none⟩ = some (.int .i64 d) ∧ w'.cell? ⟨w4.heap.size, 2, none⟩ = some (.int .i64 b) ∧ w'.cell? ⟨w4.heap.size, 3, none⟩ = some (.int .i64 k) ∧ w'.cell? ⟨w4.heap.size, 4, none⟩ = some (.slice (some ⟨g4, 0, none⟩) n n) ∧ w'.cell? ⟨w.heap.size, 0, none⟩ = some (.int .i64 o) ∧ w'.cell? ⟨w.heap.size, 1, none⟩ = some (.int .i64 d) ∧ w'.cell? ⟨w.heap.size, 2, none⟩ = some (.int .i64 b) ∧ w'.cell? ⟨w.heap.size, 3, none⟩ = some (.int .i64 k) ∧ w'.cell? ⟨w.heap.size, 4, none⟩ = some (.slice a n cap))
    (first | (exact ⟨(q2.cell (p := ⟨w4.heap.size, 0, none⟩) zy).trans y0, (q2.cell (p := ⟨w4.heap.size, 1, none⟩) zy).trans y1, (q2.cell (p := ⟨w4.heap.size, 2, none⟩) zy).trans y2, (q2.cell (p := ⟨w4.heap.size, 3, none⟩) zy).trans y3, (q2.cell (p := ⟨w4.heap.size, 4, none⟩) zy).trans y4, (q2.cell (p := ⟨w.heap.size, 0, none⟩) zl).trans l0, (q2.cell (p := ⟨w.heap.size, 1, none⟩) zl).trans l1, (q2.cell (p := ⟨w.heap.size, 2, none⟩) zl).trans l2, (q2.cell (p := ⟨w.heap.size, 3, none⟩) zl).trans l3, (q2.cell (p := ⟨w.heap.size, 4, none⟩) zl).trans l4⟩) | (exact ⟨(q1.cell (p := ⟨w4.heap.size, 0, none⟩) zy).trans y0, (q1.cell (p := ⟨w4.heap.size, 1, none⟩) zy).trans y1, (q1.cell (p := ⟨w4.heap.size, 2, none⟩) zy).trans y2, (q1.cell (p := ⟨w4.heap.size, 3, none⟩) zy).trans y3, (q1.cell (p := ⟨w4.heap.size, 4, none⟩) zy).trans y4, (q1.cell (p := ⟨w.heap.size, 0, none⟩) zl).trans l0, (q1.cell (p := ⟨w.heap.size, 1, none⟩) zl).trans l1, (q1.cell (p := ⟨w.heap.size, 2, none⟩) zl).trans l2, (q1.cell (p := ⟨w.heap.size, 3, none⟩) zl).trans l3, (q1.cell (p := ⟨w.heap.size, 4, none⟩) zl).trans l4⟩) | (exact ⟨y0, y1, y2, y3, y4, l0, l1, l2, l3, l4⟩) | go_keep)
    (first | (have gq := q1; clear gq; go_at_call 27; refine (eqCmd_same _ o d b k _ _ _ _ _ zs hl (by exact (ints_rd (D7.out.below q1).rd).1) (by exact (ints_rd ow1.rd).1) (by omega)).mono ?_; rintro e w9 ⟨rfl, p2⟩; have q2 : Below w7.heap.size w7 w9 := Below.andThen q1 p2) | (have gq := q0; clear gq; go_at_call 26; refine (toCmd_any _ o d b k _ _ _ zs hl (by exact (hr.below B7.out).below q0) hwt').mono ?_; rintro e w8 ⟨t1, rfl, ow1, p1⟩; have q1 : Below w7.heap.size w7 w8 := Below.andThen q0 p1))
  clear q0 q1 p1 p2 zy y0 y1 y2 y3 y4 zl l0 l1 l2 l3 l4
  have B9 := hidden (Below.andThen B7.out q2)
  have BC9 := hidden (BC7.out.below q2 (by omega))
  have W9 := hidden (W7.out.below q2)
  have D9 := hidden (D7.out.below q2)
  have BX9 := hidden (BX7.out.below q2 (by omega))
  have G9 := hidden (G7.out.below q2)
  have z9 := q2.size
  clear B7 BC7 W7 D7 BX7 G7 q2
  clear ow1
  obtain ⟨y0, y1, y2, y3, y4⟩ := BX9.out.cells5
  go_wp2_with fail
  obtain ⟨fpD, mD, rD⟩ := D9.out.mine
  refine (markCmd_fp _ o d b k _ _ _ zs _ fpD mD (by omega) (by omega) (by omega)).mono ?_
  rintro e w10 ⟨rfl, m10, t10⟩
  clear y0 y1 y2 y3 y4
  clear D9
  clear BX9
  have hb10 := t10.but rD
  clear mD m10 t10 rD
  have B10 := hidden (Below.andBut B9.out hb10 (by omega))
  have BC10 := hidden (BC9.out.kept (hb10.block _ (by omega) (by omega)))
  have W10 := hidden (W9.out.but hb10 (by omega))
  have G10 := hidden (G9.out.but hb10 (by omega))
  have z10 := hb10.size
  clear B9 BC9 W9 G9 hb10
  go_wp2_with fail
  refine (eqIntS_any _ _ _ _ _ _ _ ps ps HN.out HN.out (ints_rd G10.out.rd).1 (ints_rd W10.out.rd).1 (by omega)).mono ?_
  rintro e w11 ⟨rfl, hs11⟩
  have B11 := hidden (Below.andSame B10.out hs11)
  have BC11 := hidden (BC10.out.same hs11)
  have W11 := hidden (W10.out.same hs11)
  have G11 := hidden (G10.out.same hs11)
  have z11 := Nat.le_of_eq hs11.size.symm
  clear B10 BC10 W10 G10 hs11
  go_wp2_with fail
  obtain ⟨fpG, mG, rG⟩ := G11.out.mine
  refine (markIntS_fp _ _ _ _ ps _ fpG mG (by omega) (by omega) (by omega)).mono ?_
  rintro e w12 ⟨rfl, m12, t12⟩
  clear G11
  have hb12 := t12.but rG
  have g12 := m12.own rG
  clear mG m12 t12 rG
  have B12 := hidden (Below.andBut B11.out hb12 (by omega))
  have BC12 := hidden (BC11.out.kept (hb12.block _ (by omega) (by omega)))
  have W12 := hidden (W11.out.but hb12 (by omega))
  have z12 := hb12.size
  clear B11 BC11 W11 hb12
  have G12 := hidden g12
  clear g12
  go_wp2_with fail
  refine (heldIntS_any _ _ _ _ _ (ints_rd G12.out.rd).1 (by omega) (by omega) (by omega)).mono ?_
  rintro e w13 ⟨rfl, hs13⟩
  have B13 := hidden (Below.andSame B12.out hs13)
  have BC13 := hidden (BC12.out.same hs13)
  have W13 := hidden (W12.out.same hs13)
  have G13 := hidden (G12.out.same hs13)
  have z13 := Nat.le_of_eq hs13.size.symm
  clear B12 BC12 W12 G12 hs13
  obtain ⟨l0, l1, l2, l3, l4⟩ := BC13.out.cells5
  go_wp2_with fail
  refine (toCmd_any _ o d b k _ _ _ zs hl (hr.below B13.out) hwt').mono ?_
  rintro e w14 ⟨g14, rfl, o14, hb14⟩
  clear l0 l1 l2 l3 l4
  have B14 := hidden (Below.andThen B13.out hb14)
  have BC14 := hidden (BC13.out.below hb14 (by omega))
  have W14 := hidden (W13.out.below hb14)
  have G14 := hidden (G13.out.below hb14)
  have z14 := hb14.size
  clear B13 BC13 W13 G13 hb14
  have D14 := hidden o14
  clear o14
  go_wp2_with fail
  refine (implPutCmd_any _ o d b k _ _ _ zs D14.out.rd (by omega)).mono ?_
  rintro e w15 ⟨a15, l15, c15, rfl, o15, hb15⟩
  obtain ⟨rfl, o15'⟩ := own_len2 o15 HP.out HN.out
  clear o15
  have B15 := hidden (Below.andThen B14.out hb15)
  have BC15 := hidden (BC14.out.below hb15 (by omega))
  have W15 := hidden (W14.out.below hb15)
  have G15 := hidden (G14.out.below hb15)
  have D15 := hidden (D14.out.below hb15)
  have z15 := hb15.size
  clear B14 BC14 W14 G14 D14 hb15
  have H15 := hidden o15'
  clear o15'
  clear D15
  go_wp2_with fail
  refine (eqIntS_any _ _ _ _ _ _ _ ps ps HN.out HN.out (ints_rd H15.out.rd).1 (ints_rd W15.out.rd).1 (by omega)).mono ?_
  rintro e w16 ⟨rfl, hs16⟩
  have B16 := hidden (Below.andSame B15.out hs16)
  have BC16 := hidden (BC15.out.same hs16)
  have W16 := hidden (W15.out.same hs16)
  have G16 := hidden (G15.out.same hs16)
  have H16 := hidden (H15.out.same hs16)
  have z16 := Nat.le_of_eq hs16.size.symm
  clear B15 BC15 W15 G15 H15 hs16
  clear H16
  clear W16
  go_wp2_with fail
  refine (heldIntS_any _ _ _ _ _ (ints_rd G16.out.rd).1 (by omega) (by omega) (by omega)).mono ?_
  rintro e w17 ⟨rfl, hs17⟩
  have B17 := hidden (Below.andSame B16.out hs17)
  have BC17 := hidden (BC16.out.same hs17)
  have G17 := hidden (G16.out.same hs17)
  have z17 := Nat.le_of_eq hs17.size.symm
  clear B16 BC16 G16 hs17
  go_wp2
  go_ret
  exact ⟨rfl, B17.out⟩

end Go.Proofs.Ytplieehocceplaa

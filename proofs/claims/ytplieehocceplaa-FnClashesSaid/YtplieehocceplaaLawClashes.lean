/-
  The walk of the law of clashes: whatever bytes it draws from, it answers true, and nothing that was there has turned. No condition.
-/
import Derived.Test.YtplieehocceplaaWalkDrawCmds
import Derived.Test.YtplieehocceplaaWalkCmdI
import Derived.Test.YtplieehocceplaaWalkBig
import Derived.Test.YtplieehocceplaaSameBytes
namespace Go.Proofs.Ytplieehocceplaa
open Go.RowKit

/-- A command that is right has a block, and all of its blocks are there. -/
theorem span_some {gn gs o d b k : Int} {zs : List Int} (hg : geoB gn gs = true) (h : codeC gn gs o d b k zs = 0) : 0 ≤ (spanC gn gs o d b k zs).1 ∧ (spanC gn gs o d b k zs).1 < (spanC gn gs o d b k zs).2 ∧ (spanC gn gs o d b k zs).2 ≤ blocksN gn gs := by
  obtain ⟨h0, _, h2⟩ := span_range gn gs o d b k zs
  refine ⟨h0, ?_, h2⟩
  obtain ⟨hf, hs, hr⟩ := code_good h
  by_cases h4 : o = 4
  · subst h4
    rw [span_flush h]
    have := geoB_blocks hg
    rw [← blocksN_of hg] at this
    show (0 : Int) < blocksN gn gs
    omega
  · rw [span_own h h4]
    have hin : inB o 1 6 = true := by
      unfold formC at hf
      simp only [Bool.and_eq_true] at hf
      exact hf.1.2
    have := (size_len hs).2.2 h4 hin
    show b < b + lenC o k zs
    omega
/-- A block of both is among the first j. -/
def metJ (p0 p1 q0 q1 : Int) (j : Nat) : Bool := decide (p0 < p1 ∧ q0 < q1 ∧ p0 < q1 ∧ q0 < p1 ∧ p0 < (j : Int) ∧ q0 < (j : Int))
theorem metJ_zero {p0 p1 q0 q1 : Int} (h : 0 ≤ p0) : metJ p0 p1 q0 q1 0 = false := by unfold metJ; simp; omega
set_option linter.unusedVariables false in
theorem metJ_in {p0 p1 q0 q1 : Int} {j : Nat} (h1 : p0 ≤ (j : Int)) (h2 : (j : Int) < p1) (h3 : q0 ≤ (j : Int)) (h4 : (j : Int) < q1) : metJ p0 p1 q0 q1 (j + 1) = true := by
  unfold metJ
  rw [decide_eq_true_eq]
  omega
theorem metJ_old {p0 p1 q0 q1 : Int} {j : Nat} (h : metJ p0 p1 q0 q1 j = true) : metJ p0 p1 q0 q1 (j + 1) = true := by unfold metJ at *; simp at *; omega
theorem metJ_out {p0 p1 q0 q1 : Int} {j : Nat} (h : metJ p0 p1 q0 q1 j = false) (hn : ¬ (p0 ≤ (j : Int) ∧ (j : Int) < p1 ∧ q0 ≤ (j : Int) ∧ (j : Int) < q1)) : metJ p0 p1 q0 q1 (j + 1) = false := by unfold metJ at *; simp at *; omega
set_option linter.unusedVariables false in
theorem metJ_all {p0 p1 q0 q1 : Int} {j : Nat} (hp : p0 < p1) (hq : q0 < q1) (h1 : p1 ≤ (j : Int)) (h2 : q1 ≤ (j : Int)) : metJ p0 p1 q0 q1 j = metC (p0, p1) (q0, q1) := by
  unfold metJ metC
  by_cases h : p0 < q1
  · by_cases h' : q0 < p1
    · simp [h, h', hp, hq]
      omega
    · simp [h']
  · simp [h]
theorem met_swap (x y : Int × Int) : metC y x = metC x y := by unfold metC; rw [Bool.and_comm]
theorem met_self {x : Int × Int} (h : x.1 < x.2) : metC x x = true := by unfold metC; simp [h]

set_option maxRecDepth 20000 in
set_option maxHeartbeats 8000000 in
theorem fnClashes_walk (a0 : Option Addr) (len0 cap0 : Nat) (z0 : List Int) (w : World) (w0 : IsRow .u8 w a0 len0 cap0 z0) :
    Calls Try.prog 4 #[.slice a0 len0 cap0] w fun e w' => e = .returned (.bool true) ∧ Below w.heap.size w w' := by
  obtain ⟨hr, hl, hwf, hml⟩ := w0.reads
  generalize z0.take len0 = zs at hr hl hwf
  unfold maxLen at hml
  have hby := bytes_of_wf hwf
  clear w0 hwf
  by_cases hbig : len0 ≤ 1048576
  rotate_left
  · go_enter Try.func4, Try.ntmps4
    go_wp2_with fail
    refine (big_any _ _ _ _).mono ?_
    rintro e wb ⟨rfl, rfl⟩
    go_wp2
    go_ret
    exact ⟨rfl, Below.refl _ _⟩
  have hlb : len0 ≤ 2097152 := by omega
  go_enter Try.func4, Try.ntmps4
  go_wp2_with fail
  refine (big_any _ _ _ _).mono ?_
  rintro e wb ⟨rfl, rfl⟩
  go_wp2_with fail
  refine (drawCmds_any _ _ _ _ zs hl hr hby hlb).mono ?_
  rintro e w1 ⟨gn, gs, o, d, b, k, a1, c1, ds, o2, d2, b2, k2, a2, c2, ds2, rfl, hgeo, hc1, hc2, hl1, hl2, R1, R2, B1⟩
  clear hr hl hby hbig hlb hml

  have n3 : Below w1.heap.size w1 (((w1.alloc (.cells #[.int .i64 gn, .int .i64 gs] 35)).alloc (.cells #[.int .i64 o, .int .i64 d, .int .i64 b, .int .i64 k, .slice a1 ds.length c1] 26)).alloc (.cells #[.int .i64 o2, .int .i64 d2, .int .i64 b2, .int .i64 k2, .slice a2 ds2.length c2] 26)) := ((new_below w1 _).alloc (by simp) _).alloc (by simp; omega) _
  have G2 := ((Box.new w1 35 #[.int .i64 gn, .int .i64 gs]).alloc (.cells #[.int .i64 o, .int .i64 d, .int .i64 b, .int .i64 k, .slice a1 ds.length c1] 26)).alloc (.cells #[.int .i64 o2, .int .i64 d2, .int .i64 b2, .int .i64 k2, .slice a2 ds2.length c2] 26)
  have X2 : Box (((w1.alloc (.cells #[.int .i64 gn, .int .i64 gs] 35)).alloc (.cells #[.int .i64 o, .int .i64 d, .int .i64 b, .int .i64 k, .slice a1 ds.length c1] 26)).alloc (.cells #[.int .i64 o2, .int .i64 d2, .int .i64 b2, .int .i64 k2, .slice a2 ds2.length c2] 26)) (w1.heap.size + 1) 26 #[.int .i64 o, .int .i64 d, .int .i64 b, .int .i64 k, .slice a1 ds.length c1] := by
    have := (Box.new (w1.alloc (.cells #[.int .i64 gn, .int .i64 gs] 35)) 26 #[.int .i64 o, .int .i64 d, .int .i64 b, .int .i64 k, .slice a1 ds.length c1]).alloc (.cells #[.int .i64 o2, .int .i64 d2, .int .i64 b2, .int .i64 k2, .slice a2 ds2.length c2] 26)
    rw [show (w1.alloc (.cells #[.int .i64 gn, .int .i64 gs] 35)).heap.size = w1.heap.size + 1 by simp] at this
    exact this
  have Y2 : Box (((w1.alloc (.cells #[.int .i64 gn, .int .i64 gs] 35)).alloc (.cells #[.int .i64 o, .int .i64 d, .int .i64 b, .int .i64 k, .slice a1 ds.length c1] 26)).alloc (.cells #[.int .i64 o2, .int .i64 d2, .int .i64 b2, .int .i64 k2, .slice a2 ds2.length c2] 26)) (w1.heap.size + 1 + 1) 26 #[.int .i64 o2, .int .i64 d2, .int .i64 b2, .int .i64 k2, .slice a2 ds2.length c2] := by
    have := Box.new ((w1.alloc (.cells #[.int .i64 gn, .int .i64 gs] 35)).alloc (.cells #[.int .i64 o, .int .i64 d, .int .i64 b, .int .i64 k, .slice a1 ds.length c1] 26)) 26 #[.int .i64 o2, .int .i64 d2, .int .i64 b2, .int .i64 k2, .slice a2 ds2.length c2]
    rw [show ((w1.alloc (.cells #[.int .i64 gn, .int .i64 gs] 35)).alloc (.cells #[.int .i64 o, .int .i64 d, .int .i64 b, .int .i64 k, .slice a1 ds.length c1] 26)).heap.size = w1.heap.size + 1 + 1 by simp] at this
    exact this
  have R2' := R2.below n3
  have R1' := R1.below n3
  have B2 := B1.trans (n3.mono B1.size)
  have hz3 : w1.heap.size + 3 ≤ (((w1.alloc (.cells #[.int .i64 gn, .int .i64 gs] 35)).alloc (.cells #[.int .i64 o, .int .i64 d, .int .i64 b, .int .i64 k, .slice a1 ds.length c1] 26)).alloc (.cells #[.int .i64 o2, .int .i64 d2, .int .i64 b2, .int .i64 k2, .slice a2 ds2.length c2] 26)).heap.size := by simp
  obtain ⟨hp0, hp01, hp1⟩ := span_some hgeo hc1
  obtain ⟨hq0, hq01, hq1⟩ := span_some hgeo hc2
  have HFL : Hid (o = 4 → spanC gn gs o d b k ds = (0, blocksN gn gs)) := fun h => by subst h; exact span_flush hc1
  have HC1 := hidden hc1
  have HG := hidden hgeo
  have hbr := geoB_blocks hgeo
  rw [← blocksN_of hgeo] at hbr
  generalize hP : spanC gn gs o d b k ds = P at hp0 hp01 hp1 HFL
  generalize hQ : spanC gn gs o2 d2 b2 k2 ds2 = Q at hq0 hq01 hq1
  obtain ⟨p0, p1⟩ := P
  obtain ⟨q0, q1⟩ := Q
  have HP := hidden hP
  have HQ := hidden hQ
  clear hP hQ hc1 hc2 hgeo n3 R1 R2 B1
  simp only at hp0 hp01 hp1 hq0 hq01 hq1
  go_wp2_with fail
  generalize (((w1.alloc (.cells #[.int .i64 gn, .int .i64 gs] 35)).alloc (.cells #[.int .i64 o, .int .i64 d, .int .i64 b, .int .i64 k, .slice a1 ds.length c1] 26)).alloc (.cells #[.int .i64 o2, .int .i64 d2, .int .i64 b2, .int .i64 k2, .slice a2 ds2.length c2] 26)) = W2 at G2 X2 Y2 R1' R2' B2 hz3 ⊢
  generalize hXB : w1.heap.size + 1 = XB at X2 Y2 ⊢
  generalize hYB : XB + 1 = YB at Y2 ⊢
  generalize hGB : w1.heap.size = GB at G2 hz3 hXB ⊢
  have hlt : GB < W2.heap.size ∧ XB < W2.heap.size ∧ YB < W2.heap.size := by omega
  clear hXB hYB hGB hz3
  obtain ⟨lt1, lt2, lt3⟩ := hlt
  have R1 := hidden R1'
  have R2 := hidden R2'
  have B := hidden B2
  have G := hidden G2
  have X := hidden X2
  have Y := hidden Y2
  clear R1' R2' B2 G2 X2 Y2
  refine (implSpanOf_any _ gn gs o d b k _ _ _ ds rfl R1.out (by omega)).mono ?_
  rintro e w3 ⟨rfl, bb⟩
  have R1n := hidden (R1.out.below bb)
  have R2n := hidden (R2.out.below bb)
  have Bn := hidden (Below.andThen B.out bb)
  have Gn := hidden (G.out.below bb (by omega))
  have Xn := hidden (X.out.below bb (by omega))
  have Yn := hidden (Y.out.below bb (by omega))
  have zn := bb.size
  have lt1n : GB < w3.heap.size := by omega
  have lt2n : XB < w3.heap.size := by omega
  have lt3n : YB < w3.heap.size := by omega
  clear R1 R2 B G X Y lt1 lt2 lt3 zn bb
  have R1 := R1n
  clear R1n
  have R2 := R2n
  clear R2n
  have B := Bn
  clear Bn
  have G := Gn
  clear Gn
  have X := Xn
  clear Xn
  have Y := Yn
  clear Yn
  have lt1 := lt1n
  clear lt1n
  have lt2 := lt2n
  clear lt2n
  have lt3 := lt3n
  clear lt3n
  rw [HP.out]
  obtain ⟨g0, g1⟩ := G.out.cells2
  obtain ⟨x0, x1, x2, x3, x4⟩ := X.out.cells5
  obtain ⟨y0, y1, y2, y3, y4⟩ := Y.out.cells5
  go_wp2_with fail
  refine (implSpanOf_any _ gn gs o2 d2 b2 k2 _ _ _ ds2 rfl R2.out (by omega)).mono ?_
  rintro e w4 ⟨rfl, bb⟩
  clear g0 g1 x0 x1 x2 x3 x4 y0 y1 y2 y3 y4
  have R1n := hidden (R1.out.below bb)
  have R2n := hidden (R2.out.below bb)
  have Bn := hidden (Below.andThen B.out bb)
  have Gn := hidden (G.out.below bb (by omega))
  have Xn := hidden (X.out.below bb (by omega))
  have Yn := hidden (Y.out.below bb (by omega))
  have zn := bb.size
  have lt1n : GB < w4.heap.size := by omega
  have lt2n : XB < w4.heap.size := by omega
  have lt3n : YB < w4.heap.size := by omega
  clear R1 R2 B G X Y lt1 lt2 lt3 zn bb
  have R1 := R1n
  clear R1n
  have R2 := R2n
  clear R2n
  have B := Bn
  clear Bn
  have G := Gn
  clear Gn
  have X := Xn
  clear Xn
  have Y := Yn
  clear Yn
  have lt1 := lt1n
  clear lt1n
  have lt2 := lt2n
  clear lt2n
  have lt3 := lt3n
  clear lt3n
  rw [HQ.out]
  go_wp2
  go_loopw [10, 11] (fun bo i wr => ∃ j : Nat, (j : Int) ≤ blocksN gn gs ∧ i = .int .i64 j ∧ bo = .bool (metJ p0 p1 q0 q1 j) ∧ Reads .i64 wr a1 ds ∧ Reads .i64 wr a2 ds2 ∧ Below w.heap.size w wr ∧ Box wr GB 35 #[.int .i64 gn, .int .i64 gs] ∧ Box wr XB 26 #[.int .i64 o, .int .i64 d, .int .i64 b, .int .i64 k, .slice a1 ds.length c1] ∧ Box wr YB 26 #[.int .i64 o2, .int .i64 d2, .int .i64 b2, .int .i64 k2, .slice a2 ds2.length c2] ∧ GB < wr.heap.size ∧ XB < wr.heap.size ∧ YB < wr.heap.size) (fun _ i _ => 33 - (intOf i).toNat)
  case atStart => exact ⟨0, by omega, rfl, by rw [metJ_zero hp0], R1.out, R2.out, B.out, G.out, X.out, Y.out, lt1, lt2, lt3⟩
  case round =>
    clear R1 R2 B G X Y lt1 lt2 lt3
    obtain ⟨j, hj, rfl, rfl, r1, r2, bw, gw, xw, yw, lt1, lt2, lt3⟩ := hrel
    have R1 := hidden r1
    have R2 := hidden r2
    have B := hidden bw
    have G := hidden gw
    have X := hidden xw
    have Y := hidden yw
    clear r1 r2 bw gw xw yw
    obtain ⟨g0, g1⟩ := G.out.cells2
    go_wp2_with fail
    refine (implBlocks_any _ _ _).mono ?_
    rintro e w5 ⟨rfl, bb⟩
    clear g0 g1
    have R1n := hidden (R1.out.below bb)
    have R2n := hidden (R2.out.below bb)
    have Bn := hidden (Below.andThen B.out bb)
    have Gn := hidden (G.out.below bb (by omega))
    have Xn := hidden (X.out.below bb (by omega))
    have Yn := hidden (Y.out.below bb (by omega))
    have zn := bb.size
    have lt1n : GB < w5.heap.size := by omega
    have lt2n : XB < w5.heap.size := by omega
    have lt3n : YB < w5.heap.size := by omega
    clear R1 R2 B G X Y lt1 lt2 lt3 zn bb
    have R1 := R1n
    clear R1n
    have R2 := R2n
    clear R2n
    have B := Bn
    clear Bn
    have G := Gn
    clear Gn
    have X := Xn
    clear Xn
    have Y := Yn
    clear Yn
    have lt1 := lt1n
    clear lt1n
    have lt2 := lt2n
    clear lt2n
    have lt3 := lt3n
    clear lt3n
    by_cases hlt : (j : Int) < blocksN gn gs
    · have hj1 : IntKind.i64.wrap ((j : Int) + 1) = (j : Int) + 1 := IntWalk.i64_in _ (by omega)
      cases hm : metJ p0 p1 q0 q1 j
      · by_cases h1 : p0 ≤ (j : Int)
        · by_cases h2 : (j : Int) < p1
          · by_cases h3 : q0 ≤ (j : Int)
            · by_cases h4 : (j : Int) < q1
              · have hn := metJ_in h1 h2 h3 h4
                have HN := hidden hn
                clear hn hm
                go_wp2
                go_roundw
                case rel => exact ⟨j + 1, by omega, by go_num, by rw [HN.out], R1.out, R2.out, B.out, G.out, X.out, Y.out, lt1, lt2, lt3⟩
                case measure => simp [intOf]; omega
              · have HN := hidden (metJ_out hm (fun h => h4 h.2.2.2))
                clear hm
                go_wp2
                go_roundw
                case rel => exact ⟨j + 1, by omega, by go_num, by rw [HN.out]; simp [h4], R1.out, R2.out, B.out, G.out, X.out, Y.out, lt1, lt2, lt3⟩
                case measure => simp [intOf]; omega
            · have HN := hidden (metJ_out hm (fun h => h3 h.2.2.1))
              clear hm
              go_wp2
              go_roundw
              case rel => exact ⟨j + 1, by omega, by go_num, by rw [HN.out], R1.out, R2.out, B.out, G.out, X.out, Y.out, lt1, lt2, lt3⟩
              case measure => simp [intOf]; omega
          · have HN := hidden (metJ_out hm (fun h => h2 h.2.1))
            clear hm
            go_wp2
            go_roundw
            case rel => exact ⟨j + 1, by omega, by go_num, by rw [HN.out], R1.out, R2.out, B.out, G.out, X.out, Y.out, lt1, lt2, lt3⟩
            case measure => simp [intOf]; omega
        · have HN := hidden (metJ_out hm (fun h => h1 h.1))
          clear hm
          go_wp2
          go_roundw
          case rel => exact ⟨j + 1, by omega, by go_num, by rw [HN.out], R1.out, R2.out, B.out, G.out, X.out, Y.out, lt1, lt2, lt3⟩
          case measure => simp [intOf]; omega
      · have HN := hidden (metJ_old hm)
        clear hm
        go_wp2
        go_roundw
        case rel => exact ⟨j + 1, by omega, by go_num, by rw [HN.out], R1.out, R2.out, B.out, G.out, X.out, Y.out, lt1, lt2, lt3⟩
        case measure => simp [intOf]; omega
    · have hM := metJ_all (j := j) hp01 hq01 (by omega) (by omega)
      rw [hM]
      clear hM
      have HS := hidden (met_self (x := (p0, p1)) hp01)
      have HW := hidden (met_swap (p0, p1) (q0, q1))
      have HFM : Hid (o = 4 → metC (p0, p1) (q0, q1) = true) := by
        intro h
        have hpp := HFL.out h
        simp only [Prod.mk.injEq] at hpp
        obtain ⟨e0, e1⟩ := hpp
        unfold metC
        rw [decide_eq_true (by show p0 < q1; omega), decide_eq_true (by show q0 < p1; omega)]
        rfl
      generalize hMM : metC (p0, p1) (q0, q1) = M at HW HFM ⊢
      have HM := hidden hMM
      clear hMM HFL
      have hb1 : (M == M) = true := by cases M <;> rfl
      obtain ⟨g0, g1⟩ := G.out.cells2
      obtain ⟨x0, x1, x2, x3, x4⟩ := X.out.cells5
      obtain ⟨y0, y1, y2, y3, y4⟩ := Y.out.cells5
      go_wp2_with fail
      refine (implClash_any _ gn gs o d b k _ _ _ ds o2 d2 b2 k2 _ _ _ ds2 rfl R1.out (by omega) rfl R2.out (by omega)).mono ?_
      rintro e w6 ⟨rfl, bb⟩
      clear g0 g1 x0 x1 x2 x3 x4 y0 y1 y2 y3 y4
      have R1n := hidden (R1.out.below bb)
      have R2n := hidden (R2.out.below bb)
      have Bn := hidden (Below.andThen B.out bb)
      have Gn := hidden (G.out.below bb (by omega))
      have Xn := hidden (X.out.below bb (by omega))
      have Yn := hidden (Y.out.below bb (by omega))
      have zn := bb.size
      have lt1n : GB < w6.heap.size := by omega
      have lt2n : XB < w6.heap.size := by omega
      have lt3n : YB < w6.heap.size := by omega
      clear R1 R2 B G X Y lt1 lt2 lt3 zn bb
      have R1 := R1n
      clear R1n
      have R2 := R2n
      clear R2n
      have B := Bn
      clear Bn
      have G := Gn
      clear Gn
      have X := Xn
      clear Xn
      have Y := Yn
      clear Yn
      have lt1 := lt1n
      clear lt1n
      have lt2 := lt2n
      clear lt2n
      have lt3 := lt3n
      clear lt3n
      rw [HP.out, HQ.out, HM.out]
      obtain ⟨g0, g1⟩ := G.out.cells2
      obtain ⟨x0, x1, x2, x3, x4⟩ := X.out.cells5
      obtain ⟨y0, y1, y2, y3, y4⟩ := Y.out.cells5
      go_wp2_with fail
      refine (implClash_any _ gn gs o2 d2 b2 k2 _ _ _ ds2 o d b k _ _ _ ds rfl R2.out (by omega) rfl R1.out (by omega)).mono ?_
      rintro e w7 ⟨rfl, bb⟩
      clear g0 g1 x0 x1 x2 x3 x4 y0 y1 y2 y3 y4
      have R1n := hidden (R1.out.below bb)
      have R2n := hidden (R2.out.below bb)
      have Bn := hidden (Below.andThen B.out bb)
      have Gn := hidden (G.out.below bb (by omega))
      have Xn := hidden (X.out.below bb (by omega))
      have Yn := hidden (Y.out.below bb (by omega))
      have zn := bb.size
      have lt1n : GB < w7.heap.size := by omega
      have lt2n : XB < w7.heap.size := by omega
      have lt3n : YB < w7.heap.size := by omega
      clear R1 R2 B G X Y lt1 lt2 lt3 zn bb
      have R1 := R1n
      clear R1n
      have R2 := R2n
      clear R2n
      have B := Bn
      clear Bn
      have G := Gn
      clear Gn
      have X := Xn
      clear Xn
      have Y := Yn
      clear Yn
      have lt1 := lt1n
      clear lt1n
      have lt2 := lt2n
      clear lt2n
      have lt3 := lt3n
      clear lt3n
      rw [HP.out, HQ.out, HW.out]
      obtain ⟨g0, g1⟩ := G.out.cells2
      obtain ⟨x0, x1, x2, x3, x4⟩ := X.out.cells5
      obtain ⟨y0, y1, y2, y3, y4⟩ := Y.out.cells5
      go_wp2_with fail
      refine (implClash_any _ gn gs o d b k _ _ _ ds o d b k _ _ _ ds rfl R1.out (by omega) rfl R1.out (by omega)).mono ?_
      rintro e w8 ⟨rfl, bb⟩
      clear g0 g1 x0 x1 x2 x3 x4 y0 y1 y2 y3 y4
      have R1n := hidden (R1.out.below bb)
      have R2n := hidden (R2.out.below bb)
      have Bn := hidden (Below.andThen B.out bb)
      have Gn := hidden (G.out.below bb (by omega))
      have Xn := hidden (X.out.below bb (by omega))
      have Yn := hidden (Y.out.below bb (by omega))
      have zn := bb.size
      have lt1n : GB < w8.heap.size := by omega
      have lt2n : XB < w8.heap.size := by omega
      have lt3n : YB < w8.heap.size := by omega
      clear R1 R2 B G X Y lt1 lt2 lt3 zn bb
      have R1 := R1n
      clear R1n
      have R2 := R2n
      clear R2n
      have B := Bn
      clear Bn
      have G := Gn
      clear Gn
      have X := Xn
      clear Xn
      have Y := Yn
      clear Yn
      have lt1 := lt1n
      clear lt1n
      have lt2 := lt2n
      clear lt2n
      have lt3 := lt3n
      clear lt3n
      rw [HP.out, HS.out]
      obtain ⟨g0, g1⟩ := G.out.cells2
      obtain ⟨x0, x1, x2, x3, x4⟩ := X.out.cells5
      obtain ⟨y0, y1, y2, y3, y4⟩ := Y.out.cells5
      go_wp2_with fail
      refine (implCmdCode_any _ gn gs o d b k _ _ _ ds rfl R1.out (by omega)).mono ?_
      rintro e w9 ⟨rfl, bb⟩
      clear g0 g1 x0 x1 x2 x3 x4 y0 y1 y2 y3 y4
      have R1n := hidden (R1.out.below bb)
      have R2n := hidden (R2.out.below bb)
      have Bn := hidden (Below.andThen B.out bb)
      have Gn := hidden (G.out.below bb (by omega))
      have Xn := hidden (X.out.below bb (by omega))
      have Yn := hidden (Y.out.below bb (by omega))
      have zn := bb.size
      have lt1n : GB < w9.heap.size := by omega
      have lt2n : XB < w9.heap.size := by omega
      have lt3n : YB < w9.heap.size := by omega
      clear R1 R2 B G X Y lt1 lt2 lt3 zn bb
      have R1 := R1n
      clear R1n
      have R2 := R2n
      clear R2n
      have B := Bn
      clear Bn
      have G := Gn
      clear Gn
      have X := Xn
      clear Xn
      have Y := Yn
      clear Yn
      have lt1 := lt1n
      clear lt1n
      have lt2 := lt2n
      clear lt2n
      have lt3 := lt3n
      clear lt3n
      rw [HC1.out]
      obtain ⟨g0, g1⟩ := G.out.cells2
      obtain ⟨x0, x1, x2, x3, x4⟩ := X.out.cells5
      obtain ⟨y0, y1, y2, y3, y4⟩ := Y.out.cells5
      by_cases ho : o = 4
      · have hMt := HFM.out ho
        subst hMt
        subst ho
        go_wp2
        go_ret
        exact ⟨rfl, B.out⟩
      · go_wp2
        go_ret
        exact ⟨rfl, B.out⟩
end Go.Proofs.Ytplieehocceplaa

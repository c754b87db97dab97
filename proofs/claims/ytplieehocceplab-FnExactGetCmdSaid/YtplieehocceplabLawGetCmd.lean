/-
  The walk of the exact law of GetCmd: at every slice of int it answers true, and nothing that was there has turned. No condition.
-/
import Derived.Test.YtplieehocceplabWalkGetCmd2
namespace Go.Proofs.Ytplieehocceplab
open Go.RowKit

theorem getCv_le (zs : List Int) : (getCv zs).2.2.2.2.length ≤ 6 := by
  unfold getCv
  split
  · rename_i h
    match zs, h with
    | z0 :: z1 :: z2 :: z3 :: z4 :: ds, h =>
      unfold getCB putB at h
      simp only [Bool.and_eq_true, decide_eq_true_eq] at h
      simpa using h.2.2.1
  · simp
theorem specGetCmd_v (w : World) (a : Option Addr) (n cap : Nat) (zs : List Int) {r0 r1 r2 r3 : Int} {rz : List Int} {rn : Nat} {rb : Bool} (h : tIntS.Rd w [.slice a n cap] zs) (hn : n ≤ 1500000) (hv : getCv zs = (r0, r1, r2, r3, rz)) (hb : getCB zs = rb) (hl : rz.length = rn) :
    Calls Try.prog 4 #[.slice a n cap] w fun e w' => ∃ a' c', e = .returned (.tuple #[.agg #[.int .i64 r0, .int .i64 r1, .int .i64 r2, .int .i64 r3, .slice a' rn c'], .bool rb]) ∧ tIntS.Own w' w.heap.size w'.heap.size [.slice a' rn c'] rz ∧ Below w.heap.size w w' := by
  refine (specGetCmd_any w a n cap zs h hn).mono ?_
  rintro e w' ⟨a', l', c', rfl, o, hb'⟩
  rw [hv] at o ⊢
  rw [hb]
  obtain ⟨rfl, o'⟩ := own_len2 o rfl hl
  exact ⟨a', c', rfl, o', hb'⟩
theorem implGetCmd_v (w : World) (a : Option Addr) (n cap : Nat) (zs : List Int) {r0 r1 r2 r3 : Int} {rz : List Int} {rn : Nat} {rb : Bool} (h : tIntS.Rd w [.slice a n cap] zs) (hn : n ≤ 1500000) (hv : getCv zs = (r0, r1, r2, r3, rz)) (hb : getCB zs = rb) (hl : rz.length = rn) :
    Calls Try.prog 6 #[.slice a n cap] w fun e w' => ∃ a' c', e = .returned (.tuple #[.agg #[.int .i64 r0, .int .i64 r1, .int .i64 r2, .int .i64 r3, .slice a' rn c'], .bool rb]) ∧ tIntS.Own w' w.heap.size w'.heap.size [.slice a' rn c'] rz ∧ Below w.heap.size w w' := by
  refine (implGetCmd_any w a n cap zs h hn).mono ?_
  rintro e w' ⟨a', l', c', rfl, o, hb'⟩
  rw [hv] at o ⊢
  rw [hb]
  obtain ⟨rfl, o'⟩ := own_len2 o rfl hl
  exact ⟨a', c', rfl, o', hb'⟩

set_option maxHeartbeats 4000000 in
theorem fnExactGetCmd_walk (a0 : Option Addr) (len0 cap0 : Nat) (z0 : List Int) (w : World) (w0 : IsRow .i64 w a0 len0 cap0 z0) :
    Calls Try.prog 3 #[.slice a0 len0 cap0] w fun e w' => e = .returned (.bool true) ∧ Below w.heap.size w w' := by
  obtain ⟨hr, hl, _, hml⟩ := w0.reads
  generalize z0.take len0 = zs at hr hl
  unfold maxLen at hml
  clear w0
  by_cases hbig : len0 ≤ 1048576
  · have hgl := getCv_le zs
    obtain ⟨r0, r1, r2, r3, rz, hv⟩ : ∃ r0 r1 r2 r3 rz, getCv zs = (r0, r1, r2, r3, rz) := ⟨_, _, _, _, _, rfl⟩
    obtain ⟨rb, hrb⟩ : ∃ rb, getCB zs = rb := ⟨_, rfl⟩
    obtain ⟨rn, hrn⟩ : ∃ rn, rz.length = rn := ⟨_, rfl⟩
    rw [hv] at hgl
    have hr4 : rn ≤ 6 := by rw [← hrn]; exact hgl
    have HV := hidden hv
    have HB := hidden hrb
    have HN := hidden hrn
    clear hv hrb hrn hgl
    have hd : decide (zs = zs) = true := by simp
    have hq : (rb != rb) = false := by simp
    have hq' : (rb == rb) = true := by simp
    have B0 : Hid (Below w.heap.size w w) := Below.refl _ _
    go_enter Try.func3, Try.ntmps3
    go_wp2_with fail
    refine (toIntS_any _ _ _ _ zs hl hr (by omega)).mono ?_
    rintro e w1 ⟨rfl, o1, hb1⟩
    have B1 := hidden (Below.andThen B0.out hb1)
    have z1 := hb1.size
    clear B0 hb1
    have A1 := hidden (own_ints o1)
    clear o1
    go_wp2_with fail
    refine (specGetCmd_v _ _ _ _ zs A1.out.rd (by omega) HV.out HB.out HN.out).mono ?_
    rintro e w2 ⟨a2, c2, rfl, o2, hb2⟩
    have B2 := hidden (Below.andThen B1.out hb2)
    have A2 := hidden (A1.out.below hb2)
    have z2 := hb2.size
    clear B1 A1 hb2
    have W2 := hidden (o2)
    clear o2
    have ba : Below w2.heap.size w2 (w2.alloc (.cells #[.int .i64 r0, .int .i64 r1, .int .i64 r2, .int .i64 r3, .slice a2 rn c2] 24)) := (Below.refl _ _).alloc (Nat.le_refl _) _
    have xb := Box.new w2 24 #[.int .i64 r0, .int .i64 r1, .int .i64 r2, .int .i64 r3, .slice a2 rn c2]
    have zx3 := xb.lt
    have B3 := hidden (Below.andThen B2.out ba)
    have A3 := hidden (A2.out.below ba)
    have W3 := hidden (W2.out.below ba)
    have z3 := ba.size
    clear B2 A2 W2 ba
    have BW3 := hidden xb
    clear xb
    clear A3
    go_wp2_with fail
    generalize w2.alloc (.cells #[.int .i64 r0, .int .i64 r1, .int .i64 r2, .int .i64 r3, .slice a2 rn c2] 24) = w3 at B3 W3 BW3 z3 zx3  ⊢
    refine (toIntS_any _ _ _ _ zs hl (hr.below B3.out) (by omega)).mono ?_
    rintro e w4 ⟨rfl, o4, hb4⟩
    have B4 := hidden (Below.andThen B3.out hb4)
    have W4 := hidden (W3.out.below hb4)
    have BW4 := hidden (BW3.out.below hb4 (by omega))
    have z4 := hb4.size
    clear B3 W3 BW3 hb4
    have X4 := hidden (own_ints o4)
    clear o4
    go_wp2_with fail
    refine (implGetCmd_v _ _ _ _ zs X4.out.rd (by omega) HV.out HB.out HN.out).mono ?_
    rintro e w5 ⟨a5, c5, rfl, o5, hb5⟩
    have B5 := hidden (Below.andThen B4.out hb5)
    have W5 := hidden (W4.out.below hb5)
    have BW5 := hidden (BW4.out.below hb5 (by omega))
    have X5 := hidden (X4.out.below hb5)
    have z5 := hb5.size
    clear B4 W4 BW4 X4 hb5
    have G5 := hidden (o5)
    clear o5
    have ba : Below w5.heap.size w5 (w5.alloc (.cells #[.int .i64 r0, .int .i64 r1, .int .i64 r2, .int .i64 r3, .slice a5 rn c5] 24)) := (Below.refl _ _).alloc (Nat.le_refl _) _
    have xb := Box.new w5 24 #[.int .i64 r0, .int .i64 r1, .int .i64 r2, .int .i64 r3, .slice a5 rn c5]
    have zx6 := xb.lt
    have B6 := hidden (Below.andThen B5.out ba)
    have W6 := hidden (W5.out.below ba)
    have BW6 := hidden (BW5.out.below ba (by omega))
    have X6 := hidden (X5.out.below ba)
    have G6 := hidden (G5.out.below ba)
    have z6 := ba.size
    clear B5 W5 BW5 X5 G5 ba
    have BG6 := hidden xb
    clear xb
    obtain ⟨x0, x1, x2, x3, x4⟩ := BG6.out.cells5
    obtain ⟨y0, y1, y2, y3, y4⟩ := BW6.out.cells5
    go_wp2_with fail
    generalize w5.alloc (.cells #[.int .i64 r0, .int .i64 r1, .int .i64 r2, .int .i64 r3, .slice a5 rn c5] 24) = w6 at B6 W6 BW6 X6 G6 BG6 z6 zx6 x0 x1 x2 x3 x4 y0 y1 y2 y3 y4 ⊢
    refine (eqCmd_same _ r0 r1 r2 r3 _ _ _ _ _ rz HN.out (ints_rd G6.out.rd).1 (ints_rd W6.out.rd).1 (by omega)).mono ?_
    rintro e w7 ⟨rfl, hb7⟩
    clear x0 x1 x2 x3 x4 y0 y1 y2 y3 y4
    have B7 := hidden (Below.andThen B6.out hb7)
    have W7 := hidden (W6.out.below hb7)
    have BW7 := hidden (BW6.out.below hb7 (by omega))
    have X7 := hidden (X6.out.below hb7)
    have G7 := hidden (G6.out.below hb7)
    have BG7 := hidden (BG6.out.below hb7 (by omega))
    have z7 := hb7.size
    clear B6 W6 BW6 X6 G6 BG6 hb7
    go_wp2_with fail
    refine (toIntS_any _ _ _ _ zs hl (hr.below B7.out) (by omega)).mono ?_
    rintro e w8 ⟨rfl, o8, hb8⟩
    have B8 := hidden (Below.andThen B7.out hb8)
    have W8 := hidden (W7.out.below hb8)
    have BW8 := hidden (BW7.out.below hb8 (by omega))
    have X8 := hidden (X7.out.below hb8)
    have G8 := hidden (G7.out.below hb8)
    have BG8 := hidden (BG7.out.below hb8 (by omega))
    have z8 := hb8.size
    clear B7 W7 BW7 X7 G7 BG7 hb8
    have A8 := hidden (own_ints o8)
    clear o8
    go_wp2_with fail
    refine (eqIntS_any _ _ _ _ _ _ _ zs zs hl hl (ints_rd X8.out.rd).1 (ints_rd A8.out.rd).1 (by omega)).mono ?_
    rintro e w9 ⟨rfl, hs9⟩
    have B9 := hidden (Below.andSame B8.out hs9)
    have W9 := hidden (W8.out.same hs9)
    have BW9 := hidden (BW8.out.same hs9)
    have X9 := hidden (X8.out.same hs9)
    have G9 := hidden (G8.out.same hs9)
    have BG9 := hidden (BG8.out.same hs9)
    have A9 := hidden (A8.out.same hs9)
    have z9 := Nat.le_of_eq hs9.size.symm
    clear B8 W8 BW8 X8 G8 BG8 A8 hs9
    clear A9
    go_wp2_with fail
    obtain ⟨fpX, mX, rX⟩ := X9.out.mine
    refine (markIntS_fp _ _ _ _ zs _ fpX mX (by omega) (by omega) (by omega)).mono ?_
    rintro e w10 ⟨rfl, m10, t10⟩
    clear X9
    have hb10 := t10.but rX
    clear mX m10 t10 rX
    have B10 := hidden (Below.andBut B9.out hb10 (by omega))
    have W10 := hidden (W9.out.but hb10 (by omega))
    have BW10 := hidden (BW9.out.kept (hb10.block _ (by omega) (by omega)))
    have G10 := hidden (G9.out.but hb10 (by omega))
    have BG10 := hidden (BG9.out.kept (hb10.block _ (by omega) (by omega)))
    have z10 := hb10.size
    clear B9 W9 BW9 G9 BG9 hb10
    obtain ⟨x0, x1, x2, x3, x4⟩ := BG10.out.cells5
    obtain ⟨y0, y1, y2, y3, y4⟩ := BW10.out.cells5
    go_wp2_with fail
    refine (eqCmd_same _ r0 r1 r2 r3 _ _ _ _ _ rz HN.out (ints_rd G10.out.rd).1 (ints_rd W10.out.rd).1 (by omega)).mono ?_
    rintro e w11 ⟨rfl, hb11⟩
    clear x0 x1 x2 x3 x4 y0 y1 y2 y3 y4
    have B11 := hidden (Below.andThen B10.out hb11)
    have W11 := hidden (W10.out.below hb11)
    have BW11 := hidden (BW10.out.below hb11 (by omega))
    have G11 := hidden (G10.out.below hb11)
    have BG11 := hidden (BG10.out.below hb11 (by omega))
    have z11 := hb11.size
    clear B10 W10 BW10 G10 BG10 hb11
    obtain ⟨x0, x1, x2, x3, x4⟩ := BG11.out.cells5
    go_wp2_with fail
    obtain ⟨fpG, mG, rG⟩ := G11.out.mine
    refine (markCmd_fp _ r0 r1 r2 r3 _ _ _ rz _ fpG mG (by omega) (by omega) (by omega)).mono ?_
    rintro e w12 ⟨rfl, m12, t12⟩
    clear x0 x1 x2 x3 x4
    clear G11
    have hb12 := t12.but rG
    have g12 := m12.own rG
    clear mG m12 t12 rG
    have B12 := hidden (Below.andBut B11.out hb12 (by omega))
    have W12 := hidden (W11.out.but hb12 (by omega))
    have BW12 := hidden (BW11.out.kept (hb12.block _ (by omega) (by omega)))
    have BG12 := hidden (BG11.out.kept (hb12.block _ (by omega) (by omega)))
    have z12 := hb12.size
    clear B11 W11 BW11 BG11 hb12
    have G12 := hidden (g12)
    clear g12
    obtain ⟨x0, x1, x2, x3, x4⟩ := BG12.out.cells5
    go_wp2_with fail
    refine (heldCmd_any _ r0 r1 r2 r3 _ _ _ _ (ints_rd G12.out.rd).1 (by omega) (by omega) (by omega)).mono ?_
    rintro e w13 ⟨rfl, hb13⟩
    clear x0 x1 x2 x3 x4
    have B13 := hidden (Below.andThen B12.out hb13)
    have W13 := hidden (W12.out.below hb13)
    have BW13 := hidden (BW12.out.below hb13 (by omega))
    have BG13 := hidden (BG12.out.below hb13 (by omega))
    have G13 := hidden (G12.out.below hb13)
    have z13 := hb13.size
    clear B12 W12 BW12 BG12 G12 hb13
    go_wp2_with fail
    refine (toIntS_any _ _ _ _ zs hl (hr.below B13.out) (by omega)).mono ?_
    rintro e w14 ⟨rfl, o14, hb14⟩
    have B14 := hidden (Below.andThen B13.out hb14)
    have W14 := hidden (W13.out.below hb14)
    have BW14 := hidden (BW13.out.below hb14 (by omega))
    have BG14 := hidden (BG13.out.below hb14 (by omega))
    have G14 := hidden (G13.out.below hb14)
    have z14 := hb14.size
    clear B13 W13 BW13 BG13 G13 hb14
    have A14 := hidden (own_ints o14)
    clear o14
    go_wp2_with fail
    refine (implGetCmd_v _ _ _ _ zs A14.out.rd (by omega) HV.out HB.out HN.out).mono ?_
    rintro e w15 ⟨a15, c15, rfl, o15, hb15⟩
    have B15 := hidden (Below.andThen B14.out hb15)
    have W15 := hidden (W14.out.below hb15)
    have BW15 := hidden (BW14.out.below hb15 (by omega))
    have BG15 := hidden (BG14.out.below hb15 (by omega))
    have G15 := hidden (G14.out.below hb15)
    have A15 := hidden (A14.out.below hb15)
    have z15 := hb15.size
    clear B14 W14 BW14 BG14 G14 A14 hb15
    have H15 := hidden (o15)
    clear o15
    have ba : Below w15.heap.size w15 (w15.alloc (.cells #[.int .i64 r0, .int .i64 r1, .int .i64 r2, .int .i64 r3, .slice a15 rn c15] 24)) := (Below.refl _ _).alloc (Nat.le_refl _) _
    have xb := Box.new w15 24 #[.int .i64 r0, .int .i64 r1, .int .i64 r2, .int .i64 r3, .slice a15 rn c15]
    have zx16 := xb.lt
    have B16 := hidden (Below.andThen B15.out ba)
    have W16 := hidden (W15.out.below ba)
    have BW16 := hidden (BW15.out.below ba (by omega))
    have BG16 := hidden (BG15.out.below ba (by omega))
    have G16 := hidden (G15.out.below ba)
    have A16 := hidden (A15.out.below ba)
    have H16 := hidden (H15.out.below ba)
    have z16 := ba.size
    clear B15 W15 BW15 BG15 G15 A15 H15 ba
    have BH16 := hidden xb
    clear xb
    clear A16
    obtain ⟨x0, x1, x2, x3, x4⟩ := BH16.out.cells5
    obtain ⟨y0, y1, y2, y3, y4⟩ := BW16.out.cells5
    go_wp2_with fail
    generalize w15.alloc (.cells #[.int .i64 r0, .int .i64 r1, .int .i64 r2, .int .i64 r3, .slice a15 rn c15] 24) = w16 at B16 W16 BW16 BG16 G16 H16 BH16 z16 zx16 x0 x1 x2 x3 x4 y0 y1 y2 y3 y4 ⊢
    refine (eqCmd_same _ r0 r1 r2 r3 _ _ _ _ _ rz HN.out (ints_rd H16.out.rd).1 (ints_rd W16.out.rd).1 (by omega)).mono ?_
    rintro e w17 ⟨rfl, hb17⟩
    clear x0 x1 x2 x3 x4 y0 y1 y2 y3 y4
    have B17 := hidden (Below.andThen B16.out hb17)
    have W17 := hidden (W16.out.below hb17)
    have BW17 := hidden (BW16.out.below hb17 (by omega))
    have BG17 := hidden (BG16.out.below hb17 (by omega))
    have G17 := hidden (G16.out.below hb17)
    have H17 := hidden (H16.out.below hb17)
    have BH17 := hidden (BH16.out.below hb17 (by omega))
    have z17 := hb17.size
    clear B16 W16 BW16 BG16 G16 H16 BH16 hb17
    obtain ⟨x0, x1, x2, x3, x4⟩ := BG17.out.cells5
    go_wp2_with fail
    refine (heldCmd_any _ r0 r1 r2 r3 _ _ _ _ (ints_rd G17.out.rd).1 (by omega) (by omega) (by omega)).mono ?_
    rintro e w18 ⟨rfl, hb18⟩
    clear x0 x1 x2 x3 x4
    have B18 := hidden (Below.andThen B17.out hb18)
    have W18 := hidden (W17.out.below hb18)
    have BW18 := hidden (BW17.out.below hb18 (by omega))
    have BG18 := hidden (BG17.out.below hb18 (by omega))
    have G18 := hidden (G17.out.below hb18)
    have H18 := hidden (H17.out.below hb18)
    have BH18 := hidden (BH17.out.below hb18 (by omega))
    have z18 := hb18.size
    clear B17 W17 BW17 BG17 G17 H17 BH17 hb18
    go_wp2
    go_ret
    exact ⟨rfl, B18.out⟩
  · go_enter Try.func3, Try.ntmps3
    go_wp2
    go_ret
    exact ⟨rfl, Below.refl _ _⟩

end Go.Proofs.Ytplieehocceplab

/-
  The draw of a command that is right (l13Draw): its code is CoGood. Condition: the Geo is right.
-/
import Derived.Test.YtbkkjfgjlapadaaWalkCmdS
import Derived.Test.YtbkkjfgjlapadaaWalkGetCmd
import Derived.Test.YtbkkjfgjlapadaaSome13
import Derived.Test.YtbkkjfgjlapadaaFrame
namespace Go.Proofs.Ytbkkjfgjlapadaa
open Go.RowKit

/-- Codes of commands that are right. -/
theorem draw_flush {gn gs d : Int} (hg : geoB gn gs = true) (hd : 1 ≤ d ∧ d ≤ 99) : codeC gn gs 4 d 0 0 [] = 0 := by
  rw [code_rest (form_all hg (by decide) (by rw [inB_iff]; omega)), rest_flush]
theorem draw_code {gn gs o d b k : Int} {zs : List Int} (hg : geoB gn gs = true) (ho : 1 ≤ o ∧ o ≤ 6) (hd : 1 ≤ d ∧ d ≤ 99) (hs : sizeC o k zs = true) (h0 : 0 ≤ b) (h1 : b + lenC o k zs ≤ blocksN gn gs) : codeC gn gs o d b k zs = 0 := by
  rw [code_rest (form_all hg (by rw [inB_iff]; omega) (by rw [inB_iff]; omega)), rest_in hs]
  unfold roomC
  rw [inB_iff]
  omega
theorem isW_in {x : Int} (h1 : 0 ≤ x) (h2 : x ≤ 65535) : isW x = true := by
  unfold isW
  rw [decide_eq_true h1, decide_eq_true h2]
  rfl
theorem draw_put {o d b k : Int} {zs : List Int} (ho : 1 ≤ o ∧ o ≤ 6) (hd : 1 ≤ d ∧ d ≤ 99) (hb : 0 ≤ b ∧ b ≤ 32) (hk : 0 ≤ k ∧ k ≤ 6) (hl : zs.length ≤ 6) (hz : allW zs = true) : putB o d b k zs = true := by
  refine putB_all (inB_iff.2 ho) hl ?_
  unfold allW at hz
  show (isW o && (isW d && (isW b && (isW k && (isW (zs.length : Int) && zs.all isW))))) = true
  rw [isW_in (x := o) (by omega) (by omega), isW_in (x := d) (by omega) (by omega), isW_in (x := b) (by omega) (by omega), isW_in (x := k) (by omega) (by omega), isW_in (x := (zs.length : Int)) (by omega) (by omega), hz]
  rfl
theorem two_words {u v : Int} (hu : u = 0 ∨ u = 1 ∨ u = 2) (hv : v = 0 ∨ v = 1 ∨ v = 2 ∨ v = 7) : allW [u, v] = true := by
  rcases hu with rfl | rfl | rfl <;> rcases hv with rfl | rfl | rfl | rfl <;> decide
set_option maxRecDepth 20000 in
set_option maxHeartbeats 8000000 in
theorem l13Draw_put {w : World} {g lb cb : Nat} {a : Option Addr} {zs : List Int} (h : Draws w g a lb cb zs) {gn gs : Int} (hgeo : geoB gn gs = true) :
    Calls Try.prog 43 #[.pointer (some ⟨g, 0, none⟩), .agg #[.int .i64 gn, .int .i64 gs]] w fun e w' => ∃ (o d b k : Int) (a' : Option Addr) (c' : Nat) (ds : List Int), e = .returned (.agg #[.int .i64 o, .int .i64 d, .int .i64 b, .int .i64 k, .slice a' ds.length c']) ∧ codeC gn gs o d b k ds = 0 ∧ putB o d b k ds = true ∧ ds.length ≤ 6 ∧ tIntS.Own w' w.heap.size w'.heap.size [.slice a' ds.length c'] ds ∧ Draws w' g a lb cb zs ∧ But g (g + 1) w w' := by
  have hg := h.lt
  have hbl := blocksN_of hgeo
  have hbr := geoB_blocks hgeo
  rw [← hbl] at hbr
  clear hbl
  have HR : Reads .i64 (((w.alloc (.cells #[.int .i64 gn, .int .i64 gs] 25)).alloc (.cells #[.int .i64 0, .int .i64 0, .int .i64 0, .int .i64 0, .slice none 0 0] 28)).alloc (.cells #[.int .i64 1, .int .i64 1, .int .i64 2, .int .i64 2, .int .i64 2, .int .i64 3, .int .i64 3, .int .i64 4, .int .i64 5, .int .i64 6] 3)) (some ⟨w.heap.size + 1 + 1, 0, none⟩) [1, 1, 2, 2, 2, 3, 3, 4, 5, 6] := by
    have := Reads.new .i64 ((w.alloc (.cells #[.int .i64 gn, .int .i64 gs] 25)).alloc (.cells #[.int .i64 0, .int .i64 0, .int .i64 0, .int .i64 0, .slice none 0 0] 28)) 3 [1, 1, 2, 2, 2, 3, 3, 4, 5, 6] _ rfl
    rw [show ((w.alloc (.cells #[.int .i64 gn, .int .i64 gs] 25)).alloc (.cells #[.int .i64 0, .int .i64 0, .int .i64 0, .int .i64 0, .slice none 0 0] 28)).heap.size = w.heap.size + 1 + 1 by simp] at this
    exact this
  have D0 := ((h.alloc (.cells #[.int .i64 gn, .int .i64 gs] 25)).alloc (.cells #[.int .i64 0, .int .i64 0, .int .i64 0, .int .i64 0, .slice none 0 0] 28)).alloc (.cells #[.int .i64 1, .int .i64 1, .int .i64 2, .int .i64 2, .int .i64 2, .int .i64 3, .int .i64 3, .int .i64 4, .int .i64 5, .int .i64 6] 3)
  have G0 := ((Box.new w 25 #[.int .i64 gn, .int .i64 gs]).alloc (.cells #[.int .i64 0, .int .i64 0, .int .i64 0, .int .i64 0, .slice none 0 0] 28)).alloc (.cells #[.int .i64 1, .int .i64 1, .int .i64 2, .int .i64 2, .int .i64 2, .int .i64 3, .int .i64 3, .int .i64 4, .int .i64 5, .int .i64 6] 3)
  have R0 : Box (((w.alloc (.cells #[.int .i64 gn, .int .i64 gs] 25)).alloc (.cells #[.int .i64 0, .int .i64 0, .int .i64 0, .int .i64 0, .slice none 0 0] 28)).alloc (.cells #[.int .i64 1, .int .i64 1, .int .i64 2, .int .i64 2, .int .i64 2, .int .i64 3, .int .i64 3, .int .i64 4, .int .i64 5, .int .i64 6] 3)) (w.heap.size + 1) 28 #[.int .i64 0, .int .i64 0, .int .i64 0, .int .i64 0, .slice none 0 0] := by
    have := (Box.new (w.alloc (.cells #[.int .i64 gn, .int .i64 gs] 25)) 28 #[.int .i64 0, .int .i64 0, .int .i64 0, .int .i64 0, .slice none 0 0]).alloc (.cells #[.int .i64 1, .int .i64 1, .int .i64 2, .int .i64 2, .int .i64 2, .int .i64 3, .int .i64 3, .int .i64 4, .int .i64 5, .int .i64 6] 3)
    rw [show (w.alloc (.cells #[.int .i64 gn, .int .i64 gs] 25)).heap.size = w.heap.size + 1 by simp] at this
    exact this
  have B0 : But g (g + 1) w (((w.alloc (.cells #[.int .i64 gn, .int .i64 gs] 25)).alloc (.cells #[.int .i64 0, .int .i64 0, .int .i64 0, .int .i64 0, .slice none 0 0] 28)).alloc (.cells #[.int .i64 1, .int .i64 1, .int .i64 2, .int .i64 2, .int .i64 2, .int .i64 3, .int .i64 3, .int .i64 4, .int .i64 5, .int .i64 6] 3)) := (((But.refl g (g + 1) w).alloc _).alloc _).alloc _
  have z0 : w.heap.size + 3 ≤ (((w.alloc (.cells #[.int .i64 gn, .int .i64 gs] 25)).alloc (.cells #[.int .i64 0, .int .i64 0, .int .i64 0, .int .i64 0, .slice none 0 0] 28)).alloc (.cells #[.int .i64 1, .int .i64 1, .int .i64 2, .int .i64 2, .int .i64 2, .int .i64 3, .int .i64 3, .int .i64 4, .int .i64 5, .int .i64 6] 3)).heap.size := by simp
  go_enter Try.func43, Try.ntmps43
  go_wp2_with fail
  generalize (((w.alloc (.cells #[.int .i64 gn, .int .i64 gs] 25)).alloc (.cells #[.int .i64 0, .int .i64 0, .int .i64 0, .int .i64 0, .slice none 0 0] 28)).alloc (.cells #[.int .i64 1, .int .i64 1, .int .i64 2, .int .i64 2, .int .i64 2, .int .i64 3, .int .i64 3, .int .i64 4, .int .i64 5, .int .i64 6] 3)) = w0 at HR D0 G0 R0 B0 z0 ⊢
  refine (dInt D0 _ 10 _ [1, 1, 2, 2, 2, 3, 3, 4, 5, 6] rfl HR (fun q hq => by simp at hq; subst hq; show g + 1 ≤ w.heap.size + 1 + 1; omega) (by omega) (by omega)).mono ?_
  rintro e w1 ⟨o, rfl, ho, D1, b1⟩
  have ho' : o = 1 ∨ o = 2 ∨ o = 3 ∨ o = 4 ∨ o = 5 ∨ o = 6 := by simp at ho; omega
  obtain ⟨RB, hRB⟩ : ∃ RB, RB = w.heap.size + 1 := ⟨_, rfl⟩
  rw [← hRB] at R0
  simp only [← hRB]
  have hRB1 : w.heap.size < RB ∧ RB < w0.heap.size := by omega
  clear hRB
  obtain ⟨hRB1, hRB2⟩ := hRB1
  have G1 := G0.kept (b1.block _ (by omega) (by omega))
  have R1 := R0.kept (b1.block _ (by omega) (by omega))
  have B1 := B0.trans b1
  have z1 := b1.size
  clear G0 R0 B0 D0 b1
  clear HR ho
  go_wp2_with fail
  refine (dBelow D1 99 (by omega) (by omega)).mono ?_
  rintro e w2 ⟨y, rfl, hy0, hy1, D2, b2⟩
  have hd : 1 ≤ 1 + y ∧ 1 + y ≤ 99 := by omega
  have G2 := G1.kept (b2.block _ (by omega) (by omega))
  have R2 := R1.kept (b2.block _ (by omega) (by omega))
  have B2 := B1.trans b2
  have z2 := b2.size
  clear G1 R1 B1 D1 b2
  have X3 := Box.new w2 28 #[.int .i64 o, .int .i64 (1 + y), .int .i64 0, .int .i64 0, .slice none 0 0]
  have G3 := G2.alloc (.cells #[.int .i64 o, .int .i64 (1 + y), .int .i64 0, .int .i64 0, .slice none 0 0] 28)
  have R3 := R2.alloc (.cells #[.int .i64 o, .int .i64 (1 + y), .int .i64 0, .int .i64 0, .slice none 0 0] 28)
  have D3 := D2.alloc (.cells #[.int .i64 o, .int .i64 (1 + y), .int .i64 0, .int .i64 0, .slice none 0 0] 28)
  have B3 := B2.alloc (.cells #[.int .i64 o, .int .i64 (1 + y), .int .i64 0, .int .i64 0, .slice none 0 0] 28)
  have z3 : w2.heap.size < (w2.alloc (.cells #[.int .i64 o, .int .i64 (1 + y), .int .i64 0, .int .i64 0, .slice none 0 0] 28)).heap.size := by simp
  clear G2 R2 D2 B2
  rcases ho' with rfl | rfl | rfl | rfl | rfl | rfl
  · skip
    obtain ⟨x0, x1, x2, x3, x4⟩ := X3.cells5
    obtain ⟨p0, p1, p2, p3, p4⟩ := R3.cells5
    have fz := R3.frozen
    go_wp2_with fail
    generalize w2.alloc (.cells #[.int .i64 1, .int .i64 (1 + y), .int .i64 0, .int .i64 0, .slice none 0 0] 28) = w3 at X3 G3 R3 D3 B3 z3 x0 x1 x2 x3 x4 p0 p1 p2 p3 p4 fz ⊢
    generalize w2.heap.size = BX at X3 z3 z2 x0 x1 x2 x3 x4 ⊢
    refine (dBelow D3 4 (by omega) (by omega)).mono ?_
    rintro e w4 ⟨m, rfl, hm0, hm1, D4, b4⟩
    clear x0 x1 x2 x3 x4 p0 p1 p2 p3 p4 fz
    have G4 := G3.kept (b4.block _ (by omega) (by omega))
    have R4 := R3.kept (b4.block _ (by omega) (by omega))
    have X4 := X3.kept (b4.block _ (by omega) (by omega))
    have B4 := B3.trans b4
    have z4 := b4.size
    clear G3 R3 X3 B3 D3 b4
    obtain ⟨g0, g1⟩ := G4.cells2
    go_wp2_with fail
    refine (specBlocks_any _ _ _).mono ?_
    rintro e w5 ⟨rfl, b5⟩
    clear g0 g1
    have G5 := G4.below b5 (by omega)
    have R5 := R4.below b5 (by omega)
    have X5 := X4.below b5 (by omega)
    have D5 := D4.lower b5 (by omega)
    have B5 := B4.thenBelow (b5.mono B4.size)
    have z5 := b5.size
    clear G4 R4 X4 B4 D4 b5
    obtain ⟨g0, g1⟩ := G5.cells2
    by_cases hgt : blocksN gn gs < 1 + m
    · obtain ⟨n, hn⟩ : ∃ n : Int, n = 1 := ⟨_, rfl⟩
      have hn1 : 1 ≤ n ∧ n ≤ 4 ∧ n ≤ blocksN gn gs := by omega
      go_wp2_with fail
      simp only [← hn]
      clear hn hgt hm0 hm1
      refine (specBlocks_any _ _ _).mono ?_
      rintro e w6 ⟨rfl, b6⟩
      clear g0 g1
      have G6 := G5.below b6 (by omega)
      have R6 := R5.below b6 (by omega)
      have X6 := X5.below b6 (by omega)
      have D6 := D5.lower b6 (by omega)
      have B6 := B5.thenBelow (b6.mono B5.size)
      have z6 := b6.size
      clear G5 R5 X5 B5 D5 b6
      go_wp2_with fail
      refine (dBelow D6 _ (by omega) (by omega)).mono ?_
      rintro e w7 ⟨b, rfl, hb0, hb1, D7, b7⟩
      have hb : 0 ≤ b ∧ b + n ≤ blocksN gn gs := by omega
      clear hb1
      have G7 := G6.kept (b7.block _ (by omega) (by omega))
      have R7 := R6.kept (b7.block _ (by omega) (by omega))
      have X7 := X6.kept (b7.block _ (by omega) (by omega))
      have B7 := B6.trans b7
      have z7 := b7.size
      clear G6 R6 X6 B6 D6 b7
      obtain ⟨x0, x1, x2, x3, x4⟩ := X7.cells5
      obtain ⟨p0, p1, p2, p3, p4⟩ := R7.cells5
      have fz := R7.frozen
      have fx := X7.frozen
      have t5 : But BX (BX + 1) w7 ((w7.setCell ⟨BX, 2, none⟩ (.int .i64 b)).setCell ⟨BX, 3, none⟩ (.int .i64 n)) := (But.setCell (by omega) (by omega) _).trans (But.setCell (by omega) (by omega) _)
      have BW := B7.thenBelow (t5.below (B := w.heap.size) (by omega) (by omega))
      have DW := D7.lower (t5.below (B := w.heap.size) (by omega) (by omega)) hg
      clear t5 B7 D7
      have hne : ¬ BX = RB := by omega
      have hne' : ¬ RB = BX := by omega
      have hs : sizeC 1 n [] = true := (size1 (.inl rfl)).trans (by rw [inB_iff]; omega)
      have t6 := set5_but ((w7.setCell ⟨BX, 2, none⟩ (.int .i64 b)).setCell ⟨BX, 3, none⟩ (.int .i64 n)) RB (.int .i64 1) (.int .i64 (1 + y)) (.int .i64 b) (.int .i64 n) (.slice none 0 0)
      have zW : ((w7.setCell ⟨BX, 2, none⟩ (.int .i64 b)).setCell ⟨BX, 3, none⟩ (.int .i64 n)).heap.size = w7.heap.size := by simp
      have FB := hidden ((BW.thenBelow (t6.below (B := w.heap.size) (by omega) (by omega))))
      have FD := hidden ((DW.lower (t6.below (B := w.heap.size) (by omega) (by omega)) hg))
      have FC := hidden (draw_code (d := 1 + y) hgeo (by omega) hd hs hb0 (by rw [len1 (.inl rfl)]; omega))
      have FP := hidden (draw_put (o := 1) (d := 1 + y) (b := b) (k := n) (zs := []) (by omega) hd (by omega) (by omega) (by simp) rfl)
      unfold set5 at FB FD
      clear t6 zW BW DW
      go_wp2
      refine bodyPost_ret (v := .agg #[.int .i64 1, .int .i64 (1 + y), .int .i64 b, .int .i64 n, .slice none 0 0]) (by simp [results, Try.results43, go_sem, p0, p1, p2, p3, p4]) rfl ?_
      exact ⟨_, _, _, _, _, _, [], rfl, FC.out, FP.out, by simp, nil_own _ _ _, FD.out, FB.out⟩
    · obtain ⟨n, hn⟩ : ∃ n : Int, n = 1 + m := ⟨_, rfl⟩
      have hn1 : 1 ≤ n ∧ n ≤ 4 ∧ n ≤ blocksN gn gs := by omega
      go_wp2_with fail
      simp only [← hn]
      clear hn hgt hm0 hm1
      refine (specBlocks_any _ _ _).mono ?_
      rintro e w6 ⟨rfl, b6⟩
      clear g0 g1
      have G6 := G5.below b6 (by omega)
      have R6 := R5.below b6 (by omega)
      have X6 := X5.below b6 (by omega)
      have D6 := D5.lower b6 (by omega)
      have B6 := B5.thenBelow (b6.mono B5.size)
      have z6 := b6.size
      clear G5 R5 X5 B5 D5 b6
      go_wp2_with fail
      refine (dBelow D6 _ (by omega) (by omega)).mono ?_
      rintro e w7 ⟨b, rfl, hb0, hb1, D7, b7⟩
      have hb : 0 ≤ b ∧ b + n ≤ blocksN gn gs := by omega
      clear hb1
      have G7 := G6.kept (b7.block _ (by omega) (by omega))
      have R7 := R6.kept (b7.block _ (by omega) (by omega))
      have X7 := X6.kept (b7.block _ (by omega) (by omega))
      have B7 := B6.trans b7
      have z7 := b7.size
      clear G6 R6 X6 B6 D6 b7
      obtain ⟨x0, x1, x2, x3, x4⟩ := X7.cells5
      obtain ⟨p0, p1, p2, p3, p4⟩ := R7.cells5
      have fz := R7.frozen
      have fx := X7.frozen
      have t5 : But BX (BX + 1) w7 ((w7.setCell ⟨BX, 2, none⟩ (.int .i64 b)).setCell ⟨BX, 3, none⟩ (.int .i64 n)) := (But.setCell (by omega) (by omega) _).trans (But.setCell (by omega) (by omega) _)
      have BW := B7.thenBelow (t5.below (B := w.heap.size) (by omega) (by omega))
      have DW := D7.lower (t5.below (B := w.heap.size) (by omega) (by omega)) hg
      clear t5 B7 D7
      have hne : ¬ BX = RB := by omega
      have hne' : ¬ RB = BX := by omega
      have hs : sizeC 1 n [] = true := (size1 (.inl rfl)).trans (by rw [inB_iff]; omega)
      have t6 := set5_but ((w7.setCell ⟨BX, 2, none⟩ (.int .i64 b)).setCell ⟨BX, 3, none⟩ (.int .i64 n)) RB (.int .i64 1) (.int .i64 (1 + y)) (.int .i64 b) (.int .i64 n) (.slice none 0 0)
      have zW : ((w7.setCell ⟨BX, 2, none⟩ (.int .i64 b)).setCell ⟨BX, 3, none⟩ (.int .i64 n)).heap.size = w7.heap.size := by simp
      have FB := hidden ((BW.thenBelow (t6.below (B := w.heap.size) (by omega) (by omega))))
      have FD := hidden ((DW.lower (t6.below (B := w.heap.size) (by omega) (by omega)) hg))
      have FC := hidden (draw_code (d := 1 + y) hgeo (by omega) hd hs hb0 (by rw [len1 (.inl rfl)]; omega))
      have FP := hidden (draw_put (o := 1) (d := 1 + y) (b := b) (k := n) (zs := []) (by omega) hd (by omega) (by omega) (by simp) rfl)
      unfold set5 at FB FD
      clear t6 zW BW DW
      go_wp2
      refine bodyPost_ret (v := .agg #[.int .i64 1, .int .i64 (1 + y), .int .i64 b, .int .i64 n, .slice none 0 0]) (by simp [results, Try.results43, go_sem, p0, p1, p2, p3, p4]) rfl ?_
      exact ⟨_, _, _, _, _, _, [], rfl, FC.out, FP.out, by simp, nil_own _ _ _, FD.out, FB.out⟩
  · skip
    obtain ⟨x0, x1, x2, x3, x4⟩ := X3.cells5
    obtain ⟨p0, p1, p2, p3, p4⟩ := R3.cells5
    have fz := R3.frozen
    go_wp2_with fail
    generalize w2.alloc (.cells #[.int .i64 2, .int .i64 (1 + y), .int .i64 0, .int .i64 0, .slice none 0 0] 28) = w3 at X3 G3 R3 D3 B3 z3 x0 x1 x2 x3 x4 p0 p1 p2 p3 p4 fz ⊢
    generalize w2.heap.size = BX at X3 z3 z2 x0 x1 x2 x3 x4 ⊢
    refine (dBelow D3 4 (by omega) (by omega)).mono ?_
    rintro e w4 ⟨m, rfl, hm0, hm1, D4, b4⟩
    clear x0 x1 x2 x3 x4 p0 p1 p2 p3 p4 fz
    have G4 := G3.kept (b4.block _ (by omega) (by omega))
    have R4 := R3.kept (b4.block _ (by omega) (by omega))
    have X4 := X3.kept (b4.block _ (by omega) (by omega))
    have B4 := B3.trans b4
    have z4 := b4.size
    clear G3 R3 X3 B3 D3 b4
    obtain ⟨g0, g1⟩ := G4.cells2
    go_wp2_with fail
    refine (specBlocks_any _ _ _).mono ?_
    rintro e w5 ⟨rfl, b5⟩
    clear g0 g1
    have G5 := G4.below b5 (by omega)
    have R5 := R4.below b5 (by omega)
    have X5 := X4.below b5 (by omega)
    have D5 := D4.lower b5 (by omega)
    have B5 := B4.thenBelow (b5.mono B4.size)
    have z5 := b5.size
    clear G4 R4 X4 B4 D4 b5
    obtain ⟨g0, g1⟩ := G5.cells2
    by_cases hgt : blocksN gn gs < 1 + m
    · obtain ⟨n, hn⟩ : ∃ n : Int, n = 1 := ⟨_, rfl⟩
      have hn1 : 1 ≤ n ∧ n ≤ 4 ∧ n ≤ blocksN gn gs := by omega
      go_wp2_with fail
      simp only [← hn]
      clear hn hgt hm0 hm1
      refine (specBlocks_any _ _ _).mono ?_
      rintro e w6 ⟨rfl, b6⟩
      clear g0 g1
      have G6 := G5.below b6 (by omega)
      have R6 := R5.below b6 (by omega)
      have X6 := X5.below b6 (by omega)
      have D6 := D5.lower b6 (by omega)
      have B6 := B5.thenBelow (b6.mono B5.size)
      have z6 := b6.size
      clear G5 R5 X5 B5 D5 b6
      go_wp2_with fail
      refine (dBelow D6 _ (by omega) (by omega)).mono ?_
      rintro e w7 ⟨b, rfl, hb0, hb1, D7, b7⟩
      have hb : 0 ≤ b ∧ b + n ≤ blocksN gn gs := by omega
      clear hb1
      have G7 := G6.kept (b7.block _ (by omega) (by omega))
      have R7 := R6.kept (b7.block _ (by omega) (by omega))
      have X7 := X6.kept (b7.block _ (by omega) (by omega))
      have B7 := B6.trans b7
      have z7 := b7.size
      clear G6 R6 X6 B6 D6 b7
      obtain ⟨x0, x1, x2, x3, x4⟩ := X7.cells5
      obtain ⟨p0, p1, p2, p3, p4⟩ := R7.cells5
      have fz := R7.frozen
      have fx := X7.frozen
      have X8 := X7.set 2 (.int .i64 b)
      have t8 : But BX (BX + 1) w7 (w7.setCell ⟨BX, 2, none⟩ (.int .i64 b)) := But.setCell (by omega) (by omega) _
      have R8 := R7.kept (t8.block _ (by omega) (by omega))
      have B8 := B7.thenBelow (t8.below (B := w.heap.size) (by omega) (by omega))
      have D8 := D7.lower (t8.below (B := w.heap.size) (by omega) (by omega)) hg
      have z8 := t8.size
      clear X7 R7 B7 D7 G7 t8
      obtain ⟨n, rfl⟩ := Int.eq_ofNat_of_zero_le (by omega : 0 ≤ n)
      go_wp2_with fail
      generalize w7.setCell ⟨BX, 2, none⟩ (.int .i64 b) = w8 at X8 R8 B8 D8 z8 ⊢
      refine (l7Some_len D8 n (by omega)).mono ?_
      rintro e w9 ⟨v, rfl, xs, hxl, hxw, O9, D9, b9⟩; subst hxl
      clear x0 x1 x2 x3 x4 p0 p1 p2 p3 p4 fz fx
      have R9 := R8.kept (b9.block _ (by omega) (by omega))
      have X9 := X8.kept (b9.block _ (by omega) (by omega))
      have B9 := B8.trans b9
      have z9 := b9.size
      clear R8 X8 B8 D8 b9
      obtain ⟨a9, c9, hv9, _⟩ := O9.shape
      subst hv9
      have o9 := own_ints O9
      obtain ⟨x0, x1, x2, x3, x4⟩ := X9.cells5
      obtain ⟨p0, p1, p2, p3, p4⟩ := R9.cells5
      have fz := R9.frozen
      have fx := X9.frozen
      have t5 : But BX (BX + 1) w9 (w9.setCell ⟨BX, 4, none⟩ (.slice a9 xs.length c9)) := But.setCell (by omega) (by omega) _
      have t6 := set5_but (w9.setCell ⟨BX, 4, none⟩ (.slice a9 xs.length c9)) RB (.int .i64 2) (.int .i64 (1 + y)) (.int .i64 b) (.int .i64 0) (.slice a9 xs.length c9)
      have s5 := t5.size
      have s6 := t6.size
      have FB := hidden ((B9.thenBelow (t5.below (B := w.heap.size) (by omega) (by omega))).thenBelow (t6.below (B := w.heap.size) (by omega) (by omega)))
      have FD := hidden ((D9.lower (t5.below (B := w.heap.size) (by omega) (by omega)) hg).lower (t6.below (B := w.heap.size) (by omega) (by omega)) hg)
      have FO := hidden (((o9.but t5 (.inr (by omega))).but t6 (.inr (by omega))).widen (lo' := w.heap.size) (hi' := (set5 (w9.setCell ⟨BX, 4, none⟩ (.slice a9 xs.length c9)) RB (.int .i64 2) (.int .i64 (1 + y)) (.int .i64 b) (.int .i64 0) (.slice a9 xs.length c9)).heap.size) (by omega) (by omega))
      have FC := hidden (draw_code (d := 1 + y) (b := b) (k := 0) (zs := xs) hgeo (by omega) hd ((size2 (.inl rfl)).trans (by rw [hxw, inB_iff.2 (by omega)]; rfl)) hb0 (by rw [len2 (.inl rfl)]; omega))
      have hx6 : xs.length ≤ 6 := by omega
      have FP := hidden (draw_put (o := 2) (d := 1 + y) (b := b) (k := 0) (zs := xs) (by omega) hd (by omega) (by omega) hx6 hxw)
      unfold set5 at FB FD FO
      have hne : ¬ BX = RB := by omega
      have hne' : ¬ RB = BX := by omega
      clear t5 t6 s5 s6 o9 O9 B9 D9 X9 R9
      go_wp2
      refine bodyPost_ret (v := .agg #[.int .i64 2, .int .i64 (1 + y), .int .i64 b, .int .i64 0, .slice a9 xs.length c9]) (by simp [results, Try.results43, go_sem, p0, p1, p2, p3, p4]) rfl ?_
      exact ⟨_, _, _, _, _, _, xs, rfl, FC.out, FP.out, hx6, FO.out, FD.out, FB.out⟩
    · obtain ⟨n, hn⟩ : ∃ n : Int, n = 1 + m := ⟨_, rfl⟩
      have hn1 : 1 ≤ n ∧ n ≤ 4 ∧ n ≤ blocksN gn gs := by omega
      go_wp2_with fail
      simp only [← hn]
      clear hn hgt hm0 hm1
      refine (specBlocks_any _ _ _).mono ?_
      rintro e w6 ⟨rfl, b6⟩
      clear g0 g1
      have G6 := G5.below b6 (by omega)
      have R6 := R5.below b6 (by omega)
      have X6 := X5.below b6 (by omega)
      have D6 := D5.lower b6 (by omega)
      have B6 := B5.thenBelow (b6.mono B5.size)
      have z6 := b6.size
      clear G5 R5 X5 B5 D5 b6
      go_wp2_with fail
      refine (dBelow D6 _ (by omega) (by omega)).mono ?_
      rintro e w7 ⟨b, rfl, hb0, hb1, D7, b7⟩
      have hb : 0 ≤ b ∧ b + n ≤ blocksN gn gs := by omega
      clear hb1
      have G7 := G6.kept (b7.block _ (by omega) (by omega))
      have R7 := R6.kept (b7.block _ (by omega) (by omega))
      have X7 := X6.kept (b7.block _ (by omega) (by omega))
      have B7 := B6.trans b7
      have z7 := b7.size
      clear G6 R6 X6 B6 D6 b7
      obtain ⟨x0, x1, x2, x3, x4⟩ := X7.cells5
      obtain ⟨p0, p1, p2, p3, p4⟩ := R7.cells5
      have fz := R7.frozen
      have fx := X7.frozen
      have X8 := X7.set 2 (.int .i64 b)
      have t8 : But BX (BX + 1) w7 (w7.setCell ⟨BX, 2, none⟩ (.int .i64 b)) := But.setCell (by omega) (by omega) _
      have R8 := R7.kept (t8.block _ (by omega) (by omega))
      have B8 := B7.thenBelow (t8.below (B := w.heap.size) (by omega) (by omega))
      have D8 := D7.lower (t8.below (B := w.heap.size) (by omega) (by omega)) hg
      have z8 := t8.size
      clear X7 R7 B7 D7 G7 t8
      obtain ⟨n, rfl⟩ := Int.eq_ofNat_of_zero_le (by omega : 0 ≤ n)
      go_wp2_with fail
      generalize w7.setCell ⟨BX, 2, none⟩ (.int .i64 b) = w8 at X8 R8 B8 D8 z8 ⊢
      refine (l7Some_len D8 n (by omega)).mono ?_
      rintro e w9 ⟨v, rfl, xs, hxl, hxw, O9, D9, b9⟩; subst hxl
      clear x0 x1 x2 x3 x4 p0 p1 p2 p3 p4 fz fx
      have R9 := R8.kept (b9.block _ (by omega) (by omega))
      have X9 := X8.kept (b9.block _ (by omega) (by omega))
      have B9 := B8.trans b9
      have z9 := b9.size
      clear R8 X8 B8 D8 b9
      obtain ⟨a9, c9, hv9, _⟩ := O9.shape
      subst hv9
      have o9 := own_ints O9
      obtain ⟨x0, x1, x2, x3, x4⟩ := X9.cells5
      obtain ⟨p0, p1, p2, p3, p4⟩ := R9.cells5
      have fz := R9.frozen
      have fx := X9.frozen
      have t5 : But BX (BX + 1) w9 (w9.setCell ⟨BX, 4, none⟩ (.slice a9 xs.length c9)) := But.setCell (by omega) (by omega) _
      have t6 := set5_but (w9.setCell ⟨BX, 4, none⟩ (.slice a9 xs.length c9)) RB (.int .i64 2) (.int .i64 (1 + y)) (.int .i64 b) (.int .i64 0) (.slice a9 xs.length c9)
      have s5 := t5.size
      have s6 := t6.size
      have FB := hidden ((B9.thenBelow (t5.below (B := w.heap.size) (by omega) (by omega))).thenBelow (t6.below (B := w.heap.size) (by omega) (by omega)))
      have FD := hidden ((D9.lower (t5.below (B := w.heap.size) (by omega) (by omega)) hg).lower (t6.below (B := w.heap.size) (by omega) (by omega)) hg)
      have FO := hidden (((o9.but t5 (.inr (by omega))).but t6 (.inr (by omega))).widen (lo' := w.heap.size) (hi' := (set5 (w9.setCell ⟨BX, 4, none⟩ (.slice a9 xs.length c9)) RB (.int .i64 2) (.int .i64 (1 + y)) (.int .i64 b) (.int .i64 0) (.slice a9 xs.length c9)).heap.size) (by omega) (by omega))
      have FC := hidden (draw_code (d := 1 + y) (b := b) (k := 0) (zs := xs) hgeo (by omega) hd ((size2 (.inl rfl)).trans (by rw [hxw, inB_iff.2 (by omega)]; rfl)) hb0 (by rw [len2 (.inl rfl)]; omega))
      have hx6 : xs.length ≤ 6 := by omega
      have FP := hidden (draw_put (o := 2) (d := 1 + y) (b := b) (k := 0) (zs := xs) (by omega) hd (by omega) (by omega) hx6 hxw)
      unfold set5 at FB FD FO
      have hne : ¬ BX = RB := by omega
      have hne' : ¬ RB = BX := by omega
      clear t5 t6 s5 s6 o9 O9 B9 D9 X9 R9
      go_wp2
      refine bodyPost_ret (v := .agg #[.int .i64 2, .int .i64 (1 + y), .int .i64 b, .int .i64 0, .slice a9 xs.length c9]) (by simp [results, Try.results43, go_sem, p0, p1, p2, p3, p4]) rfl ?_
      exact ⟨_, _, _, _, _, _, xs, rfl, FC.out, FP.out, hx6, FO.out, FD.out, FB.out⟩
  · skip
    obtain ⟨x0, x1, x2, x3, x4⟩ := X3.cells5
    obtain ⟨p0, p1, p2, p3, p4⟩ := R3.cells5
    have fz := R3.frozen
    go_wp2_with fail
    generalize w2.alloc (.cells #[.int .i64 3, .int .i64 (1 + y), .int .i64 0, .int .i64 0, .slice none 0 0] 28) = w3 at X3 G3 R3 D3 B3 z3 x0 x1 x2 x3 x4 p0 p1 p2 p3 p4 fz ⊢
    generalize w2.heap.size = BX at X3 z3 z2 x0 x1 x2 x3 x4 ⊢
    refine (dBelow D3 4 (by omega) (by omega)).mono ?_
    rintro e w4 ⟨m, rfl, hm0, hm1, D4, b4⟩
    clear x0 x1 x2 x3 x4 p0 p1 p2 p3 p4 fz
    have G4 := G3.kept (b4.block _ (by omega) (by omega))
    have R4 := R3.kept (b4.block _ (by omega) (by omega))
    have X4 := X3.kept (b4.block _ (by omega) (by omega))
    have B4 := B3.trans b4
    have z4 := b4.size
    clear G3 R3 X3 B3 D3 b4
    obtain ⟨g0, g1⟩ := G4.cells2
    go_wp2_with fail
    refine (specBlocks_any _ _ _).mono ?_
    rintro e w5 ⟨rfl, b5⟩
    clear g0 g1
    have G5 := G4.below b5 (by omega)
    have R5 := R4.below b5 (by omega)
    have X5 := X4.below b5 (by omega)
    have D5 := D4.lower b5 (by omega)
    have B5 := B4.thenBelow (b5.mono B4.size)
    have z5 := b5.size
    clear G4 R4 X4 B4 D4 b5
    obtain ⟨g0, g1⟩ := G5.cells2
    by_cases hgt : blocksN gn gs < 1 + m
    · obtain ⟨n, hn⟩ : ∃ n : Int, n = 1 := ⟨_, rfl⟩
      have hn1 : 1 ≤ n ∧ n ≤ 4 ∧ n ≤ blocksN gn gs := by omega
      go_wp2_with fail
      simp only [← hn]
      clear hn hgt hm0 hm1
      refine (specBlocks_any _ _ _).mono ?_
      rintro e w6 ⟨rfl, b6⟩
      clear g0 g1
      have G6 := G5.below b6 (by omega)
      have R6 := R5.below b6 (by omega)
      have X6 := X5.below b6 (by omega)
      have D6 := D5.lower b6 (by omega)
      have B6 := B5.thenBelow (b6.mono B5.size)
      have z6 := b6.size
      clear G5 R5 X5 B5 D5 b6
      go_wp2_with fail
      refine (dBelow D6 _ (by omega) (by omega)).mono ?_
      rintro e w7 ⟨b, rfl, hb0, hb1, D7, b7⟩
      have hb : 0 ≤ b ∧ b + n ≤ blocksN gn gs := by omega
      clear hb1
      have G7 := G6.kept (b7.block _ (by omega) (by omega))
      have R7 := R6.kept (b7.block _ (by omega) (by omega))
      have X7 := X6.kept (b7.block _ (by omega) (by omega))
      have B7 := B6.trans b7
      have z7 := b7.size
      clear G6 R6 X6 B6 D6 b7
      obtain ⟨x0, x1, x2, x3, x4⟩ := X7.cells5
      obtain ⟨p0, p1, p2, p3, p4⟩ := R7.cells5
      have fz := R7.frozen
      have fx := X7.frozen
      have X8 := X7.set 2 (.int .i64 b)
      have t8 : But BX (BX + 1) w7 (w7.setCell ⟨BX, 2, none⟩ (.int .i64 b)) := But.setCell (by omega) (by omega) _
      have R8 := R7.kept (t8.block _ (by omega) (by omega))
      have B8 := B7.thenBelow (t8.below (B := w.heap.size) (by omega) (by omega))
      have D8 := D7.lower (t8.below (B := w.heap.size) (by omega) (by omega)) hg
      have z8 := t8.size
      clear X7 R7 B7 D7 G7 t8
      obtain ⟨n, rfl⟩ := Int.eq_ofNat_of_zero_le (by omega : 0 ≤ n)
      go_wp2_with fail
      generalize w7.setCell ⟨BX, 2, none⟩ (.int .i64 b) = w8 at X8 R8 B8 D8 z8 ⊢
      refine (l7Some_len D8 n (by omega)).mono ?_
      rintro e w9 ⟨v, rfl, xs, hxl, hxw, O9, D9, b9⟩; subst hxl
      clear x0 x1 x2 x3 x4 p0 p1 p2 p3 p4 fz fx
      have R9 := R8.kept (b9.block _ (by omega) (by omega))
      have X9 := X8.kept (b9.block _ (by omega) (by omega))
      have B9 := B8.trans b9
      have z9 := b9.size
      clear R8 X8 B8 D8 b9
      obtain ⟨a9, c9, hv9, _⟩ := O9.shape
      subst hv9
      have o9 := own_ints O9
      obtain ⟨x0, x1, x2, x3, x4⟩ := X9.cells5
      obtain ⟨p0, p1, p2, p3, p4⟩ := R9.cells5
      have fz := R9.frozen
      have fx := X9.frozen
      have t5 : But BX (BX + 1) w9 (w9.setCell ⟨BX, 4, none⟩ (.slice a9 xs.length c9)) := But.setCell (by omega) (by omega) _
      have t6 := set5_but (w9.setCell ⟨BX, 4, none⟩ (.slice a9 xs.length c9)) RB (.int .i64 3) (.int .i64 (1 + y)) (.int .i64 b) (.int .i64 0) (.slice a9 xs.length c9)
      have s5 := t5.size
      have s6 := t6.size
      have FB := hidden ((B9.thenBelow (t5.below (B := w.heap.size) (by omega) (by omega))).thenBelow (t6.below (B := w.heap.size) (by omega) (by omega)))
      have FD := hidden ((D9.lower (t5.below (B := w.heap.size) (by omega) (by omega)) hg).lower (t6.below (B := w.heap.size) (by omega) (by omega)) hg)
      have FO := hidden (((o9.but t5 (.inr (by omega))).but t6 (.inr (by omega))).widen (lo' := w.heap.size) (hi' := (set5 (w9.setCell ⟨BX, 4, none⟩ (.slice a9 xs.length c9)) RB (.int .i64 3) (.int .i64 (1 + y)) (.int .i64 b) (.int .i64 0) (.slice a9 xs.length c9)).heap.size) (by omega) (by omega))
      have FC := hidden (draw_code (d := 1 + y) (b := b) (k := 0) (zs := xs) hgeo (by omega) hd ((size2 (.inr rfl)).trans (by rw [hxw, inB_iff.2 (by omega)]; rfl)) hb0 (by rw [len2 (.inr rfl)]; omega))
      have hx6 : xs.length ≤ 6 := by omega
      have FP := hidden (draw_put (o := 3) (d := 1 + y) (b := b) (k := 0) (zs := xs) (by omega) hd (by omega) (by omega) hx6 hxw)
      unfold set5 at FB FD FO
      have hne : ¬ BX = RB := by omega
      have hne' : ¬ RB = BX := by omega
      clear t5 t6 s5 s6 o9 O9 B9 D9 X9 R9
      go_wp2
      refine bodyPost_ret (v := .agg #[.int .i64 3, .int .i64 (1 + y), .int .i64 b, .int .i64 0, .slice a9 xs.length c9]) (by simp [results, Try.results43, go_sem, p0, p1, p2, p3, p4]) rfl ?_
      exact ⟨_, _, _, _, _, _, xs, rfl, FC.out, FP.out, hx6, FO.out, FD.out, FB.out⟩
    · obtain ⟨n, hn⟩ : ∃ n : Int, n = 1 + m := ⟨_, rfl⟩
      have hn1 : 1 ≤ n ∧ n ≤ 4 ∧ n ≤ blocksN gn gs := by omega
      go_wp2_with fail
      simp only [← hn]
      clear hn hgt hm0 hm1
      refine (specBlocks_any _ _ _).mono ?_
      rintro e w6 ⟨rfl, b6⟩
      clear g0 g1
      have G6 := G5.below b6 (by omega)
      have R6 := R5.below b6 (by omega)
      have X6 := X5.below b6 (by omega)
      have D6 := D5.lower b6 (by omega)
      have B6 := B5.thenBelow (b6.mono B5.size)
      have z6 := b6.size
      clear G5 R5 X5 B5 D5 b6
      go_wp2_with fail
      refine (dBelow D6 _ (by omega) (by omega)).mono ?_
      rintro e w7 ⟨b, rfl, hb0, hb1, D7, b7⟩
      have hb : 0 ≤ b ∧ b + n ≤ blocksN gn gs := by omega
      clear hb1
      have G7 := G6.kept (b7.block _ (by omega) (by omega))
      have R7 := R6.kept (b7.block _ (by omega) (by omega))
      have X7 := X6.kept (b7.block _ (by omega) (by omega))
      have B7 := B6.trans b7
      have z7 := b7.size
      clear G6 R6 X6 B6 D6 b7
      obtain ⟨x0, x1, x2, x3, x4⟩ := X7.cells5
      obtain ⟨p0, p1, p2, p3, p4⟩ := R7.cells5
      have fz := R7.frozen
      have fx := X7.frozen
      have X8 := X7.set 2 (.int .i64 b)
      have t8 : But BX (BX + 1) w7 (w7.setCell ⟨BX, 2, none⟩ (.int .i64 b)) := But.setCell (by omega) (by omega) _
      have R8 := R7.kept (t8.block _ (by omega) (by omega))
      have B8 := B7.thenBelow (t8.below (B := w.heap.size) (by omega) (by omega))
      have D8 := D7.lower (t8.below (B := w.heap.size) (by omega) (by omega)) hg
      have z8 := t8.size
      clear X7 R7 B7 D7 G7 t8
      obtain ⟨n, rfl⟩ := Int.eq_ofNat_of_zero_le (by omega : 0 ≤ n)
      go_wp2_with fail
      generalize w7.setCell ⟨BX, 2, none⟩ (.int .i64 b) = w8 at X8 R8 B8 D8 z8 ⊢
      refine (l7Some_len D8 n (by omega)).mono ?_
      rintro e w9 ⟨v, rfl, xs, hxl, hxw, O9, D9, b9⟩; subst hxl
      clear x0 x1 x2 x3 x4 p0 p1 p2 p3 p4 fz fx
      have R9 := R8.kept (b9.block _ (by omega) (by omega))
      have X9 := X8.kept (b9.block _ (by omega) (by omega))
      have B9 := B8.trans b9
      have z9 := b9.size
      clear R8 X8 B8 D8 b9
      obtain ⟨a9, c9, hv9, _⟩ := O9.shape
      subst hv9
      have o9 := own_ints O9
      obtain ⟨x0, x1, x2, x3, x4⟩ := X9.cells5
      obtain ⟨p0, p1, p2, p3, p4⟩ := R9.cells5
      have fz := R9.frozen
      have fx := X9.frozen
      have t5 : But BX (BX + 1) w9 (w9.setCell ⟨BX, 4, none⟩ (.slice a9 xs.length c9)) := But.setCell (by omega) (by omega) _
      have t6 := set5_but (w9.setCell ⟨BX, 4, none⟩ (.slice a9 xs.length c9)) RB (.int .i64 3) (.int .i64 (1 + y)) (.int .i64 b) (.int .i64 0) (.slice a9 xs.length c9)
      have s5 := t5.size
      have s6 := t6.size
      have FB := hidden ((B9.thenBelow (t5.below (B := w.heap.size) (by omega) (by omega))).thenBelow (t6.below (B := w.heap.size) (by omega) (by omega)))
      have FD := hidden ((D9.lower (t5.below (B := w.heap.size) (by omega) (by omega)) hg).lower (t6.below (B := w.heap.size) (by omega) (by omega)) hg)
      have FO := hidden (((o9.but t5 (.inr (by omega))).but t6 (.inr (by omega))).widen (lo' := w.heap.size) (hi' := (set5 (w9.setCell ⟨BX, 4, none⟩ (.slice a9 xs.length c9)) RB (.int .i64 3) (.int .i64 (1 + y)) (.int .i64 b) (.int .i64 0) (.slice a9 xs.length c9)).heap.size) (by omega) (by omega))
      have FC := hidden (draw_code (d := 1 + y) (b := b) (k := 0) (zs := xs) hgeo (by omega) hd ((size2 (.inr rfl)).trans (by rw [hxw, inB_iff.2 (by omega)]; rfl)) hb0 (by rw [len2 (.inr rfl)]; omega))
      have hx6 : xs.length ≤ 6 := by omega
      have FP := hidden (draw_put (o := 3) (d := 1 + y) (b := b) (k := 0) (zs := xs) (by omega) hd (by omega) (by omega) hx6 hxw)
      unfold set5 at FB FD FO
      have hne : ¬ BX = RB := by omega
      have hne' : ¬ RB = BX := by omega
      clear t5 t6 s5 s6 o9 O9 B9 D9 X9 R9
      go_wp2
      refine bodyPost_ret (v := .agg #[.int .i64 3, .int .i64 (1 + y), .int .i64 b, .int .i64 0, .slice a9 xs.length c9]) (by simp [results, Try.results43, go_sem, p0, p1, p2, p3, p4]) rfl ?_
      exact ⟨_, _, _, _, _, _, xs, rfl, FC.out, FP.out, hx6, FO.out, FD.out, FB.out⟩
  · skip
    obtain ⟨x0, x1, x2, x3, x4⟩ := X3.cells5
    obtain ⟨p0, p1, p2, p3, p4⟩ := R3.cells5
    have fz := R3.frozen
    have BW := B3
    have DW := D3
    have t6 := set5_but (w2.alloc (.cells #[.int .i64 4, .int .i64 (1 + y), .int .i64 0, .int .i64 0, .slice none 0 0] 28)) RB (.int .i64 4) (.int .i64 (1 + y)) (.int .i64 0) (.int .i64 0) (.slice none 0 0)
    have zW : w.heap.size ≤ (w2.alloc (.cells #[.int .i64 4, .int .i64 (1 + y), .int .i64 0, .int .i64 0, .slice none 0 0] 28)).heap.size := by omega
    have FB := hidden (BW.thenBelow (t6.below (B := w.heap.size) (by omega) zW))
    have FD := hidden (DW.lower (t6.below (B := w.heap.size) (by omega) zW) hg)
    have FC := hidden (draw_flush (d := 1 + y) hgeo hd)
    have FP := hidden (draw_put (o := 4) (b := 0) (k := 0) (zs := []) (by omega) hd (by omega) (by omega) (by simp) rfl)
    unfold set5 at FB FD
    clear t6 zW BW DW
    go_wp2
    refine bodyPost_ret (v := .agg #[.int .i64 4, .int .i64 (1 + y), .int .i64 0, .int .i64 0, .slice none 0 0]) (by simp [results, Try.results43, go_sem, p0, p1, p2, p3, p4]) rfl ?_
    exact ⟨_, _, _, _, _, _, [], rfl, FC.out, FP.out, by simp, nil_own _ _ _, FD.out, FB.out⟩
  · skip
    obtain ⟨x0, x1, x2, x3, x4⟩ := X3.cells5
    obtain ⟨p0, p1, p2, p3, p4⟩ := R3.cells5
    have fz := R3.frozen
    go_wp2_with fail
    generalize w2.alloc (.cells #[.int .i64 5, .int .i64 (1 + y), .int .i64 0, .int .i64 0, .slice none 0 0] 28) = w3 at X3 G3 R3 D3 B3 z3 x0 x1 x2 x3 x4 p0 p1 p2 p3 p4 fz ⊢
    generalize w2.heap.size = BX at X3 z3 z2 x0 x1 x2 x3 x4 ⊢
    refine (dBelow D3 4 (by omega) (by omega)).mono ?_
    rintro e w4 ⟨m, rfl, hm0, hm1, D4, b4⟩
    clear x0 x1 x2 x3 x4 p0 p1 p2 p3 p4 fz
    have G4 := G3.kept (b4.block _ (by omega) (by omega))
    have R4 := R3.kept (b4.block _ (by omega) (by omega))
    have X4 := X3.kept (b4.block _ (by omega) (by omega))
    have B4 := B3.trans b4
    have z4 := b4.size
    clear G3 R3 X3 B3 D3 b4
    obtain ⟨g0, g1⟩ := G4.cells2
    go_wp2_with fail
    refine (specBlocks_any _ _ _).mono ?_
    rintro e w5 ⟨rfl, b5⟩
    clear g0 g1
    have G5 := G4.below b5 (by omega)
    have R5 := R4.below b5 (by omega)
    have X5 := X4.below b5 (by omega)
    have D5 := D4.lower b5 (by omega)
    have B5 := B4.thenBelow (b5.mono B4.size)
    have z5 := b5.size
    clear G4 R4 X4 B4 D4 b5
    obtain ⟨g0, g1⟩ := G5.cells2
    by_cases hgt : blocksN gn gs < 1 + m
    · obtain ⟨n, hn⟩ : ∃ n : Int, n = 1 := ⟨_, rfl⟩
      have hn1 : 1 ≤ n ∧ n ≤ 4 ∧ n ≤ blocksN gn gs := by omega
      go_wp2_with fail
      simp only [← hn]
      clear hn hgt hm0 hm1
      refine (specBlocks_any _ _ _).mono ?_
      rintro e w6 ⟨rfl, b6⟩
      clear g0 g1
      have G6 := G5.below b6 (by omega)
      have R6 := R5.below b6 (by omega)
      have X6 := X5.below b6 (by omega)
      have D6 := D5.lower b6 (by omega)
      have B6 := B5.thenBelow (b6.mono B5.size)
      have z6 := b6.size
      clear G5 R5 X5 B5 D5 b6
      go_wp2_with fail
      refine (dBelow D6 _ (by omega) (by omega)).mono ?_
      rintro e w7 ⟨b, rfl, hb0, hb1, D7, b7⟩
      have hb : 0 ≤ b ∧ b + n ≤ blocksN gn gs := by omega
      clear hb1
      have G7 := G6.kept (b7.block _ (by omega) (by omega))
      have R7 := R6.kept (b7.block _ (by omega) (by omega))
      have X7 := X6.kept (b7.block _ (by omega) (by omega))
      have B7 := B6.trans b7
      have z7 := b7.size
      clear G6 R6 X6 B6 D6 b7
      obtain ⟨x0, x1, x2, x3, x4⟩ := X7.cells5
      obtain ⟨p0, p1, p2, p3, p4⟩ := R7.cells5
      have fz := R7.frozen
      have fx := X7.frozen
      have X8 := (X7.set 2 (.int .i64 b)).alloc (.cells #[.int .i64 0, .int .i64 0, .int .i64 1, .int .i64 2] 3)
      have t8 : But BX (BX + 1) w7 ((w7.setCell ⟨BX, 2, none⟩ (.int .i64 b)).alloc (.cells #[.int .i64 0, .int .i64 0, .int .i64 1, .int .i64 2] 3)) := (But.setCell (by omega) (by omega) _).alloc _
      have R8 := R7.kept (t8.block _ (by omega) (by omega))
      have B8 := B7.thenBelow (t8.below (B := w.heap.size) (by omega) (by omega))
      have D8 := D7.lower (t8.below (B := w.heap.size) (by omega) (by omega)) hg
      have HR8 : Reads .i64 ((w7.setCell ⟨BX, 2, none⟩ (.int .i64 b)).alloc (.cells #[.int .i64 0, .int .i64 0, .int .i64 1, .int .i64 2] 3)) (some ⟨w7.heap.size, 0, none⟩) [0, 0, 1, 2] := by
        have := Reads.new .i64 (w7.setCell ⟨BX, 2, none⟩ (.int .i64 b)) 3 [0, 0, 1, 2] _ rfl
        rw [World.size_setCell] at this
        exact this
      have z8 : w7.heap.size < ((w7.setCell ⟨BX, 2, none⟩ (.int .i64 b)).alloc (.cells #[.int .i64 0, .int .i64 0, .int .i64 1, .int .i64 2] 3)).heap.size := by simp
      clear X7 R7 B7 D7 G7 t8
      go_wp2_with fail
      generalize ((w7.setCell ⟨BX, 2, none⟩ (.int .i64 b)).alloc (.cells #[.int .i64 0, .int .i64 0, .int .i64 1, .int .i64 2] 3)) = w8 at X8 R8 B8 D8 HR8 z8 ⊢
      refine (dInt D8 _ 4 _ [0, 0, 1, 2] rfl HR8 (fun q hq => by simp at hq; subst hq; show g + 1 ≤ w7.heap.size; omega) (by omega) (by omega)).mono ?_
      rintro e w9 ⟨u, rfl, hu, D9, b9⟩
      clear x0 x1 x2 x3 x4 p0 p1 p2 p3 p4 fz fx HR8
      have hu' : u = 0 ∨ u = 1 ∨ u = 2 := by simp at hu; omega
      clear hu
      have R9 := R8.kept (b9.block _ (by omega) (by omega))
      have X9 := X8.kept (b9.block _ (by omega) (by omega))
      have B9 := B8.trans b9
      have z9 := b9.size
      clear R8 X8 B8 D8 b9
      have HR10 : Reads .i64 (w9.alloc (.cells #[.int .i64 0, .int .i64 1, .int .i64 2, .int .i64 7] 3)) (some ⟨w9.heap.size, 0, none⟩) [0, 1, 2, 7] := Reads.new .i64 w9 3 [0, 1, 2, 7] _ rfl
      have X10 := X9.alloc (.cells #[.int .i64 0, .int .i64 1, .int .i64 2, .int .i64 7] 3)
      have R10 := R9.alloc (.cells #[.int .i64 0, .int .i64 1, .int .i64 2, .int .i64 7] 3)
      have B10 := B9.alloc (.cells #[.int .i64 0, .int .i64 1, .int .i64 2, .int .i64 7] 3)
      have D10 := D9.alloc (.cells #[.int .i64 0, .int .i64 1, .int .i64 2, .int .i64 7] 3)
      have z10 : w9.heap.size < (w9.alloc (.cells #[.int .i64 0, .int .i64 1, .int .i64 2, .int .i64 7] 3)).heap.size := by simp
      clear X9 R9 B9 D9
      go_wp2_with fail
      generalize (w9.alloc (.cells #[.int .i64 0, .int .i64 1, .int .i64 2, .int .i64 7] 3)) = w10 at X10 R10 B10 D10 HR10 z10 ⊢
      refine (dInt D10 _ 4 _ [0, 1, 2, 7] rfl HR10 (fun q hq => by simp at hq; subst hq; show g + 1 ≤ w9.heap.size; omega) (by omega) (by omega)).mono ?_
      rintro e w11 ⟨v, rfl, hv, D11, b11⟩
      have hv' : v = 0 ∨ v = 1 ∨ v = 2 ∨ v = 7 := by simp at hv; omega
      clear hv HR10
      have R11 := R10.kept (b11.block _ (by omega) (by omega))
      have X11 := X10.kept (b11.block _ (by omega) (by omega))
      have B11 := B10.trans b11
      have z11 := b11.size
      clear R10 X10 B10 D10 b11
      have hO := (own_ints (Owns.lit .i64 3 w11 [u, v] 2 #[.int .i64 u, .int .i64 v] rfl rfl (by unfold maxLen; omega)))
      have X12 := X11.alloc (.cells #[.int .i64 u, .int .i64 v] 3)
      have R12 := R11.alloc (.cells #[.int .i64 u, .int .i64 v] 3)
      have B12 := B11.alloc (.cells #[.int .i64 u, .int .i64 v] 3)
      have D12 := D11.alloc (.cells #[.int .i64 u, .int .i64 v] 3)
      have z12 : (w11.alloc (.cells #[.int .i64 u, .int .i64 v] 3)).heap.size = w11.heap.size + 1 := by simp
      clear X11 R11 B11 D11
      obtain ⟨x0, x1, x2, x3, x4⟩ := X12.cells5
      obtain ⟨p0, p1, p2, p3, p4⟩ := R12.cells5
      have fz := R12.frozen
      have fx := X12.frozen
      have t5 : But BX (BX + 1) (w11.alloc (.cells #[.int .i64 u, .int .i64 v] 3)) ((w11.alloc (.cells #[.int .i64 u, .int .i64 v] 3)).setCell ⟨BX, 4, none⟩ (.slice (some ⟨w11.heap.size, 0, none⟩) 2 2)) := But.setCell (by omega) (by omega) _
      have t6 := set5_but ((w11.alloc (.cells #[.int .i64 u, .int .i64 v] 3)).setCell ⟨BX, 4, none⟩ (.slice (some ⟨w11.heap.size, 0, none⟩) 2 2)) RB (.int .i64 5) (.int .i64 (1 + y)) (.int .i64 b) (.int .i64 0) (.slice (some ⟨w11.heap.size, 0, none⟩) 2 2)
      have s5 := t5.size
      have s6 := t6.size
      have FB := hidden ((B12.thenBelow (t5.below (B := w.heap.size) (by omega) (by omega))).thenBelow (t6.below (B := w.heap.size) (by omega) (by omega)))
      have FD := hidden ((D12.lower (t5.below (B := w.heap.size) (by omega) (by omega)) hg).lower (t6.below (B := w.heap.size) (by omega) (by omega)) hg)
      have FO := hidden (((hO.but t5 (.inr (by omega))).but t6 (.inr (by omega))).widen (lo' := w.heap.size) (hi' := (set5 ((w11.alloc (.cells #[.int .i64 u, .int .i64 v] 3)).setCell ⟨BX, 4, none⟩ (.slice (some ⟨w11.heap.size, 0, none⟩) 2 2)) RB (.int .i64 5) (.int .i64 (1 + y)) (.int .i64 b) (.int .i64 0) (.slice (some ⟨w11.heap.size, 0, none⟩) 2 2)).heap.size) (by omega) (by omega))
      have FC := hidden (draw_code (d := 1 + y) (b := b) (k := 0) (zs := [u, v]) hgeo (by omega) hd (size5.trans (by rw [two_words hu' hv']; rfl)) hb0 (by rw [len5]; omega))
      have FP := hidden (draw_put (o := 5) (d := 1 + y) (b := b) (k := 0) (zs := [u, v]) (by omega) hd (by omega) (by omega) (by simp) (two_words hu' hv'))
      unfold set5 at FB FD FO
      have hne : ¬ BX = RB := by omega
      have hne' : ¬ RB = BX := by omega
      clear t5 t6 s5 s6 hO B12 D12 X12 R12
      go_wp2
      refine bodyPost_ret (v := .agg #[.int .i64 5, .int .i64 (1 + y), .int .i64 b, .int .i64 0, .slice (some ⟨w11.heap.size, 0, none⟩) 2 2]) (by simp [results, Try.results43, go_sem, p0, p1, p2, p3, p4]) rfl ?_
      exact ⟨_, _, _, _, _, _, [u, v], rfl, FC.out, FP.out, by simp, FO.out, FD.out, FB.out⟩
    · obtain ⟨n, hn⟩ : ∃ n : Int, n = 1 + m := ⟨_, rfl⟩
      have hn1 : 1 ≤ n ∧ n ≤ 4 ∧ n ≤ blocksN gn gs := by omega
      go_wp2_with fail
      simp only [← hn]
      clear hn hgt hm0 hm1
      refine (specBlocks_any _ _ _).mono ?_
      rintro e w6 ⟨rfl, b6⟩
      clear g0 g1
      have G6 := G5.below b6 (by omega)
      have R6 := R5.below b6 (by omega)
      have X6 := X5.below b6 (by omega)
      have D6 := D5.lower b6 (by omega)
      have B6 := B5.thenBelow (b6.mono B5.size)
      have z6 := b6.size
      clear G5 R5 X5 B5 D5 b6
      go_wp2_with fail
      refine (dBelow D6 _ (by omega) (by omega)).mono ?_
      rintro e w7 ⟨b, rfl, hb0, hb1, D7, b7⟩
      have hb : 0 ≤ b ∧ b + n ≤ blocksN gn gs := by omega
      clear hb1
      have G7 := G6.kept (b7.block _ (by omega) (by omega))
      have R7 := R6.kept (b7.block _ (by omega) (by omega))
      have X7 := X6.kept (b7.block _ (by omega) (by omega))
      have B7 := B6.trans b7
      have z7 := b7.size
      clear G6 R6 X6 B6 D6 b7
      obtain ⟨x0, x1, x2, x3, x4⟩ := X7.cells5
      obtain ⟨p0, p1, p2, p3, p4⟩ := R7.cells5
      have fz := R7.frozen
      have fx := X7.frozen
      have X8 := (X7.set 2 (.int .i64 b)).alloc (.cells #[.int .i64 0, .int .i64 0, .int .i64 1, .int .i64 2] 3)
      have t8 : But BX (BX + 1) w7 ((w7.setCell ⟨BX, 2, none⟩ (.int .i64 b)).alloc (.cells #[.int .i64 0, .int .i64 0, .int .i64 1, .int .i64 2] 3)) := (But.setCell (by omega) (by omega) _).alloc _
      have R8 := R7.kept (t8.block _ (by omega) (by omega))
      have B8 := B7.thenBelow (t8.below (B := w.heap.size) (by omega) (by omega))
      have D8 := D7.lower (t8.below (B := w.heap.size) (by omega) (by omega)) hg
      have HR8 : Reads .i64 ((w7.setCell ⟨BX, 2, none⟩ (.int .i64 b)).alloc (.cells #[.int .i64 0, .int .i64 0, .int .i64 1, .int .i64 2] 3)) (some ⟨w7.heap.size, 0, none⟩) [0, 0, 1, 2] := by
        have := Reads.new .i64 (w7.setCell ⟨BX, 2, none⟩ (.int .i64 b)) 3 [0, 0, 1, 2] _ rfl
        rw [World.size_setCell] at this
        exact this
      have z8 : w7.heap.size < ((w7.setCell ⟨BX, 2, none⟩ (.int .i64 b)).alloc (.cells #[.int .i64 0, .int .i64 0, .int .i64 1, .int .i64 2] 3)).heap.size := by simp
      clear X7 R7 B7 D7 G7 t8
      go_wp2_with fail
      generalize ((w7.setCell ⟨BX, 2, none⟩ (.int .i64 b)).alloc (.cells #[.int .i64 0, .int .i64 0, .int .i64 1, .int .i64 2] 3)) = w8 at X8 R8 B8 D8 HR8 z8 ⊢
      refine (dInt D8 _ 4 _ [0, 0, 1, 2] rfl HR8 (fun q hq => by simp at hq; subst hq; show g + 1 ≤ w7.heap.size; omega) (by omega) (by omega)).mono ?_
      rintro e w9 ⟨u, rfl, hu, D9, b9⟩
      clear x0 x1 x2 x3 x4 p0 p1 p2 p3 p4 fz fx HR8
      have hu' : u = 0 ∨ u = 1 ∨ u = 2 := by simp at hu; omega
      clear hu
      have R9 := R8.kept (b9.block _ (by omega) (by omega))
      have X9 := X8.kept (b9.block _ (by omega) (by omega))
      have B9 := B8.trans b9
      have z9 := b9.size
      clear R8 X8 B8 D8 b9
      have HR10 : Reads .i64 (w9.alloc (.cells #[.int .i64 0, .int .i64 1, .int .i64 2, .int .i64 7] 3)) (some ⟨w9.heap.size, 0, none⟩) [0, 1, 2, 7] := Reads.new .i64 w9 3 [0, 1, 2, 7] _ rfl
      have X10 := X9.alloc (.cells #[.int .i64 0, .int .i64 1, .int .i64 2, .int .i64 7] 3)
      have R10 := R9.alloc (.cells #[.int .i64 0, .int .i64 1, .int .i64 2, .int .i64 7] 3)
      have B10 := B9.alloc (.cells #[.int .i64 0, .int .i64 1, .int .i64 2, .int .i64 7] 3)
      have D10 := D9.alloc (.cells #[.int .i64 0, .int .i64 1, .int .i64 2, .int .i64 7] 3)
      have z10 : w9.heap.size < (w9.alloc (.cells #[.int .i64 0, .int .i64 1, .int .i64 2, .int .i64 7] 3)).heap.size := by simp
      clear X9 R9 B9 D9
      go_wp2_with fail
      generalize (w9.alloc (.cells #[.int .i64 0, .int .i64 1, .int .i64 2, .int .i64 7] 3)) = w10 at X10 R10 B10 D10 HR10 z10 ⊢
      refine (dInt D10 _ 4 _ [0, 1, 2, 7] rfl HR10 (fun q hq => by simp at hq; subst hq; show g + 1 ≤ w9.heap.size; omega) (by omega) (by omega)).mono ?_
      rintro e w11 ⟨v, rfl, hv, D11, b11⟩
      have hv' : v = 0 ∨ v = 1 ∨ v = 2 ∨ v = 7 := by simp at hv; omega
      clear hv HR10
      have R11 := R10.kept (b11.block _ (by omega) (by omega))
      have X11 := X10.kept (b11.block _ (by omega) (by omega))
      have B11 := B10.trans b11
      have z11 := b11.size
      clear R10 X10 B10 D10 b11
      have hO := (own_ints (Owns.lit .i64 3 w11 [u, v] 2 #[.int .i64 u, .int .i64 v] rfl rfl (by unfold maxLen; omega)))
      have X12 := X11.alloc (.cells #[.int .i64 u, .int .i64 v] 3)
      have R12 := R11.alloc (.cells #[.int .i64 u, .int .i64 v] 3)
      have B12 := B11.alloc (.cells #[.int .i64 u, .int .i64 v] 3)
      have D12 := D11.alloc (.cells #[.int .i64 u, .int .i64 v] 3)
      have z12 : (w11.alloc (.cells #[.int .i64 u, .int .i64 v] 3)).heap.size = w11.heap.size + 1 := by simp
      clear X11 R11 B11 D11
      obtain ⟨x0, x1, x2, x3, x4⟩ := X12.cells5
      obtain ⟨p0, p1, p2, p3, p4⟩ := R12.cells5
      have fz := R12.frozen
      have fx := X12.frozen
      have t5 : But BX (BX + 1) (w11.alloc (.cells #[.int .i64 u, .int .i64 v] 3)) ((w11.alloc (.cells #[.int .i64 u, .int .i64 v] 3)).setCell ⟨BX, 4, none⟩ (.slice (some ⟨w11.heap.size, 0, none⟩) 2 2)) := But.setCell (by omega) (by omega) _
      have t6 := set5_but ((w11.alloc (.cells #[.int .i64 u, .int .i64 v] 3)).setCell ⟨BX, 4, none⟩ (.slice (some ⟨w11.heap.size, 0, none⟩) 2 2)) RB (.int .i64 5) (.int .i64 (1 + y)) (.int .i64 b) (.int .i64 0) (.slice (some ⟨w11.heap.size, 0, none⟩) 2 2)
      have s5 := t5.size
      have s6 := t6.size
      have FB := hidden ((B12.thenBelow (t5.below (B := w.heap.size) (by omega) (by omega))).thenBelow (t6.below (B := w.heap.size) (by omega) (by omega)))
      have FD := hidden ((D12.lower (t5.below (B := w.heap.size) (by omega) (by omega)) hg).lower (t6.below (B := w.heap.size) (by omega) (by omega)) hg)
      have FO := hidden (((hO.but t5 (.inr (by omega))).but t6 (.inr (by omega))).widen (lo' := w.heap.size) (hi' := (set5 ((w11.alloc (.cells #[.int .i64 u, .int .i64 v] 3)).setCell ⟨BX, 4, none⟩ (.slice (some ⟨w11.heap.size, 0, none⟩) 2 2)) RB (.int .i64 5) (.int .i64 (1 + y)) (.int .i64 b) (.int .i64 0) (.slice (some ⟨w11.heap.size, 0, none⟩) 2 2)).heap.size) (by omega) (by omega))
      have FC := hidden (draw_code (d := 1 + y) (b := b) (k := 0) (zs := [u, v]) hgeo (by omega) hd (size5.trans (by rw [two_words hu' hv']; rfl)) hb0 (by rw [len5]; omega))
      have FP := hidden (draw_put (o := 5) (d := 1 + y) (b := b) (k := 0) (zs := [u, v]) (by omega) hd (by omega) (by omega) (by simp) (two_words hu' hv'))
      unfold set5 at FB FD FO
      have hne : ¬ BX = RB := by omega
      have hne' : ¬ RB = BX := by omega
      clear t5 t6 s5 s6 hO B12 D12 X12 R12
      go_wp2
      refine bodyPost_ret (v := .agg #[.int .i64 5, .int .i64 (1 + y), .int .i64 b, .int .i64 0, .slice (some ⟨w11.heap.size, 0, none⟩) 2 2]) (by simp [results, Try.results43, go_sem, p0, p1, p2, p3, p4]) rfl ?_
      exact ⟨_, _, _, _, _, _, [u, v], rfl, FC.out, FP.out, by simp, FO.out, FD.out, FB.out⟩
  · skip
    obtain ⟨x0, x1, x2, x3, x4⟩ := X3.cells5
    obtain ⟨p0, p1, p2, p3, p4⟩ := R3.cells5
    have fz := R3.frozen
    go_wp2_with fail
    generalize w2.alloc (.cells #[.int .i64 6, .int .i64 (1 + y), .int .i64 0, .int .i64 0, .slice none 0 0] 28) = w3 at X3 G3 R3 D3 B3 z3 x0 x1 x2 x3 x4 p0 p1 p2 p3 p4 fz ⊢
    generalize w2.heap.size = BX at X3 z3 z2 x0 x1 x2 x3 x4 ⊢
    refine (dBelow D3 4 (by omega) (by omega)).mono ?_
    rintro e w4 ⟨m, rfl, hm0, hm1, D4, b4⟩
    clear x0 x1 x2 x3 x4 p0 p1 p2 p3 p4 fz
    have G4 := G3.kept (b4.block _ (by omega) (by omega))
    have R4 := R3.kept (b4.block _ (by omega) (by omega))
    have X4 := X3.kept (b4.block _ (by omega) (by omega))
    have B4 := B3.trans b4
    have z4 := b4.size
    clear G3 R3 X3 B3 D3 b4
    obtain ⟨g0, g1⟩ := G4.cells2
    go_wp2_with fail
    refine (specBlocks_any _ _ _).mono ?_
    rintro e w5 ⟨rfl, b5⟩
    clear g0 g1
    have G5 := G4.below b5 (by omega)
    have R5 := R4.below b5 (by omega)
    have X5 := X4.below b5 (by omega)
    have D5 := D4.lower b5 (by omega)
    have B5 := B4.thenBelow (b5.mono B4.size)
    have z5 := b5.size
    clear G4 R4 X4 B4 D4 b5
    obtain ⟨g0, g1⟩ := G5.cells2
    by_cases hgt : blocksN gn gs < 1 + m
    · obtain ⟨n, hn⟩ : ∃ n : Int, n = 1 := ⟨_, rfl⟩
      have hn1 : 1 ≤ n ∧ n ≤ 4 ∧ n ≤ blocksN gn gs := by omega
      go_wp2_with fail
      simp only [← hn]
      clear hn hgt hm0 hm1
      refine (specBlocks_any _ _ _).mono ?_
      rintro e w6 ⟨rfl, b6⟩
      clear g0 g1
      have G6 := G5.below b6 (by omega)
      have R6 := R5.below b6 (by omega)
      have X6 := X5.below b6 (by omega)
      have D6 := D5.lower b6 (by omega)
      have B6 := B5.thenBelow (b6.mono B5.size)
      have z6 := b6.size
      clear G5 R5 X5 B5 D5 b6
      go_wp2_with fail
      refine (dBelow D6 _ (by omega) (by omega)).mono ?_
      rintro e w7 ⟨b, rfl, hb0, hb1, D7, b7⟩
      have hb : 0 ≤ b ∧ b + n ≤ blocksN gn gs := by omega
      clear hb1
      have G7 := G6.kept (b7.block _ (by omega) (by omega))
      have R7 := R6.kept (b7.block _ (by omega) (by omega))
      have X7 := X6.kept (b7.block _ (by omega) (by omega))
      have B7 := B6.trans b7
      have z7 := b7.size
      clear G6 R6 X6 B6 D6 b7
      obtain ⟨x0, x1, x2, x3, x4⟩ := X7.cells5
      obtain ⟨p0, p1, p2, p3, p4⟩ := R7.cells5
      have fz := R7.frozen
      have fx := X7.frozen
      have t5 : But BX (BX + 1) w7 ((w7.setCell ⟨BX, 2, none⟩ (.int .i64 b)).setCell ⟨BX, 3, none⟩ (.int .i64 n)) := (But.setCell (by omega) (by omega) _).trans (But.setCell (by omega) (by omega) _)
      have BW := B7.thenBelow (t5.below (B := w.heap.size) (by omega) (by omega))
      have DW := D7.lower (t5.below (B := w.heap.size) (by omega) (by omega)) hg
      clear t5 B7 D7
      have hne : ¬ BX = RB := by omega
      have hne' : ¬ RB = BX := by omega
      have hs : sizeC 6 n [] = true := (size1 (.inr rfl)).trans (by rw [inB_iff]; omega)
      have t6 := set5_but ((w7.setCell ⟨BX, 2, none⟩ (.int .i64 b)).setCell ⟨BX, 3, none⟩ (.int .i64 n)) RB (.int .i64 6) (.int .i64 (1 + y)) (.int .i64 b) (.int .i64 n) (.slice none 0 0)
      have zW : ((w7.setCell ⟨BX, 2, none⟩ (.int .i64 b)).setCell ⟨BX, 3, none⟩ (.int .i64 n)).heap.size = w7.heap.size := by simp
      have FB := hidden ((BW.thenBelow (t6.below (B := w.heap.size) (by omega) (by omega))))
      have FD := hidden ((DW.lower (t6.below (B := w.heap.size) (by omega) (by omega)) hg))
      have FC := hidden (draw_code (d := 1 + y) hgeo (by omega) hd hs hb0 (by rw [len1 (.inr rfl)]; omega))
      have FP := hidden (draw_put (o := 6) (d := 1 + y) (b := b) (k := n) (zs := []) (by omega) hd (by omega) (by omega) (by simp) rfl)
      unfold set5 at FB FD
      clear t6 zW BW DW
      go_wp2
      refine bodyPost_ret (v := .agg #[.int .i64 6, .int .i64 (1 + y), .int .i64 b, .int .i64 n, .slice none 0 0]) (by simp [results, Try.results43, go_sem, p0, p1, p2, p3, p4]) rfl ?_
      exact ⟨_, _, _, _, _, _, [], rfl, FC.out, FP.out, by simp, nil_own _ _ _, FD.out, FB.out⟩
    · obtain ⟨n, hn⟩ : ∃ n : Int, n = 1 + m := ⟨_, rfl⟩
      have hn1 : 1 ≤ n ∧ n ≤ 4 ∧ n ≤ blocksN gn gs := by omega
      go_wp2_with fail
      simp only [← hn]
      clear hn hgt hm0 hm1
      refine (specBlocks_any _ _ _).mono ?_
      rintro e w6 ⟨rfl, b6⟩
      clear g0 g1
      have G6 := G5.below b6 (by omega)
      have R6 := R5.below b6 (by omega)
      have X6 := X5.below b6 (by omega)
      have D6 := D5.lower b6 (by omega)
      have B6 := B5.thenBelow (b6.mono B5.size)
      have z6 := b6.size
      clear G5 R5 X5 B5 D5 b6
      go_wp2_with fail
      refine (dBelow D6 _ (by omega) (by omega)).mono ?_
      rintro e w7 ⟨b, rfl, hb0, hb1, D7, b7⟩
      have hb : 0 ≤ b ∧ b + n ≤ blocksN gn gs := by omega
      clear hb1
      have G7 := G6.kept (b7.block _ (by omega) (by omega))
      have R7 := R6.kept (b7.block _ (by omega) (by omega))
      have X7 := X6.kept (b7.block _ (by omega) (by omega))
      have B7 := B6.trans b7
      have z7 := b7.size
      clear G6 R6 X6 B6 D6 b7
      obtain ⟨x0, x1, x2, x3, x4⟩ := X7.cells5
      obtain ⟨p0, p1, p2, p3, p4⟩ := R7.cells5
      have fz := R7.frozen
      have fx := X7.frozen
      have t5 : But BX (BX + 1) w7 ((w7.setCell ⟨BX, 2, none⟩ (.int .i64 b)).setCell ⟨BX, 3, none⟩ (.int .i64 n)) := (But.setCell (by omega) (by omega) _).trans (But.setCell (by omega) (by omega) _)
      have BW := B7.thenBelow (t5.below (B := w.heap.size) (by omega) (by omega))
      have DW := D7.lower (t5.below (B := w.heap.size) (by omega) (by omega)) hg
      clear t5 B7 D7
      have hne : ¬ BX = RB := by omega
      have hne' : ¬ RB = BX := by omega
      have hs : sizeC 6 n [] = true := (size1 (.inr rfl)).trans (by rw [inB_iff]; omega)
      have t6 := set5_but ((w7.setCell ⟨BX, 2, none⟩ (.int .i64 b)).setCell ⟨BX, 3, none⟩ (.int .i64 n)) RB (.int .i64 6) (.int .i64 (1 + y)) (.int .i64 b) (.int .i64 n) (.slice none 0 0)
      have zW : ((w7.setCell ⟨BX, 2, none⟩ (.int .i64 b)).setCell ⟨BX, 3, none⟩ (.int .i64 n)).heap.size = w7.heap.size := by simp
      have FB := hidden ((BW.thenBelow (t6.below (B := w.heap.size) (by omega) (by omega))))
      have FD := hidden ((DW.lower (t6.below (B := w.heap.size) (by omega) (by omega)) hg))
      have FC := hidden (draw_code (d := 1 + y) hgeo (by omega) hd hs hb0 (by rw [len1 (.inr rfl)]; omega))
      have FP := hidden (draw_put (o := 6) (d := 1 + y) (b := b) (k := n) (zs := []) (by omega) hd (by omega) (by omega) (by simp) rfl)
      unfold set5 at FB FD
      clear t6 zW BW DW
      go_wp2
      refine bodyPost_ret (v := .agg #[.int .i64 6, .int .i64 (1 + y), .int .i64 b, .int .i64 n, .slice none 0 0]) (by simp [results, Try.results43, go_sem, p0, p1, p2, p3, p4]) rfl ?_
      exact ⟨_, _, _, _, _, _, [], rfl, FC.out, FP.out, by simp, nil_own _ _ _, FD.out, FB.out⟩

theorem l13Draw_any {w : World} {g lb cb : Nat} {a : Option Addr} {zs : List Int} (h : Draws w g a lb cb zs) {gn gs : Int} (hgeo : geoB gn gs = true) :
    Calls Try.prog 43 #[.pointer (some ⟨g, 0, none⟩), .agg #[.int .i64 gn, .int .i64 gs]] w fun e w' => ∃ (o d b k : Int) (a' : Option Addr) (c' : Nat) (ds : List Int), e = .returned (.agg #[.int .i64 o, .int .i64 d, .int .i64 b, .int .i64 k, .slice a' ds.length c']) ∧ codeC gn gs o d b k ds = 0 ∧ ds.length ≤ 6 ∧ tIntS.Own w' w.heap.size w'.heap.size [.slice a' ds.length c'] ds ∧ Draws w' g a lb cb zs ∧ But g (g + 1) w w' := by
  refine (l13Draw_put h hgeo).mono ?_
  rintro e w' ⟨o, d, b, k, a', c', ds, he, h1, _, h2⟩
  exact ⟨o, d, b, k, a', c', ds, he, h1, h2⟩


end Go.Proofs.Ytbkkjfgjlapadaa

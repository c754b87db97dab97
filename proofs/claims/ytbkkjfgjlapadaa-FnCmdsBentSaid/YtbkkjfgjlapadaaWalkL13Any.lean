/-
  The draw of a command, right or bent (l13Any), over any Geo: it has at most seven words. Condition: at most 2097152 bytes to draw from.
-/
import Derived.Test.YtbkkjfgjlapadaaWalkL13Draw
import Derived.Test.YtbkkjfgjlapadaaWalkDrawGeo
import Derived.Test.YtbkkjfgjlapadaaOrder
import Derived.Deep.Cut
import Derived.Deep.DeepCutAuto
namespace Go.Proofs.Ytbkkjfgjlapadaa
open Go.RowKit

theorem But.ofDrew13 {lo hi : Nat} {w w' : World} (h : But lo hi w.drew w') : But lo hi w w' := ⟨h.os, h.tape, h.output, h.size, h.block⟩

/-- What is there behind the first 'if'. -/
def If13 (w : World) (N g BX RB : Nat) (a : Option Addr) (lb cb : Nat) (zs : List Int) (wx : World) : Prop :=
  ∃ (o d b k : Int) (av : Option Addr) (cv : Nat) (ds : List Int), Box wx BX 28 #[.int .i64 o, .int .i64 d, .int .i64 b, .int .i64 k, .slice av ds.length cv] ∧ Box wx RB 28 #[.int .i64 0, .int .i64 0, .int .i64 0, .int .i64 0, .slice none 0 0] ∧ ds.length ≤ 6 ∧ tIntS.Own wx (BX + 1) wx.heap.size [.slice av ds.length cv] ds ∧ Draws wx g a lb cb zs ∧ But g (g + 1) w wx ∧ N ≤ wx.heap.size

set_option maxRecDepth 20000 in
set_option maxHeartbeats 12000000 in
theorem l13Any_any {w : World} {g lb cb : Nat} {a : Option Addr} {zs : List Int} (h : Draws w g a lb cb zs) (gn gs : Int) :
    Calls Try.prog 23 #[.pointer (some ⟨g, 0, none⟩), .agg #[.int .i64 gn, .int .i64 gs]] w fun e w' => ∃ (o d b k : Int) (a' : Option Addr) (c' : Nat) (ds : List Int), e = .returned (.agg #[.int .i64 o, .int .i64 d, .int .i64 b, .int .i64 k, .slice a' ds.length c']) ∧ ds.length ≤ 7 ∧ tIntS.Own w' w.heap.size w'.heap.size [.slice a' ds.length c'] ds ∧ Draws w' g a lb cb zs ∧ But g (g + 1) w w' := by
  have hg := h.lt
  obtain ⟨i3, hi3, hz30, hz31, hz32⟩ := info_parts Try.info3
  have D0 := ((h.alloc (.cells #[.int .i64 gn, .int .i64 gs] 25)).alloc (.cells #[.int .i64 0, .int .i64 0, .int .i64 0, .int .i64 0, .slice none 0 0] 28)).alloc (.cells #[.int .i64 1, .int .i64 1, .int .i64 0, .int .i64 1, .slice none 0 0] 28)
  have G0 := ((Box.new w 25 #[.int .i64 gn, .int .i64 gs]).alloc (.cells #[.int .i64 0, .int .i64 0, .int .i64 0, .int .i64 0, .slice none 0 0] 28)).alloc (.cells #[.int .i64 1, .int .i64 1, .int .i64 0, .int .i64 1, .slice none 0 0] 28)
  have R0 : Box (((w.alloc (.cells #[.int .i64 gn, .int .i64 gs] 25)).alloc (.cells #[.int .i64 0, .int .i64 0, .int .i64 0, .int .i64 0, .slice none 0 0] 28)).alloc (.cells #[.int .i64 1, .int .i64 1, .int .i64 0, .int .i64 1, .slice none 0 0] 28)) (w.heap.size + 1) 28 #[.int .i64 0, .int .i64 0, .int .i64 0, .int .i64 0, .slice none 0 0] := by
    have := (Box.new (w.alloc (.cells #[.int .i64 gn, .int .i64 gs] 25)) 28 #[.int .i64 0, .int .i64 0, .int .i64 0, .int .i64 0, .slice none 0 0]).alloc (.cells #[.int .i64 1, .int .i64 1, .int .i64 0, .int .i64 1, .slice none 0 0] 28)
    rw [show (w.alloc (.cells #[.int .i64 gn, .int .i64 gs] 25)).heap.size = w.heap.size + 1 by simp] at this
    exact this
  have X0 : Box (((w.alloc (.cells #[.int .i64 gn, .int .i64 gs] 25)).alloc (.cells #[.int .i64 0, .int .i64 0, .int .i64 0, .int .i64 0, .slice none 0 0] 28)).alloc (.cells #[.int .i64 1, .int .i64 1, .int .i64 0, .int .i64 1, .slice none 0 0] 28)) (w.heap.size + 1 + 1) 28 #[.int .i64 1, .int .i64 1, .int .i64 0, .int .i64 1, .slice none 0 0] := by
    have := Box.new ((w.alloc (.cells #[.int .i64 gn, .int .i64 gs] 25)).alloc (.cells #[.int .i64 0, .int .i64 0, .int .i64 0, .int .i64 0, .slice none 0 0] 28)) 28 #[.int .i64 1, .int .i64 1, .int .i64 0, .int .i64 1, .slice none 0 0]
    rw [show ((w.alloc (.cells #[.int .i64 gn, .int .i64 gs] 25)).alloc (.cells #[.int .i64 0, .int .i64 0, .int .i64 0, .int .i64 0, .slice none 0 0] 28)).heap.size = w.heap.size + 1 + 1 by simp] at this
    exact this
  have B0 : But g (g + 1) w (((w.alloc (.cells #[.int .i64 gn, .int .i64 gs] 25)).alloc (.cells #[.int .i64 0, .int .i64 0, .int .i64 0, .int .i64 0, .slice none 0 0] 28)).alloc (.cells #[.int .i64 1, .int .i64 1, .int .i64 0, .int .i64 1, .slice none 0 0] 28)) := (((But.refl g (g + 1) w).alloc _).alloc _).alloc _
  have z0 : w.heap.size + 3 ≤ (((w.alloc (.cells #[.int .i64 gn, .int .i64 gs] 25)).alloc (.cells #[.int .i64 0, .int .i64 0, .int .i64 0, .int .i64 0, .slice none 0 0] 28)).alloc (.cells #[.int .i64 1, .int .i64 1, .int .i64 0, .int .i64 1, .slice none 0 0] 28)).heap.size := by simp
  obtain ⟨g0, g1⟩ := G0.cells2
  go_enter Try.func23, Try.ntmps23
  go_upto_region 2 with fail
  generalize (((w.alloc (.cells #[.int .i64 gn, .int .i64 gs] 25)).alloc (.cells #[.int .i64 0, .int .i64 0, .int .i64 0, .int .i64 0, .slice none 0 0] 28)).alloc (.cells #[.int .i64 1, .int .i64 1, .int .i64 0, .int .i64 1, .slice none 0 0] 28)) = W at D0 G0 R0 X0 B0 z0 g0 g1 ⊢
  generalize hRB : w.heap.size + 1 = RB at R0 X0 ⊢
  generalize hBX : RB + 1 = BX at X0 ⊢
  have hlt : w.heap.size < RB ∧ RB < BX ∧ BX < W.heap.size := by omega
  clear hRB hBX
  obtain ⟨hRB, hBX, hW⟩ := hlt
  go_upto_if 8 with (refine (specGeoOk_any _ _ _).mono ?_; rintro e w1 ⟨rfl, b1⟩)
  clear g0 g1
  have G1 := G0.below b1 (by omega)
  have R1 := R0.below b1 (by omega)
  have X1 := X0.below b1 (by omega)
  have D1 := D0.lower b1 (by omega)
  have B1 := B0.thenBelow (b1.mono B0.size)
  have z1 := b1.size
  clear G0 R0 X0 B0 D0 b1
  go_cut [] (fun wx => If13 w W.heap.size g BX RB a lb cb zs wx)
  case first =>
    cases hgeo : geoB gn gs
    · go_wp2_with fail
      go_meet
      exact ⟨1, 1, 0, 1, none, 0, [], X1, R1, by simp, nil_own _ _ _, D1, B1, z1⟩
    · skip
      obtain ⟨g0, g1⟩ := G1.cells2
      go_wp2_with fail
      refine (l13Draw_any D1 hgeo).mono ?_
      rintro e w2 ⟨o, d, b, k, av, cv, ds, rfl, _, hl6, O2, D2, b2⟩
      clear g0 g1
      have R2 := R1.kept (b2.block _ (by omega) (by omega))
      have X2 := X1.kept (b2.block _ (by omega) (by omega))
      have B2 := B1.trans b2
      have z2 := b2.size
      clear G1 R1 X1 B1 D1 b2
      have t3 := set5_but w2 BX (.int .i64 o) (.int .i64 d) (.int .i64 b) (.int .i64 k) (.slice av ds.length cv)
      have X3 := set5_box X2 (.int .i64 o) (.int .i64 d) (.int .i64 b) (.int .i64 k) (.slice av ds.length cv)
      have R3 := R2.kept (t3.block _ (by omega) (by omega))
      have B3 := B2.thenBelow (t3.below (B := w.heap.size) (by omega) (by omega))
      have D3 := D2.lower (t3.below (B := w.heap.size) (by omega) (by omega)) hg
      have O3 := O2.but t3 (.inr (by omega))
      have z3 := t3.size
      obtain ⟨x0, x1, x2, x3, x4⟩ := X2.cells5
      have fx := X2.frozen
      unfold set5 at X3 R3 B3 D3 O3 z3
      clear t3 X2 R2 B2 D2 O2
      go_wp2_with fail
      go_meet
      exact ⟨o, d, b, k, av, cv, ds, X3, R3, hl6, O3.widen (by omega) (by omega), D3, B3, by omega⟩
  case rest =>
    revert wc
    intro w3 hcut
    obtain ⟨o, d, b, k, av, cv, ds, X3, R3, hl6, O3, D3, B3, z3⟩ := hcut
    clear G1 R1 X1 B1 D1 z1
    go_wp2_with fail
    refine (dBelow D3 12 (by omega) (by omega)).mono ?_
    rintro e w4 ⟨n, rfl, hn0, hn1, D4, b4⟩
    have R4 := R3.kept (b4.block _ (by omega) (by omega))
    have X4 := X3.kept (b4.block _ (by omega) (by omega))
    have O4 := (O3.but b4 (.inr (by omega))).widen (lo' := BX + 1) (hi' := w4.heap.size) (by omega) b4.size
    have B4 := B3.trans b4
    have z4 := b4.size
    clear R3 X3 D3 O3 B3 b4 hn1
    have hzw : BX < w4.heap.size := by omega
    by_cases e0 : n = 0
    · subst e0
      clear hn0
      have HR : Reads .i64 (w4.alloc (.cells #[.int .i64 0, .int .i64 7, .int .i64 (-1), .int .i64 4] 3)) (some ⟨w4.heap.size, 0, none⟩) [0, 7, -1, 4] := Reads.new _ _ _ _ _ rfl
      have hgw := D4.lt
      go_wp2_with fail
      refine (dInt (D4.alloc (.cells #[.int .i64 0, .int .i64 7, .int .i64 (-1), .int .i64 4] 3)) _ 4 _ [0, 7, -1, 4] rfl HR (fun q hq => by simp at hq; subst hq; exact hgw) (by omega) (by omega)).mono ?_
      rintro e w5 ⟨u, rfl, _, D5, b5⟩
      have b5' : But g (g + 1) w4 w5 := ((But.refl g (g + 1) w4).alloc (.cells #[.int .i64 0, .int .i64 7, .int .i64 (-1), .int .i64 4] 3)).trans b5
      have z5 := b5'.size
      have X5 := X4.kept (b5'.block _ (by omega) (by omega))
      have R5 := R4.kept (b5'.block _ (by omega) (by omega))
      have O5 := O4.but b5' (.inr (by omega))
      have B5 := B4.trans b5'
      clear HR b5 b5' X4 R4 O4 B4 D4
      have hbt : But BX (BX + 1) w5 (w5.setCell ⟨BX, 0, none⟩ (.int .i64 u)) := But.setCell (by omega) (by omega) _
      have ze := hbt.size
      have XE := R5.kept (hbt.block _ (by omega) (by omega))
      have YE := X5.set 0 (.int .i64 u)
      have OE := O5.but hbt (.inr (by omega))
      have BE := B5.thenBelow (hbt.below (B := w.heap.size) (by omega) (by omega))
      have DE := D5.lower (hbt.below (B := w.heap.size) (by omega) (by omega)) hg
      obtain ⟨q0, q1, q2, q3, q4⟩ := X5.cells5
      have fq := X5.frozen
      clear hbt X5 R5 O5 B5 D5
      obtain ⟨p0, p1, p2, p3, p4⟩ := XE.cells5
      have fz := XE.frozen
      have fy := YE.frozen
      have hne : ¬ BX = RB := by omega
      have hne' : ¬ RB = BX := by omega
      have hbf := set5_but (w5.setCell ⟨BX, 0, none⟩ (.int .i64 u)) RB (.int .i64 u) (.int .i64 d) (.int .i64 b) (.int .i64 k) (.slice av ds.length cv)
      have zf := hbf.size
      have FO := hidden ((OE.but hbf (.inr (by omega))).widen (lo' := w.heap.size) (hi' := (set5 (w5.setCell ⟨BX, 0, none⟩ (.int .i64 u)) RB (.int .i64 u) (.int .i64 d) (.int .i64 b) (.int .i64 k) (.slice av ds.length cv)).heap.size) (by omega) (by omega))
      have FD := hidden (DE.lower (hbf.below (B := w.heap.size) (by omega) (by omega)) hg)
      have FB := hidden (BE.thenBelow (hbf.below (B := w.heap.size) (by omega) (by omega)))
      unfold set5 at FO FD FB
      clear hbf zf XE YE OE BE DE
      go_wp2
      refine bodyPost_ret (v := .agg #[.int .i64 u, .int .i64 d, .int .i64 b, .int .i64 k, .slice av ds.length cv]) (by simp [results, Try.results23, go_sem, p0, p1, p2, p3, p4]) rfl ?_
      exact ⟨_, _, _, _, _, _, ds, rfl, by omega, FO.out, FD.out, FB.out⟩
    by_cases e1 : n = 1
    · subst e1
      clear hn0 e0
      have n0 : ((1 : Int) == 0) = false := by decide
      have HR : Reads .i64 (w4.alloc (.cells #[.int .i64 0, .int .i64 999, .int .i64 1000, .int .i64 65536] 3)) (some ⟨w4.heap.size, 0, none⟩) [0, 999, 1000, 65536] := Reads.new _ _ _ _ _ rfl
      have hgw := D4.lt
      go_wp2_with fail
      refine (dInt (D4.alloc (.cells #[.int .i64 0, .int .i64 999, .int .i64 1000, .int .i64 65536] 3)) _ 4 _ [0, 999, 1000, 65536] rfl HR (fun q hq => by simp at hq; subst hq; exact hgw) (by omega) (by omega)).mono ?_
      rintro e w5 ⟨u, rfl, _, D5, b5⟩
      have b5' : But g (g + 1) w4 w5 := ((But.refl g (g + 1) w4).alloc (.cells #[.int .i64 0, .int .i64 999, .int .i64 1000, .int .i64 65536] 3)).trans b5
      have z5 := b5'.size
      have X5 := X4.kept (b5'.block _ (by omega) (by omega))
      have R5 := R4.kept (b5'.block _ (by omega) (by omega))
      have O5 := O4.but b5' (.inr (by omega))
      have B5 := B4.trans b5'
      clear HR b5 b5' X4 R4 O4 B4 D4
      have hbt : But BX (BX + 1) w5 (w5.setCell ⟨BX, 1, none⟩ (.int .i64 u)) := But.setCell (by omega) (by omega) _
      have ze := hbt.size
      have XE := R5.kept (hbt.block _ (by omega) (by omega))
      have YE := X5.set 1 (.int .i64 u)
      have OE := O5.but hbt (.inr (by omega))
      have BE := B5.thenBelow (hbt.below (B := w.heap.size) (by omega) (by omega))
      have DE := D5.lower (hbt.below (B := w.heap.size) (by omega) (by omega)) hg
      obtain ⟨q0, q1, q2, q3, q4⟩ := X5.cells5
      have fq := X5.frozen
      clear hbt X5 R5 O5 B5 D5
      obtain ⟨p0, p1, p2, p3, p4⟩ := XE.cells5
      have fz := XE.frozen
      have fy := YE.frozen
      have hne : ¬ BX = RB := by omega
      have hne' : ¬ RB = BX := by omega
      have hbf := set5_but (w5.setCell ⟨BX, 1, none⟩ (.int .i64 u)) RB (.int .i64 o) (.int .i64 u) (.int .i64 b) (.int .i64 k) (.slice av ds.length cv)
      have zf := hbf.size
      have FO := hidden ((OE.but hbf (.inr (by omega))).widen (lo' := w.heap.size) (hi' := (set5 (w5.setCell ⟨BX, 1, none⟩ (.int .i64 u)) RB (.int .i64 o) (.int .i64 u) (.int .i64 b) (.int .i64 k) (.slice av ds.length cv)).heap.size) (by omega) (by omega))
      have FD := hidden (DE.lower (hbf.below (B := w.heap.size) (by omega) (by omega)) hg)
      have FB := hidden (BE.thenBelow (hbf.below (B := w.heap.size) (by omega) (by omega)))
      unfold set5 at FO FD FB
      clear hbf zf XE YE OE BE DE
      go_wp2
      refine bodyPost_ret (v := .agg #[.int .i64 o, .int .i64 u, .int .i64 b, .int .i64 k, .slice av ds.length cv]) (by simp [results, Try.results23, go_sem, p0, p1, p2, p3, p4]) rfl ?_
      exact ⟨_, _, _, _, _, _, ds, rfl, by omega, FO.out, FD.out, FB.out⟩
    by_cases e2 : n = 2
    · subst e2
      clear hn0 e0 e1
      have n0 : ((2 : Int) == 0) = false := by decide
      have n1 : ((2 : Int) == 1) = false := by decide
      have HR : Reads .i64 (w4.alloc (.cells #[.int .i64 (-1), .int .i64 7, .int .i64 31, .int .i64 32, .int .i64 9223372036854775807] 3)) (some ⟨w4.heap.size, 0, none⟩) [-1, 7, 31, 32, 9223372036854775807] := Reads.new _ _ _ _ _ rfl
      have hgw := D4.lt
      go_wp2_with fail
      refine (dInt (D4.alloc (.cells #[.int .i64 (-1), .int .i64 7, .int .i64 31, .int .i64 32, .int .i64 9223372036854775807] 3)) _ 5 _ [-1, 7, 31, 32, 9223372036854775807] rfl HR (fun q hq => by simp at hq; subst hq; exact hgw) (by omega) (by omega)).mono ?_
      rintro e w5 ⟨u, rfl, _, D5, b5⟩
      have b5' : But g (g + 1) w4 w5 := ((But.refl g (g + 1) w4).alloc (.cells #[.int .i64 (-1), .int .i64 7, .int .i64 31, .int .i64 32, .int .i64 9223372036854775807] 3)).trans b5
      have z5 := b5'.size
      have X5 := X4.kept (b5'.block _ (by omega) (by omega))
      have R5 := R4.kept (b5'.block _ (by omega) (by omega))
      have O5 := O4.but b5' (.inr (by omega))
      have B5 := B4.trans b5'
      clear HR b5 b5' X4 R4 O4 B4 D4
      have hbt : But BX (BX + 1) w5 (w5.setCell ⟨BX, 2, none⟩ (.int .i64 u)) := But.setCell (by omega) (by omega) _
      have ze := hbt.size
      have XE := R5.kept (hbt.block _ (by omega) (by omega))
      have YE := X5.set 2 (.int .i64 u)
      have OE := O5.but hbt (.inr (by omega))
      have BE := B5.thenBelow (hbt.below (B := w.heap.size) (by omega) (by omega))
      have DE := D5.lower (hbt.below (B := w.heap.size) (by omega) (by omega)) hg
      obtain ⟨q0, q1, q2, q3, q4⟩ := X5.cells5
      have fq := X5.frozen
      clear hbt X5 R5 O5 B5 D5
      obtain ⟨p0, p1, p2, p3, p4⟩ := XE.cells5
      have fz := XE.frozen
      have fy := YE.frozen
      have hne : ¬ BX = RB := by omega
      have hne' : ¬ RB = BX := by omega
      have hbf := set5_but (w5.setCell ⟨BX, 2, none⟩ (.int .i64 u)) RB (.int .i64 o) (.int .i64 d) (.int .i64 u) (.int .i64 k) (.slice av ds.length cv)
      have zf := hbf.size
      have FO := hidden ((OE.but hbf (.inr (by omega))).widen (lo' := w.heap.size) (hi' := (set5 (w5.setCell ⟨BX, 2, none⟩ (.int .i64 u)) RB (.int .i64 o) (.int .i64 d) (.int .i64 u) (.int .i64 k) (.slice av ds.length cv)).heap.size) (by omega) (by omega))
      have FD := hidden (DE.lower (hbf.below (B := w.heap.size) (by omega) (by omega)) hg)
      have FB := hidden (BE.thenBelow (hbf.below (B := w.heap.size) (by omega) (by omega)))
      unfold set5 at FO FD FB
      clear hbf zf XE YE OE BE DE
      go_wp2
      refine bodyPost_ret (v := .agg #[.int .i64 o, .int .i64 d, .int .i64 u, .int .i64 k, .slice av ds.length cv]) (by simp [results, Try.results23, go_sem, p0, p1, p2, p3, p4]) rfl ?_
      exact ⟨_, _, _, _, _, _, ds, rfl, by omega, FO.out, FD.out, FB.out⟩
    by_cases e3 : n = 3
    · subst e3
      clear hn0 e0 e1 e2
      have n0 : ((3 : Int) == 0) = false := by decide
      have n1 : ((3 : Int) == 1) = false := by decide
      have n2 : ((3 : Int) == 2) = false := by decide
      have HR : Reads .i64 (w4.alloc (.cells #[.int .i64 0, .int .i64 6, .int .i64 7, .int .i64 (-1), .int .i64 65536] 3)) (some ⟨w4.heap.size, 0, none⟩) [0, 6, 7, -1, 65536] := Reads.new _ _ _ _ _ rfl
      have hgw := D4.lt
      go_wp2_with fail
      refine (dInt (D4.alloc (.cells #[.int .i64 0, .int .i64 6, .int .i64 7, .int .i64 (-1), .int .i64 65536] 3)) _ 5 _ [0, 6, 7, -1, 65536] rfl HR (fun q hq => by simp at hq; subst hq; exact hgw) (by omega) (by omega)).mono ?_
      rintro e w5 ⟨u, rfl, _, D5, b5⟩
      have b5' : But g (g + 1) w4 w5 := ((But.refl g (g + 1) w4).alloc (.cells #[.int .i64 0, .int .i64 6, .int .i64 7, .int .i64 (-1), .int .i64 65536] 3)).trans b5
      have z5 := b5'.size
      have X5 := X4.kept (b5'.block _ (by omega) (by omega))
      have R5 := R4.kept (b5'.block _ (by omega) (by omega))
      have O5 := O4.but b5' (.inr (by omega))
      have B5 := B4.trans b5'
      clear HR b5 b5' X4 R4 O4 B4 D4
      have hbt : But BX (BX + 1) w5 (w5.setCell ⟨BX, 3, none⟩ (.int .i64 u)) := But.setCell (by omega) (by omega) _
      have ze := hbt.size
      have XE := R5.kept (hbt.block _ (by omega) (by omega))
      have YE := X5.set 3 (.int .i64 u)
      have OE := O5.but hbt (.inr (by omega))
      have BE := B5.thenBelow (hbt.below (B := w.heap.size) (by omega) (by omega))
      have DE := D5.lower (hbt.below (B := w.heap.size) (by omega) (by omega)) hg
      obtain ⟨q0, q1, q2, q3, q4⟩ := X5.cells5
      have fq := X5.frozen
      clear hbt X5 R5 O5 B5 D5
      obtain ⟨p0, p1, p2, p3, p4⟩ := XE.cells5
      have fz := XE.frozen
      have fy := YE.frozen
      have hne : ¬ BX = RB := by omega
      have hne' : ¬ RB = BX := by omega
      have hbf := set5_but (w5.setCell ⟨BX, 3, none⟩ (.int .i64 u)) RB (.int .i64 o) (.int .i64 d) (.int .i64 b) (.int .i64 u) (.slice av ds.length cv)
      have zf := hbf.size
      have FO := hidden ((OE.but hbf (.inr (by omega))).widen (lo' := w.heap.size) (hi' := (set5 (w5.setCell ⟨BX, 3, none⟩ (.int .i64 u)) RB (.int .i64 o) (.int .i64 d) (.int .i64 b) (.int .i64 u) (.slice av ds.length cv)).heap.size) (by omega) (by omega))
      have FD := hidden (DE.lower (hbf.below (B := w.heap.size) (by omega) (by omega)) hg)
      have FB := hidden (BE.thenBelow (hbf.below (B := w.heap.size) (by omega) (by omega)))
      unfold set5 at FO FD FB
      clear hbf zf XE YE OE BE DE
      go_wp2
      refine bodyPost_ret (v := .agg #[.int .i64 o, .int .i64 d, .int .i64 b, .int .i64 u, .slice av ds.length cv]) (by simp [results, Try.results23, go_sem, p0, p1, p2, p3, p4]) rfl ?_
      exact ⟨_, _, _, _, _, _, ds, rfl, by omega, FO.out, FD.out, FB.out⟩
    by_cases e4 : n = 4
    · subst e4
      clear hn0 e0 e1 e2 e3
      have n0 : ((4 : Int) == 0) = false := by decide
      have n1 : ((4 : Int) == 1) = false := by decide
      have n2 : ((4 : Int) == 2) = false := by decide
      have n3 : ((4 : Int) == 3) = false := by decide
      have L1 : Hid (ds.length + 1 ≤ maxLen) := by unfold Hid maxLen; omega
      have L2 : Hid ((ds.length + 1) * 8 ≤ 140737488355328) := by unfold Hid; omega
      have yd : w4.drew.cell? ⟨BX, 4, none⟩ = some (.slice av ds.length cv) := X4.cell 4
      have ye : (w4.alloc (.cells #[.int .i64 (-1), .int .i64 5, .int .i64 65536] 3)).drew.cell? ⟨BX, 4, none⟩ = some (.slice av ds.length cv) := (X4.alloc (.cells #[.int .i64 (-1), .int .i64 5, .int .i64 65536] 3)).cell 4
      have HR : Hid (Reads .i64 (w4.alloc (.cells #[.int .i64 (-1), .int .i64 5, .int .i64 65536] 3)).drew (some ⟨w4.heap.size, 0, none⟩) [-1, 5, 65536]) := Reads.new _ _ _ _ _ rfl
      have HDA := hidden ((D4.alloc (.cells #[.int .i64 (-1), .int .i64 5, .int .i64 65536] 3)).drew)
      have HY := hidden X4
      have HX := hidden R4
      obtain ⟨fp, M3, hfp⟩ := O4.mine
      have HM := hidden M3
      have HB := hidden B4
      have hgw := D4.lt
      clear X4 R4 M3 D4 B4 O4
      go_wp2_with fail
      refine Upto.start (S := fun u => u.cell? ⟨BX, 4, none⟩ = some (.slice av ds.length cv)) (k := 8) (by kernel_rfl) ?_
      refine Upto.take (i := 0) (v := ?_) rfl (by kernel_rfl) (by kernel_rfl) (by kernel_rfl) (by kernel_rfl) (fun _ _ _ h => h) (Or.inl ⟨by rfl, ?_⟩) yd ?_
      rotate_left 1
      · (intro w hSw; (try dsimp only at hSw); go_split_ands; go_simp; first | done | with_reducible rfl)
      simp only [Act.put, List.setIfInBounds_toArray, List.set_cons_zero, List.set_cons_succ]
      refine Upto.take (i := 1) (v := ?_) rfl (by kernel_rfl) (by kernel_rfl) (by kernel_rfl) (by kernel_rfl) (fun _ _ _ h => h) (Or.inl ⟨by rfl, ?_⟩) yd ?_
      rotate_left 1
      · (intro w hSw; (try dsimp only at hSw); go_split_ands; go_simp; first | done | with_reducible rfl)
      simp only [Act.put, List.setIfInBounds_toArray, List.set_cons_zero, List.set_cons_succ]
      refine Upto.take (i := 2) (v := ?_) rfl (by kernel_rfl) (by kernel_rfl) (by kernel_rfl) (by kernel_rfl) (fun _ _ _ h => h) (Or.inl ⟨by rfl, ?_⟩) yd ?_
      rotate_left 1
      · (intro w hSw; (try dsimp only at hSw); go_split_ands; go_simp; first | done | with_reducible rfl)
      simp only [Act.put, List.setIfInBounds_toArray, List.set_cons_zero, List.set_cons_succ]
      refine Upto.one (i := 3) (by kernel_rfl) rfl (fun K hK => ?_)
      go_simp
      refine hK.out _ _ (fun _ => ye) ?_
      clear hK K
      refine Upto.one (i := 4) (by kernel_rfl) rfl (fun K hK => ?_)
      go_simp
      refine (dInt HDA.out _ 3 _ [-1, 5, 65536] rfl HR.out (fun q hq => by simp at hq; subst hq; exact hgw) (by omega) (by omega)).mono ?_
      rintro e w5 ⟨u, rfl, _, D5, b5⟩
      have b5' : But g (g + 1) w4 w5 := ((But.refl g (g + 1) w4).alloc (.cells #[.int .i64 (-1), .int .i64 5, .int .i64 65536] 3)).trans b5.ofDrew13
      have z5 := b5'.size
      have Y5 : Hid (Box w5 BX 28 #[.int .i64 o, .int .i64 d, .int .i64 b, .int .i64 k, .slice av ds.length cv]) := HY.out.kept (b5'.block _ (by omega) (by omega))
      have X5 : Hid (Box w5 RB 28 #[.int .i64 0, .int .i64 0, .int .i64 0, .int .i64 0, .slice none 0 0]) := HX.out.kept (b5'.block _ (by omega) (by omega))
      have M5 := hidden (HM.out.but b5' (fun b hb => by have := hfp b hb; omega))
      have HB5 := hidden (HB.out.trans b5')
      have HD5 := hidden D5
      have cc1 : w5.cell? ⟨BX, 4, none⟩ = some (.slice av ds.length cv) := Y5.out.cell 4
      have cc2 : (w5.alloc (.cells #[.int .i64 u] 3)).cell? ⟨BX, 4, none⟩ = some (.slice av ds.length cv) := (Y5.out.alloc _).cell 4
      clear b5 b5' D5 HDA HY HX HM HB HR
      go_wp2_with fail
      refine hK.out _ _ (fun _ => cc1) ?_
      clear hK K
      refine Upto.one (i := 5) (by kernel_rfl) rfl (fun K hK => ?_)
      go_simp
      refine hK.out _ _ (fun _ => cc2) ?_
      clear hK K
      refine Upto.one (i := 6) (by kernel_rfl) rfl (fun K hK => ?_)
      refine step_appT intTy (by rfl) _ _ 26 (by rfl) 3 i3 (.int .i64 0) 8 Try.underlying26 hi3 hz30 hz31 hz32 rfl Nat.zero_lt_one (.slice av ds.length cv) ds fp (by rfl) ?_ ⟨w5.heap.size, 0, none⟩ 1 [.int .i64 u] u [] (by rfl) ?_ ?_ ?_ ?_ L1.out L2.out ?_
      · exact M5.out.alloc _
      · exact ⟨⟨rfl, rfl⟩, List.nodup_nil⟩
      · intro b hb hb'
        simp at hb'
      · exact news_new _ _ _
      · intro q hq
        simp at hq
        rw [hq]
        rfl
      intro gA cap wA fpA n1' n2' n3'
      have ya : Box wA BX 28 #[.int .i64 o, .int .i64 d, .int .i64 b, .int .i64 k, .slice av ds.length cv] := (Y5.out.alloc _).turned n3' (fun hm => by have := hfp _ hm; omega)
      have xa : Box wA RB 28 #[.int .i64 0, .int .i64 0, .int .i64 0, .int .i64 0, .slice none 0 0] := (X5.out.alloc _).turned n3' (fun hm => by have := hfp _ hm; omega)
      have r9 : wA.cell? ⟨BX, 4, none⟩ = some (.slice av ds.length cv) := ya.cell 4
      have fzB := ya.frozen 4
      have zA := n3'.size
      have zA' : (w5.alloc (.cells #[.int .i64 u] 3)).heap.size = w5.heap.size + 1 := by simp
      have tA : Below (BX + 1) (w5.alloc (.cells #[.int .i64 u] 3)) wA := n3'.below (by omega) (fun b hb => by have := hfp b hb; omega)
      have YA := hidden ya
      have XA := hidden xa
      have N1 := hidden n1'
      have N2 := hidden n2'
      have BA := hidden ((HB5.out.alloc (.cells #[.int .i64 u] 3)).thenBelow (tA.mono (by omega)))
      have DA := hidden ((HD5.out.alloc (.cells #[.int .i64 u] 3)).lower tA (by omega))
      clear ya xa n1' n2' n3' tA M5 HB5 HD5 X5 Y5
      refine hK.out _ _ (fun _ => r9) ?_
      clear hK K
      simp only [Act.put, List.setIfInBounds_toArray, List.set_cons_zero, List.set_cons_succ]
      refine Upto.take (i := 7) (v := ?_) rfl (by kernel_rfl) (by kernel_rfl) (by kernel_rfl) (by kernel_rfl) (fun _ _ _ h => h) (Or.inl ⟨by rfl, ?_⟩) r9 ?_
      rotate_left 1
      · (intro w hSw; (try dsimp only at hSw); go_split_ands; go_simp; first | done | with_reducible rfl)
      simp only [Act.put, List.setIfInBounds_toArray, List.set_cons_zero, List.set_cons_succ]
      refine Upto.one (i := 8) (by kernel_rfl) rfl (fun K hK => ?_)
      go_simp
      refine hK.out _ _ (fun h => absurd rfl h) ?_
      clear hK K
      refine Upto.done (by kernel_rfl) ?_ _
      have hbt : But BX (BX + 1) wA (wA.setCell ⟨BX, 4, none⟩ (.slice (some ⟨gA, 0, none⟩) (ds.length + 1) cap)) := But.setCell (by omega) (by omega) _
      have ze := hbt.size
      have XE := XA.out.kept (hbt.block _ (by omega) (by omega))
      have YE := YA.out.set 4 (.slice (some ⟨gA, 0, none⟩) (ds.length + 1) cap)
      have BE := BA.out.thenBelow (hbt.below (B := w.heap.size) (by omega) (by omega))
      have DE := DA.out.lower (hbt.below (B := w.heap.size) (by omega) (by omega)) hg
      have hfA : ∀ b ∈ fpA, BX + 1 ≤ b := fun b hb => by
        rcases N2.out b hb with h1 | h1 | h1
        · have := hfp b h1
          omega
        · simp at h1
        · omega
      have OE := (N1.out.but hbt (fun b hb => by have := hfA b hb; omega)).own (lo := BX + 1) (hi := (wA.setCell ⟨BX, 4, none⟩ (.slice (some ⟨gA, 0, none⟩) (ds.length + 1) cap)).heap.size) (fun b hb => by have := hfA b hb; have := N1.out.lt b hb; omega)
      have el : (ds ++ [u]).length = ds.length + 1 := by simp
      clear hbt fzB r9 yd ye cc1 cc2 XA YA BA DA N1 N2 hfA
      obtain ⟨y0, y1, y2, y3, y4⟩ := YE.cells5
      obtain ⟨p0, p1, p2, p3, p4⟩ := XE.cells5
      have fz := XE.frozen
      have fy := YE.frozen
      have hne : ¬ BX = RB := by omega
      have hne' : ¬ RB = BX := by omega
      have hbf := set5_but (wA.setCell ⟨BX, 4, none⟩ (.slice (some ⟨gA, 0, none⟩) (ds.length + 1) cap)) RB (.int .i64 o) (.int .i64 d) (.int .i64 b) (.int .i64 k) (.slice (some ⟨gA, 0, none⟩) (ds.length + 1) cap)
      have zf := hbf.size
      have FO := hidden ((OE.but hbf (.inr (by omega))).widen (lo' := w.heap.size) (hi' := (set5 (wA.setCell ⟨BX, 4, none⟩ (.slice (some ⟨gA, 0, none⟩) (ds.length + 1) cap)) RB (.int .i64 o) (.int .i64 d) (.int .i64 b) (.int .i64 k) (.slice (some ⟨gA, 0, none⟩) (ds.length + 1) cap)).heap.size) (by omega) (by omega))
      have FD := hidden (DE.lower (hbf.below (B := w.heap.size) (by omega) (by omega)) hg)
      have FB := hidden (BE.thenBelow (hbf.below (B := w.heap.size) (by omega) (by omega)))
      unfold set5 at FO FD FB
      clear hbf zf XE YE OE BE DE
      go_wp2
      refine bodyPost_ret (v := .agg #[.int .i64 o, .int .i64 d, .int .i64 b, .int .i64 k, .slice (some ⟨gA, 0, none⟩) (ds.length + 1) cap]) (by simp [results, Try.results23, go_sem, p0, p1, p2, p3, p4]) rfl ?_
      refine ⟨_, _, _, _, _, _, ds ++ [u], by rw [el], by rw [el]; omega, by rw [el]; exact FO.out, FD.out, FB.out⟩
    by_cases e5 : n = 5
    · subst e5
      clear hn0 e0 e1 e2 e3 e4
      have n0 : ((5 : Int) == 0) = false := by decide
      have n1 : ((5 : Int) == 1) = false := by decide
      have n2 : ((5 : Int) == 2) = false := by decide
      have n3 : ((5 : Int) == 3) = false := by decide
      have n4 : ((5 : Int) == 4) = false := by decide
      go_wp2_with fail
      refine (dBelow D4 2 (by omega) (by omega)).mono ?_
      rintro e w5 ⟨u, rfl, hu0, hu1, D5, b5⟩
      obtain ⟨u, rfl⟩ := Int.eq_ofNat_of_zero_le hu0
      have hu : u ≤ 1 := by omega
      clear hu0 hu1
      have z5 := b5.size
      have X5 := X4.kept (b5.block _ (by omega) (by omega))
      have R5 := R4.kept (b5.block _ (by omega) (by omega))
      have B5 := B4.trans b5
      clear b5 X4 R4 O4 B4 D4
      have hb3 : i3.bytes * (6 + u) ≤ 281474976710656 := by rw [hz32]; omega
      have hm3 : 6 + u ≤ maxLen := by unfold maxLen; omega
      obtain ⟨x0, x1, x2, x3, x4⟩ := X5.cells5
      have fx := X5.frozen
      go_wp2_with (at_make; refine wpList_make_full _ rfl _ _ 26 rfl w5.heap.size 3 i3 (.int .i64 0) 1 Try.underlying26 hi3 hz30 hz31 _ _ _ _ (6 + u) rfl rfl rfl rfl hb3 hm3 (Nat.le_refl _) ?_; intro w6 hown hgrow; have b6 : Below w5.heap.size w5 w6 := (Below.refl _ _).grown hgrow (Nat.le_refl _) (by simp); have X6 := X5.below b6 (by omega); have R6 := R5.below b6 (by omega); obtain ⟨y0, y1, y2, y3, y4⟩ := X6.cells5; have fy := X6.frozen; obtain ⟨p0, p1, p2, p3, p4⟩ := R6.cells5; have fz := R6.frozen; have hne : ¬ BX = RB := (by omega); have hne2 : ¬ RB = BX := (by omega); have zz := b6.size)
      have o6 : Owns .i64 3 w6 w5.heap.size (.slice (some ⟨w5.heap.size, 0, none⟩) (6 + u) (6 + u)) (List.replicate (6 + u) (0 : Int)) := by
        rw [made_ints] at hown
        unfold Owns
        rw [List.length_replicate]
        exact hown
      have t5 : But BX (BX + 1) w6 (w6.setCell ⟨BX, 4, none⟩ (.slice (some ⟨w5.heap.size, 0, none⟩) (6 + u) (6 + u))) := But.setCell (by omega) (by omega) _
      have t6 := set5_but (w6.setCell ⟨BX, 4, none⟩ (.slice (some ⟨w5.heap.size, 0, none⟩) (6 + u) (6 + u))) RB (.int .i64 o) (.int .i64 d) (.int .i64 b) (.int .i64 k) (.slice (some ⟨w5.heap.size, 0, none⟩) (6 + u) (6 + u))
      have s5 := t5.size
      have s6 := t6.size
      have FB := hidden (((B5.thenBelow (b6.mono (by omega))).thenBelow (t5.below (B := w.heap.size) (by omega) (by omega))).thenBelow (t6.below (B := w.heap.size) (by omega) (by omega)))
      have FD := hidden (((D5.lower b6 (by omega)).lower (t5.below (B := w.heap.size) (by omega) (by omega)) hg).lower (t6.below (B := w.heap.size) (by omega) (by omega)) hg)
      have FO := hidden ((((own_ints o6).but t5 (.inr (by omega))).but t6 (.inr (by omega))).widen (lo' := w.heap.size) (hi' := (set5 (w6.setCell ⟨BX, 4, none⟩ (.slice (some ⟨w5.heap.size, 0, none⟩) (6 + u) (6 + u))) RB (.int .i64 o) (.int .i64 d) (.int .i64 b) (.int .i64 k) (.slice (some ⟨w5.heap.size, 0, none⟩) (6 + u) (6 + u))).heap.size) (by omega) (by omega))
      have el : (List.replicate (6 + u) (0 : Int)).length = 6 + u := by simp
      unfold set5 at FB FD FO
      refine bodyPost_ret (v := .agg #[.int .i64 o, .int .i64 d, .int .i64 b, .int .i64 k, .slice (some ⟨w5.heap.size, 0, none⟩) (6 + u) (6 + u)]) (by simp [results, Try.results23, go_sem, p0, p1, p2, p3, p4]) rfl ?_
      refine ⟨_, _, _, _, _, _, List.replicate (6 + u) (0 : Int), by rw [el], by rw [el]; omega, by rw [el]; exact FO.out, FD.out, FB.out⟩
    have n0 : (n == 0) = false := by simpa using e0
    have n1 : (n == 1) = false := by simpa using e1
    have n2 : (n == 2) = false := by simpa using e2
    have n3 : (n == 3) = false := by simpa using e3
    have n4 : (n == 4) = false := by simpa using e4
    have n5 : (n == 5) = false := by simpa using e5
    have YE := X4
    have XE := R4
    have OE := O4
    have BE := B4
    have DE := D4
    clear X4 R4 O4 B4 D4
    obtain ⟨y0, y1, y2, y3, y4⟩ := YE.cells5
    obtain ⟨p0, p1, p2, p3, p4⟩ := XE.cells5
    have fz := XE.frozen
    have fy := YE.frozen
    have hne : ¬ BX = RB := by omega
    have hne' : ¬ RB = BX := by omega
    have hbf := set5_but (w4) RB (.int .i64 o) (.int .i64 d) (.int .i64 b) (.int .i64 k) (.slice av ds.length cv)
    have zf := hbf.size
    have FO := hidden ((OE.but hbf (.inr (by omega))).widen (lo' := w.heap.size) (hi' := (set5 (w4) RB (.int .i64 o) (.int .i64 d) (.int .i64 b) (.int .i64 k) (.slice av ds.length cv)).heap.size) (by omega) (by omega))
    have FD := hidden (DE.lower (hbf.below (B := w.heap.size) (by omega) (by omega)) hg)
    have FB := hidden (BE.thenBelow (hbf.below (B := w.heap.size) (by omega) (by omega)))
    unfold set5 at FO FD FB
    clear hbf zf XE YE OE BE DE
    go_wp2
    refine bodyPost_ret (v := .agg #[.int .i64 o, .int .i64 d, .int .i64 b, .int .i64 k, .slice av ds.length cv]) (by simp [results, Try.results23, go_sem, p0, p1, p2, p3, p4]) rfl ?_
    exact ⟨_, _, _, _, _, _, ds, rfl, by omega, FO.out, FD.out, FB.out⟩

end Go.Proofs.Ytbkkjfgjlapadaa

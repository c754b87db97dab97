/-
  The walk of the specification's l5Any: it draws a record of at most five words. Condition: at most 2097152 bytes to draw from.
-/
import Derived.Test.YtoomkkcobgeinaaWalkL5Draw
namespace Go.Proofs.Ytoomkkcobgeinaa
open Go.RowKit

set_option maxHeartbeats 6400000 in
theorem l5Any_any {w : World} {g lb cb : Nat} {a : Option Addr} {zs : List Int} (h : Draws w g a lb cb zs) :
    Calls Try.prog 38 #[.pointer (some ⟨g, 0, none⟩)] w fun e w' => ∃ (x y : Int) (a' : Option Addr) (c' : Nat) (ds : List Int), e = .returned (.agg #[.int .i64 x, .int .i64 y, .slice a' ds.length c']) ∧ ds.length ≤ 5 ∧ Reads .i64 w' a' ds ∧ (∀ q, a' = some q → w.heap.size < q.block) ∧ But g (g + 1) w w' := by
  have hg := h.lt
  obtain ⟨i3, hi3, hz30, hz31, hz32⟩ := info_parts Try.info3
  have X0 := Box.new w 26 #[.int .i64 0, .int .i64 0, .slice none 0 0]
  have D0 := h.alloc (.cells #[.int .i64 0, .int .i64 0, .slice none 0 0] 26)
  have B0 : But g (g + 1) w (w.alloc (.cells #[.int .i64 0, .int .i64 0, .slice none 0 0] 26)) := (But.refl g (g + 1) w).alloc _
  have z0 := X0.lt
  go_enter Try.func38, Try.ntmps38
  go_wp2_with fail
  generalize w.alloc (.cells #[.int .i64 0, .int .i64 0, .slice none 0 0] 26) = W at X0 D0 B0 z0 ⊢
  refine (l5Draw_any D0).mono ?_
  rintro e w1 ⟨x, y, av, cv, ds, rfl, hrec, O1, D1, b1⟩
  obtain ⟨hrx, hry, hrn, _⟩ := recB_of.1 hrec
  have X1 := X0.kept (b1.block _ (by omega) (by omega))
  have B1 := B0.trans b1
  have z1 := b1.size
  clear X0 B0 D0 b1
  have X2 := X1.alloc (.cells #[.int .i64 x, .int .i64 y, .slice av ds.length cv] 26)
  have Y2 := Box.new w1 26 #[.int .i64 x, .int .i64 y, .slice av ds.length cv]
  have D2 := D1.alloc (.cells #[.int .i64 x, .int .i64 y, .slice av ds.length cv] 26)
  have B2 := B1.alloc (.cells #[.int .i64 x, .int .i64 y, .slice av ds.length cv] 26)
  have O2 := O1.below (new_below w1 (.cells #[.int .i64 x, .int .i64 y, .slice av ds.length cv] 26))
  have z2 := Y2.lt
  clear X1 D1 B1 O1
  go_wp2_with fail
  generalize w1.alloc (.cells #[.int .i64 x, .int .i64 y, .slice av ds.length cv] 26) = w2 at X2 Y2 D2 B2 O2 z2 ⊢
  obtain ⟨BX, hBX⟩ : ∃ BX, w1.heap.size = BX := ⟨_, rfl⟩
  rw [hBX] at Y2 O2 z1 z2 ⊢
  have hB1 : w.heap.size + 1 ≤ BX := by omega
  clear hBX
  refine (dBelow D2 10 (by omega) (by omega)).mono ?_
  rintro e w3 ⟨n, rfl, hn0, hn1, D3, b3⟩
  have X3 := X2.kept (b3.block _ (by omega) (by omega))
  have Y3 := Y2.kept (b3.block _ (by omega) (by omega))
  have O3 := (O2.but b3 (.inr (by omega))).widen (lo' := w.heap.size + 1) (hi' := BX) (by omega) (by omega)
  have B3 := B2.trans b3
  have z3 := b3.size
  have zw : w.heap.size + 1 ≤ w3.heap.size := by omega
  clear X2 Y2 D2 B2 O2 b3 hn1
  by_cases e0 : n = 0
  · subst e0
    clear hn0
    have HR : Reads .i64 (w3.alloc (.cells #[.int .i64 (-1), .int .i64 60001] 3)) (some ⟨w3.heap.size, 0, none⟩) [-1, 60001] := Reads.new _ _ _ _ _ rfl
    have hgw := D3.lt
    go_wp2_with fail
    refine (dInt (D3.alloc (.cells #[.int .i64 (-1), .int .i64 60001] 3)) _ 2 _ [-1, 60001] rfl HR (fun q hq => by simp at hq; subst hq; exact hgw) (by omega) (by omega)).mono ?_
    rintro e w4 ⟨u, rfl, _, D4, b4⟩
    have b4' : But g (g + 1) w3 w4 := ((But.refl g (g + 1) w3).alloc (.cells #[.int .i64 (-1), .int .i64 60001] 3)).trans b4
    have z4 := b4'.size
    have X4 := X3.kept (b4'.block _ (by omega) (by omega))
    have Y4 := Y3.kept (b4'.block _ (by omega) (by omega))
    have O4 := O3.but b4' (.inr (by omega))
    have B4 := B3.trans b4'
    clear HR b4 b4' X3 Y3 O3 B3 D3 D4
    have hbt : But BX (BX + 1) w4 (w4.setCell ⟨BX, 0, none⟩ (.int .i64 u)) := But.setCell (by omega) (by omega) _
    have ze := hbt.size
    have XE := X4.kept (hbt.block _ (by omega) (by omega))
    have YE := Y4.set 0 (.int .i64 u)
    have OE := O4.but hbt (.inl (by omega))
    have BE := B4.join hbt (by omega)
    obtain ⟨q0, q1, q2⟩ := Y4.cells3
    have fq := Y4.frozen
    clear hbt X4 O4 B4
    obtain ⟨y0, y1, y2⟩ := YE.cells3
    obtain ⟨p0, p1, p2⟩ := XE.cells3
    have fz := XE.frozen
    have hbf := set3_but5 ((w4.setCell ⟨BX, 0, none⟩ (.int .i64 u))) w.heap.size (.int .i64 u) (.int .i64 y) (.slice av ds.length cv)
    have FR := hidden (ints_rd (OE.but hbf (.inr (by omega))).rd).1
    have FQ := hidden (own_block OE)
    have FB := hidden (BE.join hbf (by omega))
    clear hbf XE YE OE BE
    go_wp2
    refine bodyPost_ret (v := .agg #[.int .i64 u, .int .i64 y, .slice av ds.length cv]) (by simp [results, Try.results38, go_sem, p0, p1, p2]) rfl ?_
    exact ⟨_, _, av, cv, ds, rfl, by omega, FR.out, FQ.out, FB.out⟩
  by_cases e1 : n = 1
  · subst e1
    clear hn0 e0
    have n0 : ((1 : Int) == 0) = false := by decide
    have HR : Reads .i64 (w3.alloc (.cells #[.int .i64 (-1), .int .i64 8] 3)) (some ⟨w3.heap.size, 0, none⟩) [-1, 8] := Reads.new _ _ _ _ _ rfl
    have hgw := D3.lt
    go_wp2_with fail
    refine (dInt (D3.alloc (.cells #[.int .i64 (-1), .int .i64 8] 3)) _ 2 _ [-1, 8] rfl HR (fun q hq => by simp at hq; subst hq; exact hgw) (by omega) (by omega)).mono ?_
    rintro e w4 ⟨u, rfl, _, D4, b4⟩
    have b4' : But g (g + 1) w3 w4 := ((But.refl g (g + 1) w3).alloc (.cells #[.int .i64 (-1), .int .i64 8] 3)).trans b4
    have z4 := b4'.size
    have X4 := X3.kept (b4'.block _ (by omega) (by omega))
    have Y4 := Y3.kept (b4'.block _ (by omega) (by omega))
    have O4 := O3.but b4' (.inr (by omega))
    have B4 := B3.trans b4'
    clear HR b4 b4' X3 Y3 O3 B3 D3 D4
    have hbt : But BX (BX + 1) w4 (w4.setCell ⟨BX, 1, none⟩ (.int .i64 u)) := But.setCell (by omega) (by omega) _
    have ze := hbt.size
    have XE := X4.kept (hbt.block _ (by omega) (by omega))
    have YE := Y4.set 1 (.int .i64 u)
    have OE := O4.but hbt (.inl (by omega))
    have BE := B4.join hbt (by omega)
    obtain ⟨q0, q1, q2⟩ := Y4.cells3
    have fq := Y4.frozen
    clear hbt X4 O4 B4
    obtain ⟨y0, y1, y2⟩ := YE.cells3
    obtain ⟨p0, p1, p2⟩ := XE.cells3
    have fz := XE.frozen
    have hbf := set3_but5 ((w4.setCell ⟨BX, 1, none⟩ (.int .i64 u))) w.heap.size (.int .i64 x) (.int .i64 u) (.slice av ds.length cv)
    have FR := hidden (ints_rd (OE.but hbf (.inr (by omega))).rd).1
    have FQ := hidden (own_block OE)
    have FB := hidden (BE.join hbf (by omega))
    clear hbf XE YE OE BE
    go_wp2
    refine bodyPost_ret (v := .agg #[.int .i64 x, .int .i64 u, .slice av ds.length cv]) (by simp [results, Try.results38, go_sem, p0, p1, p2]) rfl ?_
    exact ⟨_, _, av, cv, ds, rfl, by omega, FR.out, FQ.out, FB.out⟩
  by_cases e2 : n = 2
  · subst e2
    clear hn0 e0 e1
    have n0 : ((2 : Int) == 0) = false := by decide
    have n1 : ((2 : Int) == 1) = false := by decide
    have L1 : Hid (ds.length + 1 ≤ maxLen) := by unfold Hid maxLen; omega
    have L2 : Hid ((ds.length + 1) * 8 ≤ 140737488355328) := by unfold Hid; omega
    have yd : w3.drew.cell? ⟨BX, 2, none⟩ = some (.slice av ds.length cv) := Y3.cell 2
    have ye : (w3.alloc (.cells #[.int .i64 (-1), .int .i64 5, .int .i64 65536] 3)).drew.cell? ⟨BX, 2, none⟩ = some (.slice av ds.length cv) := (Y3.alloc (.cells #[.int .i64 (-1), .int .i64 5, .int .i64 65536] 3)).cell 2
    have HR : Hid (Reads .i64 (w3.alloc (.cells #[.int .i64 (-1), .int .i64 5, .int .i64 65536] 3)).drew (some ⟨w3.heap.size, 0, none⟩) [-1, 5, 65536]) := Reads.new _ _ _ _ _ rfl
    have HDA := hidden (draws5_drew (D3.alloc (.cells #[.int .i64 (-1), .int .i64 5, .int .i64 65536] 3)))
    have HY := hidden Y3
    have HX := hidden X3
    obtain ⟨fp, M3, hfp⟩ := O3.mine
    have HM := hidden M3
    have HB := hidden B3
    have hgw := D3.lt
    clear Y3 X3 M3 D3 B3 O3
    go_wp2_with fail
    refine Upto.start (S := fun u => u.cell? ⟨BX, 2, none⟩ = some (.slice av ds.length cv)) (k := 8) (by kernel_rfl) ?_
    refine Upto.take (i := 0) (v := ?_) rfl (by kernel_rfl) (by kernel_rfl) (by kernel_rfl) (by kernel_rfl) (fun _ _ _ h => h) (Or.inl ⟨by rfl, ?_⟩) yd ?_
    rotate_left 1
    · (intro w hSw; (try dsimp only at hSw); go_split_ands; go_simp; first | done | with_reducible rfl)
    simp only [Act.put, List.setIfInBounds_toArray, List.set_cons_zero, List.set_cons_succ]
    refine Upto.take (i := 1) (v := ?_) rfl (by kernel_rfl) (by kernel_rfl) (by kernel_rfl) (by kernel_rfl) (fun _ _ _ h => h) (Or.inl ⟨by rfl, ?_⟩) yd ?_
    rotate_left 1
    · (intro w hSw; (try dsimp only at hSw); go_split_ands; go_simp; first | done | with_reducible rfl)
    simp only [Act.put, List.setIfInBounds_toArray, List.set_cons_zero, List.set_cons_succ]
    refine Upto.take (i := 2) (v := ?_) rfl (by kernel_rfl) (by kernel_rfl) (by kernel_rfl) (by kernel_rfl) (fun _ _ _ h => h) (Or.inl ⟨by rfl, ?_⟩) yd ?_
    rotate_left 1
    · (intro w hSw; (try dsimp only at hSw); go_split_ands; go_simp; first | done | with_reducible rfl)
    simp only [Act.put, List.setIfInBounds_toArray, List.set_cons_zero, List.set_cons_succ]
    refine Upto.one (i := 3) (by kernel_rfl) rfl (fun K hK => ?_)
    go_simp
    refine hK.out _ _ (fun _ => ye) ?_
    clear hK K
    refine Upto.one (i := 4) (by kernel_rfl) rfl (fun K hK => ?_)
    go_simp
    refine (dInt HDA.out _ 3 _ [-1, 5, 65536] rfl HR.out (fun q hq => by simp at hq; subst hq; exact hgw) (by omega) (by omega)).mono ?_
    rintro e w5 ⟨u, rfl, _, D5, b5⟩
    have b5' : But g (g + 1) w3 w5 := ((But.refl g (g + 1) w3).alloc (.cells #[.int .i64 (-1), .int .i64 5, .int .i64 65536] 3)).trans b5.ofDrew
    have z5 := b5'.size
    have Y5 : Hid (Box w5 BX 26 #[.int .i64 x, .int .i64 y, .slice av ds.length cv]) := HY.out.kept (b5'.block _ (by omega) (by omega))
    have X5 : Hid (Box w5 w.heap.size 26 #[.int .i64 0, .int .i64 0, .slice none 0 0]) := HX.out.kept (b5'.block _ (by omega) (by omega))
    have M5 := hidden (HM.out.but b5' (fun b hb => by have := hfp b hb; omega))
    have HB5 := hidden (HB.out.trans b5')
    have cc1 : w5.cell? ⟨BX, 2, none⟩ = some (.slice av ds.length cv) := Y5.out.cell 2
    have cc2 : (w5.alloc (.cells #[.int .i64 u] 3)).cell? ⟨BX, 2, none⟩ = some (.slice av ds.length cv) := (Y5.out.alloc _).cell 2
    clear b5 b5' D5 HDA HY HX HM HB HR
    go_wp2_with fail
    refine hK.out _ _ (fun _ => cc1) ?_
    clear hK K
    refine Upto.one (i := 5) (by kernel_rfl) rfl (fun K hK => ?_)
    go_simp
    refine hK.out _ _ (fun _ => cc2) ?_
    clear hK K
    refine Upto.one (i := 6) (by kernel_rfl) rfl (fun K hK => ?_)
    refine step_appT intTy (by rfl) _ _ 24 (by rfl) 3 i3 (.int .i64 0) 8 Try.underlying24 hi3 hz30 hz31 hz32 rfl Nat.zero_lt_one (.slice av ds.length cv) ds fp (by rfl) ?_ ⟨w5.heap.size, 0, none⟩ 1 [.int .i64 u] u [] (by rfl) ?_ ?_ ?_ ?_ L1.out L2.out ?_
    · exact M5.out.alloc _
    · exact ⟨⟨rfl, rfl⟩, List.nodup_nil⟩
    · intro b hb hb'
      simp at hb'
    · exact news_new _ _ _
    · intro q hq
      simp at hq
      rw [hq]
      rfl
    intro gA cap wA fpA n1' n2' n3'
    have ya : Box wA BX 26 #[.int .i64 x, .int .i64 y, .slice av ds.length cv] := (Y5.out.alloc _).turned n3' (fun hm => by have := hfp _ hm; omega)
    have xa : Box wA w.heap.size 26 #[.int .i64 0, .int .i64 0, .slice none 0 0] := (X5.out.alloc _).turned n3' (fun hm => by have := hfp _ hm; omega)
    have r9 : wA.cell? ⟨BX, 2, none⟩ = some (.slice av ds.length cv) := ya.cell 2
    have fzB := ya.frozen 2
    have zA := n3'.size
    have zA' : (w5.alloc (.cells #[.int .i64 u] 3)).heap.size = w5.heap.size + 1 := by simp
    have tA : Below (w.heap.size + 1) (w5.alloc (.cells #[.int .i64 u] 3)) wA := n3'.below (by omega) (fun b hb => by have := hfp b hb; omega)
    have YA := hidden ya
    have XA := hidden xa
    have N1 := hidden n1'
    have N2 := hidden n2'
    have BA := hidden ((HB5.out.alloc (.cells #[.int .i64 u] 3)).thenBelow (tA.mono (by omega)))
    clear ya xa n1' n2' n3' tA M5 HB5 X5 Y5
    refine hK.out _ _ (fun _ => r9) ?_
    clear hK K
    simp only [Act.put, List.setIfInBounds_toArray, List.set_cons_zero, List.set_cons_succ]
    refine Upto.take (i := 7) (v := ?_) rfl (by kernel_rfl) (by kernel_rfl) (by kernel_rfl) (by kernel_rfl) (fun _ _ _ h => h) (Or.inl ⟨by rfl, ?_⟩) r9 ?_
    rotate_left 1
    · (intro w hSw; (try dsimp only at hSw); go_split_ands; go_simp; first | done | with_reducible rfl)
    simp only [Act.put, List.setIfInBounds_toArray, List.set_cons_zero, List.set_cons_succ]
    refine Upto.one (i := 8) (by kernel_rfl) rfl (fun K hK => ?_)
    go_simp
    refine hK.out _ _ (fun h => absurd rfl h) ?_
    clear hK K
    refine Upto.done (by kernel_rfl) ?_ _
    have hbt : But BX (BX + 1) wA (wA.setCell ⟨BX, 2, none⟩ (.slice (some ⟨gA, 0, none⟩) (ds.length + 1) cap)) := But.setCell (by omega) (by omega) _
    have ze := hbt.size
    have XE := XA.out.kept (hbt.block _ (by omega) (by omega))
    have YE := YA.out.set 2 (.slice (some ⟨gA, 0, none⟩) (ds.length + 1) cap)
    have BE := BA.out.join hbt (by omega)
    have hfA : ∀ b ∈ fpA, w.heap.size + 1 ≤ b ∧ b ≠ BX := fun b hb => by
      rcases N2.out b hb with h1 | h1 | h1
      · have := hfp b h1
        omega
      · simp at h1
      · omega
    have OE := (N1.out.but hbt (fun b hb => by have := hfA b hb; omega)).own (lo := w.heap.size + 1) (hi := (wA.setCell ⟨BX, 2, none⟩ (.slice (some ⟨gA, 0, none⟩) (ds.length + 1) cap)).heap.size) (fun b hb => by have := hfA b hb; have := N1.out.lt b hb; omega)
    have el : (ds ++ [u]).length = ds.length + 1 := by simp
    clear hbt fzB r9 yd ye cc1 cc2 XA YA BA N1 N2 hfA
    obtain ⟨y0, y1, y2⟩ := YE.cells3
    obtain ⟨p0, p1, p2⟩ := XE.cells3
    have fz := XE.frozen
    have hbf := set3_but5 ((wA.setCell ⟨BX, 2, none⟩ (.slice (some ⟨gA, 0, none⟩) (ds.length + 1) cap))) w.heap.size (.int .i64 x) (.int .i64 y) (.slice (some ⟨gA, 0, none⟩) (ds.length + 1) cap)
    have FR := hidden (ints_rd (OE.but hbf (.inr (by omega))).rd).1
    have FQ := hidden (own_block OE)
    have FB := hidden (BE.join hbf (by omega))
    clear hbf XE YE OE BE
    go_wp2
    refine bodyPost_ret (v := .agg #[.int .i64 x, .int .i64 y, .slice (some ⟨gA, 0, none⟩) (ds.length + 1) cap]) (by simp [results, Try.results38, go_sem, p0, p1, p2]) rfl ?_
    refine ⟨_, _, some ⟨gA, 0, none⟩, cap, ds ++ [u], by rw [el], by rw [el]; omega, FR.out, FQ.out, FB.out⟩
  by_cases e3 : n = 3
  · subst e3
    clear hn0 e0 e1 e2
    have n0 : ((3 : Int) == 0) = false := by decide
    have n1 : ((3 : Int) == 1) = false := by decide
    have n2 : ((3 : Int) == 2) = false := by decide
    obtain ⟨hrd, hl3, hnc, hcm⟩ := ints_rd O3.rd
    rcases hrd.cases with hx | ⟨b, off, rfl, hb, _⟩
    · omega
    obtain ⟨y0, y1, y2⟩ := Y3.cells3
    have fy := Y3.frozen
    have c1 : (1 : Int) ≤ (cv : Int) := by omega
    have c0 : ¬ cv = 0 := by omega
    have hbt : But BX (BX + 1) w3 (w3.setCell ⟨BX, 2, none⟩ (.slice (some ⟨b, off, none⟩) 1 cv)) := But.setCell (by omega) (by omega) _
    have ze := hbt.size
    have XE := X3.kept (hbt.block _ (by omega) (by omega))
    have YE := Y3.set 2 (.slice (some ⟨b, off, none⟩) 1 cv)
    have OE := O3.but hbt (.inl (by omega))
    have BE := B3.join hbt (by omega)
    obtain ⟨v0, v1, v2⟩ := YE.cells3
    obtain ⟨p0, p1, p2⟩ := XE.cells3
    have fz := XE.frozen
    have hbf := set3_but5 ((w3.setCell ⟨BX, 2, none⟩ (.slice (some ⟨b, off, none⟩) 1 cv))) w.heap.size (.int .i64 x) (.int .i64 y) (.slice (some ⟨b, off, none⟩) 1 cv)
    have FR := hidden (ints_rd (OE.but hbf (.inr (by omega))).rd).1
    have FQ := hidden (own_block OE)
    have FB := hidden (BE.join hbf (by omega))
    clear hbf XE YE OE BE
    go_wp2
    refine bodyPost_ret (v := .agg #[.int .i64 x, .int .i64 y, .slice (some ⟨b, off, none⟩) 1 cv]) (by simp [results, Try.results38, go_sem, p0, p1, p2]) rfl ?_
    exact ⟨_, _, some ⟨b, off, none⟩, cv, ds.take 1, by rw [show (ds.take 1).length = 1 by simp; omega], by simp; omega, FR.out.take 1, FQ.out, FB.out⟩
  · have n0 : (n == 0) = false := by simpa using e0
    have n1 : (n == 1) = false := by simpa using e1
    have n2 : (n == 2) = false := by simpa using e2
    have n3 : (n == 3) = false := by simpa using e3
    have YE := Y3
    have XE := X3
    have OE := O3
    have BE := B3
    obtain ⟨y0, y1, y2⟩ := YE.cells3
    obtain ⟨p0, p1, p2⟩ := XE.cells3
    have fz := XE.frozen
    have hbf := set3_but5 (w3) w.heap.size (.int .i64 x) (.int .i64 y) (.slice av ds.length cv)
    have FR := hidden (ints_rd (OE.but hbf (.inr (by omega))).rd).1
    have FQ := hidden (own_block OE)
    have FB := hidden (BE.join hbf (by omega))
    clear hbf XE YE OE BE
    go_wp2
    refine bodyPost_ret (v := .agg #[.int .i64 x, .int .i64 y, .slice av ds.length cv]) (by simp [results, Try.results38, go_sem, p0, p1, p2]) rfl ?_
    exact ⟨_, _, av, cv, ds, rfl, by omega, FR.out, FQ.out, FB.out⟩

end Go.Proofs.Ytoomkkcobgeinaa

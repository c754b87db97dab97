/-
  The walks of the specification's draws of records: l5Draw draws a record that is right, l5Any one of at most five words. Condition: at most 2097152 bytes to draw from.
-/
import Derived.Test.YtoomkkcobgeinaaWalkRec
import Derived.Test.YtoomkkcobgeinaaWalkDraw2
import Derived.Test.YtoomkkcobgeinaaWalkDraw3
import Derived.Test.YtoomkkcobgeinaaFrame
import Derived.Test.YtoomkkcobgeinaaOrder
namespace Go.Proofs.Ytoomkkcobgeinaa
open Go.RowKit

theorem draws5_drew {w : World} {g lb cb : Nat} {a : Option Addr} {zs : List Int} (h : Draws w g a lb cb zs) : Draws w.drew g a lb cb zs := h.lower (Below.refl (g + 1) w).drew (Nat.lt_succ_self _)
theorem But.ofDrew {lo hi : Nat} {w w' : World} (h : But lo hi w.drew w') : But lo hi w w' := ⟨h.os, h.tape, h.output, h.size, h.block⟩
theorem set3_but5 (w : World) (B : Nat) (v0 v1 v2 : Value) : But B (B + 1) w (((w.setCell ⟨B, 0, none⟩ v0).setCell ⟨B, 1, none⟩ v1).setCell ⟨B, 2, none⟩ v2) := ((But.setCell (by omega) (by omega) _).trans (But.setCell (by omega) (by omega) _)).trans (But.setCell (by omega) (by omega) _)
theorem own_block {w : World} {lo hi n c : Nat} {a : Option Addr} {ds : List Int} (h : tIntS.Own w lo hi [.slice a n c] ds) : ∀ q, a = some q → lo ≤ q.block := by
  obtain ⟨fp, m, r⟩ := h.mine
  intro q hq
  rcases ints_ow m.1 with ⟨hv, _, _⟩ | ⟨g1, cap1, hv, hf, _⟩
  · simp only [Value.slice.injEq] at hv
    rw [hv.1] at hq
    cases hq
  · simp only [Value.slice.injEq] at hv
    rw [hv.1] at hq
    cases hq
    exact (r g1 (by rw [hf]; simp)).1
theorem But.join {lo hi l h' : Nat} {w w1 w2 : World} (h : But lo hi w w1) (k : But l h' w1 w2) (hl : w.heap.size ≤ l) : But lo hi w w2 :=
  ⟨k.os.trans h.os, k.tape.trans h.tape, k.output.trans h.output, Nat.le_trans h.size k.size, fun i hi' ho => (k.block i (Nat.lt_of_lt_of_le hi' h.size) (.inl (by omega))).trans (h.block i hi' ho)⟩

set_option maxHeartbeats 3200000 in
theorem l5Draw_any {w : World} {g lb cb : Nat} {a : Option Addr} {zs : List Int} (h : Draws w g a lb cb zs) :
    Calls Try.prog 40 #[.pointer (some ⟨g, 0, none⟩)] w fun e w' => ∃ (x y : Int) (a' : Option Addr) (c' : Nat) (ds : List Int), e = .returned (.agg #[.int .i64 x, .int .i64 y, .slice a' ds.length c']) ∧ recB x y ds = true ∧ tIntS.Own w' w.heap.size w'.heap.size [.slice a' ds.length c'] ds ∧ Draws w' g a lb cb zs ∧ But g (g + 1) w w' := by
  have hg := h.lt
  obtain ⟨i3, hi3, hz30, hz31, hz32⟩ := info_parts Try.info3
  have HR : Reads .i64 ((w.alloc (.cells #[.int .i64 0, .int .i64 0, .slice none 0 0] 26)).alloc (.cells #[.int .i64 0, .int .i64 1, .int .i64 4, .int .i64 7, .int .i64 60000] 3)) (some ⟨w.heap.size + 1, 0, none⟩) [0, 1, 4, 7, 60000] := by
    have := Reads.new .i64 (w.alloc (.cells #[.int .i64 0, .int .i64 0, .slice none 0 0] 26)) 3 [0, 1, 4, 7, 60000] _ rfl
    rw [World.size_alloc] at this
    exact this
  have D0 := (h.alloc (.cells #[.int .i64 0, .int .i64 0, .slice none 0 0] 26)).alloc (.cells #[.int .i64 0, .int .i64 1, .int .i64 4, .int .i64 7, .int .i64 60000] 3)
  have X0 := (Box.new w 26 #[.int .i64 0, .int .i64 0, .slice none 0 0]).alloc (.cells #[.int .i64 0, .int .i64 1, .int .i64 4, .int .i64 7, .int .i64 60000] 3)
  have B0 : But g (g + 1) w ((w.alloc (.cells #[.int .i64 0, .int .i64 0, .slice none 0 0] 26)).alloc (.cells #[.int .i64 0, .int .i64 1, .int .i64 4, .int .i64 7, .int .i64 60000] 3)) := ((But.refl g (g + 1) w).alloc _).alloc _
  have z0 : w.heap.size + 2 ≤ ((w.alloc (.cells #[.int .i64 0, .int .i64 0, .slice none 0 0] 26)).alloc (.cells #[.int .i64 0, .int .i64 1, .int .i64 4, .int .i64 7, .int .i64 60000] 3)).heap.size := by simp
  go_enter Try.func40, Try.ntmps40
  go_wp2_with fail
  generalize (w.alloc (.cells #[.int .i64 0, .int .i64 0, .slice none 0 0] 26)).alloc (.cells #[.int .i64 0, .int .i64 1, .int .i64 4, .int .i64 7, .int .i64 60000] 3) = W at HR D0 X0 B0 z0 ⊢
  refine (dInt D0 _ 5 _ [0, 1, 4, 7, 60000] rfl HR (fun q hq => by simp at hq; subst hq; show g + 1 ≤ w.heap.size + 1; omega) (by omega) (by omega)).mono ?_
  rintro e w1 ⟨x, rfl, hx, D1, b1⟩
  have hx' : 0 ≤ x ∧ x ≤ 60000 := by simp at hx; omega
  have X1 := X0.kept (b1.block _ (by omega) (by omega))
  have B1 := B0.trans b1
  have z1 := b1.size
  clear X0 B0 D0 HR b1 hx
  go_wp2_with fail
  refine (dBelow D1 8 (by omega) (by omega)).mono ?_
  rintro e w2 ⟨y, rfl, hy0, hy1, D2, b2⟩
  have hy' : 0 ≤ y ∧ y ≤ 7 := by omega
  have X2 := X1.kept (b2.block _ (by omega) (by omega))
  have B2 := B1.trans b2
  have z2 := b2.size
  clear X1 B1 D1 b2 hy0 hy1
  have X3 := X2.alloc (.cells #[.int .i64 x, .int .i64 y, .slice none 0 0] 26)
  have Y3 := Box.new w2 26 #[.int .i64 x, .int .i64 y, .slice none 0 0]
  have D3 := D2.alloc (.cells #[.int .i64 x, .int .i64 y, .slice none 0 0] 26)
  have B3 := B2.alloc (.cells #[.int .i64 x, .int .i64 y, .slice none 0 0] 26)
  have z3 := Y3.lt
  clear X2 D2 B2
  go_wp2_with fail
  generalize w2.alloc (.cells #[.int .i64 x, .int .i64 y, .slice none 0 0] 26) = w3 at X3 Y3 D3 B3 z3 ⊢
  refine (dBelow D3 3 (by omega) (by omega)).mono ?_
  rintro e w4 ⟨m, rfl, hm0, hm1, D4, b4⟩
  obtain ⟨m, rfl⟩ := Int.eq_ofNat_of_zero_le hm0
  have hm : m ≤ 2 := by omega
  have X4 := X3.kept (b4.block _ (by omega) (by omega))
  have Y4 := Y3.kept (b4.block _ (by omega) (by omega))
  have B4 := B3.trans b4
  have z4 := b4.size
  clear X3 Y3 D3 B3 b4 hm0 hm1
  obtain ⟨BX, hBX⟩ : ∃ BX, w2.heap.size = BX := ⟨_, rfl⟩
  rw [hBX] at Y4 z3 ⊢
  have hB1 : w.heap.size + 2 ≤ BX := by omega
  clear hBX
  have hg1 : g < BX := by omega
  go_wp2
  go_loopw [4] (fun i wr => ∃ (j : Nat) (xs : List Int) (av : Option Addr) (cv : Nat) (fp : List Nat), xs.length + j ≤ 4 ∧ 2 ≤ xs.length + j ∧ i = .int .i64 j ∧ allW xs = true ∧ Box wr BX 26 #[.int .i64 x, .int .i64 y, .slice av xs.length cv] ∧ Box wr w.heap.size 26 #[.int .i64 0, .int .i64 0, .slice none 0 0] ∧ tIntS.Mine wr [.slice av xs.length cv] xs fp ∧ (∀ b ∈ fp, BX < b) ∧ Draws wr g a lb cb zs ∧ But g (g + 1) w wr ∧ w.heap.size + 1 ≤ wr.heap.size) (fun i _ => (intOf i).toNat)
  case atStart => exact ⟨2 + m, [], none, 0, [], by simp; omega, by simp, by go_num, rfl, Y4, X4, nil_mine _, by simp, D4, B4, by omega⟩
  case round =>
    clear X4 Y4 D4 B4
    obtain ⟨j, xs, av, cv, fp, hj4, hj2, rfl, hxs, Y, X, M, hfp, D, B, zr⟩ := hrel
    have zY := Y.lt
    by_cases hlt : 0 < j
    · have L1 : Hid (xs.length + 1 ≤ maxLen) := by unfold Hid maxLen; omega
      have L2 : Hid ((xs.length + 1) * 8 ≤ 140737488355328) := by unfold Hid; omega
      have yd : wr.drew.cell? ⟨BX, 2, none⟩ = some (.slice av xs.length cv) := Y.cell 2
      have HDA := hidden (draws5_drew D)
      have HY := hidden Y
      have HX := hidden X
      have HM := hidden M
      have HB := hidden B
      clear Y X M D B
      go_wp2_with fail
      refine Upto.start (S := fun u => u.cell? ⟨BX, 2, none⟩ = some (.slice av xs.length cv)) (k := 7) (by kernel_rfl) ?_
      refine Upto.take (i := 0) (v := ?_) rfl (by kernel_rfl) (by kernel_rfl) (by kernel_rfl) (by kernel_rfl) (fun _ _ _ h => h) (Or.inl ⟨by rfl, ?_⟩) yd ?_
      rotate_left 1
      · (intro w hSw; (try dsimp only at hSw); go_split_ands; go_simp; first | done | with_reducible rfl)
      simp only [Act.put, List.setIfInBounds_toArray, List.set_cons_zero, List.set_cons_succ]
      refine Upto.take (i := 1) (v := ?_) rfl (by kernel_rfl) (by kernel_rfl) (by kernel_rfl) (by kernel_rfl) (fun _ _ _ h => h) (Or.inl ⟨by rfl, ?_⟩) yd ?_
      rotate_left 1
      · (intro w hSw; (try dsimp only at hSw); go_split_ands; go_simp; first | done | with_reducible rfl)
      simp only [Act.put, List.setIfInBounds_toArray, List.set_cons_zero, List.set_cons_succ]
      refine Upto.take (i := 2) (v := ?_) rfl (by kernel_rfl) (by kernel_rfl) (by kernel_rfl) (by kernel_rfl) (fun _ _ _ h => h) (Or.inl ⟨by rfl, ?_⟩) yd ?_
      rotate_left 1
      · (intro w hSw; (try dsimp only at hSw); go_split_ands; go_simp; first | done | with_reducible rfl)
      simp only [Act.put, List.setIfInBounds_toArray, List.set_cons_zero, List.set_cons_succ]
      refine Upto.one (i := 3) (by kernel_rfl) rfl (fun K hK => ?_)
      go_simp
      refine (l1Draw_any HDA.out).mono ?_
      rintro e w5 ⟨u, rfl, hu, D5, b5⟩
      have b5' : But g (g + 1) wr w5 := b5.ofDrew
      have z5 := b5'.size
      have Y5 : Hid (Box w5 BX 26 #[.int .i64 x, .int .i64 y, .slice av xs.length cv]) := HY.out.kept (b5'.block _ (by omega) (by omega))
      have X5 : Hid (Box w5 w.heap.size 26 #[.int .i64 0, .int .i64 0, .slice none 0 0]) := HX.out.kept (b5'.block _ (by omega) (by omega))
      have M5 := hidden (HM.out.but b5' (fun b hb => by have := hfp b hb; omega))
      have HD5 := hidden D5
      have HB5 := hidden (HB.out.trans b5')
      have cc1 : w5.cell? ⟨BX, 2, none⟩ = some (.slice av xs.length cv) := Y5.out.cell 2
      have cc2 : (w5.alloc (.cells #[.int .i64 u] 3)).cell? ⟨BX, 2, none⟩ = some (.slice av xs.length cv) := (Y5.out.alloc _).cell 2
      clear b5 b5' D5 HDA HY HX HM HB
      go_wp2_with fail
      refine hK.out _ _ (fun _ => cc1) ?_
      clear hK K
      refine Upto.one (i := 4) (by kernel_rfl) rfl (fun K hK => ?_)
      go_simp
      refine hK.out _ _ (fun _ => cc2) ?_
      clear hK K
      refine Upto.one (i := 5) (by kernel_rfl) rfl (fun K hK => ?_)
      refine step_appT intTy (by rfl) _ _ 24 (by rfl) 3 i3 (.int .i64 0) 8 Try.underlying24 hi3 hz30 hz31 hz32 rfl Nat.zero_lt_one (.slice av xs.length cv) xs fp (by rfl) ?_ ⟨w5.heap.size, 0, none⟩ 1 [.int .i64 u] u [] (by rfl) ?_ ?_ ?_ ?_ L1.out L2.out ?_
      · exact M5.out.alloc _
      · exact ⟨⟨rfl, rfl⟩, List.nodup_nil⟩
      · intro b hb hb'
        simp at hb'
      · exact news_new _ _ _
      · intro q hq
        simp at hq
        rw [hq]
        rfl
      intro gA cap wA fpA n1 n2 n3
      have ya : Box wA BX 26 #[.int .i64 x, .int .i64 y, .slice av xs.length cv] := (Y5.out.alloc _).turned n3 (fun hm => by have := hfp _ hm; omega)
      have xa : Box wA w.heap.size 26 #[.int .i64 0, .int .i64 0, .slice none 0 0] := (X5.out.alloc _).turned n3 (fun hm => by have := hfp _ hm; omega)
      have r9 : wA.cell? ⟨BX, 2, none⟩ = some (.slice av xs.length cv) := ya.cell 2
      have fzB := ya.frozen 2
      have zA := n3.size
      have zA' : (w5.alloc (.cells #[.int .i64 u] 3)).heap.size = w5.heap.size + 1 := by simp
      have tA : Below BX (w5.alloc (.cells #[.int .i64 u] 3)) wA := n3.below (by omega) (fun b hb => by have := hfp b hb; omega)
      have YA := hidden ya
      have XA := hidden xa
      have N1 := hidden n1
      have N2 := hidden n2
      have DA := hidden ((HD5.out.alloc (.cells #[.int .i64 u] 3)).lower tA hg1)
      have BA := hidden ((HB5.out.alloc (.cells #[.int .i64 u] 3)).thenBelow (tA.mono (by omega)))
      clear ya xa n1 n2 n3 tA M5 HD5 HB5 X5 Y5
      refine hK.out _ _ (fun _ => r9) ?_
      clear hK K
      simp only [Act.put, List.setIfInBounds_toArray, List.set_cons_zero, List.set_cons_succ]
      refine Upto.take (i := 6) (v := ?_) rfl (by kernel_rfl) (by kernel_rfl) (by kernel_rfl) (by kernel_rfl) (fun _ _ _ h => h) (Or.inl ⟨by rfl, ?_⟩) r9 ?_
      rotate_left 1
      · (intro w hSw; (try dsimp only at hSw); go_split_ands; go_simp; first | done | with_reducible rfl)
      simp only [Act.put, List.setIfInBounds_toArray, List.set_cons_zero, List.set_cons_succ]
      refine Upto.one (i := 7) (by kernel_rfl) rfl (fun K hK => ?_)
      go_simp
      refine hK.out _ _ (fun h => absurd rfl h) ?_
      clear hK K
      refine Upto.done (by kernel_rfl) ?_ _
      have hbt : But BX (BX + 1) wA (wA.setCell ⟨BX, 2, none⟩ (.slice (some ⟨gA, 0, none⟩) (xs.length + 1) cap)) := But.setCell (by omega) (by omega) _
      have ze := hbt.size
      have XE := hidden (XA.out.kept (hbt.block _ (by omega) (by omega)))
      have YE := hidden (YA.out.set 2 (.slice (some ⟨gA, 0, none⟩) (xs.length + 1) cap))
      have DE := hidden (DA.out.but hbt (by omega))
      have BE := hidden (BA.out.join hbt (by omega))
      have hfA : ∀ b ∈ fpA, BX < b := fun b hb => by
        rcases N2.out b hb with h1 | h1 | h1
        · exact hfp b h1
        · simp at h1
        · omega
      have ME := hidden (N1.out.but hbt (fun b hb => by have := hfA b hb; omega))
      have el : (xs ++ [u]).length = xs.length + 1 := by simp
      have hxs3 : allW (xs ++ [u]) = true := by unfold allW at *; simp [hxs, hu]
      have HE : Hid (xs.length + 1 + (j - 1) ≤ 4 ∧ 2 ≤ xs.length + 1 + (j - 1)) := by unfold Hid; omega
      clear hbt fzB r9 yd cc1 cc2 XA YA DA BA N1 N2
      go_wp2
      go_roundw
      case rel => exact ⟨j - 1, xs ++ [u], some ⟨gA, 0, none⟩, cap, fpA, by rw [el]; exact HE.out.1, by rw [el]; exact HE.out.2, by go_num, hxs3, by rw [el]; exact YE.out, XE.out, by rw [el]; exact ME.out, hfA, DE.out, BE.out, by omega⟩
      case measure => simp [intOf]; omega
    · have hj0 : j = 0 := by omega
      subst hj0
      obtain ⟨y0, y1, y2⟩ := Y.cells3
      obtain ⟨p0, p1, p2⟩ := X.cells3
      have fz := X.frozen
      have hbt := set3_but5 wr w.heap.size (.int .i64 x) (.int .i64 y) (.slice av xs.length cv)
      have ze := hbt.size
      have FO := hidden ((M.but hbt (fun b hb => by have := hfp b hb; omega)).own (lo := w.heap.size) (hi := (((wr.setCell ⟨w.heap.size, 0, none⟩ (.int .i64 x)).setCell ⟨w.heap.size, 1, none⟩ (.int .i64 y)).setCell ⟨w.heap.size, 2, none⟩ (.slice av xs.length cv)).heap.size) (fun b hb => by have := hfp b hb; have := M.lt b hb; omega))
      have FD := hidden (D.but hbt (by omega))
      have FB := hidden (B.join hbt (by omega))
      have hR : recB x y xs = true := recB_of.2 ⟨hx', hy', by omega, hxs⟩
      clear hbt Y X M D B
      go_wp2
      refine bodyPost_ret (v := .agg #[.int .i64 x, .int .i64 y, .slice av xs.length cv]) (by simp [results, Try.results40, go_sem, p0, p1, p2]) rfl ?_
      exact ⟨x, y, av, cv, xs, rfl, hR, FO.out, FD.out, FB.out⟩

end Go.Proofs.Ytoomkkcobgeinaa

/-
  The draw of blocks and of commands for them (DrawDoCmds): at most 64 blocks, at most five commands. Condition: at most 2097152 bytes to draw from.
-/
import Derived.Test.YtgjomldcnjjpaaaWalkL13Any
import Derived.Test.YtgjomldcnjjpaaaWalkDrawXor
import Derived.Test.YtgjomldcnjjpaaaWalkDraw2
import Derived.Test.YtgjomldcnjjpaaaSome13
import Derived.Test.YtgjomldcnjjpaaaCmdS14
namespace Go.Proofs.Ytgjomldcnjjpaaa
open Go.RowKit

set_option maxHeartbeats 1600000 in
theorem l14Blocks_any {w : World} {g lb cb : Nat} {a : Option Addr} {zs : List Int} (h : Draws w g a lb cb zs) (gn gs : Int) :
    Calls Try.prog 43 #[.pointer (some ⟨g, 0, none⟩), .agg #[.int .i64 gn, .int .i64 gs]] w fun e w' => ∃ (a' : Option Addr) (c' : Nat) (xs : List Int), e = .returned (.slice a' xs.length c') ∧ xs.length ≤ 64 ∧ tIntS.Own w' (w.heap.size + 1) w'.heap.size [.slice a' xs.length c'] xs ∧ Draws w' g a lb cb zs ∧ But g (g + 1) w w' := by
  have hg := h.lt
  have D0 := h.alloc (.cells #[.int .i64 gn, .int .i64 gs] 25)
  have B0 : But g (g + 1) w (w.alloc (.cells #[.int .i64 gn, .int .i64 gs] 25)) := (But.refl g (g + 1) w).alloc _
  have G0 := Box.new w 25 #[.int .i64 gn, .int .i64 gs]
  have hbr := blocksN_range gn gs
  have z0 : w.heap.size + 1 ≤ (w.alloc (.cells #[.int .i64 gn, .int .i64 gs] 25)).heap.size := by simp
  go_enter Try.func43, Try.ntmps43
  go_wp2_with fail
  generalize w.alloc (.cells #[.int .i64 gn, .int .i64 gs] 25) = W at D0 B0 G0 z0 ⊢
  refine (l1Once_any D0 12 (by omega) (by omega)).mono ?_
  rintro e w1 ⟨b, rfl, D1, b1⟩
  have G1 := G0.kept (b1.block _ G0.lt (by omega))
  have B1 := B0.trans b1
  have z1 := b1.size
  clear D0 B0 G0 b1
  cases b
  · obtain ⟨g0, g1⟩ := G1.cells2
    go_wp2_with fail
    refine (specBlocks_any _ gn gs).mono ?_
    rintro e w2 ⟨rfl, b2⟩
    have D2 := D1.lower b2 (by omega)
    have B2 := B1.thenBelow (b2.mono (by omega))
    have z2 := b2.size
    go_wp2_with fail
    obtain ⟨N, hN⟩ : ∃ N : Nat, blocksN gn gs = N := ⟨(blocksN gn gs).toNat, by omega⟩
    rw [hN] at hbr ⊢
    refine (l7Some_len D2 N (by omega)).mono ?_
    rintro e w3 ⟨v, rfl, xs, hl, _, ho, D3, b3⟩
    subst hl
    obtain ⟨a5, c5, hv, _⟩ := ho.shape
    subst hv
    have HO := hidden ((own_ints ho).widen (lo' := w.heap.size + 1) (by omega) (Nat.le_refl _))
    have HB := hidden (B2.trans b3)
    have HD := hidden D3
    clear ho D3 b3 D2 D1 B2 B1
    go_wp2
    go_ret
    exact ⟨_, _, _, rfl, by omega, HO.out, HD.out, HB.out⟩
  · go_wp2_with fail
    refine (l1Any_any D1).mono ?_
    rintro e w3 ⟨v, xs, rfl, hl, ho, D3, b3⟩
    obtain ⟨a5, c5, hv, _⟩ := ho.shape
    subst hv
    have HO := hidden ((own_ints ho).widen (lo' := w.heap.size + 1) (by omega) (Nat.le_refl _))
    have HB := hidden (B1.trans b3)
    have HD := hidden D3
    clear ho D3 b3 D1 B1
    go_wp2
    go_ret
    exact ⟨_, _, _, rfl, by omega, HO.out, HD.out, HB.out⟩

theorem sumL_app (l m : List Nat) : sumL (l ++ m) = sumL l + sumL m := by
  induction l with
  | nil => simp [sumL]
  | cons x l ih =>
    simp only [List.cons_append, sumL, List.foldr_cons] at *
    omega
/-- What the loop has drawn. -/
structure DrawD (w wr : World) (g GB M : Nat) (a : Option Addr) (lb cb : Nat) (zs : List Int) (gn gs : Int) (a1 : Option Addr) (c1 : Nat) (ls : List Int) (v : Value) (cs : List CmdD) (fq : List Nat) : Prop where
  dr : Draws wr g a lb cb zs
  bel : Below w.heap.size w wr
  res : Box wr w.heap.size 25 #[.int .i64 0, .int .i64 0]
  geo : Box wr GB 25 #[.int .i64 gn, .int .i64 gs]
  own : tIntS.Own wr (GB + 1) M [.slice a1 ls.length c1] ls
  row : (tCmdS 37).Mine wr [v] cs fq
  inQ : ∀ b ∈ fq, M ≤ b
  big : M ≤ wr.heap.size
  shp : ∃ b c, v = .slice (some ⟨b, 0, none⟩) cs.length c
  wt : sumL (cs.map fun x => x.2.2.2.2.length) ≤ 7 * cs.length

set_option maxRecDepth 20000 in
set_option maxHeartbeats 3200000 in
theorem drawDoCmds_any (w : World) (a : Option Addr) (lb cb : Nat) (zs : List Int) (hz : zs.length = lb) (hr : Reads .u8 w a zs) (hby : ∀ n ∈ zs, 0 ≤ n ∧ n ≤ 255) (hlb : lb ≤ 2097152) :
    Calls Try.prog 8 #[.slice a lb cb] w fun e w' => ∃ (gn gs : Int) (a1 : Option Addr) (c1 : Nat) (ls : List Int) (b2 c2 : Nat) (cs : List CmdD), e = .returned (.tuple #[.agg #[.int .i64 gn, .int .i64 gs], .slice a1 ls.length c1, .slice (some ⟨b2, 0, none⟩) cs.length c2]) ∧ ls.length ≤ 64 ∧ cs.length ≤ 5 ∧ wttCmdS cs ≤ 100 ∧ tIntS.Rd w' [.slice a1 ls.length c1] ls ∧ (tCmdS 37).Rd w' [.slice (some ⟨b2, 0, none⟩) cs.length c2] cs ∧ Below w.heap.size w w' := by
  obtain ⟨i0, hi, hz0, hz1, hz2⟩ := info_parts Try.infoCmd14
  have hA := new_below w (.cells #[.int .i64 0, .int .i64 0] 25)
  have P0 := Box.new w 25 #[.int .i64 0, .int .i64 0]
  have hr0 := hr.below hA
  have z0 := P0.lt
  go_enter Try.func8, Try.ntmps8
  go_wp2_with fail
  generalize w.alloc (.cells #[.int .i64 0, .int .i64 0] 25) = W at hA P0 hr0 z0 ⊢
  refine (l1New_any _ _ _ _ zs hz hr0 hlb).mono ?_
  rintro e w1 ⟨rfl, hc1, hb1⟩
  have D1 : Draws w1 W.heap.size a lb cb zs := ⟨hc1, hz, hr0.below hb1, hby, hlb, hr0.ahead hz⟩
  have P1 := P0.below hb1 z0
  have B1 := hA.trans (hb1.mono hA.size)
  have z1 := D1.lt
  clear hc1 P0 hr0 hb1 hA
  obtain ⟨g, hg⟩ : ∃ g, g = W.heap.size := ⟨_, rfl⟩
  rw [← hg] at D1 z1 z0
  simp only [← hg]
  clear hg
  go_wp2_with fail
  refine (l3Any_any D1).mono ?_
  rintro e w2 ⟨gn, gs, rfl, hgn, D2, b2⟩
  have P2 := P1.kept (b2.block _ (by omega) (by omega))
  have B2 := B1.trans (b2.below (B := w.heap.size) (by omega) (by omega))
  have z2 := b2.size
  clear P1 B1 D1 b2
  have G3 := Box.new w2 25 #[.int .i64 gn, .int .i64 gs]
  have P3 := P2.alloc (.cells #[.int .i64 gn, .int .i64 gs] 25)
  have D3 := D2.alloc (.cells #[.int .i64 gn, .int .i64 gs] 25)
  have B3 := B2.alloc B2.size (.cells #[.int .i64 gn, .int .i64 gs] 25)
  have z3 : w2.heap.size < (w2.alloc (.cells #[.int .i64 gn, .int .i64 gs] 25)).heap.size := G3.lt
  clear P2 D2 B2
  obtain ⟨m0, m1⟩ := G3.cells2
  go_wp2_with fail
  generalize w2.alloc (.cells #[.int .i64 gn, .int .i64 gs] 25) = w3 at G3 P3 D3 B3 z3 m0 m1 ⊢
  generalize hGB : w2.heap.size = GB at G3 z3 z2 m0 m1 ⊢
  have hgb : g < GB := by omega
  clear hGB
  refine (l14Blocks_any D3 gn gs).mono ?_
  rintro e w4 ⟨a1, c1, ls, rfl, hll, O4, D4, b4⟩
  clear m0 m1
  have P4 := P3.kept (b4.block _ (by omega) (by omega))
  have G4 := G3.kept (b4.block _ (by omega) (by omega))
  have B4 := B3.trans (b4.below (B := w.heap.size) (by omega) (by omega))
  have z4 := b4.size
  clear P3 G3 B3 D3 b4
  have HP := hidden (P4.alloc (.cells #[] 37))
  have HG := hidden (G4.alloc (.cells #[] 37))
  have HB := hidden (B4.alloc B4.size (.cells #[] 37))
  have HD := D4.alloc (.cells #[] 37)
  have HO := hidden ((O4.below (new_below w4 (.cells #[] 37))).widen (lo' := GB + 1) (by omega) (Nat.le_refl w4.heap.size))
  have HR := hidden (lit0_mine (t := tCmd) (E := 37) w4)
  have e4 : (w4.alloc (.cells #[] 37)).heap.size = w4.heap.size + 1 := by simp
  clear P4 G4 B4 D4 O4
  go_wp2_with fail
  generalize w4.alloc (.cells #[] 37) = w5 at HP HG HB HD HO HR e4 ⊢
  refine (dBelow HD 6 (by omega) (by omega)).mono ?_
  rintro e w6 ⟨n, rfl, hn0, hn1, D6, b6⟩
  obtain ⟨n, rfl⟩ := Int.eq_ofNat_of_zero_le hn0
  have hn5 : n ≤ 5 := by omega
  have hs6 := b6.size
  have HQ0 : Hid (DrawD w w6 g GB w4.heap.size a lb cb zs gn gs a1 c1 ls (.slice (some ⟨w4.heap.size, 0, none⟩) 0 0) [] [w4.heap.size]) := by
    refine ⟨D6, HB.out.trans (b6.below (B := w.heap.size) (by omega) (by have := HB.out.size; omega)), HP.out.kept (b6.block _ HP.out.lt (by omega)), HG.out.kept (b6.block _ HG.out.lt (by omega)), HO.out.but b6 (.inr (by omega)), HR.out.but b6 (fun x hx => by simp at hx; omega), by simp, by omega, ⟨_, _, rfl⟩, by simp [sumL]⟩
  clear hn0 hn1 D6 b6 HP HG HB HD HO HR
  go_wp2
  go_loopw [8, 9] (fun v i wr => ∃ (j : Nat) (cs : List CmdD) (fq : List Nat), cs.length + j ≤ 5 ∧ i = .int .i64 j ∧ DrawD w wr g GB w4.heap.size a lb cb zs gn gs a1 c1 ls v cs fq) (fun _ i _ => (intOf i).toNat)
  case atStart => exact ⟨n, [], _, by simpa using hn5, rfl, HQ0.out⟩
  case round =>
    obtain ⟨j, cs, fq, hj, rfl, hq⟩ := hrel
    obtain ⟨bv, cv, rfl⟩ := hq.shp
    by_cases hlt : 0 < j
    · obtain ⟨m0, m1⟩ := hq.geo.cells2
      have zg := hq.geo.lt
      have HQ := hidden hq
      go_wp2_with fail
      refine (l13Any_any hq.dr gn gs).mono ?_
      rintro e w7 ⟨o, d, b, k, av, kv, ds, rfl, hdl, O7, D7, b7⟩
      obtain ⟨fv, mv, rv⟩ := O7.mine
      have gq := HQ.out.dr.lt
      have s7 := b7.size
      have sq : ∀ x ∈ fq, x < wr.heap.size := HQ.out.row.lt
      have R7 := HQ.out.row.but b7 (fun x hx => by have := HQ.out.inQ x hx; omega)
      have HR7 := hidden (R7.alloc (.cells #[.int .i64 o, .int .i64 d, .int .i64 b, .int .i64 k, .slice av ds.length kv] 37))
      have HB8 := hidden b7
      have HB7 := hidden (b7.alloc (.cells #[.int .i64 o, .int .i64 d, .int .i64 b, .int .i64 k, .slice av ds.length kv] 37))
      have HD7 := hidden (D7.alloc (.cells #[.int .i64 o, .int .i64 d, .int .i64 b, .int .i64 k, .slice av ds.length kv] 37))
      have HY : Hid (tCmd.Mine (w7.alloc (.cells #[.int .i64 o, .int .i64 d, .int .i64 b, .int .i64 k, .slice av ds.length kv] 37)) [.int .i64 o, .int .i64 d, .int .i64 b, .int .i64 k, .slice av ds.length kv] (o, d, b, k, ds) fv) := int_mine_of (int_mine_of (int_mine_of (int_mine_of (mv.alloc _))))
      have HRV := hidden rv
      have hdis : ∀ x ∈ fq, x ∉ fv := fun x hx hx' => by have := sq x hx; have := rv x hx'; omega
      have hw3 : (w7.alloc (.cells #[.int .i64 o, .int .i64 d, .int .i64 b, .int .i64 k, .slice av ds.length kv] 37)).heap.size = w7.heap.size + 1 := by simp
      clear hq m0 m1 R7 b7 D7 O7 mv rv
      go_wp2_with (at_builtin; refine wpList_appT tCmd rfl _ _ 27 rfl 37 i0 (.agg #[.int .i64 0, .int .i64 0, .int .i64 0, .int .i64 0, .slice none 0 0]) 56 Try.underlying27 hi hz0 hz1 hz2 rfl (by decide) _ cs fq rfl HR7.out ⟨w7.heap.size, 0, none⟩ 1 [.int .i64 o, .int .i64 d, .int .i64 b, .int .i64 k, .slice av ds.length kv] (o, d, b, k, ds) fv rfl HY.out hdis (news_new w7 #[.int .i64 o, .int .i64 d, .int .i64 b, .int .i64 k, .slice av ds.length kv] _) (by intro u hu; simp at hu; rcases hu with rfl | rfl | rfl | rfl | rfl <;> rfl) (by unfold maxLen; omega) (by omega) ?_; intro v' w9 fq' hM9 hs9 ht9)
      have HN : Hid (DrawD w w9 g GB w4.heap.size a lb cb zs gn gs a1 c1 ls v' (cs ++ [(o, d, b, k, ds)]) fq') := by
        have zB := HB7.out.size
        have zM := HQ.out.big
        have zt := ht9.size
        have hgf : g ∉ fq := fun hm => by have := HQ.out.inQ _ hm; omega
        have low : Below w4.heap.size (w7.alloc (.cells #[.int .i64 o, .int .i64 d, .int .i64 b, .int .i64 k, .slice av ds.length kv] 37)) w9 := ht9.below (by omega) (fun x hx => HQ.out.inQ x hx)
        obtain ⟨av2, kv2, hv2⟩ := row_shape hM9.rd
        have hsh : ∃ bn cn, v' = .slice (some ⟨bn, 0, none⟩) (cs ++ [(o, d, b, k, ds)]).length cn := by
          subst hv2
          rcases row_ow_shape hM9 with h0 | ⟨b9, rfl⟩
          · simp at h0
          · exact ⟨_, _, rfl⟩
        refine ⟨HD7.out.lower low (by omega), (HQ.out.bel.trans (HB7.out.below (by omega) (by omega))).trans (low.mono (by omega)), (HQ.out.res.kept (HB7.out.block _ HQ.out.res.lt (by omega))).below low (by omega), (HQ.out.geo.kept (HB7.out.block _ HQ.out.geo.lt (by omega))).below low (by omega), ?_, hM9, fun x hx => ?_, by omega, hsh, ?_⟩
        · have h8 := HQ.out.own.but HB8.out (.inr (by omega))
          have h9 := h8.below (new_below w7 (.cells #[.int .i64 o, .int .i64 d, .int .i64 b, .int .i64 k, .slice av ds.length kv] 37))
          have hbt : But w4.heap.size (w9.heap.size + 1) (w7.alloc (.cells #[.int .i64 o, .int .i64 d, .int .i64 b, .int .i64 k, .slice av ds.length kv] 37)) w9 := ⟨ht9.os, ht9.tape, ht9.output, ht9.size, fun q h1 h2 => low.block q (by omega)⟩
          exact h9.but hbt (.inl (Nat.le_refl _))
        · rcases hs9 x hx with h | h | h
          · exact HQ.out.inQ x h
          · have := HRV.out x h
            omega
          · omega
        · have := HQ.out.wt
          simp only [List.map_append, List.length_append, List.map_cons, List.map_nil, List.length_cons, List.length_nil]
          rw [show sumL (cs.map (fun x => x.2.2.2.2.length) ++ [ds.length]) = sumL (cs.map (fun x => x.2.2.2.2.length)) + ds.length from (sumL_app _ _).trans (by simp [sumL])]
          omega
      clear hM9 hs9 ht9 HR7 HB7 HD7 HY hdis
      go_wp2
      go_roundw
      case rel => exact ⟨j - 1, _, fq', by simp; omega, by go_num, HN.out⟩
      case measure => simp [intOf]; omega
    · obtain rfl : j = 0 := by omega
      have HQ := hidden hq
      obtain ⟨m0, m1⟩ := hq.geo.cells2
      obtain ⟨p0, p1⟩ := hq.res.cells2
      have fz := hq.res.frozen
      have zg := hq.geo.lt
      have hne : ¬ GB = w.heap.size := by omega
      have Y := (hq.res.set 0 (.int .i64 gn)).set 1 (.int .i64 gs)
      have TB : Turned [w.heap.size] wr ((wr.setCell ⟨w.heap.size, 0, none⟩ (.int .i64 gn)).setCell ⟨w.heap.size, 1, none⟩ (.int .i64 gs)) := (Turned.setCell _ (by simp)).trans (Turned.setCell _ (by simp))
      have HT := hidden TB
      have HY := hidden Y
      clear hq TB Y
      go_wp2
      obtain ⟨y0, y1⟩ := HY.out.cells2
      generalize (wr.setCell ⟨w.heap.size, 0, none⟩ (.int .i64 gn)).setCell ⟨w.heap.size, 1, none⟩ (.int .i64 gs) = wz at HT HY y0 y1 ⊢
      refine bodyPost_ret (v := .tuple #[.agg #[.int .i64 gn, .int .i64 gs], .slice a1 ls.length c1, .slice (some ⟨bv, 0, none⟩) cs.length cv]) (by simp [results, Try.results8, go_sem, y0, y1]) rfl ?_
      have hwt := HQ.out.wt
      refine ⟨gn, gs, a1, c1, ls, bv, cv, cs, rfl, hll, by omega, by unfold wttCmdS; omega, ?_, ?_, ?_⟩
      · obtain ⟨fo, mo, ro⟩ := HQ.out.own.mine
        exact (mo.kept HT.out (fun x hx hx' => by have := ro x hx; simp at hx'; omega)).rd
      · exact (HQ.out.row.kept HT.out (fun x hx hx' => by have := HQ.out.inQ x hx; simp at hx'; omega)).rd
      · exact HQ.out.bel.trans (HT.out.below (by have := HQ.out.bel.size; omega) (by simp))

end Go.Proofs.Ytgjomldcnjjpaaa

/-
  What the specification's l14Do does to blocks that are its own, of a command that is right for them.
-/
import Derived.Test.YtgjomldcnjjpaaaWalkModelI
import Derived.Test.YtgjomldcnjjpaaaWalkCmdS
import Derived.Test.YtgjomldcnjjpaaaWalkPutCmd
import Derived.Test.YtgjomldcnjjpaaaHeld
import Derived.Deep.Cut
namespace Go.Proofs.Ytgjomldcnjjpaaa
open Go.RowKit

/-- What l14Do has made at its beginning. -/
structure At14 (w W : World) (g nl cl : Nat) (ls : List Int) (o d k b : Int) (a : Option Addr) (n cap : Nat) (zs : List Int) : Prop where
  bel : Below w.heap.size w W
  cmd : Box W w.heap.size 37 #[.int .i64 o, .int .i64 d, .int .i64 b, .int .i64 k, .slice a n cap]
  res : Box W (w.heap.size + 1) 44 #[.int .i64 0, .int .i64 0, .slice none 0 0]
  ans : Box W (w.heap.size + 1 + 1) 44 #[.int .i64 d, .int .i64 0, .slice none 0 0]
  own : OwnL W g nl cl ls
  words : tIntS.Rd W [.slice a n cap] zs
  gw : g < w.heap.size
theorem at14 (w : World) (g nl cl : Nat) (ls : List Int) (hm : OwnL w g nl cl ls) (o d k b : Int) (a : Option Addr) (n cap : Nat) (zs : List Int) (h : tIntS.Rd w [.slice a n cap] zs) : At14 w (((w.alloc (.cells #[.int .i64 o, .int .i64 d, .int .i64 b, .int .i64 k, .slice a n cap] 37)).alloc (.cells #[.int .i64 0, .int .i64 0, .slice none 0 0] 44)).alloc (.cells #[.int .i64 d, .int .i64 0, .slice none 0 0] 44)) g nl cl ls o d k b a n cap zs := by
  have hA : Below w.heap.size w (((w.alloc (.cells #[.int .i64 o, .int .i64 d, .int .i64 b, .int .i64 k, .slice a n cap] 37)).alloc (.cells #[.int .i64 0, .int .i64 0, .slice none 0 0] 44)).alloc (.cells #[.int .i64 d, .int .i64 0, .slice none 0 0] 44)) := ((new_below w _).alloc (by simp) _).alloc (by simp; omega) _
  refine ⟨hA, ?_, ?_, ?_, hm.below hA, h.below hA, (ownl_cap hm).2.2⟩
  · exact ((Box.new w _ _).below (new_below _ _) (by simp)).below (new_below _ _) (by simp; omega)
  · have := (Box.new (w.alloc (.cells #[.int .i64 o, .int .i64 d, .int .i64 b, .int .i64 k, .slice a n cap] 37)) 44 #[.int .i64 0, .int .i64 0, .slice none 0 0]).below (new_below _ (.cells #[.int .i64 d, .int .i64 0, .slice none 0 0] 44)) (by simp)
    simpa using this
  · have := Box.new ((w.alloc (.cells #[.int .i64 o, .int .i64 d, .int .i64 b, .int .i64 k, .slice a n cap] 37)).alloc (.cells #[.int .i64 0, .int .i64 0, .slice none 0 0] 44)) 44 #[.int .i64 d, .int .i64 0, .slice none 0 0]
    simpa using this
theorem two14 {w w1 w2 : World} {u r : Nat} (h : Turned [u] w w1) (k : Turned [r] w1 w2) : Turned [u, r] w w2 := (h.mono (by simp)).trans (k.mono (by simp))
/-- What is left at the end: the answer's box and the result's have turned. -/
theorem fin14 {w w2 wz : World} {g nl cl lo m c : Nat} {a : Option Addr} {d : Int} {x : List Int × Int × List Int} (hT : Turned [g] w w2) (hM : OwnL w2 g nl cl x.1) (hO : tIntS.Own w2 lo w2.heap.size [.slice a m c] x.2.2) (hz : Turned [w.heap.size + 1 + 1, w.heap.size + 1] w2 wz) (gw : g < w.heap.size) (hlo : w.heap.size + 1 + 1 < lo) :
    Done14 w (some ⟨g, 0, none⟩) nl cl [g] d x (.returned (.agg #[.int .i64 d, .int .i64 x.2.1, .slice a m c])) wz := by
  refine ⟨a, m, c, rfl, ?_, ?_, ?_⟩
  · exact (hO.but (hz.but (lo := w.heap.size + 1) (hi := w.heap.size + 1 + 1 + 1) (by intro b hb; simp at hb; omega)) (.inr (by omega))).widen (by omega) hz.size
  · exact Ty.Mine.kept (t := tIntS) ⟨ow_ints hM, by simp⟩ hz (by intro b hb hb'; simp at hb hb'; omega)
  · exact ⟨hz.os.trans hT.os, hz.tape.trans hT.tape, hz.output.trans hT.output, Nat.le_trans hT.size hz.size, fun k hk ho => (hz.block k (Nat.lt_of_lt_of_le hk hT.size) (by simp; omega)).trans (hT.block k hk ho)⟩

set_option maxRecDepth 20000 in
set_option maxHeartbeats 3200000 in
theorem l14Read_any (w : World) (B g nl cl : Nat) (ls : List Int) (hm : OwnL w g nl cl ls) (d k : Int) (a : Option Addr) (n cap : Nat) (zs : List Int) (h : tIntS.Rd w [.slice a n cap] zs) (L : Nat) (hk : k = L) (h0 : 1 ≤ L) (h1 : B + L ≤ nl) (h3 : nl ≤ 2097152) :
    Calls Try.prog 56 #[.slice (some ⟨g, 0, none⟩) nl cl, .agg #[.int .i64 1, .int .i64 d, .int .i64 (B : Int), .int .i64 k, .slice a n cap]] w (Done14 w (some ⟨g, 0, none⟩) nl cl [g] d (deedC ls 1 B k zs)) := by
  have H := at14 w g nl cl ls hm 1 d k B a n cap zs h
  obtain ⟨_, hz, hnc, hcm⟩ := ints_rd H.words
  obtain ⟨c2, c3, _⟩ := ownl_cap hm
  have hll := hm.length
  have e1 : ((B : Int)).toNat = B := by omega
  subst hk
  obtain ⟨i0, hi, hz0, hz1, hz2⟩ := info_parts Try.info3
  have hwr : IntKind.i64.wrap ((B : Int) + (L : Int)) = (B : Int) + (L : Int) := IntWalk.i64_in _ (by omega)
  have s0 : (0 : Int) ≤ (B : Int) := by omega
  have s1 : (B : Int) ≤ (B : Int) + (L : Int) := by omega
  have s2 : (B : Int) + (L : Int) ≤ (cl : Int) := by omega
  have s3 : ((B : Int) + (L : Int)).toNat - B = L := by omega
  have s4 : ¬ cl = B := by omega
  go_enter Try.func56, Try.ntmps56
  go_upto_region 4 with fail
  generalize ((w.alloc (.cells #[.int .i64 1, .int .i64 d, .int .i64 (B : Int), .int .i64 (L : Int), .slice a n cap] 37)).alloc (.cells #[.int .i64 0, .int .i64 0, .slice none 0 0] 44)).alloc (.cells #[.int .i64 d, .int .i64 0, .slice none 0 0] 44) = W at H ⊢
  have zc := H.cmd.lt
  have zr := H.res.lt
  have za := H.ans.lt
  have gw := H.gw
  obtain ⟨x0, x1, x2, x3, x4⟩ := H.cmd.cells5
  have hB2 := new_below W (.cells #[] 3)
  have hO : Owns .i64 3 (W.alloc (.cells #[] 3)) W.heap.size (.slice (some ⟨W.heap.size, 0, none⟩) 0 0) [] := Owns.lit .i64 3 W [] 0 #[] rfl rfl (by unfold maxLen; omega)
  have R2 := (ownl_part H.own h1).below hB2
  go_wp2_with (at_builtin; refine wpList_appAny rfl _ _ 26 rfl W.heap.size i0 Try.underlying26 hi hz0 hz1 hz2 _ [] rfl hO _ L (cl - B) ((ls.drop B).take L) rfl R2 (by unfold maxLen; simp; omega) (by simp; omega) (by simp) ?_; intro v' w2 ho2 hb2; obtain ⟨a5, c5, hv1, _⟩ := ho2.shape; rw [List.nil_append] at ho2 hv1; rw [part_len (by omega)] at hv1; subst hv1; have b2 : Below W.heap.size W w2 := hB2.trans hb2; have Y2 := H.res.below b2 zr; have U2 := H.ans.below b2 za; have HO := hidden (own_ints ho2); have HM := hidden (H.own.below b2); have BB := Below.andThen H.bel b2; have s2 := b2.size; obtain ⟨u0, u1, u2⟩ := U2.cells3; obtain ⟨y0, y1, y2⟩ := Y2.cells3; have f2 := U2.frozen 2; have g0 := Y2.frozen 0; have g1 := Y2.frozen 1; have g2 := Y2.frozen 2; clear ho2; clear hb2)
  have z1 : W.heap.size ≤ w2.heap.size := s2
  obtain ⟨Y3, T3⟩ := ans_put (Y2.other (g := w.heap.size + 1 + 1) (by omega) 2 (.slice a5 L c5)) (.int .i64 d) (.int .i64 0) (.slice a5 L c5)
  have TT := hidden (two14 (u := w.heap.size + 1 + 1) (Turned.setCell (g := w.heap.size + 1 + 1) (w := w2) (j := 2) (.slice a5 L c5) (by simp)) T3)
  have HL := hidden e1
  clear T3
  go_wp2
  obtain ⟨v0, v1, v2⟩ := Y3.cells3
  generalize (((w2.setCell ⟨w.heap.size + 1 + 1, 2, none⟩ (.slice a5 L c5)).setCell ⟨w.heap.size + 1, 0, none⟩ (.int .i64 d)).setCell ⟨w.heap.size + 1, 1, none⟩ (.int .i64 0)).setCell ⟨w.heap.size + 1, 2, none⟩ (.slice a5 L c5) = wz at TT v0 v1 v2 ⊢
  refine bodyPost_ret (v := .agg #[.int .i64 d, .int .i64 0, .slice a5 L c5]) (by simp [results, Try.results56, go_sem, v0, v1, v2]) rfl ?_
  rw [deed_read, HL.out, show ((L : Int)).toNat = L by omega]
  exact fin14 (Turned.ofBelow BB [g]) HM.out (HO.out.widen (Nat.le_refl _) (Nat.le_refl _)) TT.out gw (by omega)

set_option maxRecDepth 20000 in
set_option maxHeartbeats 3200000 in
theorem l14Flush_any (w : World) (b : Int) (g nl cl : Nat) (ls : List Int) (hm : OwnL w g nl cl ls) (d k : Int) (a : Option Addr) (n cap : Nat) (zs : List Int) (h : tIntS.Rd w [.slice a n cap] zs) :
    Calls Try.prog 56 #[.slice (some ⟨g, 0, none⟩) nl cl, .agg #[.int .i64 4, .int .i64 d, .int .i64 b, .int .i64 k, .slice a n cap]] w (Done14 w (some ⟨g, 0, none⟩) nl cl [g] d ((ls, 0, []))) := by
  have H := at14 w g nl cl ls hm 4 d k b a n cap zs h
  obtain ⟨_, hz, hnc, hcm⟩ := ints_rd H.words
  obtain ⟨c2, c3, _⟩ := ownl_cap hm
  have hll := hm.length
  go_enter Try.func56, Try.ntmps56
  go_upto_region 21 with fail
  generalize ((w.alloc (.cells #[.int .i64 4, .int .i64 d, .int .i64 b, .int .i64 k, .slice a n cap] 37)).alloc (.cells #[.int .i64 0, .int .i64 0, .slice none 0 0] 44)).alloc (.cells #[.int .i64 d, .int .i64 0, .slice none 0 0] 44) = W at H ⊢
  have zc := H.cmd.lt
  have zr := H.res.lt
  have za := H.ans.lt
  have gw := H.gw
  obtain ⟨x0, x1, x2, x3, x4⟩ := H.cmd.cells5
  obtain ⟨y0, y1, y2⟩ := H.res.cells3
  obtain ⟨u0, u1, u2⟩ := H.ans.cells3
  have g0 := H.res.frozen 0
  have g1 := H.res.frozen 1
  have g2 := H.res.frozen 2
  obtain ⟨Y3, T3⟩ := ans_put H.res (.int .i64 d) (.int .i64 0) (.slice none 0 0)
  have TT := hidden (two14 (Turned.refl [w.heap.size + 1 + 1] _) T3)
  clear T3
  go_wp2
  obtain ⟨v0, v1, v2⟩ := Y3.cells3
  generalize (((W).setCell ⟨w.heap.size + 1, 0, none⟩ (.int .i64 d)).setCell ⟨w.heap.size + 1, 1, none⟩ (.int .i64 0)).setCell ⟨w.heap.size + 1, 2, none⟩ (.slice none 0 0) = wz at TT v0 v1 v2 ⊢
  refine bodyPost_ret (v := .agg #[.int .i64 d, .int .i64 0, .slice none 0 0]) (by simp [results, Try.results56, go_sem, v0, v1, v2]) rfl ?_
  exact fin14 (Turned.ofBelow H.bel [g]) H.own (nil_own W (w.heap.size + 1 + 1 + 1) W.heap.size) TT.out gw (by omega)

set_option maxRecDepth 20000 in
set_option maxHeartbeats 3200000 in
theorem l14Zero_any (w : World) (B g nl cl : Nat) (ls : List Int) (hm : OwnL w g nl cl ls) (d k : Int) (a : Option Addr) (n cap : Nat) (zs : List Int) (h : tIntS.Rd w [.slice a n cap] zs) (L : Nat) (hk : k = L) (h0 : 1 ≤ L) (h1 : B + L ≤ nl) (h3 : nl ≤ 2097152) :
    Calls Try.prog 56 #[.slice (some ⟨g, 0, none⟩) nl cl, .agg #[.int .i64 6, .int .i64 d, .int .i64 (B : Int), .int .i64 k, .slice a n cap]] w (Done14 w (some ⟨g, 0, none⟩) nl cl [g] d (deedC ls 6 B k zs)) := by
  have H := at14 w g nl cl ls hm 6 d k B a n cap zs h
  obtain ⟨_, hz, hnc, hcm⟩ := ints_rd H.words
  obtain ⟨c2, c3, _⟩ := ownl_cap hm
  have hll := hm.length
  have e1 : ((B : Int)).toNat = B := by omega
  subst hk
  go_enter Try.func56, Try.ntmps56
  go_upto_region 12 with fail
  generalize ((w.alloc (.cells #[.int .i64 6, .int .i64 d, .int .i64 (B : Int), .int .i64 (L : Int), .slice a n cap] 37)).alloc (.cells #[.int .i64 0, .int .i64 0, .slice none 0 0] 44)).alloc (.cells #[.int .i64 d, .int .i64 0, .slice none 0 0] 44) = W at H ⊢
  have zc := H.cmd.lt
  have zr := H.res.lt
  have za := H.ans.lt
  have gw := H.gw
  obtain ⟨x0, x1, x2, x3, x4⟩ := H.cmd.cells5
  go_wp2
  go_loopw [7] (fun i wr => ∃ j : Nat, j ≤ L ∧ i = .int .i64 j ∧ OwnL wr g nl cl (over ls B ((List.replicate L (0 : Int)).take j)) ∧ But g (g + 1) W wr) (fun i _ => L - (intOf i).toNat)
  case atStart => exact ⟨0, Nat.zero_le _, rfl, by rw [List.take_zero, over_nil]; exact H.own, But.refl _ _ _⟩
  case round =>
    obtain ⟨j, hj, rfl, ho, hb⟩ := hrel
    have X2 := H.cmd.kept (hb.block _ H.cmd.lt (.inr (by omega)))
    clear x0 x1 x2 x3 x4
    obtain ⟨x0, x1, x2, x3, x4⟩ := X2.cells5
    have HR := hidden H
    by_cases hjl : j < L
    · obtain ⟨m0, m1, ho2, hb2⟩ := ho.store (B + j) (by omega) 0
      rw [over_step (ls := ls) (zs := List.replicate L 0) (b := B) (j := j) (x := 0) (by rw [List.length_replicate]; omega) (by rw [List.getElem?_replicate, if_pos hjl])] at ho2
      have hwr : IntKind.i64.wrap ((B : Int) + (j : Int)) = (B : Int) + (j : Int) := IntWalk.i64_in _ (by omega)
      have e2 : ((B : Int) + (j : Int)).toNat = B + j := by omega
      have q1 : (0 : Int) ≤ (B : Int) + (j : Int) := by omega
      have q2 : (B : Int) + (j : Int) < (nl : Int) := by omega
      have HO := hidden ho2
      have HB := hidden (hb.trans hb2)
      clear ho ho2 hb2 hb
      go_wp2
      go_roundw
      case rel => exact ⟨j + 1, by omega, by go_num, HO.out, HB.out⟩
      case measure => simp [intOf]; omega
    · obtain rfl : j = L := by omega
      rw [List.take_of_length_le (by simp)] at ho
      have zW := H.bel.size
      have s1 := hb.size
      have Y2 := H.res.kept (hb.block _ H.res.lt (.inr (by omega)))
      have U2 := H.ans.kept (hb.block _ H.ans.lt (.inr (by omega)))
      have BB := (Turned.ofBelow H.bel [g]).trans hb.turned1
      have HO := hidden ho
      clear ho
      obtain ⟨y0, y1, y2⟩ := Y2.cells3
      obtain ⟨u0, u1, u2⟩ := U2.cells3
      have g0 := Y2.frozen 0
      have g1 := Y2.frozen 1
      have g2 := Y2.frozen 2
      obtain ⟨Y3, T3⟩ := ans_put Y2 (.int .i64 d) (.int .i64 0) (.slice none 0 0)
      have TT := hidden (two14 (Turned.refl [w.heap.size + 1 + 1] _) T3)
      clear T3
      go_wp2
      obtain ⟨v0, v1, v2⟩ := Y3.cells3
      generalize (((wr).setCell ⟨w.heap.size + 1, 0, none⟩ (.int .i64 d)).setCell ⟨w.heap.size + 1, 1, none⟩ (.int .i64 0)).setCell ⟨w.heap.size + 1, 2, none⟩ (.slice none 0 0) = wz at TT v0 v1 v2 ⊢
      refine bodyPost_ret (v := .agg #[.int .i64 d, .int .i64 0, .slice none 0 0]) (by simp [results, Try.results56, go_sem, v0, v1, v2]) rfl ?_
      rw [deed_zero, e1, show ((j : Int)).toNat = j by omega]
      exact fin14 BB HO.out (nil_own wr (w.heap.size + 1 + 1 + 1) wr.heap.size) TT.out gw (by omega)

set_option maxRecDepth 20000 in
set_option maxHeartbeats 3200000 in
theorem l14Write_any (w : World) (B g nl cl : Nat) (ls : List Int) (hm : OwnL w g nl cl ls) (d k : Int) (a : Option Addr) (n cap : Nat) (zs : List Int) (h : tIntS.Rd w [.slice a n cap] zs) (o : Int) (ho : o = 2 ∨ o = 3) (hg : ∀ x, a = some x → x.block ≠ g) (h0 : 1 ≤ n) (h1 : B + n ≤ nl) (h3 : nl ≤ 2097152) :
    Calls Try.prog 56 #[.slice (some ⟨g, 0, none⟩) nl cl, .agg #[.int .i64 o, .int .i64 d, .int .i64 (B : Int), .int .i64 k, .slice a n cap]] w (Done14 w (some ⟨g, 0, none⟩) nl cl [g] d (deedC ls o B k zs)) := by
  have H := at14 w g nl cl ls hm o d k B a n cap zs h
  obtain ⟨_, hz, hnc, hcm⟩ := ints_rd H.words
  obtain ⟨c2, c3, _⟩ := ownl_cap hm
  have hll := hm.length
  have e1 : ((B : Int)).toNat = B := by omega
  have HD := hidden (deed_write (ls := ls) (b := (B : Int)) (k := k) (zs := zs) ho)
  have hr0 := (ints_rd h).1
  rcases hr0.cases with h' | ⟨bz, oz, rfl, hbz, hcz0⟩
  · omega
  have hgz : bz ≠ g := hg _ rfl
  have HZ := hidden hcz0
  clear hcz0
  have o1 : ¬ o = 1 := by omega
  go_enter Try.func56, Try.ntmps56
  go_upto_region 7 with fail
  all_goals
    generalize ((w.alloc (.cells #[.int .i64 o, .int .i64 d, .int .i64 (B : Int), .int .i64 k, .slice (some ⟨bz, oz, none⟩) n cap] 37)).alloc (.cells #[.int .i64 0, .int .i64 0, .slice none 0 0] 44)).alloc (.cells #[.int .i64 d, .int .i64 0, .slice none 0 0] 44) = W at H ⊢
    have zc := H.cmd.lt
    have zr := H.res.lt
    have za := H.ans.lt
    have gw := H.gw
    obtain ⟨x0, x1, x2, x3, x4⟩ := H.cmd.cells5
    go_wp2
    go_loopw [6] (fun i wr => ∃ j : Nat, j ≤ n ∧ i = .int .i64 j ∧ OwnL wr g nl cl (over ls B (zs.take j)) ∧ But g (g + 1) W wr) (fun i _ => n - (intOf i).toNat)
    case atStart => exact ⟨0, Nat.zero_le _, rfl, by rw [List.take_zero, over_nil]; exact H.own, But.refl _ _ _⟩
    case round =>
      obtain ⟨j, hj, rfl, ho, hb⟩ := hrel
      have X2 := H.cmd.kept (hb.block _ H.cmd.lt (.inr (by omega)))
      have zW := H.bel.size
      have s1 := hb.size
      clear x0 x1 x2 x3 x4
      obtain ⟨x0, x1, x2, x3, x4⟩ := X2.cells5
      have HR := hidden H
      by_cases hjl : j < n
      · have hzj : zs[j]? = some (zs[j]'(by omega)) := List.getElem?_eq_getElem (by omega)
        generalize zs[j]'(by omega) = x at hzj
        have hcz := HZ.out j (by omega)
        rw [List.getD_eq_getElem?_getD, hzj] at hcz
        have hcj : wr.cell? ⟨bz, oz + j, none⟩ = some (.int .i64 x) := (cell_kept (hb.block bz (by omega) (by omega)) _).trans ((H.bel.cell (p := ⟨bz, oz + j, none⟩) hbz).trans hcz)
        obtain ⟨m0, m1, ho2, hb2⟩ := ho.store (B + j) (by omega) x
        rw [over_step (ls := ls) (zs := zs) (b := B) (j := j) (x := x) (by omega) hzj] at ho2
        have hwr : IntKind.i64.wrap ((B : Int) + (j : Int)) = (B : Int) + (j : Int) := IntWalk.i64_in _ (by omega)
        have e2 : ((B : Int) + (j : Int)).toNat = B + j := by omega
        have q1 : (0 : Int) ≤ (B : Int) + (j : Int) := by omega
        have q2 : (B : Int) + (j : Int) < (nl : Int) := by omega
        have q3 : (j : Int) < (n : Int) := by omega
        have q4 : (0 : Int) ≤ (j : Int) := by omega
        have HO := hidden ho2
        have HB := hidden (hb.trans hb2)
        have HJ := hidden hzj
        clear ho ho2 hb2 hb hcz hzj
        go_wp2_with fail
        go_region
        go_wp2
        go_roundw
        case rel => exact ⟨j + 1, by omega, by go_num, HO.out, HB.out.os, HB.out.tape, HB.out.output, HB.out.size, HB.out.block⟩
        case measure => simp [intOf]; omega
      · obtain rfl : j = n := by omega
        rw [List.take_of_length_le (by omega)] at ho
        have Y2 := H.res.kept (hb.block _ H.res.lt (.inr (by omega)))
        have U2 := H.ans.kept (hb.block _ H.ans.lt (.inr (by omega)))
        have BB := (Turned.ofBelow H.bel [g]).trans hb.turned1
        have HO := hidden ho
        clear ho
        obtain ⟨y0, y1, y2⟩ := Y2.cells3
        obtain ⟨u0, u1, u2⟩ := U2.cells3
        have g0 := Y2.frozen 0
        have g1 := Y2.frozen 1
        have g2 := Y2.frozen 2
        obtain ⟨Y3, T3⟩ := ans_put Y2 (.int .i64 d) (.int .i64 0) (.slice none 0 0)
        have TT := hidden (two14 (Turned.refl [w.heap.size + 1 + 1] _) T3)
        clear T3
        go_wp2
        obtain ⟨v0, v1, v2⟩ := Y3.cells3
        generalize (((wr).setCell ⟨w.heap.size + 1, 0, none⟩ (.int .i64 d)).setCell ⟨w.heap.size + 1, 1, none⟩ (.int .i64 0)).setCell ⟨w.heap.size + 1, 2, none⟩ (.slice none 0 0) = wz at TT v0 v1 v2 ⊢
        refine bodyPost_ret (v := .agg #[.int .i64 d, .int .i64 0, .slice none 0 0]) (by simp [results, Try.results56, go_sem, v0, v1, v2]) rfl ?_
        rw [HD.out, e1]
        exact fin14 BB HO.out (nil_own wr (w.heap.size + 1 + 1 + 1) wr.heap.size) TT.out gw (by omega)

set_option maxRecDepth 20000 in
set_option maxHeartbeats 3200000 in
theorem l14Hit_any (w : World) (B g nl cl : Nat) (ls : List Int) (hm : OwnL w g nl cl ls) (d k : Int) (a : Option Addr) (n cap : Nat) (zs : List Int) (h : tIntS.Rd w [.slice a n cap] zs) (z0 z1 : Int) (hzs : zs = [z0, z1]) (h1 : B < nl) (hg : ∀ x, a = some x → x.block ≠ g) (hq : ls.getD B 0 = z0) :
    Calls Try.prog 56 #[.slice (some ⟨g, 0, none⟩) nl cl, .agg #[.int .i64 5, .int .i64 d, .int .i64 (B : Int), .int .i64 k, .slice a n cap]] w (Done14 w (some ⟨g, 0, none⟩) nl cl [g] d (deedC ls 5 B k zs)) := by
  have H := at14 w g nl cl ls hm 5 d k B a n cap zs h
  obtain ⟨_, hz, hnc, hcm⟩ := ints_rd H.words
  obtain ⟨c2, c3, _⟩ := ownl_cap hm
  have hll := hm.length
  have e1 : ((B : Int)).toNat = B := by omega
  subst hzs
  have hn2 : n = 2 := by simpa using hz.symm
  subst hn2
  have hr0 := (ints_rd h).1
  rcases hr0.cases with h' | ⟨bz, oz, rfl, hbz, hcz⟩
  · simp at h'
  have hgz : bz ≠ g := hg _ rfl
  have i0 := hcz 0 (by simp)
  have i1 := hcz 1 (by simp)
  simp only [List.getD_cons_zero, List.getD_cons_succ, Nat.add_zero] at i0 i1
  have s0 : (0 : Int) ≤ (B : Int) := by omega
  have s1 : (B : Int) < (nl : Int) := by omega
  go_enter Try.func56, Try.ntmps56
  go_upto_region 17 with fail
  generalize ((w.alloc (.cells #[.int .i64 5, .int .i64 d, .int .i64 (B : Int), .int .i64 k, .slice (some ⟨bz, oz, none⟩) 2 cap] 37)).alloc (.cells #[.int .i64 0, .int .i64 0, .slice none 0 0] 44)).alloc (.cells #[.int .i64 d, .int .i64 0, .slice none 0 0] 44) = W at H ⊢
  have zc := H.cmd.lt
  have zr := H.res.lt
  have za := H.ans.lt
  have gw := H.gw
  obtain ⟨x0, x1, x2, x3, x4⟩ := H.cmd.cells5
  obtain ⟨m0, m1, HS, HB⟩ := H.own.store B h1 z1
  have j0 := (H.bel.cell (p := ⟨bz, oz, none⟩) hbz).trans i0
  have j1 := (H.bel.cell (p := ⟨bz, oz + 1, none⟩) hbz).trans i1
  have zW := H.bel.size
  have HH := hidden (deed_hit (ls := ls) (b := (B : Int)) (k := k) (zs := [z0, z1]))
  rw [e1] at HH
  simp only [List.getD_cons_zero, List.getD_cons_succ] at HH
  have HHH := hidden (HH.out hq)
  generalize ls.getD B 0 = y at m0 hq
  have hyb : (y != z0) = false := by simp [hq]
  clear i0 i1 hcz HH
  go_quiet (fail)
  have HS' := hidden HS
  have HB' := hidden HB
  clear HS HB hq
  go_wp2_with fail
  go_region
  have HO : Hid (OwnL ((W.drewN (nq + 1)).setCell ⟨g, B, none⟩ (.int .i64 z1)) g nl cl (ls.set B z1)) := HS'.out
  have hb : But g (g + 1) W ((W.drewN (nq + 1)).setCell ⟨g, B, none⟩ (.int .i64 z1)) := ⟨HB'.out.os, HB'.out.tape, HB'.out.output, HB'.out.size, HB'.out.block⟩
  generalize (W.drewN (nq + 1)).setCell ⟨g, B, none⟩ (.int .i64 z1) = wr at HO hb ⊢
  have s1 := hb.size
  have Y2 := H.res.kept (hb.block _ H.res.lt (.inr (by omega)))
  have U2 := H.ans.kept (hb.block _ H.ans.lt (.inr (by omega)))
  have BB := (Turned.ofBelow H.bel [g]).trans hb.turned1
  obtain ⟨y0, y1, y2⟩ := Y2.cells3
  obtain ⟨u0, u1, u2⟩ := U2.cells3
  have g0 := Y2.frozen 0
  have g1 := Y2.frozen 1
  have g2 := Y2.frozen 2
  obtain ⟨Y3, T3⟩ := ans_put Y2 (.int .i64 d) (.int .i64 0) (.slice none 0 0)
  have TT := hidden (two14 (Turned.refl [w.heap.size + 1 + 1] _) T3)
  clear T3
  go_wp2
  obtain ⟨v0, v1, v2⟩ := Y3.cells3
  generalize (((wr).setCell ⟨w.heap.size + 1, 0, none⟩ (.int .i64 d)).setCell ⟨w.heap.size + 1, 1, none⟩ (.int .i64 0)).setCell ⟨w.heap.size + 1, 2, none⟩ (.slice none 0 0) = wz at TT v0 v1 v2 ⊢
  refine bodyPost_ret (v := .agg #[.int .i64 d, .int .i64 0, .slice none 0 0]) (by simp [results, Try.results56, go_sem, v0, v1, v2]) rfl ?_
  rw [HHH.out]
  exact fin14 BB HO.out (nil_own wr (w.heap.size + 1 + 1 + 1) wr.heap.size) TT.out gw (by omega)

set_option maxRecDepth 20000 in
set_option maxHeartbeats 3200000 in
theorem l14Miss_any (w : World) (B g nl cl : Nat) (ls : List Int) (hm : OwnL w g nl cl ls) (d k : Int) (a : Option Addr) (n cap : Nat) (zs : List Int) (h : tIntS.Rd w [.slice a n cap] zs) (z0 z1 : Int) (hzs : zs = [z0, z1]) (h1 : B < nl) (hg : ∀ x, a = some x → x.block ≠ g) (hq : ¬ ls.getD B 0 = z0) :
    Calls Try.prog 56 #[.slice (some ⟨g, 0, none⟩) nl cl, .agg #[.int .i64 5, .int .i64 d, .int .i64 (B : Int), .int .i64 k, .slice a n cap]] w (Done14 w (some ⟨g, 0, none⟩) nl cl [g] d (deedC ls 5 B k zs)) := by
  have H := at14 w g nl cl ls hm 5 d k B a n cap zs h
  obtain ⟨_, hz, hnc, hcm⟩ := ints_rd H.words
  obtain ⟨c2, c3, _⟩ := ownl_cap hm
  have hll := hm.length
  have e1 : ((B : Int)).toNat = B := by omega
  subst hzs
  have hn2 : n = 2 := by simpa using hz.symm
  subst hn2
  have hr0 := (ints_rd h).1
  rcases hr0.cases with h' | ⟨bz, oz, rfl, hbz, hcz⟩
  · simp at h'
  have hgz : bz ≠ g := hg _ rfl
  have i0 := hcz 0 (by simp)
  have i1 := hcz 1 (by simp)
  simp only [List.getD_cons_zero, List.getD_cons_succ, Nat.add_zero] at i0 i1
  have s0 : (0 : Int) ≤ (B : Int) := by omega
  have s1 : (B : Int) < (nl : Int) := by omega
  go_enter Try.func56, Try.ntmps56
  go_upto_region 17 with fail
  generalize ((w.alloc (.cells #[.int .i64 5, .int .i64 d, .int .i64 (B : Int), .int .i64 k, .slice (some ⟨bz, oz, none⟩) 2 cap] 37)).alloc (.cells #[.int .i64 0, .int .i64 0, .slice none 0 0] 44)).alloc (.cells #[.int .i64 d, .int .i64 0, .slice none 0 0] 44) = W at H ⊢
  have zc := H.cmd.lt
  have zr := H.res.lt
  have za := H.ans.lt
  have gw := H.gw
  obtain ⟨x0, x1, x2, x3, x4⟩ := H.cmd.cells5
  obtain ⟨m0, m1, HS, HB⟩ := H.own.store B h1 z1
  have j0 := (H.bel.cell (p := ⟨bz, oz, none⟩) hbz).trans i0
  have j1 := (H.bel.cell (p := ⟨bz, oz + 1, none⟩) hbz).trans i1
  have zW := H.bel.size
  have HH := hidden (deed_miss (ls := ls) (b := (B : Int)) (k := k) (zs := [z0, z1]))
  rw [e1] at HH
  simp only [List.getD_cons_zero] at HH
  have HHH := hidden (HH.out hq)
  generalize ls.getD B 0 = y at m0 hq
  have hyb : (y != z0) = true := by simp [hq]
  clear i0 i1 hcz HH
  go_quiet (fail)
  clear HS HB hq
  have HO : Hid (OwnL (W.drewN nq) g nl cl ls) := H.own
  have hb : But g (g + 1) W (W.drewN nq) := (But.refl _ _ _).drewN nq
  generalize W.drewN nq = wr at HO hb ⊢
  have s1 := hb.size
  have Y2 := H.res.kept (hb.block _ H.res.lt (.inr (by omega)))
  have U2 := H.ans.kept (hb.block _ H.ans.lt (.inr (by omega)))
  have BB := (Turned.ofBelow H.bel [g]).trans hb.turned1
  obtain ⟨y0, y1, y2⟩ := Y2.cells3
  obtain ⟨u0, u1, u2⟩ := U2.cells3
  have g0 := Y2.frozen 0
  have g1 := Y2.frozen 1
  have g2 := Y2.frozen 2
  have f1 := U2.frozen 1
  obtain ⟨Y3, T3⟩ := ans_put (Y2.other (g := w.heap.size + 1 + 1) (by omega) 1 (.int .i64 4)) (.int .i64 d) (.int .i64 4) (.slice none 0 0)
  have TT := hidden (two14 (u := w.heap.size + 1 + 1) (Turned.setCell (g := w.heap.size + 1 + 1) (w := wr) (j := 1) (.int .i64 4) (by simp)) T3)
  clear T3
  go_wp2
  obtain ⟨v0, v1, v2⟩ := Y3.cells3
  generalize (((wr.setCell ⟨w.heap.size + 1 + 1, 1, none⟩ (.int .i64 4)).setCell ⟨w.heap.size + 1, 0, none⟩ (.int .i64 d)).setCell ⟨w.heap.size + 1, 1, none⟩ (.int .i64 4)).setCell ⟨w.heap.size + 1, 2, none⟩ (.slice none 0 0) = wz at TT v0 v1 v2 ⊢
  refine bodyPost_ret (v := .agg #[.int .i64 d, .int .i64 4, .slice none 0 0]) (by simp [results, Try.results56, go_sem, v0, v1, v2]) rfl ?_
  rw [HHH.out]
  exact fin14 BB HO.out (nil_own wr (w.heap.size + 1 + 1 + 1) wr.heap.size) TT.out gw (by omega)

/-- What the specification does, of what it does not refuse. -/
theorem l14Do_any (w : World) (gn gs : Int) (al : Option Addr) (nl cl : Nat) (ls : List Int) (fp : List Nat) (hm : tIntS.Mine w [.slice al nl cl] ls fp) (o d b k : Int) (a : Option Addr) (n cap : Nat) (zs : List Int) (h : tIntS.Rd w [.slice a n cap] zs) (hg : 0 < n → ∀ x, a = some x → x.block ∉ fp) (hd : denyC gn gs ls o d b k zs = 0) :
    Calls Try.prog 56 #[.slice al nl cl, .agg #[.int .i64 o, .int .i64 d, .int .i64 b, .int .i64 k, .slice a n cap]] w (Done14 w al nl cl fp d (deedC ls o b k zs)) := by
  obtain ⟨hl, hc⟩ := deny_not hd
  obtain ⟨hr, hz, _, _⟩ := ints_rd h
  have ho := code_op hc
  have hbr := blocksN_range gn gs
  have hll := (row_length hm.rd).1
  rcases ints_ow hm.1 with ⟨hv, hx0, hf0⟩ | ⟨g, cap1, hv, hf0, hown⟩
  · exfalso
    subst hx0
    by_cases h4 : o = 4
    · subst h4
      have := flush_room hc
      simp at hl
      omega
    · have := code_room hc h4
      simp at hl
      omega
  simp only [Value.slice.injEq] at hv
  obtain ⟨rfl, rfl, rfl⟩ := hv
  subst hf0
  by_cases h4 : o = 4
  · subst h4
    rw [deed_flush]
    exact l14Flush_any w b g _ _ ls hown d k a n cap zs h
  · obtain ⟨r0, r1, r2, r3⟩ := code_room hc h4
    obtain ⟨B, rfl⟩ : ∃ B : Nat, b = B := ⟨b.toNat, by omega⟩
    obtain ⟨L, hL⟩ : ∃ L : Nat, lenC o k zs = L := ⟨(lenC o k zs).toNat, by omega⟩
    have z1 : 1 ≤ L := by omega
    have z2 : B + L ≤ ls.length := by omega
    have z3 : ls.length ≤ 2097152 := by omega
    by_cases o1 : o = 1
    · subst o1
      have hk := hL
      rw [len1 (.inl rfl)] at hk
      exact l14Read_any w B g _ _ ls hown d k a n cap zs h L hk z1 z2 z3
    · by_cases o2 : o = 2 ∨ o = 3
      · have hk := hL
        rw [len2 o2] at hk
        have hn : n = L := by omega
        subst hn
        exact l14Write_any w B g _ _ ls hown d k a _ cap zs h o o2 (fun x hx e => hg (by omega) x hx (by simp [e])) z1 z2 z3
      · by_cases o6 : o = 6
        · subst o6
          have hk := hL
          rw [len1 (.inr rfl)] at hk
          exact l14Zero_any w B g _ _ ls hown d k a n cap zs h L hk z1 z2 z3
        · obtain rfl : o = 5 := by omega
          have h2 := code_two hc
          obtain ⟨y0, y1, rfl⟩ : ∃ y0 y1, zs = [y0, y1] := by
            match zs, h2 with
            | [y0, y1], _ => exact ⟨y0, y1, rfl⟩
          have hg' : ∀ x, a = some x → x.block ≠ g := fun x hx e => hg (by simp at hz; omega) x hx (by simp [e])
          by_cases hq : ls.getD B 0 = y0
          · exact l14Hit_any w B g _ _ ls hown d k a n cap _ h y0 y1 rfl (by omega) hg' hq
          · exact l14Miss_any w B g _ _ ls hown d k a n cap _ h y0 y1 rfl (by omega) hg' hq

end Go.Proofs.Ytgjomldcnjjpaaa

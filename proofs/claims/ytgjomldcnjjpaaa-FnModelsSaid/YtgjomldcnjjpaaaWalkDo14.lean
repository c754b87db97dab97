/-
  DoCmd and Zeros of both sides answer as the definitions say. Conditions: at most 2097152 blocks and words.
-/
import Derived.Test.YtgjomldcnjjpaaaWalkModelS
namespace Go.Proofs.Ytgjomldcnjjpaaa
open Go.RowKit

/-- What DoCmd answers: the blocks and the words, each in memory of its own. -/
def Did14 (w : World) (nl : Nat) (d : Int) (x : List Int × Int × List Int) (e : Ending) (w' : World) : Prop :=
  ∃ mid a1 c1 a2 m2 c2, e = .returned (.tuple #[.slice a1 nl c1, .agg #[.int .i64 d, .int .i64 x.2.1, .slice a2 m2 c2]]) ∧ tIntS.Own w' w.heap.size mid [.slice a1 nl c1] x.1 ∧ tIntS.Own w' mid w'.heap.size [.slice a2 m2 c2] x.2.2 ∧ w.heap.size ≤ mid ∧ mid ≤ w'.heap.size ∧ Below w.heap.size w w'
/-- What DoCmd has made at its beginning. -/
structure Arg14 (w W : World) (gn gs o d b k : Int) (a : Option Addr) (n cap : Nat) : Prop where
  bel : Below w.heap.size w W
  geo : Box W w.heap.size 25 #[.int .i64 gn, .int .i64 gs]
  cmd : Box W (w.heap.size + 1) 37 #[.int .i64 o, .int .i64 d, .int .i64 b, .int .i64 k, .slice a n cap]
  res : Box W (w.heap.size + 1 + 1) 44 #[.int .i64 0, .int .i64 0, .slice none 0 0]
theorem arg14 (w : World) (gn gs o d b k : Int) (a : Option Addr) (n cap : Nat) : Arg14 w (((w.alloc (.cells #[.int .i64 gn, .int .i64 gs] 25)).alloc (.cells #[.int .i64 o, .int .i64 d, .int .i64 b, .int .i64 k, .slice a n cap] 37)).alloc (.cells #[.int .i64 0, .int .i64 0, .slice none 0 0] 44)) gn gs o d b k a n cap := by
  refine ⟨((new_below w _).alloc (by simp) _).alloc (by simp; omega) _, ((Box.new w _ _).below (new_below _ _) (by simp)).below (new_below _ _) (by simp; omega), ?_, ?_⟩
  · have := (Box.new (w.alloc (.cells #[.int .i64 gn, .int .i64 gs] 25)) 37 #[.int .i64 o, .int .i64 d, .int .i64 b, .int .i64 k, .slice a n cap]).below (new_below _ (.cells #[.int .i64 0, .int .i64 0, .slice none 0 0] 44)) (by simp)
    simpa using this
  · have := Box.new ((w.alloc (.cells #[.int .i64 gn, .int .i64 gs] 25)).alloc (.cells #[.int .i64 o, .int .i64 d, .int .i64 b, .int .i64 k, .slice a n cap] 37)) 44 #[.int .i64 0, .int .i64 0, .slice none 0 0]
    simpa using this
/-- Of words there are the place is elder. -/
theorem Reads.older {kd : IntKind} {w : World} {a : Option Addr} {zs : List Int} {n : Nat} (h : Reads kd w a zs) (hz : zs.length = n) (h0 : 0 < n) : ∀ x, a = some x → x.block < w.heap.size := by
  rcases h with rfl | ⟨b, off, rfl, hlt, _⟩
  · simp at hz
    omega
  · intro x hx
    simp at hx
    subst hx
    exact hlt

set_option maxRecDepth 20000 in
set_option maxHeartbeats 3200000 in
theorem implDoCmd_any (w : World) (gn gs : Int) (al : Option Addr) (nl cl : Nat) (ls : List Int) (hls : tIntS.Rd w [.slice al nl cl] ls) (hnl : nl ≤ 2097152) (o d b k : Int) (a : Option Addr) (n cap : Nat) (zs : List Int) (h : tIntS.Rd w [.slice a n cap] zs) (hn : n ≤ 2097152) :
    Calls Try.prog 27 #[.agg #[.int .i64 gn, .int .i64 gs], .slice al nl cl, .agg #[.int .i64 o, .int .i64 d, .int .i64 b, .int .i64 k, .slice a n cap]] w (Did14 w nl d (doC gn gs ls o d b k zs)) := by
  have H := arg14 w gn gs o d b k a n cap
  go_enter Try.func27, Try.ntmps27
  go_wp2_with fail
  generalize ((w.alloc (.cells #[.int .i64 gn, .int .i64 gs] 25)).alloc (.cells #[.int .i64 o, .int .i64 d, .int .i64 b, .int .i64 k, .slice a n cap] 37)).alloc (.cells #[.int .i64 0, .int .i64 0, .slice none 0 0] 44) = W at H ⊢
  have HL := hls.below H.bel
  have HZ := h.below H.bel
  refine (copyWords_any _ _ _ _ ls HL hnl).mono ?_
  rintro e w1 ⟨a1, c1, rfl, o1, b1⟩
  obtain ⟨fp, m1, r1⟩ := o1.mine
  obtain ⟨hr, hz, _, _⟩ := ints_rd (HZ.below b1)
  have G1 := H.geo.below b1 H.geo.lt
  have X1 := H.cmd.below b1 H.cmd.lt
  have Y1 := H.res.below b1 H.res.lt
  have B1 := Below.andThen H.bel b1
  have hg : 0 < n → ∀ x, a = some x → x.block ∉ fp := fun h0 x hx hm => by
    have e1 := (ints_rd HZ).1.older hz h0 x hx
    have e2 := r1 _ hm
    omega
  obtain ⟨g0, g1⟩ := G1.cells2
  obtain ⟨x0, x1, x2, x3, x4⟩ := X1.cells5
  have s0 := H.bel.size
  have s1 := b1.size
  have zy := H.res.lt
  have zg1 := G1.lt
  have zx1 := X1.lt
  go_wp2_with fail
  refine (do14_any _ gn gs _ _ _ ls fp m1 o d b k _ _ _ zs hz hr hn hg).mono ?_
  rintro e w2 ⟨a2, m2, c2, rfl, o2, M2, t2⟩
  have Y2 := Y1.turned t2 (fun hm => by have := r1 _ hm; omega)
  have HO := hidden o2
  have HM := hidden M2
  have HT := hidden t2
  have HR := hidden r1
  have s2 := t2.size
  clear g0 g1 x0 x1 x2 x3 x4 o1 m1 r1 b1 o2 M2 t2 HL HZ
  have zy2 := Y2.lt
  go_wp2_with fail
  have Y3 := Y2.alloc (.cells #[.int .i64 d, .int .i64 (doC gn gs ls o d b k zs).2.1, .slice a2 m2 c2] 44)
  have U3 := Box.new w2 44 #[.int .i64 d, .int .i64 (doC gn gs ls o d b k zs).2.1, .slice a2 m2 c2]
  have b3 := new_below w2 (.cells #[.int .i64 d, .int .i64 (doC gn gs ls o d b k zs).2.1, .slice a2 m2 c2] 44)
  have e3 : (w2.alloc (.cells #[.int .i64 d, .int .i64 (doC gn gs ls o d b k zs).2.1, .slice a2 m2 c2] 44)).heap.size = w2.heap.size + 1 := by simp
  generalize w2.alloc (.cells #[.int .i64 d, .int .i64 (doC gn gs ls o d b k zs).2.1, .slice a2 m2 c2] 44) = w3 at Y3 U3 b3 e3 ⊢
  obtain ⟨y0, y1, y2⟩ := Y3.cells3
  obtain ⟨u0, u1, u2⟩ := U3.cells3
  have f0 := Y3.frozen 0
  have f1 := Y3.frozen 1
  have f2 := Y3.frozen 2
  have zu := U3.lt
  go_region
  obtain ⟨Y4, T4⟩ := ans_put Y3 (.int .i64 d) (.int .i64 (doC gn gs ls o d b k zs).2.1) (.slice a2 m2 c2)
  have HY : Hid (Box (((w3.setCell ⟨w.heap.size + 1 + 1, 0, none⟩ (.int .i64 d)).setCell ⟨w.heap.size + 1 + 1, 1, none⟩ (.int .i64 (doC gn gs ls o d b k zs).2.1)).setCell ⟨w.heap.size + 1 + 1, 2, none⟩ (.slice a2 m2 c2)).drew (w.heap.size + 1 + 1) 44 #[.int .i64 d, .int .i64 (doC gn gs ls o d b k zs).2.1, .slice a2 m2 c2]) := Y4
  have HQ : Hid (Turned [w.heap.size + 1 + 1] w3 (((w3.setCell ⟨w.heap.size + 1 + 1, 0, none⟩ (.int .i64 d)).setCell ⟨w.heap.size + 1 + 1, 1, none⟩ (.int .i64 (doC gn gs ls o d b k zs).2.1)).setCell ⟨w.heap.size + 1 + 1, 2, none⟩ (.slice a2 m2 c2)).drew) := ⟨T4.os, T4.tape, T4.output, T4.size, T4.block⟩
  clear Y4 T4
  go_wp2
  obtain ⟨v0, v1, v2⟩ := HY.out.cells3
  generalize (((w3.setCell ⟨w.heap.size + 1 + 1, 0, none⟩ (.int .i64 d)).setCell ⟨w.heap.size + 1 + 1, 1, none⟩ (.int .i64 (doC gn gs ls o d b k zs).2.1)).setCell ⟨w.heap.size + 1 + 1, 2, none⟩ (.slice a2 m2 c2)).drew = wz at HQ v0 v1 v2 ⊢
  refine bodyPost_ret (v := .tuple #[.slice a1 nl c1, .agg #[.int .i64 d, .int .i64 (doC gn gs ls o d b k zs).2.1, .slice a2 m2 c2]]) (by simp [results, Try.results27, go_sem, v0, v1, v2]) rfl ?_
  have T5 : Turned [w.heap.size + 1 + 1] w2 wz := (Turned.ofBelow b3 _).trans HQ.out
  refine ⟨w1.heap.size, _, _, _, _, _, rfl, ?_, ?_, by omega, by have := T5.size; omega, ?_⟩
  · exact (HM.out.kept T5 (fun x hx hx' => by have := HR.out x hx; simp at hx'; omega)).own (fun x hx => by have := HR.out x hx; omega)
  · exact ((HO.out.but (T5.but (lo := w.heap.size + 1 + 1) (hi := w.heap.size + 1 + 1 + 1) (by intro x hx; simp at hx; omega)) (.inr (by omega))).widen (Nat.le_refl _) T5.size)
  · exact ⟨T5.os.trans (HT.out.os.trans B1.os), T5.tape.trans (HT.out.tape.trans B1.tape), T5.output.trans (HT.out.output.trans B1.output), by have := T5.size; omega, fun i hi => (T5.block i (by omega) (by simp; omega)).trans ((HT.out.block i (by omega) (fun hm => by have := HR.out i hm; omega)).trans (B1.block i hi))⟩


set_option maxRecDepth 20000 in
set_option maxHeartbeats 3200000 in
theorem specDoCmd_any (w : World) (gn gs : Int) (al : Option Addr) (nl cl : Nat) (ls : List Int) (hls : tIntS.Rd w [.slice al nl cl] ls) (hnl : nl ≤ 2097152) (o d b k : Int) (a : Option Addr) (n cap : Nat) (zs : List Int) (h : tIntS.Rd w [.slice a n cap] zs) (hn : n ≤ 2097152) :
    Calls Try.prog 24 #[.agg #[.int .i64 gn, .int .i64 gs], .slice al nl cl, .agg #[.int .i64 o, .int .i64 d, .int .i64 b, .int .i64 k, .slice a n cap]] w (Did14 w nl d (doC gn gs ls o d b k zs)) := by
  obtain ⟨i0, hi, hz0, hz1, hz2⟩ := info_parts Try.info3
  have H := arg14 w gn gs o d b k a n cap
  have hl := (row_length hls).1
  go_enter Try.func24, Try.ntmps24
  go_upto_region 1 with fail
  generalize ((w.alloc (.cells #[.int .i64 gn, .int .i64 gs] 25)).alloc (.cells #[.int .i64 o, .int .i64 d, .int .i64 b, .int .i64 k, .slice a n cap] 37)).alloc (.cells #[.int .i64 0, .int .i64 0, .slice none 0 0] 44) = W at H ⊢
  have hB2 := new_below W (.cells #[] 3)
  have hO : Owns .i64 3 (W.alloc (.cells #[] 3)) W.heap.size (.slice (some ⟨W.heap.size, 0, none⟩) 0 0) [] := Owns.lit .i64 3 W [] 0 #[] rfl rfl (by unfold maxLen; omega)
  have R2 := (hls.below H.bel).below hB2
  have HZ := h.below H.bel
  have zy := H.res.lt
  have zx := H.cmd.lt
  have zg := H.geo.lt
  go_wp2_with (at_builtin; refine wpList_appAny rfl _ _ 26 rfl W.heap.size i0 Try.underlying26 hi hz0 hz1 hz2 _ [] rfl hO _ nl cl ls rfl R2 (by unfold maxLen; simp; omega) (by simp; omega) (by simp) ?_; intro v' w1 ho1 hb1; obtain ⟨a1, c1, hv1, _⟩ := ho1.shape; rw [List.nil_append] at ho1 hv1; rw [hl] at hv1; subst hv1; have b1 : Below W.heap.size W w1 := hB2.trans hb1; have G1 := H.geo.below b1 zg; have X1 := H.cmd.below b1 zx; obtain ⟨g0, g1⟩ := G1.cells2; obtain ⟨x0, x1, x2, x3, x4⟩ := X1.cells5)
  have Y1 := H.res.below b1 zy
  have o1 := own_ints ho1
  obtain ⟨fp, m1, r1⟩ := o1.mine
  obtain ⟨hr, hz, _, _⟩ := ints_rd (HZ.below b1)
  have B1 := Below.andThen H.bel b1
  have hg : 0 < n → ∀ x, a = some x → x.block ∉ fp := fun h0 x hx hm => by
    have e1 := (ints_rd HZ).1.older hz h0 x hx
    have e2 := r1 _ hm
    omega
  have s0 := H.bel.size
  have s1 := b1.size
  have HR := hidden r1
  have HM1 := hidden m1
  have HL := hidden hl
  have HN := hidden hz
  have hbr := blocksN_range gn gs
  clear ho1 hb1 o1 m1 r1 R2 hO hB2 hl
  refine (specCmdCode_any _ gn gs o d b k _ _ _ zs hz hr hn).mono ?_
  rintro e w2 ⟨rfl, b2⟩
  clear g0 g1 x0 x1 x2 x3 x4
  have G2 := G1.below b2 G1.lt
  obtain ⟨g0, g1⟩ := G2.cells2
  have zg2 := G2.lt
  go_wp2_with fail
  refine (specBlocks_any _ gn gs).mono ?_
  rintro e w3 ⟨rfl, b3⟩
  clear g0 g1
  have b13 := Below.andThen b2 b3
  have X3 := X1.below b13 X1.lt
  have Y3 := Y1.below b13 Y1.lt
  have Z3 := HZ.below (Below.andThen b1 b13)
  have M3 := hidden (HM1.out.below b13)
  have B3 := Below.andThen B1 b13
  have s3 := b13.size
  have zx3 := X3.lt
  have zy3 := Y3.lt
  obtain ⟨x0, x1, x2, x3, x4⟩ := X3.cells5
  clear G1 G2 X1 Y1 b2 b3 B1 hr hg HM1
  by_cases hd : denyC gn gs ls o d b k zs = 0
  · obtain ⟨q1, q2⟩ := deny_not hd
    rw [HL.out] at q1
    have hqb : ((nl : Int) != blocksN gn gs) = false := by simp [q1]
    have hcb : (codeC gn gs o d b k zs != 0) = false := by simp [q2]
    have HD := hidden hd
    clear hd q1 q2
    go_wp2_with fail
    have hx := l14Do_any w3 gn gs _ _ _ ls fp M3.out o d b k _ _ _ zs Z3 (fun h0 x hx hm => by
      have e1 := (ints_rd HZ).1.older HN.out h0 x hx
      have e2 := HR.out _ hm
      omega) HD.out
    rw [← doC_do HD.out] at hx
    refine hx.mono ?_
    rintro e w4 ⟨a2, m2, c2, rfl, o2, M2, t2⟩
    have Y4a := Y3.turned t2 (fun hm => by have := HR.out _ hm; omega)
    have HO := hidden o2
    have HM := hidden M2
    have HT := hidden t2
    have s4 := t2.size
    clear x0 x1 x2 x3 x4 o2 M2 t2 Z3 hx
    have zy4 := Y4a.lt
    go_wp2_with fail
    have Y5 := Y4a.alloc (.cells #[.int .i64 d, .int .i64 (doC gn gs ls o d b k zs).2.1, .slice a2 m2 c2] 44)
    have U5 := Box.new w4 44 #[.int .i64 d, .int .i64 (doC gn gs ls o d b k zs).2.1, .slice a2 m2 c2]
    have b5 := new_below w4 (.cells #[.int .i64 d, .int .i64 (doC gn gs ls o d b k zs).2.1, .slice a2 m2 c2] 44)
    have e5 : (w4.alloc (.cells #[.int .i64 d, .int .i64 (doC gn gs ls o d b k zs).2.1, .slice a2 m2 c2] 44)).heap.size = w4.heap.size + 1 := by simp
    generalize w4.alloc (.cells #[.int .i64 d, .int .i64 (doC gn gs ls o d b k zs).2.1, .slice a2 m2 c2] 44) = w5 at Y5 U5 b5 e5 ⊢
    obtain ⟨y0, y1, y2⟩ := Y5.cells3
    obtain ⟨u0, u1, u2⟩ := U5.cells3
    have f0 := Y5.frozen 0
    have f1 := Y5.frozen 1
    have f2 := Y5.frozen 2
    have zu := U5.lt
    go_region
    obtain ⟨Y6, T6⟩ := ans_put Y5 (.int .i64 d) (.int .i64 (doC gn gs ls o d b k zs).2.1) (.slice a2 m2 c2)
    have HY : Hid (Box (((w5.setCell ⟨w.heap.size + 1 + 1, 0, none⟩ (.int .i64 d)).setCell ⟨w.heap.size + 1 + 1, 1, none⟩ (.int .i64 (doC gn gs ls o d b k zs).2.1)).setCell ⟨w.heap.size + 1 + 1, 2, none⟩ (.slice a2 m2 c2)).drew (w.heap.size + 1 + 1) 44 #[.int .i64 d, .int .i64 (doC gn gs ls o d b k zs).2.1, .slice a2 m2 c2]) := Y6
    have HQ : Hid (Turned [w.heap.size + 1 + 1] w5 (((w5.setCell ⟨w.heap.size + 1 + 1, 0, none⟩ (.int .i64 d)).setCell ⟨w.heap.size + 1 + 1, 1, none⟩ (.int .i64 (doC gn gs ls o d b k zs).2.1)).setCell ⟨w.heap.size + 1 + 1, 2, none⟩ (.slice a2 m2 c2)).drew) := ⟨T6.os, T6.tape, T6.output, T6.size, T6.block⟩
    clear Y6 T6
    go_wp2
    obtain ⟨v0, v1, v2⟩ := HY.out.cells3
    generalize (((w5.setCell ⟨w.heap.size + 1 + 1, 0, none⟩ (.int .i64 d)).setCell ⟨w.heap.size + 1 + 1, 1, none⟩ (.int .i64 (doC gn gs ls o d b k zs).2.1)).setCell ⟨w.heap.size + 1 + 1, 2, none⟩ (.slice a2 m2 c2)).drew = wz at HQ v0 v1 v2 ⊢
    refine bodyPost_ret (v := .tuple #[.slice a1 nl c1, .agg #[.int .i64 d, .int .i64 (doC gn gs ls o d b k zs).2.1, .slice a2 m2 c2]]) (by simp [results, Try.results24, go_sem, v0, v1, v2]) rfl ?_
    have T5 : Turned [w.heap.size + 1 + 1] w4 wz := (Turned.ofBelow b5 _).trans HQ.out
    refine ⟨w1.heap.size, _, _, _, _, _, rfl, ?_, ?_, by omega, by have := T5.size; omega, ?_⟩
    · exact (HM.out.kept T5 (fun x hx hx' => by have := HR.out x hx; simp at hx'; omega)).own (fun x hx => by have := HR.out x hx; omega)
    · exact (((HO.out.widen (lo' := w1.heap.size) (by omega) (Nat.le_refl _)).but (T5.but (lo := w.heap.size + 1 + 1) (hi := w.heap.size + 1 + 1 + 1) (by intro x hx; simp at hx; omega)) (.inr (by omega))).widen (Nat.le_refl _) T5.size)
    · exact ⟨T5.os.trans (HT.out.os.trans B3.os), T5.tape.trans (HT.out.tape.trans B3.tape), T5.output.trans (HT.out.output.trans B3.output), by have := T5.size; omega, fun i hi => (T5.block i (by omega) (by simp; omega)).trans ((HT.out.block i (by omega) (fun hm => by have := HR.out i hm; omega)).trans (B3.block i hi))⟩
  · by_cases hq : (nl : Int) = blocksN gn gs
    · have hqb : ((nl : Int) != blocksN gn gs) = false := by simp [hq]
      have hdc := deny_code (o := o) (d := d) (b := b) (k := k) (zs := zs) (HL.out.symm ▸ hq : (ls.length : Int) = blocksN gn gs)
      have HD := hidden (doC_deny hd)
      rw [hdc] at hd HD
      have hcb : (codeC gn gs o d b k zs != 0) = true := by simp [hd]
      clear hdc hd hq
      obtain ⟨y0, y1, y2⟩ := Y3.cells3
      have f0 := Y3.frozen 0
      have f1 := Y3.frozen 1
      have f2 := Y3.frozen 2
      go_wp2_with fail
      go_region
      obtain ⟨Y6, T6⟩ := ans_put Y3 (.int .i64 d) (.int .i64 (codeC gn gs o d b k zs)) (.slice none 0 0)
      have HY : Hid (Box (((w3.setCell ⟨w.heap.size + 1 + 1, 0, none⟩ (.int .i64 d)).setCell ⟨w.heap.size + 1 + 1, 1, none⟩ (.int .i64 (codeC gn gs o d b k zs))).setCell ⟨w.heap.size + 1 + 1, 2, none⟩ (.slice none 0 0)).drew (w.heap.size + 1 + 1) 44 #[.int .i64 d, .int .i64 (codeC gn gs o d b k zs), .slice none 0 0]) := Y6
      have HQ : Hid (Turned [w.heap.size + 1 + 1] w3 (((w3.setCell ⟨w.heap.size + 1 + 1, 0, none⟩ (.int .i64 d)).setCell ⟨w.heap.size + 1 + 1, 1, none⟩ (.int .i64 (codeC gn gs o d b k zs))).setCell ⟨w.heap.size + 1 + 1, 2, none⟩ (.slice none 0 0)).drew) := ⟨T6.os, T6.tape, T6.output, T6.size, T6.block⟩
      clear Y6 T6
      go_wp2
      obtain ⟨v0, v1, v2⟩ := HY.out.cells3
      generalize (((w3.setCell ⟨w.heap.size + 1 + 1, 0, none⟩ (.int .i64 d)).setCell ⟨w.heap.size + 1 + 1, 1, none⟩ (.int .i64 (codeC gn gs o d b k zs))).setCell ⟨w.heap.size + 1 + 1, 2, none⟩ (.slice none 0 0)).drew = wz at HQ v0 v1 v2 ⊢
      refine bodyPost_ret (v := .tuple #[.slice a1 nl c1, .agg #[.int .i64 d, .int .i64 (codeC gn gs o d b k zs), .slice none 0 0]]) (by simp [results, Try.results24, go_sem, v0, v1, v2]) rfl ?_
      have T5 := HQ.out
      rw [HD.out]
      refine ⟨w1.heap.size, _, _, _, _, _, rfl, ?_, nil_own _ _ _, by omega, by have := T5.size; omega, ?_⟩
      · exact (M3.out.kept T5 (fun x hx hx' => by have := HR.out x hx; simp at hx'; omega)).own (fun x hx => by have := HR.out x hx; omega)
      · exact ⟨T5.os.trans B3.os, T5.tape.trans B3.tape, T5.output.trans B3.output, by have := T5.size; omega, fun i hi => (T5.block i (by omega) (by simp; omega)).trans (B3.block i hi)⟩

    · have hqb : ((nl : Int) != blocksN gn gs) = true := by simp [hq]
      have hdc := deny_len (o := o) (d := d) (b := b) (k := k) (zs := zs) (fun h => hq (HL.out ▸ h) : ¬ (ls.length : Int) = blocksN gn gs)
      have HD := hidden (doC_deny hd)
      rw [hdc] at hd HD
      clear hdc hd hq
      obtain ⟨y0, y1, y2⟩ := Y3.cells3
      have f0 := Y3.frozen 0
      have f1 := Y3.frozen 1
      have f2 := Y3.frozen 2
      go_wp2_with fail
      go_region
      obtain ⟨Y6, T6⟩ := ans_put Y3 (.int .i64 d) (.int .i64 1) (.slice none 0 0)
      have HY : Hid (Box (((w3.setCell ⟨w.heap.size + 1 + 1, 0, none⟩ (.int .i64 d)).setCell ⟨w.heap.size + 1 + 1, 1, none⟩ (.int .i64 1)).setCell ⟨w.heap.size + 1 + 1, 2, none⟩ (.slice none 0 0)).drew (w.heap.size + 1 + 1) 44 #[.int .i64 d, .int .i64 1, .slice none 0 0]) := Y6
      have HQ : Hid (Turned [w.heap.size + 1 + 1] w3 (((w3.setCell ⟨w.heap.size + 1 + 1, 0, none⟩ (.int .i64 d)).setCell ⟨w.heap.size + 1 + 1, 1, none⟩ (.int .i64 1)).setCell ⟨w.heap.size + 1 + 1, 2, none⟩ (.slice none 0 0)).drew) := ⟨T6.os, T6.tape, T6.output, T6.size, T6.block⟩
      clear Y6 T6
      go_wp2
      obtain ⟨v0, v1, v2⟩ := HY.out.cells3
      generalize (((w3.setCell ⟨w.heap.size + 1 + 1, 0, none⟩ (.int .i64 d)).setCell ⟨w.heap.size + 1 + 1, 1, none⟩ (.int .i64 1)).setCell ⟨w.heap.size + 1 + 1, 2, none⟩ (.slice none 0 0)).drew = wz at HQ v0 v1 v2 ⊢
      refine bodyPost_ret (v := .tuple #[.slice a1 nl c1, .agg #[.int .i64 d, .int .i64 1, .slice none 0 0]]) (by simp [results, Try.results24, go_sem, v0, v1, v2]) rfl ?_
      have T5 := HQ.out
      rw [HD.out]
      refine ⟨w1.heap.size, _, _, _, _, _, rfl, ?_, nil_own _ _ _, by omega, by have := T5.size; omega, ?_⟩
      · exact (M3.out.kept T5 (fun x hx hx' => by have := HR.out x hx; simp at hx'; omega)).own (fun x hx => by have := HR.out x hx; omega)
      · exact ⟨T5.os.trans B3.os, T5.tape.trans B3.tape, T5.output.trans B3.output, by have := T5.size; omega, fun i hi => (T5.block i (by omega) (by simp; omega)).trans (B3.block i hi)⟩

end Go.Proofs.Ytgjomldcnjjpaaa

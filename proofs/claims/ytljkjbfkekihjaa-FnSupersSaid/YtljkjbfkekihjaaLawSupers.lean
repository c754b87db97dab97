/-
  The walk of the law that what a disk knows comes back of its words, and that of what it holds the newer one that is right counts: whatever bytes it draws from, it answers true, and nothing that was there has turned. No condition.
-/
import Derived.Test.YtljkjbfkekihjaaWalkL4Mem
import Derived.Test.YtljkjbfkekihjaaWalkBest
namespace Go.Proofs.Ytljkjbfkekihjaa
open Go.RowKit

set_option maxHeartbeats 1600000 in
theorem drawPutSuper_any (w : World) (a : Option Addr) (lb cb : Nat) (zs : List Int) (hz : zs.length = lb) (hr : Reads .u8 w a zs) (hby : ∀ n ∈ zs, 0 ≤ n ∧ n ≤ 255) (hlb : lb ≤ 2097152) :
    Calls Try.prog 10 #[.slice a lb cb] w fun e w' => ∃ x : Sup, e = .returned (.agg #[.int .i64 x.id, .int .i64 x.gen, .int .i64 x.role, .int .i64 x.n, .int .i64 x.s, .int .i64 x.tail, .int .i64 x.lost, .int .i64 x.built]) ∧ Below w.heap.size w w' := by
  have hA := new_below w (.cells #[.int .i64 0, .int .i64 0, .int .i64 0, .int .i64 0, .int .i64 0, .int .i64 0, .int .i64 0, .int .i64 0] 25)
  have X := Box.new w 25 #[.int .i64 0, .int .i64 0, .int .i64 0, .int .i64 0, .int .i64 0, .int .i64 0, .int .i64 0, .int .i64 0]
  have zA := X.lt
  go_enter Try.func10, Try.ntmps10
  go_wp2_with fail
  generalize w.alloc (.cells #[.int .i64 0, .int .i64 0, .int .i64 0, .int .i64 0, .int .i64 0, .int .i64 0, .int .i64 0, .int .i64 0] 25) = W at hA X zA ⊢
  refine (l1New_any _ _ _ _ zs hz (hr.below hA) hlb).mono ?_
  rintro e w1 ⟨rfl, hc1, hb1⟩
  have D1 : Draws w1 W.heap.size a lb cb zs := ⟨hc1, hz, (hr.below hA).below hb1, hby, hlb, (hr.below hA).ahead hz⟩
  have B1 := Below.andThen hA hb1
  have X1 := X.below hb1 zA
  have z1 := X1.lt
  clear hc1 hA X hb1
  go_wp2_with fail
  refine (l4Any_any D1).mono ?_
  rintro e w2 ⟨x, rfl, D2, b2⟩
  have X2 := X1.kept (b2.block _ z1 (.inl zA))
  have B2 := Below.andBut B1 b2 (by omega)
  clear D1 X1 B1 b2
  obtain ⟨x0, x1, x2, x3, x4, x5, x6, x7⟩ := X2.cells8
  have fx := X2.frozen
  have K := hidden (Below.andBut B2 (set8_but w2 w.heap.size (.int .i64 x.id) (.int .i64 x.gen) (.int .i64 x.role) (.int .i64 x.n) (.int .i64 x.s) (.int .i64 x.tail) (.int .i64 x.lost) (.int .i64 x.built)) (Nat.le_refl _))
  unfold set8 at K
  clear X2 B2 D2
  go_wp2
  refine bodyPost_ret (v := .agg #[.int .i64 x.id, .int .i64 x.gen, .int .i64 x.role, .int .i64 x.n, .int .i64 x.s, .int .i64 x.tail, .int .i64 x.lost, .int .i64 x.built]) (by simp [results, Try.results10, go_sem, x0, x1, x2, x3, x4, x5, x6, x7]) rfl ?_
  exact ⟨x, rfl, K.out⟩

set_option maxHeartbeats 1600000 in
theorem drawBestSuper_any (w : World) (a : Option Addr) (lb cb : Nat) (zs : List Int) (hz : zs.length = lb) (hr : Reads .u8 w a zs) (hby : ∀ n ∈ zs, 0 ≤ n ∧ n ≤ 255) (hlb : lb ≤ 2097152) :
    Calls Try.prog 15 #[.slice a lb cb] w fun e w' => ∃ a0 n0 c0 a1 n1 c1 a3 n3 c3 ss cs f bs id, e = .returned (.tuple #[.agg #[.slice a0 n0 c0, .slice a1 n1 c1, .bool f, .slice a3 n3 c3], .int .i64 id]) ∧ tIntSS.Rd w' [.slice a0 n0 c0] ss ∧ (tWrS 81).Rd w' [.slice a1 n1 c1] cs ∧ tIntS.Rd w' [.slice a3 n3 c3] bs ∧ wtMem (ss, cs, f, bs) ≤ 2100 ∧ Below w.heap.size w w' := by
  have hA := new_below w (.cells #[.slice none 0 0, .slice none 0 0, .bool false, .slice none 0 0] 35)
  have X := Box.new w 35 #[.slice none 0 0, .slice none 0 0, .bool false, .slice none 0 0]
  have zA := X.lt
  go_enter Try.func15, Try.ntmps15
  go_wp2_with fail
  generalize w.alloc (.cells #[.slice none 0 0, .slice none 0 0, .bool false, .slice none 0 0] 35) = W at hA X zA ⊢
  refine (l1New_any _ _ _ _ zs hz (hr.below hA) hlb).mono ?_
  rintro e w1 ⟨rfl, hc1, hb1⟩
  have D1 : Draws w1 W.heap.size a lb cb zs := ⟨hc1, hz, (hr.below hA).below hb1, hby, hlb, (hr.below hA).ahead hz⟩
  have B1 := Below.andThen hA hb1
  have X1 := X.below hb1 zA
  have z1 := X1.lt
  have zc := D1.lt
  clear hc1 hA X hb1
  go_wp2_with fail
  refine (l4Mem_any D1).mono ?_
  rintro e w2 ⟨a0, n0, c0, a1, n1, c1, a3, n3, c3, ss, cs, f, bs, rfl, i0, i1, i3, hwt, D2, b2⟩
  have X2 := X1.kept (b2.block _ z1 (.inl zA))
  have B2 := Below.andBut B1 b2 (by omega)
  clear D1 X1 B1 b2
  go_wp2_with fail
  refine (dBelow D2 3 (by omega) (by omega)).mono ?_
  rintro e w3 ⟨y, rfl, hy0, hy1, D3, b3⟩
  have X3 := X2.kept (b3.block _ X2.lt (.inl zA))
  have B3 := Below.andBut B2 b3 (by omega)
  have j0 := i0.but b3 (.inr (by omega))
  have j1 := i1.but b3 (.inr (by omega))
  have j3 := i3.but b3 (.inr (by omega))
  clear D2 X2 B2 b3 i0 i1 i3
  have gw : IntKind.i64.wrap (1 + y) = 1 + y := IntWalk.i64_in _ (by omega)
  obtain ⟨x0, x1, x2, x3⟩ := X3.cells4
  have fx := X3.frozen
  have hbt := set4_but w3 w.heap.size (.slice a0 n0 c0) (.slice a1 n1 c1) (.bool f) (.slice a3 n3 c3)
  have K := hidden (And.intro (j0.but hbt (.inr (by omega))).rd (And.intro (j1.but hbt (.inr (by omega))).rd (And.intro (j3.but hbt (.inr (by omega))).rd (Below.andBut B3 hbt (Nat.le_refl _)))))
  unfold set4 at K
  clear X3 B3 D3 j0 j1 j3 hbt
  go_wp2
  refine bodyPost_ret (v := .tuple #[.agg #[.slice a0 n0 c0, .slice a1 n1 c1, .bool f, .slice a3 n3 c3], .int .i64 (1 + y)]) (by simp [results, Try.results15, go_sem, x0, x1, x2, x3]) rfl ?_
  exact ⟨_, _, _, _, _, _, _, _, _, ss, cs, f, bs, _, rfl, K.out.1, K.out.2.1, K.out.2.2.1, hwt, K.out.2.2.2⟩

set_option maxHeartbeats 1600000 in
theorem drawWriteSuper_any (w : World) (a : Option Addr) (lb cb : Nat) (zs : List Int) (hz : zs.length = lb) (hr : Reads .u8 w a zs) (hby : ∀ n ∈ zs, 0 ≤ n ∧ n ≤ 255) (hlb : lb ≤ 2097152) :
    Calls Try.prog 21 #[.slice a lb cb] w fun e w' => ∃ a0 n0 c0 a1 n1 c1 a3 n3 c3 ss cs f bs, ∃ x : Sup, e = .returned (.tuple #[.agg #[.slice a0 n0 c0, .slice a1 n1 c1, .bool f, .slice a3 n3 c3], .agg #[.int .i64 x.id, .int .i64 x.gen, .int .i64 x.role, .int .i64 x.n, .int .i64 x.s, .int .i64 x.tail, .int .i64 x.lost, .int .i64 x.built]]) ∧ tIntSS.Rd w' [.slice a0 n0 c0] ss ∧ (tWrS 81).Rd w' [.slice a1 n1 c1] cs ∧ tIntS.Rd w' [.slice a3 n3 c3] bs ∧ wtMem (ss, cs, f, bs) ≤ 2100 ∧ Below w.heap.size w w' := by
  have hA := (new_below w (.cells #[.slice none 0 0, .slice none 0 0, .bool false, .slice none 0 0] 35)).alloc (by simp) (.cells #[.int .i64 0, .int .i64 0, .int .i64 0, .int .i64 0, .int .i64 0, .int .i64 0, .int .i64 0, .int .i64 0] 25)
  have X := (Box.new w 35 #[.slice none 0 0, .slice none 0 0, .bool false, .slice none 0 0]).alloc (.cells #[.int .i64 0, .int .i64 0, .int .i64 0, .int .i64 0, .int .i64 0, .int .i64 0, .int .i64 0, .int .i64 0] 25)
  have S := Box.new (w.alloc (.cells #[.slice none 0 0, .slice none 0 0, .bool false, .slice none 0 0] 35)) 25 #[.int .i64 0, .int .i64 0, .int .i64 0, .int .i64 0, .int .i64 0, .int .i64 0, .int .i64 0, .int .i64 0]
  rw [World.size_alloc] at S
  have zA := X.lt
  have zS := S.lt
  go_enter Try.func21, Try.ntmps21
  go_wp2_with fail
  generalize (w.alloc (.cells #[.slice none 0 0, .slice none 0 0, .bool false, .slice none 0 0] 35)).alloc (.cells #[.int .i64 0, .int .i64 0, .int .i64 0, .int .i64 0, .int .i64 0, .int .i64 0, .int .i64 0, .int .i64 0] 25) = W at hA X S zA zS ⊢
  refine (l1New_any _ _ _ _ zs hz (hr.below hA) hlb).mono ?_
  rintro e w1 ⟨rfl, hc1, hb1⟩
  have D1 : Draws w1 W.heap.size a lb cb zs := ⟨hc1, hz, (hr.below hA).below hb1, hby, hlb, (hr.below hA).ahead hz⟩
  have B1 := Below.andThen hA hb1
  have X1 := X.below hb1 zA
  have S1 := S.below hb1 zS
  have zc := D1.lt
  clear hc1 hA X S hb1
  go_wp2_with fail
  refine (l4Mem_any D1).mono ?_
  rintro e w2 ⟨a0, n0, c0, a1, n1, c1, a3, n3, c3, ss, cs, f, bs, rfl, i0, i1, i3, hwt, D2, b2⟩
  have X2 := X1.kept (b2.block _ X1.lt (.inl zA))
  have S2 := S1.kept (b2.block _ S1.lt (.inl zS))
  have B2 := Below.andBut B1 b2 (by omega)
  clear D1 X1 S1 B1 b2
  go_wp2_with fail
  refine (l4Any_any D2).mono ?_
  rintro e w3 ⟨x, rfl, D3, b3⟩
  have X3 := X2.kept (b3.block _ X2.lt (.inl zA))
  have S3 := S2.kept (b3.block _ S2.lt (.inl zS))
  have B3 := Below.andBut B2 b3 (by omega)
  have j0 := i0.but b3 (.inr (by omega))
  have j1 := i1.but b3 (.inr (by omega))
  have j3 := i3.but b3 (.inr (by omega))
  clear D2 X2 S2 B2 b3 i0 i1 i3
  obtain ⟨x0, x1, x2, x3⟩ := X3.cells4
  have fx := X3.frozen
  have hbt := set4_but w3 w.heap.size (.slice a0 n0 c0) (.slice a1 n1 c1) (.bool f) (.slice a3 n3 c3)
  have S4 := S3.kept (hbt.block _ S3.lt (.inr (Nat.le_refl _)))
  have X4 := set4_box X3 (.slice a0 n0 c0) (.slice a1 n1 c1) (.bool f) (.slice a3 n3 c3)
  have l0 := j0.but hbt (.inr (by omega))
  have l1 := j1.but hbt (.inr (by omega))
  have l3 := j3.but hbt (.inr (by omega))
  have B4 := Below.andBut B3 hbt (Nat.le_refl _)
  obtain ⟨s0, s1, s2, s3, s4, s5, s6, s7⟩ := S4.cells8
  have fs := S4.frozen
  have hbu := set8_but (set4 w3 w.heap.size (.slice a0 n0 c0) (.slice a1 n1 c1) (.bool f) (.slice a3 n3 c3)) (w.heap.size + 1) (.int .i64 x.id) (.int .i64 x.gen) (.int .i64 x.role) (.int .i64 x.n) (.int .i64 x.s) (.int .i64 x.tail) (.int .i64 x.lost) (.int .i64 x.built)
  have X5 := X4.kept (hbu.block _ X4.lt (.inl (by omega)))
  have S5 := set8_box S4 (.int .i64 x.id) (.int .i64 x.gen) (.int .i64 x.role) (.int .i64 x.n) (.int .i64 x.s) (.int .i64 x.tail) (.int .i64 x.lost) (.int .i64 x.built)
  obtain ⟨y0, y1, y2, y3⟩ := X5.cells4
  obtain ⟨z0, z1, z2, z3, z4, z5, z6, z7⟩ := S5.cells8
  have K := hidden (And.intro (l0.but hbu (.inr (by omega))).rd (And.intro (l1.but hbu (.inr (by omega))).rd (And.intro (l3.but hbu (.inr (by omega))).rd (Below.andBut B4 hbu (by omega)))))
  unfold set4 at s0 s1 s2 s3 s4 s5 s6 s7 fs
  unfold set8 set4 at K y0 y1 y2 y3 z0 z1 z2 z3 z4 z5 z6 z7
  clear X3 X4 X5 S3 S4 S5 B3 B4 D3 j0 j1 j3 l0 l1 l3 hbt hbu
  go_wp2
  refine bodyPost_ret (v := .tuple #[.agg #[.slice a0 n0 c0, .slice a1 n1 c1, .bool f, .slice a3 n3 c3], .agg #[.int .i64 x.id, .int .i64 x.gen, .int .i64 x.role, .int .i64 x.n, .int .i64 x.s, .int .i64 x.tail, .int .i64 x.lost, .int .i64 x.built]]) (by simp [results, Try.results21, go_sem, y0, y1, y2, y3, z0, z1, z2, z3, z4, z5, z6, z7]) rfl ?_
  exact ⟨_, _, _, _, _, _, _, _, _, ss, cs, f, bs, x, rfl, K.out.1, K.out.2.1, K.out.2.2.1, hwt, K.out.2.2.2⟩


theorem bytes_of_wf5 {zs : List Int} (h : ∀ n ∈ zs, (Lit.int .u8 n).wf = true) : ∀ n ∈ zs, 0 ≤ n ∧ n ≤ 255 := by
  intro n hn
  have := h n hn
  simp [Lit.wf, IntKind.min, IntKind.max, IntKind.signed, IntKind.bits] at this
  omega

theorem big_any5 (a : Option Addr) (len cap : Nat) (w : World) : Calls Try.prog 9 #[.slice a len cap] w fun e w' => e = .returned (.bool (decide (1048576 < (len : Int)))) ∧ w = w' := by
  go_enter Try.func9, Try.ntmps9
  go_wp2
  go_ret
  exact ⟨rfl, rfl⟩

theorem put_get5 {x : Sup} (h : supB x = true) : getB (putD x) = true ∧ getD (putD x) = x := by
  have hs := supB_iff.1 h
  have hw : IntKind.i64.wrap (x.lost + 1 - 1) = x.lost := by
    rw [show x.lost + 1 - 1 = x.lost by omega]
    exact IntWalk.i64_in _ (by omega)
  have ho : ofW (putD x) = x := by
    rw [putD_of h]
    unfold ofW
    simp only [List.getD_cons_succ, List.getD_cons_zero]
    rw [hw]
  have hb : getB (putD x) = true := by
    unfold getB
    rw [ho, h, putD_of h]
    rfl
  exact ⟨hb, by rw [getD_of hb, ho]⟩


theorem Reads.take4 {k : IntKind} {w : World} {a : Option Addr} {zs : List Int} (h : Reads k w a zs) (n : Nat) : Reads k w a (zs.take n) := by
  rcases h with h | ⟨b, off, ha, hlt, hc⟩
  · exact .inl (by rw [h]; simp)
  · refine .inr ⟨b, off, ha, hlt, fun i hi => ?_⟩
    rw [List.length_take] at hi
    rw [hc i (by omega), List.getD_eq_getElem?_getD, List.getD_eq_getElem?_getD, List.getElem?_take, if_pos (by omega)]
/-- Words that are taken are those that are put of it. -/
theorem get_put {ps : List Int} (h : getB ps = true) (hr : ∀ z ∈ ps, -1 ≤ z ∧ z ≤ 60001) : supB (getD ps) = true ∧ putD (getD ps) = ps := by
  have hg := getD_of h
  unfold getB at h
  simp only [Bool.and_eq_true, decide_eq_true_eq] at h
  obtain ⟨h9, h0, hs⟩ := h
  obtain ⟨z0, z1, z2, z3, z4, z5, z6, z7, z8, rfl⟩ := nine9 h9
  rw [hg]
  refine ⟨hs, ?_⟩
  rw [putD_of hs]
  have h7 := hr z7 (by simp)
  have hw : IntKind.i64.wrap (z7 - 1) = z7 - 1 := IntWalk.i64_in _ (by omega)
  simp only [List.getD_cons_zero] at h0
  subst h0
  unfold ofW
  simp only [List.getD_cons_succ, List.getD_cons_zero]
  rw [hw]
  simp

set_option maxHeartbeats 1600000 in
theorem specPutSuper_ok (w : World) (x : Sup) (hx : supB x = true) : Calls Try.prog 26 #[.agg #[.int .i64 x.id, .int .i64 x.gen, .int .i64 x.role, .int .i64 x.n, .int .i64 x.s, .int .i64 x.tail, .int .i64 x.lost, .int .i64 x.built]] w fun e w' => ∃ b : Nat, e = .returned (.slice (some ⟨b, 0, none⟩) 9 9) ∧ w.heap.size ≤ b ∧ Own .i64 3 w' b (b + 1) (.slice (some ⟨b, 0, none⟩) 9 9) [21317, x.id, x.gen, x.role, x.n, x.s, x.tail, x.lost + 1, x.built] ∧ Below w.heap.size w w' := by
  have hA := new_below w (.cells #[.int .i64 x.id, .int .i64 x.gen, .int .i64 x.role, .int .i64 x.n, .int .i64 x.s, .int .i64 x.tail, .int .i64 x.lost, .int .i64 x.built] 25)
  have X := Box.new w 25 #[.int .i64 x.id, .int .i64 x.gen, .int .i64 x.role, .int .i64 x.n, .int .i64 x.s, .int .i64 x.tail, .int .i64 x.lost, .int .i64 x.built]
  obtain ⟨k0, k1, k2, k3, k4, k5, k6, k7⟩ := X.cells8
  have zA := X.lt
  go_enter Try.func26, Try.ntmps26
  go_wp2_with fail
  generalize w.alloc (.cells #[.int .i64 x.id, .int .i64 x.gen, .int .i64 x.role, .int .i64 x.n, .int .i64 x.s, .int .i64 x.tail, .int .i64 x.lost, .int .i64 x.built] 25) = W at hA X k0 k1 k2 k3 k4 k5 k6 k7 zA ⊢
  refine (specSuperOk_any _ _).mono ?_
  rintro e w1 ⟨rfl, b1⟩
  have X1 := X.below b1 zA
  have B1 := Below.andThen hA b1
  clear k0 k1 k2 k3 k4 k5 k6 k7 X b1 hA zA
  obtain ⟨k0, k1, k2, k3, k4, k5, k6, k7⟩ := X1.cells8
  have gw : IntKind.i64.wrap (x.lost + 1) = x.lost + 1 := IntWalk.i64_in _ (by have := supB_iff.1 hx; omega)
  go_wp2
  go_ret
  refine ⟨w1.heap.size, rfl, B1.size, ⟨Owns.lit .i64 3 w1 [21317, x.id, x.gen, x.role, x.n, x.s, x.tail, x.lost + 1, x.built] 9 _ (by simp) rfl (by unfold maxLen; omega), fun g hg => ?_⟩, B1.alloc B1.size _⟩
  simp [Value.ownBlock] at hg
  omega

set_option maxHeartbeats 3200000 in
theorem drawGetSuper_any (w : World) (a : Option Addr) (lb cb : Nat) (zs : List Int) (hz : zs.length = lb) (hr : Reads .u8 w a zs) (hby : ∀ n ∈ zs, 0 ≤ n ∧ n ≤ 255) (hlb : lb ≤ 2097152) :
    Calls Try.prog 12 #[.slice a lb cb] w fun e w' => ∃ (al : Option Addr) (n c : Nat) (ps : List Int), e = .returned (.slice al n c) ∧ Reads .i64 w' al ps ∧ ps.length = n ∧ n ≤ 9 ∧ (∀ z ∈ ps, -1 ≤ z ∧ z ≤ 60001) ∧ Below w.heap.size w w' := by
  go_enter Try.func12, Try.ntmps12
  go_wp2_with fail
  refine (l1New_any _ _ _ _ zs hz hr hlb).mono ?_
  rintro e w1 ⟨rfl, hc1, hb1⟩
  have D1 : Draws w1 w.heap.size a lb cb zs := ⟨hc1, hz, hr.below hb1, hby, hlb, hr.ahead hz⟩
  have z1 := D1.lt
  clear hc1
  go_wp2_with fail
  refine (l4Draw_any D1).mono ?_
  rintro e w2 ⟨x, rfl, hx, D2, b2⟩
  have B2 := Below.andBut hb1 b2 (Nat.le_refl _)
  have z2 := b2.size
  clear D1 hb1 b2
  have hs := supB_iff.1 hx
  have hrg : ∀ z ∈ [21317, x.id, x.gen, x.role, x.n, x.s, x.tail, x.lost + 1, x.built], -1 ≤ z ∧ z ≤ 60001 := by
    intro z hz
    simp only [List.mem_cons, List.not_mem_nil, or_false] at hz
    omega
  go_wp2_with fail
  refine (specPutSuper_ok _ x hx).mono ?_
  rintro e w3 ⟨b, rfl, hb, o3, b3⟩
  have D3 := D2.lower b3 (by omega)
  have B3 := Below.andThen B2 b3
  have z3 := b3.size
  clear D2 B2 b3 hs
  generalize hL : [21317, x.id, x.gen, x.role, x.n, x.s, x.tail, x.lost + 1, x.built] = ls at o3 hrg
  have hl9 : ls.length = 9 := by rw [← hL]; rfl
  clear hL
  go_wp2_with fail
  refine (dBelow D3 4 (by omega) (by omega)).mono ?_
  rintro e w4 ⟨y, rfl, hy0, hy1, D4, b4⟩
  have O4 := o3.but b4 (.inr (by omega))
  have B4 := Below.andBut B3 b4 (Nat.le_refl _)
  have z4 := b4.size
  clear D3 o3 B3 b4
  by_cases c0 : y = 0
  · subst c0
    go_wp2_with fail
    refine (dBelow D4 9 (by omega) (by omega)).mono ?_
    rintro e w5 ⟨i, rfl, hi0, hi1, D5, b5⟩
    have O5 := O4.but b5 (.inr (by omega))
    have B5 := Below.andBut B4 b5 (Nat.le_refl _)
    have z5 := b5.size
    clear D4 O4 B4 b5
    obtain ⟨j, rfl⟩ : ∃ j : Nat, i = (j : Int) := ⟨i.toNat, by omega⟩
    have hj : j < 9 := by omega
    have HR := hidden (Reads.new .i64 w5 3 [0, 1, 4, 9, 60001, -1] _ rfl)
    go_wp2_with fail
    refine (dInt (D5.alloc _) _ 6 _ [0, 1, 4, 9, 60001, -1] rfl HR.out ?hx0 (by omega) (by omega)).mono ?_
    case hx0 => intro x hx; simp at hx; subst hx; exact D5.lt
    rintro e w6 ⟨v, rfl, hv, D6, b6⟩
    have O6 := (O5.below (new_below w5 _)).but b6 (.inr (by omega))
    have B6 := Below.andBut (B5.alloc B5.size _) b6 (Nat.le_refl _)
    clear D5 O5 B5 b6 HR D6
    obtain ⟨cl, fz, O7, b7⟩ := O6.store j hj v
    have B7 := hidden (Below.andBut B6 b7 (by omega))
    have R7 := hidden O7.reads
    have i1 : (0 : Int) ≤ (j : Int) := by omega
    have i2 : (j : Int) < 9 := by omega
    clear O6 O7 b7 B6
    go_wp2
    go_ret
    refine ⟨_, _, _, ls.set j v, rfl, R7.out, by simp [hl9], by omega, fun z hz => ?_, B7.out⟩
    rcases List.mem_or_eq_of_mem_set hz with h | h
    · exact hrg z h
    · subst h
      simp at hv
      omega
  · by_cases c1 : y = 1
    · subst c1
      go_wp2_with fail
      refine (dBelow D4 10 (by omega) (by omega)).mono ?_
      rintro e w5 ⟨i, rfl, hi0, hi1, D5, b5⟩
      have O5 := O4.but b5 (.inr (by omega))
      have B5 := Below.andBut B4 b5 (Nat.le_refl _)
      clear D4 O4 B4 b5
      obtain ⟨j, rfl⟩ : ∃ j : Nat, i = (j : Int) := ⟨i.toNat, by omega⟩
      have hj : j ≤ 9 := by omega
      have i1 : (0 : Int) ≤ (j : Int) := by omega
      have i2 : (j : Int) ≤ 9 := by omega
      have R5 := hidden O5.reads.take4
      clear O5 D5
      go_wp2
      go_ret
      exact ⟨_, _, _, ls.take j, rfl, R5.out j, by simp [hl9]; omega, by omega, fun z hz => hrg z (List.mem_of_mem_take hz), B5⟩
    · have R4 := hidden O4.reads
      clear O4 D4
      go_wp2
      go_ret
      exact ⟨_, _, _, ls, rfl, R4.out, hl9, by omega, hrg, B4⟩


set_option maxRecDepth 20000 in
set_option maxHeartbeats 16000000 in
theorem fnSupers_walk (za : Option Addr) (len0 cap0 : Nat) (z0 : List Int) (w : World) (w0 : IsRow .u8 w za len0 cap0 z0) :
    Calls Try.prog 3 #[.slice za len0 cap0] w fun e w' => e = .returned (.bool true) ∧ Below w.heap.size w w' := by
  obtain ⟨R0, hl, hwf, hml⟩ := w0.reads
  generalize z0.take len0 = zs at R0 hl hwf
  unfold maxLen at hml
  have hby := bytes_of_wf5 hwf
  clear w0 hwf
  by_cases hbig : len0 ≤ 1048576
  rotate_left
  · go_enter Try.func3, Try.ntmps3
    go_wp2_with fail
    refine (big_any5 _ _ _ _).mono ?_
    rintro e wb ⟨rfl, rfl⟩
    go_wp2
    go_ret
    exact ⟨rfl, Below.refl _ _⟩
  have hlb : len0 ≤ 2097152 := by omega
  have R := hidden R0
  have B := hidden (Below.refl w.heap.size w)
  clear R0
  go_enter Try.func3, Try.ntmps3
  go_wp2_with fail
  refine (big_any5 _ _ _ _).mono ?_
  rintro e wb ⟨rfl, rfl⟩
  go_wp2_with fail
  refine (drawPutSuper_any _ _ _ _ zs hl R.out hby hlb).mono ?_
  rintro e w1 ⟨x, rfl, b⟩
  have R' := hidden (R.out.below b)
  have B' := hidden (Below.andThen B.out b)
  clear R B
  have R := R'
  have B := B'
  clear R' B'
  clear b
  have S := Box.new w1 25 #[.int .i64 x.id, .int .i64 x.gen, .int .i64 x.role, .int .i64 x.n, .int .i64 x.s, .int .i64 x.tail, .int .i64 x.lost, .int .i64 x.built]
  have R' := hidden (R.out.below (new_below w1 (.cells #[.int .i64 x.id, .int .i64 x.gen, .int .i64 x.role, .int .i64 x.n, .int .i64 x.s, .int .i64 x.tail, .int .i64 x.lost, .int .i64 x.built] 25)))
  have B' := hidden (Below.andThen B.out (new_below w1 (.cells #[.int .i64 x.id, .int .i64 x.gen, .int .i64 x.role, .int .i64 x.n, .int .i64 x.s, .int .i64 x.tail, .int .i64 x.lost, .int .i64 x.built] 25)))
  clear R B
  have R := R'
  have B := B'
  clear R' B'
  obtain ⟨s0, s1, s2, s3, s4, s5, s6, s7⟩ := S.cells8
  go_wp2_with fail
  generalize w1.alloc (.cells #[.int .i64 x.id, .int .i64 x.gen, .int .i64 x.role, .int .i64 x.n, .int .i64 x.s, .int .i64 x.tail, .int .i64 x.lost, .int .i64 x.built] 25) = v1 at R B S s0 s1 s2 s3 s4 s5 s6 s7 ⊢
  refine (implPutSuper_any _ x).mono ?_
  rintro e w2 ⟨la, ll, lc, rfl, o, b⟩
  clear s0 s1 s2 s3 s4 s5 s6 s7
  have R' := hidden (R.out.below b)
  have B' := hidden (Below.andThen B.out b)
  have S' := S.below b S.lt
  clear R B S
  have R := R'
  have B := B'
  have S := S'
  clear R' B' S'
  have P := hidden o.rd
  clear o b
  go_wp2_with fail
  refine (drawGetSuper_any _ _ _ _ zs hl R.out hby hlb).mono ?_
  rintro e w3 ⟨al, n, c, ps, rfl, rp, hps, hn9, hrg, b⟩
  have R' := hidden (R.out.below b)
  have B' := hidden (Below.andThen B.out b)
  have S' := S.below b S.lt
  have P' := hidden (P.out.below b)
  clear R B S P
  have R := R'
  have B := B'
  have S := S'
  have P := P'
  clear R' B' S' P'
  have Q := hidden rp
  clear rp b
  have hq1 : (getB ps != getB ps) = false := by simp
  have hq2 : (getB ps == getB ps) = true := by simp
  go_wp2_with fail
  refine (implGetSuper_any _ _ _ _ ps Q.out hps (by omega)).mono ?_
  rintro e w4 ⟨rfl, b⟩
  have R' := hidden (R.out.below b)
  have B' := hidden (Below.andThen B.out b)
  have S' := S.below b S.lt
  have P' := hidden (P.out.below b)
  have Q' := hidden (Q.out.below b)
  clear R B S P Q
  have R := R'
  have B := B'
  have S := S'
  have P := P'
  have Q := Q'
  clear R' B' S' P' Q'
  clear b
  have Y := Box.new w4 25 #[.int .i64 (getD ps).id, .int .i64 (getD ps).gen, .int .i64 (getD ps).role, .int .i64 (getD ps).n, .int .i64 (getD ps).s, .int .i64 (getD ps).tail, .int .i64 (getD ps).lost, .int .i64 (getD ps).built]
  have R' := hidden (R.out.below (new_below w4 (.cells #[.int .i64 (getD ps).id, .int .i64 (getD ps).gen, .int .i64 (getD ps).role, .int .i64 (getD ps).n, .int .i64 (getD ps).s, .int .i64 (getD ps).tail, .int .i64 (getD ps).lost, .int .i64 (getD ps).built] 25)))
  have B' := hidden (Below.andThen B.out (new_below w4 (.cells #[.int .i64 (getD ps).id, .int .i64 (getD ps).gen, .int .i64 (getD ps).role, .int .i64 (getD ps).n, .int .i64 (getD ps).s, .int .i64 (getD ps).tail, .int .i64 (getD ps).lost, .int .i64 (getD ps).built] 25)))
  have S' := S.below (new_below w4 (.cells #[.int .i64 (getD ps).id, .int .i64 (getD ps).gen, .int .i64 (getD ps).role, .int .i64 (getD ps).n, .int .i64 (getD ps).s, .int .i64 (getD ps).tail, .int .i64 (getD ps).lost, .int .i64 (getD ps).built] 25)) S.lt
  have P' := hidden (P.out.below (new_below w4 (.cells #[.int .i64 (getD ps).id, .int .i64 (getD ps).gen, .int .i64 (getD ps).role, .int .i64 (getD ps).n, .int .i64 (getD ps).s, .int .i64 (getD ps).tail, .int .i64 (getD ps).lost, .int .i64 (getD ps).built] 25)))
  have Q' := hidden (Q.out.below (new_below w4 (.cells #[.int .i64 (getD ps).id, .int .i64 (getD ps).gen, .int .i64 (getD ps).role, .int .i64 (getD ps).n, .int .i64 (getD ps).s, .int .i64 (getD ps).tail, .int .i64 (getD ps).lost, .int .i64 (getD ps).built] 25)))
  clear R B S P Q
  have R := R'
  have B := B'
  have S := S'
  have P := P'
  have Q := Q'
  clear R' B' S' P' Q'
  go_wp2_with fail
  generalize w4.alloc (.cells #[.int .i64 (getD ps).id, .int .i64 (getD ps).gen, .int .i64 (getD ps).role, .int .i64 (getD ps).n, .int .i64 (getD ps).s, .int .i64 (getD ps).tail, .int .i64 (getD ps).lost, .int .i64 (getD ps).built] 25) = v4 at R B S P Q Y ⊢
  refine (specGetSuper_any _ _ _ _ ps Q.out hps (by omega)).mono ?_
  rintro e w5 ⟨rfl, b⟩
  have R' := hidden (R.out.below b)
  have B' := hidden (Below.andThen B.out b)
  have S' := S.below b S.lt
  have P' := hidden (P.out.below b)
  have Q' := hidden (Q.out.below b)
  have Y' := Y.below b Y.lt
  clear R B S P Q Y
  have R := R'
  have B := B'
  have S := S'
  have P := P'
  have Q := Q'
  have Y := Y'
  clear R' B' S' P' Q' Y'
  clear b
  have Y2 := Box.new w5 25 #[.int .i64 (getD ps).id, .int .i64 (getD ps).gen, .int .i64 (getD ps).role, .int .i64 (getD ps).n, .int .i64 (getD ps).s, .int .i64 (getD ps).tail, .int .i64 (getD ps).lost, .int .i64 (getD ps).built]
  have R' := hidden (R.out.below (new_below w5 (.cells #[.int .i64 (getD ps).id, .int .i64 (getD ps).gen, .int .i64 (getD ps).role, .int .i64 (getD ps).n, .int .i64 (getD ps).s, .int .i64 (getD ps).tail, .int .i64 (getD ps).lost, .int .i64 (getD ps).built] 25)))
  have B' := hidden (Below.andThen B.out (new_below w5 (.cells #[.int .i64 (getD ps).id, .int .i64 (getD ps).gen, .int .i64 (getD ps).role, .int .i64 (getD ps).n, .int .i64 (getD ps).s, .int .i64 (getD ps).tail, .int .i64 (getD ps).lost, .int .i64 (getD ps).built] 25)))
  have S' := S.below (new_below w5 (.cells #[.int .i64 (getD ps).id, .int .i64 (getD ps).gen, .int .i64 (getD ps).role, .int .i64 (getD ps).n, .int .i64 (getD ps).s, .int .i64 (getD ps).tail, .int .i64 (getD ps).lost, .int .i64 (getD ps).built] 25)) S.lt
  have P' := hidden (P.out.below (new_below w5 (.cells #[.int .i64 (getD ps).id, .int .i64 (getD ps).gen, .int .i64 (getD ps).role, .int .i64 (getD ps).n, .int .i64 (getD ps).s, .int .i64 (getD ps).tail, .int .i64 (getD ps).lost, .int .i64 (getD ps).built] 25)))
  have Q' := hidden (Q.out.below (new_below w5 (.cells #[.int .i64 (getD ps).id, .int .i64 (getD ps).gen, .int .i64 (getD ps).role, .int .i64 (getD ps).n, .int .i64 (getD ps).s, .int .i64 (getD ps).tail, .int .i64 (getD ps).lost, .int .i64 (getD ps).built] 25)))
  have Y' := Y.below (new_below w5 (.cells #[.int .i64 (getD ps).id, .int .i64 (getD ps).gen, .int .i64 (getD ps).role, .int .i64 (getD ps).n, .int .i64 (getD ps).s, .int .i64 (getD ps).tail, .int .i64 (getD ps).lost, .int .i64 (getD ps).built] 25)) Y.lt
  clear R B S P Q Y
  have R := R'
  have B := B'
  have S := S'
  have P := P'
  have Q := Q'
  have Y := Y'
  clear R' B' S' P' Q' Y'
  go_wp2_with fail
  generalize w5.alloc (.cells #[.int .i64 (getD ps).id, .int .i64 (getD ps).gen, .int .i64 (getD ps).role, .int .i64 (getD ps).n, .int .i64 (getD ps).s, .int .i64 (getD ps).tail, .int .i64 (getD ps).lost, .int .i64 (getD ps).built] 25) = v5 at R B S P Q Y Y2 ⊢
  clear Y2
  refine (drawBestSuper_any _ _ _ _ zs hl R.out hby hlb).mono ?_
  rintro e w6 ⟨a0, n0, c0, a1, n1, c1, a3, n3, c3, ss, cs, f, bs, id, rfl, h0, h1, h3, hwt, b⟩
  have R' := hidden (R.out.below b)
  have B' := hidden (Below.andThen B.out b)
  have S' := S.below b S.lt
  have P' := hidden (P.out.below b)
  have Q' := hidden (Q.out.below b)
  have Y' := Y.below b Y.lt
  clear R B S P Q Y
  have R := R'
  have B := B'
  have S := S'
  have P := P'
  have Q := Q'
  have Y := Y'
  clear R' B' S' P' Q' Y'
  clear b
  have hq3 : ((bestSt ss cs f bs id 2).2 != (bestSt ss cs f bs id 2).2) = false := by simp
  have hq4 : ((bestSt ss cs f bs id 2).2 == (bestSt ss cs f bs id 2).2) = true := by simp
  have H0 := hidden h0
  have H1 := hidden h1
  have H3 := hidden h3
  clear h0 h1 h3 R
  have M := Box.new w6 35 #[.slice a0 n0 c0, .slice a1 n1 c1, .bool f, .slice a3 n3 c3]
  have B' := hidden (Below.andThen B.out (new_below w6 (.cells #[.slice a0 n0 c0, .slice a1 n1 c1, .bool f, .slice a3 n3 c3] 35)))
  have S' := S.below (new_below w6 (.cells #[.slice a0 n0 c0, .slice a1 n1 c1, .bool f, .slice a3 n3 c3] 35)) S.lt
  have P' := hidden (P.out.below (new_below w6 (.cells #[.slice a0 n0 c0, .slice a1 n1 c1, .bool f, .slice a3 n3 c3] 35)))
  have Q' := hidden (Q.out.below (new_below w6 (.cells #[.slice a0 n0 c0, .slice a1 n1 c1, .bool f, .slice a3 n3 c3] 35)))
  have Y' := Y.below (new_below w6 (.cells #[.slice a0 n0 c0, .slice a1 n1 c1, .bool f, .slice a3 n3 c3] 35)) Y.lt
  have H0' := hidden (H0.out.below (new_below w6 (.cells #[.slice a0 n0 c0, .slice a1 n1 c1, .bool f, .slice a3 n3 c3] 35)))
  have H1' := hidden (H1.out.below (new_below w6 (.cells #[.slice a0 n0 c0, .slice a1 n1 c1, .bool f, .slice a3 n3 c3] 35)))
  have H3' := hidden (H3.out.below (new_below w6 (.cells #[.slice a0 n0 c0, .slice a1 n1 c1, .bool f, .slice a3 n3 c3] 35)))
  clear B S P Q Y H0 H1 H3
  have B := B'
  have S := S'
  have P := P'
  have Q := Q'
  have Y := Y'
  have H0 := H0'
  have H1 := H1'
  have H3 := H3'
  clear B' S' P' Q' Y' H0' H1' H3'
  obtain ⟨q0, q1, q2, q3⟩ := M.cells4
  go_wp2_with fail
  generalize w6.alloc (.cells #[.slice a0 n0 c0, .slice a1 n1 c1, .bool f, .slice a3 n3 c3] 35) = v6 at B S P Q Y H0 H1 H3 M q0 q1 q2 q3 ⊢
  refine (implBestSuper_any _ 81 _ _ _ _ _ _ _ _ _ ss cs f bs id H0.out H1.out H3.out (by omega)).mono ?_
  rintro e w7 ⟨rfl, b⟩
  clear q0 q1 q2 q3
  have B' := hidden (Below.andThen B.out b)
  have S' := S.below b S.lt
  have P' := hidden (P.out.below b)
  have Q' := hidden (Q.out.below b)
  have Y' := Y.below b Y.lt
  have H0' := hidden (H0.out.below b)
  have H1' := hidden (H1.out.below b)
  have H3' := hidden (H3.out.below b)
  have M' := M.below b M.lt
  clear B S P Q Y H0 H1 H3 M
  have B := B'
  have S := S'
  have P := P'
  have Q := Q'
  have Y := Y'
  have H0 := H0'
  have H1 := H1'
  have H3 := H3'
  have M := M'
  clear B' S' P' Q' Y' H0' H1' H3' M'
  clear b
  have A := Box.new w7 25 #[.int .i64 ((bestSt ss cs f bs id 2).1).id, .int .i64 ((bestSt ss cs f bs id 2).1).gen, .int .i64 ((bestSt ss cs f bs id 2).1).role, .int .i64 ((bestSt ss cs f bs id 2).1).n, .int .i64 ((bestSt ss cs f bs id 2).1).s, .int .i64 ((bestSt ss cs f bs id 2).1).tail, .int .i64 ((bestSt ss cs f bs id 2).1).lost, .int .i64 ((bestSt ss cs f bs id 2).1).built]
  have B' := hidden (Below.andThen B.out (new_below w7 (.cells #[.int .i64 ((bestSt ss cs f bs id 2).1).id, .int .i64 ((bestSt ss cs f bs id 2).1).gen, .int .i64 ((bestSt ss cs f bs id 2).1).role, .int .i64 ((bestSt ss cs f bs id 2).1).n, .int .i64 ((bestSt ss cs f bs id 2).1).s, .int .i64 ((bestSt ss cs f bs id 2).1).tail, .int .i64 ((bestSt ss cs f bs id 2).1).lost, .int .i64 ((bestSt ss cs f bs id 2).1).built] 25)))
  have S' := S.below (new_below w7 (.cells #[.int .i64 ((bestSt ss cs f bs id 2).1).id, .int .i64 ((bestSt ss cs f bs id 2).1).gen, .int .i64 ((bestSt ss cs f bs id 2).1).role, .int .i64 ((bestSt ss cs f bs id 2).1).n, .int .i64 ((bestSt ss cs f bs id 2).1).s, .int .i64 ((bestSt ss cs f bs id 2).1).tail, .int .i64 ((bestSt ss cs f bs id 2).1).lost, .int .i64 ((bestSt ss cs f bs id 2).1).built] 25)) S.lt
  have P' := hidden (P.out.below (new_below w7 (.cells #[.int .i64 ((bestSt ss cs f bs id 2).1).id, .int .i64 ((bestSt ss cs f bs id 2).1).gen, .int .i64 ((bestSt ss cs f bs id 2).1).role, .int .i64 ((bestSt ss cs f bs id 2).1).n, .int .i64 ((bestSt ss cs f bs id 2).1).s, .int .i64 ((bestSt ss cs f bs id 2).1).tail, .int .i64 ((bestSt ss cs f bs id 2).1).lost, .int .i64 ((bestSt ss cs f bs id 2).1).built] 25)))
  have Q' := hidden (Q.out.below (new_below w7 (.cells #[.int .i64 ((bestSt ss cs f bs id 2).1).id, .int .i64 ((bestSt ss cs f bs id 2).1).gen, .int .i64 ((bestSt ss cs f bs id 2).1).role, .int .i64 ((bestSt ss cs f bs id 2).1).n, .int .i64 ((bestSt ss cs f bs id 2).1).s, .int .i64 ((bestSt ss cs f bs id 2).1).tail, .int .i64 ((bestSt ss cs f bs id 2).1).lost, .int .i64 ((bestSt ss cs f bs id 2).1).built] 25)))
  have Y' := Y.below (new_below w7 (.cells #[.int .i64 ((bestSt ss cs f bs id 2).1).id, .int .i64 ((bestSt ss cs f bs id 2).1).gen, .int .i64 ((bestSt ss cs f bs id 2).1).role, .int .i64 ((bestSt ss cs f bs id 2).1).n, .int .i64 ((bestSt ss cs f bs id 2).1).s, .int .i64 ((bestSt ss cs f bs id 2).1).tail, .int .i64 ((bestSt ss cs f bs id 2).1).lost, .int .i64 ((bestSt ss cs f bs id 2).1).built] 25)) Y.lt
  have H0' := hidden (H0.out.below (new_below w7 (.cells #[.int .i64 ((bestSt ss cs f bs id 2).1).id, .int .i64 ((bestSt ss cs f bs id 2).1).gen, .int .i64 ((bestSt ss cs f bs id 2).1).role, .int .i64 ((bestSt ss cs f bs id 2).1).n, .int .i64 ((bestSt ss cs f bs id 2).1).s, .int .i64 ((bestSt ss cs f bs id 2).1).tail, .int .i64 ((bestSt ss cs f bs id 2).1).lost, .int .i64 ((bestSt ss cs f bs id 2).1).built] 25)))
  have H1' := hidden (H1.out.below (new_below w7 (.cells #[.int .i64 ((bestSt ss cs f bs id 2).1).id, .int .i64 ((bestSt ss cs f bs id 2).1).gen, .int .i64 ((bestSt ss cs f bs id 2).1).role, .int .i64 ((bestSt ss cs f bs id 2).1).n, .int .i64 ((bestSt ss cs f bs id 2).1).s, .int .i64 ((bestSt ss cs f bs id 2).1).tail, .int .i64 ((bestSt ss cs f bs id 2).1).lost, .int .i64 ((bestSt ss cs f bs id 2).1).built] 25)))
  have H3' := hidden (H3.out.below (new_below w7 (.cells #[.int .i64 ((bestSt ss cs f bs id 2).1).id, .int .i64 ((bestSt ss cs f bs id 2).1).gen, .int .i64 ((bestSt ss cs f bs id 2).1).role, .int .i64 ((bestSt ss cs f bs id 2).1).n, .int .i64 ((bestSt ss cs f bs id 2).1).s, .int .i64 ((bestSt ss cs f bs id 2).1).tail, .int .i64 ((bestSt ss cs f bs id 2).1).lost, .int .i64 ((bestSt ss cs f bs id 2).1).built] 25)))
  have M' := M.below (new_below w7 (.cells #[.int .i64 ((bestSt ss cs f bs id 2).1).id, .int .i64 ((bestSt ss cs f bs id 2).1).gen, .int .i64 ((bestSt ss cs f bs id 2).1).role, .int .i64 ((bestSt ss cs f bs id 2).1).n, .int .i64 ((bestSt ss cs f bs id 2).1).s, .int .i64 ((bestSt ss cs f bs id 2).1).tail, .int .i64 ((bestSt ss cs f bs id 2).1).lost, .int .i64 ((bestSt ss cs f bs id 2).1).built] 25)) M.lt
  clear B S P Q Y H0 H1 H3 M
  have B := B'
  have S := S'
  have P := P'
  have Q := Q'
  have Y := Y'
  have H0 := H0'
  have H1 := H1'
  have H3 := H3'
  have M := M'
  clear B' S' P' Q' Y' H0' H1' H3' M'
  obtain ⟨q0, q1, q2, q3⟩ := M.cells4
  go_wp2_with fail
  generalize w7.alloc (.cells #[.int .i64 ((bestSt ss cs f bs id 2).1).id, .int .i64 ((bestSt ss cs f bs id 2).1).gen, .int .i64 ((bestSt ss cs f bs id 2).1).role, .int .i64 ((bestSt ss cs f bs id 2).1).n, .int .i64 ((bestSt ss cs f bs id 2).1).s, .int .i64 ((bestSt ss cs f bs id 2).1).tail, .int .i64 ((bestSt ss cs f bs id 2).1).lost, .int .i64 ((bestSt ss cs f bs id 2).1).built] 25) = v7 at B S P Q Y H0 H1 H3 M A q0 q1 q2 q3 ⊢
  refine (specBestSuper_any _ 81 _ _ _ _ _ _ _ _ _ ss cs f bs id H0.out H1.out H3.out (by omega)).mono ?_
  rintro e w8 ⟨rfl, b⟩
  clear q0 q1 q2 q3
  have B' := hidden (Below.andThen B.out b)
  have S' := S.below b S.lt
  have P' := hidden (P.out.below b)
  have Q' := hidden (Q.out.below b)
  have Y' := Y.below b Y.lt
  have H0' := hidden (H0.out.below b)
  have H1' := hidden (H1.out.below b)
  have H3' := hidden (H3.out.below b)
  have M' := M.below b M.lt
  have A' := A.below b A.lt
  clear B S P Q Y H0 H1 H3 M A
  have B := B'
  have S := S'
  have P := P'
  have Q := Q'
  have Y := Y'
  have H0 := H0'
  have H1 := H1'
  have H3 := H3'
  have M := M'
  have A := A'
  clear B' S' P' Q' Y' H0' H1' H3' M' A'
  clear b
  have C := Box.new w8 25 #[.int .i64 ((bestSt ss cs f bs id 2).1).id, .int .i64 ((bestSt ss cs f bs id 2).1).gen, .int .i64 ((bestSt ss cs f bs id 2).1).role, .int .i64 ((bestSt ss cs f bs id 2).1).n, .int .i64 ((bestSt ss cs f bs id 2).1).s, .int .i64 ((bestSt ss cs f bs id 2).1).tail, .int .i64 ((bestSt ss cs f bs id 2).1).lost, .int .i64 ((bestSt ss cs f bs id 2).1).built]
  have B' := hidden (Below.andThen B.out (new_below w8 (.cells #[.int .i64 ((bestSt ss cs f bs id 2).1).id, .int .i64 ((bestSt ss cs f bs id 2).1).gen, .int .i64 ((bestSt ss cs f bs id 2).1).role, .int .i64 ((bestSt ss cs f bs id 2).1).n, .int .i64 ((bestSt ss cs f bs id 2).1).s, .int .i64 ((bestSt ss cs f bs id 2).1).tail, .int .i64 ((bestSt ss cs f bs id 2).1).lost, .int .i64 ((bestSt ss cs f bs id 2).1).built] 25)))
  have S' := S.below (new_below w8 (.cells #[.int .i64 ((bestSt ss cs f bs id 2).1).id, .int .i64 ((bestSt ss cs f bs id 2).1).gen, .int .i64 ((bestSt ss cs f bs id 2).1).role, .int .i64 ((bestSt ss cs f bs id 2).1).n, .int .i64 ((bestSt ss cs f bs id 2).1).s, .int .i64 ((bestSt ss cs f bs id 2).1).tail, .int .i64 ((bestSt ss cs f bs id 2).1).lost, .int .i64 ((bestSt ss cs f bs id 2).1).built] 25)) S.lt
  have P' := hidden (P.out.below (new_below w8 (.cells #[.int .i64 ((bestSt ss cs f bs id 2).1).id, .int .i64 ((bestSt ss cs f bs id 2).1).gen, .int .i64 ((bestSt ss cs f bs id 2).1).role, .int .i64 ((bestSt ss cs f bs id 2).1).n, .int .i64 ((bestSt ss cs f bs id 2).1).s, .int .i64 ((bestSt ss cs f bs id 2).1).tail, .int .i64 ((bestSt ss cs f bs id 2).1).lost, .int .i64 ((bestSt ss cs f bs id 2).1).built] 25)))
  have Q' := hidden (Q.out.below (new_below w8 (.cells #[.int .i64 ((bestSt ss cs f bs id 2).1).id, .int .i64 ((bestSt ss cs f bs id 2).1).gen, .int .i64 ((bestSt ss cs f bs id 2).1).role, .int .i64 ((bestSt ss cs f bs id 2).1).n, .int .i64 ((bestSt ss cs f bs id 2).1).s, .int .i64 ((bestSt ss cs f bs id 2).1).tail, .int .i64 ((bestSt ss cs f bs id 2).1).lost, .int .i64 ((bestSt ss cs f bs id 2).1).built] 25)))
  have Y' := Y.below (new_below w8 (.cells #[.int .i64 ((bestSt ss cs f bs id 2).1).id, .int .i64 ((bestSt ss cs f bs id 2).1).gen, .int .i64 ((bestSt ss cs f bs id 2).1).role, .int .i64 ((bestSt ss cs f bs id 2).1).n, .int .i64 ((bestSt ss cs f bs id 2).1).s, .int .i64 ((bestSt ss cs f bs id 2).1).tail, .int .i64 ((bestSt ss cs f bs id 2).1).lost, .int .i64 ((bestSt ss cs f bs id 2).1).built] 25)) Y.lt
  have H0' := hidden (H0.out.below (new_below w8 (.cells #[.int .i64 ((bestSt ss cs f bs id 2).1).id, .int .i64 ((bestSt ss cs f bs id 2).1).gen, .int .i64 ((bestSt ss cs f bs id 2).1).role, .int .i64 ((bestSt ss cs f bs id 2).1).n, .int .i64 ((bestSt ss cs f bs id 2).1).s, .int .i64 ((bestSt ss cs f bs id 2).1).tail, .int .i64 ((bestSt ss cs f bs id 2).1).lost, .int .i64 ((bestSt ss cs f bs id 2).1).built] 25)))
  have H1' := hidden (H1.out.below (new_below w8 (.cells #[.int .i64 ((bestSt ss cs f bs id 2).1).id, .int .i64 ((bestSt ss cs f bs id 2).1).gen, .int .i64 ((bestSt ss cs f bs id 2).1).role, .int .i64 ((bestSt ss cs f bs id 2).1).n, .int .i64 ((bestSt ss cs f bs id 2).1).s, .int .i64 ((bestSt ss cs f bs id 2).1).tail, .int .i64 ((bestSt ss cs f bs id 2).1).lost, .int .i64 ((bestSt ss cs f bs id 2).1).built] 25)))
  have H3' := hidden (H3.out.below (new_below w8 (.cells #[.int .i64 ((bestSt ss cs f bs id 2).1).id, .int .i64 ((bestSt ss cs f bs id 2).1).gen, .int .i64 ((bestSt ss cs f bs id 2).1).role, .int .i64 ((bestSt ss cs f bs id 2).1).n, .int .i64 ((bestSt ss cs f bs id 2).1).s, .int .i64 ((bestSt ss cs f bs id 2).1).tail, .int .i64 ((bestSt ss cs f bs id 2).1).lost, .int .i64 ((bestSt ss cs f bs id 2).1).built] 25)))
  have M' := M.below (new_below w8 (.cells #[.int .i64 ((bestSt ss cs f bs id 2).1).id, .int .i64 ((bestSt ss cs f bs id 2).1).gen, .int .i64 ((bestSt ss cs f bs id 2).1).role, .int .i64 ((bestSt ss cs f bs id 2).1).n, .int .i64 ((bestSt ss cs f bs id 2).1).s, .int .i64 ((bestSt ss cs f bs id 2).1).tail, .int .i64 ((bestSt ss cs f bs id 2).1).lost, .int .i64 ((bestSt ss cs f bs id 2).1).built] 25)) M.lt
  have A' := A.below (new_below w8 (.cells #[.int .i64 ((bestSt ss cs f bs id 2).1).id, .int .i64 ((bestSt ss cs f bs id 2).1).gen, .int .i64 ((bestSt ss cs f bs id 2).1).role, .int .i64 ((bestSt ss cs f bs id 2).1).n, .int .i64 ((bestSt ss cs f bs id 2).1).s, .int .i64 ((bestSt ss cs f bs id 2).1).tail, .int .i64 ((bestSt ss cs f bs id 2).1).lost, .int .i64 ((bestSt ss cs f bs id 2).1).built] 25)) A.lt
  clear B S P Q Y H0 H1 H3 M A
  have B := B'
  have S := S'
  have P := P'
  have Q := Q'
  have Y := Y'
  have H0 := H0'
  have H1 := H1'
  have H3 := H3'
  have M := M'
  have A := A'
  clear B' S' P' Q' Y' H0' H1' H3' M' A'
  clear H0 H1 H3 M
  have KEY : ∀ (V : World), Box V w1.heap.size 25 #[.int .i64 x.id, .int .i64 x.gen, .int .i64 x.role, .int .i64 x.n, .int .i64 x.s, .int .i64 x.tail, .int .i64 x.lost, .int .i64 x.built] → Hid (tIntS.Rd V [.slice la ll lc] (putD x)) → Hid (Below w.heap.size w V) → True := fun _ _ _ _ => trivial
  clear KEY
  obtain ⟨y0, y1, y2, y3, y4, y5, y6, y7⟩ := Y.cells8
  obtain ⟨t0, t1, t2, t3, t4, t5, t6, t7⟩ := A.cells8
  obtain ⟨r0, r1, r2, r3, r4, r5, r6, r7⟩ := C.cells8
  by_cases hg : getB ps = true
  · obtain ⟨p1, p2⟩ := get_put hg hrg
    go_wp2_with fail
    generalize w8.alloc (.cells #[.int .i64 ((bestSt ss cs f bs id 2).1).id, .int .i64 ((bestSt ss cs f bs id 2).1).gen, .int .i64 ((bestSt ss cs f bs id 2).1).role, .int .i64 ((bestSt ss cs f bs id 2).1).n, .int .i64 ((bestSt ss cs f bs id 2).1).s, .int .i64 ((bestSt ss cs f bs id 2).1).tail, .int .i64 ((bestSt ss cs f bs id 2).1).lost, .int .i64 ((bestSt ss cs f bs id 2).1).built] 25) = v8 at B S P Q Y A C y0 y1 y2 y3 y4 y5 y6 y7 t0 t1 t2 t3 t4 t5 t6 t7 r0 r1 r2 r3 r4 r5 r6 r7 ⊢
    refine (implSuperOk_any _ (getD ps)).mono ?_
    rintro e u1 ⟨rfl, b⟩
    have S' := S.below b S.lt
    have Y' := Y.below b Y.lt
    have A' := A.below b A.lt
    have C' := C.below b C.lt
    have P' := hidden (P.out.below b)
    have Q' := hidden (Q.out.below b)
    have B' := hidden (Below.andThen B.out b)
    clear b S Y A C P Q B y0 y1 y2 y3 y4 y5 y6 y7 t0 t1 t2 t3 t4 t5 t6 t7 r0 r1 r2 r3 r4 r5 r6 r7
    obtain ⟨y0, y1, y2, y3, y4, y5, y6, y7⟩ := Y'.cells8
    go_wp2_with fail
    refine (implPutSuper_any _ (getD ps)).mono ?_
    rintro e u2 ⟨ka, kl, kc, rfl, o, b⟩
    rw [p2] at o
    obtain ⟨rr, rl, _, _⟩ := ints_rd o.rd
    have S := S'.below b S'.lt
    have A := A'.below b A'.lt
    have C := C'.below b C'.lt
    have P := hidden (P'.out.below b)
    have Q := hidden (Q'.out.below b)
    have B := hidden (Below.andThen B'.out b)
    clear b S' Y' A' C' P' Q' B' y0 y1 y2 y3 y4 y5 y6 y7 o
    go_wp2_with fail
    refine (sameInts_any _ _ _ _ _ _ _ ps ps rl hps rr Q.out (by omega)).mono ?_
    rintro e u3 ⟨rfl, hs3⟩
    have S' := S.same hs3
    have A' := A.same hs3
    have C' := C.same hs3
    have P' := hidden (P.out.same hs3)
    have B' := hidden (Below.andSame B.out hs3)
    clear hs3 S A C P Q B rr
    have S := S'
    have P := P'
    have B := B'
    have hd : decide (ps = ps) = true := by simp
    obtain ⟨t0, t1, t2, t3, t4, t5, t6, t7⟩ := A'.cells8
    obtain ⟨r0, r1, r2, r3, r4, r5, r6, r7⟩ := C'.cells8
    obtain ⟨s0, s1, s2, s3, s4, s5, s6, s7⟩ := S.cells8
    clear S' P' B'
    go_wp2_with fail
    refine (specSuperOk_any _ x).mono ?_
    rintro e u1 ⟨rfl, b⟩
    have S1 := S.below b S.lt
    have P1 := hidden (P.out.below b)
    have B1 := hidden (Below.andThen B.out b)
    clear b S P B s0 s1 s2 s3 s4 s5 s6 s7
    obtain ⟨s0, s1, s2, s3, s4, s5, s6, s7⟩ := S1.cells8
    by_cases hx : supB x = true
    · obtain ⟨g1, g2⟩ := put_get5 hx
      obtain ⟨rr, rl, _, _⟩ := ints_rd P1.out
      have hpl : ll ≤ 9 := by rw [← rl, putD_of hx]; simp
      go_wp2_with fail
      refine (implGetSuper_any _ _ _ _ (putD x) rr rl (by omega)).mono ?_
      rintro e u2 ⟨rfl, b⟩
      rw [g1, g2]
      have S2 := (S1.below b S1.lt).alloc (.cells #[.int .i64 x.id, .int .i64 x.gen, .int .i64 x.role, .int .i64 x.n, .int .i64 x.s, .int .i64 x.tail, .int .i64 x.lost, .int .i64 x.built] 25)
      have X2 := Box.new u2 25 #[.int .i64 x.id, .int .i64 x.gen, .int .i64 x.role, .int .i64 x.n, .int .i64 x.s, .int .i64 x.tail, .int .i64 x.lost, .int .i64 x.built]
      have B2 := hidden ((Below.andThen B1.out b).alloc (Below.andThen B1.out b).size (.cells #[.int .i64 x.id, .int .i64 x.gen, .int .i64 x.role, .int .i64 x.n, .int .i64 x.s, .int .i64 x.tail, .int .i64 x.lost, .int .i64 x.built] 25))
      clear s0 s1 s2 s3 s4 s5 s6 s7 S1 B1 P1 rr b g1 g2
      obtain ⟨s0, s1, s2, s3, s4, s5, s6, s7⟩ := S2.cells8
      obtain ⟨x0, x1, x2, x3, x4, x5, x6, x7⟩ := X2.cells8
      go_wp2_with fail
      generalize u2.alloc (.cells #[.int .i64 x.id, .int .i64 x.gen, .int .i64 x.role, .int .i64 x.n, .int .i64 x.s, .int .i64 x.tail, .int .i64 x.lost, .int .i64 x.built] 25) = u3 at S2 X2 B2 s0 s1 s2 s3 s4 s5 s6 s7 x0 x1 x2 x3 x4 x5 x6 x7 ⊢
      refine (implSuperOk_any _ x).mono ?_
      rintro e u4 ⟨rfl, b⟩
      have B4 := hidden (Below.andThen B2.out b)
      go_wp2
      go_ret
      exact ⟨rfl, B4.out⟩
    · have hx' : supB x = false := by simpa using hx
      have hl0 : ll = 0 := by
        have h1 := (row_length P1.out).1
        rw [putD_not hx'] at h1
        simpa using h1.symm
      subst hl0
      go_wp2_with fail
      refine (implSuperOk_any _ x).mono ?_
      rintro e u2 ⟨rfl, b⟩
      have B2 := hidden (Below.andThen B1.out b)
      go_wp2
      go_ret
      exact ⟨rfl, B2.out⟩
  · have hg' : getB ps = false := by simpa using hg
    rw [hg'] at hq1 hq2
    obtain ⟨s0, s1, s2, s3, s4, s5, s6, s7⟩ := S.cells8
    go_wp2_with fail
    generalize w8.alloc (.cells #[.int .i64 ((bestSt ss cs f bs id 2).1).id, .int .i64 ((bestSt ss cs f bs id 2).1).gen, .int .i64 ((bestSt ss cs f bs id 2).1).role, .int .i64 ((bestSt ss cs f bs id 2).1).n, .int .i64 ((bestSt ss cs f bs id 2).1).s, .int .i64 ((bestSt ss cs f bs id 2).1).tail, .int .i64 ((bestSt ss cs f bs id 2).1).lost, .int .i64 ((bestSt ss cs f bs id 2).1).built] 25) = v8 at S P B s0 s1 s2 s3 s4 s5 s6 s7 ⊢
    refine (specSuperOk_any _ x).mono ?_
    rintro e u1 ⟨rfl, b⟩
    have S1 := S.below b S.lt
    have P1 := hidden (P.out.below b)
    have B1 := hidden (Below.andThen B.out b)
    clear b S P B s0 s1 s2 s3 s4 s5 s6 s7
    obtain ⟨s0, s1, s2, s3, s4, s5, s6, s7⟩ := S1.cells8
    by_cases hx : supB x = true
    · obtain ⟨g1, g2⟩ := put_get5 hx
      obtain ⟨rr, rl, _, _⟩ := ints_rd P1.out
      have hpl : ll ≤ 9 := by rw [← rl, putD_of hx]; simp
      go_wp2_with fail
      refine (implGetSuper_any _ _ _ _ (putD x) rr rl (by omega)).mono ?_
      rintro e u2 ⟨rfl, b⟩
      rw [g1, g2]
      have S2 := (S1.below b S1.lt).alloc (.cells #[.int .i64 x.id, .int .i64 x.gen, .int .i64 x.role, .int .i64 x.n, .int .i64 x.s, .int .i64 x.tail, .int .i64 x.lost, .int .i64 x.built] 25)
      have X2 := Box.new u2 25 #[.int .i64 x.id, .int .i64 x.gen, .int .i64 x.role, .int .i64 x.n, .int .i64 x.s, .int .i64 x.tail, .int .i64 x.lost, .int .i64 x.built]
      have B2 := hidden ((Below.andThen B1.out b).alloc (Below.andThen B1.out b).size (.cells #[.int .i64 x.id, .int .i64 x.gen, .int .i64 x.role, .int .i64 x.n, .int .i64 x.s, .int .i64 x.tail, .int .i64 x.lost, .int .i64 x.built] 25))
      clear s0 s1 s2 s3 s4 s5 s6 s7 S1 B1 P1 rr b g1 g2
      obtain ⟨s0, s1, s2, s3, s4, s5, s6, s7⟩ := S2.cells8
      obtain ⟨x0, x1, x2, x3, x4, x5, x6, x7⟩ := X2.cells8
      go_wp2_with fail
      generalize u2.alloc (.cells #[.int .i64 x.id, .int .i64 x.gen, .int .i64 x.role, .int .i64 x.n, .int .i64 x.s, .int .i64 x.tail, .int .i64 x.lost, .int .i64 x.built] 25) = u3 at S2 X2 B2 s0 s1 s2 s3 s4 s5 s6 s7 x0 x1 x2 x3 x4 x5 x6 x7 ⊢
      refine (implSuperOk_any _ x).mono ?_
      rintro e u4 ⟨rfl, b⟩
      have B4 := hidden (Below.andThen B2.out b)
      go_wp2
      go_ret
      exact ⟨rfl, B4.out⟩
    · have hx' : supB x = false := by simpa using hx
      have hl0 : ll = 0 := by
        have h1 := (row_length P1.out).1
        rw [putD_not hx'] at h1
        simpa using h1.symm
      subst hl0
      go_wp2_with fail
      refine (implSuperOk_any _ x).mono ?_
      rintro e u2 ⟨rfl, b⟩
      have B2 := hidden (Below.andThen B1.out b)
      go_wp2
      go_ret
      exact ⟨rfl, B2.out⟩

end Go.Proofs.Ytljkjbfkekihjaa

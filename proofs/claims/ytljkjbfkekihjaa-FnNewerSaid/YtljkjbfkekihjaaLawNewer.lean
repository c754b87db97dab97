/-
  The walk of the law that a newer Super that is written counts, and the elder stands beside it: whatever bytes it draws from, it answers true, and nothing that was there has turned. No condition.
-/
import Derived.Test.YtljkjbfkekihjaaWalkBest
import Derived.Test.YtljkjbfkekihjaaWalkL4Mem
import Derived.Test.YtljkjbfkekihjaaFrame
namespace Go.Proofs.Ytljkjbfkekihjaa
open Go.RowKit

set_option maxHeartbeats 1600000 in
theorem drawPutSuper_any (w : World) (a : Option Addr) (lb cb : Nat) (zs : List Int) (hz : zs.length = lb) (hr : Reads .u8 w a zs) (hby : ∀ n ∈ zs, 0 ≤ n ∧ n ≤ 255) (hlb : lb ≤ 2097152) :
    Calls Try.prog 10 #[.slice a lb cb] w fun e w' => ∃ x : Sup, e = .returned (.agg #[.int .i64 x.id, .int .i64 x.gen, .int .i64 x.role, .int .i64 x.n, .int .i64 x.s, .int .i64 x.tail, .int .i64 x.lost, .int .i64 x.built]) ∧ Below w.heap.size w w' := by
  have hA := new_below w (.cells #[.int .i64 0, .int .i64 0, .int .i64 0, .int .i64 0, .int .i64 0, .int .i64 0, .int .i64 0, .int .i64 0] 25)
  have X := Box.new w 25 #[.int .i64 0, .int .i64 0, .int .i64 0, .int .i64 0, .int .i64 0, .int .i64 0, .int .i64 0, .int .i64 0]
  have zA := X.lt
  go_enter Try.func10, Try.ntmps10
  go_wp2_with fail
  generalize w.alloc (.cells #[.int .i64 0, .int .i64 0, .int .i64 0, .int .i64 0, .int .i64 0, .int .i64 0, .int .i64 0, .int .i64 0] 25) = W at hA X zA ⊢
  refine (l1New_any _ _ _ _ zs hz (hr.below hA) hlb).mono ?_
  rintro e w1 ⟨rfl, hc1, hb1⟩
  have D1 : Draws w1 W.heap.size a lb cb zs := ⟨hc1, hz, (hr.below hA).below hb1, hby, hlb, (hr.below hA).ahead hz⟩
  have B1 := Below.andThen hA hb1
  have X1 := X.below hb1 zA
  have z1 := X1.lt
  clear hc1 hA X hb1
  go_wp2_with fail
  refine (l4Any_any D1).mono ?_
  rintro e w2 ⟨x, rfl, D2, b2⟩
  have X2 := X1.kept (b2.block _ z1 (.inl zA))
  have B2 := Below.andBut B1 b2 (by omega)
  clear D1 X1 B1 b2
  obtain ⟨x0, x1, x2, x3, x4, x5, x6, x7⟩ := X2.cells8
  have fx := X2.frozen
  have K := hidden (Below.andBut B2 (set8_but w2 w.heap.size (.int .i64 x.id) (.int .i64 x.gen) (.int .i64 x.role) (.int .i64 x.n) (.int .i64 x.s) (.int .i64 x.tail) (.int .i64 x.lost) (.int .i64 x.built)) (Nat.le_refl _))
  unfold set8 at K
  clear X2 B2 D2
  go_wp2
  refine bodyPost_ret (v := .agg #[.int .i64 x.id, .int .i64 x.gen, .int .i64 x.role, .int .i64 x.n, .int .i64 x.s, .int .i64 x.tail, .int .i64 x.lost, .int .i64 x.built]) (by simp [results, Try.results10, go_sem, x0, x1, x2, x3, x4, x5, x6, x7]) rfl ?_
  exact ⟨x, rfl, K.out⟩

set_option maxHeartbeats 1600000 in
theorem drawBestSuper_any (w : World) (a : Option Addr) (lb cb : Nat) (zs : List Int) (hz : zs.length = lb) (hr : Reads .u8 w a zs) (hby : ∀ n ∈ zs, 0 ≤ n ∧ n ≤ 255) (hlb : lb ≤ 2097152) :
    Calls Try.prog 15 #[.slice a lb cb] w fun e w' => ∃ a0 n0 c0 a1 n1 c1 a3 n3 c3 ss cs f bs id, e = .returned (.tuple #[.agg #[.slice a0 n0 c0, .slice a1 n1 c1, .bool f, .slice a3 n3 c3], .int .i64 id]) ∧ tIntSS.Rd w' [.slice a0 n0 c0] ss ∧ (tWrS 81).Rd w' [.slice a1 n1 c1] cs ∧ tIntS.Rd w' [.slice a3 n3 c3] bs ∧ wtMem (ss, cs, f, bs) ≤ 2100 ∧ Below w.heap.size w w' := by
  have hA := new_below w (.cells #[.slice none 0 0, .slice none 0 0, .bool false, .slice none 0 0] 35)
  have X := Box.new w 35 #[.slice none 0 0, .slice none 0 0, .bool false, .slice none 0 0]
  have zA := X.lt
  go_enter Try.func15, Try.ntmps15
  go_wp2_with fail
  generalize w.alloc (.cells #[.slice none 0 0, .slice none 0 0, .bool false, .slice none 0 0] 35) = W at hA X zA ⊢
  refine (l1New_any _ _ _ _ zs hz (hr.below hA) hlb).mono ?_
  rintro e w1 ⟨rfl, hc1, hb1⟩
  have D1 : Draws w1 W.heap.size a lb cb zs := ⟨hc1, hz, (hr.below hA).below hb1, hby, hlb, (hr.below hA).ahead hz⟩
  have B1 := Below.andThen hA hb1
  have X1 := X.below hb1 zA
  have z1 := X1.lt
  have zc := D1.lt
  clear hc1 hA X hb1
  go_wp2_with fail
  refine (l4Mem_any D1).mono ?_
  rintro e w2 ⟨a0, n0, c0, a1, n1, c1, a3, n3, c3, ss, cs, f, bs, rfl, i0, i1, i3, hwt, D2, b2⟩
  have X2 := X1.kept (b2.block _ z1 (.inl zA))
  have B2 := Below.andBut B1 b2 (by omega)
  clear D1 X1 B1 b2
  go_wp2_with fail
  refine (dBelow D2 3 (by omega) (by omega)).mono ?_
  rintro e w3 ⟨y, rfl, hy0, hy1, D3, b3⟩
  have X3 := X2.kept (b3.block _ X2.lt (.inl zA))
  have B3 := Below.andBut B2 b3 (by omega)
  have j0 := i0.but b3 (.inr (by omega))
  have j1 := i1.but b3 (.inr (by omega))
  have j3 := i3.but b3 (.inr (by omega))
  clear D2 X2 B2 b3 i0 i1 i3
  have gw : IntKind.i64.wrap (1 + y) = 1 + y := IntWalk.i64_in _ (by omega)
  obtain ⟨x0, x1, x2, x3⟩ := X3.cells4
  have fx := X3.frozen
  have hbt := set4_but w3 w.heap.size (.slice a0 n0 c0) (.slice a1 n1 c1) (.bool f) (.slice a3 n3 c3)
  have K := hidden (And.intro (j0.but hbt (.inr (by omega))).rd (And.intro (j1.but hbt (.inr (by omega))).rd (And.intro (j3.but hbt (.inr (by omega))).rd (Below.andBut B3 hbt (Nat.le_refl _)))))
  unfold set4 at K
  clear X3 B3 D3 j0 j1 j3 hbt
  go_wp2
  refine bodyPost_ret (v := .tuple #[.agg #[.slice a0 n0 c0, .slice a1 n1 c1, .bool f, .slice a3 n3 c3], .int .i64 (1 + y)]) (by simp [results, Try.results15, go_sem, x0, x1, x2, x3]) rfl ?_
  exact ⟨_, _, _, _, _, _, _, _, _, ss, cs, f, bs, _, rfl, K.out.1, K.out.2.1, K.out.2.2.1, hwt, K.out.2.2.2⟩

set_option maxHeartbeats 1600000 in
theorem drawWriteSuper_any (w : World) (a : Option Addr) (lb cb : Nat) (zs : List Int) (hz : zs.length = lb) (hr : Reads .u8 w a zs) (hby : ∀ n ∈ zs, 0 ≤ n ∧ n ≤ 255) (hlb : lb ≤ 2097152) :
    Calls Try.prog 21 #[.slice a lb cb] w fun e w' => ∃ a0 n0 c0 a1 n1 c1 a3 n3 c3 ss cs f bs, ∃ x : Sup, e = .returned (.tuple #[.agg #[.slice a0 n0 c0, .slice a1 n1 c1, .bool f, .slice a3 n3 c3], .agg #[.int .i64 x.id, .int .i64 x.gen, .int .i64 x.role, .int .i64 x.n, .int .i64 x.s, .int .i64 x.tail, .int .i64 x.lost, .int .i64 x.built]]) ∧ tIntSS.Rd w' [.slice a0 n0 c0] ss ∧ (tWrS 81).Rd w' [.slice a1 n1 c1] cs ∧ tIntS.Rd w' [.slice a3 n3 c3] bs ∧ wtMem (ss, cs, f, bs) ≤ 2100 ∧ Below w.heap.size w w' := by
  have hA := (new_below w (.cells #[.slice none 0 0, .slice none 0 0, .bool false, .slice none 0 0] 35)).alloc (by simp) (.cells #[.int .i64 0, .int .i64 0, .int .i64 0, .int .i64 0, .int .i64 0, .int .i64 0, .int .i64 0, .int .i64 0] 25)
  have X := (Box.new w 35 #[.slice none 0 0, .slice none 0 0, .bool false, .slice none 0 0]).alloc (.cells #[.int .i64 0, .int .i64 0, .int .i64 0, .int .i64 0, .int .i64 0, .int .i64 0, .int .i64 0, .int .i64 0] 25)
  have S := Box.new (w.alloc (.cells #[.slice none 0 0, .slice none 0 0, .bool false, .slice none 0 0] 35)) 25 #[.int .i64 0, .int .i64 0, .int .i64 0, .int .i64 0, .int .i64 0, .int .i64 0, .int .i64 0, .int .i64 0]
  rw [World.size_alloc] at S
  have zA := X.lt
  have zS := S.lt
  go_enter Try.func21, Try.ntmps21
  go_wp2_with fail
  generalize (w.alloc (.cells #[.slice none 0 0, .slice none 0 0, .bool false, .slice none 0 0] 35)).alloc (.cells #[.int .i64 0, .int .i64 0, .int .i64 0, .int .i64 0, .int .i64 0, .int .i64 0, .int .i64 0, .int .i64 0] 25) = W at hA X S zA zS ⊢
  refine (l1New_any _ _ _ _ zs hz (hr.below hA) hlb).mono ?_
  rintro e w1 ⟨rfl, hc1, hb1⟩
  have D1 : Draws w1 W.heap.size a lb cb zs := ⟨hc1, hz, (hr.below hA).below hb1, hby, hlb, (hr.below hA).ahead hz⟩
  have B1 := Below.andThen hA hb1
  have X1 := X.below hb1 zA
  have S1 := S.below hb1 zS
  have zc := D1.lt
  clear hc1 hA X S hb1
  go_wp2_with fail
  refine (l4Mem_any D1).mono ?_
  rintro e w2 ⟨a0, n0, c0, a1, n1, c1, a3, n3, c3, ss, cs, f, bs, rfl, i0, i1, i3, hwt, D2, b2⟩
  have X2 := X1.kept (b2.block _ X1.lt (.inl zA))
  have S2 := S1.kept (b2.block _ S1.lt (.inl zS))
  have B2 := Below.andBut B1 b2 (by omega)
  clear D1 X1 S1 B1 b2
  go_wp2_with fail
  refine (l4Any_any D2).mono ?_
  rintro e w3 ⟨x, rfl, D3, b3⟩
  have X3 := X2.kept (b3.block _ X2.lt (.inl zA))
  have S3 := S2.kept (b3.block _ S2.lt (.inl zS))
  have B3 := Below.andBut B2 b3 (by omega)
  have j0 := i0.but b3 (.inr (by omega))
  have j1 := i1.but b3 (.inr (by omega))
  have j3 := i3.but b3 (.inr (by omega))
  clear D2 X2 S2 B2 b3 i0 i1 i3
  obtain ⟨x0, x1, x2, x3⟩ := X3.cells4
  have fx := X3.frozen
  have hbt := set4_but w3 w.heap.size (.slice a0 n0 c0) (.slice a1 n1 c1) (.bool f) (.slice a3 n3 c3)
  have S4 := S3.kept (hbt.block _ S3.lt (.inr (Nat.le_refl _)))
  have X4 := set4_box X3 (.slice a0 n0 c0) (.slice a1 n1 c1) (.bool f) (.slice a3 n3 c3)
  have l0 := j0.but hbt (.inr (by omega))
  have l1 := j1.but hbt (.inr (by omega))
  have l3 := j3.but hbt (.inr (by omega))
  have B4 := Below.andBut B3 hbt (Nat.le_refl _)
  obtain ⟨s0, s1, s2, s3, s4, s5, s6, s7⟩ := S4.cells8
  have fs := S4.frozen
  have hbu := set8_but (set4 w3 w.heap.size (.slice a0 n0 c0) (.slice a1 n1 c1) (.bool f) (.slice a3 n3 c3)) (w.heap.size + 1) (.int .i64 x.id) (.int .i64 x.gen) (.int .i64 x.role) (.int .i64 x.n) (.int .i64 x.s) (.int .i64 x.tail) (.int .i64 x.lost) (.int .i64 x.built)
  have X5 := X4.kept (hbu.block _ X4.lt (.inl (by omega)))
  have S5 := set8_box S4 (.int .i64 x.id) (.int .i64 x.gen) (.int .i64 x.role) (.int .i64 x.n) (.int .i64 x.s) (.int .i64 x.tail) (.int .i64 x.lost) (.int .i64 x.built)
  obtain ⟨y0, y1, y2, y3⟩ := X5.cells4
  obtain ⟨z0, z1, z2, z3, z4, z5, z6, z7⟩ := S5.cells8
  have K := hidden (And.intro (l0.but hbu (.inr (by omega))).rd (And.intro (l1.but hbu (.inr (by omega))).rd (And.intro (l3.but hbu (.inr (by omega))).rd (Below.andBut B4 hbu (by omega)))))
  unfold set4 at s0 s1 s2 s3 s4 s5 s6 s7 fs
  unfold set8 set4 at K y0 y1 y2 y3 z0 z1 z2 z3 z4 z5 z6 z7
  clear X3 X4 X5 S3 S4 S5 B3 B4 D3 j0 j1 j3 l0 l1 l3 hbt hbu
  go_wp2
  refine bodyPost_ret (v := .tuple #[.agg #[.slice a0 n0 c0, .slice a1 n1 c1, .bool f, .slice a3 n3 c3], .agg #[.int .i64 x.id, .int .i64 x.gen, .int .i64 x.role, .int .i64 x.n, .int .i64 x.s, .int .i64 x.tail, .int .i64 x.lost, .int .i64 x.built]]) (by simp [results, Try.results21, go_sem, y0, y1, y2, y3, z0, z1, z2, z3, z4, z5, z6, z7]) rfl ?_
  exact ⟨_, _, _, _, _, _, _, _, _, ss, cs, f, bs, x, rfl, K.out.1, K.out.2.1, K.out.2.2.1, hwt, K.out.2.2.2⟩


/-- A sector at an index. -/
theorem sec_at {w : World} {a : Option Addr} {n cap j : Nat} {d : List (List Int)} (h : tIntSS.Rd w [.slice a n cap] d) (hj : j < n) :
    ∃ b off x av cv, a = some ⟨b, off, none⟩ ∧ d[j]? = some x ∧ w.cell? ⟨b, off + j, none⟩ = some (.slice av x.length cv) ∧ Reads .i64 w av x := by
  have hl := (row_length h).1
  rcases rows_at rfl h with h0 | ⟨b, off, ha, _, hc⟩
  · omega
  · have hx := List.getElem?_eq_getElem (show j < d.length by omega)
    obtain ⟨v, hv, hr⟩ := hc j _ hx
    obtain ⟨av, cv, rfl⟩ := row_shape hr
    exact ⟨b, off, _, av, cv, ha, hx, hv, (ints_rd hr).1⟩

/-- A write at an index. -/
theorem wr_at {E : TypeId} {w : World} {a : Option Addr} {n cap j : Nat} {d : List (Int × List Int)} (h : (tWrS E).Rd w [.slice a n cap] d) (hj : j < n) :
    ∃ b off x0 x1 av cv, a = some ⟨b, off, none⟩ ∧ d[j]? = some (x0, x1) ∧ w.cell? ⟨b, off + j * 2, none⟩ = some (.int .i64 x0) ∧ w.cell? ⟨b, off + j * 2 + 1, none⟩ = some (.slice av x1.length cv) ∧ Reads .i64 w av x1 := by
  have hl := (row_length h).1
  rcases pairs_at rfl h with h0 | ⟨b, off, ha, _, hc⟩
  · omega
  · have hx := List.getElem?_eq_getElem (show j < d.length by omega)
    obtain ⟨v0, v1, hv0, hv1, hr⟩ := hc j _ hx
    obtain ⟨rfl, hr1⟩ := wr_rd hr
    obtain ⟨av, cv, rfl⟩ := row_shape hr1
    exact ⟨b, off, d[j].1, d[j].2, av, cv, ha, hx, hv0, hv1, (ints_rd hr1).1⟩

/-- Two disks alike. -/
def memEq (ss : List (List Int)) (cs : List (Int × List Int)) (f : Bool) (bs : List Int) (ss' : List (List Int)) (cs' : List (Int × List Int)) (f' : Bool) (bs' : List Int) : Bool := decide (ss = ss' ∧ cs = cs' ∧ f = f' ∧ bs = bs')

set_option maxRecDepth 8000 in
set_option maxHeartbeats 4000000 in
theorem sameMem_same (w : World) (E E' : TypeId) (a0 a1 a3 b0 b1 b3 : Option Addr) (n0 c0 n1 c1 n3 c3 p0 d0 p1 d1 p3 d3 : Nat) (ss : List (List Int)) (cs : List (Int × List Int)) (f : Bool) (bs : List Int)
    (h0 : tIntSS.Rd w [.slice a0 n0 c0] ss) (h1 : (tWrS E).Rd w [.slice a1 n1 c1] cs) (h3 : tIntS.Rd w [.slice a3 n3 c3] bs)
    (g0 : tIntSS.Rd w [.slice b0 p0 d0] ss) (g1 : (tWrS E').Rd w [.slice b1 p1 d1] cs) (g3 : tIntS.Rd w [.slice b3 p3 d3] bs) (hw : wtMem (ss, cs, f, bs) ≤ 2097152) :
    Calls Try.prog 23 #[.agg #[.slice a0 n0 c0, .slice a1 n1 c1, .bool f, .slice a3 n3 c3], .agg #[.slice b0 p0 d0, .slice b1 p1 d1, .bool f, .slice b3 p3 d3]] w fun e w' => e = .returned (.bool true) ∧ Below w.heap.size w w' := by
  have hA : Below w.heap.size w ((w.alloc (.cells #[.slice a0 n0 c0, .slice a1 n1 c1, .bool f, .slice a3 n3 c3] 35)).alloc (.cells #[.slice b0 p0 d0, .slice b1 p1 d1, .bool f, .slice b3 p3 d3] 35)) := ((Below.refl _ _).alloc (Nat.le_refl _) _).alloc (by simp) _
  have xa : Box ((w.alloc (.cells #[.slice a0 n0 c0, .slice a1 n1 c1, .bool f, .slice a3 n3 c3] 35)).alloc (.cells #[.slice b0 p0 d0, .slice b1 p1 d1, .bool f, .slice b3 p3 d3] 35)) w.heap.size 35 _ := (Box.new w 35 #[.slice a0 n0 c0, .slice a1 n1 c1, .bool f, .slice a3 n3 c3]).alloc _
  have xb : Box ((w.alloc (.cells #[.slice a0 n0 c0, .slice a1 n1 c1, .bool f, .slice a3 n3 c3] 35)).alloc (.cells #[.slice b0 p0 d0, .slice b1 p1 d1, .bool f, .slice b3 p3 d3] 35)) (w.heap.size + 1) 35 #[.slice b0 p0 d0, .slice b1 p1 d1, .bool f, .slice b3 p3 d3] := by
    have := Box.new (w.alloc (.cells #[.slice a0 n0 c0, .slice a1 n1 c1, .bool f, .slice a3 n3 c3] 35)) 35 #[.slice b0 p0 d0, .slice b1 p1 d1, .bool f, .slice b3 p3 d3]
    rw [show (w.alloc (.cells #[.slice a0 n0 c0, .slice a1 n1 c1, .bool f, .slice a3 n3 c3] 35)).heap.size = w.heap.size + 1 by simp] at this
    exact this
  obtain rfl : p0 = n0 := (row_length g0).1.symm.trans (row_length h0).1
  obtain rfl : p1 = n1 := (row_length g1).1.symm.trans (row_length h1).1
  obtain rfl : p3 = n3 := (row_length g3).1.symm.trans (row_length h3).1
  have HM0 := hidden (row_length h0)
  have HM1 := hidden (row_length h1)
  have h0 := h0.below hA
  have h1 := h1.below hA
  have h3 := h3.below hA
  have g0 := g0.below hA
  have g1 := g1.below hA
  have g3 := g3.below hA
  obtain ⟨r3, l3, _, _⟩ := ints_rd h3
  obtain ⟨t3, m3, _, _⟩ := ints_rd g3
  have HL3 := hidden l3
  have HM3 := hidden m3
  have HW0 : Hid (∀ x ∈ ss, x.length ≤ 2097152) := fun x hx => by
    obtain ⟨j, hj⟩ := List.mem_iff_getElem?.1 hx
    have := inner_le hj
    unfold wtMem at hw
    dsimp only at hw
    omega
  have HW1 : Hid (∀ x ∈ cs, x.2.length ≤ 2097152) := fun x hx => by
    obtain ⟨j, hj⟩ := List.mem_iff_getElem?.1 hx
    have := inner_le' hj
    unfold wtMem at hw
    dsimp only at hw
    omega
  have HW3 : Hid (p3 ≤ 2097152) := by
    unfold Hid
    unfold wtMem at hw
    dsimp only at hw
    omega
  have hbd0 : p0 ≤ 2097152 := by
    have h9 := HM0.out.1
    unfold wtMem wtIntSS at hw
    dsimp only at hw
    omega
  have hbd1 : p1 ≤ 2097152 := by
    have h9 := HM1.out.1
    unfold wtMem wtWrS at hw
    dsimp only at hw
    omega
  clear l3 m3 hw
  go_enter Try.func23, Try.ntmps23
  go_wp2_with fail
  generalize hW : (w.alloc (.cells #[.slice a0 p0 c0, .slice a1 p1 c1, .bool f, .slice a3 p3 c3] 35)).alloc (.cells #[.slice b0 p0 d0, .slice b1 p1 d1, .bool f, .slice b3 p3 d3] 35) = W at hA xa xb h0 h1 h3 g0 g1 g3 r3 t3 ⊢
  clear hW
  refine (sameInts_any _ _ _ _ _ _ _ bs bs HL3.out HM3.out r3 t3 HW3.out).mono ?_
  rintro e w1 ⟨rfl, s1⟩
  have hd : decide (bs = bs) = true := by simp
  have HA := hidden hA
  have Ha0 : Hid (∀ v : World, Same W v → v.cell? ⟨w.heap.size, 0, none⟩ = some (.slice a0 p0 c0)) := fun v s => (s.cell _).trans (xa.cell 0)
  have Ha1 : Hid (∀ v : World, Same W v → v.cell? ⟨w.heap.size, 1, none⟩ = some (.slice a1 p1 c1)) := fun v s => (s.cell _).trans (xa.cell 1)
  have Hb0 : Hid (∀ v : World, Same W v → v.cell? ⟨w.heap.size + 1, 0, none⟩ = some (.slice b0 p0 d0)) := fun v s => (s.cell _).trans (xb.cell 0)
  have Hb1 : Hid (∀ v : World, Same W v → v.cell? ⟨w.heap.size + 1, 1, none⟩ = some (.slice b1 p1 d1)) := fun v s => (s.cell _).trans (xb.cell 1)
  have G0 := hidden h0
  have G1 := hidden h1
  have F0 := hidden g0
  have F1 := hidden g1
  clear hA xa xb h0 h1 h3 g0 g1 g3 r3 t3 HL3 HM3 HW3
  go_wp2_with fail
  go_loopw [5] (fun i wr => ∃ j : Nat, j ≤ p0 ∧ i = .int .i64 j ∧ Same W wr) (fun i _ => p0 - (intOf i).toNat)
  case atStart => exact ⟨0, Nat.zero_le _, rfl, s1⟩
  case round =>
    obtain ⟨j, hj, rfl, hs⟩ := hrel
    clear s1 hd
    have ca0 := Ha0.out wr hs
    by_cases hlt : j < p0
    · have i1 : (0 : Int) ≤ (j : Int) := by omega
      have i2 : (j : Int) < (p0 : Int) := by omega
      obtain ⟨ga, oa, x, va, na, rfl, hx, hca, hra⟩ := sec_at (j := j) G0.out hlt
      obtain ⟨gb, ob, x', vb, nb, rfl, hx', hcb, hrb⟩ := sec_at (j := j) F0.out hlt
      obtain rfl : x = x' := by have := hx.symm.trans hx'; simpa using this
      have lx : x.length ≤ 2097152 := HW0.out _ (List.mem_of_getElem? hx)
      have Ca : Hid (∀ v : World, Same W v → v.cell? ⟨ga, oa + j, none⟩ = some (.slice va x.length na)) := fun v s => (s.cell _).trans hca
      have Cb : Hid (∀ v : World, Same W v → v.cell? ⟨gb, ob + j, none⟩ = some (.slice vb x.length nb)) := fun v s => (s.cell _).trans hcb
      have Ra := hidden hra
      have Rb := hidden hrb
      have hsd : Same W wr.drew := hs.drew
      have hde : decide (x = x) = true := by simp
      clear hx hx' hca hcb hra hrb
      go_wp2_with fail
      go_region_held3 (fun v => v.cell? ⟨w.heap.size, 0, none⟩ = some (.slice (some ⟨ga, oa, none⟩) p0 c0) ∧ v.cell? ⟨ga, oa + j, none⟩ = some (.slice va x.length na) ∧ v.cell? ⟨w.heap.size + 1, 0, none⟩ = some (.slice (some ⟨gb, ob, none⟩) p0 d0) ∧ v.cell? ⟨gb, ob + j, none⟩ = some (.slice vb x.length nb))
        (first | (with_reducible exact ⟨Ha0.out wa sa, Ca.out wa sa, Hb0.out wa sa, Cb.out wa sa⟩) | (with_reducible exact ⟨Ha0.out wr.drew hsd, Ca.out wr.drew hsd, Hb0.out wr.drew hsd, Cb.out wr.drew hsd⟩) | (with_reducible exact ⟨Ha0.out wr hs, Ca.out wr hs, Hb0.out wr hs, Cb.out wr hs⟩) | go_keep)
        (first | (go_at_call 19; refine (sameInts_any _ _ _ _ _ _ _ x x rfl rfl (Ra.out.same hsd) (Rb.out.same hsd) lx).mono ?_; rintro e wa ⟨rfl, sa0⟩; have sa : Same W wa := hsd.trans sa0; clear sa0))
      go_wp2
      go_roundw
      case rel => exact ⟨j + 1, by omega, by go_num, sa⟩
      case measure => simp [intOf]; omega
    · go_wp2_with fail
      go_loopw [6] (fun i wr2 => ∃ j : Nat, j ≤ p1 ∧ i = .int .i64 j ∧ Same W wr2) (fun i _ => p1 - (intOf i).toNat)
      case atStart => exact ⟨0, Nat.zero_le _, rfl, hs⟩
      case round =>
        clear ca0 hlt hj
        obtain ⟨i, hi, rfl, hs2⟩ := hrel
        have ca1 := Ha1.out wr hs2
        by_cases hil : i < p1
        · have i1 : (0 : Int) ≤ (i : Int) := by omega
          have i2 : (i : Int) < (p1 : Int) := by omega
          obtain ⟨ga, oa, x0, x, va, na, rfl, hx, hca0, hca, hra⟩ := wr_at (j := i) G1.out hil
          obtain ⟨gb, ob, y0, y, vb, nb, rfl, hx', hcb0, hcb, hrb⟩ := wr_at (j := i) F1.out hil
          obtain ⟨rfl, rfl⟩ : x0 = y0 ∧ x = y := by have := hx.symm.trans hx'; simpa using this
          have lx : x.length ≤ 2097152 := HW1.out _ (List.mem_of_getElem? hx)
          have Ca0 : Hid (∀ v : World, Same W v → v.cell? ⟨ga, oa + i * 2, none⟩ = some (.int .i64 x0)) := fun v s => (s.cell _).trans hca0
          have Ca : Hid (∀ v : World, Same W v → v.cell? ⟨ga, oa + i * 2 + 1, none⟩ = some (.slice va x.length na)) := fun v s => (s.cell _).trans hca
          have Cb0 : Hid (∀ v : World, Same W v → v.cell? ⟨gb, ob + i * 2, none⟩ = some (.int .i64 x0)) := fun v s => (s.cell _).trans hcb0
          have Cb : Hid (∀ v : World, Same W v → v.cell? ⟨gb, ob + i * 2 + 1, none⟩ = some (.slice vb x.length nb)) := fun v s => (s.cell _).trans hcb
          have Ra := hidden hra
          have Rb := hidden hrb
          have hsd : Same W wr.drew := hs2.drew
          have hde : decide (x = x) = true := by simp
          have hee : (x0 == x0) = true := by simp
          clear hx hx' hca hcb hca0 hcb0 hra hrb
          go_wp2_with fail
          go_region_held3 (fun v => v.cell? ⟨w.heap.size, 1, none⟩ = some (.slice (some ⟨ga, oa, none⟩) p1 c1) ∧ v.cell? ⟨ga, oa + i * 2, none⟩ = some (.int .i64 x0) ∧ v.cell? ⟨ga, oa + i * 2 + 1, none⟩ = some (.slice va x.length na) ∧ v.cell? ⟨w.heap.size + 1, 1, none⟩ = some (.slice (some ⟨gb, ob, none⟩) p1 d1) ∧ v.cell? ⟨gb, ob + i * 2, none⟩ = some (.int .i64 x0) ∧ v.cell? ⟨gb, ob + i * 2 + 1, none⟩ = some (.slice vb x.length nb))
            (first | (with_reducible exact ⟨Ha1.out wa sa, Ca0.out wa sa, Ca.out wa sa, Hb1.out wa sa, Cb0.out wa sa, Cb.out wa sa⟩) | (with_reducible exact ⟨Ha1.out wr.drew hsd, Ca0.out wr.drew hsd, Ca.out wr.drew hsd, Hb1.out wr.drew hsd, Cb0.out wr.drew hsd, Cb.out wr.drew hsd⟩) | (with_reducible exact ⟨Ha1.out wr hs2, Ca0.out wr hs2, Ca.out wr hs2, Hb1.out wr hs2, Cb0.out wr hs2, Cb.out wr hs2⟩) | go_keep)
            (first | (go_at_call 19; refine (sameInts_any _ _ _ _ _ _ _ x x rfl rfl (Ra.out.same hsd) (Rb.out.same hsd) lx).mono ?_; rintro e wa ⟨rfl, sa0⟩; have sa : Same W wa := hsd.trans sa0; clear sa0))
          go_wp2
          go_roundw
          case rel => exact ⟨i + 1, by omega, by go_num, sa⟩
          case measure => simp [intOf]; omega
        · go_wp2
          go_ret
          exact ⟨rfl, Below.andSame HA.out hs2⟩


theorem bytes_of_wf4 {zs : List Int} (h : ∀ n ∈ zs, (Lit.int .u8 n).wf = true) : ∀ n ∈ zs, 0 ≤ n ∧ n ≤ 255 := by
  intro n hn
  have := h n hn
  simp [Lit.wf, IntKind.min, IntKind.max, IntKind.signed, IntKind.bits] at this
  omega

theorem big_any4 (a : Option Addr) (len cap : Nat) (w : World) : Calls Try.prog 9 #[.slice a len cap] w fun e w' => e = .returned (.bool (decide (1048576 < (len : Int)))) ∧ w = w' := by
  go_enter Try.func9, Try.ntmps9
  go_wp2
  go_ret
  exact ⟨rfl, rfl⟩

theorem wrOk_parts4 {ss : List (List Int)} {cs : List (Int × List Int)} {f : Bool} {bs : List Int} {n : Int} {sw : List Int} (h : wrOk ss cs f bs n sw = true) : memB ss cs bs = true ∧ f = false ∧ 0 ≤ n ∧ n < ss.length ∧ secB sw = true := by
  unfold wrOk at h
  simp only [Bool.and_eq_true, Bool.not_eq_true', decide_eq_true_eq] at h
  obtain ⟨h1, h2, h3, h4, _⟩ := h
  unfold inB at h3
  simp at h3
  exact ⟨h1, h2, h3.1, by omega, h4⟩

theorem inL_filt4 (bs : List Int) (n i : Int) : inL (filt bs n) i = (inL bs i && decide (i ≠ n)) := by
  unfold inL filt
  rw [Bool.eq_iff_iff]
  simp only [List.any_eq_true, List.mem_filter, decide_eq_true_eq, Bool.and_eq_true]
  constructor
  · rintro ⟨x, ⟨h1, h2⟩, rfl⟩
    exact ⟨⟨x, h1, rfl⟩, h2⟩
  · rintro ⟨⟨x, h1, rfl⟩, h2⟩
    exact ⟨x, ⟨h1, h2⟩, rfl⟩

theorem read_other4 {ss : List (List Int)} {cs : List (Int × List Int)} {f : Bool} {bs : List Int} {n i : Int} {sw : List Int} (h : wrOk ss cs f bs n sw = true) (hi : i ≠ n) :
    readOk ss (cs ++ [(n, sw)]) f (filt bs n) i = readOk ss cs f bs i ∧ readD ss (cs ++ [(n, sw)]) f (filt bs n) i = readD ss cs f bs i := by
  have h1 := memB_write h
  have h2 := (wrOk_parts4 h).1
  have e1 : readOk ss (cs ++ [(n, sw)]) f (filt bs n) i = readOk ss cs f bs i := by
    unfold readOk
    rw [h1, h2, inL_filt4]
    simp [hi]
  refine ⟨e1, ?_⟩
  have e2 : lastW (cs ++ [(n, sw)]) i = lastW cs i := by
    rw [lastW_snoc]
    exact if_neg (fun e => hi e.symm)
  unfold readD
  rw [e1, e2]

theorem read_self4 {ss : List (List Int)} {cs : List (Int × List Int)} {f : Bool} {bs : List Int} {n : Int} {sw : List Int} (h : wrOk ss cs f bs n sw = true) :
    readOk ss (cs ++ [(n, sw)]) f (filt bs n) n = true ∧ readD ss (cs ++ [(n, sw)]) f (filt bs n) n = sw := by
  have h1 := memB_write h
  obtain ⟨_, h3, h4, h5, _⟩ := wrOk_parts4 h
  have e1 : readOk ss (cs ++ [(n, sw)]) f (filt bs n) n = true := by
    unfold readOk inB
    rw [h1, h3, inL_filt4]
    simp
    omega
  refine ⟨e1, ?_⟩
  unfold readD
  rw [if_pos e1, lastW_snoc, if_pos rfl]
  rfl


theorem put_get {x : Sup} (h : supB x = true) : getB (putD x) = true ∧ getD (putD x) = x := by
  have hs := supB_iff.1 h
  have hw : IntKind.i64.wrap (x.lost + 1 - 1) = x.lost := by
    rw [show x.lost + 1 - 1 = x.lost by omega]
    exact IntWalk.i64_in _ (by omega)
  have ho : ofW (putD x) = x := by
    rw [putD_of h]
    unfold ofW
    simp only [List.getD_cons_succ, List.getD_cons_zero]
    rw [hw]
  have hb : getB (putD x) = true := by
    unfold getB
    rw [ho, h, putD_of h]
    rfl
  exact ⟨hb, by rw [getD_of hb, ho]⟩

theorem at_self {ss : List (List Int)} {cs : List (Int × List Int)} {f : Bool} {bs : List Int} {x : Sup} {p : Int} (hp : x.gen % 2 = p) (hx : supB x = true) (h : wrOk ss cs f bs p (putD x) = true) :
    atOk (readOk ss (cs ++ [(p, putD x)]) f (filt bs p) p) (readD ss (cs ++ [(p, putD x)]) f (filt bs p) p) x.id p = true ∧ atD (readOk ss (cs ++ [(p, putD x)]) f (filt bs p) p) (readD ss (cs ++ [(p, putD x)]) f (filt bs p) p) x.id p = x := by
  obtain ⟨e1, e2⟩ := read_self4 h
  obtain ⟨g1, g2⟩ := put_get hx
  have h1 : atOk true (putD x) x.id p = true := by unfold atOk; rw [g1, g2]; simp [hp]
  rw [e1, e2]
  refine ⟨h1, ?_⟩
  unfold atD
  rw [if_pos h1, g2]
theorem at_gen {rk : Bool} {ps : List Int} {id p : Int} (h : atOk rk ps id p = true) : (atD rk ps id p).gen % 2 = p ∧ 0 ≤ (atD rk ps id p).gen := by
  have e : atD rk ps id p = getD ps := by unfold atD; rw [if_pos h]
  unfold atOk at h
  simp only [Bool.and_eq_true, decide_eq_true_eq] at h
  rw [e]
  exact ⟨h.2.2.2, (getB_gen h.2.1).1⟩
theorem best_two (ss : List (List Int)) (cs : List (Int × List Int)) (f : Bool) (bs : List Int) (id : Int) : bestSt ss cs f bs id 2 =
    if better (atB ss cs f bs id 1) (atS ss cs f bs id 1) (if atB ss cs f bs id 0 = true then atS ss cs f bs id 0 else supZ) (atB ss cs f bs id 0) = true then (atS ss cs f bs id 1, true) else (if atB ss cs f bs id 0 = true then atS ss cs f bs id 0 else supZ, atB ss cs f bs id 0) := by
  have e1 : bestSt ss cs f bs id 1 = (if atB ss cs f bs id 0 = true then atS ss cs f bs id 0 else supZ, atB ss cs f bs id 0) := by
    show (if better (atB ss cs f bs id 0) (atS ss cs f bs id 0) supZ false = true then (atS ss cs f bs id 0, true) else (supZ, false)) = _
    unfold better
    cases atB ss cs f bs id 0 <;> simp
  show (if better (atB ss cs f bs id 1) (atS ss cs f bs id 1) (bestSt ss cs f bs id 1).1 (bestSt ss cs f bs id 1).2 = true then (atS ss cs f bs id 1, true) else bestSt ss cs f bs id 1) = _
  rw [e1]

/-- Behind a write that was not refused the newer one counts. -/
theorem newer_best {ss : List (List Int)} {cs : List (Int × List Int)} {f : Bool} {bs : List Int} {x : Sup} (hx : supB x = true) (h : wrOk ss cs f bs (x.gen % 2) (putD x) = true) :
    (bestSt ss (cs ++ [(x.gen % 2, putD x)]) f (filt bs (x.gen % 2)) x.id 2).2 = true ∧
    ((bestSt ss cs f bs x.id 2).2 = false → (bestSt ss (cs ++ [(x.gen % 2, putD x)]) f (filt bs (x.gen % 2)) x.id 2).1 = x) ∧
    ((bestSt ss cs f bs x.id 2).2 = true → 0 ≤ (bestSt ss cs f bs x.id 2).1.gen ∧ ((bestSt ss cs f bs x.id 2).1.gen < x.gen → x.gen % 2 ≠ (bestSt ss cs f bs x.id 2).1.gen % 2 → (bestSt ss (cs ++ [(x.gen % 2, putD x)]) f (filt bs (x.gen % 2)) x.id 2).1 = x)) := by
  have hp : x.gen % 2 = 0 ∨ x.gen % 2 = 1 := by omega
  have g0 : atB ss cs f bs x.id 0 = true → (atS ss cs f bs x.id 0).gen % 2 = 0 ∧ 0 ≤ (atS ss cs f bs x.id 0).gen := fun hb => at_gen (p := 0) hb
  have g1 : atB ss cs f bs x.id 1 = true → (atS ss cs f bs x.id 1).gen % 2 = 1 ∧ 0 ≤ (atS ss cs f bs x.id 1).gen := fun hb => at_gen (p := 1) hb
  rcases hp with hp | hp
  · rw [hp] at h ⊢
    obtain ⟨s1, s2⟩ := at_self hp hx h
    obtain ⟨o1, o2⟩ := read_other4 (i := 1) h (by decide)
    have a0 : atB ss (cs ++ [(0, putD x)]) f (filt bs 0) x.id 0 = true := s1
    have b0 : atS ss (cs ++ [(0, putD x)]) f (filt bs 0) x.id 0 = x := s2
    have a1 : atB ss (cs ++ [(0, putD x)]) f (filt bs 0) x.id 1 = atB ss cs f bs x.id 1 := by
      show atOk (readOk ss (cs ++ [(0, putD x)]) f (filt bs 0) 1) (readD ss (cs ++ [(0, putD x)]) f (filt bs 0) 1) x.id 1 = _
      rw [o1, o2]
      rfl
    have b1 : atS ss (cs ++ [(0, putD x)]) f (filt bs 0) x.id 1 = atS ss cs f bs x.id 1 := by
      show atD (readOk ss (cs ++ [(0, putD x)]) f (filt bs 0) 1) (readD ss (cs ++ [(0, putD x)]) f (filt bs 0) 1) x.id 1 = _
      rw [o1, o2]
      rfl
    rw [best_two ss (cs ++ [(0, putD x)]), best_two ss cs, a0, b0, a1, b1]
    clear s1 s2 o1 o2 a0 b0 a1 b1 h
    generalize atS ss cs f bs x.id 0 = S0 at g0 ⊢
    generalize atS ss cs f bs x.id 1 = S1 at g1 ⊢
    generalize atB ss cs f bs x.id 0 = A0 at g0 ⊢
    generalize atB ss cs f bs x.id 1 = A1 at g1 ⊢
    unfold better
    cases A0 <;> cases A1 <;> simp at g0 g1 ⊢
    all_goals (try (split <;> simp_all))
    all_goals (try omega)
    all_goals (try (by_cases hc : S0.gen < S1.gen))
    all_goals (try (simp [hc]))
    all_goals (try (first | omega | exact ⟨by omega, fun h1 h2 => absurd h1 (by omega)⟩ | exact ⟨by omega, fun h1 h2 => absurd h2 (by omega)⟩))
  · rw [hp] at h ⊢
    obtain ⟨s1, s2⟩ := at_self hp hx h
    obtain ⟨o1, o2⟩ := read_other4 (i := 0) h (by decide)
    have a1 : atB ss (cs ++ [(1, putD x)]) f (filt bs 1) x.id 1 = true := s1
    have b1 : atS ss (cs ++ [(1, putD x)]) f (filt bs 1) x.id 1 = x := s2
    have a0 : atB ss (cs ++ [(1, putD x)]) f (filt bs 1) x.id 0 = atB ss cs f bs x.id 0 := by
      show atOk (readOk ss (cs ++ [(1, putD x)]) f (filt bs 1) 0) (readD ss (cs ++ [(1, putD x)]) f (filt bs 1) 0) x.id 0 = _
      rw [o1, o2]
      rfl
    have b0 : atS ss (cs ++ [(1, putD x)]) f (filt bs 1) x.id 0 = atS ss cs f bs x.id 0 := by
      show atD (readOk ss (cs ++ [(1, putD x)]) f (filt bs 1) 0) (readD ss (cs ++ [(1, putD x)]) f (filt bs 1) 0) x.id 0 = _
      rw [o1, o2]
      rfl
    rw [best_two ss (cs ++ [(1, putD x)]), best_two ss cs, a0, b0, a1, b1]
    clear s1 s2 o1 o2 a0 b0 a1 b1 h
    generalize atS ss cs f bs x.id 0 = S0 at g0 ⊢
    generalize atS ss cs f bs x.id 1 = S1 at g1 ⊢
    generalize atB ss cs f bs x.id 0 = A0 at g0 ⊢
    generalize atB ss cs f bs x.id 1 = A1 at g1 ⊢
    unfold better
    cases A0 <;> cases A1 <;> simp at g0 g1 ⊢
    all_goals (try (split <;> simp_all))
    all_goals (try omega)
    all_goals (try (by_cases hc : S0.gen < S1.gen))
    all_goals (try (simp [hc]))
    all_goals (try (first | omega | exact ⟨by omega, fun h1 h2 => absurd h1 (by omega)⟩ | exact ⟨by omega, fun h1 h2 => absurd h2 (by omega)⟩))

set_option maxHeartbeats 1600000 in
/-- Of two caches of other lengths it tells that they are not the same. -/
theorem sameMem_len (w : World) (a0 a1 a3 b0 b1 b3 : Option Addr) (n0 c0 n1 c1 n3 c3 d0 p1 d1 p3 d3 : Nat) (f : Bool) (h : n1 ≠ p1) :
    Calls Try.prog 23 #[.agg #[.slice a0 n0 c0, .slice a1 n1 c1, .bool f, .slice a3 n3 c3], .agg #[.slice b0 n0 d0, .slice b1 p1 d1, .bool f, .slice b3 p3 d3]] w fun e w' => e = .returned (.bool false) ∧ Below w.heap.size w w' := by
  have hne : ¬ (n1 : Int) = (p1 : Int) := by omega
  go_enter Try.func23, Try.ntmps23
  go_wp2
  go_ret
  exact ⟨rfl, (new_below w _).alloc (by simp) _⟩


set_option maxRecDepth 20000 in
set_option maxHeartbeats 16000000 in
theorem fnNewer_walk (za : Option Addr) (len0 cap0 : Nat) (z0 : List Int) (w : World) (w0 : IsRow .u8 w za len0 cap0 z0) :
    Calls Try.prog 4 #[.slice za len0 cap0] w fun e w' => e = .returned (.bool true) ∧ Below w.heap.size w w' := by
  obtain ⟨R, hl, hwf, hml⟩ := w0.reads
  generalize z0.take len0 = zs at R hl hwf
  unfold maxLen at hml
  have hby := bytes_of_wf4 hwf
  clear w0 hwf
  by_cases hbig : len0 ≤ 1048576
  rotate_left
  · go_enter Try.func4, Try.ntmps4
    go_wp2_with fail
    refine (big_any4 _ _ _ _).mono ?_
    rintro e wb ⟨rfl, rfl⟩
    go_wp2
    go_ret
    exact ⟨rfl, Below.refl _ _⟩
  have hlb : len0 ≤ 2097152 := by omega
  go_enter Try.func4, Try.ntmps4
  go_wp2_with fail
  refine (big_any4 _ _ _ _).mono ?_
  rintro e wb ⟨rfl, rfl⟩
  go_wp2_with fail
  refine (drawWriteSuper_any _ _ _ _ zs hl R hby hlb).mono ?_
  rintro e w1 ⟨a0, n0, c0, a1, n1, c1, a3, n3, c3, ss, cs, f, bs, x, rfl, h0, h1, h3, hwt, b1⟩
  have hgr := ws_grow ss cs f bs x
  obtain ⟨CS, hCS⟩ : ∃ CS, wsCS ss cs f bs x = CS := ⟨_, rfl⟩
  obtain ⟨BS, hBS⟩ : ∃ BS, wsBS ss cs f bs x = BS := ⟨_, rfl⟩
  rw [hCS, hBS] at hgr
  have HCS := hidden hCS
  have HBS := hidden hBS
  clear hCS hBS R
  obtain ⟨hl0, _, _⟩ := row_length h0
  obtain ⟨hl1, _, _⟩ := row_length h1
  have bW := (new_below w1 (.cells #[.slice a0 n0 c0, .slice a1 n1 c1, .bool f, .slice a3 n3 c3] 35)).alloc (by simp) (.cells #[.int .i64 x.id, .int .i64 x.gen, .int .i64 x.role, .int .i64 x.n, .int .i64 x.s, .int .i64 x.tail, .int .i64 x.lost, .int .i64 x.built] 25)
  have M2 := (Box.new w1 35 #[.slice a0 n0 c0, .slice a1 n1 c1, .bool f, .slice a3 n3 c3]).alloc (.cells #[.int .i64 x.id, .int .i64 x.gen, .int .i64 x.role, .int .i64 x.n, .int .i64 x.s, .int .i64 x.tail, .int .i64 x.lost, .int .i64 x.built] 25)
  have S2 := Box.new (w1.alloc (.cells #[.slice a0 n0 c0, .slice a1 n1 c1, .bool f, .slice a3 n3 c3] 35)) 25 #[.int .i64 x.id, .int .i64 x.gen, .int .i64 x.role, .int .i64 x.n, .int .i64 x.s, .int .i64 x.tail, .int .i64 x.lost, .int .i64 x.built]
  rw [World.size_alloc] at S2
  go_wp2_with fail
  generalize (w1.alloc (.cells #[.slice a0 n0 c0, .slice a1 n1 c1, .bool f, .slice a3 n3 c3] 35)).alloc (.cells #[.int .i64 x.id, .int .i64 x.gen, .int .i64 x.role, .int .i64 x.n, .int .i64 x.s, .int .i64 x.tail, .int .i64 x.lost, .int .i64 x.built] 25) = W at bW M2 S2 ⊢
  have BW := Below.andThen b1 bW
  refine (implWriteSuper_any _ 81 _ _ _ _ _ _ _ _ _ ss cs f bs x (h0.below bW) (h1.below bW) (h3.below bW) (by omega)).mono ?_
  rintro e w2 ⟨v0, v1, v3, rfl, o2, b2⟩
  rw [HCS.out, HBS.out] at o2
  obtain ⟨ya0, yl0, yc0, ya1, yl1, yc1, ya3, yl3, yc3, hv0, hv1, hv3⟩ := mem_letters2 o2
  subst hv0 hv1 hv3
  have bx := new_below w2 (.cells #[.slice ya0 yl0 yc0, .slice ya1 yl1 yc1, .bool f, .slice ya3 yl3 yc3] 35)
  have b13 := Below.andThen (Below.andThen bW b2) bx
  have M3 := (M2.below b2 M2.lt).below bx (M2.below b2 M2.lt).lt
  have S3 := (S2.below b2 S2.lt).below bx (S2.below b2 S2.lt).lt
  have X3 := Box.new w2 35 #[.slice ya0 yl0 yc0, .slice ya1 yl1 yc1, .bool f, .slice ya3 yl3 yc3]
  have O3 := hidden (o2.below bx)
  have B3 := hidden (Below.andThen b1 b13)
  have b13' := hidden b13
  clear o2 bW M2 S2 BW b2 bx
  go_wp2_with fail
  generalize w2.alloc (.cells #[.slice ya0 yl0 yc0, .slice ya1 yl1 yc1, .bool f, .slice ya3 yl3 yc3] 35) = w3 at M3 S3 X3 O3 B3 b13' b13 ⊢
  clear b13
  have zM := M3.lt
  have zS := S3.lt
  have zX := X3.lt
  obtain ⟨q0, q1, q2, q3⟩ := M3.cells4
  obtain ⟨y0, y1, y2, y3⟩ := X3.cells4
  obtain ⟨s0, s1, s2, s3, s4, s5, s6, s7⟩ := S3.cells8
  go_region_held3 (fun w' => w'.cell? ⟨w2.heap.size, 0, none⟩ = some (.slice ya0 yl0 yc0) ∧ w'.cell? ⟨w2.heap.size, 1, none⟩ = some (.slice ya1 yl1 yc1) ∧ w'.cell? ⟨w2.heap.size, 2, none⟩ = some (.bool f) ∧ w'.cell? ⟨w2.heap.size, 3, none⟩ = some (.slice ya3 yl3 yc3) ∧ w'.cell? ⟨w1.heap.size, 0, none⟩ = some (.slice a0 n0 c0) ∧ w'.cell? ⟨w1.heap.size, 1, none⟩ = some (.slice a1 n1 c1) ∧ w'.cell? ⟨w1.heap.size, 2, none⟩ = some (.bool f) ∧ w'.cell? ⟨w1.heap.size, 3, none⟩ = some (.slice a3 n3 c3) ∧ w'.cell? ⟨w1.heap.size + 1, 0, none⟩ = some (.int .i64 x.id) ∧ w'.cell? ⟨w1.heap.size + 1, 1, none⟩ = some (.int .i64 x.gen) ∧ w'.cell? ⟨w1.heap.size + 1, 2, none⟩ = some (.int .i64 x.role) ∧ w'.cell? ⟨w1.heap.size + 1, 3, none⟩ = some (.int .i64 x.n) ∧ w'.cell? ⟨w1.heap.size + 1, 4, none⟩ = some (.int .i64 x.s) ∧ w'.cell? ⟨w1.heap.size + 1, 5, none⟩ = some (.int .i64 x.tail) ∧ w'.cell? ⟨w1.heap.size + 1, 6, none⟩ = some (.int .i64 x.lost) ∧ w'.cell? ⟨w1.heap.size + 1, 7, none⟩ = some (.int .i64 x.built))
    (first | (exact ⟨(b5'.cell (p := ⟨w2.heap.size, 0, none⟩) zX).trans y0, (b5'.cell (p := ⟨w2.heap.size, 1, none⟩) zX).trans y1, (b5'.cell (p := ⟨w2.heap.size, 2, none⟩) zX).trans y2, (b5'.cell (p := ⟨w2.heap.size, 3, none⟩) zX).trans y3, (b5'.cell (p := ⟨w1.heap.size, 0, none⟩) zM).trans q0, (b5'.cell (p := ⟨w1.heap.size, 1, none⟩) zM).trans q1, (b5'.cell (p := ⟨w1.heap.size, 2, none⟩) zM).trans q2, (b5'.cell (p := ⟨w1.heap.size, 3, none⟩) zM).trans q3, (b5'.cell (p := ⟨w1.heap.size + 1, 0, none⟩) zS).trans s0, (b5'.cell (p := ⟨w1.heap.size + 1, 1, none⟩) zS).trans s1, (b5'.cell (p := ⟨w1.heap.size + 1, 2, none⟩) zS).trans s2, (b5'.cell (p := ⟨w1.heap.size + 1, 3, none⟩) zS).trans s3, (b5'.cell (p := ⟨w1.heap.size + 1, 4, none⟩) zS).trans s4, (b5'.cell (p := ⟨w1.heap.size + 1, 5, none⟩) zS).trans s5, (b5'.cell (p := ⟨w1.heap.size + 1, 6, none⟩) zS).trans s6, (b5'.cell (p := ⟨w1.heap.size + 1, 7, none⟩) zS).trans s7⟩) | (exact ⟨(b4'.cell (p := ⟨w2.heap.size, 0, none⟩) zX).trans y0, (b4'.cell (p := ⟨w2.heap.size, 1, none⟩) zX).trans y1, (b4'.cell (p := ⟨w2.heap.size, 2, none⟩) zX).trans y2, (b4'.cell (p := ⟨w2.heap.size, 3, none⟩) zX).trans y3, (b4'.cell (p := ⟨w1.heap.size, 0, none⟩) zM).trans q0, (b4'.cell (p := ⟨w1.heap.size, 1, none⟩) zM).trans q1, (b4'.cell (p := ⟨w1.heap.size, 2, none⟩) zM).trans q2, (b4'.cell (p := ⟨w1.heap.size, 3, none⟩) zM).trans q3, (b4'.cell (p := ⟨w1.heap.size + 1, 0, none⟩) zS).trans s0, (b4'.cell (p := ⟨w1.heap.size + 1, 1, none⟩) zS).trans s1, (b4'.cell (p := ⟨w1.heap.size + 1, 2, none⟩) zS).trans s2, (b4'.cell (p := ⟨w1.heap.size + 1, 3, none⟩) zS).trans s3, (b4'.cell (p := ⟨w1.heap.size + 1, 4, none⟩) zS).trans s4, (b4'.cell (p := ⟨w1.heap.size + 1, 5, none⟩) zS).trans s5, (b4'.cell (p := ⟨w1.heap.size + 1, 6, none⟩) zS).trans s6, (b4'.cell (p := ⟨w1.heap.size + 1, 7, none⟩) zS).trans s7⟩) | (exact ⟨y0, y1, y2, y3, q0, q1, q2, q3, s0, s1, s2, s3, s4, s5, s6, s7⟩) | go_keep)
    (first
      | (go_at_call 24; refine (specWriteSuper_any _ 81 _ _ _ _ _ _ _ _ _ ss cs f bs x (by exact (h0.below b13'.out).drew) (by exact (h1.below b13'.out).drew) (by exact (h3.below b13'.out).drew) (by omega)).mono ?_; rintro e w4 ⟨u0, u1, u3, rfl, o4, b4⟩; rw [HCS.out, HBS.out] at o4; obtain ⟨ta0, tl0, tc0, ta1, tl1, tc1, ta3, tl3, tc3, hv0, hv1, hv3⟩ := mem_letters2 o4; subst hv0 hv1 hv3; have b4' : Below w3.heap.size w3 w4 := (Below.refl w3.heap.size w3).drew.trans b4)
      | (go_at_call 23; refine (sameMem_same _ 81 81 _ _ _ _ _ _ _ _ _ _ _ _ _ _ _ _ _ _ ss CS f BS (by exact (mem_parts (O3.out.below b4')).1) (by exact (mem_parts (O3.out.below b4')).2.1) (by exact (mem_parts (O3.out.below b4')).2.2) (by exact (mem_parts o4).1) (by exact (mem_parts o4).2.1) (by exact (mem_parts o4).2.2) (by omega)).mono ?_; rintro e w5 ⟨rfl, b5⟩; have b5' : Below w3.heap.size w3 w5 := Below.andThen b4' b5))
  have M5 := M3.below b5' zM
  have S5 := S3.below b5' zS
  have X5 := X3.below b5' zX
  have O5 := hidden (O3.out.below b5')
  have B5 := hidden (Below.andThen B3.out b5')
  have b15 := hidden (Below.andThen b13'.out b5')
  clear q0 q1 q2 q3 y0 y1 y2 y3 s0 s1 s2 s3 s4 s5 s6 s7 M3 S3 X3 O3 B3 b13' b4 b4' b5 b5' o4 zM zS zX
  obtain ⟨q0, q1, q2, q3⟩ := M5.cells4
  obtain ⟨s0, s1, s2, s3, s4, s5, s6, s7⟩ := S5.cells8
  go_wp2_with fail
  refine (implBestSuper_any _ 81 _ _ _ _ _ _ _ _ _ ss cs f bs x.id (h0.below b15.out) (h1.below b15.out) (h3.below b15.out) (by omega)).mono ?_
  rintro e w6 ⟨rfl, b6⟩
  have bA := new_below w6 (.cells #[.int .i64 ((bestSt ss cs f bs x.id 2).1).id, .int .i64 ((bestSt ss cs f bs x.id 2).1).gen, .int .i64 ((bestSt ss cs f bs x.id 2).1).role, .int .i64 ((bestSt ss cs f bs x.id 2).1).n, .int .i64 ((bestSt ss cs f bs x.id 2).1).s, .int .i64 ((bestSt ss cs f bs x.id 2).1).tail, .int .i64 ((bestSt ss cs f bs x.id 2).1).lost, .int .i64 ((bestSt ss cs f bs x.id 2).1).built] 25)
  have b67 := Below.andThen b6 bA
  have M7 := M5.below b67 M5.lt
  have S7 := S5.below b67 S5.lt
  have X7 := X5.below b67 X5.lt
  have A7 := Box.new w6 25 #[.int .i64 ((bestSt ss cs f bs x.id 2).1).id, .int .i64 ((bestSt ss cs f bs x.id 2).1).gen, .int .i64 ((bestSt ss cs f bs x.id 2).1).role, .int .i64 ((bestSt ss cs f bs x.id 2).1).n, .int .i64 ((bestSt ss cs f bs x.id 2).1).s, .int .i64 ((bestSt ss cs f bs x.id 2).1).tail, .int .i64 ((bestSt ss cs f bs x.id 2).1).lost, .int .i64 ((bestSt ss cs f bs x.id 2).1).built]
  have O7 := hidden (O5.out.below b67)
  have B7 := hidden (Below.andThen B5.out b67)
  have b17 := hidden (Below.andThen b15.out b67)
  clear q0 q1 q2 q3 s0 s1 s2 s3 s4 s5 s6 s7 M5 S5 X5 O5 B5 b15 b6 bA b67
  obtain ⟨y0, y1, y2, y3⟩ := X7.cells4
  obtain ⟨s0, s1, s2, s3, s4, s5, s6, s7⟩ := S7.cells8
  go_wp2_with fail
  generalize w6.alloc (.cells #[.int .i64 ((bestSt ss cs f bs x.id 2).1).id, .int .i64 ((bestSt ss cs f bs x.id 2).1).gen, .int .i64 ((bestSt ss cs f bs x.id 2).1).role, .int .i64 ((bestSt ss cs f bs x.id 2).1).n, .int .i64 ((bestSt ss cs f bs x.id 2).1).s, .int .i64 ((bestSt ss cs f bs x.id 2).1).tail, .int .i64 ((bestSt ss cs f bs x.id 2).1).lost, .int .i64 ((bestSt ss cs f bs x.id 2).1).built] 25) = w7 at M7 S7 X7 A7 O7 B7 b17 y0 y1 y2 y3 s0 s1 s2 s3 s4 s5 s6 s7 ⊢
  obtain ⟨m0, m1, m3⟩ := mem_parts O7.out
  refine (implBestSuper_any _ 81 _ _ _ _ _ _ _ _ _ ss CS f BS x.id m0 m1 m3 (by omega)).mono ?_
  rintro e w8 ⟨rfl, b8⟩
  have bB := new_below w8 (.cells #[.int .i64 ((bestSt ss CS f BS x.id 2).1).id, .int .i64 ((bestSt ss CS f BS x.id 2).1).gen, .int .i64 ((bestSt ss CS f BS x.id 2).1).role, .int .i64 ((bestSt ss CS f BS x.id 2).1).n, .int .i64 ((bestSt ss CS f BS x.id 2).1).s, .int .i64 ((bestSt ss CS f BS x.id 2).1).tail, .int .i64 ((bestSt ss CS f BS x.id 2).1).lost, .int .i64 ((bestSt ss CS f BS x.id 2).1).built] 25)
  have b89 := Below.andThen b8 bB
  have M9 := M7.below b89 M7.lt
  have S9 := S7.below b89 S7.lt
  have X9 := X7.below b89 X7.lt
  have A9 := A7.below b89 A7.lt
  have Q9 := Box.new w8 25 #[.int .i64 ((bestSt ss CS f BS x.id 2).1).id, .int .i64 ((bestSt ss CS f BS x.id 2).1).gen, .int .i64 ((bestSt ss CS f BS x.id 2).1).role, .int .i64 ((bestSt ss CS f BS x.id 2).1).n, .int .i64 ((bestSt ss CS f BS x.id 2).1).s, .int .i64 ((bestSt ss CS f BS x.id 2).1).tail, .int .i64 ((bestSt ss CS f BS x.id 2).1).lost, .int .i64 ((bestSt ss CS f BS x.id 2).1).built]
  have O9 := hidden (O7.out.below b89)
  have B9 := hidden (Below.andThen B7.out b89)
  have b19 := hidden (Below.andThen b17.out b89)
  clear y0 y1 y2 y3 s0 s1 s2 s3 s4 s5 s6 s7 M7 S7 X7 A7 O7 B7 b17 b8 bB b89 m0 m1 m3
  obtain ⟨y0, y1, y2, y3⟩ := X9.cells4
  obtain ⟨q0, q1, q2, q3⟩ := M9.cells4
  go_wp2_with fail
  generalize w8.alloc (.cells #[.int .i64 ((bestSt ss CS f BS x.id 2).1).id, .int .i64 ((bestSt ss CS f BS x.id 2).1).gen, .int .i64 ((bestSt ss CS f BS x.id 2).1).role, .int .i64 ((bestSt ss CS f BS x.id 2).1).n, .int .i64 ((bestSt ss CS f BS x.id 2).1).s, .int .i64 ((bestSt ss CS f BS x.id 2).1).tail, .int .i64 ((bestSt ss CS f BS x.id 2).1).lost, .int .i64 ((bestSt ss CS f BS x.id 2).1).built] 25) = w9 at M9 S9 X9 A9 Q9 O9 B9 b19 y0 y1 y2 y3 q0 q1 q2 q3 ⊢
  by_cases ok : (supB x && wrOk ss cs f bs (x.gen % 2) (putD x)) = true
  · rw [Bool.and_eq_true] at ok
    obtain ⟨hx, hok⟩ := ok
    have e1 : CS = cs ++ [(x.gen % 2, putD x)] := by rw [← HCS.out]; unfold wsCS wrCS; rw [if_pos hx, if_pos hok]
    have e2 : BS = filt bs (x.gen % 2) := by rw [← HBS.out]; unfold wsBS wrBS; rw [if_pos hx, if_pos hok]
    obtain ⟨N1, N2, N3⟩ := newer_best hx hok
    rw [← e1, ← e2] at N1 N2 N3
    obtain ⟨hy0, _, _⟩ := row_length (mem_parts O9.out).1
    obtain ⟨hy1, _, _⟩ := row_length (mem_parts O9.out).2.1
    have l0 : yl0 = n0 := by omega
    subst l0
    have l1 : yl1 ≠ n1 := by rw [e1] at hy1; simp at hy1; omega
    clear e1 e2 hok HCS HBS hgr hwt hy0 hy1
    have gx := (supB_iff.1 hx).2.2.2.2.1
    refine (sameMem_len _ _ _ _ _ _ _ _ _ _ _ _ _ _ _ _ _ _ f l1).mono ?_
    rintro e wA ⟨rfl, bA⟩
    have SA := S9.below bA S9.lt
    have AA := A9.below bA A9.lt
    have QA := Q9.below bA Q9.lt
    have BA := hidden (Below.andThen B9.out bA)
    clear y0 y1 y2 y3 q0 q1 q2 q3 M9 S9 X9 A9 Q9 O9 B9 b19 bA
    obtain ⟨s0, s1, s2, s3, s4, s5, s6, s7⟩ := SA.cells8
    obtain ⟨t0, t1, t2, t3, t4, t5, t6, t7⟩ := AA.cells8
    obtain ⟨r0, r1, r2, r3, r4, r5, r6, r7⟩ := QA.cells8
    have e3 : x.gen.tmod 2 = x.gen % 2 := Int.tmod_eq_emod_of_nonneg gx.1
    clear SA AA QA hx
    generalize bestSt ss CS f BS x.id 2 = PB at N1 N2 N3 r0 r1 r2 r3 r4 r5 r6 r7 ⊢
    generalize bestSt ss cs f bs x.id 2 = PA at N2 N3 t0 t1 t2 t3 t4 t5 t6 t7 ⊢
    obtain ⟨PA, was⟩ := PA
    obtain ⟨PB, is⟩ := PB
    dsimp only at N1 N2 N3 t0 t1 t2 t3 t4 t5 t6 t7 r0 r1 r2 r3 r4 r5 r6 r7 ⊢
    subst N1
    by_cases hw : was = true
    · subst hw
      obtain ⟨ga, N4⟩ := N3 rfl
      clear N2 N3
      have e4 : PA.gen.tmod 2 = PA.gen % 2 := Int.tmod_eq_emod_of_nonneg ga
      by_cases hgt : PA.gen < x.gen
      · by_cases hne : x.gen % 2 = PA.gen % 2
        · have HN := hidden N4
          clear N4
          go_wp2
          go_ret
          exact ⟨rfl, BA.out⟩
        · have hB := N4 hgt hne
          clear N4
          subst hB
          go_wp2
          go_ret
          exact ⟨rfl, BA.out⟩
      · clear N4
        go_wp2
        go_ret
        exact ⟨rfl, BA.out⟩
    · have hw : was = false := by simpa using hw
      subst hw
      have hB := N2 rfl
      clear N2 N3
      subst hB
      go_wp2
      go_ret
      exact ⟨rfl, BA.out⟩
  · have e1 : CS = cs := by
      rw [← HCS.out]
      unfold wsCS wrCS
      by_cases hx : supB x = true
      · rw [if_pos hx, if_neg (by intro hc; apply ok; rw [hx, hc]; rfl)]
      · rw [if_neg hx]
    have e2 : BS = bs := by
      rw [← HBS.out]
      unfold wsBS wrBS
      by_cases hx : supB x = true
      · rw [if_pos hx, if_neg (by intro hc; apply ok; rw [hx, hc]; rfl)]
      · rw [if_neg hx]
    clear ok HCS HBS
    subst e1 e2
    obtain ⟨m0, m1, m3⟩ := mem_parts O9.out
    refine (sameMem_same _ 81 81 _ _ _ _ _ _ _ _ _ _ _ _ _ _ _ _ _ _ ss CS f BS m0 m1 m3 (h0.below b19.out) (h1.below b19.out) (h3.below b19.out) (by omega)).mono ?_
    rintro e wA ⟨rfl, bA⟩
    have AA := A9.below bA A9.lt
    have QA := Q9.below bA Q9.lt
    have BA := hidden (Below.andThen B9.out bA)
    clear y0 y1 y2 y3 q0 q1 q2 q3 M9 S9 X9 A9 Q9 O9 B9 b19 bA m0 m1 m3
    obtain ⟨t0, t1, t2, t3, t4, t5, t6, t7⟩ := AA.cells8
    obtain ⟨r0, r1, r2, r3, r4, r5, r6, r7⟩ := QA.cells8
    clear AA QA
    generalize bestSt ss CS f BS x.id 2 = PB at t0 t1 t2 t3 t4 t5 t6 t7 r0 r1 r2 r3 r4 r5 r6 r7 ⊢
    have hq : (PB.2 == PB.2) = true := by simp
    go_wp2
    go_ret
    exact ⟨rfl, BA.out⟩

end Go.Proofs.Ytljkjbfkekihjaa

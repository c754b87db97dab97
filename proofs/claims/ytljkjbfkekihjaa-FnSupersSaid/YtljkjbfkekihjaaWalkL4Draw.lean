/-
  The walk of the specification's l4Draw: a Super that is right. Condition: at most 2097152 bytes to draw from.
-/
import Derived.Test.YtljkjbfkekihjaaWalkDrawGeo
import Derived.Test.YtljkjbfkekihjaaWalkSuperAt
import Derived.Test.YtljkjbfkekihjaaInv
namespace Go.Proofs.Ytljkjbfkekihjaa
open Go.RowKit

theorem dOnce_any {w : World} {g lb cb : Nat} {a : Option Addr} {zs : List Int} (h : Draws w g a lb cb zs) (n : Int) (hn : 0 ≤ n) (hn' : n ≤ 256) :
    Calls Try.prog 64 #[.pointer (some ⟨g, 0, none⟩), .int .i64 n] w fun e w' => ∃ b : Bool, e = .returned (.bool b) ∧ Draws w' g a lb cb zs ∧ But g (g + 1) w w' := by
  go_enter Try.func64, Try.ntmps64
  go_wp2_with fail
  refine (dBelow h n hn hn').mono ?_
  rintro e w1 ⟨x, rfl, _, _, D1, b1⟩
  go_wp2
  go_ret
  exact ⟨_, rfl, D1, b1⟩
theorem But.cell {lo hi : Nat} {w w' : World} (h : But lo hi w w') {p : Addr} (h1 : p.block < w.heap.size) (h2 : p.block < lo ∨ hi ≤ p.block) : w'.cell? p = w.cell? p := World.cell?_of_block (w := w) (h.block _ h1 h2)
theorem Reads.alloc1 {k : IntKind} {w : World} {a : Option Addr} {zs : List Int} (h : Reads k w a zs) (o : Obj) : Reads k (w.alloc o) a zs := h.below (new_below w o)
theorem Reads.but1 {k : IntKind} {w w' : World} {b lo hi : Nat} {zs : List Int} (h : Reads k w (some ⟨b, 0, none⟩) zs) (hb : But lo hi w w') (hn : b < lo ∨ hi ≤ b) : Reads k w' (some ⟨b, 0, none⟩) zs := by
  rcases h with h | ⟨b', off, ha, hlt, hc⟩
  · exact .inl h
  · simp at ha
    obtain ⟨rfl, rfl⟩ := ha
    refine .inr ⟨_, _, rfl, Nat.lt_of_lt_of_le hlt hb.size, fun i hi' => ?_⟩
    rw [World.cell?_of_block (w := w) (hb.block _ hlt hn)]
    exact hc i hi'

set_option maxRecDepth 20000 in
set_option maxHeartbeats 4000000 in
theorem l4Draw_any {w : World} {g lb cb : Nat} {a : Option Addr} {zs : List Int} (h : Draws w g a lb cb zs) :
    Calls Try.prog 39 #[.pointer (some ⟨g, 0, none⟩)] w fun e w' => ∃ x : Sup, e = .returned (.agg #[.int .i64 x.id, .int .i64 x.gen, .int .i64 x.role, .int .i64 x.n, .int .i64 x.s, .int .i64 x.tail, .int .i64 x.lost, .int .i64 x.built]) ∧ supB x = true ∧ Draws w' g a lb cb zs ∧ But g (g + 1) w w' := by
  have hA := new_below w (.cells #[.int .i64 0, .int .i64 0, .int .i64 0, .int .i64 0, .int .i64 0, .int .i64 0, .int .i64 0, .int .i64 0] 25)
  have X := Box.new w 25 #[.int .i64 0, .int .i64 0, .int .i64 0, .int .i64 0, .int .i64 0, .int .i64 0, .int .i64 0, .int .i64 0]
  have D0 := h.alloc (.cells #[.int .i64 0, .int .i64 0, .int .i64 0, .int .i64 0, .int .i64 0, .int .i64 0, .int .i64 0, .int .i64 0] 25)
  have zA := X.lt
  have hg := h.lt
  go_enter Try.func39, Try.ntmps39
  go_wp2_with fail
  refine (l3Geo_any D0).mono ?_
  rintro e w1 ⟨n, s, rfl, hgeo, D1, b1⟩
  have X1 := X.kept (b1.block _ (by omega) (by omega))
  have B1 := (But.of_below (lo := g) (hi := g + 1) hA).trans b1
  have z1 := X1.lt
  obtain ⟨g1, g2, g3, g4⟩ := geoB_iff.1 hgeo
  clear X b1 hA D0 zA
  have G2 := Gbox.new w1 72 n s
  have X2 := X1.alloc (.cells #[.int .i64 n, .int .i64 s] 72)
  have DW := D1.alloc (.cells #[.int .i64 n, .int .i64 s] 72)
  have B2 := B1.alloc (.cells #[.int .i64 n, .int .i64 s] 72)
  have zG := G2.lt
  clear X1 D1 B1
  go_wp2_with fail
  generalize hW2 : w1.alloc (.cells #[.int .i64 n, .int .i64 s] 72) = W2 at G2 X2 DW B2 zG ⊢
  clear hW2
  obtain ⟨q0, q1⟩ := G2.cells
  have nG : w1.heap.size < g ∨ g + 1 ≤ w1.heap.size := by omega
  have hgw : g < W2.heap.size := DW.lt
  obtain ⟨I, hI⟩ : ∃ I : Array Bool → Act → World → Prop, I = (fun l A V => ∃ (b0 b1 b2 b3 b4 b5 b6 b7 b8 b9 b10 b11 b12 b13 b14 b15 b16 b17 b18 b19 : Bool) (t4 t7 t8 t9 t10 t11 t12 t13 t14 t15 t16 t17 t18 t19 t20 t21 t22 t23 t24 : Value) (r1 r2 r3 r4 : Int) (k1 k2 BO : Nat), l = #[b0, b1, b2, b3, b4, b5, b6, b7, b8, b9, b10, b11, b12, b13, b14, b15, b16, b17, b18, b19] ∧ A = ({ tmps := #[Value.pointer (some ⟨g, 0, none⟩), undef, Value.pointer (some ⟨w.heap.size, 0, none⟩), Value.pointer (some ⟨w1.heap.size, 0, none⟩), t4, Value.pointer (some ⟨g, 0, none⟩), Value.agg #[Value.int IntKind.i64 n, Value.int IntKind.i64 s], t7, t8, t9, t10, t11, t12, t13, t14, t15, t16, t17, t18, t19, t20, t21, t22, t23, t24, undef, undef, undef, undef, undef, undef, undef, undef, undef, undef, undef, undef, undef, undef], defers := [] } : Act) ∧ Draws V g a lb cb zs ∧ But g (g + 1) W2 V ∧ (b0 = true → t7 = Value.pointer (some ⟨g, 0, none⟩)) ∧ (b1 = true → t8 = .int .i64 r1 ∧ (0 ≤ r1 ∧ (r1 < 3 ∨ r1 = 0))) ∧ (b2 = true → b1 = true ∧ t9 = Value.int .i64 (1 + r1)) ∧ (b3 = true → t10 = Value.pointer (some ⟨g, 0, none⟩)) ∧ (b4 = true → t11 = .slice (some ⟨k1, 0, none⟩) 5 5 ∧ W2.heap.size ≤ k1 ∧ k1 < V.heap.size ∧ (b5 = false → Reads .i64 V (some ⟨k1, 0, none⟩) [0, 1, 2, 3, 60000])) ∧ (b5 = true → t12 = .int .i64 r2 ∧ r2 ∈ ([0, 1, 2, 3, 60000] : List Int)) ∧ (b6 = true → t13 = Value.pointer (some ⟨g, 0, none⟩)) ∧ (b7 = true → t14 = Value.pointer (some ⟨w1.heap.size, 0, none⟩)) ∧ (b8 = true → t15 = Value.int .i64 n) ∧ (b9 = true → t16 = .int .i64 r3 ∧ (0 ≤ r3 ∧ (r3 < n ∨ r3 = 0))) ∧ (b10 = true → t17 = Value.pointer (some ⟨w1.heap.size, 0, none⟩)) ∧ (b11 = true → t18 = Value.int .i64 n) ∧ (b12 = true → t19 = Value.pointer (some ⟨w1.heap.size, 1, none⟩)) ∧ (b13 = true → t20 = Value.int .i64 s) ∧ (b14 = true → t21 = Value.pointer (some ⟨g, 0, none⟩)) ∧ (b15 = true → t22 = .slice (some ⟨k2, 0, none⟩) 4 4 ∧ W2.heap.size ≤ k2 ∧ k2 < V.heap.size ∧ (b16 = false → Reads .i64 V (some ⟨k2, 0, none⟩) [0, 1, 5, 60000])) ∧ (b16 = true → t23 = .int .i64 r4 ∧ r4 ∈ ([0, 1, 5, 60000] : List Int)) ∧ (b17 = true → b1 = true ∧ b5 = true ∧ b9 = true ∧ b16 = true ∧ t24 = Value.agg #[.int .i64 (1 + r1), .int .i64 r2, .int .i64 r3, .int .i64 n, .int .i64 s, .int .i64 r4, .int .i64 (-1), .int .i64 0]) ∧ (b18 = true → t4 = .pointer (some ⟨BO, 0, none⟩) ∧ W2.heap.size ≤ BO ∧ BO < V.heap.size ∧ (b19 = false → Box V BO 25 #[.int .i64 0, .int .i64 0, .int .i64 0, .int .i64 0, .int .i64 0, .int .i64 0, .int .i64 0, .int .i64 0])) ∧ (b19 = true → b1 = true ∧ b5 = true ∧ b9 = true ∧ b16 = true ∧ b18 = true ∧ Box V BO 25 #[.int .i64 (1 + r1), .int .i64 r2, .int .i64 r3, .int .i64 n, .int .i64 s, .int .i64 r4, .int .i64 (-1), .int .i64 0])) := ⟨_, rfl⟩
  refine region_inv I (by kernel_rfl) ?_ ?_ ?_
  · rw [hI]
    exact ⟨false, false, false, false, false, false, false, false, false, false, false, false, false, false, false, false, false, false, false, false, undef, undef, undef, undef, undef, undef, undef, undef, undef, undef, undef, undef, undef, undef, undef, undef, undef, undef, undef, 0, 0, 0, 0, 0, 0, 0, rfl, rfl, Draws.drew DW, ⟨rfl, rfl, rfl, Nat.le_refl _, fun _ _ _ => rfl⟩, (fun h => by cases h), (fun h => by cases h), (fun h => by cases h), (fun h => by cases h), (fun h => by cases h), (fun h => by cases h), (fun h => by cases h), (fun h => by cases h), (fun h => by cases h), (fun h => by cases h), (fun h => by cases h), (fun h => by cases h), (fun h => by cases h), (fun h => by cases h), (fun h => by cases h), (fun h => by cases h), (fun h => by cases h), (fun h => by cases h), (fun h => by cases h), (fun h => by cases h)⟩
  · intro l A V hIV j hj
    rw [hI] at hIV
    obtain ⟨b0, b1, b2, b3, b4, b5, b6, b7, b8, b9, b10, b11, b12, b13, b14, b15, b16, b17, b18, b19, t4, t7, t8, t9, t10, t11, t12, t13, t14, t15, t16, t17, t18, t19, t20, t21, t22, t23, t24, r1, r2, r3, r4, k1, k2, BO, rfl, rfl, D, B, h0, h1, h2, h3, h4, h5, h6, h7, h8, h9, h10, h11, h12, h13, h14, h15, h16, h17, h18, h19⟩ := hIV
    have hlt : j < 20 := ready_lt hj
    obtain ⟨hju, o, ho, hdp⟩ := ready_deps hj
    clear hj
    have hcs : j = 0 ∨ j = 1 ∨ j = 2 ∨ j = 3 ∨ j = 4 ∨ j = 5 ∨ j = 6 ∨ j = 7 ∨ j = 8 ∨ j = 9 ∨ j = 10 ∨ j = 11 ∨ j = 12 ∨ j = 13 ∨ j = 14 ∨ j = 15 ∨ j = 16 ∨ j = 17 ∨ j = 18 ∨ j = 19 := by omega
    rcases hcs with rfl | rfl | rfl | rfl | rfl | rfl | rfl | rfl | rfl | rfl | rfl | rfl | rfl | rfl | rfl | rfl | rfl | rfl | rfl | rfl
    · obtain rfl : _ = o := Option.some.inj (ho : some _ = some o)
      have hji : b0 = false := hju
      clear hdp ho hju hlt
      subst hji
      have KEY : Hid (I #[true, b1, b2, b3, b4, b5, b6, b7, b8, b9, b10, b11, b12, b13, b14, b15, b16, b17, b18, b19] ({ tmps := #[Value.pointer (some ⟨g, 0, none⟩), undef, Value.pointer (some ⟨w.heap.size, 0, none⟩), Value.pointer (some ⟨w1.heap.size, 0, none⟩), t4, Value.pointer (some ⟨g, 0, none⟩), Value.agg #[Value.int IntKind.i64 n, Value.int IntKind.i64 s], Value.pointer (some ⟨g, 0, none⟩), t8, t9, t10, t11, t12, t13, t14, t15, t16, t17, t18, t19, t20, t21, t22, t23, t24, undef, undef, undef, undef, undef, undef, undef, undef, undef, undef, undef, undef, undef, undef], defers := [] } : Act) (V)) := by
        unfold Hid
        rw [hI]
        exact ⟨true, b1, b2, b3, b4, b5, b6, b7, b8, b9, b10, b11, b12, b13, b14, b15, b16, b17, b18, b19, t4, Value.pointer (some ⟨g, 0, none⟩), t8, t9, t10, t11, t12, t13, t14, t15, t16, t17, t18, t19, t20, t21, t22, t23, t24, r1, r2, r3, r4, k1, k2, BO, rfl, rfl, D, B, (fun _ => rfl), (h1), (h2), (h3), (h4), (h5), (h6), (h7), (h8), (h9), (h10), (h11), (h12), (h13), (h14), (h15), (h16), (h17), (h18), (h19)⟩
      clear hI h0 h1 h2 h3 h4 h5 h6 h7 h8 h9 h10 h11 h12 h13 h14 h15 h16 h17 h18 h19
      refine wpOp_one (by rfl) (fun K hK => ?_)
      go_simp
      exact hK.out _ _ KEY.out
    · obtain rfl : _ = o := Option.some.inj (ho : some _ = some o)
      have hji : b1 = false := hju
      have d0 : b0 = true := hdp 0 (by decide)
      clear hdp ho hju hlt
      subst hji
      subst d0
      obtain rfl := h0 rfl
      have KEY : Hid (∀ (rn : Int) (v : World), Draws v g a lb cb zs → But g (g + 1) V v → (0 ≤ rn ∧ (rn < 3 ∨ rn = 0)) → I #[true, true, b2, b3, b4, b5, b6, b7, b8, b9, b10, b11, b12, b13, b14, b15, b16, b17, b18, b19] ({ tmps := #[Value.pointer (some ⟨g, 0, none⟩), undef, Value.pointer (some ⟨w.heap.size, 0, none⟩), Value.pointer (some ⟨w1.heap.size, 0, none⟩), t4, Value.pointer (some ⟨g, 0, none⟩), Value.agg #[Value.int IntKind.i64 n, Value.int IntKind.i64 s], Value.pointer (some ⟨g, 0, none⟩), Value.int .i64 rn, t9, t10, t11, t12, t13, t14, t15, t16, t17, t18, t19, t20, t21, t22, t23, t24, undef, undef, undef, undef, undef, undef, undef, undef, undef, undef, undef, undef, undef, undef], defers := [] } : Act) (v)) := by
        unfold Hid
        rw [hI]
        intro rn v dd bb pp
        exact ⟨true, true, b2, b3, b4, b5, b6, b7, b8, b9, b10, b11, b12, b13, b14, b15, b16, b17, b18, b19, t4, Value.pointer (some ⟨g, 0, none⟩), Value.int .i64 rn, t9, t10, t11, t12, t13, t14, t15, t16, t17, t18, t19, t20, t21, t22, t23, t24, rn, r2, r3, r4, k1, k2, BO, rfl, rfl, dd, (B.trans bb), (h0), (fun _ => ⟨rfl, pp⟩), (fun hb => (by cases (h2 hb).1)), (h3), (fun hb => ⟨(h4 hb).1, (h4 hb).2.1, Nat.lt_of_lt_of_le (h4 hb).2.2.1 bb.size, fun hf => Reads.but1 ((h4 hb).2.2.2 hf) bb (.inr (Nat.le_trans (Nat.succ_le_of_lt hgw) (h4 hb).2.1))⟩), (h5), (h6), (h7), (h8), (h9), (h10), (h11), (h12), (h13), (h14), (fun hb => ⟨(h15 hb).1, (h15 hb).2.1, Nat.lt_of_lt_of_le (h15 hb).2.2.1 bb.size, fun hf => Reads.but1 ((h15 hb).2.2.2 hf) bb (.inr (Nat.le_trans (Nat.succ_le_of_lt hgw) (h15 hb).2.1))⟩), (h16), (fun hb => (by cases (h17 hb).1)), (fun hb => ⟨(h18 hb).1, (h18 hb).2.1, Nat.lt_of_lt_of_le (h18 hb).2.2.1 bb.size, fun hf => ((h18 hb).2.2.2 hf).kept (bb.block _ (h18 hb).2.2.1 (.inr (Nat.le_trans (Nat.succ_le_of_lt hgw) (h18 hb).2.1)))⟩), (fun hb => (by cases (h19 hb).1))⟩
      clear hI h0 h1 h2 h3 h4 h5 h6 h7 h8 h9 h10 h11 h12 h13 h14 h15 h16 h17 h18 h19
      refine wpOp_one (by rfl) (fun K hK => ?_)
      go_simp
      refine (dBelow D (3) (by omega) (by omega)).mono ?_
      rintro e v ⟨rn, rfl, pa, pb, dd, bb⟩
      have KK := hidden (KEY.out rn v dd bb ⟨pa, pb⟩)
      clear KEY
      go_wp2_with fail
      exact hK.out _ _ KK.out
    · obtain rfl : _ = o := Option.some.inj (ho : some _ = some o)
      have hji : b2 = false := hju
      have d1 : b1 = true := hdp 1 (by decide)
      clear hdp ho hju hlt
      subst hji
      subst d1
      obtain ⟨rfl, p1⟩ := h1 rfl
      have gw : IntKind.i64.wrap (1 + r1) = 1 + r1 := IntWalk.i64_in _ (by omega)
      have KEY : Hid (I #[b0, true, true, b3, b4, b5, b6, b7, b8, b9, b10, b11, b12, b13, b14, b15, b16, b17, b18, b19] ({ tmps := #[Value.pointer (some ⟨g, 0, none⟩), undef, Value.pointer (some ⟨w.heap.size, 0, none⟩), Value.pointer (some ⟨w1.heap.size, 0, none⟩), t4, Value.pointer (some ⟨g, 0, none⟩), Value.agg #[Value.int IntKind.i64 n, Value.int IntKind.i64 s], t7, Value.int .i64 r1, Value.int .i64 (1 + r1), t10, t11, t12, t13, t14, t15, t16, t17, t18, t19, t20, t21, t22, t23, t24, undef, undef, undef, undef, undef, undef, undef, undef, undef, undef, undef, undef, undef, undef], defers := [] } : Act) (V)) := by
        unfold Hid
        rw [hI]
        exact ⟨b0, true, true, b3, b4, b5, b6, b7, b8, b9, b10, b11, b12, b13, b14, b15, b16, b17, b18, b19, t4, t7, Value.int .i64 r1, Value.int .i64 (1 + r1), t10, t11, t12, t13, t14, t15, t16, t17, t18, t19, t20, t21, t22, t23, t24, r1, r2, r3, r4, k1, k2, BO, rfl, rfl, D, B, (h0), (h1), (fun _ => ⟨rfl, rfl⟩), (h3), (h4), (h5), (h6), (h7), (h8), (h9), (h10), (h11), (h12), (h13), (h14), (h15), (h16), (h17), (h18), (h19)⟩
      clear hI h0 h1 h2 h3 h4 h5 h6 h7 h8 h9 h10 h11 h12 h13 h14 h15 h16 h17 h18 h19
      refine wpOp_one (by rfl) (fun K hK => ?_)
      go_simp
      exact hK.out _ _ KEY.out
    · obtain rfl : _ = o := Option.some.inj (ho : some _ = some o)
      have hji : b3 = false := hju
      clear hdp ho hju hlt
      subst hji
      have KEY : Hid (I #[b0, b1, b2, true, b4, b5, b6, b7, b8, b9, b10, b11, b12, b13, b14, b15, b16, b17, b18, b19] ({ tmps := #[Value.pointer (some ⟨g, 0, none⟩), undef, Value.pointer (some ⟨w.heap.size, 0, none⟩), Value.pointer (some ⟨w1.heap.size, 0, none⟩), t4, Value.pointer (some ⟨g, 0, none⟩), Value.agg #[Value.int IntKind.i64 n, Value.int IntKind.i64 s], t7, t8, t9, Value.pointer (some ⟨g, 0, none⟩), t11, t12, t13, t14, t15, t16, t17, t18, t19, t20, t21, t22, t23, t24, undef, undef, undef, undef, undef, undef, undef, undef, undef, undef, undef, undef, undef, undef], defers := [] } : Act) (V)) := by
        unfold Hid
        rw [hI]
        exact ⟨b0, b1, b2, true, b4, b5, b6, b7, b8, b9, b10, b11, b12, b13, b14, b15, b16, b17, b18, b19, t4, t7, t8, t9, Value.pointer (some ⟨g, 0, none⟩), t11, t12, t13, t14, t15, t16, t17, t18, t19, t20, t21, t22, t23, t24, r1, r2, r3, r4, k1, k2, BO, rfl, rfl, D, B, (h0), (h1), (h2), (fun _ => rfl), (h4), (h5), (h6), (h7), (h8), (h9), (h10), (h11), (h12), (h13), (h14), (h15), (h16), (h17), (h18), (h19)⟩
      clear hI h0 h1 h2 h3 h4 h5 h6 h7 h8 h9 h10 h11 h12 h13 h14 h15 h16 h17 h18 h19
      refine wpOp_one (by rfl) (fun K hK => ?_)
      go_simp
      exact hK.out _ _ KEY.out
    · obtain rfl : _ = o := Option.some.inj (ho : some _ = some o)
      have hji : b4 = false := hju
      clear hdp ho hju hlt
      subst hji
      have KEY : Hid (I #[b0, b1, b2, b3, true, b5, b6, b7, b8, b9, b10, b11, b12, b13, b14, b15, b16, b17, b18, b19] ({ tmps := #[Value.pointer (some ⟨g, 0, none⟩), undef, Value.pointer (some ⟨w.heap.size, 0, none⟩), Value.pointer (some ⟨w1.heap.size, 0, none⟩), t4, Value.pointer (some ⟨g, 0, none⟩), Value.agg #[Value.int IntKind.i64 n, Value.int IntKind.i64 s], t7, t8, t9, t10, Value.slice (some ⟨V.heap.size, 0, none⟩) 5 5, t12, t13, t14, t15, t16, t17, t18, t19, t20, t21, t22, t23, t24, undef, undef, undef, undef, undef, undef, undef, undef, undef, undef, undef, undef, undef, undef], defers := [] } : Act) (V.alloc (.cells #[.int .i64 0, .int .i64 1, .int .i64 2, .int .i64 3, .int .i64 60000] 3))) := by
        unfold Hid
        rw [hI]
        exact ⟨b0, b1, b2, b3, true, b5, b6, b7, b8, b9, b10, b11, b12, b13, b14, b15, b16, b17, b18, b19, t4, t7, t8, t9, t10, Value.slice (some ⟨V.heap.size, 0, none⟩) 5 5, t12, t13, t14, t15, t16, t17, t18, t19, t20, t21, t22, t23, t24, r1, r2, r3, r4, V.heap.size, k2, BO, rfl, rfl, (D.alloc _), (B.alloc _), (h0), (h1), (h2), (h3), (fun _ => ⟨rfl, B.size, (by simp), fun _ => Reads.new .i64 V 3 [0, 1, 2, 3, 60000] _ rfl⟩), (h5), (h6), (h7), (h8), (h9), (h10), (h11), (h12), (h13), (h14), (fun hb => ⟨(h15 hb).1, (h15 hb).2.1, Nat.lt_of_lt_of_le (h15 hb).2.2.1 (by simp), fun hf => Reads.alloc1 ((h15 hb).2.2.2 hf) _⟩), (h16), (h17), (fun hb => ⟨(h18 hb).1, (h18 hb).2.1, Nat.lt_of_lt_of_le (h18 hb).2.2.1 (by simp), fun hf => ((h18 hb).2.2.2 hf).alloc _⟩), (fun hb => ⟨(h19 hb).1, (h19 hb).2.1, (h19 hb).2.2.1, (h19 hb).2.2.2.1, (h19 hb).2.2.2.2.1, (h19 hb).2.2.2.2.2.alloc _⟩)⟩
      clear hI h0 h1 h2 h3 h4 h5 h6 h7 h8 h9 h10 h11 h12 h13 h14 h15 h16 h17 h18 h19
      refine wpOp_one (by rfl) (fun K hK => ?_)
      go_simp
      exact hK.out _ _ KEY.out
    · obtain rfl : _ = o := Option.some.inj (ho : some _ = some o)
      have hji : b5 = false := hju
      have d1 : b1 = true := hdp 1 (by decide)
      have d3 : b3 = true := hdp 3 (by decide)
      have d4 : b4 = true := hdp 4 (by decide)
      clear hdp ho hju hlt
      subst hji
      subst d1
      subst d3
      subst d4
      obtain ⟨rfl, p1⟩ := h1 rfl
      obtain rfl := h3 rfl
      obtain ⟨rfl, y4, z4, x4⟩ := h4 rfl
      have KEY : Hid (∀ (rn : Int) (v : World), Draws v g a lb cb zs → But g (g + 1) V v → rn ∈ ([0, 1, 2, 3, 60000] : List Int) → I #[b0, true, b2, true, true, true, b6, b7, b8, b9, b10, b11, b12, b13, b14, b15, b16, b17, b18, b19] ({ tmps := #[Value.pointer (some ⟨g, 0, none⟩), undef, Value.pointer (some ⟨w.heap.size, 0, none⟩), Value.pointer (some ⟨w1.heap.size, 0, none⟩), t4, Value.pointer (some ⟨g, 0, none⟩), Value.agg #[Value.int IntKind.i64 n, Value.int IntKind.i64 s], t7, Value.int .i64 r1, t9, Value.pointer (some ⟨g, 0, none⟩), Value.slice (some ⟨k1, 0, none⟩) 5 5, Value.int .i64 rn, t13, t14, t15, t16, t17, t18, t19, t20, t21, t22, t23, t24, undef, undef, undef, undef, undef, undef, undef, undef, undef, undef, undef, undef, undef, undef], defers := [] } : Act) (v)) := by
        unfold Hid
        rw [hI]
        intro rn v dd bb pp
        exact ⟨b0, true, b2, true, true, true, b6, b7, b8, b9, b10, b11, b12, b13, b14, b15, b16, b17, b18, b19, t4, t7, Value.int .i64 r1, t9, Value.pointer (some ⟨g, 0, none⟩), Value.slice (some ⟨k1, 0, none⟩) 5 5, Value.int .i64 rn, t13, t14, t15, t16, t17, t18, t19, t20, t21, t22, t23, t24, r1, rn, r3, r4, k1, k2, BO, rfl, rfl, dd, (B.trans bb), (h0), (h1), (h2), (h3), (fun hb => ⟨(h4 hb).1, (h4 hb).2.1, Nat.lt_of_lt_of_le (h4 hb).2.2.1 bb.size, fun hf => (by cases hf)⟩), (fun _ => ⟨rfl, pp⟩), (h6), (h7), (h8), (h9), (h10), (h11), (h12), (h13), (h14), (fun hb => ⟨(h15 hb).1, (h15 hb).2.1, Nat.lt_of_lt_of_le (h15 hb).2.2.1 bb.size, fun hf => Reads.but1 ((h15 hb).2.2.2 hf) bb (.inr (Nat.le_trans (Nat.succ_le_of_lt hgw) (h15 hb).2.1))⟩), (h16), (fun hb => (by cases (h17 hb).2.1)), (fun hb => ⟨(h18 hb).1, (h18 hb).2.1, Nat.lt_of_lt_of_le (h18 hb).2.2.1 bb.size, fun hf => ((h18 hb).2.2.2 hf).kept (bb.block _ (h18 hb).2.2.1 (.inr (Nat.le_trans (Nat.succ_le_of_lt hgw) (h18 hb).2.1)))⟩), (fun hb => (by cases (h19 hb).2.1))⟩
      clear hI h0 h1 h2 h3 h4 h5 h6 h7 h8 h9 h10 h11 h12 h13 h14 h15 h16 h17 h18 h19
      refine wpOp_one (by rfl) (fun K hK => ?_)
      go_simp
      refine (dInt D _ 5 _ [0, 1, 2, 3, 60000] rfl (x4 rfl) (by intro x hx; simp at hx; subst hx; simp; omega) (by omega) (by omega)).mono ?_
      rintro e v ⟨rn, rfl, pa, dd, bb⟩
      have KK := hidden (KEY.out rn v dd bb pa)
      clear KEY
      go_wp2_with fail
      exact hK.out _ _ KK.out
    · obtain rfl : _ = o := Option.some.inj (ho : some _ = some o)
      have hji : b6 = false := hju
      clear hdp ho hju hlt
      subst hji
      have KEY : Hid (I #[b0, b1, b2, b3, b4, b5, true, b7, b8, b9, b10, b11, b12, b13, b14, b15, b16, b17, b18, b19] ({ tmps := #[Value.pointer (some ⟨g, 0, none⟩), undef, Value.pointer (some ⟨w.heap.size, 0, none⟩), Value.pointer (some ⟨w1.heap.size, 0, none⟩), t4, Value.pointer (some ⟨g, 0, none⟩), Value.agg #[Value.int IntKind.i64 n, Value.int IntKind.i64 s], t7, t8, t9, t10, t11, t12, Value.pointer (some ⟨g, 0, none⟩), t14, t15, t16, t17, t18, t19, t20, t21, t22, t23, t24, undef, undef, undef, undef, undef, undef, undef, undef, undef, undef, undef, undef, undef, undef], defers := [] } : Act) (V)) := by
        unfold Hid
        rw [hI]
        exact ⟨b0, b1, b2, b3, b4, b5, true, b7, b8, b9, b10, b11, b12, b13, b14, b15, b16, b17, b18, b19, t4, t7, t8, t9, t10, t11, t12, Value.pointer (some ⟨g, 0, none⟩), t14, t15, t16, t17, t18, t19, t20, t21, t22, t23, t24, r1, r2, r3, r4, k1, k2, BO, rfl, rfl, D, B, (h0), (h1), (h2), (h3), (h4), (h5), (fun _ => rfl), (h7), (h8), (h9), (h10), (h11), (h12), (h13), (h14), (h15), (h16), (h17), (h18), (h19)⟩
      clear hI h0 h1 h2 h3 h4 h5 h6 h7 h8 h9 h10 h11 h12 h13 h14 h15 h16 h17 h18 h19
      refine wpOp_one (by rfl) (fun K hK => ?_)
      go_simp
      exact hK.out _ _ KEY.out
    · obtain rfl : _ = o := Option.some.inj (ho : some _ = some o)
      have hji : b7 = false := hju
      clear hdp ho hju hlt
      subst hji
      have KEY : Hid (I #[b0, b1, b2, b3, b4, b5, b6, true, b8, b9, b10, b11, b12, b13, b14, b15, b16, b17, b18, b19] ({ tmps := #[Value.pointer (some ⟨g, 0, none⟩), undef, Value.pointer (some ⟨w.heap.size, 0, none⟩), Value.pointer (some ⟨w1.heap.size, 0, none⟩), t4, Value.pointer (some ⟨g, 0, none⟩), Value.agg #[Value.int IntKind.i64 n, Value.int IntKind.i64 s], t7, t8, t9, t10, t11, t12, t13, Value.pointer (some ⟨w1.heap.size, 0, none⟩), t15, t16, t17, t18, t19, t20, t21, t22, t23, t24, undef, undef, undef, undef, undef, undef, undef, undef, undef, undef, undef, undef, undef, undef], defers := [] } : Act) (V)) := by
        unfold Hid
        rw [hI]
        exact ⟨b0, b1, b2, b3, b4, b5, b6, true, b8, b9, b10, b11, b12, b13, b14, b15, b16, b17, b18, b19, t4, t7, t8, t9, t10, t11, t12, t13, Value.pointer (some ⟨w1.heap.size, 0, none⟩), t15, t16, t17, t18, t19, t20, t21, t22, t23, t24, r1, r2, r3, r4, k1, k2, BO, rfl, rfl, D, B, (h0), (h1), (h2), (h3), (h4), (h5), (h6), (fun _ => rfl), (h8), (h9), (h10), (h11), (h12), (h13), (h14), (h15), (h16), (h17), (h18), (h19)⟩
      clear hI h0 h1 h2 h3 h4 h5 h6 h7 h8 h9 h10 h11 h12 h13 h14 h15 h16 h17 h18 h19
      refine wpOp_one (by rfl) (fun K hK => ?_)
      go_simp
      exact hK.out _ _ KEY.out
    · obtain rfl : _ = o := Option.some.inj (ho : some _ = some o)
      have hji : b8 = false := hju
      have d7 : b7 = true := hdp 7 (by decide)
      clear hdp ho hju hlt
      subst hji
      subst d7
      obtain rfl := h7 rfl
      have KEY : Hid (I #[b0, b1, b2, b3, b4, b5, b6, true, true, b9, b10, b11, b12, b13, b14, b15, b16, b17, b18, b19] ({ tmps := #[Value.pointer (some ⟨g, 0, none⟩), undef, Value.pointer (some ⟨w.heap.size, 0, none⟩), Value.pointer (some ⟨w1.heap.size, 0, none⟩), t4, Value.pointer (some ⟨g, 0, none⟩), Value.agg #[Value.int IntKind.i64 n, Value.int IntKind.i64 s], t7, t8, t9, t10, t11, t12, t13, Value.pointer (some ⟨w1.heap.size, 0, none⟩), Value.int .i64 n, t16, t17, t18, t19, t20, t21, t22, t23, t24, undef, undef, undef, undef, undef, undef, undef, undef, undef, undef, undef, undef, undef, undef], defers := [] } : Act) (V)) := by
        unfold Hid
        rw [hI]
        exact ⟨b0, b1, b2, b3, b4, b5, b6, true, true, b9, b10, b11, b12, b13, b14, b15, b16, b17, b18, b19, t4, t7, t8, t9, t10, t11, t12, t13, Value.pointer (some ⟨w1.heap.size, 0, none⟩), Value.int .i64 n, t16, t17, t18, t19, t20, t21, t22, t23, t24, r1, r2, r3, r4, k1, k2, BO, rfl, rfl, D, B, (h0), (h1), (h2), (h3), (h4), (h5), (h6), (h7), (fun _ => rfl), (h9), (h10), (h11), (h12), (h13), (h14), (h15), (h16), (h17), (h18), (h19)⟩
      clear hI h0 h1 h2 h3 h4 h5 h6 h7 h8 h9 h10 h11 h12 h13 h14 h15 h16 h17 h18 h19
      refine wpOp_one (by rfl) (fun K hK => ?_)
      have clq0_0 := (B.cell (p := ⟨w1.heap.size, 0, none⟩) zG nG).trans q0
      have clq1_1 := (B.cell (p := ⟨w1.heap.size, 1, none⟩) zG nG).trans q1
      go_simp
      exact hK.out _ _ KEY.out
    · obtain rfl : _ = o := Option.some.inj (ho : some _ = some o)
      have hji : b9 = false := hju
      have d5 : b5 = true := hdp 5 (by decide)
      have d6 : b6 = true := hdp 6 (by decide)
      have d8 : b8 = true := hdp 8 (by decide)
      clear hdp ho hju hlt
      subst hji
      subst d5
      subst d6
      subst d8
      obtain ⟨rfl, p5⟩ := h5 rfl
      obtain rfl := h6 rfl
      obtain rfl := h8 rfl
      have KEY : Hid (∀ (rn : Int) (v : World), Draws v g a lb cb zs → But g (g + 1) V v → (0 ≤ rn ∧ (rn < n ∨ rn = 0)) → I #[b0, b1, b2, b3, b4, true, true, b7, true, true, b10, b11, b12, b13, b14, b15, b16, b17, b18, b19] ({ tmps := #[Value.pointer (some ⟨g, 0, none⟩), undef, Value.pointer (some ⟨w.heap.size, 0, none⟩), Value.pointer (some ⟨w1.heap.size, 0, none⟩), t4, Value.pointer (some ⟨g, 0, none⟩), Value.agg #[Value.int IntKind.i64 n, Value.int IntKind.i64 s], t7, t8, t9, t10, t11, Value.int .i64 r2, Value.pointer (some ⟨g, 0, none⟩), t14, Value.int .i64 n, Value.int .i64 rn, t17, t18, t19, t20, t21, t22, t23, t24, undef, undef, undef, undef, undef, undef, undef, undef, undef, undef, undef, undef, undef, undef], defers := [] } : Act) (v)) := by
        unfold Hid
        rw [hI]
        intro rn v dd bb pp
        exact ⟨b0, b1, b2, b3, b4, true, true, b7, true, true, b10, b11, b12, b13, b14, b15, b16, b17, b18, b19, t4, t7, t8, t9, t10, t11, Value.int .i64 r2, Value.pointer (some ⟨g, 0, none⟩), t14, Value.int .i64 n, Value.int .i64 rn, t17, t18, t19, t20, t21, t22, t23, t24, r1, r2, rn, r4, k1, k2, BO, rfl, rfl, dd, (B.trans bb), (h0), (h1), (h2), (h3), (fun hb => ⟨(h4 hb).1, (h4 hb).2.1, Nat.lt_of_lt_of_le (h4 hb).2.2.1 bb.size, fun hf => Reads.but1 ((h4 hb).2.2.2 hf) bb (.inr (Nat.le_trans (Nat.succ_le_of_lt hgw) (h4 hb).2.1))⟩), (h5), (h6), (h7), (h8), (fun _ => ⟨rfl, pp⟩), (h10), (h11), (h12), (h13), (h14), (fun hb => ⟨(h15 hb).1, (h15 hb).2.1, Nat.lt_of_lt_of_le (h15 hb).2.2.1 bb.size, fun hf => Reads.but1 ((h15 hb).2.2.2 hf) bb (.inr (Nat.le_trans (Nat.succ_le_of_lt hgw) (h15 hb).2.1))⟩), (h16), (fun hb => (by cases (h17 hb).2.2.1)), (fun hb => ⟨(h18 hb).1, (h18 hb).2.1, Nat.lt_of_lt_of_le (h18 hb).2.2.1 bb.size, fun hf => ((h18 hb).2.2.2 hf).kept (bb.block _ (h18 hb).2.2.1 (.inr (Nat.le_trans (Nat.succ_le_of_lt hgw) (h18 hb).2.1)))⟩), (fun hb => (by cases (h19 hb).2.2.1))⟩
      clear hI h0 h1 h2 h3 h4 h5 h6 h7 h8 h9 h10 h11 h12 h13 h14 h15 h16 h17 h18 h19
      refine wpOp_one (by rfl) (fun K hK => ?_)
      go_simp
      refine (dBelow D (n) (by omega) (by omega)).mono ?_
      rintro e v ⟨rn, rfl, pa, pb, dd, bb⟩
      have KK := hidden (KEY.out rn v dd bb ⟨pa, pb⟩)
      clear KEY
      go_wp2_with fail
      exact hK.out _ _ KK.out
    · obtain rfl : _ = o := Option.some.inj (ho : some _ = some o)
      have hji : b10 = false := hju
      clear hdp ho hju hlt
      subst hji
      have KEY : Hid (I #[b0, b1, b2, b3, b4, b5, b6, b7, b8, b9, true, b11, b12, b13, b14, b15, b16, b17, b18, b19] ({ tmps := #[Value.pointer (some ⟨g, 0, none⟩), undef, Value.pointer (some ⟨w.heap.size, 0, none⟩), Value.pointer (some ⟨w1.heap.size, 0, none⟩), t4, Value.pointer (some ⟨g, 0, none⟩), Value.agg #[Value.int IntKind.i64 n, Value.int IntKind.i64 s], t7, t8, t9, t10, t11, t12, t13, t14, t15, t16, Value.pointer (some ⟨w1.heap.size, 0, none⟩), t18, t19, t20, t21, t22, t23, t24, undef, undef, undef, undef, undef, undef, undef, undef, undef, undef, undef, undef, undef, undef], defers := [] } : Act) (V)) := by
        unfold Hid
        rw [hI]
        exact ⟨b0, b1, b2, b3, b4, b5, b6, b7, b8, b9, true, b11, b12, b13, b14, b15, b16, b17, b18, b19, t4, t7, t8, t9, t10, t11, t12, t13, t14, t15, t16, Value.pointer (some ⟨w1.heap.size, 0, none⟩), t18, t19, t20, t21, t22, t23, t24, r1, r2, r3, r4, k1, k2, BO, rfl, rfl, D, B, (h0), (h1), (h2), (h3), (h4), (h5), (h6), (h7), (h8), (h9), (fun _ => rfl), (h11), (h12), (h13), (h14), (h15), (h16), (h17), (h18), (h19)⟩
      clear hI h0 h1 h2 h3 h4 h5 h6 h7 h8 h9 h10 h11 h12 h13 h14 h15 h16 h17 h18 h19
      refine wpOp_one (by rfl) (fun K hK => ?_)
      go_simp
      exact hK.out _ _ KEY.out
    · obtain rfl : _ = o := Option.some.inj (ho : some _ = some o)
      have hji : b11 = false := hju
      have d10 : b10 = true := hdp 10 (by decide)
      clear hdp ho hju hlt
      subst hji
      subst d10
      obtain rfl := h10 rfl
      have KEY : Hid (I #[b0, b1, b2, b3, b4, b5, b6, b7, b8, b9, true, true, b12, b13, b14, b15, b16, b17, b18, b19] ({ tmps := #[Value.pointer (some ⟨g, 0, none⟩), undef, Value.pointer (some ⟨w.heap.size, 0, none⟩), Value.pointer (some ⟨w1.heap.size, 0, none⟩), t4, Value.pointer (some ⟨g, 0, none⟩), Value.agg #[Value.int IntKind.i64 n, Value.int IntKind.i64 s], t7, t8, t9, t10, t11, t12, t13, t14, t15, t16, Value.pointer (some ⟨w1.heap.size, 0, none⟩), Value.int .i64 n, t19, t20, t21, t22, t23, t24, undef, undef, undef, undef, undef, undef, undef, undef, undef, undef, undef, undef, undef, undef], defers := [] } : Act) (V)) := by
        unfold Hid
        rw [hI]
        exact ⟨b0, b1, b2, b3, b4, b5, b6, b7, b8, b9, true, true, b12, b13, b14, b15, b16, b17, b18, b19, t4, t7, t8, t9, t10, t11, t12, t13, t14, t15, t16, Value.pointer (some ⟨w1.heap.size, 0, none⟩), Value.int .i64 n, t19, t20, t21, t22, t23, t24, r1, r2, r3, r4, k1, k2, BO, rfl, rfl, D, B, (h0), (h1), (h2), (h3), (h4), (h5), (h6), (h7), (h8), (h9), (h10), (fun _ => rfl), (h12), (h13), (h14), (h15), (h16), (h17), (h18), (h19)⟩
      clear hI h0 h1 h2 h3 h4 h5 h6 h7 h8 h9 h10 h11 h12 h13 h14 h15 h16 h17 h18 h19
      refine wpOp_one (by rfl) (fun K hK => ?_)
      have clq0_0 := (B.cell (p := ⟨w1.heap.size, 0, none⟩) zG nG).trans q0
      have clq1_1 := (B.cell (p := ⟨w1.heap.size, 1, none⟩) zG nG).trans q1
      go_simp
      exact hK.out _ _ KEY.out
    · obtain rfl : _ = o := Option.some.inj (ho : some _ = some o)
      have hji : b12 = false := hju
      clear hdp ho hju hlt
      subst hji
      have KEY : Hid (I #[b0, b1, b2, b3, b4, b5, b6, b7, b8, b9, b10, b11, true, b13, b14, b15, b16, b17, b18, b19] ({ tmps := #[Value.pointer (some ⟨g, 0, none⟩), undef, Value.pointer (some ⟨w.heap.size, 0, none⟩), Value.pointer (some ⟨w1.heap.size, 0, none⟩), t4, Value.pointer (some ⟨g, 0, none⟩), Value.agg #[Value.int IntKind.i64 n, Value.int IntKind.i64 s], t7, t8, t9, t10, t11, t12, t13, t14, t15, t16, t17, t18, Value.pointer (some ⟨w1.heap.size, 1, none⟩), t20, t21, t22, t23, t24, undef, undef, undef, undef, undef, undef, undef, undef, undef, undef, undef, undef, undef, undef], defers := [] } : Act) (V)) := by
        unfold Hid
        rw [hI]
        exact ⟨b0, b1, b2, b3, b4, b5, b6, b7, b8, b9, b10, b11, true, b13, b14, b15, b16, b17, b18, b19, t4, t7, t8, t9, t10, t11, t12, t13, t14, t15, t16, t17, t18, Value.pointer (some ⟨w1.heap.size, 1, none⟩), t20, t21, t22, t23, t24, r1, r2, r3, r4, k1, k2, BO, rfl, rfl, D, B, (h0), (h1), (h2), (h3), (h4), (h5), (h6), (h7), (h8), (h9), (h10), (h11), (fun _ => rfl), (h13), (h14), (h15), (h16), (h17), (h18), (h19)⟩
      clear hI h0 h1 h2 h3 h4 h5 h6 h7 h8 h9 h10 h11 h12 h13 h14 h15 h16 h17 h18 h19
      refine wpOp_one (by rfl) (fun K hK => ?_)
      go_simp
      exact hK.out _ _ KEY.out
    · obtain rfl : _ = o := Option.some.inj (ho : some _ = some o)
      have hji : b13 = false := hju
      have d12 : b12 = true := hdp 12 (by decide)
      clear hdp ho hju hlt
      subst hji
      subst d12
      obtain rfl := h12 rfl
      have KEY : Hid (I #[b0, b1, b2, b3, b4, b5, b6, b7, b8, b9, b10, b11, true, true, b14, b15, b16, b17, b18, b19] ({ tmps := #[Value.pointer (some ⟨g, 0, none⟩), undef, Value.pointer (some ⟨w.heap.size, 0, none⟩), Value.pointer (some ⟨w1.heap.size, 0, none⟩), t4, Value.pointer (some ⟨g, 0, none⟩), Value.agg #[Value.int IntKind.i64 n, Value.int IntKind.i64 s], t7, t8, t9, t10, t11, t12, t13, t14, t15, t16, t17, t18, Value.pointer (some ⟨w1.heap.size, 1, none⟩), Value.int .i64 s, t21, t22, t23, t24, undef, undef, undef, undef, undef, undef, undef, undef, undef, undef, undef, undef, undef, undef], defers := [] } : Act) (V)) := by
        unfold Hid
        rw [hI]
        exact ⟨b0, b1, b2, b3, b4, b5, b6, b7, b8, b9, b10, b11, true, true, b14, b15, b16, b17, b18, b19, t4, t7, t8, t9, t10, t11, t12, t13, t14, t15, t16, t17, t18, Value.pointer (some ⟨w1.heap.size, 1, none⟩), Value.int .i64 s, t21, t22, t23, t24, r1, r2, r3, r4, k1, k2, BO, rfl, rfl, D, B, (h0), (h1), (h2), (h3), (h4), (h5), (h6), (h7), (h8), (h9), (h10), (h11), (h12), (fun _ => rfl), (h14), (h15), (h16), (h17), (h18), (h19)⟩
      clear hI h0 h1 h2 h3 h4 h5 h6 h7 h8 h9 h10 h11 h12 h13 h14 h15 h16 h17 h18 h19
      refine wpOp_one (by rfl) (fun K hK => ?_)
      have clq0_0 := (B.cell (p := ⟨w1.heap.size, 0, none⟩) zG nG).trans q0
      have clq1_1 := (B.cell (p := ⟨w1.heap.size, 1, none⟩) zG nG).trans q1
      go_simp
      exact hK.out _ _ KEY.out
    · obtain rfl : _ = o := Option.some.inj (ho : some _ = some o)
      have hji : b14 = false := hju
      clear hdp ho hju hlt
      subst hji
      have KEY : Hid (I #[b0, b1, b2, b3, b4, b5, b6, b7, b8, b9, b10, b11, b12, b13, true, b15, b16, b17, b18, b19] ({ tmps := #[Value.pointer (some ⟨g, 0, none⟩), undef, Value.pointer (some ⟨w.heap.size, 0, none⟩), Value.pointer (some ⟨w1.heap.size, 0, none⟩), t4, Value.pointer (some ⟨g, 0, none⟩), Value.agg #[Value.int IntKind.i64 n, Value.int IntKind.i64 s], t7, t8, t9, t10, t11, t12, t13, t14, t15, t16, t17, t18, t19, t20, Value.pointer (some ⟨g, 0, none⟩), t22, t23, t24, undef, undef, undef, undef, undef, undef, undef, undef, undef, undef, undef, undef, undef, undef], defers := [] } : Act) (V)) := by
        unfold Hid
        rw [hI]
        exact ⟨b0, b1, b2, b3, b4, b5, b6, b7, b8, b9, b10, b11, b12, b13, true, b15, b16, b17, b18, b19, t4, t7, t8, t9, t10, t11, t12, t13, t14, t15, t16, t17, t18, t19, t20, Value.pointer (some ⟨g, 0, none⟩), t22, t23, t24, r1, r2, r3, r4, k1, k2, BO, rfl, rfl, D, B, (h0), (h1), (h2), (h3), (h4), (h5), (h6), (h7), (h8), (h9), (h10), (h11), (h12), (h13), (fun _ => rfl), (h15), (h16), (h17), (h18), (h19)⟩
      clear hI h0 h1 h2 h3 h4 h5 h6 h7 h8 h9 h10 h11 h12 h13 h14 h15 h16 h17 h18 h19
      refine wpOp_one (by rfl) (fun K hK => ?_)
      go_simp
      exact hK.out _ _ KEY.out
    · obtain rfl : _ = o := Option.some.inj (ho : some _ = some o)
      have hji : b15 = false := hju
      clear hdp ho hju hlt
      subst hji
      have KEY : Hid (I #[b0, b1, b2, b3, b4, b5, b6, b7, b8, b9, b10, b11, b12, b13, b14, true, b16, b17, b18, b19] ({ tmps := #[Value.pointer (some ⟨g, 0, none⟩), undef, Value.pointer (some ⟨w.heap.size, 0, none⟩), Value.pointer (some ⟨w1.heap.size, 0, none⟩), t4, Value.pointer (some ⟨g, 0, none⟩), Value.agg #[Value.int IntKind.i64 n, Value.int IntKind.i64 s], t7, t8, t9, t10, t11, t12, t13, t14, t15, t16, t17, t18, t19, t20, t21, Value.slice (some ⟨V.heap.size, 0, none⟩) 4 4, t23, t24, undef, undef, undef, undef, undef, undef, undef, undef, undef, undef, undef, undef, undef, undef], defers := [] } : Act) (V.alloc (.cells #[.int .i64 0, .int .i64 1, .int .i64 5, .int .i64 60000] 3))) := by
        unfold Hid
        rw [hI]
        exact ⟨b0, b1, b2, b3, b4, b5, b6, b7, b8, b9, b10, b11, b12, b13, b14, true, b16, b17, b18, b19, t4, t7, t8, t9, t10, t11, t12, t13, t14, t15, t16, t17, t18, t19, t20, t21, Value.slice (some ⟨V.heap.size, 0, none⟩) 4 4, t23, t24, r1, r2, r3, r4, k1, V.heap.size, BO, rfl, rfl, (D.alloc _), (B.alloc _), (h0), (h1), (h2), (h3), (fun hb => ⟨(h4 hb).1, (h4 hb).2.1, Nat.lt_of_lt_of_le (h4 hb).2.2.1 (by simp), fun hf => Reads.alloc1 ((h4 hb).2.2.2 hf) _⟩), (h5), (h6), (h7), (h8), (h9), (h10), (h11), (h12), (h13), (h14), (fun _ => ⟨rfl, B.size, (by simp), fun _ => Reads.new .i64 V 3 [0, 1, 5, 60000] _ rfl⟩), (h16), (h17), (fun hb => ⟨(h18 hb).1, (h18 hb).2.1, Nat.lt_of_lt_of_le (h18 hb).2.2.1 (by simp), fun hf => ((h18 hb).2.2.2 hf).alloc _⟩), (fun hb => ⟨(h19 hb).1, (h19 hb).2.1, (h19 hb).2.2.1, (h19 hb).2.2.2.1, (h19 hb).2.2.2.2.1, (h19 hb).2.2.2.2.2.alloc _⟩)⟩
      clear hI h0 h1 h2 h3 h4 h5 h6 h7 h8 h9 h10 h11 h12 h13 h14 h15 h16 h17 h18 h19
      refine wpOp_one (by rfl) (fun K hK => ?_)
      go_simp
      exact hK.out _ _ KEY.out
    · obtain rfl : _ = o := Option.some.inj (ho : some _ = some o)
      have hji : b16 = false := hju
      have d9 : b9 = true := hdp 9 (by decide)
      have d14 : b14 = true := hdp 14 (by decide)
      have d15 : b15 = true := hdp 15 (by decide)
      clear hdp ho hju hlt
      subst hji
      subst d9
      subst d14
      subst d15
      obtain ⟨rfl, p9⟩ := h9 rfl
      obtain rfl := h14 rfl
      obtain ⟨rfl, y15, z15, x15⟩ := h15 rfl
      have KEY : Hid (∀ (rn : Int) (v : World), Draws v g a lb cb zs → But g (g + 1) V v → rn ∈ ([0, 1, 5, 60000] : List Int) → I #[b0, b1, b2, b3, b4, b5, b6, b7, b8, true, b10, b11, b12, b13, true, true, true, b17, b18, b19] ({ tmps := #[Value.pointer (some ⟨g, 0, none⟩), undef, Value.pointer (some ⟨w.heap.size, 0, none⟩), Value.pointer (some ⟨w1.heap.size, 0, none⟩), t4, Value.pointer (some ⟨g, 0, none⟩), Value.agg #[Value.int IntKind.i64 n, Value.int IntKind.i64 s], t7, t8, t9, t10, t11, t12, t13, t14, t15, Value.int .i64 r3, t17, t18, t19, t20, Value.pointer (some ⟨g, 0, none⟩), Value.slice (some ⟨k2, 0, none⟩) 4 4, Value.int .i64 rn, t24, undef, undef, undef, undef, undef, undef, undef, undef, undef, undef, undef, undef, undef, undef], defers := [] } : Act) (v)) := by
        unfold Hid
        rw [hI]
        intro rn v dd bb pp
        exact ⟨b0, b1, b2, b3, b4, b5, b6, b7, b8, true, b10, b11, b12, b13, true, true, true, b17, b18, b19, t4, t7, t8, t9, t10, t11, t12, t13, t14, t15, Value.int .i64 r3, t17, t18, t19, t20, Value.pointer (some ⟨g, 0, none⟩), Value.slice (some ⟨k2, 0, none⟩) 4 4, Value.int .i64 rn, t24, r1, r2, r3, rn, k1, k2, BO, rfl, rfl, dd, (B.trans bb), (h0), (h1), (h2), (h3), (fun hb => ⟨(h4 hb).1, (h4 hb).2.1, Nat.lt_of_lt_of_le (h4 hb).2.2.1 bb.size, fun hf => Reads.but1 ((h4 hb).2.2.2 hf) bb (.inr (Nat.le_trans (Nat.succ_le_of_lt hgw) (h4 hb).2.1))⟩), (h5), (h6), (h7), (h8), (h9), (h10), (h11), (h12), (h13), (h14), (fun hb => ⟨(h15 hb).1, (h15 hb).2.1, Nat.lt_of_lt_of_le (h15 hb).2.2.1 bb.size, fun hf => (by cases hf)⟩), (fun _ => ⟨rfl, pp⟩), (fun hb => (by cases (h17 hb).2.2.2.1)), (fun hb => ⟨(h18 hb).1, (h18 hb).2.1, Nat.lt_of_lt_of_le (h18 hb).2.2.1 bb.size, fun hf => ((h18 hb).2.2.2 hf).kept (bb.block _ (h18 hb).2.2.1 (.inr (Nat.le_trans (Nat.succ_le_of_lt hgw) (h18 hb).2.1)))⟩), (fun hb => (by cases (h19 hb).2.2.2.1))⟩
      clear hI h0 h1 h2 h3 h4 h5 h6 h7 h8 h9 h10 h11 h12 h13 h14 h15 h16 h17 h18 h19
      refine wpOp_one (by rfl) (fun K hK => ?_)
      go_simp
      refine (dInt D _ 4 _ [0, 1, 5, 60000] rfl (x15 rfl) (by intro x hx; simp at hx; subst hx; simp; omega) (by omega) (by omega)).mono ?_
      rintro e v ⟨rn, rfl, pa, dd, bb⟩
      have KK := hidden (KEY.out rn v dd bb pa)
      clear KEY
      go_wp2_with fail
      exact hK.out _ _ KK.out
    · obtain rfl : _ = o := Option.some.inj (ho : some _ = some o)
      have hji : b17 = false := hju
      have d2 : b2 = true := hdp 2 (by decide)
      have d5 : b5 = true := hdp 5 (by decide)
      have d9 : b9 = true := hdp 9 (by decide)
      have d11 : b11 = true := hdp 11 (by decide)
      have d13 : b13 = true := hdp 13 (by decide)
      have d16 : b16 = true := hdp 16 (by decide)
      clear hdp ho hju hlt
      subst hji
      subst d2
      subst d5
      subst d9
      subst d11
      subst d13
      subst d16
      obtain ⟨c2_0, rfl⟩ := h2 rfl
      obtain ⟨rfl, p5⟩ := h5 rfl
      obtain ⟨rfl, p9⟩ := h9 rfl
      obtain rfl := h11 rfl
      obtain rfl := h13 rfl
      obtain ⟨rfl, p16⟩ := h16 rfl
      have KEY : Hid (I #[b0, b1, true, b3, b4, true, b6, b7, b8, true, b10, true, b12, true, b14, b15, true, true, b18, b19] ({ tmps := #[Value.pointer (some ⟨g, 0, none⟩), undef, Value.pointer (some ⟨w.heap.size, 0, none⟩), Value.pointer (some ⟨w1.heap.size, 0, none⟩), t4, Value.pointer (some ⟨g, 0, none⟩), Value.agg #[Value.int IntKind.i64 n, Value.int IntKind.i64 s], t7, t8, Value.int .i64 (1 + r1), t10, t11, Value.int .i64 r2, t13, t14, t15, Value.int .i64 r3, t17, Value.int .i64 n, t19, Value.int .i64 s, t21, t22, Value.int .i64 r4, Value.agg #[.int .i64 (1 + r1), .int .i64 r2, .int .i64 r3, .int .i64 n, .int .i64 s, .int .i64 r4, .int .i64 (-1), .int .i64 0], undef, undef, undef, undef, undef, undef, undef, undef, undef, undef, undef, undef, undef, undef], defers := [] } : Act) (V)) := by
        unfold Hid
        rw [hI]
        exact ⟨b0, b1, true, b3, b4, true, b6, b7, b8, true, b10, true, b12, true, b14, b15, true, true, b18, b19, t4, t7, t8, Value.int .i64 (1 + r1), t10, t11, Value.int .i64 r2, t13, t14, t15, Value.int .i64 r3, t17, Value.int .i64 n, t19, Value.int .i64 s, t21, t22, Value.int .i64 r4, Value.agg #[.int .i64 (1 + r1), .int .i64 r2, .int .i64 r3, .int .i64 n, .int .i64 s, .int .i64 r4, .int .i64 (-1), .int .i64 0], r1, r2, r3, r4, k1, k2, BO, rfl, rfl, D, B, (h0), (h1), (h2), (h3), (h4), (h5), (h6), (h7), (h8), (h9), (h10), (h11), (h12), (h13), (h14), (h15), (h16), (fun _ => ⟨c2_0, rfl, rfl, rfl, rfl⟩), (h18), (h19)⟩
      clear hI h0 h1 h2 h3 h4 h5 h6 h7 h8 h9 h10 h11 h12 h13 h14 h15 h16 h17 h18 h19
      refine wpOp_one (by rfl) (fun K hK => ?_)
      go_simp
      exact hK.out _ _ KEY.out
    · obtain rfl : _ = o := Option.some.inj (ho : some _ = some o)
      have hji : b18 = false := hju
      clear hdp ho hju hlt
      subst hji
      have KEY : Hid (I #[b0, b1, b2, b3, b4, b5, b6, b7, b8, b9, b10, b11, b12, b13, b14, b15, b16, b17, true, b19] ({ tmps := #[Value.pointer (some ⟨g, 0, none⟩), undef, Value.pointer (some ⟨w.heap.size, 0, none⟩), Value.pointer (some ⟨w1.heap.size, 0, none⟩), Value.pointer (some ⟨V.heap.size, 0, none⟩), Value.pointer (some ⟨g, 0, none⟩), Value.agg #[Value.int IntKind.i64 n, Value.int IntKind.i64 s], t7, t8, t9, t10, t11, t12, t13, t14, t15, t16, t17, t18, t19, t20, t21, t22, t23, t24, undef, undef, undef, undef, undef, undef, undef, undef, undef, undef, undef, undef, undef, undef], defers := [] } : Act) (V.alloc (.cells #[.int .i64 0, .int .i64 0, .int .i64 0, .int .i64 0, .int .i64 0, .int .i64 0, .int .i64 0, .int .i64 0] 25))) := by
        unfold Hid
        rw [hI]
        exact ⟨b0, b1, b2, b3, b4, b5, b6, b7, b8, b9, b10, b11, b12, b13, b14, b15, b16, b17, true, b19, Value.pointer (some ⟨V.heap.size, 0, none⟩), t7, t8, t9, t10, t11, t12, t13, t14, t15, t16, t17, t18, t19, t20, t21, t22, t23, t24, r1, r2, r3, r4, k1, k2, V.heap.size, rfl, rfl, (D.alloc _), (B.alloc _), (h0), (h1), (h2), (h3), (fun hb => ⟨(h4 hb).1, (h4 hb).2.1, Nat.lt_of_lt_of_le (h4 hb).2.2.1 (by simp), fun hf => Reads.alloc1 ((h4 hb).2.2.2 hf) _⟩), (h5), (h6), (h7), (h8), (h9), (h10), (h11), (h12), (h13), (h14), (fun hb => ⟨(h15 hb).1, (h15 hb).2.1, Nat.lt_of_lt_of_le (h15 hb).2.2.1 (by simp), fun hf => Reads.alloc1 ((h15 hb).2.2.2 hf) _⟩), (h16), (h17), (fun _ => ⟨rfl, B.size, (by simp), fun _ => Box.new V 25 #[.int .i64 0, .int .i64 0, .int .i64 0, .int .i64 0, .int .i64 0, .int .i64 0, .int .i64 0, .int .i64 0]⟩), (fun hb => (by cases (h19 hb).2.2.2.2.1))⟩
      clear hI h0 h1 h2 h3 h4 h5 h6 h7 h8 h9 h10 h11 h12 h13 h14 h15 h16 h17 h18 h19
      refine wpOp_one (by rfl) (fun K hK => ?_)
      go_simp
      exact hK.out _ _ KEY.out
    · obtain rfl : _ = o := Option.some.inj (ho : some _ = some o)
      have hji : b19 = false := hju
      have d0 : b0 = true := hdp 0 (by decide)
      have d1 : b1 = true := hdp 1 (by decide)
      have d2 : b2 = true := hdp 2 (by decide)
      have d3 : b3 = true := hdp 3 (by decide)
      have d4 : b4 = true := hdp 4 (by decide)
      have d5 : b5 = true := hdp 5 (by decide)
      have d6 : b6 = true := hdp 6 (by decide)
      have d7 : b7 = true := hdp 7 (by decide)
      have d8 : b8 = true := hdp 8 (by decide)
      have d9 : b9 = true := hdp 9 (by decide)
      have d10 : b10 = true := hdp 10 (by decide)
      have d11 : b11 = true := hdp 11 (by decide)
      have d12 : b12 = true := hdp 12 (by decide)
      have d13 : b13 = true := hdp 13 (by decide)
      have d14 : b14 = true := hdp 14 (by decide)
      have d15 : b15 = true := hdp 15 (by decide)
      have d16 : b16 = true := hdp 16 (by decide)
      have d17 : b17 = true := hdp 17 (by decide)
      have d18 : b18 = true := hdp 18 (by decide)
      clear hdp ho hju hlt
      subst hji
      subst d0
      subst d1
      subst d2
      subst d3
      subst d4
      subst d5
      subst d6
      subst d7
      subst d8
      subst d9
      subst d10
      subst d11
      subst d12
      subst d13
      subst d14
      subst d15
      subst d16
      subst d17
      subst d18
      obtain rfl := h0 rfl
      obtain ⟨rfl, p1⟩ := h1 rfl
      obtain ⟨c2_0, rfl⟩ := h2 rfl
      obtain rfl := h3 rfl
      obtain ⟨rfl, y4, z4, x4⟩ := h4 rfl
      obtain ⟨rfl, p5⟩ := h5 rfl
      obtain rfl := h6 rfl
      obtain rfl := h7 rfl
      obtain rfl := h8 rfl
      obtain ⟨rfl, p9⟩ := h9 rfl
      obtain rfl := h10 rfl
      obtain rfl := h11 rfl
      obtain rfl := h12 rfl
      obtain rfl := h13 rfl
      obtain rfl := h14 rfl
      obtain ⟨rfl, y15, z15, x15⟩ := h15 rfl
      obtain ⟨rfl, p16⟩ := h16 rfl
      obtain ⟨c17_0, c17_1, c17_2, c17_3, rfl⟩ := h17 rfl
      obtain ⟨rfl, y18, z18, x18⟩ := h18 rfl
      have xz := x18 rfl
      obtain ⟨s0, s1, s2, s3, s4, s5, s6, s7⟩ := xz.cells8
      have fz := xz.frozen
      have hbs := set8_but V BO (.int .i64 (1 + r1)) (.int .i64 r2) (.int .i64 r3) (.int .i64 n) (.int .i64 s) (.int .i64 r4) (.int .i64 (-1)) (.int .i64 0)
      have zs9 := hbs.size
      have zb := B.size
      have hbl : Below W2.heap.size V (set8 V BO (.int .i64 (1 + r1)) (.int .i64 r2) (.int .i64 r3) (.int .i64 n) (.int .i64 s) (.int .i64 r4) (.int .i64 (-1)) (.int .i64 0)) := hbs.below y18 zb
      have FD := D.lower hbl hgw
      have FB := B.thenBelow hbl
      have FX := set8_box xz (.int .i64 (1 + r1)) (.int .i64 r2) (.int .i64 r3) (.int .i64 n) (.int .i64 s) (.int .i64 r4) (.int .i64 (-1)) (.int .i64 0)
      have KEY : Hid (I #[true, true, true, true, true, true, true, true, true, true, true, true, true, true, true, true, true, true, true, true] ({ tmps := #[Value.pointer (some ⟨g, 0, none⟩), undef, Value.pointer (some ⟨w.heap.size, 0, none⟩), Value.pointer (some ⟨w1.heap.size, 0, none⟩), Value.pointer (some ⟨BO, 0, none⟩), Value.pointer (some ⟨g, 0, none⟩), Value.agg #[Value.int IntKind.i64 n, Value.int IntKind.i64 s], Value.pointer (some ⟨g, 0, none⟩), Value.int .i64 r1, Value.int .i64 (1 + r1), Value.pointer (some ⟨g, 0, none⟩), Value.slice (some ⟨k1, 0, none⟩) 5 5, Value.int .i64 r2, Value.pointer (some ⟨g, 0, none⟩), Value.pointer (some ⟨w1.heap.size, 0, none⟩), Value.int .i64 n, Value.int .i64 r3, Value.pointer (some ⟨w1.heap.size, 0, none⟩), Value.int .i64 n, Value.pointer (some ⟨w1.heap.size, 1, none⟩), Value.int .i64 s, Value.pointer (some ⟨g, 0, none⟩), Value.slice (some ⟨k2, 0, none⟩) 4 4, Value.int .i64 r4, Value.agg #[.int .i64 (1 + r1), .int .i64 r2, .int .i64 r3, .int .i64 n, .int .i64 s, .int .i64 r4, .int .i64 (-1), .int .i64 0], undef, undef, undef, undef, undef, undef, undef, undef, undef, undef, undef, undef, undef, undef], defers := [] } : Act) (set8 V BO (.int .i64 (1 + r1)) (.int .i64 r2) (.int .i64 r3) (.int .i64 n) (.int .i64 s) (.int .i64 r4) (.int .i64 (-1)) (.int .i64 0))) := by
        unfold Hid
        rw [hI]
        exact ⟨true, true, true, true, true, true, true, true, true, true, true, true, true, true, true, true, true, true, true, true, Value.pointer (some ⟨BO, 0, none⟩), Value.pointer (some ⟨g, 0, none⟩), Value.int .i64 r1, Value.int .i64 (1 + r1), Value.pointer (some ⟨g, 0, none⟩), Value.slice (some ⟨k1, 0, none⟩) 5 5, Value.int .i64 r2, Value.pointer (some ⟨g, 0, none⟩), Value.pointer (some ⟨w1.heap.size, 0, none⟩), Value.int .i64 n, Value.int .i64 r3, Value.pointer (some ⟨w1.heap.size, 0, none⟩), Value.int .i64 n, Value.pointer (some ⟨w1.heap.size, 1, none⟩), Value.int .i64 s, Value.pointer (some ⟨g, 0, none⟩), Value.slice (some ⟨k2, 0, none⟩) 4 4, Value.int .i64 r4, Value.agg #[.int .i64 (1 + r1), .int .i64 r2, .int .i64 r3, .int .i64 n, .int .i64 s, .int .i64 r4, .int .i64 (-1), .int .i64 0], r1, r2, r3, r4, k1, k2, BO, rfl, rfl, FD, FB, (h0), (h1), (h2), (h3), (fun hb => ⟨(h4 hb).1, (h4 hb).2.1, Nat.lt_of_lt_of_le (h4 hb).2.2.1 zs9, fun hf => (by cases hf)⟩), (h5), (h6), (h7), (h8), (h9), (h10), (h11), (h12), (h13), (h14), (fun hb => ⟨(h15 hb).1, (h15 hb).2.1, Nat.lt_of_lt_of_le (h15 hb).2.2.1 zs9, fun hf => (by cases hf)⟩), (h16), (h17), (fun hb => ⟨(h18 hb).1, (h18 hb).2.1, Nat.lt_of_lt_of_le (h18 hb).2.2.1 zs9, fun hf => (by cases hf)⟩), (fun _ => ⟨rfl, rfl, rfl, rfl, rfl, FX⟩)⟩
      clear hI h0 h1 h2 h3 h4 h5 h6 h7 h8 h9 h10 h11 h12 h13 h14 h15 h16 h17 h18 h19
      refine wpOp_one (by rfl) (fun K hK => ?_)
      unfold set8 at KEY
      clear FD FB FX hbl hbs zs9
      go_simp
      exact hK.out _ _ KEY.out
  · intro l A V hIV hr
    rw [hI] at hIV
    obtain ⟨b0, b1, b2, b3, b4, b5, b6, b7, b8, b9, b10, b11, b12, b13, b14, b15, b16, b17, b18, b19, t4, t7, t8, t9, t10, t11, t12, t13, t14, t15, t16, t17, t18, t19, t20, t21, t22, t23, t24, r1, r2, r3, r4, k1, k2, BO, rfl, rfl, D, B, h0, h1, h2, h3, h4, h5, h6, h7, h8, h9, h10, h11, h12, h13, h14, h15, h16, h17, h18, h19⟩ := hIV
    clear hI
    have e0 : b0 = true := done_of hr (j := 0) (by rfl) (by intro d hd; have hd2 : d ∈ ([] : List Nat) := hd; cases hd2)
    subst e0
    have e1 : b1 = true := done_of hr (j := 1) (by rfl) (by intro d hd; have hd2 : d ∈ [0] := hd; simp only [List.mem_cons, List.not_mem_nil, or_false] at hd2; rcases hd2 with rfl <;> rfl)
    subst e1
    have e2 : b2 = true := done_of hr (j := 2) (by rfl) (by intro d hd; have hd2 : d ∈ [1] := hd; simp only [List.mem_cons, List.not_mem_nil, or_false] at hd2; rcases hd2 with rfl <;> rfl)
    subst e2
    have e3 : b3 = true := done_of hr (j := 3) (by rfl) (by intro d hd; have hd2 : d ∈ ([] : List Nat) := hd; cases hd2)
    subst e3
    have e4 : b4 = true := done_of hr (j := 4) (by rfl) (by intro d hd; have hd2 : d ∈ ([] : List Nat) := hd; cases hd2)
    subst e4
    have e5 : b5 = true := done_of hr (j := 5) (by rfl) (by intro d hd; have hd2 : d ∈ [3, 4, 1] := hd; simp only [List.mem_cons, List.not_mem_nil, or_false] at hd2; rcases hd2 with rfl | rfl | rfl <;> rfl)
    subst e5
    have e6 : b6 = true := done_of hr (j := 6) (by rfl) (by intro d hd; have hd2 : d ∈ ([] : List Nat) := hd; cases hd2)
    subst e6
    have e7 : b7 = true := done_of hr (j := 7) (by rfl) (by intro d hd; have hd2 : d ∈ ([] : List Nat) := hd; cases hd2)
    subst e7
    have e8 : b8 = true := done_of hr (j := 8) (by rfl) (by intro d hd; have hd2 : d ∈ [7] := hd; simp only [List.mem_cons, List.not_mem_nil, or_false] at hd2; rcases hd2 with rfl <;> rfl)
    subst e8
    have e9 : b9 = true := done_of hr (j := 9) (by rfl) (by intro d hd; have hd2 : d ∈ [6, 8, 5] := hd; simp only [List.mem_cons, List.not_mem_nil, or_false] at hd2; rcases hd2 with rfl | rfl | rfl <;> rfl)
    subst e9
    have e10 : b10 = true := done_of hr (j := 10) (by rfl) (by intro d hd; have hd2 : d ∈ ([] : List Nat) := hd; cases hd2)
    subst e10
    have e11 : b11 = true := done_of hr (j := 11) (by rfl) (by intro d hd; have hd2 : d ∈ [10] := hd; simp only [List.mem_cons, List.not_mem_nil, or_false] at hd2; rcases hd2 with rfl <;> rfl)
    subst e11
    have e12 : b12 = true := done_of hr (j := 12) (by rfl) (by intro d hd; have hd2 : d ∈ ([] : List Nat) := hd; cases hd2)
    subst e12
    have e13 : b13 = true := done_of hr (j := 13) (by rfl) (by intro d hd; have hd2 : d ∈ [12] := hd; simp only [List.mem_cons, List.not_mem_nil, or_false] at hd2; rcases hd2 with rfl <;> rfl)
    subst e13
    have e14 : b14 = true := done_of hr (j := 14) (by rfl) (by intro d hd; have hd2 : d ∈ ([] : List Nat) := hd; cases hd2)
    subst e14
    have e15 : b15 = true := done_of hr (j := 15) (by rfl) (by intro d hd; have hd2 : d ∈ ([] : List Nat) := hd; cases hd2)
    subst e15
    have e16 : b16 = true := done_of hr (j := 16) (by rfl) (by intro d hd; have hd2 : d ∈ [14, 15, 9] := hd; simp only [List.mem_cons, List.not_mem_nil, or_false] at hd2; rcases hd2 with rfl | rfl | rfl <;> rfl)
    subst e16
    have e17 : b17 = true := done_of hr (j := 17) (by rfl) (by intro d hd; have hd2 : d ∈ [2, 5, 9, 11, 13, 16] := hd; simp only [List.mem_cons, List.not_mem_nil, or_false] at hd2; rcases hd2 with rfl | rfl | rfl | rfl | rfl | rfl <;> rfl)
    subst e17
    have e18 : b18 = true := done_of hr (j := 18) (by rfl) (by intro d hd; have hd2 : d ∈ ([] : List Nat) := hd; cases hd2)
    subst e18
    have e19 : b19 = true := done_of hr (j := 19) (by rfl) (by intro d hd; have hd2 : d ∈ [18, 17, 16, 0, 1, 2, 3, 4, 5, 6, 7, 8, 9, 10, 11, 12, 13, 14, 15, 16, 17, 18] := hd; simp only [List.mem_cons, List.not_mem_nil, or_false] at hd2; rcases hd2 with rfl | rfl | rfl | rfl | rfl | rfl | rfl | rfl | rfl | rfl | rfl | rfl | rfl | rfl | rfl | rfl | rfl | rfl | rfl | rfl | rfl | rfl <;> rfl)
    subst e19
    obtain rfl := h0 rfl
    obtain ⟨rfl, p1⟩ := h1 rfl
    obtain ⟨_, rfl⟩ := h2 rfl
    obtain rfl := h3 rfl
    obtain ⟨rfl, _, _, _⟩ := h4 rfl
    obtain ⟨rfl, p5⟩ := h5 rfl
    obtain rfl := h6 rfl
    obtain rfl := h7 rfl
    obtain rfl := h8 rfl
    obtain ⟨rfl, p9⟩ := h9 rfl
    obtain rfl := h10 rfl
    obtain rfl := h11 rfl
    obtain rfl := h12 rfl
    obtain rfl := h13 rfl
    obtain rfl := h14 rfl
    obtain ⟨rfl, _, _, _⟩ := h15 rfl
    obtain ⟨rfl, p16⟩ := h16 rfl
    obtain ⟨_, _, _, _, rfl⟩ := h17 rfl
    obtain ⟨rfl, hb0, hb1, _⟩ := h18 rfl
    obtain ⟨_, _, _, _, _, XF⟩ := h19 rfl
    clear hr h0 h1 h2 h3 h4 h5 h6 h7 h8 h9 h10 h11 h12 h13 h14 h15 h16 h17 h18 h19
    have GV := G2.but B nG
    have XV := X2.kept (B.block _ (Nat.lt_trans z1 zG) (by omega))
    have BV := B2.trans B
    have zV := B.size
    simp only [List.mem_cons, List.not_mem_nil, or_false] at p5 p16
    clear G2 X2 B2 DW q0 q1 B
    dsimp only
    go_wp2_with fail
    refine (dOnce_any D 2 (by omega) (by omega)).mono ?_
    rintro e w3 ⟨b, rfl, D3, b3⟩
    have G3 := GV.but b3 nG
    have X3 := XV.kept (b3.block _ XV.lt (by omega))
    have Y3 := XF.kept (b3.block _ hb1 (by omega))
    have B3 := BV.trans b3
    have z3 := b3.size
    clear GV XV XF BV b3 D
    by_cases hb : b = true
    · subst hb
      obtain ⟨k0, k1'⟩ := G3.cells
      go_wp2_with fail
      refine (dBelow D3 n (by omega) (by omega)).mono ?_
      rintro e w4 ⟨x, rfl, hx0, hx1, D4, b4⟩
      have G4 := G3.but b4 nG
      have X4 := X3.kept (b4.block _ X3.lt (by omega))
      have Y4 := Y3.kept (b4.block _ Y3.lt (by omega))
      have B4 := B3.trans b4
      have z4 := b4.size
      clear G3 X3 Y3 B3 b4 k0 k1' D3
      have Y5 : Box (w4.setCell ⟨BO, 6, none⟩ (.int .i64 x)) BO 25 #[.int .i64 (1 + r1), .int .i64 r2, .int .i64 r3, .int .i64 n, .int .i64 s, .int .i64 r4, .int .i64 x, .int .i64 0] := by
        have := Y4.set 6 (.int .i64 x)
        simpa using this
      have hbt : But BO (BO + 1) w4 (w4.setCell ⟨BO, 6, none⟩ (.int .i64 x)) := But.setCell (by omega) (by omega) _
      have G5 : Gbox (w4.setCell ⟨BO, 6, none⟩ (.int .i64 x)) w1.heap.size 72 n s := G4.but hbt (by omega)
      have X5 := X4.kept (hbt.block _ X4.lt (by omega))
      have hbl : Below w.heap.size w4 (w4.setCell ⟨BO, 6, none⟩ (.int .i64 x)) := hbt.below (by omega) (by omega)
      have D5 := D4.lower hbl hg
      have B5 := B4.thenBelow hbl
      have z5 := hbl.size
      obtain ⟨y0, y1, y2, y3, y4, y5, y6, y7⟩ := Y4.cells8
      have fy := Y4.frozen
      obtain ⟨k0, k1'⟩ := G5.cells
      have gw : IntKind.i64.wrap (s + 1) = s + 1 := IntWalk.i64_in _ (by omega)
      clear G4 X4 D4 B4 hbl hbt
      go_wp2_with fail
      generalize w4.setCell ⟨BO, 6, none⟩ (.int .i64 x) = w5 at Y5 G5 X5 D5 B5 z5 k0 k1' ⊢
      clear Y4 y0 y1 y2 y3 y4 y5 y6 y7 fy
      refine (dBelow D5 (s + 1) (by omega) (by omega)).mono ?_
      rintro e w6 ⟨y, rfl, hy0, hy1, D6, b6⟩
      have X6 := X5.kept (b6.block _ X5.lt (by omega))
      have Y6 := Y5.kept (b6.block _ Y5.lt (by omega))
      have B6 := B5.trans b6
      have z6 := b6.size
      clear X5 Y5 B5 b6 k0 k1' D5 G5
      have Y7 : Box (w6.setCell ⟨BO, 7, none⟩ (.int .i64 y)) BO 25 #[.int .i64 (1 + r1), .int .i64 r2, .int .i64 r3, .int .i64 n, .int .i64 s, .int .i64 r4, .int .i64 x, .int .i64 y] := by
        have := Y6.set 7 (.int .i64 y)
        simpa using this
      have hbt : But BO (BO + 1) w6 (w6.setCell ⟨BO, 7, none⟩ (.int .i64 y)) := But.setCell (by omega) (by omega) _
      have X7 := X6.kept (hbt.block _ X6.lt (by omega))
      have hbl : Below w.heap.size w6 (w6.setCell ⟨BO, 7, none⟩ (.int .i64 y)) := hbt.below (by omega) (by omega)
      have D7 := D6.lower hbl hg
      have B7 := B6.thenBelow hbl
      have z7 := hbl.size
      obtain ⟨y0, y1, y2, y3, y4, y5, y6, y7⟩ := Y6.cells8
      have fy := Y6.frozen
      have HS : Hid (supB ⟨1 + r1, r2, r3, n, s, r4, x, y⟩ = true) := by
        unfold Hid
        rw [supB_iff]
        dsimp only
        omega
      have YY := hidden Y7
      have XX := hidden X7
      have DD := hidden D7
      have BB := hidden B7
      have zw : w.heap.size ≤ (w6.setCell ⟨BO, 7, none⟩ (.int .i64 y)).heap.size := by omega
      clear Y7 X7 D7 B7 X6 D6 B6 hbl hbt
      obtain ⟨y0, y1, y2, y3, y4, y5, y6, y7⟩ := Box.cells8 YY.out
      obtain ⟨x0, x1, x2, x3, x4, x5, x6, x7⟩ := XX.out.cells8
      have fz := XX.out.frozen
      have hbt := set8_but (w6.setCell ⟨BO, 7, none⟩ (.int .i64 y)) w.heap.size (.int .i64 (1 + r1)) (.int .i64 r2) (.int .i64 r3) (.int .i64 n) (.int .i64 s) (.int .i64 r4) (.int .i64 x) (.int .i64 y)
      have hbl : Below w.heap.size (w6.setCell ⟨BO, 7, none⟩ (.int .i64 y)) (set8 (w6.setCell ⟨BO, 7, none⟩ (.int .i64 y)) w.heap.size (.int .i64 (1 + r1)) (.int .i64 r2) (.int .i64 r3) (.int .i64 n) (.int .i64 s) (.int .i64 r4) (.int .i64 x) (.int .i64 y)) := hbt.below (Nat.le_refl _) zw
      have FD := hidden (DD.out.lower hbl hg)
      have FB := hidden (BB.out.thenBelow hbl)
      unfold set8 at FD FB
      clear hbt hbl XX YY DD BB
      go_wp2
      refine bodyPost_ret (v := .agg #[.int .i64 (1 + r1), .int .i64 r2, .int .i64 r3, .int .i64 n, .int .i64 s, .int .i64 r4, .int .i64 x, .int .i64 y]) (by simp [results, Try.results39, go_sem, x0, x1, x2, x3, x4, x5, x6, x7]) rfl ?_
      exact ⟨⟨1 + r1, r2, r3, n, s, r4, x, y⟩, rfl, HS.out, FD.out, FB.out⟩
    · have hb : b = false := by simpa using hb
      subst hb
      have HS : Hid (supB ⟨1 + r1, r2, r3, n, s, r4, -1, 0⟩ = true) := by
        unfold Hid
        rw [supB_iff]
        dsimp only
        omega
      have YY := hidden Y3
      have XX := hidden X3
      have DD := hidden D3
      have BB := hidden B3
      have zw : w.heap.size ≤ w3.heap.size := by omega
      clear Y3 X3 D3 B3 G3
      obtain ⟨y0, y1, y2, y3, y4, y5, y6, y7⟩ := Box.cells8 YY.out
      obtain ⟨x0, x1, x2, x3, x4, x5, x6, x7⟩ := XX.out.cells8
      have fz := XX.out.frozen
      have hbt := set8_but w3 w.heap.size (.int .i64 (1 + r1)) (.int .i64 r2) (.int .i64 r3) (.int .i64 n) (.int .i64 s) (.int .i64 r4) (.int .i64 (-1)) (.int .i64 0)
      have hbl : Below w.heap.size w3 (set8 w3 w.heap.size (.int .i64 (1 + r1)) (.int .i64 r2) (.int .i64 r3) (.int .i64 n) (.int .i64 s) (.int .i64 r4) (.int .i64 (-1)) (.int .i64 0)) := hbt.below (Nat.le_refl _) zw
      have FD := hidden (DD.out.lower hbl hg)
      have FB := hidden (BB.out.thenBelow hbl)
      unfold set8 at FD FB
      clear hbt hbl XX YY DD BB
      go_wp2
      refine bodyPost_ret (v := .agg #[.int .i64 (1 + r1), .int .i64 r2, .int .i64 r3, .int .i64 n, .int .i64 s, .int .i64 r4, .int .i64 (-1), .int .i64 0]) (by simp [results, Try.results39, go_sem, x0, x1, x2, x3, x4, x5, x6, x7]) rfl ?_
      exact ⟨⟨1 + r1, r2, r3, n, s, r4, (-1), 0⟩, rfl, HS.out, FD.out, FB.out⟩

end Go.Proofs.Ytljkjbfkekihjaa

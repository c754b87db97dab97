/-
  The walks of the specification's Draw functions of where blocks are. Condition: at most 2097152 bytes to draw from.
-/
import Derived.Test.YtmkiljflkndmoabWalkDrawGeo
namespace Go.Proofs.Ytmkiljflkndmoab
open Go.RowKit

set_option maxHeartbeats 3200000 in
theorem dDrawGeoOk_any (w : World) (a : Option Addr) (lb cb : Nat) (zs : List Int) (hz : zs.length = lb) (hr : Reads .u8 w a zs) (hby : ∀ n ∈ zs, 0 ≤ n ∧ n ≤ 255) (hlb : lb ≤ 2097152) :
    Calls Try.prog 14 #[.slice a lb cb] w fun e w' => ∃ n s : Int, e = .returned (.agg #[.int .i64 n, .int .i64 s]) ∧ Below w.heap.size w w' := by
  have hA := new_below w (.cells #[.int .i64 0, .int .i64 0] 25)
  have X := Gbox.new w 25 0 0
  have zA := X.lt
  go_enter Try.func14, Try.ntmps14
  go_wp2_with fail
  generalize w.alloc (.cells #[.int .i64 0, .int .i64 0] 25) = W at hA X zA ⊢
  refine (l1New_any _ _ _ _ zs hz (hr.below hA) hlb).mono ?_
  rintro e w1 ⟨rfl, hc1, hb1⟩
  have D1 : Draws w1 W.heap.size a lb cb zs := ⟨hc1, hz, (hr.below hA).below hb1, hby, hlb, (hr.below hA).ahead hz⟩
  have B1 := Below.andThen hA hb1
  have X1 := X.below hb1 zA
  clear hc1 hA X hb1
  go_wp2_with fail
  refine (l3Any_any D1).mono ?_
  rintro e w2 ⟨n, s, rfl, D2, b2⟩
  have X2 := X1.but b2 (.inl (by omega))
  have B2 := Below.andBut B1 b2 (by omega)
  clear D1 X1 B1 b2
  obtain ⟨p0, p1⟩ := X2.cells
  have f0 := X2.frozen 0
  have f1 := X2.frozen 1
  obtain ⟨q0, q1⟩ := (X2.set2 n s).cells
  have K := hidden (set2_below B2 (Nat.le_refl _) (.int .i64 n) (.int .i64 s))
  clear X2 B2 D2
  go_wp2
  refine bodyPost_ret (v := .agg #[.int .i64 n, .int .i64 s]) (by simp [results, Try.results14, go_sem, q0, q1]) rfl ?_
  exact ⟨n, s, rfl, K.out⟩


set_option maxHeartbeats 3200000 in
theorem dDrawParityOf_any (w : World) (a : Option Addr) (lb cb : Nat) (zs : List Int) (hz : zs.length = lb) (hr : Reads .u8 w a zs) (hby : ∀ n ∈ zs, 0 ≤ n ∧ n ≤ 255) (hlb : lb ≤ 2097152) :
    Calls Try.prog 18 #[.slice a lb cb] w fun e w' => ∃ n s x0 : Int, e = .returned (.tuple #[.agg #[.int .i64 n, .int .i64 s], .int .i64 x0]) ∧ Below w.heap.size w w' := by
  have hA := new_below w (.cells #[.int .i64 0, .int .i64 0] 25)
  have X := Gbox.new w 25 0 0
  have zA := X.lt
  go_enter Try.func18, Try.ntmps18
  go_wp2_with fail
  generalize w.alloc (.cells #[.int .i64 0, .int .i64 0] 25) = W at hA X zA ⊢
  refine (l1New_any _ _ _ _ zs hz (hr.below hA) hlb).mono ?_
  rintro e w1 ⟨rfl, hc1, hb1⟩
  have D1 : Draws w1 W.heap.size a lb cb zs := ⟨hc1, hz, (hr.below hA).below hb1, hby, hlb, (hr.below hA).ahead hz⟩
  have B1 := Below.andThen hA hb1
  have X1 := X.below hb1 zA
  clear hc1 hA X hb1
  go_wp2_with fail
  refine (l3Any_any D1).mono ?_
  rintro e w2 ⟨n, s, rfl, D2, b2⟩
  have X2 := X1.but b2 (.inl (by omega))
  have B2 := Below.andBut B1 b2 (by omega)
  clear D1 X1 B1 b2
  have HR0 := hidden (Reads.new .i64 w2 3 [0, 1, 2, 3, 5, 7, 8, -1] _ rfl)
  go_wp2_with fail
  refine (dInt (D2.alloc _) _ 8 _ [0, 1, 2, 3, 5, 7, 8, -1] rfl HR0.out ?hx0 (by omega) (by omega)).mono ?_
  case hx0 => intro x hx; simp at hx; subst hx; exact D2.lt
  rintro e w3 ⟨x0, rfl, _, D3, b3⟩
  have X3 := (X2.alloc _).but b3 (.inl (by omega))
  have B3 := Below.andBut (B2.alloc B2.size _) b3 (by omega)
  clear D2 X2 B2 b3 HR0
  obtain ⟨p0, p1⟩ := X3.cells
  have f0 := X3.frozen 0
  have f1 := X3.frozen 1
  obtain ⟨q0, q1⟩ := (X3.set2 n s).cells
  have K := hidden (set2_below B3 (Nat.le_refl _) (.int .i64 n) (.int .i64 s))
  clear X3 B3 D3
  go_wp2
  refine bodyPost_ret (v := .tuple #[.agg #[.int .i64 n, .int .i64 s], .int .i64 x0]) (by simp [results, Try.results18, go_sem, q0, q1]) rfl ?_
  exact ⟨n, s, x0, rfl, K.out⟩

set_option maxHeartbeats 3200000 in
theorem dDrawDiskOf_any (w : World) (a : Option Addr) (lb cb : Nat) (zs : List Int) (hz : zs.length = lb) (hr : Reads .u8 w a zs) (hby : ∀ n ∈ zs, 0 ≤ n ∧ n ≤ 255) (hlb : lb ≤ 2097152) :
    Calls Try.prog 15 #[.slice a lb cb] w fun e w' => ∃ n s x0 x1 : Int, e = .returned (.tuple #[.agg #[.int .i64 n, .int .i64 s], .int .i64 x0, .int .i64 x1]) ∧ Below w.heap.size w w' := by
  have hA := new_below w (.cells #[.int .i64 0, .int .i64 0] 25)
  have X := Gbox.new w 25 0 0
  have zA := X.lt
  go_enter Try.func15, Try.ntmps15
  go_wp2_with fail
  generalize w.alloc (.cells #[.int .i64 0, .int .i64 0] 25) = W at hA X zA ⊢
  refine (l1New_any _ _ _ _ zs hz (hr.below hA) hlb).mono ?_
  rintro e w1 ⟨rfl, hc1, hb1⟩
  have D1 : Draws w1 W.heap.size a lb cb zs := ⟨hc1, hz, (hr.below hA).below hb1, hby, hlb, (hr.below hA).ahead hz⟩
  have B1 := Below.andThen hA hb1
  have X1 := X.below hb1 zA
  clear hc1 hA X hb1
  go_wp2_with fail
  refine (l3Any_any D1).mono ?_
  rintro e w2 ⟨n, s, rfl, D2, b2⟩
  have X2 := X1.but b2 (.inl (by omega))
  have B2 := Below.andBut B1 b2 (by omega)
  clear D1 X1 B1 b2
  have HR0 := hidden (Reads.new .i64 w2 3 [0, 1, 2, 3, 5, 8, -1] _ rfl)
  go_wp2_with fail
  refine (dInt (D2.alloc _) _ 7 _ [0, 1, 2, 3, 5, 8, -1] rfl HR0.out ?hx0 (by omega) (by omega)).mono ?_
  case hx0 => intro x hx; simp at hx; subst hx; exact D2.lt
  rintro e w3 ⟨x0, rfl, _, D3, b3⟩
  have X3 := (X2.alloc _).but b3 (.inl (by omega))
  have B3 := Below.andBut (B2.alloc B2.size _) b3 (by omega)
  clear D2 X2 B2 b3 HR0
  have HR1 := hidden (Reads.new .i64 w3 3 [0, 1, 2, 3, 4, -1] _ rfl)
  go_wp2_with fail
  refine (dInt (D3.alloc _) _ 6 _ [0, 1, 2, 3, 4, -1] rfl HR1.out ?hx1 (by omega) (by omega)).mono ?_
  case hx1 => intro x hx; simp at hx; subst hx; exact D3.lt
  rintro e w4 ⟨x1, rfl, _, D4, b4⟩
  have X4 := (X3.alloc _).but b4 (.inl (by omega))
  have B4 := Below.andBut (B3.alloc B3.size _) b4 (by omega)
  clear D3 X3 B3 b4 HR1
  obtain ⟨p0, p1⟩ := X4.cells
  have f0 := X4.frozen 0
  have f1 := X4.frozen 1
  obtain ⟨q0, q1⟩ := (X4.set2 n s).cells
  have K := hidden (set2_below B4 (Nat.le_refl _) (.int .i64 n) (.int .i64 s))
  clear X4 B4 D4
  go_wp2
  refine bodyPost_ret (v := .tuple #[.agg #[.int .i64 n, .int .i64 s], .int .i64 x0, .int .i64 x1]) (by simp [results, Try.results15, go_sem, q0, q1]) rfl ?_
  exact ⟨n, s, x0, x1, rfl, K.out⟩

set_option maxHeartbeats 3200000 in
theorem dDrawStripeOf_any (w : World) (a : Option Addr) (lb cb : Nat) (zs : List Int) (hz : zs.length = lb) (hr : Reads .u8 w a zs) (hby : ∀ n ∈ zs, 0 ≤ n ∧ n ≤ 255) (hlb : lb ≤ 2097152) :
    Calls Try.prog 16 #[.slice a lb cb] w fun e w' => ∃ n s x0 : Int, e = .returned (.tuple #[.agg #[.int .i64 n, .int .i64 s], .int .i64 x0]) ∧ Below w.heap.size w w' := by
  have hA := new_below w (.cells #[.int .i64 0, .int .i64 0] 25)
  have X := Gbox.new w 25 0 0
  have zA := X.lt
  go_enter Try.func16, Try.ntmps16
  go_wp2_with fail
  generalize w.alloc (.cells #[.int .i64 0, .int .i64 0] 25) = W at hA X zA ⊢
  refine (l1New_any _ _ _ _ zs hz (hr.below hA) hlb).mono ?_
  rintro e w1 ⟨rfl, hc1, hb1⟩
  have D1 : Draws w1 W.heap.size a lb cb zs := ⟨hc1, hz, (hr.below hA).below hb1, hby, hlb, (hr.below hA).ahead hz⟩
  have B1 := Below.andThen hA hb1
  have X1 := X.below hb1 zA
  clear hc1 hA X hb1
  go_wp2_with fail
  refine (l3Any_any D1).mono ?_
  rintro e w2 ⟨n, s, rfl, D2, b2⟩
  have X2 := X1.but b2 (.inl (by omega))
  have B2 := Below.andBut B1 b2 (by omega)
  clear D1 X1 B1 b2
  have HR0 := hidden (Reads.new .i64 w2 3 [0, 1, 2, 3, 5, 8, 13, 31, 32, -1] _ rfl)
  go_wp2_with fail
  refine (dInt (D2.alloc _) _ 10 _ [0, 1, 2, 3, 5, 8, 13, 31, 32, -1] rfl HR0.out ?hx0 (by omega) (by omega)).mono ?_
  case hx0 => intro x hx; simp at hx; subst hx; exact D2.lt
  rintro e w3 ⟨x0, rfl, _, D3, b3⟩
  have X3 := (X2.alloc _).but b3 (.inl (by omega))
  have B3 := Below.andBut (B2.alloc B2.size _) b3 (by omega)
  clear D2 X2 B2 b3 HR0
  obtain ⟨p0, p1⟩ := X3.cells
  have f0 := X3.frozen 0
  have f1 := X3.frozen 1
  obtain ⟨q0, q1⟩ := (X3.set2 n s).cells
  have K := hidden (set2_below B3 (Nat.le_refl _) (.int .i64 n) (.int .i64 s))
  clear X3 B3 D3
  go_wp2
  refine bodyPost_ret (v := .tuple #[.agg #[.int .i64 n, .int .i64 s], .int .i64 x0]) (by simp [results, Try.results16, go_sem, q0, q1]) rfl ?_
  exact ⟨n, s, x0, rfl, K.out⟩

set_option maxHeartbeats 3200000 in
theorem dDrawMissingWord_any (w : World) (a : Option Addr) (lb cb : Nat) (zs : List Int) (hz : zs.length = lb) (hr : Reads .u8 w a zs) (hby : ∀ n ∈ zs, 0 ≤ n ∧ n ≤ 255) (hlb : lb ≤ 2097152) :
    Calls Try.prog 17 #[.slice a lb cb] w fun e w' => ∃ (v : Value) (xs : List Int) (k : Int), e = .returned (.tuple #[v, .int .i64 k]) ∧ xs.length ≤ 13 ∧ Owns .i64 3 w' w.heap.size v xs ∧ Below w.heap.size w w' := by
  go_enter Try.func17, Try.ntmps17
  go_wp2_with fail
  refine (l1New_any _ _ _ _ zs hz hr hlb).mono ?_
  rintro e w1 ⟨rfl, hc1, hb1⟩
  have D1 : Draws w1 w.heap.size a lb cb zs := ⟨hc1, hz, hr.below hb1, hby, hlb, hr.ahead hz⟩
  clear hc1
  go_wp2_with fail
  refine (l1Any_any D1).mono ?_
  rintro e w2 ⟨v, xs, rfl, hl, ho, D2, b2⟩
  have B2 := Below.andBut hb1 b2 (Nat.le_refl _)
  have s2 := D2.lt
  have s1 := D1.lt
  have HO := hidden (ho.lower (base' := w.heap.size + 1) (by omega))
  have HR := hidden (Reads.new .i64 w2 3 [0, 1, 2, 3, -1] _ rfl)
  obtain ⟨av, cv, hv, _, _⟩ := ho.shape
  clear hb1 b2 D1 ho
  subst hv
  go_wp2_with fail
  refine (dInt (D2.alloc _) _ 5 _ [0, 1, 2, 3, -1] rfl HR.out ?hx (by omega) (by omega)).mono ?_
  case hx => intro x hx; simp at hx; subst hx; exact D2.lt
  rintro e w3 ⟨k, rfl, _, D3, b3⟩
  have B3 := hidden (Below.andBut (B2.alloc B2.size _) b3 (Nat.le_refl _))
  have O3 := hidden (((HO.out.alloc (.cells #[.int .i64 0, .int .i64 1, .int .i64 2, .int .i64 3, .int .i64 (-1)] 3)).but b3 (by omega)).lower (base' := w.heap.size) (by omega))
  clear b3 D3 B2 HO HR D2
  go_wp2
  refine bodyPost_ret (v := .tuple #[.slice av xs.length cv, .int .i64 k]) (by simp [results, Try.results17, go_sem]) rfl ?_
  exact ⟨_, xs, k, rfl, hl, O3.out, B3.out⟩

end Go.Proofs.Ytmkiljflkndmoab

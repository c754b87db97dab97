/-
  The walks of the specification's draws of where blocks are: a Geo that is right with a stripe and a place, and a Geo and numbers of which no more is said than that they are numbers. Condition: at most 2097152 bytes to draw from.
-/
import Derived.Test.YtbkkjfgjlapadaaWalkDraw2
import Derived.Test.YtbkkjfgjlapadaaWalkGeo
namespace Go.Proofs.Ytbkkjfgjlapadaa
open Go.RowKit

theorem Gbox.but {w w' : World} {B l h : Nat} {T : TypeId} {n s : Int} (hx : Gbox w B T n s) (hb : But l h w w') (hB : B < l ∨ h ≤ B) : Gbox w' B T n s := (hb.block B hx.lt hB).trans hx
theorem Gbox.alloc {w : World} {B : Nat} {T : TypeId} {n s : Int} (h : Gbox w B T n s) (o : Obj) : Gbox (w.alloc o) B T n s := h.below (new_below w o) h.lt
theorem Gbox.set0 {w : World} {B : Nat} {T : TypeId} {n s : Int} (h : Gbox w B T n s) (a : Int) : Gbox (w.setCell ⟨B, 0, none⟩ (.int .i64 a)) B T a s := heap_setCell_same w B 0 _ _ _ h
theorem Gbox.set1 {w : World} {B : Nat} {T : TypeId} {n s : Int} (h : Gbox w B T n s) (a : Int) : Gbox (w.setCell ⟨B, 1, none⟩ (.int .i64 a)) B T n a := heap_setCell_same w B 1 _ _ _ h
theorem Gbox.past {w : World} {B C : Nat} {T : TypeId} {n s : Int} (h : Gbox w B T n s) (hne : B ≠ C) (u v : Value) : Gbox ((w.setCell ⟨C, 0, none⟩ u).setCell ⟨C, 1, none⟩ v) B T n s := (Below.heap_setCell _ _ _ _ hne).trans ((Below.heap_setCell _ _ _ _ hne).trans h)
theorem set2_below {N B : Nat} {w w' : World} (h : Below N w w') (hB : N ≤ B) (u v : Value) : Below N w ((w'.setCell ⟨B, 0, none⟩ u).setCell ⟨B, 1, none⟩ v) := (h.setCell (p := ⟨B, 0, none⟩) hB u).setCell (p := ⟨B, 1, none⟩) hB v

theorem Draws.drew {w : World} {g lb cb : Nat} {a : Option Addr} {zs : List Int} (h : Draws w g a lb cb zs) : Draws w.drew g a lb cb zs := ⟨h.cur, h.len, h.reads.draw, h.bytes, h.few, h.ahead⟩

set_option maxHeartbeats 1600000 in
/-- The cursor's block alone has turned, of what was there. -/
theorem l3Geo_any {w : World} {g lb cb : Nat} {a : Option Addr} {zs : List Int} (h : Draws w g a lb cb zs) :
    Calls Try.prog 40 #[.pointer (some ⟨g, 0, none⟩)] w fun e w' => ∃ n s : Int, e = .returned (.agg #[.int .i64 n, .int .i64 s]) ∧ geoB n s = true ∧ Draws w' g a lb cb zs ∧ But g (g + 1) w w' := by
  have hA := new_below w (.cells #[.int .i64 0, .int .i64 0] 25)
  have X := Gbox.new w 25 0 0
  have D0 := h.alloc (.cells #[.int .i64 0, .int .i64 0] 25)
  have zA := X.lt
  have hg := h.lt
  go_enter Try.func40, Try.ntmps40
  go_wp2_with fail
  refine (dBelow D0 3 (by omega) (by omega)).mono ?_
  rintro e w1 ⟨x, rfl, hx0, hx1, D1, b1⟩
  have X1 := X.but b1 (.inr (by omega))
  have B1 := (But.of_below (lo := g) (hi := g + 1) hA).trans b1
  clear X b1 hA D0
  go_wp2_with fail
  refine (dBelow D1 8 (by omega) (by omega)).mono ?_
  rintro e w2 ⟨y, rfl, hy0, hy1, D2, b2⟩
  have X2 := X1.but b2 (.inr (by omega))
  have B2 := B1.trans b2
  clear X1 b2 B1 D1
  obtain ⟨j0, j1⟩ := X2.cells
  have f0 := X2.frozen 0
  have f1 := X2.frozen 1
  have Z := X2.set2 (3 + x) (1 + y)
  obtain ⟨q0, q1⟩ := Z.cells
  have DD := hidden (D2.lower (set2_below (Below.refl w.heap.size w2) (Nat.le_refl _) (.int .i64 (3 + x)) (.int .i64 (1 + y))) hg)
  have BB := hidden (B2.thenBelow (set2_below (Below.refl w.heap.size w2) (Nat.le_refl _) (.int .i64 (3 + x)) (.int .i64 (1 + y))))
  go_wp2
  refine bodyPost_ret (v := .agg #[.int .i64 (3 + x), .int .i64 (1 + y)]) (by simp [results, Try.results40, go_sem, q0, q1]) rfl ?_
  exact ⟨_, _, rfl, geoB_iff.2 (by omega), DD.out, BB.out⟩

set_option maxHeartbeats 3200000 in
theorem l3Any_any {w : World} {g lb cb : Nat} {a : Option Addr} {zs : List Int} (h : Draws w g a lb cb zs) :
    Calls Try.prog 22 #[.pointer (some ⟨g, 0, none⟩)] w fun e w' => ∃ n s : Int, e = .returned (.agg #[.int .i64 n, .int .i64 s]) ∧ (-64 ≤ n ∧ n ≤ 64) ∧ Draws w' g a lb cb zs ∧ But g (g + 1) w w' := by
  have hA := new_below w (.cells #[.int .i64 0, .int .i64 0] 25)
  have X := Gbox.new w 25 0 0
  have D0 := h.alloc (.cells #[.int .i64 0, .int .i64 0] 25)
  have zA := X.lt
  have hg := h.lt
  go_enter Try.func22, Try.ntmps22
  go_wp2_with fail
  refine (l3Geo_any D0).mono ?_
  rintro e w1 ⟨n, s, rfl, hgeo, D1, b1⟩
  have HNB : Hid (-64 ≤ n ∧ n ≤ 64) := by have := geoB_iff.1 hgeo; unfold Hid; omega
  clear hgeo
  have X1 := X.but b1 (.inr (by omega))
  have B1 := (But.of_below (lo := g) (hi := g + 1) hA).trans b1
  have z1 := X1.lt
  clear X b1 hA D0 zA
  have G2 := Gbox.new w1 25 n s
  have X2 := X1.alloc (.cells #[.int .i64 n, .int .i64 s] 25)
  have D2 := D1.alloc (.cells #[.int .i64 n, .int .i64 s] 25)
  have B2 := B1.alloc (.cells #[.int .i64 n, .int .i64 s] 25)
  have z2 := G2.lt
  clear X1 D1 B1
  go_wp2_with fail
  generalize w1.alloc (.cells #[.int .i64 n, .int .i64 s] 25) = W2 at G2 X2 D2 B2 z2 ⊢
  refine (dBelow D2 8 (by omega) (by omega)).mono ?_
  rintro e w3 ⟨x, rfl, hx0, hx1, D3, b3⟩
  have G3 := G2.but b3 (.inr (by omega))
  have X3 := X2.but b3 (.inr (by omega))
  have B3 := B2.trans b3
  clear G2 X2 D2 B2 b3
  have key : ∀ (w4 : World) (n' s' : Int), Gbox w4 w1.heap.size 25 n' s' → Gbox w4 w.heap.size 25 0 0 → Draws w4 g a lb cb zs → But g (g + 1) w w4 → (-64 ≤ n' ∧ n' ≤ 64) →
      ∃ n s : Int, (Ending.returned (.agg #[.int .i64 n', .int .i64 s']) = .returned (.agg #[.int .i64 n, .int .i64 s])) ∧ (-64 ≤ n ∧ n ≤ 64) ∧ Draws ((w4.setCell ⟨w.heap.size, 0, none⟩ (.int .i64 n')).setCell ⟨w.heap.size, 1, none⟩ (.int .i64 s')) g a lb cb zs ∧ But g (g + 1) w ((w4.setCell ⟨w.heap.size, 0, none⟩ (.int .i64 n')).setCell ⟨w.heap.size, 1, none⟩ (.int .i64 s')) :=
    fun w4 n' s' _ _ D B hB => ⟨n', s', rfl, hB, D.lower (set2_below (Below.refl w.heap.size w4) (Nat.le_refl _) _ _) hg, B.thenBelow (set2_below (Below.refl w.heap.size w4) (Nat.le_refl _) _ _)⟩
  by_cases h0 : x = 0
  · subst h0
    have HR := hidden (Reads.new .i64 w3 3 [0, 2, 6, -1] _ rfl)
    go_wp2_with fail
    refine (dInt (D3.alloc _) _ 4 _ [0, 2, 6, -1] rfl HR.out ?hx0 (by omega) (by omega)).mono ?_
    case hx0 => intro x hx; simp at hx; subst hx; exact D3.lt
    rintro e w4 ⟨y, rfl, hy, D4, b4⟩
    have HY : Hid (-64 ≤ y ∧ y ≤ 64) := by simp at hy; unfold Hid; omega
    clear hy
    have G4 := (G3.alloc _).but b4 (.inr (by omega))
    have X4 := (X3.alloc _).but b4 (.inr (by omega))
    have B4 := (B3.alloc _).trans b4
    have z4 := G4.lt
    clear G3 X3 D3 B3 b4
    obtain ⟨g0, g1⟩ := G4.cells
    have fg := G4.frozen 0
    have hne : w.heap.size ≠ w1.heap.size := by omega
    have G5 := G4.set0 y
    have X5 : Gbox (w4.setCell ⟨w1.heap.size, 0, none⟩ (.int .i64 y)) w.heap.size 25 0 0 := X4.but (But.setCell (Nat.le_refl _) (Nat.lt_succ_self _) _) (.inl (by omega))
    have D5 := D4.lower ((Below.refl w1.heap.size w4).setCell (p := ⟨w1.heap.size, 0, none⟩) (Nat.le_refl _) (.int .i64 y)) (by omega)
    have B5 := B4.thenBelow (((Below.refl w1.heap.size w4).setCell (p := ⟨w1.heap.size, 0, none⟩) (Nat.le_refl _) (.int .i64 y)).mono (by omega))
    have K := hidden (key _ y s G5 X5 D5 B5 HY.out)
    obtain ⟨x0, x1⟩ := X5.cells
    obtain ⟨q0, q1⟩ := (X5.set2 y s).cells
    obtain ⟨r0, r1⟩ := G5.cells
    have f0 := X5.frozen 0
    have f1 := X5.frozen 1
    clear G4 X4 D4 B4 G5 X5 D5 B5 key
    go_wp2
    refine bodyPost_ret (v := .agg #[.int .i64 y, .int .i64 s]) (by simp [results, Try.results22, go_sem, q0, q1]) rfl ?_
    exact K.out
  · by_cases h1 : x = 1
    · subst h1
      have HR := hidden (Reads.new .i64 w3 3 [0, 9, -1] _ rfl)
      go_wp2_with fail
      refine (dInt (D3.alloc _) _ 3 _ [0, 9, -1] rfl HR.out ?hx1 (by omega) (by omega)).mono ?_
      case hx1 => intro x hx; simp at hx; subst hx; exact D3.lt
      rintro e w4 ⟨y, rfl, _, D4, b4⟩
      have G4 := (G3.alloc _).but b4 (.inr (by omega))
      have X4 := (X3.alloc _).but b4 (.inr (by omega))
      have B4 := (B3.alloc _).trans b4
      have z4 := G4.lt
      clear G3 X3 D3 B3 b4
      obtain ⟨g0, g1⟩ := G4.cells
      have fg := G4.frozen 1
      have hne : w.heap.size ≠ w1.heap.size := by omega
      have G5 := G4.set1 y
      have X5 : Gbox (w4.setCell ⟨w1.heap.size, 1, none⟩ (.int .i64 y)) w.heap.size 25 0 0 := X4.but (But.setCell (Nat.le_refl _) (Nat.lt_succ_self _) _) (.inl (by omega))
      have D5 := D4.lower ((Below.refl w1.heap.size w4).setCell (p := ⟨w1.heap.size, 1, none⟩) (Nat.le_refl _) (.int .i64 y)) (by omega)
      have B5 := B4.thenBelow (((Below.refl w1.heap.size w4).setCell (p := ⟨w1.heap.size, 1, none⟩) (Nat.le_refl _) (.int .i64 y)).mono (by omega))
      have K := hidden (key _ n y G5 X5 D5 B5 HNB.out)
      obtain ⟨x0, x1⟩ := X5.cells
      obtain ⟨q0, q1⟩ := (X5.set2 n y).cells
      obtain ⟨r0, r1⟩ := G5.cells
      have f0 := X5.frozen 0
      have f1 := X5.frozen 1
      clear G4 X4 D4 B4 G5 X5 D5 B5 key
      go_wp2
      refine bodyPost_ret (v := .agg #[.int .i64 n, .int .i64 y]) (by simp [results, Try.results22, go_sem, q0, q1]) rfl ?_
      exact K.out
    · have e0 : (x == 0) = false := by simpa using h0
      have e1 : (x == 1) = false := by simpa using h1
      obtain ⟨g0, g1⟩ := G3.cells
      obtain ⟨x0, x1⟩ := X3.cells
      have f0 := X3.frozen 0
      have f1 := X3.frozen 1
      obtain ⟨q0, q1⟩ := (X3.set2 n s).cells
      have K := hidden (key w3 n s G3 X3 D3 B3 HNB.out)
      clear G3 X3 D3 B3 key
      go_wp2
      refine bodyPost_ret (v := .agg #[.int .i64 n, .int .i64 s]) (by simp [results, Try.results22, go_sem, q0, q1]) rfl ?_
      exact K.out

end Go.Proofs.Ytbkkjfgjlapadaa

/-
  The walks of the specification's draws of where blocks are: a Geo that is right with a stripe and a place, and a Geo and numbers of which no more is said than that they are numbers. Condition: at most 2097152 bytes to draw from.
-/
import Derived.Test.YtplieehocceplaaWalkDraw2
import Derived.Test.YtplieehocceplaaWalkGeo
namespace Go.Proofs.Ytplieehocceplaa
open Go.RowKit

theorem Gbox.but {w w' : World} {B l h : Nat} {T : TypeId} {n s : Int} (hx : Gbox w B T n s) (hb : But l h w w') (hB : B < l ∨ h ≤ B) : Gbox w' B T n s := (hb.block B hx.lt hB).trans hx
theorem Gbox.alloc {w : World} {B : Nat} {T : TypeId} {n s : Int} (h : Gbox w B T n s) (o : Obj) : Gbox (w.alloc o) B T n s := h.below (new_below w o) h.lt
theorem Gbox.set0 {w : World} {B : Nat} {T : TypeId} {n s : Int} (h : Gbox w B T n s) (a : Int) : Gbox (w.setCell ⟨B, 0, none⟩ (.int .i64 a)) B T a s := heap_setCell_same w B 0 _ _ _ h
theorem Gbox.set1 {w : World} {B : Nat} {T : TypeId} {n s : Int} (h : Gbox w B T n s) (a : Int) : Gbox (w.setCell ⟨B, 1, none⟩ (.int .i64 a)) B T n a := heap_setCell_same w B 1 _ _ _ h
theorem Gbox.past {w : World} {B C : Nat} {T : TypeId} {n s : Int} (h : Gbox w B T n s) (hne : B ≠ C) (u v : Value) : Gbox ((w.setCell ⟨C, 0, none⟩ u).setCell ⟨C, 1, none⟩ v) B T n s := (Below.heap_setCell _ _ _ _ hne).trans ((Below.heap_setCell _ _ _ _ hne).trans h)
theorem set2_below {N B : Nat} {w w' : World} (h : Below N w w') (hB : N ≤ B) (u v : Value) : Below N w ((w'.setCell ⟨B, 0, none⟩ u).setCell ⟨B, 1, none⟩ v) := (h.setCell (p := ⟨B, 0, none⟩) hB u).setCell (p := ⟨B, 1, none⟩) hB v

theorem Draws.drew {w : World} {g lb cb : Nat} {a : Option Addr} {zs : List Int} (h : Draws w g a lb cb zs) : Draws w.drew g a lb cb zs := ⟨h.cur, h.len, h.reads.draw, h.bytes, h.few, h.ahead⟩

set_option maxHeartbeats 1600000 in
/-- The cursor's block alone has turned, of what was there. -/
theorem l3Geo_any {w : World} {g lb cb : Nat} {a : Option Addr} {zs : List Int} (h : Draws w g a lb cb zs) :
    Calls Try.prog 35 #[.pointer (some ⟨g, 0, none⟩)] w fun e w' => ∃ n s : Int, e = .returned (.agg #[.int .i64 n, .int .i64 s]) ∧ geoB n s = true ∧ Draws w' g a lb cb zs ∧ But g (g + 1) w w' := by
  have hA := new_below w (.cells #[.int .i64 0, .int .i64 0] 35)
  have X := Gbox.new w 35 0 0
  have D0 := h.alloc (.cells #[.int .i64 0, .int .i64 0] 35)
  have zA := X.lt
  have hg := h.lt
  go_enter Try.func35, Try.ntmps35
  go_wp2_with fail
  refine (dBelow D0 3 (by omega) (by omega)).mono ?_
  rintro e w1 ⟨x, rfl, hx0, hx1, D1, b1⟩
  have X1 := X.but b1 (.inr (by omega))
  have B1 := (But.of_below (lo := g) (hi := g + 1) hA).trans b1
  clear X b1 hA D0
  go_wp2_with fail
  refine (dBelow D1 8 (by omega) (by omega)).mono ?_
  rintro e w2 ⟨y, rfl, hy0, hy1, D2, b2⟩
  have X2 := X1.but b2 (.inr (by omega))
  have B2 := B1.trans b2
  clear X1 b2 B1 D1
  obtain ⟨j0, j1⟩ := X2.cells
  have f0 := X2.frozen 0
  have f1 := X2.frozen 1
  have Z := X2.set2 (3 + x) (1 + y)
  obtain ⟨q0, q1⟩ := Z.cells
  have DD := hidden (D2.lower (set2_below (Below.refl w.heap.size w2) (Nat.le_refl _) (.int .i64 (3 + x)) (.int .i64 (1 + y))) hg)
  have BB := hidden (B2.thenBelow (set2_below (Below.refl w.heap.size w2) (Nat.le_refl _) (.int .i64 (3 + x)) (.int .i64 (1 + y))))
  go_wp2
  refine bodyPost_ret (v := .agg #[.int .i64 (3 + x), .int .i64 (1 + y)]) (by simp [results, Try.results35, go_sem, q0, q1]) rfl ?_
  exact ⟨_, _, rfl, geoB_iff.2 (by omega), DD.out, BB.out⟩

end Go.Proofs.Ytplieehocceplaa

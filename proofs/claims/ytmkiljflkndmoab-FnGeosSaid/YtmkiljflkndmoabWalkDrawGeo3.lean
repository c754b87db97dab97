/-
  The walks of the specification's Draw functions of where blocks are. Condition: at most 2097152 bytes to draw from.
-/
import Derived.Test.YtmkiljflkndmoabWalkDrawGeo2
namespace Go.Proofs.Ytmkiljflkndmoab
open Go.RowKit

set_option maxHeartbeats 3200000 in
theorem dDrawGeo_any (w : World) (a : Option Addr) (lb cb : Nat) (zs : List Int) (hz : zs.length = lb) (hr : Reads .u8 w a zs) (hby : ∀ n ∈ zs, 0 ≤ n ∧ n ≤ 255) (hlb : lb ≤ 2097152) :
    Calls Try.prog 6 #[.slice a lb cb] w fun e w' => ∃ n s x y : Int, e = .returned (.tuple #[.agg #[.int .i64 n, .int .i64 s], .int .i64 x, .int .i64 y]) ∧ geoB n s = true ∧ 0 ≤ x ∧ x < s ∧ 0 ≤ y ∧ y < n - 1 ∧ Below w.heap.size w w' := by
  have hA := new_below w (.cells #[.int .i64 0, .int .i64 0] 25)
  have X := Gbox.new w 25 0 0
  have zA := X.lt
  go_enter Try.func6, Try.ntmps6
  go_wp2_with fail
  generalize w.alloc (.cells #[.int .i64 0, .int .i64 0] 25) = W at hA X zA ⊢
  refine (l1New_any _ _ _ _ zs hz (hr.below hA) hlb).mono ?_
  rintro e w1 ⟨rfl, hc1, hb1⟩
  have D1 : Draws w1 W.heap.size a lb cb zs := ⟨hc1, hz, (hr.below hA).below hb1, hby, hlb, (hr.below hA).ahead hz⟩
  have B1 := Below.andThen hA hb1
  have X1 := X.below hb1 zA
  clear hc1 hA X hb1
  go_wp2_with fail
  refine (l3Geo_any D1).mono ?_
  rintro e w2 ⟨n, s, rfl, hgeo, D2, b2⟩
  have X2 := X1.but b2 (.inl (by omega))
  have B2 := Below.andBut B1 b2 (by omega)
  clear D1 X1 B1 b2
  obtain ⟨g1, g2, g3, g4⟩ := geoB_iff.1 hgeo
  have G3 := Gbox.new w2 25 n s
  have X3 := X2.alloc (.cells #[.int .i64 n, .int .i64 s] 25)
  have D3 := D2.alloc (.cells #[.int .i64 n, .int .i64 s] 25)
  have B3 := B2.alloc B2.size (.cells #[.int .i64 n, .int .i64 s] 25)
  have z2 := X2.lt
  have z3 := D2.lt
  clear X2 D2 B2
  go_wp2_with fail
  generalize w2.alloc (.cells #[.int .i64 n, .int .i64 s] 25) = W3 at G3 X3 D3 B3 ⊢
  obtain ⟨k0, k1⟩ := G3.cells
  obtain ⟨y0, y1⟩ := X3.cells
  have f0 := X3.frozen 0
  have f1 := X3.frozen 1
  have zG := G3.lt
  have zX := X3.lt
  have zD := D3.lt
  have gw : IntKind.i64.wrap (n - 1) = n - 1 := IntWalk.i64_in _ (by omega)
  have hne : w2.heap.size ≠ w.heap.size := by omega
  go_region_held3 (fun w' => w'.cell? ⟨w2.heap.size, 0, none⟩ = some (.int .i64 n) ∧ w'.cell? ⟨w2.heap.size, 1, none⟩ = some (.int .i64 s))
    (first | (with_reducible exact (G5.past hne _ _).cells) | (with_reducible exact G5.cells) | (with_reducible exact G4.cells) | (with_reducible exact G3.cells) | go_keep)
    (first
      | (go_at_call 30; refine (dBelow D4 (n - 1) (by omega) (by omega)).mono ?_; rintro e w5 ⟨y, rfl, hy0, hy1, D5, b5⟩; have G5 := G4.but b5 (.inr (by omega)); have X5 := X4.but b5 (.inl (by omega)); have B5 := Below.andBut B4 b5 (by omega); obtain ⟨k0, k1⟩ := G5.cells; obtain ⟨y0, y1⟩ := X5.cells; have f0 := X5.frozen 0; have f1 := X5.frozen 1)
      | (go_at_call 30; refine (dBelow D3.drew s (by omega) (by omega)).mono ?_; rintro e w4 ⟨x, rfl, hx0, hx1, D4, b4⟩; have G4 := G3.drew.but b4 (.inr (by omega)); have X4 := X3.drew.but b4 (.inl (by omega)); have B4 := Below.andBut B3.drew b4 (by omega); obtain ⟨k0, k1⟩ := G4.cells))
  obtain ⟨q0, q1⟩ := (X5.set2 n s).cells
  have KB := hidden (set2_below B5 (Nat.le_refl _) (.int .i64 n) (.int .i64 s))
  clear X3 X4 X5 B3 B4 B5 D3 D4 D5 G3 G4 G5 k0 k1 y0 y1
  go_wp2
  refine bodyPost_ret (v := .tuple #[.agg #[.int .i64 n, .int .i64 s], .int .i64 x, .int .i64 y]) (by simp [results, Try.results6, go_sem, q0, q1]) rfl ?_
  exact ⟨n, s, x, y, rfl, hgeo, hx0, by omega, hy0, by omega, KB.out⟩

end Go.Proofs.Ytmkiljflkndmoab

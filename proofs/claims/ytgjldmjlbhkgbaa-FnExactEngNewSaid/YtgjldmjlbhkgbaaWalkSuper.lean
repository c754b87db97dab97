/-
  A Super is eight numbers; both looks whether it is right (the program's and the specification's) answer as the definition here says. No condition.
-/
import Derived.Test.YtgjldmjlbhkgbaaWalkGeo
import Derived.Test.YtgjldmjlbhkgbaaBox
namespace Go.Proofs.Ytgjldmjlbhkgbaa
open Go.RowKit

/-- What a disk knows. -/
structure Sup where
  id : Int
  gen : Int
  role : Int
  n : Int
  s : Int
  tail : Int
  lost : Int
  built : Int

def supZ : Sup := ⟨0, 0, 0, 0, 0, 0, 0, 0⟩
def lostB (n s lost built : Int) : Bool := if lost = -1 then decide (built = 0) else inB lost 0 (n - 1) && inB built 0 s
def supB (x : Sup) : Bool := geoB x.n x.s && (lostB x.n x.s x.lost x.built && (inB x.role 0 (x.n - 1) && (inB x.id 1 60000 && (inB x.gen 0 60000 && inB x.tail 0 60000))))

theorem lostB_iff {n s lost built : Int} : lostB n s lost built = true ↔ (lost = -1 ∧ built = 0) ∨ (¬ lost = -1 ∧ 0 ≤ lost ∧ lost ≤ n - 1 ∧ 0 ≤ built ∧ built ≤ s) := by
  unfold lostB
  split
  · rename_i h
    simp [h]
  · rename_i h
    rw [Bool.and_eq_true, inB_iff, inB_iff]
    simp [h, and_assoc]
theorem supB_iff {x : Sup} : supB x = true ↔ (3 ≤ x.n ∧ x.n ≤ 5 ∧ 1 ≤ x.s ∧ x.s ≤ 8) ∧ ((x.lost = -1 ∧ x.built = 0) ∨ (¬ x.lost = -1 ∧ 0 ≤ x.lost ∧ x.lost ≤ x.n - 1 ∧ 0 ≤ x.built ∧ x.built ≤ x.s)) ∧ (0 ≤ x.role ∧ x.role ≤ x.n - 1) ∧ (1 ≤ x.id ∧ x.id ≤ 60000) ∧ (0 ≤ x.gen ∧ x.gen ≤ 60000) ∧ (0 ≤ x.tail ∧ x.tail ≤ 60000) := by
  unfold supB
  simp only [Bool.and_eq_true, geoB_iff, lostB_iff, inB_iff]
theorem supB_not {x : Sup} (h : ¬ ((3 ≤ x.n ∧ x.n ≤ 5 ∧ 1 ≤ x.s ∧ x.s ≤ 8) ∧ ((x.lost = -1 ∧ x.built = 0) ∨ (¬ x.lost = -1 ∧ 0 ≤ x.lost ∧ x.lost ≤ x.n - 1 ∧ 0 ≤ x.built ∧ x.built ≤ x.s)) ∧ (0 ≤ x.role ∧ x.role ≤ x.n - 1) ∧ (1 ≤ x.id ∧ x.id ≤ 60000) ∧ (0 ≤ x.gen ∧ x.gen ≤ 60000) ∧ (0 ≤ x.tail ∧ x.tail ≤ 60000))) : supB x = false := by
  rw [← Bool.not_eq_true, supB_iff]
  exact h

theorem Box.cells8 {w : World} {B : Nat} {T : TypeId} {v0 v1 v2 v3 v4 v5 v6 v7 : Value} (h : Box w B T #[v0, v1, v2, v3, v4, v5, v6, v7]) :
    w.cell? ⟨B, 0, none⟩ = some v0 ∧ w.cell? ⟨B, 1, none⟩ = some v1 ∧ w.cell? ⟨B, 2, none⟩ = some v2 ∧ w.cell? ⟨B, 3, none⟩ = some v3 ∧ w.cell? ⟨B, 4, none⟩ = some v4 ∧ w.cell? ⟨B, 5, none⟩ = some v5 ∧ w.cell? ⟨B, 6, none⟩ = some v6 ∧ w.cell? ⟨B, 7, none⟩ = some v7 :=
  ⟨h.cell 0, h.cell 1, h.cell 2, h.cell 3, h.cell 4, h.cell 5, h.cell 6, h.cell 7⟩

theorem lostOk_any (w : World) (n s lost built : Int) (hn : 3 ≤ n ∧ n ≤ 5) : Calls Try.prog 76 #[.agg #[.int .i64 n, .int .i64 s], .int .i64 lost, .int .i64 built] w fun e w' => e = .returned (.bool (lostB n s lost built)) ∧ Below w.heap.size w w' := by
  have hA := new_below w (.cells #[.int .i64 n, .int .i64 s] 24)
  obtain ⟨k0, k1⟩ := (Gbox.new w 24 n s).cells
  have gw : IntKind.i64.wrap (n - 1) = n - 1 := IntWalk.i64_in _ (by omega)
  by_cases h : lost = -1
  · by_cases hb : built = 0
    · go_enter Try.func76, Try.ntmps76
      go_wp2
      go_ret
      exact ⟨ret_bool (by unfold lostB; rw [if_pos h]; simp [hb]), hA⟩
    · go_enter Try.func76, Try.ntmps76
      go_wp2
      go_ret
      exact ⟨ret_bool (by unfold lostB; rw [if_pos h]; simp [hb]), hA⟩
  · have HD : Hid (lostB n s lost built = (inB lost 0 (n - 1) && inB built 0 s)) := by unfold Hid lostB; rw [if_neg h]
    go_enter Try.func76, Try.ntmps76
    go_wp2_with fail
    refine (within_any _ _ _ _).mono ?_
    rintro e w1 ⟨rfl, rfl⟩
    by_cases h1 : inB lost 0 (n - 1) = true
    · go_wp2_with fail
      refine (within_any _ _ _ _).mono ?_
      rintro e w1 ⟨rfl, rfl⟩
      go_wp2
      go_ret
      exact ⟨ret_bool (by rw [HD.out, h1]; rfl), hA⟩
    · have h1' : inB lost 0 (n - 1) = false := by simpa using h1
      go_wp2
      go_ret
      exact ⟨ret_bool (by rw [HD.out, h1']; rfl), hA⟩

set_option maxHeartbeats 1600000 in
theorem specSuperOk_any (w : World) (x : Sup) : Calls Try.prog 49 #[.agg #[.int .i64 x.id, .int .i64 x.gen, .int .i64 x.role, .int .i64 x.n, .int .i64 x.s, .int .i64 x.tail, .int .i64 x.lost, .int .i64 x.built]] w fun e w' => e = .returned (.bool (supB x)) ∧ Below w.heap.size w w' := by
  have hA := new_below w (.cells #[.int .i64 x.id, .int .i64 x.gen, .int .i64 x.role, .int .i64 x.n, .int .i64 x.s, .int .i64 x.tail, .int .i64 x.lost, .int .i64 x.built] 62)
  have X := Box.new w 62 #[.int .i64 x.id, .int .i64 x.gen, .int .i64 x.role, .int .i64 x.n, .int .i64 x.s, .int .i64 x.tail, .int .i64 x.lost, .int .i64 x.built]
  obtain ⟨k0, k1, k2, k3, k4, k5, k6, k7⟩ := X.cells8
  have zA := X.lt
  go_enter Try.func49, Try.ntmps49
  go_wp2_with fail
  refine (specGeoOk_any _ _ _).mono ?_
  rintro e w1 ⟨rfl, b1⟩
  have X1 := X.below b1 zA
  have B1 := Below.andThen hA b1
  clear k0 k1 k2 k3 k4 k5 k6 k7 X b1 hA zA
  obtain ⟨k0, k1, k2, k3, k4, k5, k6, k7⟩ := X1.cells8
  by_cases hg : geoB x.n x.s = true
  · obtain ⟨g1, g2, g3, g4⟩ := geoB_iff.1 hg
    have gw : IntKind.i64.wrap (x.n - 1) = x.n - 1 := IntWalk.i64_in _ (by omega)
    go_wp2_with fail
    refine (l1In_any _ _ _ _).mono ?_
    rintro e w2 ⟨rfl, rfl⟩
    by_cases h1 : inB x.id 1 60000 = true
    · have h1i := inB_iff.1 h1
      go_wp2_with fail
      refine (l1In_any _ _ _ _).mono ?_
      rintro e w2 ⟨rfl, rfl⟩
      by_cases h2 : inB x.gen 0 60000 = true
      · have h2i := inB_iff.1 h2
        go_wp2_with fail
        refine (l1In_any _ _ _ _).mono ?_
        rintro e w2 ⟨rfl, rfl⟩
        by_cases h3 : inB x.role 0 (x.n - 1) = true
        · have h3i := inB_iff.1 h3
          go_wp2_with fail
          refine (l1In_any _ _ _ _).mono ?_
          rintro e w2 ⟨rfl, rfl⟩
          by_cases h4 : inB x.tail 0 60000 = true
          · have h4i := inB_iff.1 h4
            go_wp2_with fail
            refine (l1In_any _ _ _ _).mono ?_
            rintro e w2 ⟨rfl, rfl⟩
            by_cases h5 : inB x.lost (-1) (x.n - 1) = true
            · have h5i := inB_iff.1 h5
              go_wp2_with fail
              refine (l1In_any _ _ _ _).mono ?_
              rintro e w2 ⟨rfl, rfl⟩
              by_cases h6 : inB x.built 0 x.s = true
              · have h6i := inB_iff.1 h6
                clear h1 h2 h3 h4 h5 hg
                go_wp2
                all_goals go_ret
                all_goals exact ⟨ret_bool (by rw [Bool.eq_iff_iff, supB_iff]; simp; omega), B1⟩
              · have h6' : inB x.built 0 x.s = false := by simpa using h6
                have h6n := inB_not.1 h6'
                go_wp2
                go_ret
                exact ⟨ret_bool (by symm; refine supB_not (fun hc => ?_); omega), B1⟩
            · have h5' : inB x.lost (-1) (x.n - 1) = false := by simpa using h5
              have h5n := inB_not.1 h5'
              go_wp2
              go_ret
              exact ⟨ret_bool (by symm; refine supB_not (fun hc => ?_); omega), B1⟩
          · have h4' : inB x.tail 0 60000 = false := by simpa using h4
            have h4n := inB_not.1 h4'
            go_wp2
            go_ret
            exact ⟨ret_bool (by symm; refine supB_not (fun hc => ?_); omega), B1⟩
        · have h3' : inB x.role 0 (x.n - 1) = false := by simpa using h3
          have h3n := inB_not.1 h3'
          go_wp2
          go_ret
          exact ⟨ret_bool (by symm; refine supB_not (fun hc => ?_); omega), B1⟩
      · have h2' : inB x.gen 0 60000 = false := by simpa using h2
        have h2n := inB_not.1 h2'
        go_wp2
        go_ret
        exact ⟨ret_bool (by symm; refine supB_not (fun hc => ?_); omega), B1⟩
    · have h1' : inB x.id 1 60000 = false := by simpa using h1
      have h1n := inB_not.1 h1'
      go_wp2
      go_ret
      exact ⟨ret_bool (by symm; refine supB_not (fun hc => ?_); omega), B1⟩
  · have hg' : geoB x.n x.s = false := by simpa using hg
    go_wp2
    go_ret
    exact ⟨ret_bool (by unfold supB; rw [hg']; rfl), B1⟩

set_option maxHeartbeats 1600000 in
theorem implSuperOk_any (w : World) (x : Sup) : Calls Try.prog 63 #[.agg #[.int .i64 x.id, .int .i64 x.gen, .int .i64 x.role, .int .i64 x.n, .int .i64 x.s, .int .i64 x.tail, .int .i64 x.lost, .int .i64 x.built]] w fun e w' => e = .returned (.bool (supB x)) ∧ Below w.heap.size w w' := by
  have hA := new_below w (.cells #[.int .i64 x.id, .int .i64 x.gen, .int .i64 x.role, .int .i64 x.n, .int .i64 x.s, .int .i64 x.tail, .int .i64 x.lost, .int .i64 x.built] 62)
  have X := Box.new w 62 #[.int .i64 x.id, .int .i64 x.gen, .int .i64 x.role, .int .i64 x.n, .int .i64 x.s, .int .i64 x.tail, .int .i64 x.lost, .int .i64 x.built]
  obtain ⟨k0, k1, k2, k3, k4, k5, k6, k7⟩ := X.cells8
  have zA := X.lt
  go_enter Try.func63, Try.ntmps63
  have hA2 := Below.andThen hA (new_below (w.alloc (.cells #[.int .i64 x.id, .int .i64 x.gen, .int .i64 x.role, .int .i64 x.n, .int .i64 x.s, .int .i64 x.tail, .int .i64 x.lost, .int .i64 x.built] 62)) (.cells #[.int .i64 x.n, .int .i64 x.s] 24))
  have X2 := X.alloc (.cells #[.int .i64 x.n, .int .i64 x.s] 24)
  have G2 := Box.new (w.alloc (.cells #[.int .i64 x.id, .int .i64 x.gen, .int .i64 x.role, .int .i64 x.n, .int .i64 x.s, .int .i64 x.tail, .int .i64 x.lost, .int .i64 x.built] 62)) 24 #[.int .i64 x.n, .int .i64 x.s]
  rw [World.size_alloc] at G2
  obtain ⟨j0, j1⟩ := G2.cells2
  obtain ⟨i0, i1, i2, i3, i4, i5, i6, i7⟩ := X2.cells8
  go_wp2_with fail
  generalize (w.alloc (.cells #[.int .i64 x.id, .int .i64 x.gen, .int .i64 x.role, .int .i64 x.n, .int .i64 x.s, .int .i64 x.tail, .int .i64 x.lost, .int .i64 x.built] 62)).alloc (.cells #[.int .i64 x.n, .int .i64 x.s] 24) = W at hA2 X2 G2 i0 i1 i2 i3 i4 i5 i6 i7 j0 j1 ⊢
  have zX := X2.lt
  have zG := G2.lt
  refine (implGeoOk_any _ _ _).mono ?_
  rintro e w1 ⟨rfl, b1⟩
  have X1 := X2.below b1 zX
  have G1 := G2.below b1 zG
  have B1 := Below.andThen hA2 b1
  clear k0 k1 k2 k3 k4 k5 k6 k7 i0 i1 i2 i3 i4 i5 i6 i7 j0 j1 X hA zA b1 hA2 X2 G2 zX zG
  obtain ⟨k0, k1, k2, k3, k4, k5, k6, k7⟩ := X1.cells8
  obtain ⟨j0, j1⟩ := G1.cells2
  by_cases hg : geoB x.n x.s = true
  · obtain ⟨g1, g2, g3, g4⟩ := geoB_iff.1 hg
    have gw : IntKind.i64.wrap (x.n - 1) = x.n - 1 := IntWalk.i64_in _ (by omega)
    go_wp2_with fail
    refine (lostOk_any _ _ _ _ _ ⟨g1, g2⟩).mono ?_
    rintro e w2 ⟨rfl, b2⟩
    have X3 := X1.below b2 X1.lt
    have G3 := G1.below b2 G1.lt
    have B3 := Below.andThen B1 b2
    clear k0 k1 k2 k3 k4 k5 k6 k7 j0 j1 X1 G1 B1 b2
    obtain ⟨k0, k1, k2, k3, k4, k5, k6, k7⟩ := X3.cells8
    obtain ⟨j0, j1⟩ := G3.cells2
    by_cases hl : lostB x.n x.s x.lost x.built = true
    · have hli := lostB_iff.1 hl
      go_wp2_with fail
      refine (within_any _ _ _ _).mono ?_
      rintro e w4 ⟨rfl, rfl⟩
      by_cases h1 : inB x.role 0 (x.n - 1) = true
      · have h1i := inB_iff.1 h1
        go_wp2_with fail
        refine (within_any _ _ _ _).mono ?_
        rintro e w4 ⟨rfl, rfl⟩
        by_cases h2 : inB x.id 1 60000 = true
        · have h2i := inB_iff.1 h2
          go_wp2_with fail
          refine (within_any _ _ _ _).mono ?_
          rintro e w4 ⟨rfl, rfl⟩
          by_cases h3 : inB x.gen 0 60000 = true
          · have h3i := inB_iff.1 h3
            go_wp2_with fail
            refine (within_any _ _ _ _).mono ?_
            rintro e w4 ⟨rfl, rfl⟩
            go_wp2
            go_ret
            exact ⟨ret_bool (by unfold supB; rw [hg, hl, h1, h2, h3]; rfl), B3⟩
          · have h3' : inB x.gen 0 60000 = false := by simpa using h3
            have h3n := inB_not.1 h3'
            go_wp2
            go_ret
            exact ⟨ret_bool (by symm; refine supB_not (fun hc => ?_); omega), B3⟩
        · have h2' : inB x.id 1 60000 = false := by simpa using h2
          have h2n := inB_not.1 h2'
          go_wp2
          go_ret
          exact ⟨ret_bool (by symm; refine supB_not (fun hc => ?_); omega), B3⟩
      · have h1' : inB x.role 0 (x.n - 1) = false := by simpa using h1
        have h1n := inB_not.1 h1'
        go_wp2
        go_ret
        exact ⟨ret_bool (by symm; refine supB_not (fun hc => ?_); omega), B3⟩
    · have hl' : lostB x.n x.s x.lost x.built = false := by simpa using hl
      go_wp2
      go_ret
      exact ⟨ret_bool (by unfold supB; rw [hg, hl']; rfl), B3⟩
  · have hg' : geoB x.n x.s = false := by simpa using hg
    go_wp2
    go_ret
    exact ⟨ret_bool (by unfold supB; rw [hg']; rfl), B1⟩

end Go.Proofs.Ytgjldmjlbhkgbaa

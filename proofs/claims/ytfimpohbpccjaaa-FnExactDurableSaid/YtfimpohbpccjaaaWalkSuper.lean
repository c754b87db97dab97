/-
  A Super is eight numbers; both looks whether it is right (the program's and the specification's) answer as the definition here says. No condition.
-/
import Derived.Test.YtfimpohbpccjaaaWalkGeo
import Derived.Test.YtfimpohbpccjaaaBox
namespace Go.Proofs.Ytfimpohbpccjaaa
open Go.RowKit

/-- What a disk knows. -/
structure Sup where
  id : Int
  gen : Int
  role : Int
  n : Int
  s : Int
  tail : Int
  lost : Int
  built : Int

def supZ : Sup := ⟨0, 0, 0, 0, 0, 0, 0, 0⟩
def lostB (n s lost built : Int) : Bool := if lost = -1 then decide (built = 0) else inB lost 0 (n - 1) && inB built 0 s
def supB (x : Sup) : Bool := geoB x.n x.s && (lostB x.n x.s x.lost x.built && (inB x.role 0 (x.n - 1) && (inB x.id 1 60000 && (inB x.gen 0 60000 && inB x.tail 0 60000))))

theorem lostB_iff {n s lost built : Int} : lostB n s lost built = true ↔ (lost = -1 ∧ built = 0) ∨ (¬ lost = -1 ∧ 0 ≤ lost ∧ lost ≤ n - 1 ∧ 0 ≤ built ∧ built ≤ s) := by
  unfold lostB
  split
  · rename_i h
    simp [h]
  · rename_i h
    rw [Bool.and_eq_true, inB_iff, inB_iff]
    simp [h, and_assoc]
theorem supB_iff {x : Sup} : supB x = true ↔ (3 ≤ x.n ∧ x.n ≤ 5 ∧ 1 ≤ x.s ∧ x.s ≤ 8) ∧ ((x.lost = -1 ∧ x.built = 0) ∨ (¬ x.lost = -1 ∧ 0 ≤ x.lost ∧ x.lost ≤ x.n - 1 ∧ 0 ≤ x.built ∧ x.built ≤ x.s)) ∧ (0 ≤ x.role ∧ x.role ≤ x.n - 1) ∧ (1 ≤ x.id ∧ x.id ≤ 60000) ∧ (0 ≤ x.gen ∧ x.gen ≤ 60000) ∧ (0 ≤ x.tail ∧ x.tail ≤ 60000) := by
  unfold supB
  simp only [Bool.and_eq_true, geoB_iff, lostB_iff, inB_iff]
theorem supB_not {x : Sup} (h : ¬ ((3 ≤ x.n ∧ x.n ≤ 5 ∧ 1 ≤ x.s ∧ x.s ≤ 8) ∧ ((x.lost = -1 ∧ x.built = 0) ∨ (¬ x.lost = -1 ∧ 0 ≤ x.lost ∧ x.lost ≤ x.n - 1 ∧ 0 ≤ x.built ∧ x.built ≤ x.s)) ∧ (0 ≤ x.role ∧ x.role ≤ x.n - 1) ∧ (1 ≤ x.id ∧ x.id ≤ 60000) ∧ (0 ≤ x.gen ∧ x.gen ≤ 60000) ∧ (0 ≤ x.tail ∧ x.tail ≤ 60000))) : supB x = false := by
  rw [← Bool.not_eq_true, supB_iff]
  exact h

theorem Box.cells8 {w : World} {B : Nat} {T : TypeId} {v0 v1 v2 v3 v4 v5 v6 v7 : Value} (h : Box w B T #[v0, v1, v2, v3, v4, v5, v6, v7]) :
    w.cell? ⟨B, 0, none⟩ = some v0 ∧ w.cell? ⟨B, 1, none⟩ = some v1 ∧ w.cell? ⟨B, 2, none⟩ = some v2 ∧ w.cell? ⟨B, 3, none⟩ = some v3 ∧ w.cell? ⟨B, 4, none⟩ = some v4 ∧ w.cell? ⟨B, 5, none⟩ = some v5 ∧ w.cell? ⟨B, 6, none⟩ = some v6 ∧ w.cell? ⟨B, 7, none⟩ = some v7 :=
  ⟨h.cell 0, h.cell 1, h.cell 2, h.cell 3, h.cell 4, h.cell 5, h.cell 6, h.cell 7⟩

theorem lostOk_any (w : World) (n s lost built : Int) (hn : 3 ≤ n ∧ n ≤ 5) : Calls Try.prog 64 #[.agg #[.int .i64 n, .int .i64 s], .int .i64 lost, .int .i64 built] w fun e w' => e = .returned (.bool (lostB n s lost built)) ∧ Below w.heap.size w w' := by
  have hA := new_below w (.cells #[.int .i64 n, .int .i64 s] 30)
  obtain ⟨k0, k1⟩ := (Gbox.new w 30 n s).cells
  have gw : IntKind.i64.wrap (n - 1) = n - 1 := IntWalk.i64_in _ (by omega)
  by_cases h : lost = -1
  · by_cases hb : built = 0
    · go_enter Try.func64, Try.ntmps64
      go_wp2
      go_ret
      exact ⟨ret_bool (by unfold lostB; rw [if_pos h]; simp [hb]), hA⟩
    · go_enter Try.func64, Try.ntmps64
      go_wp2
      go_ret
      exact ⟨ret_bool (by unfold lostB; rw [if_pos h]; simp [hb]), hA⟩
  · have HD : Hid (lostB n s lost built = (inB lost 0 (n - 1) && inB built 0 s)) := by unfold Hid lostB; rw [if_neg h]
    go_enter Try.func64, Try.ntmps64
    go_wp2_with fail
    refine (within_any _ _ _ _).mono ?_
    rintro e w1 ⟨rfl, rfl⟩
    by_cases h1 : inB lost 0 (n - 1) = true
    · go_wp2_with fail
      refine (within_any _ _ _ _).mono ?_
      rintro e w1 ⟨rfl, rfl⟩
      go_wp2
      go_ret
      exact ⟨ret_bool (by rw [HD.out, h1]; rfl), hA⟩
    · have h1' : inB lost 0 (n - 1) = false := by simpa using h1
      go_wp2
      go_ret
      exact ⟨ret_bool (by rw [HD.out, h1']; rfl), hA⟩

end Go.Proofs.Ytfimpohbpccjaaa

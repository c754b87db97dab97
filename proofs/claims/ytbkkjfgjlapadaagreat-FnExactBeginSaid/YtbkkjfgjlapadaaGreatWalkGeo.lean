/-
  The walks of the functions on where blocks are (the program's and the specification's), over a Geo's two numbers: each answers as the definitions here say. No condition.
-/
import Derived.Test.YtbkkjfgjlapadaaGreatWalkIn
namespace Go.Proofs.YtbkkjfgjlapadaaGreat
open Go.RowKit

/-- Right: 3 to 5 disks, 1 to 8 stripes. -/
def geoB (n s : Int) : Bool := inB n 3 5 && inB s 1 8
def blocksN (n s : Int) : Int := if geoB n s = true then s * (n - 1) else 0
def stripeB (n s t : Int) : Bool := geoB n s && inB t 0 (s - 1)
def parN (n s t : Int) : Int := if stripeB n s t = true then n - 1 - t % n else -1
def spotB (n s t i : Int) : Bool := stripeB n s t && inB i 0 (n - 2)
def diskN (n s t i : Int) : Int := if spotB n s t i = true then (n - 1 - t % n + 1 + i) % n else -1
def blockB (n s b : Int) : Bool := inB b 0 (blocksN n s - 1)
def stripeN (n s b : Int) : Int := if blockB n s b = true then b / (n - 1) else -1
def indexN (n s b : Int) : Int := if blockB n s b = true then b % (n - 1) else -1
def blockN (n s t i : Int) : Int := if spotB n s t i = true then t * (n - 1) + i else -1

theorem inB_iff {x l m : Int} : inB x l m = true ↔ l ≤ x ∧ x ≤ m := by unfold inB; simp
theorem inB_not {x l m : Int} : inB x l m = false ↔ ¬ (l ≤ x ∧ x ≤ m) := by rw [← inB_iff]; simp
theorem geoB_iff {n s : Int} : geoB n s = true ↔ 3 ≤ n ∧ n ≤ 5 ∧ 1 ≤ s ∧ s ≤ 8 := by unfold geoB; rw [Bool.and_eq_true, inB_iff, inB_iff, and_assoc]
theorem geoB_blocks {n s : Int} (h : geoB n s = true) : 2 ≤ s * (n - 1) ∧ s * (n - 1) ≤ 32 := by
  obtain ⟨h1, h2, h3, h4⟩ := geoB_iff.1 h
  have : n = 3 ∨ n = 4 ∨ n = 5 := by omega
  rcases this with rfl | rfl | rfl <;> omega
theorem blocksN_of {n s : Int} (h : geoB n s = true) : blocksN n s = s * (n - 1) := by unfold blocksN; rw [if_pos h]
theorem blocksN_not {n s : Int} (h : geoB n s = false) : blocksN n s = 0 := by unfold blocksN; rw [if_neg (by simp [h])]
theorem blocksN_range (n s : Int) : 0 ≤ blocksN n s ∧ blocksN n s ≤ 32 := by
  by_cases h : geoB n s = true
  · rw [blocksN_of h]
    have := geoB_blocks h
    omega
  · rw [blocksN_not (by simpa using h)]
    omega

/-- A Geo in a block of its own. -/
def Gbox (w : World) (B : Nat) (T : TypeId) (n s : Int) : Prop := w.heap[B]? = some (.cells #[.int .i64 n, .int .i64 s] T (0, 0))
theorem Gbox.cells {w : World} {B : Nat} {T : TypeId} {n s : Int} (h : Gbox w B T n s) : w.cell? ⟨B, 0, none⟩ = some (.int .i64 n) ∧ w.cell? ⟨B, 1, none⟩ = some (.int .i64 s) :=
  ⟨cell_of_row w B 0 _ T (0, 0) h, cell_of_row w B 1 _ T (0, 0) h⟩
theorem Gbox.frozen {w : World} {B : Nat} {T : TypeId} {n s : Int} (h : Gbox w B T n s) (j : Nat) : w.frozen? ⟨B, j, none⟩ = false := frozen_of_row w B j _ T h
theorem Gbox.new (w : World) (T : TypeId) (n s : Int) : Gbox (w.alloc (.cells #[.int .i64 n, .int .i64 s] T)) w.heap.size T n s := heap_alloc_new w _
theorem Gbox.lt {w : World} {B : Nat} {T : TypeId} {n s : Int} (h : Gbox w B T n s) : B < w.heap.size := (Array.getElem?_eq_some_iff.1 h).1
theorem Gbox.below {w w' : World} {B N : Nat} {T : TypeId} {n s : Int} (h : Gbox w B T n s) (hb : Below N w w') (hN : B < N) : Gbox w' B T n s := (hb.block B hN).trans h
theorem Gbox.drew {w : World} {B : Nat} {T : TypeId} {n s : Int} (h : Gbox w B T n s) : Gbox w.drew B T n s := h
theorem Gbox.set2 {w : World} {B : Nat} {T : TypeId} {n s : Int} (h : Gbox w B T n s) (a c : Int) : Gbox ((w.setCell ⟨B, 0, none⟩ (.int .i64 a)).setCell ⟨B, 1, none⟩ (.int .i64 c)) B T a c := by
  have h1 : (w.setCell ⟨B, 0, none⟩ (.int .i64 a)).heap[B]? = some (.cells #[.int .i64 a, .int .i64 s] T (0, 0)) := heap_setCell_same w B 0 _ _ _ h
  exact heap_setCell_same _ B 1 _ _ _ h1

theorem implGeoOk_any (w : World) (n s : Int) : Calls Tryz.prog 128 #[.agg #[.int .i64 n, .int .i64 s]] w fun e w' => e = .returned (.bool (geoB n s)) ∧ Below w.heap.size w w' := by
  have hA := new_below w (.cells #[.int .i64 n, .int .i64 s] 25)
  obtain ⟨k0, k1⟩ := (Gbox.new w 25 n s).cells
  by_cases h1 : 3 ≤ n
  · by_cases h2 : n ≤ 5
    · by_cases h3 : 1 ≤ s
      · by_cases h4 : s ≤ 8
        · go_enter Tryz.func128, Tryz.ntmps128
          go_wp2
          go_ret
          exact ⟨ret_bool (by symm; rw [geoB_iff]; omega), hA⟩
        · go_enter Tryz.func128, Tryz.ntmps128
          go_wp2
          go_ret
          exact ⟨ret_bool (by symm; rw [← Bool.not_eq_true, geoB_iff]; omega), hA⟩
      · go_enter Tryz.func128, Tryz.ntmps128
        go_wp2
        go_ret
        exact ⟨ret_bool (by symm; rw [← Bool.not_eq_true, geoB_iff]; omega), hA⟩
    · go_enter Tryz.func128, Tryz.ntmps128
      go_wp2
      go_ret
      exact ⟨ret_bool (by symm; rw [← Bool.not_eq_true, geoB_iff]; omega), hA⟩
  · go_enter Tryz.func128, Tryz.ntmps128
    go_wp2
    go_ret
    exact ⟨ret_bool (by symm; rw [← Bool.not_eq_true, geoB_iff]; omega), hA⟩

theorem specGeoOk_any (w : World) (n s : Int) : Calls Tryz.prog 116 #[.agg #[.int .i64 n, .int .i64 s]] w fun e w' => e = .returned (.bool (geoB n s)) ∧ Below w.heap.size w w' := by
  have hA := new_below w (.cells #[.int .i64 n, .int .i64 s] 25)
  obtain ⟨k0, k1⟩ := (Gbox.new w 25 n s).cells
  by_cases h1 : inB n 3 5 = true
  · go_enter Tryz.func116, Tryz.ntmps116
    go_wp2_with fail
    refine (l1In_any _ _ _ _).mono ?_
    rintro e w1 ⟨rfl, rfl⟩
    go_wp2_with fail
    refine (l1In_any _ _ _ _).mono ?_
    rintro e w1 ⟨rfl, rfl⟩
    go_wp2
    go_ret
    exact ⟨ret_bool (by unfold geoB; rw [h1]; rfl), hA⟩
  · have h1 : inB n 3 5 = false := by simpa using h1
    go_enter Tryz.func116, Tryz.ntmps116
    go_wp2_with fail
    refine (l1In_any _ _ _ _).mono ?_
    rintro e w1 ⟨rfl, rfl⟩
    go_wp2
    go_ret
    exact ⟨ret_bool (by unfold geoB; rw [h1]; rfl), hA⟩

end Go.Proofs.YtbkkjfgjlapadaaGreat

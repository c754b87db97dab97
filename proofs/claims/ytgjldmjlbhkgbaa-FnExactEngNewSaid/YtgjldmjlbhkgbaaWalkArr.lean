/-
  An array by its numbers and its two slices; the walks of the laws' helpers over arrays: what is left of a bound, the copy, and the comparison of two that read alike. Condition: it weighs at most 1048576 (2097152 for the comparison).
-/
import Derived.Test.YtgjldmjlbhkgbaaWalkMems
import Derived.Test.YtgjldmjlbhkgbaaWalkEnts
import Derived.Test.YtgjldmjlbhkgbaaWalkToGeo
namespace Go.Proofs.Ytgjldmjlbhkgbaa
open Go.RowKit

/-- An array's numbers and flags. -/
structure ArrN where
  id : Int
  n : Int
  s : Int
  lost : Int
  built : Int
  seq : Int
  tail : Int
  gen : Int
  fuse : Int
  down : Bool
  broken : Bool

def wtArr (ms : List MemD) (ds : List (Int × List Int)) : Nat := wtMemS ms + wtWrS ds
theorem Box.cells13 {w : World} {B : Nat} {T : TypeId} {v0 v1 v2 v3 v4 v5 v6 v7 v8 v9 v10 v11 v12 : Value} (h : Box w B T #[v0, v1, v2, v3, v4, v5, v6, v7, v8, v9, v10, v11, v12]) : w.cell? ⟨B, 0, none⟩ = some v0 ∧ w.cell? ⟨B, 1, none⟩ = some v1 ∧ w.cell? ⟨B, 2, none⟩ = some v2 ∧ w.cell? ⟨B, 3, none⟩ = some v3 ∧ w.cell? ⟨B, 4, none⟩ = some v4 ∧ w.cell? ⟨B, 5, none⟩ = some v5 ∧ w.cell? ⟨B, 6, none⟩ = some v6 ∧ w.cell? ⟨B, 7, none⟩ = some v7 ∧ w.cell? ⟨B, 8, none⟩ = some v8 ∧ w.cell? ⟨B, 9, none⟩ = some v9 ∧ w.cell? ⟨B, 10, none⟩ = some v10 ∧ w.cell? ⟨B, 11, none⟩ = some v11 ∧ w.cell? ⟨B, 12, none⟩ = some v12 := ⟨h.cell 0, h.cell 1, h.cell 2, h.cell 3, h.cell 4, h.cell 5, h.cell 6, h.cell 7, h.cell 8, h.cell 9, h.cell 10, h.cell 11, h.cell 12⟩

/-- Cells of a block set one behind the other. -/
def puts (w : World) (B : Nat) : List (Nat × Value) → World
  | [] => w
  | x :: r => puts (w.setCell ⟨B, x.1, none⟩ x.2) B r
theorem puts_but (B : Nat) : ∀ (l : List (Nat × Value)) (w : World), But B (B + 1) w (puts w B l)
  | [], _ => But.refl _ _ _
  | _ :: r, _ => (But.setCell (Nat.le_refl _) (Nat.lt_succ_self _) _).trans (puts_but B r _)
theorem puts_box {B : Nat} {T : TypeId} : ∀ (l : List (Nat × Value)) {w : World} {cs : Array Value}, Box w B T cs → Box (puts w B l) B T (l.foldl (fun a x => a.setIfInBounds x.1 x.2) cs)
  | [], _, _, h => h
  | x :: r, _, _, h => puts_box r (h.set x.1 x.2)

set_option maxHeartbeats 800000 in
theorem eqGeo_refl (w : World) (n s : Int) : Calls Try.prog 36 #[.agg #[.int .i64 n, .int .i64 s], .agg #[.int .i64 n, .int .i64 s]] w fun e w' => e = .returned (.bool true) ∧ Below w.heap.size w w' := by
  go_enter Try.func36, Try.ntmps36
  go_wp2
  go_ret
  exact ⟨rfl, (new_below w _).alloc (by simp) _⟩

set_option maxHeartbeats 3200000 in
/-- Two that read alike. -/
theorem eqArr_same (w : World) (E E' F F' G G' : TypeId) (x : ArrN) (am ad bm bd : Option Addr) (nm cm nd cd pm em pd ed : Nat) (ms : List MemD) (ds : List (Int × List Int)) (h0 : (tMemS E F).Rd w [.slice am nm cm] ms) (h1 : (tWrS G).Rd w [.slice ad nd cd] ds) (g0 : (tMemS E' F').Rd w [.slice bm pm em] ms) (g1 : (tWrS G').Rd w [.slice bd pd ed] ds) (hw : wtArr ms ds ≤ 2097152) :
    Calls Try.prog 12 #[.agg #[.int .i64 x.id, .int .i64 x.n, .int .i64 x.s, .slice am nm cm, .int .i64 x.lost, .int .i64 x.built, .int .i64 x.seq, .int .i64 x.tail, .int .i64 x.gen, .slice ad nd cd, .int .i64 x.fuse, .bool x.down, .bool x.broken], .agg #[.int .i64 x.id, .int .i64 x.n, .int .i64 x.s, .slice bm pm em, .int .i64 x.lost, .int .i64 x.built, .int .i64 x.seq, .int .i64 x.tail, .int .i64 x.gen, .slice bd pd ed, .int .i64 x.fuse, .bool x.down, .bool x.broken]] w fun e w' => e = .returned (.bool true) ∧ Below w.heap.size w w' := by
  have hw0 : wtMemS ms ≤ 2097152 := by unfold wtArr at hw; omega
  have hw1 : wtWrS ds ≤ 2097152 := by unfold wtArr at hw; omega
  have hd : decide (ds = ds) = true := by simp
  have hb : ∀ b : Bool, (b != b) = false := by simp
  have hA := (new_below w (.cells #[.int .i64 x.id, .int .i64 x.n, .int .i64 x.s, .slice am nm cm, .int .i64 x.lost, .int .i64 x.built, .int .i64 x.seq, .int .i64 x.tail, .int .i64 x.gen, .slice ad nd cd, .int .i64 x.fuse, .bool x.down, .bool x.broken] 28)).alloc (by simp) (.cells #[.int .i64 x.id, .int .i64 x.n, .int .i64 x.s, .slice bm pm em, .int .i64 x.lost, .int .i64 x.built, .int .i64 x.seq, .int .i64 x.tail, .int .i64 x.gen, .slice bd pd ed, .int .i64 x.fuse, .bool x.down, .bool x.broken] 28)
  have A := (Box.new w 28 #[.int .i64 x.id, .int .i64 x.n, .int .i64 x.s, .slice am nm cm, .int .i64 x.lost, .int .i64 x.built, .int .i64 x.seq, .int .i64 x.tail, .int .i64 x.gen, .slice ad nd cd, .int .i64 x.fuse, .bool x.down, .bool x.broken]).alloc (.cells #[.int .i64 x.id, .int .i64 x.n, .int .i64 x.s, .slice bm pm em, .int .i64 x.lost, .int .i64 x.built, .int .i64 x.seq, .int .i64 x.tail, .int .i64 x.gen, .slice bd pd ed, .int .i64 x.fuse, .bool x.down, .bool x.broken] 28)
  have C := Box.new (w.alloc (.cells #[.int .i64 x.id, .int .i64 x.n, .int .i64 x.s, .slice am nm cm, .int .i64 x.lost, .int .i64 x.built, .int .i64 x.seq, .int .i64 x.tail, .int .i64 x.gen, .slice ad nd cd, .int .i64 x.fuse, .bool x.down, .bool x.broken] 28)) 28 #[.int .i64 x.id, .int .i64 x.n, .int .i64 x.s, .slice bm pm em, .int .i64 x.lost, .int .i64 x.built, .int .i64 x.seq, .int .i64 x.tail, .int .i64 x.gen, .slice bd pd ed, .int .i64 x.fuse, .bool x.down, .bool x.broken]
  rw [World.size_alloc] at C
  obtain ⟨k0, k1, k2, k3, k4, k5, k6, k7, k8, k9, k10, k11, k12⟩ := A.cells13
  obtain ⟨j0, j1, j2, j3, j4, j5, j6, j7, j8, j9, j10, j11, j12⟩ := C.cells13
  go_enter Try.func12, Try.ntmps12
  go_wp2_with fail
  generalize (w.alloc (.cells #[.int .i64 x.id, .int .i64 x.n, .int .i64 x.s, .slice am nm cm, .int .i64 x.lost, .int .i64 x.built, .int .i64 x.seq, .int .i64 x.tail, .int .i64 x.gen, .slice ad nd cd, .int .i64 x.fuse, .bool x.down, .bool x.broken] 28)).alloc (.cells #[.int .i64 x.id, .int .i64 x.n, .int .i64 x.s, .slice bm pm em, .int .i64 x.lost, .int .i64 x.built, .int .i64 x.seq, .int .i64 x.tail, .int .i64 x.gen, .slice bd pd ed, .int .i64 x.fuse, .bool x.down, .bool x.broken] 28) = W at hA A C k0 k1 k2 k3 k4 k5 k6 k7 k8 k9 k10 k11 k12 j0 j1 j2 j3 j4 j5 j6 j7 j8 j9 j10 j11 j12 ⊢
  refine (eqGeo_refl _ _ _).mono ?_
  rintro e w1 ⟨rfl, b⟩
  have A1 := A.below b A.lt
  have C1 := C.below b C.lt
  have B1 := Below.andThen hA b
  clear k0 k1 k2 k3 k4 k5 k6 k7 k8 k9 k10 k11 k12 j0 j1 j2 j3 j4 j5 j6 j7 j8 j9 j10 j11 j12 A C b hA
  obtain ⟨k0, k1, k2, k3, k4, k5, k6, k7, k8, k9, k10, k11, k12⟩ := A1.cells13
  obtain ⟨j0, j1, j2, j3, j4, j5, j6, j7, j8, j9, j10, j11, j12⟩ := C1.cells13
  go_wp2_with fail
  refine (eqMemS_same _ E E' F F' _ _ _ _ _ _ ms (h0.below B1) (g0.below B1) hw0).mono ?_
  rintro e w2 ⟨rfl, b⟩
  have A2 := A1.below b A1.lt
  have C2 := C1.below b C1.lt
  have B2 := Below.andThen B1 b
  clear k0 k1 k2 k3 k4 k5 k6 k7 k8 k9 k10 k11 k12 j0 j1 j2 j3 j4 j5 j6 j7 j8 j9 j10 j11 j12 A1 C1 b B1
  obtain ⟨k0, k1, k2, k3, k4, k5, k6, k7, k8, k9, k10, k11, k12⟩ := A2.cells13
  obtain ⟨j0, j1, j2, j3, j4, j5, j6, j7, j8, j9, j10, j11, j12⟩ := C2.cells13
  go_wp2_with fail
  refine (eqEntS_any _ G G' _ _ _ _ _ _ ds ds (h1.below B2) (g1.below B2) hw1).mono ?_
  rintro e w3 ⟨rfl, b⟩
  have A3 := A2.below b A2.lt
  have C3 := C2.below b C2.lt
  have B3 := Below.andThen B2 b
  clear k0 k1 k2 k3 k4 k5 k6 k7 k8 k9 k10 k11 k12 j0 j1 j2 j3 j4 j5 j6 j7 j8 j9 j10 j11 j12 A2 C2 b B2
  obtain ⟨k0, k1, k2, k3, k4, k5, k6, k7, k8, k9, k10, k11, k12⟩ := A3.cells13
  obtain ⟨j0, j1, j2, j3, j4, j5, j6, j7, j8, j9, j10, j11, j12⟩ := C3.cells13
  have q1 := hb x.down
  have q2 := hb x.broken
  go_wp2
  go_ret
  exact ⟨rfl, B3⟩

end Go.Proofs.Ytgjldmjlbhkgbaa

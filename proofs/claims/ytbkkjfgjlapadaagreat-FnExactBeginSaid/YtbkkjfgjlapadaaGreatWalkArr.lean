/-
  An array by its numbers and its two slices; the walks of the laws' helpers over arrays: what is left of a bound, the copy, and the comparison of two that read alike. Condition: it weighs at most 1048576 (2097152 for the comparison).
-/
import Derived.Test.YtbkkjfgjlapadaaGreatWalkMems
import Derived.Test.YtbkkjfgjlapadaaGreatWalkEnts
import Derived.Test.YtbkkjfgjlapadaaGreatWalkToGeo
namespace Go.Proofs.YtbkkjfgjlapadaaGreat
open Go.RowKit

/-- An array's numbers and flags. -/
structure ArrN where
  id : Int
  n : Int
  s : Int
  lost : Int
  built : Int
  seq : Int
  tail : Int
  gen : Int
  fuse : Int
  down : Bool
  broken : Bool

def wtArr (ms : List MemD) (ds : List (Int × List Int)) : Nat := wtMemS ms + wtWrS ds
theorem Box.cells13 {w : World} {B : Nat} {T : TypeId} {v0 v1 v2 v3 v4 v5 v6 v7 v8 v9 v10 v11 v12 : Value} (h : Box w B T #[v0, v1, v2, v3, v4, v5, v6, v7, v8, v9, v10, v11, v12]) : w.cell? ⟨B, 0, none⟩ = some v0 ∧ w.cell? ⟨B, 1, none⟩ = some v1 ∧ w.cell? ⟨B, 2, none⟩ = some v2 ∧ w.cell? ⟨B, 3, none⟩ = some v3 ∧ w.cell? ⟨B, 4, none⟩ = some v4 ∧ w.cell? ⟨B, 5, none⟩ = some v5 ∧ w.cell? ⟨B, 6, none⟩ = some v6 ∧ w.cell? ⟨B, 7, none⟩ = some v7 ∧ w.cell? ⟨B, 8, none⟩ = some v8 ∧ w.cell? ⟨B, 9, none⟩ = some v9 ∧ w.cell? ⟨B, 10, none⟩ = some v10 ∧ w.cell? ⟨B, 11, none⟩ = some v11 ∧ w.cell? ⟨B, 12, none⟩ = some v12 := ⟨h.cell 0, h.cell 1, h.cell 2, h.cell 3, h.cell 4, h.cell 5, h.cell 6, h.cell 7, h.cell 8, h.cell 9, h.cell 10, h.cell 11, h.cell 12⟩

/-- Cells of a block set one behind the other. -/
def puts (w : World) (B : Nat) : List (Nat × Value) → World
  | [] => w
  | x :: r => puts (w.setCell ⟨B, x.1, none⟩ x.2) B r
theorem puts_but (B : Nat) : ∀ (l : List (Nat × Value)) (w : World), But B (B + 1) w (puts w B l)
  | [], _ => But.refl _ _ _
  | _ :: r, _ => (But.setCell (Nat.le_refl _) (Nat.lt_succ_self _) _).trans (puts_but B r _)
theorem puts_box {B : Nat} {T : TypeId} : ∀ (l : List (Nat × Value)) {w : World} {cs : Array Value}, Box w B T cs → Box (puts w B l) B T (l.foldl (fun a x => a.setIfInBounds x.1 x.2) cs)
  | [], _, _, h => h
  | x :: r, _, _, h => puts_box r (h.set x.1 x.2)

set_option maxHeartbeats 1600000 in
theorem szArr_any (w : World) (E F G : TypeId) (x : ArrN) (am ad : Option Addr) (nm cm nd cd : Nat) (ms : List MemD) (ds : List (Int × List Int)) (left : Int) (h0 : (tMemS E F).Rd w [.slice am nm cm] ms) (h1 : (tWrS G).Rd w [.slice ad nd cd] ds) (hl0 : 0 ≤ left) (hl1 : left ≤ 1048576) :
    Calls Tryz.prog 82 #[.agg #[.int .i64 x.id, .int .i64 x.n, .int .i64 x.s, .slice am nm cm, .int .i64 x.lost, .int .i64 x.built, .int .i64 x.seq, .int .i64 x.tail, .int .i64 x.gen, .slice ad nd cd, .int .i64 x.fuse, .bool x.down, .bool x.broken], .int .i64 left] w fun e w' => e = .returned (.int .i64 (leftOf left (wtArr ms ds))) ∧ Below w.heap.size w w' := by
  have hA := new_below w (.cells #[.int .i64 x.id, .int .i64 x.n, .int .i64 x.s, .slice am nm cm, .int .i64 x.lost, .int .i64 x.built, .int .i64 x.seq, .int .i64 x.tail, .int .i64 x.gen, .slice ad nd cd, .int .i64 x.fuse, .bool x.down, .bool x.broken] 65)
  have X := Box.new w 65 #[.int .i64 x.id, .int .i64 x.n, .int .i64 x.s, .slice am nm cm, .int .i64 x.lost, .int .i64 x.built, .int .i64 x.seq, .int .i64 x.tail, .int .i64 x.gen, .slice ad nd cd, .int .i64 x.fuse, .bool x.down, .bool x.broken]
  obtain ⟨k0, k1, k2, k3, k4, k5, k6, k7, k8, k9, k10, k11, k12⟩ := X.cells13
  have zA := X.lt
  go_enter Tryz.func82, Tryz.ntmps82
  go_wp2_with fail
  generalize w.alloc (.cells #[.int .i64 x.id, .int .i64 x.n, .int .i64 x.s, .slice am nm cm, .int .i64 x.lost, .int .i64 x.built, .int .i64 x.seq, .int .i64 x.tail, .int .i64 x.gen, .slice ad nd cd, .int .i64 x.fuse, .bool x.down, .bool x.broken] 65) = W at hA X zA k0 k1 k2 k3 k4 k5 k6 k7 k8 k9 k10 k11 k12 ⊢
  refine (szMemS_any _ E F _ _ _ ms left (h0.below hA) hl0 hl1).mono ?_
  rintro e w1 ⟨rfl, b1⟩
  have X1 := X.below b1 zA
  have B1 := Below.andThen hA b1
  clear k0 k1 k2 k3 k4 k5 k6 k7 k8 k9 k10 k11 k12 X b1 hA zA
  obtain ⟨k0, k1, k2, k3, k4, k5, k6, k7, k8, k9, k10, k11, k12⟩ := X1.cells13
  have HT : Hid (wtArr ms ds = wtMemS ms + wtWrS ds) := rfl
  by_cases hx : (wtMemS ms : Int) ≤ left
  · have hq := leftOf_pos hx
    have hq' : ¬ leftOf left (wtMemS ms) < 0 := by rw [hq]; omega
    rw [hq] at hq' ⊢
    clear hq
    generalize hM : wtMemS ms = M at hx HT hq' ⊢
    clear hM
    go_wp2_with fail
    refine (szEntS_any _ G _ _ _ ds (left - M) (h1.below B1) (by omega) (by omega)).mono ?_
    rintro e w2 ⟨rfl, b2⟩
    have B2 := Below.andThen B1 b2
    clear k0 k1 k2 k3 k4 k5 k6 k7 k8 k9 k10 k11 k12 X1 b2 B1
    by_cases hy : (wtWrS ds : Int) ≤ left - M
    · have hq2 := leftOf_pos hy
      have HF : Hid (leftOf left (wtArr ms ds) = left - M - wtWrS ds) := by unfold Hid; rw [HT.out, leftOf_pos (by omega)]; omega
      go_wp2
      go_ret
      exact ⟨ret_int HF.out.symm, B2⟩
    · have hq2 := leftOf_neg (left := left - (M : Int)) (wt := wtWrS ds) (by omega)
      have HF : Hid (leftOf left (wtArr ms ds) = -1) := by unfold Hid; rw [HT.out, leftOf_neg (by omega)]
      go_wp2
      go_ret
      exact ⟨ret_int HF.out.symm, B2⟩
  · have hq := leftOf_neg (left := left) (wt := wtMemS ms) (by omega)
    have HF : Hid (leftOf left (wtArr ms ds) = -1) := by unfold Hid; rw [HT.out, leftOf_neg (by omega)]
    go_wp2
    go_ret
    exact ⟨ret_int HF.out.symm, B1⟩

set_option maxHeartbeats 6400000 in
theorem toArr_any (w : World) (E F G : TypeId) (x : ArrN) (am ad : Option Addr) (nm cm nd cd : Nat) (ms : List MemD) (ds : List (Int × List Int)) (h0 : (tMemS E F).Rd w [.slice am nm cm] ms) (h1 : (tWrS G).Rd w [.slice ad nd cd] ds) (hw : wtArr ms ds ≤ 1048576) :
    Calls Tryz.prog 88 #[.agg #[.int .i64 x.id, .int .i64 x.n, .int .i64 x.s, .slice am nm cm, .int .i64 x.lost, .int .i64 x.built, .int .i64 x.seq, .int .i64 x.tail, .int .i64 x.gen, .slice ad nd cd, .int .i64 x.fuse, .bool x.down, .bool x.broken]] w fun e w' => ∃ bm bd, e = .returned (.agg #[.int .i64 x.id, .int .i64 x.n, .int .i64 x.s, .slice (some ⟨bm, 0, none⟩) nm nm, .int .i64 x.lost, .int .i64 x.built, .int .i64 x.seq, .int .i64 x.tail, .int .i64 x.gen, .slice (some ⟨bd, 0, none⟩) nd nd, .int .i64 x.fuse, .bool x.down, .bool x.broken]) ∧ (tMemS 214 147).Own w' w.heap.size bd [.slice (some ⟨bm, 0, none⟩) nm nm] ms ∧ (tWrS 162).Own w' bd w'.heap.size [.slice (some ⟨bd, 0, none⟩) nd nd] ds ∧ w.heap.size ≤ bd ∧ bd ≤ w'.heap.size ∧ Below w.heap.size w w' := by
  have hw0 : wtMemS ms ≤ 1048576 := by unfold wtArr at hw; omega
  have hw1 : wtWrS ds ≤ 1048576 := by unfold wtArr at hw; omega
  have hA := ((new_below w (.cells #[.int .i64 x.id, .int .i64 x.n, .int .i64 x.s, .slice am nm cm, .int .i64 x.lost, .int .i64 x.built, .int .i64 x.seq, .int .i64 x.tail, .int .i64 x.gen, .slice ad nd cd, .int .i64 x.fuse, .bool x.down, .bool x.broken] 65)).alloc (by simp) (.cells #[.int .i64 0, .int .i64 0, .int .i64 0, .slice none 0 0, .int .i64 0, .int .i64 0, .int .i64 0, .int .i64 0, .int .i64 0, .slice none 0 0, .int .i64 0, .bool false, .bool false] 29)).alloc (by simp; omega) (.cells #[.int .i64 x.id, .int .i64 0, .int .i64 0, .slice none 0 0, .int .i64 0, .int .i64 0, .int .i64 0, .int .i64 0, .int .i64 0, .slice none 0 0, .int .i64 0, .bool false, .bool false] 29)
  have A := ((Box.new w 65 #[.int .i64 x.id, .int .i64 x.n, .int .i64 x.s, .slice am nm cm, .int .i64 x.lost, .int .i64 x.built, .int .i64 x.seq, .int .i64 x.tail, .int .i64 x.gen, .slice ad nd cd, .int .i64 x.fuse, .bool x.down, .bool x.broken]).alloc (.cells #[.int .i64 0, .int .i64 0, .int .i64 0, .slice none 0 0, .int .i64 0, .int .i64 0, .int .i64 0, .int .i64 0, .int .i64 0, .slice none 0 0, .int .i64 0, .bool false, .bool false] 29)).alloc (.cells #[.int .i64 x.id, .int .i64 0, .int .i64 0, .slice none 0 0, .int .i64 0, .int .i64 0, .int .i64 0, .int .i64 0, .int .i64 0, .slice none 0 0, .int .i64 0, .bool false, .bool false] 29)
  have R := (Box.new (w.alloc (.cells #[.int .i64 x.id, .int .i64 x.n, .int .i64 x.s, .slice am nm cm, .int .i64 x.lost, .int .i64 x.built, .int .i64 x.seq, .int .i64 x.tail, .int .i64 x.gen, .slice ad nd cd, .int .i64 x.fuse, .bool x.down, .bool x.broken] 65)) 29 #[.int .i64 0, .int .i64 0, .int .i64 0, .slice none 0 0, .int .i64 0, .int .i64 0, .int .i64 0, .int .i64 0, .int .i64 0, .slice none 0 0, .int .i64 0, .bool false, .bool false]).alloc (.cells #[.int .i64 x.id, .int .i64 0, .int .i64 0, .slice none 0 0, .int .i64 0, .int .i64 0, .int .i64 0, .int .i64 0, .int .i64 0, .slice none 0 0, .int .i64 0, .bool false, .bool false] 29)
  have O := Box.new ((w.alloc (.cells #[.int .i64 x.id, .int .i64 x.n, .int .i64 x.s, .slice am nm cm, .int .i64 x.lost, .int .i64 x.built, .int .i64 x.seq, .int .i64 x.tail, .int .i64 x.gen, .slice ad nd cd, .int .i64 x.fuse, .bool x.down, .bool x.broken] 65)).alloc (.cells #[.int .i64 0, .int .i64 0, .int .i64 0, .slice none 0 0, .int .i64 0, .int .i64 0, .int .i64 0, .int .i64 0, .int .i64 0, .slice none 0 0, .int .i64 0, .bool false, .bool false] 29)) 29 #[.int .i64 x.id, .int .i64 0, .int .i64 0, .slice none 0 0, .int .i64 0, .int .i64 0, .int .i64 0, .int .i64 0, .int .i64 0, .slice none 0 0, .int .i64 0, .bool false, .bool false]
  rw [World.size_alloc] at R
  rw [World.size_alloc, World.size_alloc] at O
  obtain ⟨k0, k1, k2, k3, k4, k5, k6, k7, k8, k9, k10, k11, k12⟩ := A.cells13
  go_enter Tryz.func88, Tryz.ntmps88
  go_wp2_with fail
  generalize ((w.alloc (.cells #[.int .i64 x.id, .int .i64 x.n, .int .i64 x.s, .slice am nm cm, .int .i64 x.lost, .int .i64 x.built, .int .i64 x.seq, .int .i64 x.tail, .int .i64 x.gen, .slice ad nd cd, .int .i64 x.fuse, .bool x.down, .bool x.broken] 65)).alloc (.cells #[.int .i64 0, .int .i64 0, .int .i64 0, .slice none 0 0, .int .i64 0, .int .i64 0, .int .i64 0, .int .i64 0, .int .i64 0, .slice none 0 0, .int .i64 0, .bool false, .bool false] 29)).alloc (.cells #[.int .i64 x.id, .int .i64 0, .int .i64 0, .slice none 0 0, .int .i64 0, .int .i64 0, .int .i64 0, .int .i64 0, .int .i64 0, .slice none 0 0, .int .i64 0, .bool false, .bool false] 29) = W at hA A R O k0 k1 k2 k3 k4 k5 k6 k7 k8 k9 k10 k11 k12 ⊢
  have B := hA
  clear hA
  refine (toGeo_any _ _ _).mono ?_
  rintro e w0 ⟨rfl, b⟩
  have A' := A.below b A.lt
  have R' := R.below b R.lt
  have O' := O.below b O.lt
  have B' := Below.andThen B b
  have z_ := b.size
  clear k0 k1 k2 k3 k4 k5 k6 k7 k8 k9 k10 k11 k12 A R O B
  have A := A'
  have R := R'
  have O := O'
  have B := B'
  clear A' R' O' B'
  clear b
  have hb := puts_but (w.heap.size + 1 + 1) [(1, .int .i64 x.n), (2, .int .i64 x.s)] w0
  have O' : Box (((w0).setCell ⟨(w.heap.size + 1 + 1), 1, none⟩ (.int .i64 x.n)).setCell ⟨(w.heap.size + 1 + 1), 2, none⟩ (.int .i64 x.s)) (w.heap.size + 1 + 1) 29 #[.int .i64 x.id, .int .i64 x.n, .int .i64 x.s, .slice none 0 0, .int .i64 0, .int .i64 0, .int .i64 0, .int .i64 0, .int .i64 0, .slice none 0 0, .int .i64 0, .bool false, .bool false] := by
    have := puts_box [(1, .int .i64 x.n), (2, .int .i64 x.s)] O
    simpa [puts] using this
  have A' : Box (((w0).setCell ⟨(w.heap.size + 1 + 1), 1, none⟩ (.int .i64 x.n)).setCell ⟨(w.heap.size + 1 + 1), 2, none⟩ (.int .i64 x.s)) w.heap.size 65 #[.int .i64 x.id, .int .i64 x.n, .int .i64 x.s, .slice am nm cm, .int .i64 x.lost, .int .i64 x.built, .int .i64 x.seq, .int .i64 x.tail, .int .i64 x.gen, .slice ad nd cd, .int .i64 x.fuse, .bool x.down, .bool x.broken] := A.kept (hb.block _ A.lt (.inl (by omega)))
  have R' : Box (((w0).setCell ⟨(w.heap.size + 1 + 1), 1, none⟩ (.int .i64 x.n)).setCell ⟨(w.heap.size + 1 + 1), 2, none⟩ (.int .i64 x.s)) (w.heap.size + 1) 29 #[.int .i64 0, .int .i64 0, .int .i64 0, .slice none 0 0, .int .i64 0, .int .i64 0, .int .i64 0, .int .i64 0, .int .i64 0, .slice none 0 0, .int .i64 0, .bool false, .bool false] := R.kept (hb.block _ R.lt (.inl (by omega)))
  have B' : Below w.heap.size w (((w0).setCell ⟨(w.heap.size + 1 + 1), 1, none⟩ (.int .i64 x.n)).setCell ⟨(w.heap.size + 1 + 1), 2, none⟩ (.int .i64 x.s)) := Below.andBut B hb (by omega)
  have z9 : w0.heap.size ≤ (((w0).setCell ⟨(w.heap.size + 1 + 1), 1, none⟩ (.int .i64 x.n)).setCell ⟨(w.heap.size + 1 + 1), 2, none⟩ (.int .i64 x.s)).heap.size := hb.size
  obtain ⟨o0, o1, o2, o3, o4, o5, o6, o7, o8, o9, o10, o11, o12⟩ := O.cells13
  have fo := O.frozen
  obtain ⟨k0, k1, k2, k3, k4, k5, k6, k7, k8, k9, k10, k11, k12⟩ := A.cells13
  obtain ⟨j0, j1, j2, j3, j4, j5, j6, j7, j8, j9, j10, j11, j12⟩ := A'.cells13
  clear hb A R O B
  go_wp2_with fail
  generalize ((w0).setCell ⟨(w.heap.size + 1 + 1), 1, none⟩ (.int .i64 x.n)).setCell ⟨(w.heap.size + 1 + 1), 2, none⟩ (.int .i64 x.s) = V1 at O' A' R' B' z9 j0 j1 j2 j3 j4 j5 j6 j7 j8 j9 j10 j11 j12 ⊢
  clear k0 k1 k2 k3 k4 k5 k6 k7 k8 k9 k10 k11 k12 o0 o1 o2 o3 o4 o5 o6 o7 o8 o9 o10 o11 o12 fo
  have A := A'
  have R := R'
  have O := O'
  have B := B'
  clear A' R' O' B'
  refine (toMemS_any _ E F _ _ _ ms (h0.below B) hw0).mono ?_
  rintro e w2 ⟨rfl, om, b⟩
  have A' := A.below b A.lt
  have R' := R.below b R.lt
  have O' := O.below b O.lt
  have B' := Below.andThen B b
  have z2 := b.size
  have zO := O.lt
  clear j0 j1 j2 j3 j4 j5 j6 j7 j8 j9 j10 j11 j12 A R O B b
  have A := A'
  have R := R'
  have O := O'
  have B := B'
  clear A' R' O' B'
  have hb := puts_but (w.heap.size + 1 + 1) [(3, .slice (some ⟨V1.heap.size, 0, none⟩) nm nm), (4, .int .i64 x.lost), (5, .int .i64 x.built), (6, .int .i64 x.seq), (7, .int .i64 x.tail), (8, .int .i64 x.gen)] w2
  have O' : Box (((((((w2).setCell ⟨(w.heap.size + 1 + 1), 3, none⟩ (.slice (some ⟨V1.heap.size, 0, none⟩) nm nm)).setCell ⟨(w.heap.size + 1 + 1), 4, none⟩ (.int .i64 x.lost)).setCell ⟨(w.heap.size + 1 + 1), 5, none⟩ (.int .i64 x.built)).setCell ⟨(w.heap.size + 1 + 1), 6, none⟩ (.int .i64 x.seq)).setCell ⟨(w.heap.size + 1 + 1), 7, none⟩ (.int .i64 x.tail)).setCell ⟨(w.heap.size + 1 + 1), 8, none⟩ (.int .i64 x.gen)) (w.heap.size + 1 + 1) 29 #[.int .i64 x.id, .int .i64 x.n, .int .i64 x.s, .slice (some ⟨V1.heap.size, 0, none⟩) nm nm, .int .i64 x.lost, .int .i64 x.built, .int .i64 x.seq, .int .i64 x.tail, .int .i64 x.gen, .slice none 0 0, .int .i64 0, .bool false, .bool false] := by
    have := puts_box [(3, .slice (some ⟨V1.heap.size, 0, none⟩) nm nm), (4, .int .i64 x.lost), (5, .int .i64 x.built), (6, .int .i64 x.seq), (7, .int .i64 x.tail), (8, .int .i64 x.gen)] O
    simpa [puts] using this
  have A' : Box (((((((w2).setCell ⟨(w.heap.size + 1 + 1), 3, none⟩ (.slice (some ⟨V1.heap.size, 0, none⟩) nm nm)).setCell ⟨(w.heap.size + 1 + 1), 4, none⟩ (.int .i64 x.lost)).setCell ⟨(w.heap.size + 1 + 1), 5, none⟩ (.int .i64 x.built)).setCell ⟨(w.heap.size + 1 + 1), 6, none⟩ (.int .i64 x.seq)).setCell ⟨(w.heap.size + 1 + 1), 7, none⟩ (.int .i64 x.tail)).setCell ⟨(w.heap.size + 1 + 1), 8, none⟩ (.int .i64 x.gen)) w.heap.size 65 #[.int .i64 x.id, .int .i64 x.n, .int .i64 x.s, .slice am nm cm, .int .i64 x.lost, .int .i64 x.built, .int .i64 x.seq, .int .i64 x.tail, .int .i64 x.gen, .slice ad nd cd, .int .i64 x.fuse, .bool x.down, .bool x.broken] := A.kept (hb.block _ A.lt (.inl (by omega)))
  have R' : Box (((((((w2).setCell ⟨(w.heap.size + 1 + 1), 3, none⟩ (.slice (some ⟨V1.heap.size, 0, none⟩) nm nm)).setCell ⟨(w.heap.size + 1 + 1), 4, none⟩ (.int .i64 x.lost)).setCell ⟨(w.heap.size + 1 + 1), 5, none⟩ (.int .i64 x.built)).setCell ⟨(w.heap.size + 1 + 1), 6, none⟩ (.int .i64 x.seq)).setCell ⟨(w.heap.size + 1 + 1), 7, none⟩ (.int .i64 x.tail)).setCell ⟨(w.heap.size + 1 + 1), 8, none⟩ (.int .i64 x.gen)) (w.heap.size + 1) 29 #[.int .i64 0, .int .i64 0, .int .i64 0, .slice none 0 0, .int .i64 0, .int .i64 0, .int .i64 0, .int .i64 0, .int .i64 0, .slice none 0 0, .int .i64 0, .bool false, .bool false] := R.kept (hb.block _ R.lt (.inl (by omega)))
  have B' : Below w.heap.size w (((((((w2).setCell ⟨(w.heap.size + 1 + 1), 3, none⟩ (.slice (some ⟨V1.heap.size, 0, none⟩) nm nm)).setCell ⟨(w.heap.size + 1 + 1), 4, none⟩ (.int .i64 x.lost)).setCell ⟨(w.heap.size + 1 + 1), 5, none⟩ (.int .i64 x.built)).setCell ⟨(w.heap.size + 1 + 1), 6, none⟩ (.int .i64 x.seq)).setCell ⟨(w.heap.size + 1 + 1), 7, none⟩ (.int .i64 x.tail)).setCell ⟨(w.heap.size + 1 + 1), 8, none⟩ (.int .i64 x.gen)) := Below.andBut B hb (by omega)
  have om' : (tMemS 214 147).Own (((((((w2).setCell ⟨(w.heap.size + 1 + 1), 3, none⟩ (.slice (some ⟨V1.heap.size, 0, none⟩) nm nm)).setCell ⟨(w.heap.size + 1 + 1), 4, none⟩ (.int .i64 x.lost)).setCell ⟨(w.heap.size + 1 + 1), 5, none⟩ (.int .i64 x.built)).setCell ⟨(w.heap.size + 1 + 1), 6, none⟩ (.int .i64 x.seq)).setCell ⟨(w.heap.size + 1 + 1), 7, none⟩ (.int .i64 x.tail)).setCell ⟨(w.heap.size + 1 + 1), 8, none⟩ (.int .i64 x.gen)) V1.heap.size w2.heap.size [.slice (some ⟨V1.heap.size, 0, none⟩) nm nm] ms := om.but hb (.inr (by omega))
  have z9 : w2.heap.size ≤ (((((((w2).setCell ⟨(w.heap.size + 1 + 1), 3, none⟩ (.slice (some ⟨V1.heap.size, 0, none⟩) nm nm)).setCell ⟨(w.heap.size + 1 + 1), 4, none⟩ (.int .i64 x.lost)).setCell ⟨(w.heap.size + 1 + 1), 5, none⟩ (.int .i64 x.built)).setCell ⟨(w.heap.size + 1 + 1), 6, none⟩ (.int .i64 x.seq)).setCell ⟨(w.heap.size + 1 + 1), 7, none⟩ (.int .i64 x.tail)).setCell ⟨(w.heap.size + 1 + 1), 8, none⟩ (.int .i64 x.gen)).heap.size := hb.size
  obtain ⟨o0, o1, o2, o3, o4, o5, o6, o7, o8, o9, o10, o11, o12⟩ := O.cells13
  have fo := O.frozen
  obtain ⟨k0, k1, k2, k3, k4, k5, k6, k7, k8, k9, k10, k11, k12⟩ := A.cells13
  obtain ⟨j0, j1, j2, j3, j4, j5, j6, j7, j8, j9, j10, j11, j12⟩ := A'.cells13
  clear hb A R O B om
  go_wp2_with fail
  generalize ((((((w2).setCell ⟨(w.heap.size + 1 + 1), 3, none⟩ (.slice (some ⟨V1.heap.size, 0, none⟩) nm nm)).setCell ⟨(w.heap.size + 1 + 1), 4, none⟩ (.int .i64 x.lost)).setCell ⟨(w.heap.size + 1 + 1), 5, none⟩ (.int .i64 x.built)).setCell ⟨(w.heap.size + 1 + 1), 6, none⟩ (.int .i64 x.seq)).setCell ⟨(w.heap.size + 1 + 1), 7, none⟩ (.int .i64 x.tail)).setCell ⟨(w.heap.size + 1 + 1), 8, none⟩ (.int .i64 x.gen) = V2 at O' A' R' B' om' z9 j0 j1 j2 j3 j4 j5 j6 j7 j8 j9 j10 j11 j12 ⊢
  clear k0 k1 k2 k3 k4 k5 k6 k7 k8 k9 k10 k11 k12 o0 o1 o2 o3 o4 o5 o6 o7 o8 o9 o10 o11 o12 fo
  have A := A'
  have R := R'
  have O := O'
  have B := B'
  have om := om'
  clear A' R' O' B' om'
  have z8 := z9
  clear z9
  refine (toEntS_any _ G _ _ _ ds (h1.below B) hw1).mono ?_
  rintro e w3 ⟨rfl, od, b⟩
  have A' := A.below b A.lt
  have R' := R.below b R.lt
  have O' := O.below b O.lt
  have B' := Below.andThen B b
  have om' := om.below b
  have z3 := b.size
  clear j0 j1 j2 j3 j4 j5 j6 j7 j8 j9 j10 j11 j12 A R O B b om
  have A := A'
  have R := R'
  have O := O'
  have B := B'
  have om := om'
  clear A' R' O' B' om'
  have hb := puts_but (w.heap.size + 1 + 1) [(9, .slice (some ⟨V2.heap.size, 0, none⟩) nd nd), (10, .int .i64 x.fuse), (11, .bool x.down), (12, .bool x.broken)] w3
  have O' : Box (((((w3).setCell ⟨(w.heap.size + 1 + 1), 9, none⟩ (.slice (some ⟨V2.heap.size, 0, none⟩) nd nd)).setCell ⟨(w.heap.size + 1 + 1), 10, none⟩ (.int .i64 x.fuse)).setCell ⟨(w.heap.size + 1 + 1), 11, none⟩ (.bool x.down)).setCell ⟨(w.heap.size + 1 + 1), 12, none⟩ (.bool x.broken)) (w.heap.size + 1 + 1) 29 #[.int .i64 x.id, .int .i64 x.n, .int .i64 x.s, .slice (some ⟨V1.heap.size, 0, none⟩) nm nm, .int .i64 x.lost, .int .i64 x.built, .int .i64 x.seq, .int .i64 x.tail, .int .i64 x.gen, .slice (some ⟨V2.heap.size, 0, none⟩) nd nd, .int .i64 x.fuse, .bool x.down, .bool x.broken] := by
    have := puts_box [(9, .slice (some ⟨V2.heap.size, 0, none⟩) nd nd), (10, .int .i64 x.fuse), (11, .bool x.down), (12, .bool x.broken)] O
    simpa [puts] using this
  have A' : Box (((((w3).setCell ⟨(w.heap.size + 1 + 1), 9, none⟩ (.slice (some ⟨V2.heap.size, 0, none⟩) nd nd)).setCell ⟨(w.heap.size + 1 + 1), 10, none⟩ (.int .i64 x.fuse)).setCell ⟨(w.heap.size + 1 + 1), 11, none⟩ (.bool x.down)).setCell ⟨(w.heap.size + 1 + 1), 12, none⟩ (.bool x.broken)) w.heap.size 65 #[.int .i64 x.id, .int .i64 x.n, .int .i64 x.s, .slice am nm cm, .int .i64 x.lost, .int .i64 x.built, .int .i64 x.seq, .int .i64 x.tail, .int .i64 x.gen, .slice ad nd cd, .int .i64 x.fuse, .bool x.down, .bool x.broken] := A.kept (hb.block _ A.lt (.inl (by omega)))
  have R' : Box (((((w3).setCell ⟨(w.heap.size + 1 + 1), 9, none⟩ (.slice (some ⟨V2.heap.size, 0, none⟩) nd nd)).setCell ⟨(w.heap.size + 1 + 1), 10, none⟩ (.int .i64 x.fuse)).setCell ⟨(w.heap.size + 1 + 1), 11, none⟩ (.bool x.down)).setCell ⟨(w.heap.size + 1 + 1), 12, none⟩ (.bool x.broken)) (w.heap.size + 1) 29 #[.int .i64 0, .int .i64 0, .int .i64 0, .slice none 0 0, .int .i64 0, .int .i64 0, .int .i64 0, .int .i64 0, .int .i64 0, .slice none 0 0, .int .i64 0, .bool false, .bool false] := R.kept (hb.block _ R.lt (.inl (by omega)))
  have B' : Below w.heap.size w (((((w3).setCell ⟨(w.heap.size + 1 + 1), 9, none⟩ (.slice (some ⟨V2.heap.size, 0, none⟩) nd nd)).setCell ⟨(w.heap.size + 1 + 1), 10, none⟩ (.int .i64 x.fuse)).setCell ⟨(w.heap.size + 1 + 1), 11, none⟩ (.bool x.down)).setCell ⟨(w.heap.size + 1 + 1), 12, none⟩ (.bool x.broken)) := Below.andBut B hb (by omega)
  have om' : (tMemS 214 147).Own (((((w3).setCell ⟨(w.heap.size + 1 + 1), 9, none⟩ (.slice (some ⟨V2.heap.size, 0, none⟩) nd nd)).setCell ⟨(w.heap.size + 1 + 1), 10, none⟩ (.int .i64 x.fuse)).setCell ⟨(w.heap.size + 1 + 1), 11, none⟩ (.bool x.down)).setCell ⟨(w.heap.size + 1 + 1), 12, none⟩ (.bool x.broken)) V1.heap.size w2.heap.size [.slice (some ⟨V1.heap.size, 0, none⟩) nm nm] ms := om.but hb (.inr (by omega))
  have od' : (tWrS 162).Own (((((w3).setCell ⟨(w.heap.size + 1 + 1), 9, none⟩ (.slice (some ⟨V2.heap.size, 0, none⟩) nd nd)).setCell ⟨(w.heap.size + 1 + 1), 10, none⟩ (.int .i64 x.fuse)).setCell ⟨(w.heap.size + 1 + 1), 11, none⟩ (.bool x.down)).setCell ⟨(w.heap.size + 1 + 1), 12, none⟩ (.bool x.broken)) V2.heap.size w3.heap.size [.slice (some ⟨V2.heap.size, 0, none⟩) nd nd] ds := od.but hb (.inr (by omega))
  have z9 : w3.heap.size ≤ (((((w3).setCell ⟨(w.heap.size + 1 + 1), 9, none⟩ (.slice (some ⟨V2.heap.size, 0, none⟩) nd nd)).setCell ⟨(w.heap.size + 1 + 1), 10, none⟩ (.int .i64 x.fuse)).setCell ⟨(w.heap.size + 1 + 1), 11, none⟩ (.bool x.down)).setCell ⟨(w.heap.size + 1 + 1), 12, none⟩ (.bool x.broken)).heap.size := hb.size
  obtain ⟨o0, o1, o2, o3, o4, o5, o6, o7, o8, o9, o10, o11, o12⟩ := O.cells13
  have fo := O.frozen
  obtain ⟨k0, k1, k2, k3, k4, k5, k6, k7, k8, k9, k10, k11, k12⟩ := A.cells13
  obtain ⟨j0, j1, j2, j3, j4, j5, j6, j7, j8, j9, j10, j11, j12⟩ := A'.cells13
  obtain ⟨y0, y1, y2, y3, y4, y5, y6, y7, y8, y9, y10, y11, y12⟩ := O'.cells13
  obtain ⟨r0, r1, r2, r3, r4, r5, r6, r7, r8, r9, r10, r11, r12⟩ := R'.cells13
  have fr := R'.frozen
  have hb4 := puts_but (w.heap.size + 1) [(0, .int .i64 x.id), (1, .int .i64 x.n), (2, .int .i64 x.s), (3, .slice (some ⟨V1.heap.size, 0, none⟩) nm nm), (4, .int .i64 x.lost), (5, .int .i64 x.built), (6, .int .i64 x.seq), (7, .int .i64 x.tail), (8, .int .i64 x.gen), (9, .slice (some ⟨V2.heap.size, 0, none⟩) nd nd), (10, .int .i64 x.fuse), (11, .bool x.down), (12, .bool x.broken)] (((((w3).setCell ⟨(w.heap.size + 1 + 1), 9, none⟩ (.slice (some ⟨V2.heap.size, 0, none⟩) nd nd)).setCell ⟨(w.heap.size + 1 + 1), 10, none⟩ (.int .i64 x.fuse)).setCell ⟨(w.heap.size + 1 + 1), 11, none⟩ (.bool x.down)).setCell ⟨(w.heap.size + 1 + 1), 12, none⟩ (.bool x.broken))
  have FM : Hid ((tMemS 214 147).Own (((((((((((((((((((w3).setCell ⟨(w.heap.size + 1 + 1), 9, none⟩ (.slice (some ⟨V2.heap.size, 0, none⟩) nd nd)).setCell ⟨(w.heap.size + 1 + 1), 10, none⟩ (.int .i64 x.fuse)).setCell ⟨(w.heap.size + 1 + 1), 11, none⟩ (.bool x.down)).setCell ⟨(w.heap.size + 1 + 1), 12, none⟩ (.bool x.broken))).setCell ⟨(w.heap.size + 1), 0, none⟩ (.int .i64 x.id)).setCell ⟨(w.heap.size + 1), 1, none⟩ (.int .i64 x.n)).setCell ⟨(w.heap.size + 1), 2, none⟩ (.int .i64 x.s)).setCell ⟨(w.heap.size + 1), 3, none⟩ (.slice (some ⟨V1.heap.size, 0, none⟩) nm nm)).setCell ⟨(w.heap.size + 1), 4, none⟩ (.int .i64 x.lost)).setCell ⟨(w.heap.size + 1), 5, none⟩ (.int .i64 x.built)).setCell ⟨(w.heap.size + 1), 6, none⟩ (.int .i64 x.seq)).setCell ⟨(w.heap.size + 1), 7, none⟩ (.int .i64 x.tail)).setCell ⟨(w.heap.size + 1), 8, none⟩ (.int .i64 x.gen)).setCell ⟨(w.heap.size + 1), 9, none⟩ (.slice (some ⟨V2.heap.size, 0, none⟩) nd nd)).setCell ⟨(w.heap.size + 1), 10, none⟩ (.int .i64 x.fuse)).setCell ⟨(w.heap.size + 1), 11, none⟩ (.bool x.down)).setCell ⟨(w.heap.size + 1), 12, none⟩ (.bool x.broken)) V1.heap.size w2.heap.size [.slice (some ⟨V1.heap.size, 0, none⟩) nm nm] ms) := (om'.but hb4 (.inr (by omega)))
  have FD : Hid ((tWrS 162).Own (((((((((((((((((((w3).setCell ⟨(w.heap.size + 1 + 1), 9, none⟩ (.slice (some ⟨V2.heap.size, 0, none⟩) nd nd)).setCell ⟨(w.heap.size + 1 + 1), 10, none⟩ (.int .i64 x.fuse)).setCell ⟨(w.heap.size + 1 + 1), 11, none⟩ (.bool x.down)).setCell ⟨(w.heap.size + 1 + 1), 12, none⟩ (.bool x.broken))).setCell ⟨(w.heap.size + 1), 0, none⟩ (.int .i64 x.id)).setCell ⟨(w.heap.size + 1), 1, none⟩ (.int .i64 x.n)).setCell ⟨(w.heap.size + 1), 2, none⟩ (.int .i64 x.s)).setCell ⟨(w.heap.size + 1), 3, none⟩ (.slice (some ⟨V1.heap.size, 0, none⟩) nm nm)).setCell ⟨(w.heap.size + 1), 4, none⟩ (.int .i64 x.lost)).setCell ⟨(w.heap.size + 1), 5, none⟩ (.int .i64 x.built)).setCell ⟨(w.heap.size + 1), 6, none⟩ (.int .i64 x.seq)).setCell ⟨(w.heap.size + 1), 7, none⟩ (.int .i64 x.tail)).setCell ⟨(w.heap.size + 1), 8, none⟩ (.int .i64 x.gen)).setCell ⟨(w.heap.size + 1), 9, none⟩ (.slice (some ⟨V2.heap.size, 0, none⟩) nd nd)).setCell ⟨(w.heap.size + 1), 10, none⟩ (.int .i64 x.fuse)).setCell ⟨(w.heap.size + 1), 11, none⟩ (.bool x.down)).setCell ⟨(w.heap.size + 1), 12, none⟩ (.bool x.broken)) V2.heap.size w3.heap.size [.slice (some ⟨V2.heap.size, 0, none⟩) nd nd] ds) := (od'.but hb4 (.inr (by omega)))
  have FB : Hid (Below w.heap.size w (((((((((((((((((((w3).setCell ⟨(w.heap.size + 1 + 1), 9, none⟩ (.slice (some ⟨V2.heap.size, 0, none⟩) nd nd)).setCell ⟨(w.heap.size + 1 + 1), 10, none⟩ (.int .i64 x.fuse)).setCell ⟨(w.heap.size + 1 + 1), 11, none⟩ (.bool x.down)).setCell ⟨(w.heap.size + 1 + 1), 12, none⟩ (.bool x.broken))).setCell ⟨(w.heap.size + 1), 0, none⟩ (.int .i64 x.id)).setCell ⟨(w.heap.size + 1), 1, none⟩ (.int .i64 x.n)).setCell ⟨(w.heap.size + 1), 2, none⟩ (.int .i64 x.s)).setCell ⟨(w.heap.size + 1), 3, none⟩ (.slice (some ⟨V1.heap.size, 0, none⟩) nm nm)).setCell ⟨(w.heap.size + 1), 4, none⟩ (.int .i64 x.lost)).setCell ⟨(w.heap.size + 1), 5, none⟩ (.int .i64 x.built)).setCell ⟨(w.heap.size + 1), 6, none⟩ (.int .i64 x.seq)).setCell ⟨(w.heap.size + 1), 7, none⟩ (.int .i64 x.tail)).setCell ⟨(w.heap.size + 1), 8, none⟩ (.int .i64 x.gen)).setCell ⟨(w.heap.size + 1), 9, none⟩ (.slice (some ⟨V2.heap.size, 0, none⟩) nd nd)).setCell ⟨(w.heap.size + 1), 10, none⟩ (.int .i64 x.fuse)).setCell ⟨(w.heap.size + 1), 11, none⟩ (.bool x.down)).setCell ⟨(w.heap.size + 1), 12, none⟩ (.bool x.broken))) := Below.andBut B' hb4 (by omega)
  have FZ : Hid ((((((w3).setCell ⟨(w.heap.size + 1 + 1), 9, none⟩ (.slice (some ⟨V2.heap.size, 0, none⟩) nd nd)).setCell ⟨(w.heap.size + 1 + 1), 10, none⟩ (.int .i64 x.fuse)).setCell ⟨(w.heap.size + 1 + 1), 11, none⟩ (.bool x.down)).setCell ⟨(w.heap.size + 1 + 1), 12, none⟩ (.bool x.broken)).heap.size ≤ (((((((((((((((((((w3).setCell ⟨(w.heap.size + 1 + 1), 9, none⟩ (.slice (some ⟨V2.heap.size, 0, none⟩) nd nd)).setCell ⟨(w.heap.size + 1 + 1), 10, none⟩ (.int .i64 x.fuse)).setCell ⟨(w.heap.size + 1 + 1), 11, none⟩ (.bool x.down)).setCell ⟨(w.heap.size + 1 + 1), 12, none⟩ (.bool x.broken))).setCell ⟨(w.heap.size + 1), 0, none⟩ (.int .i64 x.id)).setCell ⟨(w.heap.size + 1), 1, none⟩ (.int .i64 x.n)).setCell ⟨(w.heap.size + 1), 2, none⟩ (.int .i64 x.s)).setCell ⟨(w.heap.size + 1), 3, none⟩ (.slice (some ⟨V1.heap.size, 0, none⟩) nm nm)).setCell ⟨(w.heap.size + 1), 4, none⟩ (.int .i64 x.lost)).setCell ⟨(w.heap.size + 1), 5, none⟩ (.int .i64 x.built)).setCell ⟨(w.heap.size + 1), 6, none⟩ (.int .i64 x.seq)).setCell ⟨(w.heap.size + 1), 7, none⟩ (.int .i64 x.tail)).setCell ⟨(w.heap.size + 1), 8, none⟩ (.int .i64 x.gen)).setCell ⟨(w.heap.size + 1), 9, none⟩ (.slice (some ⟨V2.heap.size, 0, none⟩) nd nd)).setCell ⟨(w.heap.size + 1), 10, none⟩ (.int .i64 x.fuse)).setCell ⟨(w.heap.size + 1), 11, none⟩ (.bool x.down)).setCell ⟨(w.heap.size + 1), 12, none⟩ (.bool x.broken)).heap.size) := hb4.size
  have z10 := z9
  clear hb hb4 A R O B om od A' R' O' B' om' od'
  go_wp2
  refine bodyPost_ret (v := .agg #[.int .i64 x.id, .int .i64 x.n, .int .i64 x.s, .slice (some ⟨V1.heap.size, 0, none⟩) nm nm, .int .i64 x.lost, .int .i64 x.built, .int .i64 x.seq, .int .i64 x.tail, .int .i64 x.gen, .slice (some ⟨V2.heap.size, 0, none⟩) nd nd, .int .i64 x.fuse, .bool x.down, .bool x.broken]) (by simp [results, Tryz.results88, go_sem, r0, r1, r2, r3, r4, r5, r6, r7, r8, r9, r10, r11, r12]) rfl ?_
  have fz := FZ.out
  exact ⟨_, V2.heap.size, rfl, FM.out.widen (by omega) (by omega), FD.out.widen (Nat.le_refl _) (by omega), by omega, by omega, FB.out⟩

set_option maxHeartbeats 800000 in
theorem eqGeo_refl (w : World) (n s : Int) : Calls Tryz.prog 173 #[.agg #[.int .i64 n, .int .i64 s], .agg #[.int .i64 n, .int .i64 s]] w fun e w' => e = .returned (.bool true) ∧ Below w.heap.size w w' := by
  go_enter Tryz.func173, Tryz.ntmps173
  go_wp2
  go_ret
  exact ⟨rfl, (new_below w _).alloc (by simp) _⟩

set_option maxHeartbeats 3200000 in
/-- Two that read alike. -/
theorem eqArr_same (w : World) (E E' F F' G G' : TypeId) (x : ArrN) (am ad bm bd : Option Addr) (nm cm nd cd pm em pd ed : Nat) (ms : List MemD) (ds : List (Int × List Int)) (h0 : (tMemS E F).Rd w [.slice am nm cm] ms) (h1 : (tWrS G).Rd w [.slice ad nd cd] ds) (g0 : (tMemS E' F').Rd w [.slice bm pm em] ms) (g1 : (tWrS G').Rd w [.slice bd pd ed] ds) (hw : wtArr ms ds ≤ 2097152) :
    Calls Tryz.prog 94 #[.agg #[.int .i64 x.id, .int .i64 x.n, .int .i64 x.s, .slice am nm cm, .int .i64 x.lost, .int .i64 x.built, .int .i64 x.seq, .int .i64 x.tail, .int .i64 x.gen, .slice ad nd cd, .int .i64 x.fuse, .bool x.down, .bool x.broken], .agg #[.int .i64 x.id, .int .i64 x.n, .int .i64 x.s, .slice bm pm em, .int .i64 x.lost, .int .i64 x.built, .int .i64 x.seq, .int .i64 x.tail, .int .i64 x.gen, .slice bd pd ed, .int .i64 x.fuse, .bool x.down, .bool x.broken]] w fun e w' => e = .returned (.bool true) ∧ Below w.heap.size w w' := by
  have hw0 : wtMemS ms ≤ 2097152 := by unfold wtArr at hw; omega
  have hw1 : wtWrS ds ≤ 2097152 := by unfold wtArr at hw; omega
  have hd : decide (ds = ds) = true := by simp
  have hb : ∀ b : Bool, (b != b) = false := by simp
  have hA := (new_below w (.cells #[.int .i64 x.id, .int .i64 x.n, .int .i64 x.s, .slice am nm cm, .int .i64 x.lost, .int .i64 x.built, .int .i64 x.seq, .int .i64 x.tail, .int .i64 x.gen, .slice ad nd cd, .int .i64 x.fuse, .bool x.down, .bool x.broken] 29)).alloc (by simp) (.cells #[.int .i64 x.id, .int .i64 x.n, .int .i64 x.s, .slice bm pm em, .int .i64 x.lost, .int .i64 x.built, .int .i64 x.seq, .int .i64 x.tail, .int .i64 x.gen, .slice bd pd ed, .int .i64 x.fuse, .bool x.down, .bool x.broken] 29)
  have A := (Box.new w 29 #[.int .i64 x.id, .int .i64 x.n, .int .i64 x.s, .slice am nm cm, .int .i64 x.lost, .int .i64 x.built, .int .i64 x.seq, .int .i64 x.tail, .int .i64 x.gen, .slice ad nd cd, .int .i64 x.fuse, .bool x.down, .bool x.broken]).alloc (.cells #[.int .i64 x.id, .int .i64 x.n, .int .i64 x.s, .slice bm pm em, .int .i64 x.lost, .int .i64 x.built, .int .i64 x.seq, .int .i64 x.tail, .int .i64 x.gen, .slice bd pd ed, .int .i64 x.fuse, .bool x.down, .bool x.broken] 29)
  have C := Box.new (w.alloc (.cells #[.int .i64 x.id, .int .i64 x.n, .int .i64 x.s, .slice am nm cm, .int .i64 x.lost, .int .i64 x.built, .int .i64 x.seq, .int .i64 x.tail, .int .i64 x.gen, .slice ad nd cd, .int .i64 x.fuse, .bool x.down, .bool x.broken] 29)) 29 #[.int .i64 x.id, .int .i64 x.n, .int .i64 x.s, .slice bm pm em, .int .i64 x.lost, .int .i64 x.built, .int .i64 x.seq, .int .i64 x.tail, .int .i64 x.gen, .slice bd pd ed, .int .i64 x.fuse, .bool x.down, .bool x.broken]
  rw [World.size_alloc] at C
  obtain ⟨k0, k1, k2, k3, k4, k5, k6, k7, k8, k9, k10, k11, k12⟩ := A.cells13
  obtain ⟨j0, j1, j2, j3, j4, j5, j6, j7, j8, j9, j10, j11, j12⟩ := C.cells13
  go_enter Tryz.func94, Tryz.ntmps94
  go_wp2_with fail
  generalize (w.alloc (.cells #[.int .i64 x.id, .int .i64 x.n, .int .i64 x.s, .slice am nm cm, .int .i64 x.lost, .int .i64 x.built, .int .i64 x.seq, .int .i64 x.tail, .int .i64 x.gen, .slice ad nd cd, .int .i64 x.fuse, .bool x.down, .bool x.broken] 29)).alloc (.cells #[.int .i64 x.id, .int .i64 x.n, .int .i64 x.s, .slice bm pm em, .int .i64 x.lost, .int .i64 x.built, .int .i64 x.seq, .int .i64 x.tail, .int .i64 x.gen, .slice bd pd ed, .int .i64 x.fuse, .bool x.down, .bool x.broken] 29) = W at hA A C k0 k1 k2 k3 k4 k5 k6 k7 k8 k9 k10 k11 k12 j0 j1 j2 j3 j4 j5 j6 j7 j8 j9 j10 j11 j12 ⊢
  refine (eqGeo_refl _ _ _).mono ?_
  rintro e w1 ⟨rfl, b⟩
  have A1 := A.below b A.lt
  have C1 := C.below b C.lt
  have B1 := Below.andThen hA b
  clear k0 k1 k2 k3 k4 k5 k6 k7 k8 k9 k10 k11 k12 j0 j1 j2 j3 j4 j5 j6 j7 j8 j9 j10 j11 j12 A C b hA
  obtain ⟨k0, k1, k2, k3, k4, k5, k6, k7, k8, k9, k10, k11, k12⟩ := A1.cells13
  obtain ⟨j0, j1, j2, j3, j4, j5, j6, j7, j8, j9, j10, j11, j12⟩ := C1.cells13
  go_wp2_with fail
  refine (eqMemS_same _ E E' F F' _ _ _ _ _ _ ms (h0.below B1) (g0.below B1) hw0).mono ?_
  rintro e w2 ⟨rfl, b⟩
  have A2 := A1.below b A1.lt
  have C2 := C1.below b C1.lt
  have B2 := Below.andThen B1 b
  clear k0 k1 k2 k3 k4 k5 k6 k7 k8 k9 k10 k11 k12 j0 j1 j2 j3 j4 j5 j6 j7 j8 j9 j10 j11 j12 A1 C1 b B1
  obtain ⟨k0, k1, k2, k3, k4, k5, k6, k7, k8, k9, k10, k11, k12⟩ := A2.cells13
  obtain ⟨j0, j1, j2, j3, j4, j5, j6, j7, j8, j9, j10, j11, j12⟩ := C2.cells13
  go_wp2_with fail
  refine (eqEntS_any _ G G' _ _ _ _ _ _ ds ds (h1.below B2) (g1.below B2) hw1).mono ?_
  rintro e w3 ⟨rfl, b⟩
  have A3 := A2.below b A2.lt
  have C3 := C2.below b C2.lt
  have B3 := Below.andThen B2 b
  clear k0 k1 k2 k3 k4 k5 k6 k7 k8 k9 k10 k11 k12 j0 j1 j2 j3 j4 j5 j6 j7 j8 j9 j10 j11 j12 A2 C2 b B2
  obtain ⟨k0, k1, k2, k3, k4, k5, k6, k7, k8, k9, k10, k11, k12⟩ := A3.cells13
  obtain ⟨j0, j1, j2, j3, j4, j5, j6, j7, j8, j9, j10, j11, j12⟩ := C3.cells13
  have q1 := hb x.down
  have q2 := hb x.broken
  go_wp2
  go_ret
  exact ⟨rfl, B3⟩

end Go.Proofs.YtbkkjfgjlapadaaGreat

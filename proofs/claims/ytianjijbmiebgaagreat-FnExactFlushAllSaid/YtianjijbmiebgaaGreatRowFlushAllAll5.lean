/-
 The walks of the program's copyWords and copyMem and of the specification's l2Copy: the same data in memory of its own. Condition: it weighs at most 2097152.
-/
import Derived.Test.YtianjijbmiebgaaGreatWalkGeo
import Derived.Test.YtianjijbmiebgaaGreatWalkMems
import Derived.Test.YtianjijbmiebgaaGreatWalkEnts
import Derived.Test.YtianjijbmiebgaaGreatData
import Derived.Test.YtianjijbmiebgaaGreatBox
import Derived.Test.YtianjijbmiebgaaGreatRow4
import Derived.Test.YtianjijbmiebgaaGreatKit
import Derived.OrdersHeld
import Derived.RegionTactic
import Derived.Test.YtianjijbmiebgaaGreatWalkInts
import Derived.Test.YtianjijbmiebgaaGreatWalkIn

set_option maxRecDepth 100000
set_option maxHeartbeats 8000000
set_option linter.unusedSimpArgs false

namespace Go.Proofs.YtianjijbmiebgaaGreat
open Go.RowKit

theorem toGeo_any (w : World) (n s : Int) : Calls Tryz.prog 91 #[.agg #[.int .i64 n, .int .i64 s]] w fun e w' => e = .returned (.agg #[.int .i64 n, .int .i64 s]) /\ Below w.heap.size w w' := by
 go_enter Tryz.func91, Tryz.ntmps91
 go_wp2
 refine bodyPost_ret (v := .agg #[.int .i64 n, .int .i64 s]) (by simp [results, Tryz.results91, go_sem]) rfl ?_
 refine ⟨rfl, ?_⟩
 exact ((new_below w _).alloc (by simp) _).alloc (by simp; omega) _

structure ArrN where
 id : Int
 n : Int
 s : Int
 lost : Int
 built : Int
 seq : Int
 tail : Int
 gen : Int
 fuse : Int
 down : Bool
 broken : Bool

def wtArr (ms : List MemD) (ds : List (Int × List Int)) : Nat := wtMemS ms + wtWrS ds
theorem Box.cells13 {w : World} {B : Nat} {T : TypeId} {v0 v1 v2 v3 v4 v5 v6 v7 v8 v9 v10 v11 v12 : Value} (h : Box w B T #[v0, v1, v2, v3, v4, v5, v6, v7, v8, v9, v10, v11, v12]) : w.cell? ⟨B, 0, none⟩ = some v0 /\ w.cell? ⟨B, 1, none⟩ = some v1 /\ w.cell? ⟨B, 2, none⟩ = some v2 /\ w.cell? ⟨B, 3, none⟩ = some v3 /\ w.cell? ⟨B, 4, none⟩ = some v4 /\ w.cell? ⟨B, 5, none⟩ = some v5 /\ w.cell? ⟨B, 6, none⟩ = some v6 /\ w.cell? ⟨B, 7, none⟩ = some v7 /\ w.cell? ⟨B, 8, none⟩ = some v8 /\ w.cell? ⟨B, 9, none⟩ = some v9 /\ w.cell? ⟨B, 10, none⟩ = some v10 /\ w.cell? ⟨B, 11, none⟩ = some v11 /\ w.cell? ⟨B, 12, none⟩ = some v12 := ⟨h.cell 0, h.cell 1, h.cell 2, h.cell 3, h.cell 4, h.cell 5, h.cell 6, h.cell 7, h.cell 8, h.cell 9, h.cell 10, h.cell 11, h.cell 12⟩

def puts (w : World) (B : Nat) : List (Nat × Value) -> World
 | [] => w
 | x :: r => puts (w.setCell ⟨B, x.1, none⟩ x.2) B r
theorem puts_but (B : Nat) : ∀ (l : List (Nat × Value)) (w : World), But B (B + 1) w (puts w B l)
 | [], _ => But.refl _ _ _
 | _ :: r, _ => (But.setCell (Nat.le_refl _) (Nat.lt_succ_self _) _).trans (puts_but B r _)
theorem puts_box {B : Nat} {T : TypeId} : ∀ (l : List (Nat × Value)) {w : World} {cs : Array Value}, Box w B T cs -> Box (puts w B l) B T (l.foldl (fun a x => a.setIfInBounds x.1 x.2) cs)
 | [], _, _, h => h
 | x :: r, _, _, h => puts_box r (h.set x.1 x.2)

theorem szArr_any (w : World) (E F G : TypeId) (x : ArrN) (am ad : Option Addr) (nm cm nd cd : Nat) (ms : List MemD) (ds : List (Int × List Int)) (left : Int) (h0 : (tMemS E F).Rd w [.slice am nm cm] ms) (h1 : (tWrS G).Rd w [.slice ad nd cd] ds) (hl0 : 0 <= left) (hl1 : left <= 1048576) :
 Calls Tryz.prog 35 #[.agg #[.int .i64 x.id, .int .i64 x.n, .int .i64 x.s, .slice am nm cm, .int .i64 x.lost, .int .i64 x.built, .int .i64 x.seq, .int .i64 x.tail, .int .i64 x.gen, .slice ad nd cd, .int .i64 x.fuse, .bool x.down, .bool x.broken], .int .i64 left] w fun e w' => e = .returned (.int .i64 (leftOf left (wtArr ms ds))) /\ Below w.heap.size w w' := by
 have hA := new_below w (.cells #[.int .i64 x.id, .int .i64 x.n, .int .i64 x.s, .slice am nm cm, .int .i64 x.lost, .int .i64 x.built, .int .i64 x.seq, .int .i64 x.tail, .int .i64 x.gen, .slice ad nd cd, .int .i64 x.fuse, .bool x.down, .bool x.broken] 51)
 have X := Box.new w 51 #[.int .i64 x.id, .int .i64 x.n, .int .i64 x.s, .slice am nm cm, .int .i64 x.lost, .int .i64 x.built, .int .i64 x.seq, .int .i64 x.tail, .int .i64 x.gen, .slice ad nd cd, .int .i64 x.fuse, .bool x.down, .bool x.broken]
 obtain ⟨k0, k1, k2, k3, k4, k5, k6, k7, k8, k9, k10, k11, k12⟩ := X.cells13
 have zA := X.lt
 go_enter Tryz.func35, Tryz.ntmps35
 go_wp2_with fail
 generalize w.alloc (.cells #[.int .i64 x.id, .int .i64 x.n, .int .i64 x.s, .slice am nm cm, .int .i64 x.lost, .int .i64 x.built, .int .i64 x.seq, .int .i64 x.tail, .int .i64 x.gen, .slice ad nd cd, .int .i64 x.fuse, .bool x.down, .bool x.broken] 51) = W at hA X zA k0 k1 k2 k3 k4 k5 k6 k7 k8 k9 k10 k11 k12 ⊢
 refine (szMemS_any _ E F _ _ _ ms left (h0.below hA) hl0 hl1).mono ?_
 rintro e w1 ⟨rfl, b1⟩
 have X1 := X.below b1 zA
 have B1 := Below.andThen hA b1
 clear k0 k1 k2 k3 k4 k5 k6 k7 k8 k9 k10 k11 k12 X b1 hA zA
 obtain ⟨k0, k1, k2, k3, k4, k5, k6, k7, k8, k9, k10, k11, k12⟩ := X1.cells13
 have HT : Hid (wtArr ms ds = wtMemS ms + wtWrS ds) := rfl
 by_cases hx : (wtMemS ms : Int) <= left
 . have hq := leftOf_pos hx
   have hq' : ¬ leftOf left (wtMemS ms) < 0 := by rw [hq]; omega
   rw [hq] at hq' ⊢
   clear hq
   generalize hM : wtMemS ms = M at hx HT hq' ⊢
   clear hM
   go_wp2_with fail
   refine (szEntS_any _ G _ _ _ ds (left - M) (h1.below B1) (by omega) (by omega)).mono ?_
   rintro e w2 ⟨rfl, b2⟩
   have B2 := Below.andThen B1 b2
   clear k0 k1 k2 k3 k4 k5 k6 k7 k8 k9 k10 k11 k12 X1 b2 B1
   by_cases hy : (wtWrS ds : Int) <= left - M
   . have hq2 := leftOf_pos hy
     have HF : Hid (leftOf left (wtArr ms ds) = left - M - wtWrS ds) := by unfold Hid; rw [HT.out, leftOf_pos (by omega)]; omega
     go_wp2
     go_ret
     exact ⟨ret_int HF.out.symm, B2⟩
   . have hq2 := leftOf_neg (left := left - (M : Int)) (wt := wtWrS ds) (by omega)
     have HF : Hid (leftOf left (wtArr ms ds) = -1) := by unfold Hid; rw [HT.out, leftOf_neg (by omega)]
     go_wp2
     go_ret
     exact ⟨ret_int HF.out.symm, B2⟩
 . have hq := leftOf_neg (left := left) (wt := wtMemS ms) (by omega)
   have HF : Hid (leftOf left (wtArr ms ds) = -1) := by unfold Hid; rw [HT.out, leftOf_neg (by omega)]
   go_wp2
   go_ret
   exact ⟨ret_int HF.out.symm, B1⟩

theorem toArr_any (w : World) (E F G : TypeId) (x : ArrN) (am ad : Option Addr) (nm cm nd cd : Nat) (ms : List MemD) (ds : List (Int × List Int)) (h0 : (tMemS E F).Rd w [.slice am nm cm] ms) (h1 : (tWrS G).Rd w [.slice ad nd cd] ds) (hw : wtArr ms ds <= 1048576) :
 Calls Tryz.prog 36 #[.agg #[.int .i64 x.id, .int .i64 x.n, .int .i64 x.s, .slice am nm cm, .int .i64 x.lost, .int .i64 x.built, .int .i64 x.seq, .int .i64 x.tail, .int .i64 x.gen, .slice ad nd cd, .int .i64 x.fuse, .bool x.down, .bool x.broken]] w fun e w' => ∃ bm bd, e = .returned (.agg #[.int .i64 x.id, .int .i64 x.n, .int .i64 x.s, .slice (some ⟨bm, 0, none⟩) nm nm, .int .i64 x.lost, .int .i64 x.built, .int .i64 x.seq, .int .i64 x.tail, .int .i64 x.gen, .slice (some ⟨bd, 0, none⟩) nd nd, .int .i64 x.fuse, .bool x.down, .bool x.broken]) /\ (tMemS 159 109).Own w' w.heap.size bd [.slice (some ⟨bm, 0, none⟩) nm nm] ms /\ (tWrS 86).Own w' bd w'.heap.size [.slice (some ⟨bd, 0, none⟩) nd nd] ds /\ w.heap.size <= bd /\ bd <= w'.heap.size /\ Below w.heap.size w w' := by
 have hw0 : wtMemS ms <= 1048576 := by unfold wtArr at hw; omega
 have hw1 : wtWrS ds <= 1048576 := by unfold wtArr at hw; omega
 have hA := ((new_below w (.cells #[.int .i64 x.id, .int .i64 x.n, .int .i64 x.s, .slice am nm cm, .int .i64 x.lost, .int .i64 x.built, .int .i64 x.seq, .int .i64 x.tail, .int .i64 x.gen, .slice ad nd cd, .int .i64 x.fuse, .bool x.down, .bool x.broken] 51)).alloc (by simp) (.cells #[.int .i64 0, .int .i64 0, .int .i64 0, .slice none 0 0, .int .i64 0, .int .i64 0, .int .i64 0, .int .i64 0, .int .i64 0, .slice none 0 0, .int .i64 0, .bool false, .bool false] 29)).alloc (by simp; omega) (.cells #[.int .i64 x.id, .int .i64 0, .int .i64 0, .slice none 0 0, .int .i64 0, .int .i64 0, .int .i64 0, .int .i64 0, .int .i64 0, .slice none 0 0, .int .i64 0, .bool false, .bool false] 29)
 have A := ((Box.new w 51 #[.int .i64 x.id, .int .i64 x.n, .int .i64 x.s, .slice am nm cm, .int .i64 x.lost, .int .i64 x.built, .int .i64 x.seq, .int .i64 x.tail, .int .i64 x.gen, .slice ad nd cd, .int .i64 x.fuse, .bool x.down, .bool x.broken]).alloc (.cells #[.int .i64 0, .int .i64 0, .int .i64 0, .slice none 0 0, .int .i64 0, .int .i64 0, .int .i64 0, .int .i64 0, .int .i64 0, .slice none 0 0, .int .i64 0, .bool false, .bool false] 29)).alloc (.cells #[.int .i64 x.id, .int .i64 0, .int .i64 0, .slice none 0 0, .int .i64 0, .int .i64 0, .int .i64 0, .int .i64 0, .int .i64 0, .slice none 0 0, .int .i64 0, .bool false, .bool false] 29)
 have R := (Box.new (w.alloc (.cells #[.int .i64 x.id, .int .i64 x.n, .int .i64 x.s, .slice am nm cm, .int .i64 x.lost, .int .i64 x.built, .int .i64 x.seq, .int .i64 x.tail, .int .i64 x.gen, .slice ad nd cd, .int .i64 x.fuse, .bool x.down, .bool x.broken] 51)) 29 #[.int .i64 0, .int .i64 0, .int .i64 0, .slice none 0 0, .int .i64 0, .int .i64 0, .int .i64 0, .int .i64 0, .int .i64 0, .slice none 0 0, .int .i64 0, .bool false, .bool false]).alloc (.cells #[.int .i64 x.id, .int .i64 0, .int .i64 0, .slice none 0 0, .int .i64 0, .int .i64 0, .int .i64 0, .int .i64 0, .int .i64 0, .slice none 0 0, .int .i64 0, .bool false, .bool false] 29)
 have O := Box.new ((w.alloc (.cells #[.int .i64 x.id, .int .i64 x.n, .int .i64 x.s, .slice am nm cm, .int .i64 x.lost, .int .i64 x.built, .int .i64 x.seq, .int .i64 x.tail, .int .i64 x.gen, .slice ad nd cd, .int .i64 x.fuse, .bool x.down, .bool x.broken] 51)).alloc (.cells #[.int .i64 0, .int .i64 0, .int .i64 0, .slice none 0 0, .int .i64 0, .int .i64 0, .int .i64 0, .int .i64 0, .int .i64 0, .slice none 0 0, .int .i64 0, .bool false, .bool false] 29)) 29 #[.int .i64 x.id, .int .i64 0, .int .i64 0, .slice none 0 0, .int .i64 0, .int .i64 0, .int .i64 0, .int .i64 0, .int .i64 0, .slice none 0 0, .int .i64 0, .bool false, .bool false]
 rw [World.size_alloc] at R
 rw [World.size_alloc, World.size_alloc] at O
 obtain ⟨k0, k1, k2, k3, k4, k5, k6, k7, k8, k9, k10, k11, k12⟩ := A.cells13
 go_enter Tryz.func36, Tryz.ntmps36
 go_wp2_with fail
 generalize ((w.alloc (.cells #[.int .i64 x.id, .int .i64 x.n, .int .i64 x.s, .slice am nm cm, .int .i64 x.lost, .int .i64 x.built, .int .i64 x.seq, .int .i64 x.tail, .int .i64 x.gen, .slice ad nd cd, .int .i64 x.fuse, .bool x.down, .bool x.broken] 51)).alloc (.cells #[.int .i64 0, .int .i64 0, .int .i64 0, .slice none 0 0, .int .i64 0, .int .i64 0, .int .i64 0, .int .i64 0, .int .i64 0, .slice none 0 0, .int .i64 0, .bool false, .bool false] 29)).alloc (.cells #[.int .i64 x.id, .int .i64 0, .int .i64 0, .slice none 0 0, .int .i64 0, .int .i64 0, .int .i64 0, .int .i64 0, .int .i64 0, .slice none 0 0, .int .i64 0, .bool false, .bool false] 29) = W at hA A R O k0 k1 k2 k3 k4 k5 k6 k7 k8 k9 k10 k11 k12 ⊢
 have B := hA
 clear hA
 refine (toGeo_any _ _ _).mono ?_
 rintro e w0 ⟨rfl, b⟩
 have A' := A.below b A.lt
 have R' := R.below b R.lt
 have O' := O.below b O.lt
 have B' := Below.andThen B b
 have z_ := b.size
 clear k0 k1 k2 k3 k4 k5 k6 k7 k8 k9 k10 k11 k12 A R O B
 have A := A'
 have R := R'
 have O := O'
 have B := B'
 clear A' R' O' B'
 clear b
 have hb := puts_but (w.heap.size + 1 + 1) [(1, .int .i64 x.n), (2, .int .i64 x.s)] w0
 have O' : Box (((w0).setCell ⟨(w.heap.size + 1 + 1), 1, none⟩ (.int .i64 x.n)).setCell ⟨(w.heap.size + 1 + 1), 2, none⟩ (.int .i64 x.s)) (w.heap.size + 1 + 1) 29 #[.int .i64 x.id, .int .i64 x.n, .int .i64 x.s, .slice none 0 0, .int .i64 0, .int .i64 0, .int .i64 0, .int .i64 0, .int .i64 0, .slice none 0 0, .int .i64 0, .bool false, .bool false] := by
  have := puts_box [(1, .int .i64 x.n), (2, .int .i64 x.s)] O
  simpa [puts] using this
 have A' : Box (((w0).setCell ⟨(w.heap.size + 1 + 1), 1, none⟩ (.int .i64 x.n)).setCell ⟨(w.heap.size + 1 + 1), 2, none⟩ (.int .i64 x.s)) w.heap.size 51 #[.int .i64 x.id, .int .i64 x.n, .int .i64 x.s, .slice am nm cm, .int .i64 x.lost, .int .i64 x.built, .int .i64 x.seq, .int .i64 x.tail, .int .i64 x.gen, .slice ad nd cd, .int .i64 x.fuse, .bool x.down, .bool x.broken] := A.kept (hb.block _ A.lt (.inl (by omega)))
 have R' : Box (((w0).setCell ⟨(w.heap.size + 1 + 1), 1, none⟩ (.int .i64 x.n)).setCell ⟨(w.heap.size + 1 + 1), 2, none⟩ (.int .i64 x.s)) (w.heap.size + 1) 29 #[.int .i64 0, .int .i64 0, .int .i64 0, .slice none 0 0, .int .i64 0, .int .i64 0, .int .i64 0, .int .i64 0, .int .i64 0, .slice none 0 0, .int .i64 0, .bool false, .bool false] := R.kept (hb.block _ R.lt (.inl (by omega)))
 have B' : Below w.heap.size w (((w0).setCell ⟨(w.heap.size + 1 + 1), 1, none⟩ (.int .i64 x.n)).setCell ⟨(w.heap.size + 1 + 1), 2, none⟩ (.int .i64 x.s)) := Below.andBut B hb (by omega)
 have z9 : w0.heap.size <= (((w0).setCell ⟨(w.heap.size + 1 + 1), 1, none⟩ (.int .i64 x.n)).setCell ⟨(w.heap.size + 1 + 1), 2, none⟩ (.int .i64 x.s)).heap.size := hb.size
 obtain ⟨o0, o1, o2, o3, o4, o5, o6, o7, o8, o9, o10, o11, o12⟩ := O.cells13
 have fo := O.frozen
 obtain ⟨k0, k1, k2, k3, k4, k5, k6, k7, k8, k9, k10, k11, k12⟩ := A.cells13
 obtain ⟨j0, j1, j2, j3, j4, j5, j6, j7, j8, j9, j10, j11, j12⟩ := A'.cells13
 clear hb A R O B
 go_wp2_with fail
 generalize ((w0).setCell ⟨(w.heap.size + 1 + 1), 1, none⟩ (.int .i64 x.n)).setCell ⟨(w.heap.size + 1 + 1), 2, none⟩ (.int .i64 x.s) = V1 at O' A' R' B' z9 j0 j1 j2 j3 j4 j5 j6 j7 j8 j9 j10 j11 j12 ⊢
 clear k0 k1 k2 k3 k4 k5 k6 k7 k8 k9 k10 k11 k12 o0 o1 o2 o3 o4 o5 o6 o7 o8 o9 o10 o11 o12 fo
 have A := A'
 have R := R'
 have O := O'
 have B := B'
 clear A' R' O' B'
 refine (toMemS_any _ E F _ _ _ ms (h0.below B) hw0).mono ?_
 rintro e w2 ⟨rfl, om, b⟩
 have A' := A.below b A.lt
 have R' := R.below b R.lt
 have O' := O.below b O.lt
 have B' := Below.andThen B b
 have z2 := b.size
 have zO := O.lt
 clear j0 j1 j2 j3 j4 j5 j6 j7 j8 j9 j10 j11 j12 A R O B b
 have A := A'
 have R := R'
 have O := O'
 have B := B'
 clear A' R' O' B'
 have hb := puts_but (w.heap.size + 1 + 1) [(3, .slice (some ⟨V1.heap.size, 0, none⟩) nm nm), (4, .int .i64 x.lost), (5, .int .i64 x.built), (6, .int .i64 x.seq), (7, .int .i64 x.tail), (8, .int .i64 x.gen)] w2
 have O' : Box (((((((w2).setCell ⟨(w.heap.size + 1 + 1), 3, none⟩ (.slice (some ⟨V1.heap.size, 0, none⟩) nm nm)).setCell ⟨(w.heap.size + 1 + 1), 4, none⟩ (.int .i64 x.lost)).setCell ⟨(w.heap.size + 1 + 1), 5, none⟩ (.int .i64 x.built)).setCell ⟨(w.heap.size + 1 + 1), 6, none⟩ (.int .i64 x.seq)).setCell ⟨(w.heap.size + 1 + 1), 7, none⟩ (.int .i64 x.tail)).setCell ⟨(w.heap.size + 1 + 1), 8, none⟩ (.int .i64 x.gen)) (w.heap.size + 1 + 1) 29 #[.int .i64 x.id, .int .i64 x.n, .int .i64 x.s, .slice (some ⟨V1.heap.size, 0, none⟩) nm nm, .int .i64 x.lost, .int .i64 x.built, .int .i64 x.seq, .int .i64 x.tail, .int .i64 x.gen, .slice none 0 0, .int .i64 0, .bool false, .bool false] := by
  have := puts_box [(3, .slice (some ⟨V1.heap.size, 0, none⟩) nm nm), (4, .int .i64 x.lost), (5, .int .i64 x.built), (6, .int .i64 x.seq), (7, .int .i64 x.tail), (8, .int .i64 x.gen)] O
  simpa [puts] using this
 have A' : Box (((((((w2).setCell ⟨(w.heap.size + 1 + 1), 3, none⟩ (.slice (some ⟨V1.heap.size, 0, none⟩) nm nm)).setCell ⟨(w.heap.size + 1 + 1), 4, none⟩ (.int .i64 x.lost)).setCell ⟨(w.heap.size + 1 + 1), 5, none⟩ (.int .i64 x.built)).setCell ⟨(w.heap.size + 1 + 1), 6, none⟩ (.int .i64 x.seq)).setCell ⟨(w.heap.size + 1 + 1), 7, none⟩ (.int .i64 x.tail)).setCell ⟨(w.heap.size + 1 + 1), 8, none⟩ (.int .i64 x.gen)) w.heap.size 51 #[.int .i64 x.id, .int .i64 x.n, .int .i64 x.s, .slice am nm cm, .int .i64 x.lost, .int .i64 x.built, .int .i64 x.seq, .int .i64 x.tail, .int .i64 x.gen, .slice ad nd cd, .int .i64 x.fuse, .bool x.down, .bool x.broken] := A.kept (hb.block _ A.lt (.inl (by omega)))
 have R' : Box (((((((w2).setCell ⟨(w.heap.size + 1 + 1), 3, none⟩ (.slice (some ⟨V1.heap.size, 0, none⟩) nm nm)).setCell ⟨(w.heap.size + 1 + 1), 4, none⟩ (.int .i64 x.lost)).setCell ⟨(w.heap.size + 1 + 1), 5, none⟩ (.int .i64 x.built)).setCell ⟨(w.heap.size + 1 + 1), 6, none⟩ (.int .i64 x.seq)).setCell ⟨(w.heap.size + 1 + 1), 7, none⟩ (.int .i64 x.tail)).setCell ⟨(w.heap.size + 1 + 1), 8, none⟩ (.int .i64 x.gen)) (w.heap.size + 1) 29 #[.int .i64 0, .int .i64 0, .int .i64 0, .slice none 0 0, .int .i64 0, .int .i64 0, .int .i64 0, .int .i64 0, .int .i64 0, .slice none 0 0, .int .i64 0, .bool false, .bool false] := R.kept (hb.block _ R.lt (.inl (by omega)))
 have B' : Below w.heap.size w (((((((w2).setCell ⟨(w.heap.size + 1 + 1), 3, none⟩ (.slice (some ⟨V1.heap.size, 0, none⟩) nm nm)).setCell ⟨(w.heap.size + 1 + 1), 4, none⟩ (.int .i64 x.lost)).setCell ⟨(w.heap.size + 1 + 1), 5, none⟩ (.int .i64 x.built)).setCell ⟨(w.heap.size + 1 + 1), 6, none⟩ (.int .i64 x.seq)).setCell ⟨(w.heap.size + 1 + 1), 7, none⟩ (.int .i64 x.tail)).setCell ⟨(w.heap.size + 1 + 1), 8, none⟩ (.int .i64 x.gen)) := Below.andBut B hb (by omega)
 have om' : (tMemS 159 109).Own (((((((w2).setCell ⟨(w.heap.size + 1 + 1), 3, none⟩ (.slice (some ⟨V1.heap.size, 0, none⟩) nm nm)).setCell ⟨(w.heap.size + 1 + 1), 4, none⟩ (.int .i64 x.lost)).setCell ⟨(w.heap.size + 1 + 1), 5, none⟩ (.int .i64 x.built)).setCell ⟨(w.heap.size + 1 + 1), 6, none⟩ (.int .i64 x.seq)).setCell ⟨(w.heap.size + 1 + 1), 7, none⟩ (.int .i64 x.tail)).setCell ⟨(w.heap.size + 1 + 1), 8, none⟩ (.int .i64 x.gen)) V1.heap.size w2.heap.size [.slice (some ⟨V1.heap.size, 0, none⟩) nm nm] ms := om.but hb (.inr (by omega))
 have z9 : w2.heap.size <= (((((((w2).setCell ⟨(w.heap.size + 1 + 1), 3, none⟩ (.slice (some ⟨V1.heap.size, 0, none⟩) nm nm)).setCell ⟨(w.heap.size + 1 + 1), 4, none⟩ (.int .i64 x.lost)).setCell ⟨(w.heap.size + 1 + 1), 5, none⟩ (.int .i64 x.built)).setCell ⟨(w.heap.size + 1 + 1), 6, none⟩ (.int .i64 x.seq)).setCell ⟨(w.heap.size + 1 + 1), 7, none⟩ (.int .i64 x.tail)).setCell ⟨(w.heap.size + 1 + 1), 8, none⟩ (.int .i64 x.gen)).heap.size := hb.size
 obtain ⟨o0, o1, o2, o3, o4, o5, o6, o7, o8, o9, o10, o11, o12⟩ := O.cells13
 have fo := O.frozen
 obtain ⟨k0, k1, k2, k3, k4, k5, k6, k7, k8, k9, k10, k11, k12⟩ := A.cells13
 obtain ⟨j0, j1, j2, j3, j4, j5, j6, j7, j8, j9, j10, j11, j12⟩ := A'.cells13
 clear hb A R O B om
 go_wp2_with fail
 generalize ((((((w2).setCell ⟨(w.heap.size + 1 + 1), 3, none⟩ (.slice (some ⟨V1.heap.size, 0, none⟩) nm nm)).setCell ⟨(w.heap.size + 1 + 1), 4, none⟩ (.int .i64 x.lost)).setCell ⟨(w.heap.size + 1 + 1), 5, none⟩ (.int .i64 x.built)).setCell ⟨(w.heap.size + 1 + 1), 6, none⟩ (.int .i64 x.seq)).setCell ⟨(w.heap.size + 1 + 1), 7, none⟩ (.int .i64 x.tail)).setCell ⟨(w.heap.size + 1 + 1), 8, none⟩ (.int .i64 x.gen) = V2 at O' A' R' B' om' z9 j0 j1 j2 j3 j4 j5 j6 j7 j8 j9 j10 j11 j12 ⊢
 clear k0 k1 k2 k3 k4 k5 k6 k7 k8 k9 k10 k11 k12 o0 o1 o2 o3 o4 o5 o6 o7 o8 o9 o10 o11 o12 fo
 have A := A'
 have R := R'
 have O := O'
 have B := B'
 have om := om'
 clear A' R' O' B' om'
 have z8 := z9
 clear z9
 refine (toEntS_any _ G _ _ _ ds (h1.below B) hw1).mono ?_
 rintro e w3 ⟨rfl, od, b⟩
 have A' := A.below b A.lt
 have R' := R.below b R.lt
 have O' := O.below b O.lt
 have B' := Below.andThen B b
 have om' := om.below b
 have z3 := b.size
 clear j0 j1 j2 j3 j4 j5 j6 j7 j8 j9 j10 j11 j12 A R O B b om
 have A := A'
 have R := R'
 have O := O'
 have B := B'
 have om := om'
 clear A' R' O' B' om'
 have hb := puts_but (w.heap.size + 1 + 1) [(9, .slice (some ⟨V2.heap.size, 0, none⟩) nd nd), (10, .int .i64 x.fuse), (11, .bool x.down), (12, .bool x.broken)] w3
 have O' : Box (((((w3).setCell ⟨(w.heap.size + 1 + 1), 9, none⟩ (.slice (some ⟨V2.heap.size, 0, none⟩) nd nd)).setCell ⟨(w.heap.size + 1 + 1), 10, none⟩ (.int .i64 x.fuse)).setCell ⟨(w.heap.size + 1 + 1), 11, none⟩ (.bool x.down)).setCell ⟨(w.heap.size + 1 + 1), 12, none⟩ (.bool x.broken)) (w.heap.size + 1 + 1) 29 #[.int .i64 x.id, .int .i64 x.n, .int .i64 x.s, .slice (some ⟨V1.heap.size, 0, none⟩) nm nm, .int .i64 x.lost, .int .i64 x.built, .int .i64 x.seq, .int .i64 x.tail, .int .i64 x.gen, .slice (some ⟨V2.heap.size, 0, none⟩) nd nd, .int .i64 x.fuse, .bool x.down, .bool x.broken] := by
  have := puts_box [(9, .slice (some ⟨V2.heap.size, 0, none⟩) nd nd), (10, .int .i64 x.fuse), (11, .bool x.down), (12, .bool x.broken)] O
  simpa [puts] using this
 have A' : Box (((((w3).setCell ⟨(w.heap.size + 1 + 1), 9, none⟩ (.slice (some ⟨V2.heap.size, 0, none⟩) nd nd)).setCell ⟨(w.heap.size + 1 + 1), 10, none⟩ (.int .i64 x.fuse)).setCell ⟨(w.heap.size + 1 + 1), 11, none⟩ (.bool x.down)).setCell ⟨(w.heap.size + 1 + 1), 12, none⟩ (.bool x.broken)) w.heap.size 51 #[.int .i64 x.id, .int .i64 x.n, .int .i64 x.s, .slice am nm cm, .int .i64 x.lost, .int .i64 x.built, .int .i64 x.seq, .int .i64 x.tail, .int .i64 x.gen, .slice ad nd cd, .int .i64 x.fuse, .bool x.down, .bool x.broken] := A.kept (hb.block _ A.lt (.inl (by omega)))
 have R' : Box (((((w3).setCell ⟨(w.heap.size + 1 + 1), 9, none⟩ (.slice (some ⟨V2.heap.size, 0, none⟩) nd nd)).setCell ⟨(w.heap.size + 1 + 1), 10, none⟩ (.int .i64 x.fuse)).setCell ⟨(w.heap.size + 1 + 1), 11, none⟩ (.bool x.down)).setCell ⟨(w.heap.size + 1 + 1), 12, none⟩ (.bool x.broken)) (w.heap.size + 1) 29 #[.int .i64 0, .int .i64 0, .int .i64 0, .slice none 0 0, .int .i64 0, .int .i64 0, .int .i64 0, .int .i64 0, .int .i64 0, .slice none 0 0, .int .i64 0, .bool false, .bool false] := R.kept (hb.block _ R.lt (.inl (by omega)))
 have B' : Below w.heap.size w (((((w3).setCell ⟨(w.heap.size + 1 + 1), 9, none⟩ (.slice (some ⟨V2.heap.size, 0, none⟩) nd nd)).setCell ⟨(w.heap.size + 1 + 1), 10, none⟩ (.int .i64 x.fuse)).setCell ⟨(w.heap.size + 1 + 1), 11, none⟩ (.bool x.down)).setCell ⟨(w.heap.size + 1 + 1), 12, none⟩ (.bool x.broken)) := Below.andBut B hb (by omega)
 have om' : (tMemS 159 109).Own (((((w3).setCell ⟨(w.heap.size + 1 + 1), 9, none⟩ (.slice (some ⟨V2.heap.size, 0, none⟩) nd nd)).setCell ⟨(w.heap.size + 1 + 1), 10, none⟩ (.int .i64 x.fuse)).setCell ⟨(w.heap.size + 1 + 1), 11, none⟩ (.bool x.down)).setCell ⟨(w.heap.size + 1 + 1), 12, none⟩ (.bool x.broken)) V1.heap.size w2.heap.size [.slice (some ⟨V1.heap.size, 0, none⟩) nm nm] ms := om.but hb (.inr (by omega))
 have od' : (tWrS 86).Own (((((w3).setCell ⟨(w.heap.size + 1 + 1), 9, none⟩ (.slice (some ⟨V2.heap.size, 0, none⟩) nd nd)).setCell ⟨(w.heap.size + 1 + 1), 10, none⟩ (.int .i64 x.fuse)).setCell ⟨(w.heap.size + 1 + 1), 11, none⟩ (.bool x.down)).setCell ⟨(w.heap.size + 1 + 1), 12, none⟩ (.bool x.broken)) V2.heap.size w3.heap.size [.slice (some ⟨V2.heap.size, 0, none⟩) nd nd] ds := od.but hb (.inr (by omega))
 have z9 : w3.heap.size <= (((((w3).setCell ⟨(w.heap.size + 1 + 1), 9, none⟩ (.slice (some ⟨V2.heap.size, 0, none⟩) nd nd)).setCell ⟨(w.heap.size + 1 + 1), 10, none⟩ (.int .i64 x.fuse)).setCell ⟨(w.heap.size + 1 + 1), 11, none⟩ (.bool x.down)).setCell ⟨(w.heap.size + 1 + 1), 12, none⟩ (.bool x.broken)).heap.size := hb.size
 obtain ⟨o0, o1, o2, o3, o4, o5, o6, o7, o8, o9, o10, o11, o12⟩ := O.cells13
 have fo := O.frozen
 obtain ⟨k0, k1, k2, k3, k4, k5, k6, k7, k8, k9, k10, k11, k12⟩ := A.cells13
 obtain ⟨j0, j1, j2, j3, j4, j5, j6, j7, j8, j9, j10, j11, j12⟩ := A'.cells13
 obtain ⟨y0, y1, y2, y3, y4, y5, y6, y7, y8, y9, y10, y11, y12⟩ := O'.cells13
 obtain ⟨r0, r1, r2, r3, r4, r5, r6, r7, r8, r9, r10, r11, r12⟩ := R'.cells13
 have fr := R'.frozen
 have hb4 := puts_but (w.heap.size + 1) [(0, .int .i64 x.id), (1, .int .i64 x.n), (2, .int .i64 x.s), (3, .slice (some ⟨V1.heap.size, 0, none⟩) nm nm), (4, .int .i64 x.lost), (5, .int .i64 x.built), (6, .int .i64 x.seq), (7, .int .i64 x.tail), (8, .int .i64 x.gen), (9, .slice (some ⟨V2.heap.size, 0, none⟩) nd nd), (10, .int .i64 x.fuse), (11, .bool x.down), (12, .bool x.broken)] (((((w3).setCell ⟨(w.heap.size + 1 + 1), 9, none⟩ (.slice (some ⟨V2.heap.size, 0, none⟩) nd nd)).setCell ⟨(w.heap.size + 1 + 1), 10, none⟩ (.int .i64 x.fuse)).setCell ⟨(w.heap.size + 1 + 1), 11, none⟩ (.bool x.down)).setCell ⟨(w.heap.size + 1 + 1), 12, none⟩ (.bool x.broken))
 have FM : Hid ((tMemS 159 109).Own (((((((((((((((((((w3).setCell ⟨(w.heap.size + 1 + 1), 9, none⟩ (.slice (some ⟨V2.heap.size, 0, none⟩) nd nd)).setCell ⟨(w.heap.size + 1 + 1), 10, none⟩ (.int .i64 x.fuse)).setCell ⟨(w.heap.size + 1 + 1), 11, none⟩ (.bool x.down)).setCell ⟨(w.heap.size + 1 + 1), 12, none⟩ (.bool x.broken))).setCell ⟨(w.heap.size + 1), 0, none⟩ (.int .i64 x.id)).setCell ⟨(w.heap.size + 1), 1, none⟩ (.int .i64 x.n)).setCell ⟨(w.heap.size + 1), 2, none⟩ (.int .i64 x.s)).setCell ⟨(w.heap.size + 1), 3, none⟩ (.slice (some ⟨V1.heap.size, 0, none⟩) nm nm)).setCell ⟨(w.heap.size + 1), 4, none⟩ (.int .i64 x.lost)).setCell ⟨(w.heap.size + 1), 5, none⟩ (.int .i64 x.built)).setCell ⟨(w.heap.size + 1), 6, none⟩ (.int .i64 x.seq)).setCell ⟨(w.heap.size + 1), 7, none⟩ (.int .i64 x.tail)).setCell ⟨(w.heap.size + 1), 8, none⟩ (.int .i64 x.gen)).setCell ⟨(w.heap.size + 1), 9, none⟩ (.slice (some ⟨V2.heap.size, 0, none⟩) nd nd)).setCell ⟨(w.heap.size + 1), 10, none⟩ (.int .i64 x.fuse)).setCell ⟨(w.heap.size + 1), 11, none⟩ (.bool x.down)).setCell ⟨(w.heap.size + 1), 12, none⟩ (.bool x.broken)) V1.heap.size w2.heap.size [.slice (some ⟨V1.heap.size, 0, none⟩) nm nm] ms) := (om'.but hb4 (.inr (by omega)))
 have FD : Hid ((tWrS 86).Own (((((((((((((((((((w3).setCell ⟨(w.heap.size + 1 + 1), 9, none⟩ (.slice (some ⟨V2.heap.size, 0, none⟩) nd nd)).setCell ⟨(w.heap.size + 1 + 1), 10, none⟩ (.int .i64 x.fuse)).setCell ⟨(w.heap.size + 1 + 1), 11, none⟩ (.bool x.down)).setCell ⟨(w.heap.size + 1 + 1), 12, none⟩ (.bool x.broken))).setCell ⟨(w.heap.size + 1), 0, none⟩ (.int .i64 x.id)).setCell ⟨(w.heap.size + 1), 1, none⟩ (.int .i64 x.n)).setCell ⟨(w.heap.size + 1), 2, none⟩ (.int .i64 x.s)).setCell ⟨(w.heap.size + 1), 3, none⟩ (.slice (some ⟨V1.heap.size, 0, none⟩) nm nm)).setCell ⟨(w.heap.size + 1), 4, none⟩ (.int .i64 x.lost)).setCell ⟨(w.heap.size + 1), 5, none⟩ (.int .i64 x.built)).setCell ⟨(w.heap.size + 1), 6, none⟩ (.int .i64 x.seq)).setCell ⟨(w.heap.size + 1), 7, none⟩ (.int .i64 x.tail)).setCell ⟨(w.heap.size + 1), 8, none⟩ (.int .i64 x.gen)).setCell ⟨(w.heap.size + 1), 9, none⟩ (.slice (some ⟨V2.heap.size, 0, none⟩) nd nd)).setCell ⟨(w.heap.size + 1), 10, none⟩ (.int .i64 x.fuse)).setCell ⟨(w.heap.size + 1), 11, none⟩ (.bool x.down)).setCell ⟨(w.heap.size + 1), 12, none⟩ (.bool x.broken)) V2.heap.size w3.heap.size [.slice (some ⟨V2.heap.size, 0, none⟩) nd nd] ds) := (od'.but hb4 (.inr (by omega)))
 have FB : Hid (Below w.heap.size w (((((((((((((((((((w3).setCell ⟨(w.heap.size + 1 + 1), 9, none⟩ (.slice (some ⟨V2.heap.size, 0, none⟩) nd nd)).setCell ⟨(w.heap.size + 1 + 1), 10, none⟩ (.int .i64 x.fuse)).setCell ⟨(w.heap.size + 1 + 1), 11, none⟩ (.bool x.down)).setCell ⟨(w.heap.size + 1 + 1), 12, none⟩ (.bool x.broken))).setCell ⟨(w.heap.size + 1), 0, none⟩ (.int .i64 x.id)).setCell ⟨(w.heap.size + 1), 1, none⟩ (.int .i64 x.n)).setCell ⟨(w.heap.size + 1), 2, none⟩ (.int .i64 x.s)).setCell ⟨(w.heap.size + 1), 3, none⟩ (.slice (some ⟨V1.heap.size, 0, none⟩) nm nm)).setCell ⟨(w.heap.size + 1), 4, none⟩ (.int .i64 x.lost)).setCell ⟨(w.heap.size + 1), 5, none⟩ (.int .i64 x.built)).setCell ⟨(w.heap.size + 1), 6, none⟩ (.int .i64 x.seq)).setCell ⟨(w.heap.size + 1), 7, none⟩ (.int .i64 x.tail)).setCell ⟨(w.heap.size + 1), 8, none⟩ (.int .i64 x.gen)).setCell ⟨(w.heap.size + 1), 9, none⟩ (.slice (some ⟨V2.heap.size, 0, none⟩) nd nd)).setCell ⟨(w.heap.size + 1), 10, none⟩ (.int .i64 x.fuse)).setCell ⟨(w.heap.size + 1), 11, none⟩ (.bool x.down)).setCell ⟨(w.heap.size + 1), 12, none⟩ (.bool x.broken))) := Below.andBut B' hb4 (by omega)
 have FZ : Hid ((((((w3).setCell ⟨(w.heap.size + 1 + 1), 9, none⟩ (.slice (some ⟨V2.heap.size, 0, none⟩) nd nd)).setCell ⟨(w.heap.size + 1 + 1), 10, none⟩ (.int .i64 x.fuse)).setCell ⟨(w.heap.size + 1 + 1), 11, none⟩ (.bool x.down)).setCell ⟨(w.heap.size + 1 + 1), 12, none⟩ (.bool x.broken)).heap.size <= (((((((((((((((((((w3).setCell ⟨(w.heap.size + 1 + 1), 9, none⟩ (.slice (some ⟨V2.heap.size, 0, none⟩) nd nd)).setCell ⟨(w.heap.size + 1 + 1), 10, none⟩ (.int .i64 x.fuse)).setCell ⟨(w.heap.size + 1 + 1), 11, none⟩ (.bool x.down)).setCell ⟨(w.heap.size + 1 + 1), 12, none⟩ (.bool x.broken))).setCell ⟨(w.heap.size + 1), 0, none⟩ (.int .i64 x.id)).setCell ⟨(w.heap.size + 1), 1, none⟩ (.int .i64 x.n)).setCell ⟨(w.heap.size + 1), 2, none⟩ (.int .i64 x.s)).setCell ⟨(w.heap.size + 1), 3, none⟩ (.slice (some ⟨V1.heap.size, 0, none⟩) nm nm)).setCell ⟨(w.heap.size + 1), 4, none⟩ (.int .i64 x.lost)).setCell ⟨(w.heap.size + 1), 5, none⟩ (.int .i64 x.built)).setCell ⟨(w.heap.size + 1), 6, none⟩ (.int .i64 x.seq)).setCell ⟨(w.heap.size + 1), 7, none⟩ (.int .i64 x.tail)).setCell ⟨(w.heap.size + 1), 8, none⟩ (.int .i64 x.gen)).setCell ⟨(w.heap.size + 1), 9, none⟩ (.slice (some ⟨V2.heap.size, 0, none⟩) nd nd)).setCell ⟨(w.heap.size + 1), 10, none⟩ (.int .i64 x.fuse)).setCell ⟨(w.heap.size + 1), 11, none⟩ (.bool x.down)).setCell ⟨(w.heap.size + 1), 12, none⟩ (.bool x.broken)).heap.size) := hb4.size
 have z10 := z9
 clear hb hb4 A R O B om od A' R' O' B' om' od'
 go_wp2
 refine bodyPost_ret (v := .agg #[.int .i64 x.id, .int .i64 x.n, .int .i64 x.s, .slice (some ⟨V1.heap.size, 0, none⟩) nm nm, .int .i64 x.lost, .int .i64 x.built, .int .i64 x.seq, .int .i64 x.tail, .int .i64 x.gen, .slice (some ⟨V2.heap.size, 0, none⟩) nd nd, .int .i64 x.fuse, .bool x.down, .bool x.broken]) (by simp [results, Tryz.results36, go_sem, r0, r1, r2, r3, r4, r5, r6, r7, r8, r9, r10, r11, r12]) rfl ?_
 have fz := FZ.out
 exact ⟨_, V2.heap.size, rfl, FM.out.widen (by omega) (by omega), FD.out.widen (Nat.le_refl _) (by omega), by omega, by omega, FB.out⟩

theorem eqGeo_refl (w : World) (n s : Int) : Calls Tryz.prog 94 #[.agg #[.int .i64 n, .int .i64 s], .agg #[.int .i64 n, .int .i64 s]] w fun e w' => e = .returned (.bool true) /\ Below w.heap.size w w' := by
 go_enter Tryz.func94, Tryz.ntmps94
 go_wp2
 go_ret
 exact ⟨rfl, (new_below w _).alloc (by simp) _⟩

theorem eqArr_same (w : World) (E E' F F' G G' : TypeId) (x : ArrN) (am ad bm bd : Option Addr) (nm cm nd cd pm em pd ed : Nat) (ms : List MemD) (ds : List (Int × List Int)) (h0 : (tMemS E F).Rd w [.slice am nm cm] ms) (h1 : (tWrS G).Rd w [.slice ad nd cd] ds) (g0 : (tMemS E' F').Rd w [.slice bm pm em] ms) (g1 : (tWrS G').Rd w [.slice bd pd ed] ds) (hw : wtArr ms ds <= 2097152) :
 Calls Tryz.prog 38 #[.agg #[.int .i64 x.id, .int .i64 x.n, .int .i64 x.s, .slice am nm cm, .int .i64 x.lost, .int .i64 x.built, .int .i64 x.seq, .int .i64 x.tail, .int .i64 x.gen, .slice ad nd cd, .int .i64 x.fuse, .bool x.down, .bool x.broken], .agg #[.int .i64 x.id, .int .i64 x.n, .int .i64 x.s, .slice bm pm em, .int .i64 x.lost, .int .i64 x.built, .int .i64 x.seq, .int .i64 x.tail, .int .i64 x.gen, .slice bd pd ed, .int .i64 x.fuse, .bool x.down, .bool x.broken]] w fun e w' => e = .returned (.bool true) /\ Below w.heap.size w w' := by
 have hw0 : wtMemS ms <= 2097152 := by unfold wtArr at hw; omega
 have hw1 : wtWrS ds <= 2097152 := by unfold wtArr at hw; omega
 have hd : decide (ds = ds) = true := by simp
 have hb : ∀ b : Bool, (b != b) = false := by simp
 have hA := (new_below w (.cells #[.int .i64 x.id, .int .i64 x.n, .int .i64 x.s, .slice am nm cm, .int .i64 x.lost, .int .i64 x.built, .int .i64 x.seq, .int .i64 x.tail, .int .i64 x.gen, .slice ad nd cd, .int .i64 x.fuse, .bool x.down, .bool x.broken] 29)).alloc (by simp) (.cells #[.int .i64 x.id, .int .i64 x.n, .int .i64 x.s, .slice bm pm em, .int .i64 x.lost, .int .i64 x.built, .int .i64 x.seq, .int .i64 x.tail, .int .i64 x.gen, .slice bd pd ed, .int .i64 x.fuse, .bool x.down, .bool x.broken] 29)
 have A := (Box.new w 29 #[.int .i64 x.id, .int .i64 x.n, .int .i64 x.s, .slice am nm cm, .int .i64 x.lost, .int .i64 x.built, .int .i64 x.seq, .int .i64 x.tail, .int .i64 x.gen, .slice ad nd cd, .int .i64 x.fuse, .bool x.down, .bool x.broken]).alloc (.cells #[.int .i64 x.id, .int .i64 x.n, .int .i64 x.s, .slice bm pm em, .int .i64 x.lost, .int .i64 x.built, .int .i64 x.seq, .int .i64 x.tail, .int .i64 x.gen, .slice bd pd ed, .int .i64 x.fuse, .bool x.down, .bool x.broken] 29)
 have C := Box.new (w.alloc (.cells #[.int .i64 x.id, .int .i64 x.n, .int .i64 x.s, .slice am nm cm, .int .i64 x.lost, .int .i64 x.built, .int .i64 x.seq, .int .i64 x.tail, .int .i64 x.gen, .slice ad nd cd, .int .i64 x.fuse, .bool x.down, .bool x.broken] 29)) 29 #[.int .i64 x.id, .int .i64 x.n, .int .i64 x.s, .slice bm pm em, .int .i64 x.lost, .int .i64 x.built, .int .i64 x.seq, .int .i64 x.tail, .int .i64 x.gen, .slice bd pd ed, .int .i64 x.fuse, .bool x.down, .bool x.broken]
 rw [World.size_alloc] at C
 obtain ⟨k0, k1, k2, k3, k4, k5, k6, k7, k8, k9, k10, k11, k12⟩ := A.cells13
 obtain ⟨j0, j1, j2, j3, j4, j5, j6, j7, j8, j9, j10, j11, j12⟩ := C.cells13
 go_enter Tryz.func38, Tryz.ntmps38
 go_wp2_with fail
 generalize (w.alloc (.cells #[.int .i64 x.id, .int .i64 x.n, .int .i64 x.s, .slice am nm cm, .int .i64 x.lost, .int .i64 x.built, .int .i64 x.seq, .int .i64 x.tail, .int .i64 x.gen, .slice ad nd cd, .int .i64 x.fuse, .bool x.down, .bool x.broken] 29)).alloc (.cells #[.int .i64 x.id, .int .i64 x.n, .int .i64 x.s, .slice bm pm em, .int .i64 x.lost, .int .i64 x.built, .int .i64 x.seq, .int .i64 x.tail, .int .i64 x.gen, .slice bd pd ed, .int .i64 x.fuse, .bool x.down, .bool x.broken] 29) = W at hA A C k0 k1 k2 k3 k4 k5 k6 k7 k8 k9 k10 k11 k12 j0 j1 j2 j3 j4 j5 j6 j7 j8 j9 j10 j11 j12 ⊢
 refine (eqGeo_refl _ _ _).mono ?_
 rintro e w1 ⟨rfl, b⟩
 have A1 := A.below b A.lt
 have C1 := C.below b C.lt
 have B1 := Below.andThen hA b
 clear k0 k1 k2 k3 k4 k5 k6 k7 k8 k9 k10 k11 k12 j0 j1 j2 j3 j4 j5 j6 j7 j8 j9 j10 j11 j12 A C b hA
 obtain ⟨k0, k1, k2, k3, k4, k5, k6, k7, k8, k9, k10, k11, k12⟩ := A1.cells13
 obtain ⟨j0, j1, j2, j3, j4, j5, j6, j7, j8, j9, j10, j11, j12⟩ := C1.cells13
 go_wp2_with fail
 refine (eqMemS_same _ E E' F F' _ _ _ _ _ _ ms (h0.below B1) (g0.below B1) hw0).mono ?_
 rintro e w2 ⟨rfl, b⟩
 have A2 := A1.below b A1.lt
 have C2 := C1.below b C1.lt
 have B2 := Below.andThen B1 b
 clear k0 k1 k2 k3 k4 k5 k6 k7 k8 k9 k10 k11 k12 j0 j1 j2 j3 j4 j5 j6 j7 j8 j9 j10 j11 j12 A1 C1 b B1
 obtain ⟨k0, k1, k2, k3, k4, k5, k6, k7, k8, k9, k10, k11, k12⟩ := A2.cells13
 obtain ⟨j0, j1, j2, j3, j4, j5, j6, j7, j8, j9, j10, j11, j12⟩ := C2.cells13
 go_wp2_with fail
 refine (eqEntS_any _ G G' _ _ _ _ _ _ ds ds (h1.below B2) (g1.below B2) hw1).mono ?_
 rintro e w3 ⟨rfl, b⟩
 have A3 := A2.below b A2.lt
 have C3 := C2.below b C2.lt
 have B3 := Below.andThen B2 b
 clear k0 k1 k2 k3 k4 k5 k6 k7 k8 k9 k10 k11 k12 j0 j1 j2 j3 j4 j5 j6 j7 j8 j9 j10 j11 j12 A2 C2 b B2
 obtain ⟨k0, k1, k2, k3, k4, k5, k6, k7, k8, k9, k10, k11, k12⟩ := A3.cells13
 obtain ⟨j0, j1, j2, j3, j4, j5, j6, j7, j8, j9, j10, j11, j12⟩ := C3.cells13
 have q1 := hb x.down
 have q2 := hb x.broken
 go_wp2
 go_ret
 exact ⟨rfl, B3⟩

structure Fr (N B : Nat) (w w' : World) : Prop where
 os : w'.os = w.os
 tape : w'.tape = w.tape
 output : w'.output = w.output
 size : w.heap.size <= w'.heap.size
 block : ∀ k, k < N -> k ≠ B -> w'.heap[k]? = w.heap[k]?
theorem Fr.refl (N B : Nat) (w : World) : Fr N B w w := ⟨rfl, rfl, rfl, Nat.le_refl _, fun _ _ _ => rfl⟩
theorem Fr.trans {N B : Nat} {a b c : World} (h : Fr N B a b) (k : Fr N B b c) : Fr N B a c :=
 ⟨k.os.trans h.os, k.tape.trans h.tape, k.output.trans h.output, Nat.le_trans h.size k.size, fun i hi ho => (k.block i hi ho).trans (h.block i hi ho)⟩
theorem Fr.box {N B C : Nat} {w w' : World} {T : TypeId} {cs : Array Value} (h : Fr N B w w') (x : Box w C T cs) (hC : C < N) (hne : C ≠ B) : Box w' C T cs := x.kept (h.block C hC hne)
theorem Fr.below {N B M : Nat} {w w' : World} (h : Fr N B w w') (h1 : M <= N) (h2 : M <= B) : Below M w w' := ⟨h.os, h.tape, h.output, h.size, fun k hk => h.block k (by omega) (by omega)⟩
theorem Fr.own {t : Ty} {N B lo hi : Nat} {w w' : World} {vs : List Value} {d : t.D} (h : Fr N B w w') (o : t.Own w lo hi vs d) (h1 : hi <= N) (h2 : hi <= B ∨ B < lo) : t.Own w' lo hi vs d := by
 obtain ⟨fp, k1, k2, k3⟩ := o
 exact ⟨fp, t.owKept k1 (fun b hb => h.block b (by have := k3 b hb; omega) (by have := k3 b hb; omega)) h.size, k2, k3⟩
theorem Fr.ofBelow {N B : Nat} {w w' : World} (h : Below w.heap.size w w') (hN : N <= w.heap.size) : Fr N B w w' := ⟨h.os, h.tape, h.output, h.size, fun k hk _ => h.block k (by omega)⟩
theorem Fr.ofTurned {N B : Nat} {w w' : World} {fp : List Nat} (h : Turned fp w w') (hN : N <= w.heap.size) (hf : ∀ b ∈ fp, N <= b) : Fr N B w w' :=
 ⟨h.os, h.tape, h.output, h.size, fun k hk _ => h.block k (by omega) (fun hm => by have := hf k hm; omega)⟩
theorem Fr.ofSet {N B : Nat} (w : World) (j : Nat) (v : Value) : Fr N B w (w.setCell ⟨B, j, none⟩ v) := ⟨rfl, rfl, rfl, by simp [World.setCell], fun k _ hk => Below.heap_setCell _ _ _ _ (by simpa using hk)⟩
theorem Fr.mine {t : Ty} {N B : Nat} {w w' : World} {vs : List Value} {d : t.D} {fp : List Nat} (h : Fr N B w w') (o : t.Mine w vs d fp) (h1 : ∀ b ∈ fp, b < N /\ b ≠ B) : t.Mine w' vs d fp := ⟨t.owKept o.1 (fun b hb => h.block b (h1 b hb).1 (h1 b hb).2) h.size, o.2⟩
theorem Ty.Mine.but {t : Ty} {w w' : World} {lo hi : Nat} {vs : List Value} {d : t.D} {fp : List Nat} (h : t.Mine w vs d fp) (hb : But lo hi w w') (hd : ∀ b ∈ fp, b < lo ∨ hi <= b) : t.Mine w' vs d fp := ⟨t.owKept h.1 (fun b hm => hb.block b (h.lt b hm) (by have := hd b hm; omega)) hb.size, h.2⟩
theorem Fr.round {N B : Nat} {w wr wc wA : World} {fp : List Nat} (h : Fr N B w wr) (hN : N <= wr.heap.size) (hc : Below wr.heap.size wr wc) (o : Obj) (ht : Turned fp (wc.alloc o) wA) (hf : ∀ b ∈ fp, N <= b) (j : Nat) (v : Value) : Fr N B w (wA.setCell ⟨B, j, none⟩ v) := by
 have h1 := hc.size
 have h2 : (wc.alloc o).heap.size = wc.heap.size + 1 := by simp
 exact ((h.trans (Fr.ofBelow (Below.andThen hc ((Below.refl _ _).alloc (Nat.le_refl _) o)) hN)).trans (Fr.ofTurned ht (by omega) hf)).trans (Fr.ofSet _ _ _)
theorem round_fp {N : Nat} {wr wc wA : World} {fp fpx fpA : List Nat} {o : Obj} (hN : N <= wr.heap.size) (hc : Below wr.heap.size wr wc) (hf : ∀ b ∈ fp, N <= b) (hx : ∀ b ∈ fpx, wr.heap.size <= b /\ b < wc.heap.size) (h2 : ∀ b ∈ fpA, b ∈ fp ∨ b ∈ fpx ∨ (b = (wc.alloc o).heap.size /\ b < wA.heap.size)) : ∀ b ∈ fpA, N <= b := by
 have h1 := hc.size
 intro b hb
 rcases h2 b hb with h | h | h
 . exact hf b h
 . have := hx b h
   omega
 . have := h.1
   simp at this
   omega

theorem wr_mine {w : World} {v : Value} {zs : List Int} {fp : List Nat} (x : Int) (h : tIntS.Mine w [v] zs fp) : tWr.Mine w [.int .i64 x, v] (x, zs) fp := by
 have h1 : intTy.Mine w [.int .i64 x] x [] := ⟨⟨rfl, rfl⟩, by simp⟩
 exact pair_mine_of (t := intTy) (u := tIntS) (vs := [_]) (us := [_]) h1 h (by simp)

theorem Turned.undrew {fp : List Nat} {w w' : World} (h : Turned fp w.drew w') : Turned fp w w' := ⟨h.os, h.tape, h.output, h.size, h.block⟩

theorem mem_own3 {w : World} {E : TypeId} {lo hi l0 u0 l1 u1 l3 u3 : Nat} {v0 v1 v3 : Value} {f : Bool} {ss : List (List Int)} {cs : List (Int × List Int)} {bs : List Int} (h0 : tIntSS.Own w l0 u0 [v0] ss) (h1 : (tWrS E).Own w l1 u1 [v1] cs) (h3 : tIntS.Own w l3 u3 [v3] bs)
 (d01 : u0 <= l1 ∨ u1 <= l0) (d03 : u0 <= l3 ∨ u3 <= l0) (d13 : u1 <= l3 ∨ u3 <= l1) (r0 : lo <= l0 /\ u0 <= hi) (r1 : lo <= l1 /\ u1 <= hi) (r3 : lo <= l3 /\ u3 <= hi) : (tMem E).Own w lo hi [v0, v1, .bool f, v3] (ss, cs, f, bs) := by
 obtain ⟨f0, m0, k0⟩ := h0.mine
 obtain ⟨f1, m1, k1⟩ := h1.mine
 obtain ⟨f3, m3, k3⟩ := h3.mine
 have mb : boolTy.Mine w [.bool f] f [] := ⟨⟨rfl, rfl⟩, by simp⟩
 have p1 := pair_mine_of (t := boolTy) (u := tIntS) (vs := [_]) (us := [_]) mb m3 (by simp)
 have p2 := pair_mine_of (t := tWrS E) (u := pairTy boolTy tIntS) (vs := [_]) (us := [_, _]) m1 p1 (fun b hb hb' => by
  have e1 := k1 b hb
  have e2 := k3 b (by simpa using hb')
  omega)
 have p3 := pair_mine_of (t := tIntSS) (u := pairTy (tWrS E) (pairTy boolTy tIntS)) (vs := [_]) (us := [_, _, _]) m0 p2 (fun b hb hb' => by
  have e0 := k0 b hb
  simp at hb'
  rcases hb' with h | h
  . have e1 := k1 b h
    omega
  . have e3 := k3 b h
    omega)
 refine Ty.Mine.own (t := tMem E) p3 (fun b hb => ?_)
 simp at hb
 rcases hb with h | h | h
 . have := k0 b h
   omega
 . have := k1 b h
   omega
 . have := k3 b h
   omega

theorem with_key {G : Nat -> Nat -> World -> Option Addr -> Nat -> Prop} {A : Nat -> Nat -> World -> Option Addr -> Nat -> List Nat -> Prop} {C : Prop} (main : ∀ BO g w6 a5 c5 fp3, A BO g w6 a5 c5 fp3 -> G BO g w6 a5 c5) (use : Hid (∀ BO g w6 a5 c5 fp3, A BO g w6 a5 c5 fp3 -> G BO g w6 a5 c5) -> C) : C := use main

theorem mine_ints {w : World} {lo : Nat} {v : Value} {zs : List Int} (h : Owns .i64 3 w lo v zs) : ∃ fp, tIntS.Mine w [v] zs fp /\ ∀ b ∈ fp, v.ownBlock = some b /\ b < w.heap.size := by
 rcases h.2 with ⟨hv, hn⟩ | ⟨g, cap, cur, hv, hb, hg, hnc, hcm, hcs, ht⟩
 . exact ⟨[], ⟨.inl ⟨by rw [hv], List.eq_nil_of_length_eq_zero hn, rfl⟩, by simp⟩, by simp⟩
 . have hgl : g < w.heap.size := (Array.getElem?_eq_some_iff.1 hg).1
   refine ⟨[g], ⟨.inr ⟨g, cap, cur, zs.map fun _ => [], by rw [hv], hnc, hcm, hg, hcs, by simp, by simp, fun i x hx => ?_⟩, by simp⟩, by intro b hb; simp at hb; subst hb; exact ⟨by rw [hv]; rfl, hgl⟩⟩
   have hi : i < zs.length := (List.getElem?_eq_some_iff.1 hx).1
   refine ⟨[], by rw [List.getElem?_map, hx]; rfl, ?_, rfl⟩
   have e : cur.toList[i]? = some (.int .i64 x) := by
    have : (cur.toList.take (zs.length * 1))[i]? = (zs.map (Value.int .i64))[i]? := by rw [ht]
    rw [List.getElem?_take, if_pos (by omega), List.getElem?_map, hx] at this
    exact this
   have hic : i < cur.toList.length := (List.getElem?_eq_some_iff.1 e).1
   show (cur.toList.drop (i * 1)).take 1 = _
   rw [Nat.mul_one, List.drop_eq_getElem_cons hic, List.take_succ_cons, List.take_zero]
   rw [List.getElem?_eq_getElem hic] at e
   simp at e
   rw [Array.getElem_toList, e]

theorem step_copy {P : Program} {w : World} {ops : Array Oper} {o : Oper} {a : Act} {K : Act -> World -> Prop} {Q : Exit -> Act -> World -> Prop} {G : Prop} (hgd : o.guard = none) (s x : Operand) (t : TypeId)
 (ho : o.op = .call { callee := .builtin .append, args := #[s, x], argTypes := #[t, t] })
 (i : TypeInfo) (ht : P.underlying t = some (.slice 3)) (hi : P.info? 3 = some i) (hz : i.zero = some (.int .i64 0)) (hsize : i.size = 1) (hby : i.bytes = 8)
 (g : Nat) (hs : a.eval s = .slice (some ⟨g, 0, none⟩) 0 0) (hg : w.heap[g]? = some (.cells #[] 3 (0, 0)))
 (src : Option Addr) (n cap : Nat) (zs : List Int) (hx : a.eval x = .slice src n cap) (hr : tIntS.Rd w [.slice src n cap] zs) (hn : n <= 2097152)
 (h : ∀ a' c' w' fp, tIntS.Mine w' [.slice a' n c'] zs fp -> (∀ b ∈ fp, (b = g ∨ b = w.heap.size) /\ b < w'.heap.size) -> Turned [g] w w' -> K (a.put o.dst (.slice a' n c')) w') :
 if Region.wanted o (yielded ops a.tmps) = true then Oper.wp P o a w K Q else G := by
 have hw : Region.wanted o (yielded ops a.tmps) = true := by simp [Region.wanted, hgd]
 rw [if_pos hw]
 have hgl : g < w.heap.size := (Array.getElem?_eq_some_iff.1 hg).1
 have hown : w.ownsRow 0 3 1 (.slice (some ⟨g, 0, none⟩) 0 0) 0 [] := ⟨rfl, .inr ⟨g, 0, #[], rfl, Nat.zero_le _, hg, Nat.le_refl _, Nat.zero_le _, rfl, rfl⟩⟩
 obtain ⟨hrd, hl, _, _⟩ := ints_rd hr
 match src, hx, hr, hrd with
 | none, hx, hr, _ =>
  obtain ⟨rfl, rfl, rfl⟩ := row_nil hr
  have hrun := run_append_owned_none (P := P) (w := w) 0 t o.type 3 i 1 ht hi _ 0 [] hown
  unfold Oper.wp
  simp [execOp, ho, resolve, invoke, builtin, hs, hx, hrun, Result.andThen]
  exact h _ _ w [g] ⟨.inr ⟨g, 0, #[], [], rfl, Nat.le_refl _, by omega, hg, rfl, rfl, rfl, fun i x hx => by simp at hx⟩, by simp⟩ (by simp; exact hgl) (Turned.refl _ _)
 | some ad, hx, _, hrd =>
  obtain ⟨v', w', hrun, k1, k2, _, k4⟩ := run_append_own_at (P := P) w 0 t o.type 3 i (.int .i64 0) 1 8 ht hi hz hsize hby rfl (by decide) _ 0 [] hown ad n cap (zs.map (Value.int .i64)) (by simp [hl]) hrd.cells (ints_plain zs) (by unfold maxLen; omega) (by omega) (Nat.zero_le _)
  have ko : Owns .i64 3 w' 0 v' zs := by
   unfold Owns
   rw [hl]
   simpa using k1
  obtain ⟨fp, m1, m2⟩ := mine_ints ko
  obtain ⟨a', c', hv⟩ := row_shape m1.rd
  rw [hl] at hv
  subst hv
  unfold Oper.wp
  simp [execOp, ho, resolve, invoke, builtin, hs, hx, hrun, Result.andThen]
  refine h _ _ w' fp m1 (fun b hb => ⟨?_, (m2 b hb).2⟩) ⟨k2.os, k2.tape, k2.output, k2.size, fun k hk hf => k2.block k hk (by simp [Value.ownBlock]; exact fun e => hf (by simp [e]))⟩
  have h1 := (m2 b hb).1
  rw [h1] at k4
  rcases k4 with k4 | k4
  . left
    simpa [Value.ownBlock] using k4
  . right
    simpa using k4

theorem row_set1 {t : Ty} {E : TypeId} {w : World} {g n cap j : Nat} {d : List t.D} {v : Value} {x : t.D} {fp f : List Nat} (ht : t.n = 1) (h : (rowTy t E).Mine w [.slice (some ⟨g, 0, none⟩) n cap] d fp)
 (hj : j < n) (hx : t.Mine w [v] x f) (hdis : ∀ b ∈ f, b ∉ fp) :
 (∃ old, w.cell? ⟨g, j, none⟩ = some old) /\ w.frozen? ⟨g, j, none⟩ = false /\ g ∈ fp /\ ∃ fp', (rowTy t E).Mine (w.setCell ⟨g, j, none⟩ v) [.slice (some ⟨g, 0, none⟩) n cap] (d.set j x) fp' /\ ∀ b ∈ fp', b ∈ fp ∨ b ∈ f := by
 obtain ⟨h, hn⟩ := h
 obtain ⟨hx, hn'⟩ := hx
 rcases h with ⟨h1, _⟩ | ⟨b, cap', cur, fps, h1, h2, h3, h4, h5, h6, h7, h8⟩
 . simp at h1
 . simp only [List.cons.injEq, Value.slice.injEq, Option.some.injEq, Addr.mk.injEq, and_true] at h1
   obtain ⟨rfl, rfl, rfl⟩ := h1
   have hgp : g ∈ fp := by rw [h6]; exact List.mem_cons_self
   have hjc : j < cur.size := by rw [h5, ht]; omega
   have hgf' : g ∉ f := fun hm => hdis g hm hgp
   rw [h6, List.nodup_cons] at hn
   obtain ⟨hgf, hnf⟩ := hn
   have hd2 : ∀ b ∈ f, b ∉ fps.flatten := fun b hb hbl => hdis b hb (by rw [h6]; exact List.mem_cons_of_mem _ hbl)
   obtain ⟨hsn, hsm⟩ := flatten_set_nodup fps j f hnf hn' hd2
   have hoth : ∀ b, b ≠ g -> (w.setCell ⟨g, j, none⟩ v).heap[b]? = w.heap[b]? := fun b hb => Below.heap_setCell _ _ _ _ hb
   have hsz : w.heap.size <= (w.setCell ⟨g, j, none⟩ v).heap.size := by simp
   refine ⟨⟨cur[j], ?_⟩, frozen_of_row w g j cur E h4, hgp, g :: (fps.set j f).flatten, ⟨.inr ⟨g, cap, cur.setIfInBounds j v, fps.set j f, by rw [List.length_set], by rw [List.length_set]; exact h2, h3, heap_setCell_same w g j cur E v h4, by simpa using h5, rfl, by rw [List.length_set, List.length_set]; exact h7, fun i y hy => ?_⟩, ?_⟩, ?_⟩
   . rw [cell_of_row w g j cur E (0, 0) h4, Array.getElem?_eq_getElem hjc]
   . by_cases hij : i = j
     . subst hij
       have hyx : y = x := by
        rw [List.getElem?_set_self (by omega)] at hy
        simpa using hy.symm
       subst hyx
       refine ⟨f, List.getElem?_set_self (by rw [h7]; omega), ?_⟩
       have e : ((cur.setIfInBounds i v).toList.drop (i * t.n)).take t.n = [v] := by
        rw [ht, Nat.mul_one, Array.toList_setIfInBounds, List.drop_set, if_neg (by omega), Nat.sub_self, List.drop_eq_getElem_cons (by simpa using hjc), List.set_cons_zero]
        simp
       rw [e]
       exact t.owKept hx (fun b hb => hoth b (fun e => hgf' (e ▸ hb))) hsz
     . rw [List.getElem?_set_ne (fun e => hij e.symm)] at hy
       obtain ⟨f2, hf, ho⟩ := h8 i y hy
       refine ⟨f2, by rw [List.getElem?_set_ne (fun e => hij e.symm)]; exact hf, ?_⟩
       have e : ((cur.setIfInBounds j v).toList.drop (i * t.n)).take t.n = (cur.toList.drop (i * t.n)).take t.n := by
        rw [ht, Nat.mul_one, Array.toList_setIfInBounds]
        apply List.ext_getElem?
        intro k
        rw [List.getElem?_take, List.getElem?_take, List.getElem?_drop, List.getElem?_drop]
        by_cases hk : k < 1
        . rw [if_pos hk, if_pos hk, List.getElem?_set_ne (by omega)]
        . rw [if_neg hk, if_neg hk]
       rw [e]
       exact t.owKept ho (fun b hb => hoth b (fun e' => hgf (by rw [← e']; exact List.mem_flatten.2 ⟨f2, List.mem_of_getElem? hf, hb⟩))) hsz
   . rw [List.nodup_cons]
     refine ⟨fun hm => ?_, hsn⟩
     rcases hsm g hm with hm | hm
     . exact hgf' hm
     . exact hgf hm
   . intro b hb
     rcases List.mem_cons.1 hb with rfl | hb
     . exact .inl hgp
     . rcases hsm b hb with hb | hb
       . exact .inr hb
       . exact .inl (by rw [h6]; exact List.mem_cons_of_mem _ hb)

theorem flatten_apart : ∀ (fs : List (List Nat)) (i j : Nat) (f f' : List Nat), fs.flatten.Nodup -> fs[i]? = some f -> fs[j]? = some f' -> i < j -> ∀ b ∈ f, b ∉ f'
 | [], i, _, _, _, _, h, _, _ => by simp at h
 | g :: fs, 0, j + 1, f, f', hn, hi, hj, _ => by
  simp at hi
  subst hi
  rw [List.flatten_cons, List.nodup_append] at hn
  intro b hb hb'
  refine hn.2.2 b hb b (List.mem_flatten.2 ⟨f', List.mem_of_getElem? (i := j) (by simpa using hj), hb'⟩) rfl
 | g :: fs, i + 1, j + 1, f, f', hn, hi, hj, hij => by
  rw [List.flatten_cons, List.nodup_append] at hn
  exact flatten_apart fs i j f f' hn.2.1 (by simpa using hi) (by simpa using hj) (by omega)
 | g :: fs, i, 0, f, f', _, _, _, hij => by omega

theorem row_parts {t : Ty} {E : TypeId} {w : World} {g n cap : Nat} {d : List t.D} {fp : List Nat} (h : (rowTy t E).Mine w [.slice (some ⟨g, 0, none⟩) n cap] d fp) :
 g ∈ fp /\ ∃ F : Nat -> List Nat, (∀ i x, d[i]? = some x -> ∃ cs, t.Mine w cs x (F i) /\ g ∉ F i /\ (∀ b ∈ F i, b ∈ fp) /\ ∀ k, k < t.n -> w.cell? ⟨g, i * t.n + k, none⟩ = cs[k]?) /\ ∀ i j, i < j -> j < d.length -> ∀ b ∈ F i, b ∉ F j := by
 obtain ⟨h, hn⟩ := h
 rcases h with ⟨h1, _⟩ | ⟨b, cap', cur, fps, h1, h2, h3, h4, h5, h6, h7, h8⟩
 . simp at h1
 . simp only [List.cons.injEq, Value.slice.injEq, Option.some.injEq, Addr.mk.injEq, and_true] at h1
   obtain ⟨rfl, rfl, rfl⟩ := h1
   rw [h6, List.nodup_cons] at hn
   obtain ⟨hgf, hnf⟩ := hn
   refine ⟨by rw [h6]; exact List.mem_cons_self, fun i => fps.getD i [], fun i x hx => ?_, fun i j hij hj b hb hb' => ?_⟩
   . obtain ⟨f, hf, ho⟩ := h8 i x hx
     obtain ⟨k1, k2, _⟩ := flatten_part hnf hf
     have hgd : fps.getD i [] = f := by rw [List.getD_eq_getElem?_getD, hf]; rfl
     simp only [hgd]
     refine ⟨_, ⟨ho, k1⟩, fun hm => hgf (k2 g hm), fun b hb => by rw [h6]; exact List.mem_cons_of_mem _ (k2 b hb), fun k hk => ?_⟩
     rw [cell_of_row w g _ cur E (0, 0) h4, List.getElem?_take, if_pos hk, List.getElem?_drop]
     simp
   . have e1 : fps[i]? = some (fps.getD i []) := by rw [List.getD_eq_getElem?_getD, List.getElem?_eq_getElem (by omega)]; rfl
     have e2 : fps[j]? = some (fps.getD j []) := by rw [List.getD_eq_getElem?_getD, List.getElem?_eq_getElem (by omega)]; rfl
     exact flatten_apart fps i j _ _ hnf e1 e2 hij b hb hb'

def put4 (w : World) (g q : Nat) (v0 v1 v2 v3 : Value) : World := (((w.setCell ⟨g, q, none⟩ v0).setCell ⟨g, q + 1, none⟩ v1).setCell ⟨g, q + 2, none⟩ v2).setCell ⟨g, q + 3, none⟩ v3
theorem put4_other {w : World} {g q b : Nat} {v0 v1 v2 v3 : Value} (hb : b ≠ g) : (put4 w g q v0 v1 v2 v3).heap[b]? = w.heap[b]? := by
 unfold put4
 rw [Below.heap_setCell _ _ _ _ hb, Below.heap_setCell _ _ _ _ hb, Below.heap_setCell _ _ _ _ hb, Below.heap_setCell _ _ _ _ hb]
theorem put4_size (w : World) (g q : Nat) (v0 v1 v2 v3 : Value) : (put4 w g q v0 v1 v2 v3).heap.size = w.heap.size := by unfold put4; simp
theorem put4_turned (w : World) (g q : Nat) (v0 v1 v2 v3 : Value) : Turned [g] w (put4 w g q v0 v1 v2 v3) :=
 ⟨rfl, rfl, rfl, by rw [put4_size]; exact Nat.le_refl _, fun k _ hk => put4_other (by simpa using hk)⟩

theorem row_set4 {t : Ty} {E : TypeId} {w : World} {g n cap j : Nat} {d : List t.D} {v0 v1 v2 v3 : Value} {x : t.D} {fp f : List Nat} (ht : t.n = 4) (h : (rowTy t E).Mine w [.slice (some ⟨g, 0, none⟩) n cap] d fp)
 (hj : j < n) (hx : t.Mine w [v0, v1, v2, v3] x f) (hdis : ∀ b ∈ f, b ∉ fp) :
 (∀ q, q < 4 -> ∃ old, w.cell? ⟨g, j * 4 + q, none⟩ = some old) /\ (∀ q, w.frozen? ⟨g, q, none⟩ = false) /\ g ∈ fp /\ ∃ fp', (rowTy t E).Mine (put4 w g (j * 4) v0 v1 v2 v3) [.slice (some ⟨g, 0, none⟩) n cap] (d.set j x) fp' /\ ∀ b ∈ fp', b ∈ fp ∨ b ∈ f := by
 obtain ⟨h, hn⟩ := h
 obtain ⟨hx, hn'⟩ := hx
 rcases h with ⟨h1, _⟩ | ⟨b, cap', cur, fps, h1, h2, h3, h4, h5, h6, h7, h8⟩
 . simp at h1
 . simp only [List.cons.injEq, Value.slice.injEq, Option.some.injEq, Addr.mk.injEq, and_true] at h1
   obtain ⟨rfl, rfl, rfl⟩ := h1
   have hgp : g ∈ fp := by rw [h6]; exact List.mem_cons_self
   rw [ht] at h5
   have hjc : j * 4 + 3 < cur.size := by rw [h5]; omega
   have hgf' : g ∉ f := fun hm => hdis g hm hgp
   rw [h6, List.nodup_cons] at hn
   obtain ⟨hgf, hnf⟩ := hn
   have hd2 : ∀ b ∈ f, b ∉ fps.flatten := fun b hb hbl => hdis b hb (by rw [h6]; exact List.mem_cons_of_mem _ hbl)
   obtain ⟨hsn, hsm⟩ := flatten_set_nodup fps j f hnf hn' hd2
   have hoth : ∀ b, b ≠ g -> (put4 w g (j * 4) v0 v1 v2 v3).heap[b]? = w.heap[b]? := fun b hb => put4_other hb
   have hsz : w.heap.size <= (put4 w g (j * 4) v0 v1 v2 v3).heap.size := by rw [put4_size]; exact Nat.le_refl _
   have hcell : ∀ k, ((((cur.setIfInBounds (j * 4) v0).setIfInBounds (j * 4 + 1) v1).setIfInBounds (j * 4 + 2) v2).setIfInBounds (j * 4 + 3) v3).toList[k]? = if j * 4 <= k /\ k < j * 4 + 4 then [v0, v1, v2, v3][k - j * 4]? else cur.toList[k]? := fun k => by
    rw [Array.toList_setIfInBounds, Array.toList_setIfInBounds, Array.toList_setIfInBounds, Array.toList_setIfInBounds]
    by_cases h0 : k = j * 4
    . subst h0
      rw [if_pos (by omega), List.getElem?_set_ne (by omega), List.getElem?_set_ne (by omega), List.getElem?_set_ne (by omega), List.getElem?_set_self (by simp; omega), Nat.sub_self]
      rfl
    . by_cases h1 : k = j * 4 + 1
      . subst h1
        rw [if_pos (by omega), List.getElem?_set_ne (by omega), List.getElem?_set_ne (by omega), List.getElem?_set_self (by simp; omega), Nat.add_sub_cancel_left]
        rfl
      . by_cases h2 : k = j * 4 + 2
        . subst h2
          rw [if_pos (by omega), List.getElem?_set_ne (by omega), List.getElem?_set_self (by simp; omega), Nat.add_sub_cancel_left]
          rfl
        . by_cases h3 : k = j * 4 + 3
          . subst h3
            rw [if_pos (by omega), List.getElem?_set_self (by simp; omega), Nat.add_sub_cancel_left]
            rfl
          . rw [if_neg (by omega), List.getElem?_set_ne (by omega), List.getElem?_set_ne (by omega), List.getElem?_set_ne (by omega), List.getElem?_set_ne (by omega)]
   refine ⟨fun q hq => ⟨cur[j * 4 + q]'(by omega), ?_⟩, fun q => frozen_of_row w g q cur E h4, hgp, g :: (fps.set j f).flatten, ⟨.inr ⟨g, cap, (((cur.setIfInBounds (j * 4) v0).setIfInBounds (j * 4 + 1) v1).setIfInBounds (j * 4 + 2) v2).setIfInBounds (j * 4 + 3) v3, fps.set j f, by rw [List.length_set], by rw [List.length_set]; exact h2, h3, heap_setCell_same _ g _ _ E v3 (heap_setCell_same _ g _ _ E v2 (heap_setCell_same _ g _ _ E v1 (heap_setCell_same w g _ cur E v0 h4))), by rw [ht]; simpa using h5, rfl, by rw [List.length_set, List.length_set]; exact h7, fun i y hy => ?_⟩, ?_⟩, ?_⟩
   . rw [cell_of_row w g _ cur E (0, 0) h4, Array.getElem?_eq_getElem]
   . by_cases hij : i = j
     . subst hij
       have hyx : y = x := by
        rw [List.getElem?_set_self (by omega)] at hy
        simpa using hy.symm
       subst hyx
       refine ⟨f, List.getElem?_set_self (by rw [h7]; omega), ?_⟩
       have e : (((((cur.setIfInBounds (i * 4) v0).setIfInBounds (i * 4 + 1) v1).setIfInBounds (i * 4 + 2) v2).setIfInBounds (i * 4 + 3) v3).toList.drop (i * t.n)).take t.n = [v0, v1, v2, v3] := by
        rw [ht]
        apply List.ext_getElem?
        intro k
        rw [List.getElem?_take, List.getElem?_drop, hcell]
        by_cases hk : k < 4
        . rw [if_pos hk, if_pos (by omega), Nat.add_sub_cancel_left]
        . rw [if_neg hk, List.getElem?_eq_none (by simp; omega)]
       rw [e]
       exact t.owKept hx (fun b hb => hoth b (fun e => hgf' (e ▸ hb))) hsz
     . rw [List.getElem?_set_ne (fun e => hij e.symm)] at hy
       obtain ⟨f2, hf, ho⟩ := h8 i y hy
       refine ⟨f2, by rw [List.getElem?_set_ne (fun e => hij e.symm)]; exact hf, ?_⟩
       have e : (((((cur.setIfInBounds (j * 4) v0).setIfInBounds (j * 4 + 1) v1).setIfInBounds (j * 4 + 2) v2).setIfInBounds (j * 4 + 3) v3).toList.drop (i * t.n)).take t.n = (cur.toList.drop (i * t.n)).take t.n := by
        rw [ht]
        apply List.ext_getElem?
        intro k
        rw [List.getElem?_take, List.getElem?_take, List.getElem?_drop, List.getElem?_drop]
        by_cases hk : k < 4
        . rw [if_pos hk, if_pos hk, hcell, if_neg (by omega)]
        . rw [if_neg hk, if_neg hk]
       rw [e]
       exact t.owKept ho (fun b hb => hoth b (fun e' => hgf (by rw [← e']; exact List.mem_flatten.2 ⟨f2, List.mem_of_getElem? hf, hb⟩))) hsz
   . rw [List.nodup_cons]
     refine ⟨fun hm => ?_, hsn⟩
     rcases hsm g hm with hm | hm
     . exact hgf' hm
     . exact hgf hm
   . intro b hb
     rcases List.mem_cons.1 hb with rfl | hb
     . exact .inl hgp
     . rcases hsm b hb with hb | hb
       . exact .inr hb
       . exact .inl (by rw [h6]; exact List.mem_cons_of_mem _ hb)

def arrC (x : ArrN) (vm vd : Value) : Array Value := #[.int .i64 x.id, .int .i64 x.n, .int .i64 x.s, vm, .int .i64 x.lost, .int .i64 x.built, .int .i64 x.seq, .int .i64 x.tail, .int .i64 x.gen, vd, .int .i64 x.fuse, .bool x.down, .bool x.broken]
def ArrAt (w : World) (B : Nat) (x : ArrN) (ms : List MemD) (ds : List (Int × List Int)) (fm fd : List Nat) : Prop :=
 ∃ (bm bd : Option Addr) (cm cd : Nat), Box w B 29 (arrC x (.slice bm ms.length cm) (.slice bd ds.length cd)) /\ (tMemS 159 109).Mine w [.slice bm ms.length cm] ms fm /\ (tWrS 86).Mine w [.slice bd ds.length cd] ds fd /\ (∀ b ∈ fm, b ∉ fd) /\ B ∉ fm /\ B ∉ fd
def Moved (B : Nat) (fm : List Nat) (w : World) (fm' : List Nat) (w' : World) : Prop := Turned (B :: fm) w w' /\ ∀ b ∈ fm', b ∈ fm ∨ w.heap.size <= b

theorem Moved.refl (B : Nat) (fm : List Nat) (w : World) : Moved B fm w fm w := ⟨Turned.refl _ _, fun _ h => .inl h⟩
theorem Moved.trans {B : Nat} {f1 f2 f3 : List Nat} {w1 w2 w3 : World} (h : Moved B f1 w1 f2 w2) (k : Moved B f2 w2 f3 w3) : Moved B f1 w1 f3 w3 := by
 have hs := h.1.size
 refine ⟨⟨k.1.os.trans h.1.os, k.1.tape.trans h.1.tape, k.1.output.trans h.1.output, Nat.le_trans h.1.size k.1.size, fun b hb hn => ?_⟩, fun b hb => ?_⟩
 . rw [k.1.block b (by omega) (fun hm => ?_), h.1.block b hb hn]
   rcases List.mem_cons.1 hm with e | hm
   . exact hn (by rw [e]; exact List.mem_cons_self)
   . rcases h.2 b hm with h1 | h1
     . exact hn (List.mem_cons_of_mem _ h1)
     . omega
 . rcases k.2 b hb with h1 | h1
   . exact h.2 b h1
   . exact .inr (by omega)
theorem Moved.below {B : Nat} {f1 f2 : List Nat} {w1 w2 w3 : World} (h : Moved B f1 w1 f2 w2) (k : Below w2.heap.size w2 w3) : Moved B f1 w1 f2 w3 :=
 h.trans ⟨⟨k.os, k.tape, k.output, k.size, fun b hb _ => k.block b hb⟩, fun _ hb => .inl hb⟩
theorem Moved.drew {B : Nat} {f1 f2 : List Nat} {w1 w2 : World} (h : Moved B f1 w1 f2 w2) : Moved B f1 w1 f2 w2.drew := h.below ((Below.refl _ _).drew)
theorem Moved.size {B : Nat} {f1 f2 : List Nat} {w1 w2 : World} (h : Moved B f1 w1 f2 w2) : w1.heap.size <= w2.heap.size := h.1.size
theorem Moved.box {B C : Nat} {f1 f2 : List Nat} {w1 w2 : World} {T : TypeId} {cs : Array Value} (h : Moved B f1 w1 f2 w2) (x : Box w1 C T cs) (hne : C ≠ B) (hf : C ∉ f1) : Box w2 C T cs := x.kept (h.1.block C x.lt (by simp [hne, hf]))
theorem Moved.mine {t : Ty} {B : Nat} {f1 f2 fp : List Nat} {w1 w2 : World} {vs : List Value} {d : t.D} (h : Moved B f1 w1 f2 w2) (o : t.Mine w1 vs d fp) (hB : B ∉ fp) (hd : ∀ b ∈ fp, b ∉ f1) : t.Mine w2 vs d fp :=
 o.kept h.1 (fun b hb hm => by
  rcases List.mem_cons.1 hm with e | hm
  . exact hB (e ▸ hb)
  . exact hd b hb hm)
theorem Moved.set {B j : Nat} {fm : List Nat} {w : World} (v : Value) : Moved B fm w fm (w.setCell ⟨B, j, none⟩ v) := ⟨Turned.setCell v List.mem_cons_self, fun _ h => .inl h⟩

theorem ArrAt.lt {w : World} {B : Nat} {x : ArrN} {ms : List MemD} {ds : List (Int × List Int)} {fm fd : List Nat} (h : ArrAt w B x ms ds fm fd) : B < w.heap.size := by
 obtain ⟨_, _, _, _, hx, _⟩ := h
 exact hx.lt
theorem ArrAt.ltm {w : World} {B : Nat} {x : ArrN} {ms : List MemD} {ds : List (Int × List Int)} {fm fd : List Nat} (h : ArrAt w B x ms ds fm fd) : (∀ b ∈ fm, b < w.heap.size) /\ ∀ b ∈ fd, b < w.heap.size := by
 obtain ⟨_, _, _, _, _, hm, hd, _⟩ := h
 exact ⟨hm.lt, hd.lt⟩
theorem ArrAt.below {w w' : World} {B : Nat} {x : ArrN} {ms : List MemD} {ds : List (Int × List Int)} {fm fd : List Nat} (h : ArrAt w B x ms ds fm fd) (hb : Below w.heap.size w w') : ArrAt w' B x ms ds fm fd := by
 obtain ⟨bm, bd, cm, cd, hx, hm, hd, r⟩ := h
 exact ⟨bm, bd, cm, cd, hx.below hb hx.lt, hm.below hb, hd.below hb, r⟩
theorem ArrAt.drew {w : World} {B : Nat} {x : ArrN} {ms : List MemD} {ds : List (Int × List Int)} {fm fd : List Nat} (h : ArrAt w B x ms ds fm fd) : ArrAt w.drew B x ms ds fm fd := h.below ((Below.refl _ _).drew)
theorem ArrAt.alloc {w : World} {B : Nat} {x : ArrN} {ms : List MemD} {ds : List (Int × List Int)} {fm fd : List Nat} (h : ArrAt w B x ms ds fm fd) (o : Obj) : ArrAt (w.alloc o) B x ms ds fm fd := h.below (new_below w o)
theorem ArrAt.kept {w w' : World} {B : Nat} {fq : List Nat} {x : ArrN} {ms : List MemD} {ds : List (Int × List Int)} {fm fd : List Nat} (h : ArrAt w B x ms ds fm fd) (ht : Turned fq w w') (h0 : B ∉ fq) (h1 : ∀ b ∈ fm, b ∉ fq) (h2 : ∀ b ∈ fd, b ∉ fq) : ArrAt w' B x ms ds fm fd := by
 obtain ⟨bm, bd, cm, cd, hx, hm, hd, r⟩ := h
 exact ⟨bm, bd, cm, cd, hx.kept (ht.block B hx.lt h0), hm.kept ht h1, hd.kept ht h2, r⟩

theorem row_head {t : Ty} {E : TypeId} {w : World} {a : Option Addr} {n cap : Nat} {d : List t.D} {fp : List Nat} (h : (rowTy t E).Mine w [.slice a n cap] d fp) (hn : 0 < n) : ∃ g, a = some ⟨g, 0, none⟩ := by
 obtain ⟨h, _⟩ := h
 rcases h with ⟨h1, _⟩ | ⟨b, cap', cur, fps, h1, _⟩
 . simp at h1
   omega
 . simp at h1
   exact ⟨b, h1.1⟩
theorem disk_at {w : World} {E F : TypeId} {g n cap j : Nat} {ms : List MemD} {d : MemD} {fp : List Nat} (h : (tMemS E F).Mine w [.slice (some ⟨g, 0, none⟩) n cap] ms fp) (hj : ms[j]? = some d) :
 g < w.heap.size /\ ∃ (a0 a1 a3 : Option Addr) (c0 c1 c3 : Nat) (ss : List (List Int)) (cs : List (Int × List Int)) (f : Bool) (bs : List Int), d = (ss, cs, f, bs) /\ w.cell? ⟨g, j * 4, none⟩ = some (.slice a0 ss.length c0) /\ w.cell? ⟨g, j * 4 + 1, none⟩ = some (.slice a1 cs.length c1) /\ w.cell? ⟨g, j * 4 + 2, none⟩ = some (.bool f) /\ w.cell? ⟨g, j * 4 + 3, none⟩ = some (.slice a3 bs.length c3) /\
  tIntSS.Rd w [.slice a0 ss.length c0] ss /\ (tWrS E).Rd w [.slice a1 cs.length c1] cs /\ tIntS.Rd w [.slice a3 bs.length c3] bs := by
 have hjl := (List.getElem?_eq_some_iff.1 hj).1
 have hl := (row_length h.rd).1
 rcases quads_at rfl h.rd with h0 | ⟨b, off, hbo, hbl, hcs⟩
 . omega
 . simp at hbo
   obtain ⟨rfl, rfl⟩ := hbo
   obtain ⟨v0, v1, v2, v3, hv0, hv1, hv2, hv3, hrv⟩ := hcs j d hj
   obtain ⟨a0, c0, a1, c1, a3, c3, ss, cs, f, bs, rfl, rfl, rfl, rfl, rfl, r0, r1, r3⟩ := mem_at hrv
   rw [Nat.zero_add] at hv0 hv1 hv2 hv3
   exact ⟨hbl, a0, a1, a3, c0, c1, c3, ss, cs, f, bs, rfl, hv0, hv1, hv2, hv3, r0, r1, r3⟩
theorem arr_store {w1 w3 : World} {B g cm cd m : Nat} {bd : Option Addr} {x : ArrN} {ms : List MemD} {ds : List (Int × List Int)} {fm fd fpx : List Nat} {d : MemD} {u0 u1 u2 u3 : Value} (X : Box w1 B 29 (arrC x (.slice (some ⟨g, 0, none⟩) ms.length cm) (.slice bd ds.length cd))) (hm : (tMemS 159 109).Mine w1 [.slice (some ⟨g, 0, none⟩) ms.length cm] ms fm) (hd : (tWrS 86).Mine w1 [.slice bd ds.length cd] ds fd) (hr : ∀ b ∈ fm, b ∉ fd) (r1 : B ∉ fm) (r2 : B ∉ fd)
 (hb : Below w1.heap.size w1 w3) (hj : m < ms.length) (hx : (tMem 159).Mine w3 [u0, u1, u2, u3] d fpx) (hx2 : ∀ b ∈ fpx, w1.heap.size <= b) :
 (∀ q, q < 4 -> ∃ old, w3.cell? ⟨g, m * 4 + q, none⟩ = some old) /\ (∀ q, w3.frozen? ⟨g, q, none⟩ = false) /\ g ∈ fm /\ ∃ fm', ArrAt (put4 w3 g (m * 4) u0 u1 u2 u3) B x (ms.set m d) ds fm' fd /\ Moved B fm w1 fm' (put4 w3 g (m * 4) u0 u1 u2 u3) := by
 have hlm := hm.lt
 have hld := hd.lt
 have hlB := X.lt
 obtain ⟨c, z, hg, fm', mA, rA⟩ := row_set4 (j := m) rfl (hm.below hb) hj hx (fun b hb' hm' => by have h1 := hx2 b hb'; have h2 := hlm b hm'; omega)
 have ht := put4_turned w3 g (m * 4) u0 u1 u2 u3
 have hgB : B ≠ g := fun e => r1 (e ▸ hg)
 have hgd : ∀ b ∈ fd, b ∉ [g] := fun b hb' hm' => by simp at hm'; exact hr g hg (hm' ▸ hb')
 refine ⟨c, z, hg, fm', ⟨some ⟨g, 0, none⟩, bd, cm, cd, ?_, ?_, (hd.below hb).kept ht hgd, ?_, ?_, r2⟩, ⟨⟨hb.os, hb.tape, hb.output, by rw [put4_size]; exact hb.size, fun b hb' hn => ?_⟩, fun b hb' => ?_⟩⟩
 . rw [List.length_set]
   exact (X.below hb hlB).kept (ht.block B (Nat.lt_of_lt_of_le hlB hb.size) (by simpa using hgB))
 . rw [List.length_set]
   exact mA
 . intro b hb' hm'
   rcases rA b hb' with h | h
   . exact hr b h hm'
   . have h1 := hx2 b h
     have h2 := hld b hm'
     omega
 . intro hm'
   rcases rA B hm' with h | h
   . exact r1 h
   . have := hx2 B h
     omega
 . rw [put4_other (fun e => hn (by rw [e]; exact List.mem_cons_of_mem _ hg)), hb.block b hb']
 . rcases rA b hb' with h | h
   . exact .inl h
   . exact .inr (hx2 b h)

def at8 (ds : List (Int × List Int)) (s : Int) : Int :=
 match ds.findIdx? (fun e => decide (e.1 = s)) with
 | some i => (i : Int)
 | none => -1
theorem at8_hit {ds : List (Int × List Int)} {s : Int} {j : Nat} {e : Int × List Int} (hj : ds[j]? = some e) (he : e.1 = s) (hb : ∀ i e', i < j -> ds[i]? = some e' -> ¬ e'.1 = s) : at8 ds s = (j : Int) := by
 have hl := (List.getElem?_eq_some_iff.1 hj).1
 have : ds.findIdx? (fun e => decide (e.1 = s)) = some j := by
  rw [List.findIdx?_eq_some_iff_getElem]
  refine ⟨hl, ?_, fun i hi => ?_⟩
  . have : ds[j] = e := by rw [List.getElem?_eq_getElem hl] at hj; simpa using hj
    rw [this]; simpa using he
  . have := hb i ds[i] hi (List.getElem?_eq_getElem (by omega))
    simpa using this
 unfold at8
 rw [this]
theorem at8_none {ds : List (Int × List Int)} {s : Int} (hb : ∀ i e', i < ds.length -> ds[i]? = some e' -> ¬ e'.1 = s) : at8 ds s = -1 := by
 have : ds.findIdx? (fun e => decide (e.1 = s)) = none := by
  rw [List.findIdx?_eq_none_iff]
  intro e he
  obtain ⟨i, hi⟩ := List.mem_iff_getElem?.1 he
  have := hb i e (List.getElem?_eq_some_iff.1 hi).1 hi
  simpa using this
 unfold at8
 rw [this]
theorem at8_cases (ds : List (Int × List Int)) (s : Int) : at8 ds s = -1 ∨ ∃ (j : Nat) (e : Int × List Int), at8 ds s = (j : Int) /\ ds[j]? = some e /\ e.1 = s := by
 unfold at8
 cases h : ds.findIdx? (fun e => decide (e.1 = s)) with
 | none => exact .inl rfl
 | some i =>
  rw [List.findIdx?_eq_some_iff_getElem] at h
  obtain ⟨hl, hp, _⟩ := h
  exact .inr ⟨i, ds[i], rfl, List.getElem?_eq_getElem hl, by simpa using hp⟩

theorem l8At_any (w : World) (G : TypeId) (x : ArrN) (am ad : Option Addr) (nm cm nd cd : Nat) (ds : List (Int × List Int)) (s : Int) (h1 : (tWrS G).Rd w [.slice ad nd cd] ds) (hn : nd <= 2097152) :
 Calls Tryz.prog 142 #[.agg #[.int .i64 x.id, .int .i64 x.n, .int .i64 x.s, .slice am nm cm, .int .i64 x.lost, .int .i64 x.built, .int .i64 x.seq, .int .i64 x.tail, .int .i64 x.gen, .slice ad nd cd, .int .i64 x.fuse, .bool x.down, .bool x.broken], .int .i64 s] w fun e w' => e = .returned (.int .i64 (at8 ds s)) /\ Below w.heap.size w w' := by
 obtain ⟨hl, _, _⟩ := row_length h1
 have hA := new_below w (.cells #[.int .i64 x.id, .int .i64 x.n, .int .i64 x.s, .slice am nm cm, .int .i64 x.lost, .int .i64 x.built, .int .i64 x.seq, .int .i64 x.tail, .int .i64 x.gen, .slice ad nd cd, .int .i64 x.fuse, .bool x.down, .bool x.broken] 29)
 have X := Box.new w 29 #[.int .i64 x.id, .int .i64 x.n, .int .i64 x.s, .slice am nm cm, .int .i64 x.lost, .int .i64 x.built, .int .i64 x.seq, .int .i64 x.tail, .int .i64 x.gen, .slice ad nd cd, .int .i64 x.fuse, .bool x.down, .bool x.broken]
 have zX := X.lt
 have c9 : (w.alloc (.cells #[.int .i64 x.id, .int .i64 x.n, .int .i64 x.s, .slice am nm cm, .int .i64 x.lost, .int .i64 x.built, .int .i64 x.seq, .int .i64 x.tail, .int .i64 x.gen, .slice ad nd cd, .int .i64 x.fuse, .bool x.down, .bool x.broken] 29)).cell? ⟨w.heap.size, 9, none⟩ = some (.slice ad nd cd) := X.cell 9
 have HA := hidden hA
 go_enter Tryz.func142, Tryz.ntmps142
 go_wp2
 generalize w.alloc (.cells #[.int .i64 x.id, .int .i64 x.n, .int .i64 x.s, .slice am nm cm, .int .i64 x.lost, .int .i64 x.built, .int .i64 x.seq, .int .i64 x.tail, .int .i64 x.gen, .slice ad nd cd, .int .i64 x.fuse, .bool x.down, .bool x.broken] 29) = W at hA X zX c9 HA ⊢
 go_loopw [5] (fun i wr => ∃ j : Nat, j <= nd /\ i = .int .i64 j /\ (∀ i e', i < j -> ds[i]? = some e' -> ¬ e'.1 = s) /\ wr = W) (fun i _ => nd - (intOf i).toNat)
 case atStart => exact ⟨0, Nat.zero_le _, rfl, fun i _ h => absurd h (by omega), rfl⟩
 case round =>
  obtain ⟨j, hj, rfl, hb, hw⟩ := hrel
  subst hw
  by_cases hjn : j < nd
  . rcases pairs_at rfl (h1.below hA) with h0 | ⟨b, off, rfl, hbl, hcs⟩
    . omega
    have hdj : ds[j]? = some (ds[j]'(by omega)) := List.getElem?_eq_getElem (by omega)
    generalize ds[j]'(by omega) = d at hdj
    obtain ⟨u0, u1, hv0, hv1, hrv⟩ := hcs j d hdj
    obtain ⟨rfl, _⟩ := wr_rd hrv
    have k1 : (0 : Int) <= (j : Int) := by omega
    have k2 : (j : Int) < (nd : Int) := by omega
    have HBB := hidden hb
    have HDJ := hidden hdj
    obtain ⟨y, ys⟩ := d
    simp only at hv0
    clear hcs hrv hv1 hb hdj
    by_cases he : y = s
    . have HV := hidden (at8_hit (s := s) HDJ.out he HBB.out)
      have e1 : (y == s) = true := by simpa using he
      clear he
      go_wp2
      go_ret
      exact ⟨ret_int HV.out.symm, HA.out⟩
    . have e1 : (y == s) = false := by simpa using he
      have HN : Hid (∀ i e', i < j + 1 -> ds[i]? = some e' -> ¬ e'.1 = s) := fun i e' hi h' => by
       by_cases hij : i = j
       . subst hij
         rw [HDJ.out] at h'
         simp at h'
         rw [← h']
         exact he
       . exact HBB.out i e' (by omega) h'
      clear he
      go_wp2
      go_roundw
      case rel => exact ⟨j + 1, by omega, by go_num, HN.out, by first | rfl | trivial⟩
      case measure => simp [intOf]; omega
  . have ej : j = nd := by omega
    subst ej
    have HV := hidden (at8_none (s := s) (fun i e' h h' => hb i e' (by omega) h'))
    have k2 : ¬ (j : Int) < (j : Int) := by omega
    go_wp2
    go_ret
    exact ⟨ret_int HV.out.symm, HA.out⟩

abbrev EntD := Int × List Int
theorem ents_open {w : World} {E : TypeId} {bd : Option Addr} {n cap : Nat} {ds : List EntD} {fd : List Nat} (h : (tWrS E).Mine w [.slice bd n cap] ds fd) :
 ∃ fps : List (List Nat), fps.length = ds.length /\ fps.flatten.Nodup /\ (∀ b ∈ fps.flatten, b ∈ fd) /\ ∀ (i : Nat) (d : EntD), ds[i]? = some d -> ∃ (f : List Nat) (g : Nat) (a : Option Addr) (c : Nat), fps[i]? = some f /\ bd = some ⟨g, 0, none⟩ /\ g < w.heap.size /\ g ∈ fd /\ g ∉ f /\ w.cell? ⟨g, i * 2, none⟩ = some (.int .i64 d.1) /\ w.cell? ⟨g, i * 2 + 1, none⟩ = some (.slice a d.2.length c) /\ tWr.Mine w [.int .i64 d.1, .slice a d.2.length c] d f := by
 obtain ⟨h, hn⟩ := h
 rcases h with ⟨_, h2, _⟩ | ⟨b, cap', cur, fps, h1, h2, h3, h4, h5, h6, h7, h8⟩
 . subst h2
   exact ⟨[], rfl, by simp, by simp, fun i d hd => by simp at hd⟩
 . simp only [List.cons.injEq, Value.slice.injEq, and_true] at h1
   rw [h6, List.nodup_cons] at hn
   refine ⟨fps, h7, hn.2, fun c hc => by rw [h6]; exact List.mem_cons_of_mem _ hc, fun i d hd => ?_⟩
   obtain ⟨f, hf, ho⟩ := h8 i d hd
   have hfn := (flatten_part hn.2 hf).1
   have hgf : b ∉ f := fun hm => hn.1 (List.mem_flatten.2 ⟨f, List.mem_of_getElem? hf, hm⟩)
   have hil := (List.getElem?_eq_some_iff.1 hd).1
   have h5' : cur.size = cap' * 2 := h5
   have hlen : ((cur.toList.drop (i * 2)).take 2).length = 2 := by
    rw [List.length_take, List.length_drop, Array.length_toList, h5']
    omega
   have ho' : tWr.ow w ((cur.toList.drop (i * 2)).take 2) d f := ho
   obtain ⟨v0, v1, hv⟩ : ∃ v0 v1, (cur.toList.drop (i * 2)).take 2 = [v0, v1] := by
    match hq : (cur.toList.drop (i * 2)).take 2, hlen with
    | [v0, v1], _ => exact ⟨v0, v1, rfl⟩
   rw [hv] at ho'
   have hM : tWr.Mine w [v0, v1] d f := ⟨ho', hfn⟩
   obtain ⟨hv0, hr⟩ := wr_rd hM.rd
   obtain ⟨a, c, hv1⟩ := row_shape hr
   have c0 : cur.toList[i * 2]? = some v0 := by
    have : ((cur.toList.drop (i * 2)).take 2)[0]? = some v0 := by rw [hv]; rfl
    rw [List.getElem?_take, if_pos (by omega), List.getElem?_drop] at this
    simpa using this
   have c1 : cur.toList[i * 2 + 1]? = some v1 := by
    have : ((cur.toList.drop (i * 2)).take 2)[1]? = some v1 := by rw [hv]; rfl
    rw [List.getElem?_take, if_pos (by omega), List.getElem?_drop] at this
    simpa using this
   subst hv0 hv1
   refine ⟨f, b, a, c, hf, h1.1, (Array.getElem?_eq_some_iff.1 h4).1, by rw [h6]; exact List.mem_cons_self, hgf, ?_, ?_, hM⟩
   . rw [cell_of_row w b _ cur E (0, 0) h4]; simpa using c0
   . rw [cell_of_row w b _ cur E (0, 0) h4]; simpa using c1

def cntMD (x : MemD) : Nat := cntSS x.1 + cntWS x.2.1 + 1 + x.2.2.2.length
def markMD (k : Int) (x : MemD) : MemD := (markSS k x.1, markW (k + (cntSS x.1 : Int)) x.2.1, decide ((k + (cntSS x.1 : Int) + (cntWS x.2.1 : Int)) % 3 = 0), marks id (k + (cntSS x.1 : Int) + (cntWS x.2.1 : Int) + 1) x.2.2.2.length)
def markMS (k0 : Int) (d : List MemD) : List MemD := markL cntMD markMD k0 d
def cntMS (d : List MemD) : Nat := sumL (d.map cntMD)
theorem cntMS_le (d : List MemD) : cntMS d <= wtMemS d := by
 unfold cntMS wtMemS
 induction d with
 | nil => simp [sumL]
 | cons x d ih =>
  have h1 : cntMD x <= wtMem x + 1 := by
   have := Nat.le_of_eq (cntWS_wt x.2.1)
   unfold cntMD wtMem wtIntSS cntSS
   omega
  have e1 : sumL ((x :: d).map cntMD) = cntMD x + sumL (d.map cntMD) := by simp [sumL]
  have e2 : sumL ((x :: d).map wtMem) = wtMem x + sumL (d.map wtMem) := by simp [sumL]
  rw [e1, e2, List.length_cons]
  omega

theorem markMemS_fp (w : World) (a : Option Addr) (n cap : Nat) (d : List MemD) (k0 : Int) (fp : List Nat) (h : (tMemS 159 109).Mine w [.slice a n cap] d fp) (hw : wtMemS d <= 2097152) (hk : 0 <= k0) (hk' : k0 + (wtMemS d : Int) <= 2097153) :
 Calls Tryz.prog 97 #[.slice a n cap, .int .i64 k0] w fun e w' => e = .returned (.int .i64 (k0 + (cntMS d : Int))) /\ (tMemS 159 109).Mine w' [.slice a n cap] (markMS k0 d) fp /\ Turned fp w w' := by
 obtain ⟨hl, hc, hm⟩ := row_length h.rd
 have hmL : (markMS k0 d).length = d.length := markL_length _ _ _ _
 have hnn : n <= 2097152 := by unfold wtMemS at hw; omega
 have hwt := cntMS_le d
 go_enter Tryz.func97, Tryz.ntmps97
 go_wp2
 go_loopw [1, 5] (fun kk i wr => ∃ j : Nat, j <= n /\ i = .int .i64 j /\ kk = .int .i64 (k0 + (sumL ((d.map cntMD).take j) : Int)) /\ (tMemS 159 109).Mine wr [.slice a n cap] ((markMS k0 d).take j ++ d.drop j) fp /\ Turned fp w wr) (fun _ i _ => n - (intOf i).toNat)
 case atStart => exact ⟨0, Nat.zero_le _, rfl, by simp [sumL], by simpa using h, Turned.refl _ _⟩
 case round =>
  obtain ⟨j, hj, rfl, rfl, ho, hb⟩ := hrel
  by_cases hjn : j < n
  . have hdj : d[j]? = some (d[j]'(by omega)) := List.getElem?_eq_getElem (by omega)
    generalize d[j]'(by omega) = x at hdj
    have hst := sumL_take (l := d.map cntMD) (j := j) (x := cntMD x) (by rw [List.getElem?_map, hdj]; rfl)
    have hle := sumL_le (l := d.map cntMD) (j + 1)
    have hin := Nat.le_trans (inner_leM hdj) hw
    unfold cntMS at hwt
    have HM := hidden (turn_step hmL (markL_at (c := cntMD) (mk := markMD) (k := k0) hdj))
    have hat := turn_at (m := markMS k0 d) hmL hdj
    have HW := hidden hst
    generalize sumL ((d.map cntMD).take j) = S at hst HM HW
    obtain ⟨ss, cs, f, bs⟩ := x
    have hcx : cntMD (ss, cs, f, bs) = cntSS ss + cntWS cs + 1 + bs.length := rfl
    have hin0 : wtIntSS ss <= 2097152 := by unfold wtMem at hin; simp only at hin; omega
    have hin1 : wtWrS cs <= 2097152 := by unfold wtMem at hin; simp only at hin; omega
    have hin3 : bs.length <= 2097152 := by unfold wtMem at hin; simp only at hin; omega
    have hcw := Nat.le_of_eq (cntWS_wt cs)
    have hcw' := Nat.le_of_eq (cntWS_wt cs).symm
    have hS : k0 + (S : Int) + (cntSS ss : Int) + (cntWS cs : Int) + 1 + (bs.length : Int) <= 2097153 := by omega
    rcases row_ow_shape ho with h0' | ⟨g, rfl⟩
    . omega
    obtain ⟨cs1, f1, ow1, hgf, hgp, hf1, hcc, hfz, _, back⟩ := row_open ho hat
    have hcl := (tMem 159).rdLen ((tMem 159).owRd ow1.1)
    obtain ⟨v0, v1, v2, v3, rfl⟩ : ∃ v0 v1 v2 v3, cs1 = [v0, v1, v2, v3] := by
     match cs1, hcl with
     | [v0, v1, v2, v3], _ => exact ⟨v0, v1, v2, v3, rfl⟩
    obtain ⟨f0, g1, rfl, m0, ow2, d0⟩ := pair_mine (t := tIntSS) (u := pairTy (tWrS 159) (pairTy boolTy tIntS)) (vs := [v0]) (us := [v1, v2, v3]) rfl ow1
    obtain ⟨fc, g2, rfl, m1, ow3, d1⟩ := pair_mine (t := tWrS 159) (u := pairTy boolTy tIntS) (vs := [v1]) (us := [v2, v3]) rfl ow2
    obtain ⟨fb, f3, rfl, ⟨⟨hv2, hfb⟩, _⟩, m3, _⟩ := pair_mine (t := boolTy) (u := tIntS) (vs := [v2]) (us := [v3]) rfl ow3
    simp at hv2
    subst hv2
    subst hfb
    rw [List.nil_append] at *
    have hc0 : wr.cell? ⟨g, j * 4, none⟩ = some v0 := hcc 0 (by show 0 < 4; omega)
    have hc1 : wr.cell? ⟨g, j * 4 + 1, none⟩ = some v1 := hcc 1 (by show 1 < 4; omega)
    have hc2 : wr.cell? ⟨g, j * 4 + 2, none⟩ = some (.bool f) := hcc 2 (by show 2 < 4; omega)
    have hc3 : wr.cell? ⟨g, j * 4 + 3, none⟩ = some v3 := hcc 3 (by show 3 < 4; omega)
    obtain ⟨a0, e0, rfl⟩ := row_shape m0.rd
    obtain ⟨a1, e1', rfl⟩ := row_shape m1.rd
    obtain ⟨a3, e3, rfl⟩ := row_shape m3.rd
    have hlt := ho.lt
    have ng0 : g ∉ f0 := fun hm => hgf (List.mem_append_left _ hm)
    have ngc : g ∉ fc := fun hm => hgf (List.mem_append_right _ (List.mem_append_left _ hm))
    have ng3 : g ∉ f3 := fun hm => hgf (List.mem_append_right _ (List.mem_append_right _ hm))
    have d0c : ∀ b ∈ fc, b ∉ f0 := fun b hb hb' => d0 b hb' (List.mem_append_left _ hb)
    have d03 : ∀ b ∈ f3, b ∉ f0 := fun b hb hb' => d0 b hb' (List.mem_append_right _ hb)
    have dc3 : ∀ b ∈ f3, b ∉ fc := fun b hb hb' => d1 b hb' hb
    have hgl : g < wr.heap.size := hlt g hgp
    obtain ⟨cur, hcur, hcsz, hncap, _⟩ := row_block (ho.own (lo := 0) (hi := wr.heap.size) (fun b hb => ⟨Nat.zero_le _, ho.lt b hb⟩))
    have XB : Box wr g 109 cur := hcur
    have HBK := hidden back
    have HLT := hidden hlt
    have HF1 := hidden hf1
    have HFZ := hidden hfz
    have M0 := hidden m0
    have M1 := hidden m1
    have M3 := hidden m3
    have DD := hidden (And.intro d0 d1)
    have HG := hidden hgf
    have i1 : (0 : Int) <= (j : Int) := by omega
    have i2 : (j : Int) < (n : Int) := by omega
    clear hcc back hcl ow1 ow2 ow3 hat hdj ho hst hlt hfz hf1 m0 m1 m3 d0 d1 hgf
    have e1 : (k0 + (S : Int) + (cntSS ss : Int) + (cntWS cs : Int)).tmod 3 = (k0 + (S : Int) + (cntSS ss : Int) + (cntWS cs : Int)) % 3 := Int.tmod_eq_emod_of_nonneg (by omega)
    have HXB := hidden XB
    have HC := hidden (And.intro hc0 (And.intro hc1 hc3))
    clear XB hcur
    go_wp2_with fail
    refine (markIntSS_fp _ _ _ _ ss _ f0 M0.out hin0 (by omega) (by omega)).mono ?_
    rintro e w1 ⟨rfl, o1, t1⟩
    have b1 := t1.block g hgl ng0
    have kc1 := (cell_kept b1 (j * 4 + 1)).trans hc1
    have kc2 := (cell_kept b1 (j * 4 + 2)).trans hc2
    have kc3 := (cell_kept b1 (j * 4 + 3)).trans hc3
    have X1 := hidden (HXB.out.kept b1)
    have z1 := t1.size
    have M1' := hidden (M1.out.kept t1 d0c)
    have M3' := hidden (M3.out.kept t1 d03)
    have O1 := hidden o1
    have T1 := hidden t1
    clear hc0 hc1 hc2 hc3 b1 o1 t1 M0 M1 M3 HXB
    have hg1 : g < w1.heap.size := Nat.lt_of_lt_of_le hgl z1
    go_wp2_with fail
    refine (markWrS_fp _ _ _ _ cs _ fc M1'.out hin1 (by omega) (by omega)).mono ?_
    rintro e w2 ⟨rfl, o2, t2⟩
    have b2 := t2.block g hg1 ngc
    have lc2 := (cell_kept b2 (j * 4 + 2)).trans kc2
    have lc3 := (cell_kept b2 (j * 4 + 3)).trans kc3
    have x2 := X1.out.kept b2
    have X2 := hidden x2
    have ff := x2.frozen (j * 4 + 2)
    have z2 := t2.size
    have M3'' := hidden (M3'.out.kept t2 dc3)
    have O1' := hidden (O1.out.kept t2 (fun b hb hb' => d0c b hb' hb))
    have O2 := hidden o2
    have T2 := hidden t2
    have T3 : Hid (Turned [g] w2 (w2.setCell ⟨g, j * 4 + 2, none⟩ (.bool (decide ((k0 + (S : Int) + (cntSS ss : Int) + (cntWS cs : Int)) % 3 = 0))))) := Turned.setCell _ (by simp)
    have M3t := hidden (M3''.out.kept T3.out (fun b hb hb' => ng3 (by simp at hb'; exact hb' ▸ hb)))
    have O1t := hidden (O1'.out.kept T3.out (fun b hb hb' => ng0 (by simp at hb'; exact hb' ▸ hb)))
    have O2t := hidden (O2.out.kept T3.out (fun b hb hb' => ngc (by simp at hb'; exact hb' ▸ hb)))
    have X3 := hidden (x2.set (j * 4 + 2) (.bool (decide ((k0 + (S : Int) + (cntSS ss : Int) + (cntWS cs : Int)) % 3 = 0))))
    clear kc1 kc2 kc3 b2 o2 t2 X1 M1' M3' M3'' O1 O1' O2 x2
    have hg2 : g < w2.heap.size := Nat.lt_of_lt_of_le hg1 z2
    go_wp2_with fail
    generalize hw3 : w2.setCell ⟨g, j * 4 + 2, none⟩ (.bool (decide ((k0 + (S : Int) + (cntSS ss : Int) + (cntWS cs : Int)) % 3 = 0))) = w3 at T3 M3t O1t O2t X3 ⊢
    clear hw3
    refine (markIntS_fp _ _ _ _ bs _ f3 M3t.out (by omega) (by omega) (by omega)).mono ?_
    rintro e w4 ⟨rfl, o3, t4⟩
    have z3 := T3.out.size
    have z4 := t4.size
    have hg3 : g < w3.heap.size := Nat.lt_of_lt_of_le hg2 z3
    have hO := HBK.out w4 [.slice a0 ss.length e0, .slice a1 cs.length e1', .bool (decide ((k0 + (S : Int) + (cntSS ss : Int) + (cntWS cs : Int)) % 3 = 0)), .slice a3 bs.length e3] (markMD (k0 + (S : Int)) (ss, cs, f, bs))
     (pair_mine_of (t := tIntSS) (vs := [_]) (us := [_, _, _]) (O1t.out.kept t4 (fun b hb hb' => d03 b hb' hb)) (pair_mine_of (t := tWrS 159) (vs := [_]) (us := [_, _]) (O2t.out.kept t4 (fun b hb hb' => dc3 b hb' hb)) (pair_mine_of (t := boolTy) (u := tIntS) (vs := [_]) (us := [_]) (f1 := []) ⟨⟨rfl, rfl⟩, by simp⟩ o3 (by simp)) DD.out.2) DD.out.1)
     (fun b hb hbf hbg => by
      have n0 : b ∉ f0 := fun hm => hbf (List.mem_append_left _ hm)
      have nc : b ∉ fc := fun hm => hbf (List.mem_append_right _ (List.mem_append_left _ hm))
      have n3 : b ∉ f3 := fun hm => hbf (List.mem_append_right _ (List.mem_append_right _ hm))
      have l0 := HLT.out b hb
      rw [t4.block b (by omega) n3, T3.out.block b (by omega) (by simpa using hbg), T2.out.block b (by omega) nc, T1.out.block b l0 n0])
     (by omega)
     (fun cur2 hcur2 hcs2 hnc2 => by
      have hX := X3.out
      have e2 : cur2 = cur := by
       have h1 := X2.out
       have h2 : w2.heap[g]? = wr.heap[g]? := by rw [T2.out.block g hg1 ngc, T1.out.block g hgl ng0]
       unfold Box at h1
       rw [h2, hcur2] at h1
       simpa using h1
      subst e2
      refine ⟨_, (t4.block g hg3 ng3).trans hX, by simp, fun k => ?_⟩
      have hcs' : cur2.size = cap * 4 := hcs2
      rw [Array.toList_setIfInBounds]
      obtain ⟨p0, p1, p3⟩ := HC.out
      rw [cell_of_row wr g _ cur2 _ (0, 0) hcur2] at p0 p1 p3
      simp only [show (1 + (1 + (1 + 1)) : Nat) = 4 from rfl]
      by_cases k0' : k = j * 4
      . subst k0'
        rw [List.getElem?_set_ne (by omega), if_pos (by omega), Nat.sub_self, Array.getElem?_toList, p0]
        rfl
      . by_cases k1 : k = j * 4 + 1
        . subst k1
          rw [List.getElem?_set_ne (by omega), if_pos (by omega), Nat.add_sub_cancel_left, Array.getElem?_toList, p1]
          rfl
        . by_cases k2 : k = j * 4 + 2
          . subst k2
            rw [List.getElem?_set_self (by simp; omega), if_pos (by omega), Nat.add_sub_cancel_left]
            rfl
          . by_cases k3 : k = j * 4 + 3
            . subst k3
              rw [List.getElem?_set_ne (by omega), if_pos (by omega), Nat.add_sub_cancel_left, Array.getElem?_toList, p3]
              rfl
            . rw [List.getElem?_set_ne (by omega), if_neg (by omega)])
    rw [HM.out] at hO
    have HO := hidden hO
    have HB := hidden ((((hb.trans (T1.out.mono (fun b hm => HF1.out b (List.mem_append_left _ hm)))).trans (T2.out.mono (fun b hm => HF1.out b (List.mem_append_right _ (List.mem_append_left _ hm))))).trans (T3.out.mono (by simpa using hgp))).trans (t4.mono (fun b hm => HF1.out b (List.mem_append_right _ (List.mem_append_right _ hm)))))
    clear hO o3 t4 HBK hb T1 T2 T3 X2 X3 O1t O2t M3t HLT HC
    go_wp2
    go_roundw
    case rel => exact ⟨j + 1, by omega, by go_num, by rw [HW.out, hcx]; go_num, HO.out, HB.out⟩
    case measure => simp [intOf]; omega
  . go_wp2
    go_ret
    have e : j = n := by omega
    subst e
    have ht : (d.map cntMD).take j = d.map cntMD := List.take_of_length_le (by simp; omega)
    rw [List.take_of_length_le (by omega), List.drop_of_length_le (by omega), List.append_nil] at ho
    exact ⟨ret_int (by rw [ht]; rfl), ho, hb⟩

theorem markArr_own (w : World) (lo m hi : Nat) (x : ArrN) (bm bd : Option Addr) (nm cm nd cd : Nat) (ms : List MemD) (ds : List (Int × List Int)) (h0 : (tMemS 159 109).Own w lo m [.slice bm nm cm] ms) (h1 : (tWrS 86).Own w m hi [.slice bd nd cd] ds) (hlm : lo <= m) (hmh : m <= hi) (hhi : hi <= w.heap.size) (hw : wtArr ms ds <= 2097152) :
 Calls Tryz.prog 40 #[.agg #[.int .i64 x.id, .int .i64 x.n, .int .i64 x.s, .slice bm nm cm, .int .i64 x.lost, .int .i64 x.built, .int .i64 x.seq, .int .i64 x.tail, .int .i64 x.gen, .slice bd nd cd, .int .i64 x.fuse, .bool x.down, .bool x.broken], .int .i64 1] w fun e w' => e = .returned (.int .i64 (1 + (cntMS ms : Int) + (cntWS ds : Int))) /\ (tMemS 159 109).Own w' lo m [.slice bm nm cm] (markMS 1 ms) /\ (tWrS 86).Own w' m hi [.slice bd nd cd] (markW (1 + (cntMS ms : Int)) ds) /\ But lo hi w w' := by
 have hw0 : wtMemS ms <= 2097152 := by unfold wtArr at hw; omega
 have hw1 : wtWrS ds <= 2097152 := by unfold wtArr at hw; omega
 have hcm := cntMS_le ms
 have hA := new_below w (.cells #[.int .i64 x.id, .int .i64 x.n, .int .i64 x.s, .slice bm nm cm, .int .i64 x.lost, .int .i64 x.built, .int .i64 x.seq, .int .i64 x.tail, .int .i64 x.gen, .slice bd nd cd, .int .i64 x.fuse, .bool x.down, .bool x.broken] 29)
 have A := Box.new w 29 #[.int .i64 x.id, .int .i64 x.n, .int .i64 x.s, .slice bm nm cm, .int .i64 x.lost, .int .i64 x.built, .int .i64 x.seq, .int .i64 x.tail, .int .i64 x.gen, .slice bd nd cd, .int .i64 x.fuse, .bool x.down, .bool x.broken]
 obtain ⟨k0, k1, k2, k3, k4, k5, k6, k7, k8, k9, k10, k11, k12⟩ := A.cells13
 have o0 := h0.below hA
 have o1 := h1.below hA
 have zA := A.lt
 go_enter Tryz.func40, Tryz.ntmps40
 go_wp2_with fail
 generalize w.alloc (.cells #[.int .i64 x.id, .int .i64 x.n, .int .i64 x.s, .slice bm nm cm, .int .i64 x.lost, .int .i64 x.built, .int .i64 x.seq, .int .i64 x.tail, .int .i64 x.gen, .slice bd nd cd, .int .i64 x.fuse, .bool x.down, .bool x.broken] 29) = W at hA A o0 o1 zA k0 k1 k2 k3 k4 k5 k6 k7 k8 k9 k10 k11 k12 ⊢
 obtain ⟨f0, m0, r0⟩ := o0.mine
 refine (markMemS_fp _ _ _ _ ms 1 f0 m0 hw0 (by omega) (by omega)).mono ?_
 rintro e w1 ⟨rfl, p0, t1⟩
 have hb1 := t1.but (lo := lo) (hi := m) r0
 have q0 := p0.own r0
 have q1 := o1.but hb1 (.inr (Nat.le_refl _))
 have A1 := A.kept (hb1.block _ zA (by omega))
 have B1 := (But.of_below (lo := lo) (hi := hi) hA).trans ⟨hb1.os, hb1.tape, hb1.output, hb1.size, fun k hk ho => hb1.block k hk (by omega)⟩
 clear k0 k1 k2 k3 k4 k5 k6 k7 k8 k9 k10 k11 k12 A hb1 t1 p0 m0 o0 o1 hA
 obtain ⟨k0, k1, k2, k3, k4, k5, k6, k7, k8, k9, k10, k11, k12⟩ := A1.cells13
 obtain ⟨f1, m1, r1⟩ := q1.mine
 have hwa : (wtMemS ms : Int) + (wtWrS ds : Int) <= 2097152 := by unfold wtArr at hw; omega
 go_wp2_with fail
 refine (markEntS_fp _ _ _ _ ds (1 + (cntMS ms : Int)) f1 m1 hw1 (by omega) (by omega)).mono ?_
 rintro e w2 ⟨rfl, p1, t2⟩
 have hb2 := t2.but (lo := m) (hi := hi) r1
 have s1 := hidden (p1.own r1)
 have s0 := hidden (q0.but hb2 (.inl (Nat.le_refl _)))
 have B2 := hidden (B1.trans ⟨hb2.os, hb2.tape, hb2.output, hb2.size, fun k hk ho => hb2.block k hk (by omega)⟩)
 clear k0 k1 k2 k3 k4 k5 k6 k7 k8 k9 k10 k11 k12 A1 hb2 t2 p1 m1 q0 q1 B1
 go_wp2
 go_ret
 exact ⟨rfl, s0.out, s1.out, B2.out⟩

theorem heldMemS_any (w : World) (E F : TypeId) (a : Option Addr) (n cap : Nat) (d : List MemD) (k0 : Int) (h : (tMemS E F).Rd w [.slice a n cap] (markMS k0 d)) (hw : wtMemS d <= 2097152) (hk : 0 <= k0) (hk' : k0 + (wtMemS d : Int) <= 2097153) :
 Calls Tryz.prog 99 #[.slice a n cap, .int .i64 k0] w fun e w' => e = .returned (.int .i64 (k0 + (cntMS d : Int))) /\ Same w w' := by
 obtain ⟨hl, hc, hm⟩ := row_length h
 have hmL : (markMS k0 d).length = d.length := markL_length _ _ _ _
 rw [hmL] at hl
 have hnn : n <= 2097152 := by unfold wtMemS at hw; omega
 have hwt := cntMS_le d
 go_enter Tryz.func99, Tryz.ntmps99
 go_wp2
 go_loopw [1, 5] (fun kk i wr => ∃ j : Nat, j <= n /\ i = .int .i64 j /\ kk = .int .i64 (k0 + (sumL ((d.map cntMD).take j) : Int)) /\ Same w wr) (fun _ i _ => n - (intOf i).toNat)
 case atStart => exact ⟨0, Nat.zero_le _, rfl, by simp [sumL], Same.refl _⟩
 case round =>
  obtain ⟨j, hj, rfl, rfl, hs⟩ := hrel
  by_cases hjn : j < n
  . have hdj : d[j]? = some (d[j]'(by omega)) := List.getElem?_eq_getElem (by omega)
    generalize d[j]'(by omega) = x at hdj
    have hst := sumL_take (l := d.map cntMD) (j := j) (x := cntMD x) (by rw [List.getElem?_map, hdj]; rfl)
    have hle := sumL_le (l := d.map cntMD) (j + 1)
    have hin := Nat.le_trans (inner_leM hdj) hw
    unfold cntMS at hwt
    have hmj := markL_at (c := cntMD) (mk := markMD) (k := k0) hdj
    have HW := hidden hst
    generalize sumL ((d.map cntMD).take j) = S at hst hmj HW
    rcases quads_at rfl h with h0' | ⟨b, off, rfl, hbl, hcs⟩
    . omega
    obtain ⟨v0, v1, v2, v3, hv0, hv1, hv2, hv3, hrv⟩ := hcs j _ hmj
    obtain ⟨ss, cs, f, bs⟩ := x
    obtain ⟨a0, c0, a1, c1, a3, c3, ss', cs', f', bs', hx, rfl, rfl, rfl, rfl, r0, r1, r3⟩ := mem_at hrv
    have hcx : cntMD (ss, cs, f, bs) = cntSS ss + cntWS cs + 1 + bs.length := rfl
    have hin0 : wtIntSS ss <= 2097152 := by unfold wtMem at hin; simp only at hin; omega
    have hin1 : wtWrS cs <= 2097152 := by unfold wtMem at hin; simp only at hin; omega
    have hin3 : bs.length <= 2097152 := by unfold wtMem at hin; simp only at hin; omega
    have hcw := Nat.le_of_eq (cntWS_wt cs)
    have hcw' := Nat.le_of_eq (cntWS_wt cs).symm
    have hS : k0 + (S : Int) + (cntSS ss : Int) + (cntWS cs : Int) + 1 + (bs.length : Int) <= 2097153 := by omega
    unfold markMD at hx
    simp only [Prod.mk.injEq] at hx
    obtain ⟨e0, e1, e2, e3⟩ := hx
    subst e0
    subst e1
    subst e3
    rw [marks_length] at hv3 r3
    have w0 := (hs.cell _).trans hv0
    have w1 := (hs.cell _).trans hv1
    have w2 := (hs.cell _).trans hv2
    have w3 := (hs.cell _).trans hv3
    have HE2 := hidden e2
    have i1 : (0 : Int) <= (j : Int) := by omega
    have i2 : (j : Int) < (n : Int) := by omega
    have R0 := r0.same hs
    have R1 := r1.same hs
    have R3 := r3.same hs
    clear hcs hst hdj hv0 hv1 hv2 hv3 hrv hmj e2 r0 r1 r3
    go_wp2_with fail
    refine (heldIntSS_any _ _ _ _ ss _ R0 hin0 (by omega) (by omega)).mono ?_
    rintro e u1 ⟨rfl, s1⟩
    have w1' := (s1.cell _).trans w1
    have w2' := (s1.cell _).trans w2
    have w3' := (s1.cell _).trans w3
    have R1' := R1.same s1
    have R3' := R3.same s1
    clear w0 w1 w2 w3 R0 R1 R3
    have p1 : ¬ k0 + (S : Int) + (cntSS ss : Int) < 0 := by omega
    go_wp2_with fail
    refine (heldWrS_any _ E _ _ _ cs _ R1' hin1 (by omega) (by omega)).mono ?_
    rintro e u2 ⟨rfl, s2⟩
    have w2 := (s2.cell _).trans w2'
    have w3 := (s2.cell _).trans w3'
    have R3 := ints_rd (R3'.same s2)
    clear w1' w2' w3' R1' R3'
    have hK : 0 <= k0 + (S : Int) + (cntSS ss : Int) + (cntWS cs : Int) /\ k0 + (S : Int) + (cntSS ss : Int) + (cntWS cs : Int) <= 2097153 := by omega
    have HKK : Hid (k0 + (S : Int) + (cntSS ss : Int) + (cntWS cs : Int) + 1 + (bs.length : Int) = k0 + ((S + cntMD (ss, cs, f, bs) : Nat) : Int)) := by unfold Hid; rw [hcx]; omega
    generalize hKd : k0 + (S : Int) + (cntSS ss : Int) + (cntWS cs : Int) = K at hK HKK HE2 R3 hS ⊢
    clear hKd
    have p2 : ¬ K < 0 := by omega
    have t1 : K.tmod 3 = K % 3 := Int.tmod_eq_emod_of_nonneg hK.1
    have t2 : IntKind.i64.wrap (K % 3) = K % 3 := IntWalk.i64_in _ (by omega)
    have t3 : IntKind.i64.wrap (K + 1) = K + 1 := IntWalk.i64_in _ (by omega)
    have p3 : ¬ K + 1 + (bs.length : Int) < 0 := by omega
    have t4 : f' = (K % 3 == 0) := by rw [← HE2.out]; rfl
    have t5 : ((K % 3 == 0) != (K % 3 == 0)) = false := by simp
    have t6 : ((K % 3 == 0) == (K % 3 == 0)) = true := by simp
    subst t4
    clear HE2
    go_wp2_with fail
    refine (heldIntS_any _ _ _ _ _ R3.1 (by omega) (by omega) (by omega)).mono ?_
    rintro e u3 ⟨rfl, s3⟩
    have HS := hidden (((hs.trans s1).trans s2).trans s3)
    clear s1 s2 s3 hs R3 w2 w3
    go_wp2
    go_roundw
    case rel => exact ⟨j + 1, by omega, by go_num, by rw [HW.out, HKK.out], HS.out⟩
    case measure => simp [intOf]; omega
  . have ej : j = n := by omega
    subst ej
    have ht : (d.map cntMD).take j = d.map cntMD := List.take_of_length_le (by simp; omega)
    have HT : Hid (k0 + (sumL ((d.map cntMD).take j) : Int) = k0 + (cntMS d : Int)) := by unfold Hid cntMS; rw [ht]
    clear ht
    go_wp2
    go_ret
    exact ⟨ret_int HT.out, hs⟩

theorem heldArr_any (w : World) (E F G : TypeId) (x : ArrN) (bm bd : Option Addr) (nm cm nd cd : Nat) (ms : List MemD) (ds : List (Int × List Int)) (h0 : (tMemS E F).Rd w [.slice bm nm cm] (markMS 1 ms)) (h1 : (tWrS G).Rd w [.slice bd nd cd] (markW (1 + (cntMS ms : Int)) ds)) (hw : wtArr ms ds <= 2097152) :
 Calls Tryz.prog 42 #[.agg #[.int .i64 x.id, .int .i64 x.n, .int .i64 x.s, .slice bm nm cm, .int .i64 x.lost, .int .i64 x.built, .int .i64 x.seq, .int .i64 x.tail, .int .i64 x.gen, .slice bd nd cd, .int .i64 x.fuse, .bool x.down, .bool x.broken], .int .i64 1] w fun e w' => e = .returned (.int .i64 (1 + (cntMS ms : Int) + (cntWS ds : Int))) /\ Below w.heap.size w w' := by
 have hw0 : wtMemS ms <= 2097152 := by unfold wtArr at hw; omega
 have hw1 : wtWrS ds <= 2097152 := by unfold wtArr at hw; omega
 have hws : wtMemS ms + wtWrS ds <= 2097152 := by unfold wtArr at hw; omega
 have hcm := cntMS_le ms
 have hA := new_below w (.cells #[.int .i64 x.id, .int .i64 x.n, .int .i64 x.s, .slice bm nm cm, .int .i64 x.lost, .int .i64 x.built, .int .i64 x.seq, .int .i64 x.tail, .int .i64 x.gen, .slice bd nd cd, .int .i64 x.fuse, .bool x.down, .bool x.broken] 29)
 have X := Box.new w 29 #[.int .i64 x.id, .int .i64 x.n, .int .i64 x.s, .slice bm nm cm, .int .i64 x.lost, .int .i64 x.built, .int .i64 x.seq, .int .i64 x.tail, .int .i64 x.gen, .slice bd nd cd, .int .i64 x.fuse, .bool x.down, .bool x.broken]
 obtain ⟨k0, k1, k2, k3, k4, k5, k6, k7, k8, k9, k10, k11, k12⟩ := X.cells13
 have r0 := h0.below hA
 have r1 := h1.below hA
 go_enter Tryz.func42, Tryz.ntmps42
 go_wp2_with fail
 generalize w.alloc (.cells #[.int .i64 x.id, .int .i64 x.n, .int .i64 x.s, .slice bm nm cm, .int .i64 x.lost, .int .i64 x.built, .int .i64 x.seq, .int .i64 x.tail, .int .i64 x.gen, .slice bd nd cd, .int .i64 x.fuse, .bool x.down, .bool x.broken] 29) = W at hA X r0 r1 k0 k1 k2 k3 k4 k5 k6 k7 k8 k9 k10 k11 k12 ⊢
 refine (heldMemS_any _ E F _ _ _ ms _ r0 hw0 (by omega) (by omega)).mono ?_
 rintro e w1 ⟨rfl, s1⟩
 have X1 := X.same s1
 have r2 := r1.same s1
 have B1 := Below.andSame hA s1
 clear k0 k1 k2 k3 k4 k5 k6 k7 k8 k9 k10 k11 k12 X r0 r1 s1 hA
 obtain ⟨k0, k1, k2, k3, k4, k5, k6, k7, k8, k9, k10, k11, k12⟩ := X1.cells13
 have p1 : ¬ 1 + (cntMS ms : Int) < 0 := by omega
 go_wp2_with fail
 refine (heldEntS_any _ G _ _ _ ds _ r2 hw1 (by omega) (by omega)).mono ?_
 rintro e w2 ⟨rfl, s2⟩
 have B2 := Below.andSame B1 s2
 have p2 : ¬ 1 + (cntMS ms : Int) + (cntWS ds : Int) < 0 := by omega
 clear k0 k1 k2 k3 k4 k5 k6 k7 k8 k9 k10 k11 k12 X1 r2 s2 B1
 go_wp2
 go_ret
 exact ⟨rfl, B2⟩

theorem cntA_le {ms : List MemD} {ds : List (Int × List Int)} (h : wtArr ms ds <= 1048576) : cntMS ms + cntWS ds <= 1048576 := by
 have h1 := cntMS_le ms
 have h2 := Nat.le_of_eq (cntWS_wt ds)
 unfold wtArr at h
 omega
theorem sumL_append (a b : List Nat) : sumL (a ++ b) = sumL a + sumL b := by
 induction a with
 | nil => simp [sumL]
 | cons x a ih =>
  simp only [List.cons_append, sumL, List.foldr_cons] at *
  omega
theorem wtWrS_append (a b : List EntD) : wtWrS (a ++ b) = wtWrS a + wtWrS b := by
 unfold wtWrS
 rw [List.map_append, sumL_append, List.length_append]
 omega
theorem wtWrS_drop (l : List EntD) (k : Nat) : wtWrS (l.take k) + wtWrS (l.drop k) = wtWrS l := by
 rw [← wtWrS_append, List.take_append_drop]
theorem wtWrS_drop1 (l : List EntD) (k : Nat) : wtWrS (l.drop (k + 1)) <= wtWrS (l.drop k) := by
 have := wtWrS_drop (l.drop k) 1
 rw [List.drop_drop] at this
 omega

def Asc8 (ds : List (Int × List Int)) : Prop := (∀ (i j : Nat) (e e' : Int × List Int), i < j -> ds[i]? = some e -> ds[j]? = some e' -> e.1 < e'.1) /\ ∀ (i : Nat) (e : Int × List Int), ds[i]? = some e -> 0 <= e.1 /\ e.1 <= 100
def Spot (ds : List (Int × List Int)) (t : Int) (k : Nat) (b : Bool) : Prop :=
 k <= ds.length /\ (∀ (i : Nat) (e : Int × List Int), i < k -> ds[i]? = some e -> e.1 < t) /\ (∀ (i : Nat) (e : Int × List Int), k <= i -> ds[i]? = some e -> t <= e.1) /\ ((b = true /\ ∃ e, ds[k]? = some e /\ e.1 = t) ∨ (b = false /\ ∀ e, ds[k]? = some e -> ¬ e.1 = t))
theorem Spot.hit {ds : List (Int × List Int)} {t : Int} {k : Nat} (h : Spot ds t k true) : at8 ds t = (k : Int) /\ ∃ e, ds[k]? = some e /\ e.1 = t := by
 obtain ⟨h1, h2, h3, h4⟩ := h
 rcases h4 with ⟨_, e, he, ht⟩ | ⟨h4, _⟩
 . exact ⟨at8_hit he ht (fun i e' hi he' h' => by have := h2 i e' hi he'; omega), e, he, ht⟩
 . cases h4
theorem Spot.miss {ds : List (Int × List Int)} {t : Int} {k : Nat} (ha : Asc8 ds) (h : Spot ds t k false) : at8 ds t = -1 := by
 obtain ⟨h1, h2, h3, h4⟩ := h
 rcases h4 with ⟨h4, _⟩ | ⟨_, h4⟩
 . cases h4
 . refine at8_none (fun i e hi he h' => ?_)
   rcases Nat.lt_trichotomy i k with h | h | h
   . have := h2 i e h he; omega
   . subst h; exact h4 e he h'
   . have hk : k < ds.length := by omega
     have hkk := List.getElem?_eq_getElem hk
     have h5 := h3 k _ (Nat.le_refl _) hkk
     have h6 := ha.1 k i _ e h hkk he
     omega

def EntsSo (w : World) (a : Option Addr) (ds : List (Int × List Int)) (Q : Nat -> List Int -> Option Addr -> Nat -> Prop) : Prop :=
 ∀ (i : Nat) (d : Int × List Int), ds[i]? = some d -> ∃ (b off : Nat) (a' : Option Addr) (c' : Nat), a = some ⟨b, off, none⟩ /\ b < w.heap.size /\ w.cell? ⟨b, off + i * 2, none⟩ = some (.int .i64 d.1) /\ w.cell? ⟨b, off + i * 2 + 1, none⟩ = some (.slice a' d.2.length c') /\ Q i d.2 a' c'
theorem ents_so {w : World} {G : TypeId} {a : Option Addr} {n cap : Nat} {ds : List (Int × List Int)} (h : (tWrS G).Rd w [.slice a n cap] ds) : EntsSo w a ds fun _ ys a' c' => tIntS.Rd w [.slice a' ys.length c'] ys := fun i d hd => by
 have hl := (row_length h).1
 have hi := (List.getElem?_eq_some_iff.1 hd).1
 rcases pairs_at rfl h with h0 | ⟨b, off, rfl, hbl, hcs⟩
 . omega
 obtain ⟨u0, u1, hv0, hv1, hrv⟩ := hcs i d hd
 obtain ⟨rfl, hr1⟩ := wr_rd hrv
 obtain ⟨a1, c1, rfl⟩ := row_shape hr1
 exact ⟨b, off, a1, c1, rfl, hbl, hv0, hv1, hr1⟩

def Upto (P : Program) (ops : Array Oper) (Q : Exit -> Act -> World -> Prop) (S : World -> Prop) (k : Nat) : Nat -> Array Bool -> Act -> World -> Prop
 | 0, l, a, w => Region.ready .any ops l = [] /\ Q .normal a w
 | n + 1, l, a, w => (Region.ready .any ops l = [] -> Q .normal a w) /\ ∀ j ∈ Region.ready .any ops l, wpOp P ops Q j (fun a' w' => (j ≠ k -> S w') /\ Upto P ops Q S k n (l.setIfInBounds j true) a' w') a w

section
variable {P : Program} {ops : Array Oper} {Q : Exit -> Act -> World -> Prop} {S : World -> Prop} {k : Nat}

theorem Upto.any : ∀ (n : Nat) (l : Array Bool) (a : Act) (w : World), Upto P ops Q S k n l a w -> wpAny P .any ops Q n l a w
 | 0, _, _, _, h => h
 | n + 1, _, _, _, h => ⟨h.1, fun j hj => wpOp_mono (fun a' w' h' => Upto.any n _ a' w' h'.2) (h.2 j hj)⟩

theorem Upto.start {id : Nat} {a : Act} {w : World} (hm : P.follows .mixedOrders = true) (h : Upto P ops Q S k ops.size (Array.replicate ops.size false) a w.drew) : (Code.region id ops true).wp P Q a w :=
 wp_region_any hm (Upto.any _ _ _ _ h)

theorem unlisted {l : Array Bool} {i : Nat} (h0 : l.getD i true = false) (h1 : l.getD i false = true) : False := by
 by_cases hi : i < l.size
 . simp [hi] at h0 h1
   rw [h0] at h1
   cases h1
 . simp [Array.getElem?_eq_none (Nat.le_of_not_lt hi)] at h1

theorem Upto.first {i : Nat} {oi ok : Oper} {v : Value} (hi : ops[i]? = some oi) (hk : ops[k]? = some ok) (hki : ∃ e ∈ ok.after, Region.binds .any e = true /\ e.on = i)
 (hsel : ∀ (j : Nat) (o : Oper) cs b, ops[j]? = some o -> o.op ≠ .select cs b) (hQ : ∀ c a w, Q (.panic c) (a.put oi.dst v) w -> Q (.panic c) a w) (n : Nat) :
 ∀ (l : Array Bool) (a : Act) (w : World),
  (∀ j oj, ops[j]? = some oj -> j ≠ i -> l.getD j true = false -> (∀ e ∈ oj.after, Region.binds .any e = true -> e.on ≠ i) -> oi.apart ops oj = true) ->
  i ∈ Region.ready .any ops l -> YieldsIf P ops S oi v a -> S w -> Upto P ops Q S k n (l.setIfInBounds i true) (a.put oi.dst v) w -> Upto P ops Q S k (n + 1) l a w := by
 induction n with
 | zero =>
  intro l a w _ hr hy hS H
  constructor
  . intro h
    rw [h] at hr
    simp at hr
  . intro j hj
    by_cases hji : j = i
    . rw [hji]
      exact hy.wpOp hi hS ⟨fun _ => hS, H⟩
    . have h2 := ready_mono (i := i) hj hji
      rw [H.1] at h2
      simp at h2
 | succ n ih =>
  intro l a w hfree hr hy hS H
  constructor
  . intro h
    rw [h] at hr
    simp at hr
  . intro j hj
    by_cases hji : j = i
    . rw [hji]
      exact hy.wpOp hi hS ⟨fun _ => hS, H⟩
    . obtain ⟨hju, oj, hoj, hall⟩ := mem_ready.1 hj
      have hiu := (mem_ready.1 hr).1
      have hno : ∀ e ∈ oj.after, Region.binds .any e = true -> e.on ≠ i := fun e he hb hon => unlisted hiu (hon ▸ hall e he hb)
      have hjk : j ≠ k := by
       intro hjk
       rw [hjk, hk] at hoj
       obtain ⟨e, he, hb, hon⟩ := hki
       cases hoj
       exact hno e he hb hon
      have h1 := H.2 j (ready_mono hj hji)
      have h2 := wpOp_putIf hoj (hfree j oj hoj hji hju hno) (fun cs b => hsel i oi cs b hi) (fun cs b => hsel j oj cs b hoj) hQ hy h1
      refine wpOp_mono ?_ h2
      intro a' w' h3
      have hS' := h3.2.1 hjk
      refine ⟨fun _ => hS', ih _ a' w' ?_ (ready_mono hr (Ne.symm hji)) h3.1 hS' ?_⟩
      . intro m om hm hmi hun hnm
        refine hfree m om hm hmi ?_ hnm
        by_cases hjm : j = m
        . rw [← hjm]
          exact hju
        . rw [getD_set_ne true hjm] at hun
          exact hun
      . rw [Array.setIfInBounds_comm _ _ hji]
        exact h3.2.2

theorem op_at {i : Nat} {o : Oper} {tl : List Oper} (h : ops.toList.drop i = o :: tl) : ops[i]? = some o := by
 have h1 : (ops.toList.drop i)[0]? = some o := by rw [h]; rfl
 rw [List.getElem?_drop] at h1
 simpa using h1

theorem Upto.take {i : Nat} {oi : Oper} {v : Value} {n : Nat} {l : Array Bool} {a : Act} {w : World} {tl : List Oper} (hi' : ops.toList.drop i = oi :: tl)
 (hki : ((ops[k]?).map fun o => o.after.any fun e => Region.binds .any e && e.on == i) = some true) (hs : Region.noSelect ops = true) (hf : Region.free .any ops l i = true) (hr : (Region.ready .any ops l).contains i = true)
 (hQ : ∀ c a w, Q (.panic c) (a.put oi.dst v) w -> Q (.panic c) a w) (hy : YieldsIf P ops S oi v a) (hS : S w) (h : Upto P ops Q S k n (l.setIfInBounds i true) (a.put oi.dst v) w) : Upto P ops Q S k (n + 1) l a w := by
 have hi := op_at hi'
 cases hk : ops[k]? with
 | none => rw [hk] at hki; cases hki
 | some ok =>
  rw [hk] at hki
  simp only [Option.map_some, Option.some.injEq, Array.any_eq_true', Bool.and_eq_true, beq_iff_eq] at hki
  exact Upto.first hi hk hki (Region.noSelect_spec hs) hQ n l a w (Region.free_spec hi hf) (by simpa using hr) hy hS h

theorem Upto.one {i : Nat} {o : Oper} {n : Nat} {l : Array Bool} {a : Act} {w : World} {tl : List Oper} (hr : Region.ready .any ops l = [i]) (ho : ops.toList.drop i = o :: tl)
 (h : ∀ K' : Act -> World -> Prop, Shut (∀ a w, (i ≠ k -> S w) -> Upto P ops Q S k n (l.setIfInBounds i true) a w -> K' a w) -> if Region.wanted o (yielded ops a.tmps) = true then Oper.wp P o a w K' Q else K' (a.put o.dst undef) w) : Upto P ops Q S k (n + 1) l a w := by
 constructor
 . intro h0
   rw [hr] at h0
   simp at h0
 . intro j hj
   rw [hr] at hj
   simp at hj
   rw [hj]
   exact wpOp_step (op_at ho) (fun K' hK => h K' (fun a w hS hW => hK a w ⟨hS, hW⟩))

theorem Upto.done {l : Array Bool} {a : Act} {w : World} (hr : Region.ready .any ops l = []) (h : Q .normal a w) : ∀ n, Upto P ops Q S k n l a w
 | 0 => ⟨hr, h⟩
 | _ + 1 => ⟨fun _ => h, by rw [hr]; simp⟩

end

variable {P : Program} {ops : Array Oper} {Q : Exit -> Act -> World -> Prop} {S : World -> Prop}

theorem held_take {i : Nat} {oi : Oper} {v : Value} {fuel : Nat} {l : Array Bool} {a : Act} {w : World} {tl : List Oper} (hi : ops.toList.drop i = oi :: tl)
 (hs : Region.noSelect ops = true) (hf : Region.free .any ops l i = true) (hr : (Region.ready .any ops l).contains i = true)
 (hQ : ∀ c a w, Q (.panic c) (a.put oi.dst v) w -> Q (.panic c) a w) (hw : Region.wanted oi (yielded ops a.tmps) = true) (hy : ∀ w, S w -> (execOp a.eval oi).run P w = .ok (.value v) w) (hS : S w)
 (h : wpAnyH P .any ops Q S fuel (l.setIfInBounds i true) (a.put oi.dst v) w) : wpAnyH P .any ops Q S (fuel + 1) l a w :=
 wpAnyH_take (op_at hi) hs hf hr hQ (Or.inl ⟨hw, hy⟩) hS h
theorem held_pass {i : Nat} {oi : Oper} {fuel : Nat} {l : Array Bool} {a : Act} {w : World} {tl : List Oper} (hi : ops.toList.drop i = oi :: tl)
 (hs : Region.noSelect ops = true) (hf : Region.free .any ops l i = true) (hr : (Region.ready .any ops l).contains i = true)
 (hQ : ∀ c a w, Q (.panic c) (a.put oi.dst undef) w -> Q (.panic c) a w) (hw : Region.wanted oi (yielded ops a.tmps) = false) (hS : S w)
 (h : wpAnyH P .any ops Q S fuel (l.setIfInBounds i true) (a.put oi.dst undef) w) : wpAnyH P .any ops Q S (fuel + 1) l a w :=
 wpAnyH_take (op_at hi) hs hf hr hQ (Or.inr ⟨hw, rfl⟩) hS h
theorem held_one {i : Nat} {o : Oper} {fuel : Nat} {l : Array Bool} {a : Act} {w : World} {tl : List Oper} (hr : Region.ready .any ops l = [i]) (ho : ops.toList.drop i = o :: tl) (hw : Region.wanted o (yielded ops a.tmps) = true)
 (h : ∀ K' : Act -> World -> Prop, Shut (∀ a w, S w -> (S w -> wpAnyH P .any ops Q S fuel (l.setIfInBounds i true) a w) -> K' a w) -> Oper.wp P o a w K' Q) : wpAnyH P .any ops Q S (fuel + 1) l a w :=
 wpAnyH_ready hr (by simp) (AllReadyH.cons (op_at ho) (fun K' hK => by rw [if_pos hw]; exact h K' hK) AllReadyH.nil)
theorem held_t (i : Nat) {oi : Oper} {v : Value} {fuel : Nat} {l : Array Bool} {a a' : Act} {w : World} {tl : List Oper} (hS : S w) (h : wpAnyH P .any ops Q S fuel (l.setIfInBounds i true) a' w) (hi : ops.toList.drop i = oi :: tl := by rfl)
 (hs : Region.noSelect ops = true := by kernel_rfl) (hf : Region.free .any ops l i = true := by kernel_rfl) (hr : (Region.ready .any ops l).contains i = true := by kernel_rfl)
 (hQ : ∀ c a w, Q (.panic c) (a.put oi.dst v) w -> Q (.panic c) a w := by exact fun _ _ _ h => h) (hw : Region.wanted oi (yielded ops a.tmps) = true := by kernel_rfl)
 (hy : ∀ w, S w -> (execOp a.eval oi).run P w = .ok (.value v) w := by (intro w hSw; (try dsimp only at hSw); go_split_ands; go_simp; first | done | with_reducible rfl))
 (ha : a.put oi.dst v = a' := by (simp only [Act.put, List.setIfInBounds_toArray, List.set_cons_zero, List.set_cons_succ]; first | done | rfl)) : wpAnyH P .any ops Q S (fuel + 1) l a w := held_take hi hs hf hr hQ hw hy hS (ha ▸ h)
theorem held_none {i : Nat} {o : Oper} {fuel : Nat} {l : Array Bool} {a : Act} {w : World} {tl : List Oper} (hr : Region.ready .any ops l = [i]) (ho : ops.toList.drop i = o :: tl) (hw : Region.wanted o (yielded ops a.tmps) = false) (hS : S w)
 (h : wpAnyH P .any ops Q S fuel (l.setIfInBounds i true) (a.put o.dst undef) w) : wpAnyH P .any ops Q S (fuel + 1) l a w :=
 wpAnyH_ready hr (by simp) (AllReadyH.cons (op_at ho) (fun K' hK => by rw [if_neg (by rw [hw]; simp)]; exact hK _ _ hS (fun _ => h)) AllReadyH.nil)

theorem Upto.t {k : Nat} (i : Nat) {oi : Oper} {v : Value} {n : Nat} {l : Array Bool} {a a' : Act} {w : World} {tl : List Oper} (hS : S w) (h : Upto P ops Q S k n (l.setIfInBounds i true) a' w) (hi : ops.toList.drop i = oi :: tl := by rfl)
 (hki : ((ops[k]?).map fun o => o.after.any fun e => Region.binds .any e && e.on == i) = some true := by kernel_rfl) (hs : Region.noSelect ops = true := by kernel_rfl) (hf : Region.free .any ops l i = true := by kernel_rfl) (hr : (Region.ready .any ops l).contains i = true := by kernel_rfl)
 (hQ : ∀ c a w, Q (.panic c) (a.put oi.dst v) w -> Q (.panic c) a w := by exact fun _ _ _ h => h) (hw : Region.wanted oi (yielded ops a.tmps) = true := by rfl) (hy : ∀ w, S w -> (execOp a.eval oi).run P w = .ok (.value v) w := by (intro w hSw; (try dsimp only at hSw); go_split_ands; go_simp; first | done | with_reducible rfl)) (ha : a.put oi.dst v = a' := by (simp only [Act.put, List.setIfInBounds_toArray, List.set_cons_zero, List.set_cons_succ]; first | done | rfl)) : Upto P ops Q S k (n + 1) l a w :=
 Upto.take hi hki hs hf hr hQ (Or.inl ⟨hw, hy⟩) hS (ha ▸ h)
theorem held_p (i : Nat) {oi : Oper} {fuel : Nat} {l : Array Bool} {a a' : Act} {w : World} {tl : List Oper} (hS : S w) (h : wpAnyH P .any ops Q S fuel (l.setIfInBounds i true) a' w) (hi : ops.toList.drop i = oi :: tl := by rfl)
 (hs : Region.noSelect ops = true := by kernel_rfl) (hf : Region.free .any ops l i = true := by kernel_rfl) (hr : (Region.ready .any ops l).contains i = true := by kernel_rfl)
 (hQ : ∀ c a w, Q (.panic c) (a.put oi.dst undef) w -> Q (.panic c) a w := by exact fun _ _ _ h => h) (hw : Region.wanted oi (yielded ops a.tmps) = false := by kernel_rfl)
 (ha : a.put oi.dst undef = a' := by (simp only [Act.put, List.setIfInBounds_toArray, List.set_cons_zero, List.set_cons_succ]; first | done | rfl)) : wpAnyH P .any ops Q S (fuel + 1) l a w := held_pass hi hs hf hr hQ hw hS (ha ▸ h)

def isW (n : Int) : Bool := decide (0 <= n) && decide (n <= 65535)
def allW (l : List Int) : Bool := l.all isW
def secB (l : List Int) : Bool := decide (l.length <= 12) && allW l

theorem allW_step {zs : List Int} {j : Nat} {x : Int} (h : j < zs.length) (hx : zs.getD j 0 = x) :
 (isW x = true -> allW (zs.take j) = true -> allW (zs.take (j + 1)) = true) /\ (isW x = false -> allW zs = false) := by
 have e : zs[j] = x := by rw [← hx]; simp [List.getElem?_eq_getElem h]
 refine ⟨fun h1 h2 => ?_, fun h1 => ?_⟩
 . unfold allW at *
   rw [List.take_succ_eq_append_getElem h, List.all_append, h2, e]
   simp [h1]
 . unfold allW
   rw [List.all_eq_false]
   exact ⟨x, by rw [← e]; exact List.getElem_mem h, by simp [h1]⟩

theorem isWord_any (n : Int) (w : World) : Calls Tryz.prog 78 #[.int .i64 n] w fun e w' => e = .returned (.bool (isW n)) /\ w' = w := by
 unfold isW
 by_cases h0 : 0 <= n
 . by_cases h1 : n <= 65535
   . go_enter Tryz.func78, Tryz.ntmps78
     go_wp2
     go_ret
     exact ⟨ret_bool (by simp [h0, h1]), rfl⟩
   . go_enter Tryz.func78, Tryz.ntmps78
     go_wp2
     go_ret
     exact ⟨ret_bool (by symm; simp; omega), rfl⟩
 . go_enter Tryz.func78, Tryz.ntmps78
   go_wp2
   go_ret
   exact ⟨ret_bool (by symm; simp; omega), rfl⟩

theorem l1Word_any (n : Int) (w : World) : Calls Tryz.prog 80 #[.int .i64 n] w fun e w' => e = .returned (.bool (isW n)) /\ w' = w := by
 go_enter Tryz.func80, Tryz.ntmps80
 go_wp2_with (go_at_call 85; refine (l1In_any _ _ _ _).mono ?_; rintro e w' ⟨rfl, rfl⟩)
 go_ret
 exact ⟨rfl, rfl⟩

theorem l1Words_any (w : World) (a : Option Addr) (len cap : Nat) (zs : List Int) (hz : zs.length = len) (hr : Reads .i64 w a zs) (hlen : len <= 2097152) :
 Calls Tryz.prog 119 #[.slice a len cap] w fun e w' => e = .returned (.bool (allW zs)) /\ w' = w := by
 go_enter Tryz.func119, Tryz.ntmps119
 go_wp2
 go_loop [3] (fun i => ∃ j : Nat, j <= len /\ i = .int .i64 j /\ allW (zs.take j) = true) (fun i => len - (intOf i).toNat)
 case atStart => exact ⟨0, Nat.zero_le _, rfl, rfl⟩
 case round =>
  obtain ⟨j, hj, rfl, ht⟩ := hrel
  by_cases hlt : j < len
  . rcases hr.cases with h0 | ⟨b, off, rfl, hbl, hc⟩
    . omega
    have hc1 := hc j (by omega)
    have hd := allW_step (zs := zs) (j := j) (by omega) rfl
    generalize zs.getD j 0 = x at hc1 hd
    have HT : Hid (allW (zs.take j) = true) := ht
    clear hc ht
    by_cases hx : isW x = true
    . have HD := hd.1 hx HT.out
      clear hd
      go_wp2_with (go_at_call 80; refine (l1Word_any _ _).mono ?_; rintro e w' ⟨rfl, rfl⟩)
      go_round
      case rel => exact ⟨j + 1, by omega, by go_num, HD⟩
      case measure => simp [intOf]; omega
    . have hx : isW x = false := by simpa using hx
      have HD := hd.2 hx
      clear hd
      go_wp2_with (go_at_call 80; refine (l1Word_any _ _).mono ?_; rintro e w' ⟨rfl, rfl⟩)
      go_ret
      exact ⟨ret_bool (by rw [HD]), rfl⟩
  . go_wp2
    go_ret
    have e : j = len := by omega
    subst e
    rw [List.take_of_length_le (by omega)] at ht
    exact ⟨ret_bool ht.symm, rfl⟩

theorem specSecOk_any (w : World) (a : Option Addr) (len cap : Nat) (zs : List Int) (hz : zs.length = len) (hr : Reads .i64 w a zs) (hlen : len <= 2097152) :
 Calls Tryz.prog 228 #[.slice a len cap] w fun e w' => e = .returned (.bool (secB zs)) /\ Same w w' := by
 by_cases h : len <= 12
 . go_enter Tryz.func228, Tryz.ntmps228
   go_wp2_with (go_at_call 119; refine (l1Words_any _ _ _ _ zs hz hr hlen).mono ?_; rintro e w' ⟨rfl, rfl⟩)
   go_ret
   exact ⟨ret_bool (by simp [secB, hz, h]), Same.refl _⟩
 . go_enter Tryz.func228, Tryz.ntmps228
   go_wp2
   go_ret
   exact ⟨ret_bool (by simp [secB, hz, h]), Same.refl _⟩

theorem implSecOk_any (w : World) (a : Option Addr) (len cap : Nat) (zs : List Int) (hz : zs.length = len) (hr : Reads .i64 w a zs) (hlen : len <= 2097152) :
 Calls Tryz.prog 109 #[.slice a len cap] w fun e w' => e = .returned (.bool (secB zs)) /\ Same w w' := by
 by_cases h : len <= 12
 . go_enter Tryz.func109, Tryz.ntmps109
   go_wp2
   go_loop [10] (fun i => ∃ j : Nat, j <= len /\ i = .int .i64 j /\ allW (zs.take j) = true) (fun i => len - (intOf i).toNat)
   case atStart => exact ⟨0, Nat.zero_le _, rfl, rfl⟩
   case round =>
    obtain ⟨j, hj, rfl, ht⟩ := hrel
    by_cases hlt : j < len
    . rcases hr.cases with h0 | ⟨b, off, rfl, hbl, hc⟩
      . omega
      have hc1 := hc j (by omega)
      have hd := allW_step (zs := zs) (j := j) (by omega) rfl
      generalize zs.getD j 0 = x at hc1 hd
      have HT : Hid (allW (zs.take j) = true) := ht
      clear hc ht
      by_cases hx : isW x = true
      . have HD := hd.1 hx HT.out
        clear hd
        go_wp2_with (go_at_call 78; refine (isWord_any _ _).mono ?_; rintro e w' ⟨rfl, rfl⟩)
        go_round
        case rel => exact ⟨j + 1, by omega, by go_num, HD⟩
        case measure => simp [intOf]; omega
      . have hx : isW x = false := by simpa using hx
        have HD := hd.2 hx
        clear hd
        go_wp2_with (go_at_call 78; refine (isWord_any _ _).mono ?_; rintro e w' ⟨rfl, rfl⟩)
        go_ret
        exact ⟨ret_bool (by simp [secB, HD]), Same.refl _⟩
    . go_wp2
      go_ret
      have e : j = len := by omega
      subst e
      rw [List.take_of_length_le (by omega)] at ht
      exact ⟨ret_bool (by simp [secB, hz, h, ht]), Same.refl _⟩
 . go_enter Tryz.func109, Tryz.ntmps109
   go_wp2
   go_ret
   exact ⟨ret_bool (by simp [secB, hz, h]), Same.refl _⟩

def wrB (n : Int) (x : Int × List Int) : Bool := inB x.1 0 (n - 1) && secB x.2
def badAt (n : Int) (bs : List Int) (i : Nat) : Bool := inB (bs.getD i 0) 0 (n - 1) && (decide (i = 0) || decide (bs.getD (i - 1) 0 < bs.getD i 0))
def badB (n : Int) (bs : List Int) : Bool := (List.range bs.length).all (badAt n bs)
def memB (ss : List (List Int)) (cs : List (Int × List Int)) (bs : List Int) : Bool :=
 ss.all secB && (cs.all (wrB ss.length) && (badB ss.length bs && (inB ss.length 1 20 && decide (cs.length <= 60))))

theorem all_step {α : Type} {p : α -> Bool} {l : List α} {j : Nat} {x : α} (h : l[j]? = some x) : (p x = true -> (l.take j).all p = true -> (l.take (j + 1)).all p = true) /\ (p x = false -> l.all p = false) := by
 have hj : j < l.length := (List.getElem?_eq_some_iff.1 h).1
 have e : l[j] = x := by rw [List.getElem?_eq_getElem hj] at h; simpa using h
 refine ⟨fun h1 h2 => ?_, fun h1 => ?_⟩
 . rw [List.take_succ_eq_append_getElem hj, List.all_append, h2, e]
   simp [h1]
 . rw [List.all_eq_false]
   exact ⟨x, by rw [← e]; exact List.getElem_mem hj, by simp [h1]⟩

theorem specMemOk_any (w : World) (E : TypeId) (a0 a1 a3 : Option Addr) (n0 c0 n1 c1 n3 c3 : Nat) (ss : List (List Int)) (cs : List (Int × List Int)) (f : Bool) (bs : List Int) (h0 : tIntSS.Rd w [.slice a0 n0 c0] ss) (h1 : (tWrS E).Rd w [.slice a1 n1 c1] cs) (h3 : tIntS.Rd w [.slice a3 n3 c3] bs) (hw : wtMem (ss, cs, f, bs) <= 2097152) :
 Calls Tryz.prog 184 #[.agg #[.slice a0 n0 c0, .slice a1 n1 c1, .bool f, .slice a3 n3 c3]] w fun e w' => e = .returned (.bool (memB ss cs bs)) /\ Below w.heap.size w w' := by
 obtain ⟨hl0, _, hm0⟩ := row_length h0
 obtain ⟨hl1, _, hm1⟩ := row_length h1
 obtain ⟨hl3, _, hm3⟩ := row_length h3
 have hw0 : wtIntSS ss <= 2097152 := by unfold wtMem at hw; simp only at hw; omega
 have hw1 : wtWrS cs <= 2097152 := by unfold wtMem at hw; simp only at hw; omega
 have hw3 : n3 <= 2097152 := by unfold wtMem at hw; simp only at hw; omega
 have hn0 : n0 <= 2097152 := by unfold wtIntSS at hw0; omega
 have hn1 : n1 <= 2097152 := by unfold wtWrS at hw1; omega
 have hA : Below w.heap.size w (w.alloc (.cells #[.slice a0 n0 c0, .slice a1 n1 c1, .bool f, .slice a3 n3 c3] 109)) := (Below.refl _ _).alloc (Nat.le_refl _) _
 have hcell : ∀ j v, (#[Value.slice a0 n0 c0, .slice a1 n1 c1, .bool f, .slice a3 n3 c3])[j]? = some v -> (w.alloc (.cells #[.slice a0 n0 c0, .slice a1 n1 c1, .bool f, .slice a3 n3 c3] 109)).cell? ⟨w.heap.size, j, none⟩ = some v := by
  intro j v hv
  rw [cell_of_row _ w.heap.size j _ _ (0, 0) (heap_alloc_new w _)]
  exact hv
 have k0 := hcell 0 _ rfl
 have k1 := hcell 1 _ rfl
 have k3 := hcell 3 _ rfl
 have g0 := h0.below hA
 have g1 := h1.below hA
 have g3 := h3.below hA
 have hz : w.heap.size < (w.alloc (.cells #[.slice a0 n0 c0, .slice a1 n1 c1, .bool f, .slice a3 n3 c3] 109)).heap.size := by simp
 go_enter Tryz.func184, Tryz.ntmps184
 go_wp2
 generalize hW : w.alloc (.cells #[.slice a0 n0 c0, .slice a1 n1 c1, .bool f, .slice a3 n3 c3] 109) = W at hA k0 k1 k3 g0 g1 g3 hz ⊢
 clear hW hcell h0 h1 h3
 go_loopw [4] (fun i wr => ∃ j : Nat, j <= n0 /\ i = .int .i64 j /\ (ss.take j).all secB = true /\ Same W wr) (fun i _ => n0 - (intOf i).toNat)
 case atStart => exact ⟨0, Nat.zero_le _, rfl, rfl, Same.refl _⟩
 case round =>
  obtain ⟨j, hj, rfl, ht, hs⟩ := hrel
  have q0 := (hs.cell _).trans k0
  by_cases hjn : j < n0
  . rcases rows_at rfl g0 with h0' | ⟨b, off, rfl, hbl, hcs⟩
    . omega
    have hdj : ss[j]? = some (ss[j]'(by omega)) := List.getElem?_eq_getElem (by omega)
    generalize ss[j]'(by omega) = x at hdj
    have hal := all_step (p := secB) hdj
    have hil := inner_le hdj
    obtain ⟨v, hv, hrv⟩ := hcs j x hdj
    obtain ⟨av, cv, rfl⟩ := row_shape hrv
    have q1 := (hs.cell ⟨b, off + j, none⟩).trans hv
    obtain ⟨r1, _, _, _⟩ := ints_rd (hrv.same hs)
    have HT := hidden ht
    clear hcs hdj hv hrv ht
    by_cases hx : secB x = true
    . have HD := hidden (hal.1 hx HT.out)
      clear hal
      go_wp2_with fail
      refine (specSecOk_any _ _ _ _ x rfl r1 (by omega)).mono ?_
      rintro e w1 ⟨rfl, hs1⟩
      go_wp2
      go_roundw
      case rel => exact ⟨j + 1, by omega, by go_num, HD.out, hs.trans hs1⟩
      case measure => simp [intOf]; omega
    . have hx : secB x = false := by simpa using hx
      have HN := hidden (hal.2 hx)
      clear hal
      go_wp2_with fail
      refine (specSecOk_any _ _ _ _ x rfl r1 (by omega)).mono ?_
      rintro e w1 ⟨rfl, hs1⟩
      go_wp2
      go_ret
      exact ⟨ret_bool (by unfold memB; rw [HN.out]; rfl), Below.andSame (Below.andSame hA hs) hs1⟩
  . have e : j = n0 := by omega
    subst e
    rw [List.take_of_length_le (by omega)] at ht
    have HS0 := hidden ht
    have hss : ss.length = j := hl0
    clear ht hj hjn q0
    go_wp2
    go_loopw [5] (fun i wr => ∃ i2 : Nat, i2 <= n1 /\ i = .int .i64 i2 /\ (cs.take i2).all (wrB j) = true /\ Same W wr) (fun i _ => n1 - (intOf i).toNat)
    case atStart => exact ⟨0, Nat.zero_le _, rfl, rfl, hs⟩
    case round =>
     clear hs
     obtain ⟨i2, hi2, rfl, ht, hs⟩ := hrel
     have q1 := (hs.cell _).trans k1
     by_cases hin : i2 < n1
     . rcases pairs_at rfl g1 with h0' | ⟨b, off, rfl, hbl, hcs⟩
       . omega
       have hdj : cs[i2]? = some (cs[i2]'(by omega)) := List.getElem?_eq_getElem (by omega)
       generalize cs[i2]'(by omega) = x at hdj
       have hal := all_step (p := wrB j) hdj
       have hil := inner_le' hdj
       obtain ⟨v0, v1, hv0, hv1, hrv⟩ := hcs i2 x hdj
       obtain ⟨rfl, hrv'⟩ := wr_rd hrv
       obtain ⟨av, cv, rfl⟩ := row_shape hrv'
       have p0 := (hs.cell ⟨b, off + i2 * 2, none⟩).trans hv0
       have p1 := (hs.cell ⟨b, off + i2 * 2 + 1, none⟩).trans hv1
       obtain ⟨r1, _, _, _⟩ := ints_rd (hrv'.same hs)
       obtain ⟨x0, x1⟩ := x
       simp only at p0 p1 r1 hil
       have HT := hidden ht
       clear hcs hdj hv0 hv1 hrv hrv' ht
       by_cases hI : inB x0 0 ((j : Int) - 1) = true
       . by_cases hx : secB x1 = true
         . have HD := hidden (hal.1 (by unfold wrB; simp only; rw [hI, hx]; rfl) HT.out)
           clear hal
           go_wp2_with fail
           refine (l1In_any _ _ _ _).mono ?_
           rintro e w1 ⟨rfl, hw1'⟩
           subst w1
           go_wp2_with fail
           refine (specSecOk_any _ _ _ _ x1 rfl r1 (by omega)).mono ?_
           rintro e w2 ⟨rfl, hs2⟩
           go_wp2
           go_roundw
           case rel => exact ⟨i2 + 1, by omega, by go_num, HD.out, hs.trans hs2⟩
           case measure => simp [intOf]; omega
         . have hx : secB x1 = false := by simpa using hx
           have HN := hidden (hal.2 (by unfold wrB; simp only; rw [hI, hx]; rfl))
           clear hal
           go_wp2_with fail
           refine (l1In_any _ _ _ _).mono ?_
           rintro e w1 ⟨rfl, hw1'⟩
           subst w1
           go_wp2_with fail
           refine (specSecOk_any _ _ _ _ x1 rfl r1 (by omega)).mono ?_
           rintro e w2 ⟨rfl, hs2⟩
           go_wp2
           go_ret
           exact ⟨ret_bool (by unfold memB; rw [hss, HN.out, HS0.out]; rfl), Below.andSame (Below.andSame hA hs) hs2⟩
       . have hI : inB x0 0 ((j : Int) - 1) = false := by simpa using hI
         have HN := hidden (hal.2 (by unfold wrB; simp only; rw [hI]; rfl))
         clear hal
         go_wp2_with fail
         refine (l1In_any _ _ _ _).mono ?_
         rintro e w1 ⟨rfl, hw1'⟩
         subst w1
         go_wp2
         go_ret
         exact ⟨ret_bool (by unfold memB; rw [hss, HN.out, HS0.out]; rfl), Below.andSame hA hs⟩
     . have e2 : i2 = n1 := by omega
       subst e2
       rw [List.take_of_length_le (by omega)] at ht
       have HS1 := hidden ht
       have hcsl : cs.length = i2 := hl1
       clear ht hi2 hin
       go_wp2
       go_loopw [6] (fun i wr => ∃ i3 : Nat, i3 <= n3 /\ i = .int .i64 i3 /\ (List.range i3).all (badAt j bs) = true /\ Same W wr) (fun i _ => n3 - (intOf i).toNat)
       case atStart => exact ⟨0, Nat.zero_le _, rfl, rfl, hs⟩
       case round =>
        clear hs
        obtain ⟨i3, hi3, rfl, ht, hs⟩ := hrel
        have q3 := (hs.cell _).trans k3
        by_cases hi3n : i3 < n3
        . obtain ⟨R3, _, _, _⟩ := ints_rd g3
          rcases R3.cases with h0' | ⟨b, off, rfl, hbl, hcs⟩
          . omega
          have p0 := (hs.cell ⟨b, off + i3, none⟩).trans (hcs i3 (by omega))
          have HT := hidden ht
          have hrs : (List.range (i3 + 1)).all (badAt j bs) = ((List.range i3).all (badAt j bs) && badAt j bs i3) := by rw [List.range_succ, List.all_append]; simp
          have hrn : badAt j bs i3 = false -> badB j bs = false := by
           intro h
           unfold badB
           rw [List.all_eq_false]
           exact ⟨i3, by simp; omega, by simp [h]⟩
          have hbd : badAt j bs i3 = (inB (bs.getD i3 0) 0 ((j : Int) - 1) && (decide (i3 = 0) || decide (bs.getD (i3 - 1) 0 < bs.getD i3 0))) := rfl
          have i1 : (0 : Int) <= (i3 : Int) := by omega
          have i2' : (i3 : Int) < (n3 : Int) := by omega
          have gw : IntKind.i64.wrap ((j : Int) - 1) = (j : Int) - 1 := IntWalk.i64_in _ (by omega)
          by_cases hI : inB (bs.getD i3 0) 0 ((j : Int) - 1) = true
          . by_cases hz3 : i3 = 0
            . have HD : Hid ((List.range (i3 + 1)).all (badAt j bs) = true) := by unfold Hid; rw [hrs, HT.out, hbd, hI, decide_eq_true hz3]; rfl
              generalize bs.getD i3 0 = y at p0 hI
              have d0 : decide ((0 : Int) < (i3 : Int)) = false := decide_eq_false (by omega)
              have d0b : decide (0 < i3) = false := decide_eq_false (by omega)
              have HZ := hidden hz3
              clear hcs ht hrs hrn hbd hz3 R3
              go_wp2_with fail
              go_quiet ((go_at_call 85; exact Calls.quiet_of_same (l1In_any _ _ _ _)))
              go_wp2
              go_roundw
              case rel => exact ⟨i3 + 1, by omega, by go_num, HD.out, hs.drewN _⟩
              case measure => simp [intOf]; omega
            . have p1 := (hs.cell ⟨b, off + (i3 - 1), none⟩).trans (hcs (i3 - 1) (by omega))
              have d0 : decide ((0 : Int) < (i3 : Int)) = true := decide_eq_true (by omega)
              have d0b : decide (0 < i3) = true := decide_eq_true (by omega)
              have gv : IntKind.i64.wrap ((i3 : Int) - 1) = (i3 : Int) - 1 := IntWalk.i64_in _ (by omega)
              have gt : ((i3 : Int) - 1).toNat = i3 - 1 := by omega
              have i3a : (0 : Int) <= (i3 : Int) - 1 := by omega
              have i3b : (i3 : Int) - 1 < (n3 : Int) := by omega
              by_cases hlt : bs.getD (i3 - 1) 0 < bs.getD i3 0
              . have HD : Hid ((List.range (i3 + 1)).all (badAt j bs) = true) := by unfold Hid; rw [hrs, HT.out, hbd, hI, decide_eq_true hlt]; simp
                generalize bs.getD i3 0 = y at p0 hI hlt
                generalize bs.getD (i3 - 1) 0 = z at p1 hlt
                have d1 : ¬ y <= z := by omega
                clear hcs ht hrs hrn hbd hz3 R3
                go_wp2_with fail
                go_quiet ((go_at_call 85; exact Calls.quiet_of_same (l1In_any _ _ _ _)))
                go_wp2
                go_roundw
                case rel => exact ⟨i3 + 1, by omega, by go_num, HD.out, hs.drewN _⟩
                case measure => simp [intOf]; omega
              . have HN := hidden (hrn (by rw [hbd, hI, decide_eq_false hz3, decide_eq_false hlt]; rfl))
                generalize bs.getD i3 0 = y at p0 hI hlt
                generalize bs.getD (i3 - 1) 0 = z at p1 hlt
                have d1 : y <= z := by omega
                clear hcs ht hrs hrn hbd hz3 R3
                go_wp2_with fail
                go_quiet ((go_at_call 85; exact Calls.quiet_of_same (l1In_any _ _ _ _)))
                go_wp2
                go_ret
                exact ⟨ret_bool (by unfold memB; rw [hss, HN.out, HS1.out, HS0.out]; rfl), Below.andSame hA (hs.drewN _)⟩
          . have hI : inB (bs.getD i3 0) 0 ((j : Int) - 1) = false := by simpa using hI
            have HN := hidden (hrn (by rw [hbd, hI]; rfl))
            generalize bs.getD i3 0 = y at p0 hI
            clear hcs ht hrs hrn hbd R3
            go_wp2_with fail
            go_quiet ((go_at_call 85; exact Calls.quiet_of_same (l1In_any _ _ _ _)))
            go_wp2
            go_ret
            exact ⟨ret_bool (by unfold memB; rw [hss, HN.out, HS1.out, HS0.out]; rfl), Below.andSame hA (hs.drewN _)⟩
        . have e3 : i3 = n3 := by omega
          have HB : Hid (badB j bs = true) := by unfold Hid badB; rw [hl3, ← e3]; exact ht
          clear ht hi3
          have q1 := (hs.cell _).trans k1
          by_cases hI : inB (j : Int) 1 20 = true
          . by_cases h60 : (i2 : Int) <= 60
            . have h60' : i2 <= 60 := by omega
              have H60 := hidden (decide_eq_true h60')
              clear h60'
              go_wp2_with fail
              refine (l1In_any _ _ _ _).mono ?_
              rintro e w1 ⟨rfl, hw1'⟩
              subst w1
              go_wp2
              go_ret
              exact ⟨ret_bool (by unfold memB; rw [hss, hcsl, HB.out, HS1.out, HS0.out, hI, H60.out]; rfl), Below.andSame hA hs⟩
            . have h60' : ¬ i2 <= 60 := by omega
              have H60 := hidden (decide_eq_false h60')
              clear h60'
              go_wp2_with fail
              refine (l1In_any _ _ _ _).mono ?_
              rintro e w1 ⟨rfl, hw1'⟩
              subst w1
              go_wp2
              go_ret
              exact ⟨ret_bool (by unfold memB; rw [hss, hcsl, HB.out, HS1.out, HS0.out, hI, H60.out, decide_eq_false (by omega)]; rfl), Below.andSame hA hs⟩
          . have hI : inB (j : Int) 1 20 = false := by simpa using hI
            go_wp2_with fail
            refine (l1In_any _ _ _ _).mono ?_
            rintro e w1 ⟨rfl, hw1'⟩
            subst w1
            go_wp2
            go_ret
            exact ⟨ret_bool (by unfold memB; rw [hss, HB.out, HS1.out, HS0.out, hI]; rfl), Below.andSame hA hs⟩

def allIx {α : Type} (p : Nat -> α -> Bool) (l : List α) : Bool := (List.range l.length).all fun i => (l[i]?.map (p i)).getD true
theorem allIx_iff {α : Type} {p : Nat -> α -> Bool} {l : List α} : allIx p l = true ↔ ∀ (i : Nat) (x : α), l[i]? = some x -> p i x = true := by
 unfold allIx
 rw [List.all_eq_true]
 constructor
 . intro h i x hx
   have := h i (by rw [List.mem_range]; exact (List.getElem?_eq_some_iff.1 hx).1)
   rw [hx] at this
   simpa using this
 . intro h i hi
   cases hx : l[i]? with
   | none => rfl
   | some x => simpa using h i x hx
theorem allIx_no {α : Type} {p : Nat -> α -> Bool} {l : List α} {i : Nat} {x : α} (hx : l[i]? = some x) (h : p i x = false) : allIx p l = false := by
 cases hb : allIx p l with
 | false => rfl
 | true => rw [allIx_iff.1 hb i x hx] at h; cases h

def memAt (x : ArrN) (i : Nat) (m : MemD) : Bool := memB m.1 m.2.1 m.2.2.2 && (decide ((m.1.length : Int) = 6 + x.s) && (!m.2.2.1 || (decide ((i : Int) = x.lost) || x.broken)))
def memsB (x : ArrN) (ms : List MemD) : Bool := allIx (memAt x) ms && decide ((ms.length : Int) = x.n)
def entAt (x : ArrN) (ds : List (Int × List Int)) (i : Nat) (e : Int × List Int) : Bool := inB e.1 0 (x.s - 1) && (decide ((e.2.length : Int) = x.n - 1) && (allW e.2 && (decide (i = 0) || decide ((ds.getD (i - 1) (0, [])).1 < e.1))))
def entsB (x : ArrN) (ds : List (Int × List Int)) : Bool := allIx (entAt x ds) ds
def lostB6 (x : ArrN) : Bool := inB x.lost (-1) (x.n - 1) && (inB x.built 0 x.s && (!decide (x.lost = -1) || decide (x.built = 0)))
def seqB6 (x : ArrN) : Bool := inB x.tail 0 60000 && (inB x.seq x.tail 60000 && (decide (x.seq <= x.tail + 4) && (inB x.gen 0 60000 && inB x.fuse (-1) 1000)))
def arrB (x : ArrN) (ms : List MemD) (ds : List (Int × List Int)) : Bool := geoB x.n x.s && (inB x.id 1 60000 && (memsB x ms && (entsB x ds && (lostB6 x && seqB6 x))))

theorem l6Secs_any (w : World) (n s : Int) (hs : 1 <= s /\ s <= 8) : Calls Tryz.prog 185 #[.agg #[.int .i64 n, .int .i64 s]] w fun e w' => e = .returned (.int .i64 (6 + s)) /\ Below w.heap.size w w' := by
 have hA := new_below w (.cells #[.int .i64 n, .int .i64 s] 25)
 obtain ⟨k0, k1⟩ := (Gbox.new w 25 n s).cells
 have hw : IntKind.i64.wrap (6 + s) = 6 + s := IntWalk.i64_in _ (by omega)
 go_enter Tryz.func185, Tryz.ntmps185
 go_wp2
 go_ret
 exact ⟨rfl, hA⟩

theorem l6Mems_any (w : World) (E F : TypeId) (x : ArrN) (am ad : Option Addr) (nm cm nd cd : Nat) (ms : List MemD) (h0 : (tMemS E F).Rd w [.slice am nm cm] ms) (hw : wtMemS ms <= 2097152) (hg : geoB x.n x.s = true) :
 Calls Tryz.prog 132 #[.agg #[.int .i64 x.id, .int .i64 x.n, .int .i64 x.s, .slice am nm cm, .int .i64 x.lost, .int .i64 x.built, .int .i64 x.seq, .int .i64 x.tail, .int .i64 x.gen, .slice ad nd cd, .int .i64 x.fuse, .bool x.down, .bool x.broken]] w fun e w' => e = .returned (.bool (memsB x ms)) /\ Below w.heap.size w w' := by
 obtain ⟨hl, hc, hm⟩ := row_length h0
 obtain ⟨g1, g2, g3, g4⟩ := geoB_iff.1 hg
 have hA := new_below w (.cells #[.int .i64 x.id, .int .i64 x.n, .int .i64 x.s, .slice am nm cm, .int .i64 x.lost, .int .i64 x.built, .int .i64 x.seq, .int .i64 x.tail, .int .i64 x.gen, .slice ad nd cd, .int .i64 x.fuse, .bool x.down, .bool x.broken] 29)
 have X := Box.new w 29 #[.int .i64 x.id, .int .i64 x.n, .int .i64 x.s, .slice am nm cm, .int .i64 x.lost, .int .i64 x.built, .int .i64 x.seq, .int .i64 x.tail, .int .i64 x.gen, .slice ad nd cd, .int .i64 x.fuse, .bool x.down, .bool x.broken]
 have zA := X.lt
 have hnm : nm <= 2097152 := by unfold wtMemS at hw; omega
 have h1 := h0.below hA
 go_enter Tryz.func132, Tryz.ntmps132
 go_wp2
 generalize w.alloc (.cells #[.int .i64 x.id, .int .i64 x.n, .int .i64 x.s, .slice am nm cm, .int .i64 x.lost, .int .i64 x.built, .int .i64 x.seq, .int .i64 x.tail, .int .i64 x.gen, .slice ad nd cd, .int .i64 x.fuse, .bool x.down, .bool x.broken] 29) = W at hA X zA h1 ⊢
 go_loopw [3] (fun i wr => ∃ j : Nat, j <= nm /\ i = .int .i64 j /\ (∀ (q : Nat) (m : MemD), q < j -> ms[q]? = some m -> memAt x q m = true) /\ Below W.heap.size W wr) (fun i _ => nm - (intOf i).toNat)
 case atStart => exact ⟨0, Nat.zero_le _, rfl, fun q m hq => by omega, Below.refl _ _⟩
 case round =>
  obtain ⟨j, hj, rfl, hall, hb⟩ := hrel
  have Xr := X.below hb zA
  obtain ⟨k0, k1, k2, k3, k4, k5, k6, k7, k8, k9, k10, k11, k12⟩ := Xr.cells13
  by_cases hjn : j < nm
  . rcases quads_at rfl h1 with h0' | ⟨b, off, rfl, hbl, hcs⟩
    . omega
    have hdj : ms[j]? = some (ms[j]'(by omega)) := List.getElem?_eq_getElem (by omega)
    generalize ms[j]'(by omega) = m at hdj
    obtain ⟨v0, v1, v2, v3, hv0, hv1, hv2, hv3, hrv⟩ := hcs j m hdj
    obtain ⟨a0, c0, a1, c1, a3, c3, ss, cs, f, bs, rfl, rfl, rfl, rfl, rfl, r0, r1, r3⟩ := mem_at hrv
    have u0 := (hb.cell (p := ⟨b, off + j * 4, none⟩) hbl).trans hv0
    have u1 := (hb.cell (p := ⟨b, off + j * 4 + 1, none⟩) hbl).trans hv1
    have u2 := (hb.cell (p := ⟨b, off + j * 4 + 2, none⟩) hbl).trans hv2
    have u3 := (hb.cell (p := ⟨b, off + j * 4 + 3, none⟩) hbl).trans hv3
    have i1 : (0 : Int) <= (j : Int) := by omega
    have i2 : (j : Int) < (nm : Int) := by omega
    have hwm := Nat.le_trans (inner_leM hdj) hw
    have HDJ := hidden hdj
    clear hcs hv0 hv1 hv2 hv3 hrv hdj
    have b1 := new_below wr (.cells #[.slice a0 ss.length c0, .slice a1 cs.length c1, .bool f, .slice a3 bs.length c3] 109)
    have Y1 := Box.new wr 109 #[.slice a0 ss.length c0, .slice a1 cs.length c1, .bool f, .slice a3 bs.length c3]
    have X1 := Xr.below b1 Xr.lt
    have R0 := (r0.below hb).below b1
    have R1 := (r1.below hb).below b1
    have R3 := (r3.below hb).below b1
    have B1 := hb.trans (b1.mono hb.size)
    clear r0 r1 r3 b1
    obtain ⟨y0, y1, y2, y3⟩ := Y1.cells4
    obtain ⟨e0, e1, e2, e3, e4, e5, e6, e7, e8, e9, e10, e11, e12⟩ := X1.cells13
    have zy := Y1.lt
    have zx := X1.lt
    clear e0 e3 e5 e6 e7 e8 e9 e10 e11
    cases hM : memB ss cs bs
    . skip
      go_wp2_with fail
      generalize wr.alloc (.cells #[.slice a0 ss.length c0, .slice a1 cs.length c1, .bool f, .slice a3 bs.length c3] 109) = w1 at X1 Y1 R0 R1 R3 B1 y0 y1 y2 y3 e1 e2 e4 e12 zy zx ⊢
      refine wp_region_held_drew (S := fun w' => w'.cell? ⟨wr.heap.size, 0, none⟩ = some (.slice a0 ss.length c0) /\ w'.cell? ⟨wr.heap.size, 1, none⟩ = some (.slice a1 cs.length c1) /\ w'.cell? ⟨wr.heap.size, 2, none⟩ = some (.bool f) /\ w'.cell? ⟨wr.heap.size, 3, none⟩ = some (.slice a3 bs.length c3) /\ w'.cell? ⟨w.heap.size, 1, none⟩ = some (.int .i64 x.n) /\ w'.cell? ⟨w.heap.size, 2, none⟩ = some (.int .i64 x.s) /\ w'.cell? ⟨w.heap.size, 4, none⟩ = some (.int .i64 x.lost) /\ w'.cell? ⟨w.heap.size, 12, none⟩ = some (.bool x.broken)) (by kernel_rfl) ?_ (fun hHeld => ?_)
      . exact ⟨y0, y1, y2, y3, e1, e2, e4, e12⟩
      refine held_t 0 hHeld ?_
      refine held_one (i := 1) (by kernel_rfl) rfl (by kernel_rfl) (fun K hK => ?_)
      go_simp
      refine (specMemOk_any _ E _ _ _ _ _ _ _ _ _ ss cs f bs R0.drew R1.drew R3.drew hwm).mono ?_
      rintro e w2 ⟨rfl, b2⟩
      rw [hM]
      have b2' : Below w1.heap.size w1 w2 := (Below.refl w1.heap.size w1).drew.trans b2
      clear b2
      go_wp2_with fail
      clear hHeld
      refine hK.out _ _ ?_ (fun hHeld => ?_)
      . exact ⟨(b2'.cell (p := ⟨wr.heap.size, 0, none⟩) zy).trans y0, (b2'.cell (p := ⟨wr.heap.size, 1, none⟩) zy).trans y1, (b2'.cell (p := ⟨wr.heap.size, 2, none⟩) zy).trans y2, (b2'.cell (p := ⟨wr.heap.size, 3, none⟩) zy).trans y3, (b2'.cell (p := ⟨w.heap.size, 1, none⟩) zx).trans e1, (b2'.cell (p := ⟨w.heap.size, 2, none⟩) zx).trans e2, (b2'.cell (p := ⟨w.heap.size, 4, none⟩) zx).trans e4, (b2'.cell (p := ⟨w.heap.size, 12, none⟩) zx).trans e12⟩
      clear hK K
      refine held_t 2 hHeld ?_
      refine held_t 3 hHeld ?_
      refine held_p 4 hHeld ?_
      refine held_p 5 hHeld ?_
      refine held_p 6 hHeld ?_
      refine held_p 7 hHeld ?_
      refine held_p 8 hHeld ?_
      refine held_none (i := 9) (by kernel_rfl) rfl (by kernel_rfl) hHeld ?_
      simp only [Act.put, List.setIfInBounds_toArray, List.set_cons_zero, List.set_cons_succ]
      refine held_p 10 hHeld ?_
      refine held_t 11 hHeld ?_
      refine held_t 12 hHeld ?_
      refine held_p 13 hHeld ?_
      refine held_p 14 hHeld ?_
      refine held_p 15 hHeld ?_
      refine held_p 16 hHeld ?_
      refine held_p 17 hHeld ?_
      refine held_p 18 hHeld ?_
      refine held_p 19 hHeld ?_
      refine held_p 20 hHeld ?_
      refine held_p 21 hHeld ?_
      refine held_p 22 hHeld ?_
      refine held_p 23 hHeld ?_
      refine held_p 24 hHeld ?_
      refine held_p 25 hHeld ?_
      refine held_t 26 hHeld ?_
      refine wpAnyH_done (by kernel_rfl) ?_ _
      clear hHeld
      have HB := hidden (hA.trans ((B1.trans (b2'.mono B1.size)).mono hA.size))
      go_wp2
      go_ret
      exact ⟨ret_bool (by rw [show memsB x ms = false from (by unfold memsB; rw [allIx_no HDJ.out (by unfold memAt; simp [hM])]; rfl)]), HB.out⟩
    . by_cases hS : (ss.length : Int) = 6 + x.s
      . have hS1 : ((ss.length : Int) == 6 + x.s) = true := by simpa using hS
        have hS2 : ((ss.length : Int) != 6 + x.s) = false := by simpa using hS
        have HS := hidden hS
        clear hS
        cases f
        . skip
          go_wp2_with fail
          generalize wr.alloc (.cells #[.slice a0 ss.length c0, .slice a1 cs.length c1, .bool false, .slice a3 bs.length c3] 109) = w1 at X1 Y1 R0 R1 R3 B1 y0 y1 y2 y3 e1 e2 e4 e12 zy zx ⊢
          refine wp_region_held_drew (S := fun w' => w'.cell? ⟨wr.heap.size, 0, none⟩ = some (.slice a0 ss.length c0) /\ w'.cell? ⟨wr.heap.size, 1, none⟩ = some (.slice a1 cs.length c1) /\ w'.cell? ⟨wr.heap.size, 2, none⟩ = some (.bool false) /\ w'.cell? ⟨wr.heap.size, 3, none⟩ = some (.slice a3 bs.length c3) /\ w'.cell? ⟨w.heap.size, 1, none⟩ = some (.int .i64 x.n) /\ w'.cell? ⟨w.heap.size, 2, none⟩ = some (.int .i64 x.s) /\ w'.cell? ⟨w.heap.size, 4, none⟩ = some (.int .i64 x.lost) /\ w'.cell? ⟨w.heap.size, 12, none⟩ = some (.bool x.broken)) (by kernel_rfl) ?_ (fun hHeld => ?_)
          . exact ⟨y0, y1, y2, y3, e1, e2, e4, e12⟩
          refine held_t 0 hHeld ?_
          refine held_one (i := 1) (by kernel_rfl) rfl (by kernel_rfl) (fun K hK => ?_)
          go_simp
          refine (specMemOk_any _ E _ _ _ _ _ _ _ _ _ ss cs false bs R0.drew R1.drew R3.drew hwm).mono ?_
          rintro e w2 ⟨rfl, b2⟩
          rw [hM]
          have b2' : Below w1.heap.size w1 w2 := (Below.refl w1.heap.size w1).drew.trans b2
          clear b2
          go_wp2_with fail
          clear hHeld
          refine hK.out _ _ ?_ (fun hHeld => ?_)
          . exact ⟨(b2'.cell (p := ⟨wr.heap.size, 0, none⟩) zy).trans y0, (b2'.cell (p := ⟨wr.heap.size, 1, none⟩) zy).trans y1, (b2'.cell (p := ⟨wr.heap.size, 2, none⟩) zy).trans y2, (b2'.cell (p := ⟨wr.heap.size, 3, none⟩) zy).trans y3, (b2'.cell (p := ⟨w.heap.size, 1, none⟩) zx).trans e1, (b2'.cell (p := ⟨w.heap.size, 2, none⟩) zx).trans e2, (b2'.cell (p := ⟨w.heap.size, 4, none⟩) zx).trans e4, (b2'.cell (p := ⟨w.heap.size, 12, none⟩) zx).trans e12⟩
          clear hK K
          refine held_t 2 hHeld ?_
          refine held_t 3 hHeld ?_
          refine held_t 4 hHeld ?_
          refine held_t 5 hHeld ?_
          refine held_t 6 hHeld ?_
          refine held_t 7 hHeld ?_
          refine held_t 8 hHeld ?_
          refine held_one (i := 9) (by kernel_rfl) rfl (by kernel_rfl) (fun K hK => ?_)
          go_simp
          refine (l6Secs_any _ x.n x.s ⟨g3, g4⟩).mono ?_
          rintro e w3 ⟨rfl, b3⟩
          have b3' : Below w1.heap.size w1 w3 := Below.andThen b2' b3
          clear b3
          go_wp2_with fail
          clear hHeld
          refine hK.out _ _ ?_ (fun hHeld => ?_)
          . exact ⟨(b3'.cell (p := ⟨wr.heap.size, 0, none⟩) zy).trans y0, (b3'.cell (p := ⟨wr.heap.size, 1, none⟩) zy).trans y1, (b3'.cell (p := ⟨wr.heap.size, 2, none⟩) zy).trans y2, (b3'.cell (p := ⟨wr.heap.size, 3, none⟩) zy).trans y3, (b3'.cell (p := ⟨w.heap.size, 1, none⟩) zx).trans e1, (b3'.cell (p := ⟨w.heap.size, 2, none⟩) zx).trans e2, (b3'.cell (p := ⟨w.heap.size, 4, none⟩) zx).trans e4, (b3'.cell (p := ⟨w.heap.size, 12, none⟩) zx).trans e12⟩
          clear hK K
          refine held_t 10 hHeld ?_
          refine held_t 11 hHeld ?_
          refine held_t 12 hHeld ?_
          refine held_t 13 hHeld ?_
          refine held_t 14 hHeld ?_
          refine held_t 15 hHeld ?_
          refine held_p 16 hHeld ?_
          refine held_p 17 hHeld ?_
          refine held_p 18 hHeld ?_
          refine held_p 19 hHeld ?_
          refine held_t 20 hHeld ?_
          refine held_t 21 hHeld ?_
          refine held_p 22 hHeld ?_
          refine held_p 23 hHeld ?_
          refine held_p 24 hHeld ?_
          refine held_t 25 hHeld ?_
          refine held_t 26 hHeld ?_
          refine wpAnyH_done (by kernel_rfl) ?_ _
          clear hHeld
          have HB := hidden (B1.trans (b3'.mono B1.size))
          have hat : memAt x j (ss, cs, false, bs) = true := (by unfold memAt; simp [hM, HS.out])
          go_wp2
          go_roundw
          case rel => exact ⟨j + 1, by omega, by go_num, fun q m hq hm' => by
           rcases Nat.lt_or_ge q j with h | h
           . exact hall q m h hm'
           . obtain rfl : q = j := by omega
             rw [HDJ.out] at hm'
             cases hm'
             exact hat, HB.out⟩
          case measure => simp [intOf]; omega
        . by_cases hL : (j : Int) = x.lost
          . have hL1 : ((j : Int) == x.lost) = true := by simpa using hL
            have hL2 : ((j : Int) != x.lost) = false := by simpa using hL
            have HL := hidden hL
            clear hL
            go_wp2_with fail
            generalize wr.alloc (.cells #[.slice a0 ss.length c0, .slice a1 cs.length c1, .bool true, .slice a3 bs.length c3] 109) = w1 at X1 Y1 R0 R1 R3 B1 y0 y1 y2 y3 e1 e2 e4 e12 zy zx ⊢
            refine wp_region_held_drew (S := fun w' => w'.cell? ⟨wr.heap.size, 0, none⟩ = some (.slice a0 ss.length c0) /\ w'.cell? ⟨wr.heap.size, 1, none⟩ = some (.slice a1 cs.length c1) /\ w'.cell? ⟨wr.heap.size, 2, none⟩ = some (.bool true) /\ w'.cell? ⟨wr.heap.size, 3, none⟩ = some (.slice a3 bs.length c3) /\ w'.cell? ⟨w.heap.size, 1, none⟩ = some (.int .i64 x.n) /\ w'.cell? ⟨w.heap.size, 2, none⟩ = some (.int .i64 x.s) /\ w'.cell? ⟨w.heap.size, 4, none⟩ = some (.int .i64 x.lost) /\ w'.cell? ⟨w.heap.size, 12, none⟩ = some (.bool x.broken)) (by kernel_rfl) ?_ (fun hHeld => ?_)
            . exact ⟨y0, y1, y2, y3, e1, e2, e4, e12⟩
            refine held_t 0 hHeld ?_
            refine held_one (i := 1) (by kernel_rfl) rfl (by kernel_rfl) (fun K hK => ?_)
            go_simp
            refine (specMemOk_any _ E _ _ _ _ _ _ _ _ _ ss cs true bs R0.drew R1.drew R3.drew hwm).mono ?_
            rintro e w2 ⟨rfl, b2⟩
            rw [hM]
            have b2' : Below w1.heap.size w1 w2 := (Below.refl w1.heap.size w1).drew.trans b2
            clear b2
            go_wp2_with fail
            clear hHeld
            refine hK.out _ _ ?_ (fun hHeld => ?_)
            . exact ⟨(b2'.cell (p := ⟨wr.heap.size, 0, none⟩) zy).trans y0, (b2'.cell (p := ⟨wr.heap.size, 1, none⟩) zy).trans y1, (b2'.cell (p := ⟨wr.heap.size, 2, none⟩) zy).trans y2, (b2'.cell (p := ⟨wr.heap.size, 3, none⟩) zy).trans y3, (b2'.cell (p := ⟨w.heap.size, 1, none⟩) zx).trans e1, (b2'.cell (p := ⟨w.heap.size, 2, none⟩) zx).trans e2, (b2'.cell (p := ⟨w.heap.size, 4, none⟩) zx).trans e4, (b2'.cell (p := ⟨w.heap.size, 12, none⟩) zx).trans e12⟩
            clear hK K
            refine held_t 2 hHeld ?_
            refine held_t 3 hHeld ?_
            refine held_t 4 hHeld ?_
            refine held_t 5 hHeld ?_
            refine held_t 6 hHeld ?_
            refine held_t 7 hHeld ?_
            refine held_t 8 hHeld ?_
            refine held_one (i := 9) (by kernel_rfl) rfl (by kernel_rfl) (fun K hK => ?_)
            go_simp
            refine (l6Secs_any _ x.n x.s ⟨g3, g4⟩).mono ?_
            rintro e w3 ⟨rfl, b3⟩
            have b3' : Below w1.heap.size w1 w3 := Below.andThen b2' b3
            clear b3
            go_wp2_with fail
            clear hHeld
            refine hK.out _ _ ?_ (fun hHeld => ?_)
            . exact ⟨(b3'.cell (p := ⟨wr.heap.size, 0, none⟩) zy).trans y0, (b3'.cell (p := ⟨wr.heap.size, 1, none⟩) zy).trans y1, (b3'.cell (p := ⟨wr.heap.size, 2, none⟩) zy).trans y2, (b3'.cell (p := ⟨wr.heap.size, 3, none⟩) zy).trans y3, (b3'.cell (p := ⟨w.heap.size, 1, none⟩) zx).trans e1, (b3'.cell (p := ⟨w.heap.size, 2, none⟩) zx).trans e2, (b3'.cell (p := ⟨w.heap.size, 4, none⟩) zx).trans e4, (b3'.cell (p := ⟨w.heap.size, 12, none⟩) zx).trans e12⟩
            clear hK K
            refine held_t 10 hHeld ?_
            refine held_t 11 hHeld ?_
            refine held_t 12 hHeld ?_
            refine held_t 13 hHeld ?_
            refine held_t 14 hHeld ?_
            refine held_t 15 hHeld ?_
            refine held_t 16 hHeld ?_
            refine held_t 17 hHeld ?_
            refine held_t 18 hHeld ?_
            refine held_t 19 hHeld ?_
            refine held_t 20 hHeld ?_
            refine held_t 21 hHeld ?_
            refine held_p 22 hHeld ?_
            refine held_p 23 hHeld ?_
            refine held_p 24 hHeld ?_
            refine held_t 25 hHeld ?_
            refine held_t 26 hHeld ?_
            refine wpAnyH_done (by kernel_rfl) ?_ _
            clear hHeld
            have HB := hidden (B1.trans (b3'.mono B1.size))
            have hat : memAt x j (ss, cs, true, bs) = true := (by unfold memAt; simp [hM, HS.out, HL.out])
            go_wp2
            go_roundw
            case rel => exact ⟨j + 1, by omega, by go_num, fun q m hq hm' => by
             rcases Nat.lt_or_ge q j with h | h
             . exact hall q m h hm'
             . obtain rfl : q = j := by omega
               rw [HDJ.out] at hm'
               cases hm'
               exact hat, HB.out⟩
            case measure => simp [intOf]; omega
          . have hL1 : ((j : Int) == x.lost) = false := by simpa using hL
            have hL2 : ((j : Int) != x.lost) = true := by simpa using hL
            have HL := hidden hL
            clear hL
            cases hBr : x.broken
            . rw [hBr] at e12
              go_wp2_with fail
              generalize wr.alloc (.cells #[.slice a0 ss.length c0, .slice a1 cs.length c1, .bool true, .slice a3 bs.length c3] 109) = w1 at X1 Y1 R0 R1 R3 B1 y0 y1 y2 y3 e1 e2 e4 e12 zy zx ⊢
              refine wp_region_held_drew (S := fun w' => w'.cell? ⟨wr.heap.size, 0, none⟩ = some (.slice a0 ss.length c0) /\ w'.cell? ⟨wr.heap.size, 1, none⟩ = some (.slice a1 cs.length c1) /\ w'.cell? ⟨wr.heap.size, 2, none⟩ = some (.bool true) /\ w'.cell? ⟨wr.heap.size, 3, none⟩ = some (.slice a3 bs.length c3) /\ w'.cell? ⟨w.heap.size, 1, none⟩ = some (.int .i64 x.n) /\ w'.cell? ⟨w.heap.size, 2, none⟩ = some (.int .i64 x.s) /\ w'.cell? ⟨w.heap.size, 4, none⟩ = some (.int .i64 x.lost) /\ w'.cell? ⟨w.heap.size, 12, none⟩ = some (.bool false)) (by kernel_rfl) ?_ (fun hHeld => ?_)
              . exact ⟨y0, y1, y2, y3, e1, e2, e4, e12⟩
              refine held_t 0 hHeld ?_
              refine held_one (i := 1) (by kernel_rfl) rfl (by kernel_rfl) (fun K hK => ?_)
              go_simp
              refine (specMemOk_any _ E _ _ _ _ _ _ _ _ _ ss cs true bs R0.drew R1.drew R3.drew hwm).mono ?_
              rintro e w2 ⟨rfl, b2⟩
              rw [hM]
              have b2' : Below w1.heap.size w1 w2 := (Below.refl w1.heap.size w1).drew.trans b2
              clear b2
              go_wp2_with fail
              clear hHeld
              refine hK.out _ _ ?_ (fun hHeld => ?_)
              . exact ⟨(b2'.cell (p := ⟨wr.heap.size, 0, none⟩) zy).trans y0, (b2'.cell (p := ⟨wr.heap.size, 1, none⟩) zy).trans y1, (b2'.cell (p := ⟨wr.heap.size, 2, none⟩) zy).trans y2, (b2'.cell (p := ⟨wr.heap.size, 3, none⟩) zy).trans y3, (b2'.cell (p := ⟨w.heap.size, 1, none⟩) zx).trans e1, (b2'.cell (p := ⟨w.heap.size, 2, none⟩) zx).trans e2, (b2'.cell (p := ⟨w.heap.size, 4, none⟩) zx).trans e4, (b2'.cell (p := ⟨w.heap.size, 12, none⟩) zx).trans e12⟩
              clear hK K
              refine held_t 2 hHeld ?_
              refine held_t 3 hHeld ?_
              refine held_t 4 hHeld ?_
              refine held_t 5 hHeld ?_
              refine held_t 6 hHeld ?_
              refine held_t 7 hHeld ?_
              refine held_t 8 hHeld ?_
              refine held_one (i := 9) (by kernel_rfl) rfl (by kernel_rfl) (fun K hK => ?_)
              go_simp
              refine (l6Secs_any _ x.n x.s ⟨g3, g4⟩).mono ?_
              rintro e w3 ⟨rfl, b3⟩
              have b3' : Below w1.heap.size w1 w3 := Below.andThen b2' b3
              clear b3
              go_wp2_with fail
              clear hHeld
              refine hK.out _ _ ?_ (fun hHeld => ?_)
              . exact ⟨(b3'.cell (p := ⟨wr.heap.size, 0, none⟩) zy).trans y0, (b3'.cell (p := ⟨wr.heap.size, 1, none⟩) zy).trans y1, (b3'.cell (p := ⟨wr.heap.size, 2, none⟩) zy).trans y2, (b3'.cell (p := ⟨wr.heap.size, 3, none⟩) zy).trans y3, (b3'.cell (p := ⟨w.heap.size, 1, none⟩) zx).trans e1, (b3'.cell (p := ⟨w.heap.size, 2, none⟩) zx).trans e2, (b3'.cell (p := ⟨w.heap.size, 4, none⟩) zx).trans e4, (b3'.cell (p := ⟨w.heap.size, 12, none⟩) zx).trans e12⟩
              clear hK K
              refine held_t 10 hHeld ?_
              refine held_t 11 hHeld ?_
              refine held_t 12 hHeld ?_
              refine held_t 13 hHeld ?_
              refine held_t 14 hHeld ?_
              refine held_t 15 hHeld ?_
              refine held_t 16 hHeld ?_
              refine held_t 17 hHeld ?_
              refine held_t 18 hHeld ?_
              refine held_t 19 hHeld ?_
              refine held_t 20 hHeld ?_
              refine held_t 21 hHeld ?_
              refine held_t 22 hHeld ?_
              refine held_t 23 hHeld ?_
              refine held_t 24 hHeld ?_
              refine held_t 25 hHeld ?_
              refine held_t 26 hHeld ?_
              refine wpAnyH_done (by kernel_rfl) ?_ _
              clear hHeld
              have HB := hidden (hA.trans ((B1.trans (b3'.mono B1.size)).mono hA.size))
              go_wp2
              go_ret
              exact ⟨ret_bool (by rw [show memsB x ms = false from (by unfold memsB; rw [allIx_no HDJ.out (by unfold memAt; simp [HL.out, hBr])]; rfl)]), HB.out⟩
            . rw [hBr] at e12
              go_wp2_with fail
              generalize wr.alloc (.cells #[.slice a0 ss.length c0, .slice a1 cs.length c1, .bool true, .slice a3 bs.length c3] 109) = w1 at X1 Y1 R0 R1 R3 B1 y0 y1 y2 y3 e1 e2 e4 e12 zy zx ⊢
              refine wp_region_held_drew (S := fun w' => w'.cell? ⟨wr.heap.size, 0, none⟩ = some (.slice a0 ss.length c0) /\ w'.cell? ⟨wr.heap.size, 1, none⟩ = some (.slice a1 cs.length c1) /\ w'.cell? ⟨wr.heap.size, 2, none⟩ = some (.bool true) /\ w'.cell? ⟨wr.heap.size, 3, none⟩ = some (.slice a3 bs.length c3) /\ w'.cell? ⟨w.heap.size, 1, none⟩ = some (.int .i64 x.n) /\ w'.cell? ⟨w.heap.size, 2, none⟩ = some (.int .i64 x.s) /\ w'.cell? ⟨w.heap.size, 4, none⟩ = some (.int .i64 x.lost) /\ w'.cell? ⟨w.heap.size, 12, none⟩ = some (.bool true)) (by kernel_rfl) ?_ (fun hHeld => ?_)
              . exact ⟨y0, y1, y2, y3, e1, e2, e4, e12⟩
              refine held_t 0 hHeld ?_
              refine held_one (i := 1) (by kernel_rfl) rfl (by kernel_rfl) (fun K hK => ?_)
              go_simp
              refine (specMemOk_any _ E _ _ _ _ _ _ _ _ _ ss cs true bs R0.drew R1.drew R3.drew hwm).mono ?_
              rintro e w2 ⟨rfl, b2⟩
              rw [hM]
              have b2' : Below w1.heap.size w1 w2 := (Below.refl w1.heap.size w1).drew.trans b2
              clear b2
              go_wp2_with fail
              clear hHeld
              refine hK.out _ _ ?_ (fun hHeld => ?_)
              . exact ⟨(b2'.cell (p := ⟨wr.heap.size, 0, none⟩) zy).trans y0, (b2'.cell (p := ⟨wr.heap.size, 1, none⟩) zy).trans y1, (b2'.cell (p := ⟨wr.heap.size, 2, none⟩) zy).trans y2, (b2'.cell (p := ⟨wr.heap.size, 3, none⟩) zy).trans y3, (b2'.cell (p := ⟨w.heap.size, 1, none⟩) zx).trans e1, (b2'.cell (p := ⟨w.heap.size, 2, none⟩) zx).trans e2, (b2'.cell (p := ⟨w.heap.size, 4, none⟩) zx).trans e4, (b2'.cell (p := ⟨w.heap.size, 12, none⟩) zx).trans e12⟩
              clear hK K
              refine held_t 2 hHeld ?_
              refine held_t 3 hHeld ?_
              refine held_t 4 hHeld ?_
              refine held_t 5 hHeld ?_
              refine held_t 6 hHeld ?_
              refine held_t 7 hHeld ?_
              refine held_t 8 hHeld ?_
              refine held_one (i := 9) (by kernel_rfl) rfl (by kernel_rfl) (fun K hK => ?_)
              go_simp
              refine (l6Secs_any _ x.n x.s ⟨g3, g4⟩).mono ?_
              rintro e w3 ⟨rfl, b3⟩
              have b3' : Below w1.heap.size w1 w3 := Below.andThen b2' b3
              clear b3
              go_wp2_with fail
              clear hHeld
              refine hK.out _ _ ?_ (fun hHeld => ?_)
              . exact ⟨(b3'.cell (p := ⟨wr.heap.size, 0, none⟩) zy).trans y0, (b3'.cell (p := ⟨wr.heap.size, 1, none⟩) zy).trans y1, (b3'.cell (p := ⟨wr.heap.size, 2, none⟩) zy).trans y2, (b3'.cell (p := ⟨wr.heap.size, 3, none⟩) zy).trans y3, (b3'.cell (p := ⟨w.heap.size, 1, none⟩) zx).trans e1, (b3'.cell (p := ⟨w.heap.size, 2, none⟩) zx).trans e2, (b3'.cell (p := ⟨w.heap.size, 4, none⟩) zx).trans e4, (b3'.cell (p := ⟨w.heap.size, 12, none⟩) zx).trans e12⟩
              clear hK K
              refine held_t 10 hHeld ?_
              refine held_t 11 hHeld ?_
              refine held_t 12 hHeld ?_
              refine held_t 13 hHeld ?_
              refine held_t 14 hHeld ?_
              refine held_t 15 hHeld ?_
              refine held_t 16 hHeld ?_
              refine held_t 17 hHeld ?_
              refine held_t 18 hHeld ?_
              refine held_t 19 hHeld ?_
              refine held_t 20 hHeld ?_
              refine held_t 21 hHeld ?_
              refine held_t 22 hHeld ?_
              refine held_t 23 hHeld ?_
              refine held_t 24 hHeld ?_
              refine held_t 25 hHeld ?_
              refine held_t 26 hHeld ?_
              refine wpAnyH_done (by kernel_rfl) ?_ _
              clear hHeld
              have HB := hidden (B1.trans (b3'.mono B1.size))
              have hat : memAt x j (ss, cs, true, bs) = true := (by unfold memAt; simp [hM, HS.out, hBr])
              go_wp2
              go_roundw
              case rel => exact ⟨j + 1, by omega, by go_num, fun q m hq hm' => by
               rcases Nat.lt_or_ge q j with h | h
               . exact hall q m h hm'
               . obtain rfl : q = j := by omega
                 rw [HDJ.out] at hm'
                 cases hm'
                 exact hat, HB.out⟩
              case measure => simp [intOf]; omega
      . have hS1 : ((ss.length : Int) == 6 + x.s) = false := by simpa using hS
        have hS2 : ((ss.length : Int) != 6 + x.s) = true := by simpa using hS
        have HS := hidden hS
        clear hS
        go_wp2_with fail
        generalize wr.alloc (.cells #[.slice a0 ss.length c0, .slice a1 cs.length c1, .bool f, .slice a3 bs.length c3] 109) = w1 at X1 Y1 R0 R1 R3 B1 y0 y1 y2 y3 e1 e2 e4 e12 zy zx ⊢
        refine wp_region_held_drew (S := fun w' => w'.cell? ⟨wr.heap.size, 0, none⟩ = some (.slice a0 ss.length c0) /\ w'.cell? ⟨wr.heap.size, 1, none⟩ = some (.slice a1 cs.length c1) /\ w'.cell? ⟨wr.heap.size, 2, none⟩ = some (.bool f) /\ w'.cell? ⟨wr.heap.size, 3, none⟩ = some (.slice a3 bs.length c3) /\ w'.cell? ⟨w.heap.size, 1, none⟩ = some (.int .i64 x.n) /\ w'.cell? ⟨w.heap.size, 2, none⟩ = some (.int .i64 x.s) /\ w'.cell? ⟨w.heap.size, 4, none⟩ = some (.int .i64 x.lost) /\ w'.cell? ⟨w.heap.size, 12, none⟩ = some (.bool x.broken)) (by kernel_rfl) ?_ (fun hHeld => ?_)
        . exact ⟨y0, y1, y2, y3, e1, e2, e4, e12⟩
        refine held_t 0 hHeld ?_
        refine held_one (i := 1) (by kernel_rfl) rfl (by kernel_rfl) (fun K hK => ?_)
        go_simp
        refine (specMemOk_any _ E _ _ _ _ _ _ _ _ _ ss cs f bs R0.drew R1.drew R3.drew hwm).mono ?_
        rintro e w2 ⟨rfl, b2⟩
        rw [hM]
        have b2' : Below w1.heap.size w1 w2 := (Below.refl w1.heap.size w1).drew.trans b2
        clear b2
        go_wp2_with fail
        clear hHeld
        refine hK.out _ _ ?_ (fun hHeld => ?_)
        . exact ⟨(b2'.cell (p := ⟨wr.heap.size, 0, none⟩) zy).trans y0, (b2'.cell (p := ⟨wr.heap.size, 1, none⟩) zy).trans y1, (b2'.cell (p := ⟨wr.heap.size, 2, none⟩) zy).trans y2, (b2'.cell (p := ⟨wr.heap.size, 3, none⟩) zy).trans y3, (b2'.cell (p := ⟨w.heap.size, 1, none⟩) zx).trans e1, (b2'.cell (p := ⟨w.heap.size, 2, none⟩) zx).trans e2, (b2'.cell (p := ⟨w.heap.size, 4, none⟩) zx).trans e4, (b2'.cell (p := ⟨w.heap.size, 12, none⟩) zx).trans e12⟩
        clear hK K
        refine held_t 2 hHeld ?_
        refine held_t 3 hHeld ?_
        refine held_t 4 hHeld ?_
        refine held_t 5 hHeld ?_
        refine held_t 6 hHeld ?_
        refine held_t 7 hHeld ?_
        refine held_t 8 hHeld ?_
        refine held_one (i := 9) (by kernel_rfl) rfl (by kernel_rfl) (fun K hK => ?_)
        go_simp
        refine (l6Secs_any _ x.n x.s ⟨g3, g4⟩).mono ?_
        rintro e w3 ⟨rfl, b3⟩
        have b3' : Below w1.heap.size w1 w3 := Below.andThen b2' b3
        clear b3
        go_wp2_with fail
        clear hHeld
        refine hK.out _ _ ?_ (fun hHeld => ?_)
        . exact ⟨(b3'.cell (p := ⟨wr.heap.size, 0, none⟩) zy).trans y0, (b3'.cell (p := ⟨wr.heap.size, 1, none⟩) zy).trans y1, (b3'.cell (p := ⟨wr.heap.size, 2, none⟩) zy).trans y2, (b3'.cell (p := ⟨wr.heap.size, 3, none⟩) zy).trans y3, (b3'.cell (p := ⟨w.heap.size, 1, none⟩) zx).trans e1, (b3'.cell (p := ⟨w.heap.size, 2, none⟩) zx).trans e2, (b3'.cell (p := ⟨w.heap.size, 4, none⟩) zx).trans e4, (b3'.cell (p := ⟨w.heap.size, 12, none⟩) zx).trans e12⟩
        clear hK K
        refine held_t 10 hHeld ?_
        refine held_t 11 hHeld ?_
        refine held_t 12 hHeld ?_
        refine held_p 13 hHeld ?_
        refine held_p 14 hHeld ?_
        refine held_p 15 hHeld ?_
        refine held_p 16 hHeld ?_
        refine held_p 17 hHeld ?_
        refine held_p 18 hHeld ?_
        refine held_p 19 hHeld ?_
        refine held_p 20 hHeld ?_
        refine held_p 21 hHeld ?_
        refine held_p 22 hHeld ?_
        refine held_p 23 hHeld ?_
        refine held_p 24 hHeld ?_
        refine held_p 25 hHeld ?_
        refine held_t 26 hHeld ?_
        refine wpAnyH_done (by kernel_rfl) ?_ _
        clear hHeld
        have HB := hidden (hA.trans ((B1.trans (b3'.mono B1.size)).mono hA.size))
        go_wp2
        go_ret
        exact ⟨ret_bool (by rw [show memsB x ms = false from (by unfold memsB; rw [allIx_no HDJ.out (by unfold memAt; simp [HS.out])]; rfl)]), HB.out⟩
  . have e : j = nm := by omega
    subst e
    have hAll : allIx (memAt x) ms = true := allIx_iff.2 (fun q m hq => hall q m (by have := (List.getElem?_eq_some_iff.1 hq).1; omega) hq)
    have HB := hidden (hA.trans (hb.mono hA.size))
    have hR : memsB x ms = ((j : Int) == x.n) := by unfold memsB; rw [hAll, hl]; simp [BEq.beq]
    go_wp2
    go_ret
    exact ⟨ret_bool hR.symm, HB.out⟩

theorem entsB_no {x : ArrN} {ds : List (Int × List Int)} {i : Nat} {d : Int × List Int} (hx : ds[i]? = some d) (h : entAt x ds i d = false) : entsB x ds = false := allIx_no hx h
theorem entAt_1 {x : ArrN} {ds : List (Int × List Int)} {i : Nat} {y : Int} {zs : List Int} (h : inB y 0 (x.s - 1) = false) : entAt x ds i (y, zs) = false := by unfold entAt; rw [h]; rfl
theorem entAt_2 {x : ArrN} {ds : List (Int × List Int)} {i : Nat} {y : Int} {zs : List Int} (h : ¬ (zs.length : Int) = x.n - 1) : entAt x ds i (y, zs) = false := by unfold entAt; simp [h]
theorem entAt_3 {x : ArrN} {ds : List (Int × List Int)} {i : Nat} {y : Int} {zs : List Int} (h : allW zs = false) : entAt x ds i (y, zs) = false := by unfold entAt; simp [h]
theorem entAt_4 {x : ArrN} {ds : List (Int × List Int)} {y : Int} {zs : List Int} (h1 : inB y 0 (x.s - 1) = true) (h2 : (zs.length : Int) = x.n - 1) (h3 : allW zs = true) : entAt x ds 0 (y, zs) = true := by unfold entAt; simp [h1, h2, h3]
theorem entAt_5 {x : ArrN} {ds : List (Int × List Int)} {p : Nat} {y : Int} {zs : List Int} {q : Int × List Int} (h1 : inB y 0 (x.s - 1) = true) (h2 : (zs.length : Int) = x.n - 1) (h3 : allW zs = true) (hq : ds[p]? = some q) : entAt x ds (p + 1) (y, zs) = decide (q.1 < y) := by
 unfold entAt
 rw [h1, h3]
 have : ds.getD (p + 1 - 1) (0, []) = q := by rw [Nat.add_sub_cancel, List.getD_eq_getElem?_getD, hq]; rfl
 simp only [h2, decide_true, Bool.true_and, this]
 simp

theorem l6Dirty_any (w : World) (G : TypeId) (x : ArrN) (am ad : Option Addr) (nm cm nd cd : Nat) (ds : List (Int × List Int)) (h0 : (tWrS G).Rd w [.slice ad nd cd] ds) (hw : wtWrS ds <= 2097152) (hg : geoB x.n x.s = true) :
 Calls Tryz.prog 133 #[.agg #[.int .i64 x.id, .int .i64 x.n, .int .i64 x.s, .slice am nm cm, .int .i64 x.lost, .int .i64 x.built, .int .i64 x.seq, .int .i64 x.tail, .int .i64 x.gen, .slice ad nd cd, .int .i64 x.fuse, .bool x.down, .bool x.broken]] w fun e w' => e = .returned (.bool (entsB x ds)) /\ Below w.heap.size w w' := by
 obtain ⟨hl, hc, hm⟩ := row_length h0
 obtain ⟨g1, g2, g3, g4⟩ := geoB_iff.1 hg
 have hA := new_below w (.cells #[.int .i64 x.id, .int .i64 x.n, .int .i64 x.s, .slice am nm cm, .int .i64 x.lost, .int .i64 x.built, .int .i64 x.seq, .int .i64 x.tail, .int .i64 x.gen, .slice ad nd cd, .int .i64 x.fuse, .bool x.down, .bool x.broken] 29)
 have X := Box.new w 29 #[.int .i64 x.id, .int .i64 x.n, .int .i64 x.s, .slice am nm cm, .int .i64 x.lost, .int .i64 x.built, .int .i64 x.seq, .int .i64 x.tail, .int .i64 x.gen, .slice ad nd cd, .int .i64 x.fuse, .bool x.down, .bool x.broken]
 have zA := X.lt
 have hnd : nd <= 2097152 := by unfold wtWrS at hw; omega
 have h1 := h0.below hA
 have hws : IntKind.i64.wrap (x.s - 1) = x.s - 1 := IntWalk.i64_in _ (by omega)
 have hwn : IntKind.i64.wrap (x.n - 1) = x.n - 1 := IntWalk.i64_in _ (by omega)
 go_enter Tryz.func133, Tryz.ntmps133
 go_wp2
 generalize w.alloc (.cells #[.int .i64 x.id, .int .i64 x.n, .int .i64 x.s, .slice am nm cm, .int .i64 x.lost, .int .i64 x.built, .int .i64 x.seq, .int .i64 x.tail, .int .i64 x.gen, .slice ad nd cd, .int .i64 x.fuse, .bool x.down, .bool x.broken] 29) = W at hA X zA h1 ⊢
 go_loopw [3] (fun i wr => ∃ j : Nat, j <= nd /\ i = .int .i64 j /\ (∀ (q : Nat) (d : Int × List Int), q < j -> ds[q]? = some d -> entAt x ds q d = true) /\ Below W.heap.size W wr) (fun i _ => nd - (intOf i).toNat)
 case atStart => exact ⟨0, Nat.zero_le _, rfl, fun q d hq => by omega, Below.refl _ _⟩
 case round =>
  obtain ⟨j, hj, rfl, hall, hb⟩ := hrel
  have Xr := X.below hb zA
  obtain ⟨k0, k1, k2, k3, k4, k5, k6, k7, k8, k9, k10, k11, k12⟩ := Xr.cells13
  by_cases hjn : j < nd
  . rcases pairs_at rfl h1 with h0' | ⟨b, off, rfl, hbl, hcs⟩
    . omega
    have hdj : ds[j]? = some (ds[j]'(by omega)) := List.getElem?_eq_getElem (by omega)
    generalize ds[j]'(by omega) = d at hdj
    obtain ⟨v0, v1, hv0, hv1, hrv⟩ := hcs j d hdj
    obtain ⟨rfl, hrw⟩ := wr_rd hrv
    obtain ⟨av, cv, rfl⟩ := row_shape hrw
    obtain ⟨y, zs⟩ := d
    simp only at hv0 hv1 hrw hrv
    have u0 := (hb.cell (p := ⟨b, off + j * 2, none⟩) hbl).trans hv0
    have u1 := (hb.cell (p := ⟨b, off + j * 2 + 1, none⟩) hbl).trans hv1
    have i1 : (0 : Int) <= (j : Int) := by omega
    have i2 : (j : Int) < (nd : Int) := by omega
    have hwz : zs.length <= 2097152 := Nat.le_trans (inner_le' hdj) hw
    have HDJ := hidden hdj
    have b1 := new_below wr (.cells #[.int .i64 y, .slice av zs.length cv] 86)
    have Y1 := Box.new wr 86 #[.int .i64 y, .slice av zs.length cv]
    have X1 := Xr.below b1 Xr.lt
    have RZ := (ints_rd ((hrw.below hb).below b1)).1
    have B1 := hb.trans (b1.mono hb.size)
    obtain ⟨y0, y1⟩ := Y1.cells2
    obtain ⟨e0, e1, e2, e3, e4, e5, e6, e7, e8, e9, e10, e11, e12⟩ := X1.cells13
    have hq : ∀ (p : Nat) (q : Int × List Int), ds[p]? = some q -> (wr.alloc (.cells #[.int .i64 y, .slice av zs.length cv] 86)).cell? ⟨b, off + p * 2, none⟩ = some (.int .i64 q.1) := fun p q hpq => by
     obtain ⟨c0, c1, hc0, hc1, hrc⟩ := hcs p q hpq
     obtain ⟨rfl, _⟩ := wr_rd hrc
     exact (B1.cell (p := ⟨b, off + p * 2, none⟩) hbl).trans hc0
    have HQ := hidden hq
    clear hcs hv0 hv1 hrv hrw hdj hq b1 e0 e3 e4 e5 e6 e7 e8 e10 e11 e12
    cases hI : inB y 0 (x.s - 1)
    . skip
      go_wp2_with fail
      generalize wr.alloc (.cells #[.int .i64 y, .slice av zs.length cv] 86) = w1 at X1 Y1 RZ B1 y0 y1 e1 e2 e9 HQ ⊢
      refine wp_region_held_drew (S := fun w' => w'.cell? ⟨wr.heap.size, 0, none⟩ = some (.int .i64 y) /\ w'.cell? ⟨wr.heap.size, 1, none⟩ = some (.slice av zs.length cv) /\ w'.cell? ⟨w.heap.size, 1, none⟩ = some (.int .i64 x.n) /\ w'.cell? ⟨w.heap.size, 2, none⟩ = some (.int .i64 x.s) /\ w'.cell? ⟨w.heap.size, 9, none⟩ = some (.slice (some ⟨b, off, none⟩) nd cd)) (by kernel_rfl) ?_ (fun hHeld => ?_)
      . exact ⟨y0, y1, e1, e2, e9⟩
      refine held_t 0 hHeld ?_
      refine held_t 1 hHeld ?_
      refine held_t 2 hHeld ?_
      refine held_t 3 hHeld ?_
      refine held_t 4 hHeld ?_
      refine held_t 5 hHeld ?_
      refine held_one (i := 6) (by kernel_rfl) rfl (by kernel_rfl) (fun K hK => ?_)
      go_simp
      refine (l1In_any _ _ _ _).mono ?_
      rintro e w2 ⟨rfl, hw2⟩
      subst hw2
      rw [hI]
      go_wp2_with fail
      clear hHeld
      refine hK.out _ _ ?_ (fun hHeld => ?_)
      . exact ⟨y0, y1, e1, e2, e9⟩
      clear hK K
      refine held_t 7 hHeld ?_
      refine held_t 8 hHeld ?_
      refine held_p 9 hHeld ?_
      refine held_p 10 hHeld ?_
      refine held_p 11 hHeld ?_
      refine held_p 12 hHeld ?_
      refine held_p 13 hHeld ?_
      refine held_p 14 hHeld ?_
      refine held_p 15 hHeld ?_
      refine held_p 16 hHeld ?_
      refine held_t 17 hHeld ?_
      refine held_t 18 hHeld ?_
      refine held_p 19 hHeld ?_
      refine held_p 20 hHeld ?_
      refine held_none (i := 21) (by kernel_rfl) rfl (by kernel_rfl) hHeld ?_
      simp only [Act.put, List.setIfInBounds_toArray, List.set_cons_zero, List.set_cons_succ]
      refine held_p 22 hHeld ?_
      refine held_t 23 hHeld ?_
      refine held_t 24 hHeld ?_
      refine held_p 25 hHeld ?_
      refine held_p 26 hHeld ?_
      refine held_p 27 hHeld ?_
      refine held_p 28 hHeld ?_
      refine held_p 29 hHeld ?_
      refine held_p 30 hHeld ?_
      refine held_p 31 hHeld ?_
      refine held_p 32 hHeld ?_
      refine held_p 33 hHeld ?_
      refine held_p 34 hHeld ?_
      refine held_p 35 hHeld ?_
      refine held_p 36 hHeld ?_
      refine held_p 37 hHeld ?_
      refine held_p 38 hHeld ?_
      refine held_t 39 hHeld ?_
      refine wpAnyH_done (by kernel_rfl) ?_ _
      clear hHeld
      have HB := hidden (hA.trans (B1.drew.mono hA.size))
      have HE := hidden (entsB_no (x := x) HDJ.out (entAt_1 hI))
      go_wp2
      go_ret
      exact ⟨ret_bool HE.out.symm, HB.out⟩
    . by_cases hL : (zs.length : Int) = x.n - 1
      . have hL1 : ((zs.length : Int) == x.n - 1) = true := by simpa using hL
        have hL2 : ((zs.length : Int) != x.n - 1) = false := by simpa using hL
        have HL := hidden hL
        clear hL
        cases hZ : allW zs
        . skip
          go_wp2_with fail
          generalize wr.alloc (.cells #[.int .i64 y, .slice av zs.length cv] 86) = w1 at X1 Y1 RZ B1 y0 y1 e1 e2 e9 HQ ⊢
          refine wp_region_held_drew (S := fun w' => w'.cell? ⟨wr.heap.size, 0, none⟩ = some (.int .i64 y) /\ w'.cell? ⟨wr.heap.size, 1, none⟩ = some (.slice av zs.length cv) /\ w'.cell? ⟨w.heap.size, 1, none⟩ = some (.int .i64 x.n) /\ w'.cell? ⟨w.heap.size, 2, none⟩ = some (.int .i64 x.s) /\ w'.cell? ⟨w.heap.size, 9, none⟩ = some (.slice (some ⟨b, off, none⟩) nd cd)) (by kernel_rfl) ?_ (fun hHeld => ?_)
          . exact ⟨y0, y1, e1, e2, e9⟩
          refine held_t 0 hHeld ?_
          refine held_t 1 hHeld ?_
          refine held_t 2 hHeld ?_
          refine held_t 3 hHeld ?_
          refine held_t 4 hHeld ?_
          refine held_t 5 hHeld ?_
          refine held_one (i := 6) (by kernel_rfl) rfl (by kernel_rfl) (fun K hK => ?_)
          go_simp
          refine (l1In_any _ _ _ _).mono ?_
          rintro e w2 ⟨rfl, hw2⟩
          subst hw2
          rw [hI]
          go_wp2_with fail
          clear hHeld
          refine hK.out _ _ ?_ (fun hHeld => ?_)
          . exact ⟨y0, y1, e1, e2, e9⟩
          clear hK K
          refine held_t 7 hHeld ?_
          refine held_t 8 hHeld ?_
          refine held_t 9 hHeld ?_
          refine held_t 10 hHeld ?_
          refine held_t 11 hHeld ?_
          refine held_t 12 hHeld ?_
          refine held_t 13 hHeld ?_
          refine held_t 14 hHeld ?_
          refine held_t 15 hHeld ?_
          refine held_t 16 hHeld ?_
          refine held_t 17 hHeld ?_
          refine held_t 18 hHeld ?_
          refine held_t 19 hHeld ?_
          refine held_t 20 hHeld ?_
          refine held_one (i := 21) (by kernel_rfl) rfl (by kernel_rfl) (fun K hK => ?_)
          go_simp
          refine (l1Words_any _ _ _ _ zs rfl RZ.draw hwz).mono ?_
          rintro e w2 ⟨rfl, hw2⟩
          subst hw2
          rw [hZ]
          go_wp2_with fail
          clear hHeld
          refine hK.out _ _ ?_ (fun hHeld => ?_)
          . exact ⟨y0, y1, e1, e2, e9⟩
          clear hK K
          refine held_t 22 hHeld ?_
          refine held_t 23 hHeld ?_
          refine held_t 24 hHeld ?_
          refine held_p 25 hHeld ?_
          refine held_p 26 hHeld ?_
          refine held_p 27 hHeld ?_
          refine held_p 28 hHeld ?_
          refine held_p 29 hHeld ?_
          refine held_p 30 hHeld ?_
          refine held_p 31 hHeld ?_
          refine held_p 32 hHeld ?_
          refine held_p 33 hHeld ?_
          refine held_p 34 hHeld ?_
          refine held_p 35 hHeld ?_
          refine held_p 36 hHeld ?_
          refine held_p 37 hHeld ?_
          refine held_p 38 hHeld ?_
          refine held_t 39 hHeld ?_
          refine wpAnyH_done (by kernel_rfl) ?_ _
          clear hHeld
          have HB := hidden (hA.trans (B1.drew.mono hA.size))
          have HE := hidden (entsB_no (x := x) HDJ.out (entAt_3 hZ))
          go_wp2
          go_ret
          exact ⟨ret_bool HE.out.symm, HB.out⟩
        . by_cases hj0 : j = 0
          . subst hj0
            simp only [Nat.zero_mul, Nat.add_zero] at u0 u1
            go_wp2_with fail
            generalize wr.alloc (.cells #[.int .i64 y, .slice av zs.length cv] 86) = w1 at X1 Y1 RZ B1 y0 y1 e1 e2 e9 HQ ⊢
            refine wp_region_held_drew (S := fun w' => w'.cell? ⟨wr.heap.size, 0, none⟩ = some (.int .i64 y) /\ w'.cell? ⟨wr.heap.size, 1, none⟩ = some (.slice av zs.length cv) /\ w'.cell? ⟨w.heap.size, 1, none⟩ = some (.int .i64 x.n) /\ w'.cell? ⟨w.heap.size, 2, none⟩ = some (.int .i64 x.s) /\ w'.cell? ⟨w.heap.size, 9, none⟩ = some (.slice (some ⟨b, off, none⟩) nd cd)) (by kernel_rfl) ?_ (fun hHeld => ?_)
            . exact ⟨y0, y1, e1, e2, e9⟩
            refine held_t 0 hHeld ?_
            refine held_t 1 hHeld ?_
            refine held_t 2 hHeld ?_
            refine held_t 3 hHeld ?_
            refine held_t 4 hHeld ?_
            refine held_t 5 hHeld ?_
            refine held_one (i := 6) (by kernel_rfl) rfl (by kernel_rfl) (fun K hK => ?_)
            go_simp
            refine (l1In_any _ _ _ _).mono ?_
            rintro e w2 ⟨rfl, hw2⟩
            subst hw2
            rw [hI]
            go_wp2_with fail
            clear hHeld
            refine hK.out _ _ ?_ (fun hHeld => ?_)
            . exact ⟨y0, y1, e1, e2, e9⟩
            clear hK K
            refine held_t 7 hHeld ?_
            refine held_t 8 hHeld ?_
            refine held_t 9 hHeld ?_
            refine held_t 10 hHeld ?_
            refine held_t 11 hHeld ?_
            refine held_t 12 hHeld ?_
            refine held_t 13 hHeld ?_
            refine held_t 14 hHeld ?_
            refine held_t 15 hHeld ?_
            refine held_t 16 hHeld ?_
            refine held_t 17 hHeld ?_
            refine held_t 18 hHeld ?_
            refine held_t 19 hHeld ?_
            refine held_t 20 hHeld ?_
            refine held_one (i := 21) (by kernel_rfl) rfl (by kernel_rfl) (fun K hK => ?_)
            go_simp
            refine (l1Words_any _ _ _ _ zs rfl RZ.draw hwz).mono ?_
            rintro e w2 ⟨rfl, hw2⟩
            subst hw2
            rw [hZ]
            go_wp2_with fail
            clear hHeld
            refine hK.out _ _ ?_ (fun hHeld => ?_)
            . exact ⟨y0, y1, e1, e2, e9⟩
            clear hK K
            refine held_t 22 hHeld ?_
            refine held_t 23 hHeld ?_
            refine held_t 24 hHeld ?_
            refine held_t 25 hHeld ?_
            refine held_t 26 hHeld ?_
            refine held_t 27 hHeld ?_
            refine held_p 28 hHeld ?_
            refine held_p 29 hHeld ?_
            refine held_p 30 hHeld ?_
            refine held_p 31 hHeld ?_
            refine held_p 32 hHeld ?_
            refine held_p 33 hHeld ?_
            refine held_p 34 hHeld ?_
            refine held_p 35 hHeld ?_
            refine held_p 36 hHeld ?_
            refine held_p 37 hHeld ?_
            refine held_t 38 hHeld ?_
            refine held_t 39 hHeld ?_
            refine wpAnyH_done (by kernel_rfl) ?_ _
            clear hHeld
            have HB := hidden B1.drew
            have hat : entAt x ds (0) (y, zs) = true := entAt_4 hI HL.out hZ
            go_wp2
            go_roundw
            case rel => exact ⟨0 + 1, by omega, by go_num, fun q d hq hm' => by
             rcases Nat.lt_or_ge q (0) with h | h
             . exact hall q d h hm'
             . obtain rfl : q = 0 := by omega
               rw [HDJ.out] at hm'
               cases hm'
               exact hat, HB.out⟩
            case measure => simp [intOf]; omega
          . obtain ⟨p, rfl⟩ : ∃ p, j = p + 1 := ⟨j - 1, by omega⟩
            have hpq : ds[p]? = some (ds[p]'(by omega)) := List.getElem?_eq_getElem (by omega)
            generalize ds[p]'(by omega) = q at hpq
            have hE := entAt_5 hI HL.out hZ hpq
            have qc := HQ.out p q hpq
            obtain ⟨s, zq⟩ := q
            simp only at qc hE
            have HE5 := hidden hE
            clear hpq hE
            have j1 : IntKind.i64.wrap (((p + 1 : Nat) : Int) - 1) = (p : Int) := by rw [IntWalk.i64_in _ (by omega)]; omega
            have j2 : IntKind.i64.wrap ((p : Int) + 1 - 1) = (p : Int) := by rw [IntWalk.i64_in _ (by omega)]; omega
            have j3 : IntKind.i64.wrap (p : Int) = (p : Int) := IntWalk.i64_in _ (by omega)
            have j4 : (0 : Int) <= (p : Int) := by omega
            have j5 : (p : Int) < (nd : Int) := by omega
            have j6 : (0 : Int) < ((p + 1 : Nat) : Int) := by omega
            by_cases hlt : s < y
            . have hd1 : decide (s < y) = true := by simpa using hlt
              have hge : ¬ y <= s := by omega
              go_wp2_with fail
              generalize wr.alloc (.cells #[.int .i64 y, .slice av zs.length cv] 86) = w1 at X1 Y1 RZ B1 y0 y1 e1 e2 e9 HQ qc ⊢
              refine wp_region_held_drew (S := fun w' => w'.cell? ⟨wr.heap.size, 0, none⟩ = some (.int .i64 y) /\ w'.cell? ⟨wr.heap.size, 1, none⟩ = some (.slice av zs.length cv) /\ w'.cell? ⟨w.heap.size, 1, none⟩ = some (.int .i64 x.n) /\ w'.cell? ⟨w.heap.size, 2, none⟩ = some (.int .i64 x.s) /\ w'.cell? ⟨w.heap.size, 9, none⟩ = some (.slice (some ⟨b, off, none⟩) nd cd) /\ w'.cell? ⟨b, off + p * 2, none⟩ = some (.int .i64 s)) (by kernel_rfl) ?_ (fun hHeld => ?_)
              . exact ⟨y0, y1, e1, e2, e9, qc⟩
              refine held_t 0 hHeld ?_
              refine held_t 1 hHeld ?_
              refine held_t 2 hHeld ?_
              refine held_t 3 hHeld ?_
              refine held_t 4 hHeld ?_
              refine held_t 5 hHeld ?_
              refine held_one (i := 6) (by kernel_rfl) rfl (by kernel_rfl) (fun K hK => ?_)
              go_simp
              refine (l1In_any _ _ _ _).mono ?_
              rintro e w2 ⟨rfl, hw2⟩
              subst hw2
              rw [hI]
              go_wp2_with fail
              clear hHeld
              refine hK.out _ _ ?_ (fun hHeld => ?_)
              . exact ⟨y0, y1, e1, e2, e9, qc⟩
              clear hK K
              refine held_t 7 hHeld ?_
              refine held_t 8 hHeld ?_
              refine held_t 9 hHeld ?_
              refine held_t 10 hHeld ?_
              refine held_t 11 hHeld ?_
              refine held_t 12 hHeld ?_
              refine held_t 13 hHeld ?_
              refine held_t 14 hHeld ?_
              refine held_t 15 hHeld ?_
              refine held_t 16 hHeld ?_
              refine held_t 17 hHeld ?_
              refine held_t 18 hHeld ?_
              refine held_t 19 hHeld ?_
              refine held_t 20 hHeld ?_
              refine held_one (i := 21) (by kernel_rfl) rfl (by kernel_rfl) (fun K hK => ?_)
              go_simp
              refine (l1Words_any _ _ _ _ zs rfl RZ.draw hwz).mono ?_
              rintro e w2 ⟨rfl, hw2⟩
              subst hw2
              rw [hZ]
              go_wp2_with fail
              clear hHeld
              refine hK.out _ _ ?_ (fun hHeld => ?_)
              . exact ⟨y0, y1, e1, e2, e9, qc⟩
              clear hK K
              refine held_t 22 hHeld ?_
              refine held_t 23 hHeld ?_
              refine held_t 24 hHeld ?_
              refine held_t 25 hHeld ?_
              refine held_t 26 hHeld ?_
              refine held_t 27 hHeld ?_
              refine held_t 28 hHeld ?_
              refine held_t 29 hHeld ?_
              refine held_t 30 hHeld ?_
              refine held_t 31 hHeld ?_
              refine held_t 32 hHeld ?_
              refine held_t 33 hHeld ?_
              refine held_t 34 hHeld ?_
              refine held_t 35 hHeld ?_
              refine held_t 36 hHeld ?_
              refine held_t 37 hHeld ?_
              refine held_t 38 hHeld ?_
              refine held_t 39 hHeld ?_
              refine wpAnyH_done (by kernel_rfl) ?_ _
              clear hHeld
              have HB := hidden B1.drew
              have hat : entAt x ds (p + 1) (y, zs) = true := HE5.out.trans hd1
              go_wp2
              go_roundw
              case rel => exact ⟨p + 1 + 1, by omega, by go_num, fun q d hq hm' => by
               rcases Nat.lt_or_ge q (p + 1) with h | h
               . exact hall q d h hm'
               . obtain rfl : q = p + 1 := by omega
                 rw [HDJ.out] at hm'
                 cases hm'
                 exact hat, HB.out⟩
              case measure => simp [intOf]; omega
            . have hd1 : decide (s < y) = false := by simpa using hlt
              have hge : y <= s := by omega
              go_wp2_with fail
              generalize wr.alloc (.cells #[.int .i64 y, .slice av zs.length cv] 86) = w1 at X1 Y1 RZ B1 y0 y1 e1 e2 e9 HQ qc ⊢
              refine wp_region_held_drew (S := fun w' => w'.cell? ⟨wr.heap.size, 0, none⟩ = some (.int .i64 y) /\ w'.cell? ⟨wr.heap.size, 1, none⟩ = some (.slice av zs.length cv) /\ w'.cell? ⟨w.heap.size, 1, none⟩ = some (.int .i64 x.n) /\ w'.cell? ⟨w.heap.size, 2, none⟩ = some (.int .i64 x.s) /\ w'.cell? ⟨w.heap.size, 9, none⟩ = some (.slice (some ⟨b, off, none⟩) nd cd) /\ w'.cell? ⟨b, off + p * 2, none⟩ = some (.int .i64 s)) (by kernel_rfl) ?_ (fun hHeld => ?_)
              . exact ⟨y0, y1, e1, e2, e9, qc⟩
              refine held_t 0 hHeld ?_
              refine held_t 1 hHeld ?_
              refine held_t 2 hHeld ?_
              refine held_t 3 hHeld ?_
              refine held_t 4 hHeld ?_
              refine held_t 5 hHeld ?_
              refine held_one (i := 6) (by kernel_rfl) rfl (by kernel_rfl) (fun K hK => ?_)
              go_simp
              refine (l1In_any _ _ _ _).mono ?_
              rintro e w2 ⟨rfl, hw2⟩
              subst hw2
              rw [hI]
              go_wp2_with fail
              clear hHeld
              refine hK.out _ _ ?_ (fun hHeld => ?_)
              . exact ⟨y0, y1, e1, e2, e9, qc⟩
              clear hK K
              refine held_t 7 hHeld ?_
              refine held_t 8 hHeld ?_
              refine held_t 9 hHeld ?_
              refine held_t 10 hHeld ?_
              refine held_t 11 hHeld ?_
              refine held_t 12 hHeld ?_
              refine held_t 13 hHeld ?_
              refine held_t 14 hHeld ?_
              refine held_t 15 hHeld ?_
              refine held_t 16 hHeld ?_
              refine held_t 17 hHeld ?_
              refine held_t 18 hHeld ?_
              refine held_t 19 hHeld ?_
              refine held_t 20 hHeld ?_
              refine held_one (i := 21) (by kernel_rfl) rfl (by kernel_rfl) (fun K hK => ?_)
              go_simp
              refine (l1Words_any _ _ _ _ zs rfl RZ.draw hwz).mono ?_
              rintro e w2 ⟨rfl, hw2⟩
              subst hw2
              rw [hZ]
              go_wp2_with fail
              clear hHeld
              refine hK.out _ _ ?_ (fun hHeld => ?_)
              . exact ⟨y0, y1, e1, e2, e9, qc⟩
              clear hK K
              refine held_t 22 hHeld ?_
              refine held_t 23 hHeld ?_
              refine held_t 24 hHeld ?_
              refine held_t 25 hHeld ?_
              refine held_t 26 hHeld ?_
              refine held_t 27 hHeld ?_
              refine held_t 28 hHeld ?_
              refine held_t 29 hHeld ?_
              refine held_t 30 hHeld ?_
              refine held_t 31 hHeld ?_
              refine held_t 32 hHeld ?_
              refine held_t 33 hHeld ?_
              refine held_t 34 hHeld ?_
              refine held_t 35 hHeld ?_
              refine held_t 36 hHeld ?_
              refine held_t 37 hHeld ?_
              refine held_t 38 hHeld ?_
              refine held_t 39 hHeld ?_
              refine wpAnyH_done (by kernel_rfl) ?_ _
              clear hHeld
              have HB := hidden (hA.trans (B1.drew.mono hA.size))
              have HE := hidden (entsB_no (x := x) HDJ.out (HE5.out.trans hd1))
              go_wp2
              go_ret
              exact ⟨ret_bool HE.out.symm, HB.out⟩
      . have hL1 : ((zs.length : Int) == x.n - 1) = false := by simpa using hL
        have hL2 : ((zs.length : Int) != x.n - 1) = true := by simpa using hL
        have HL := hidden hL
        clear hL
        go_wp2_with fail
        generalize wr.alloc (.cells #[.int .i64 y, .slice av zs.length cv] 86) = w1 at X1 Y1 RZ B1 y0 y1 e1 e2 e9 HQ ⊢
        refine wp_region_held_drew (S := fun w' => w'.cell? ⟨wr.heap.size, 0, none⟩ = some (.int .i64 y) /\ w'.cell? ⟨wr.heap.size, 1, none⟩ = some (.slice av zs.length cv) /\ w'.cell? ⟨w.heap.size, 1, none⟩ = some (.int .i64 x.n) /\ w'.cell? ⟨w.heap.size, 2, none⟩ = some (.int .i64 x.s) /\ w'.cell? ⟨w.heap.size, 9, none⟩ = some (.slice (some ⟨b, off, none⟩) nd cd)) (by kernel_rfl) ?_ (fun hHeld => ?_)
        . exact ⟨y0, y1, e1, e2, e9⟩
        refine held_t 0 hHeld ?_
        refine held_t 1 hHeld ?_
        refine held_t 2 hHeld ?_
        refine held_t 3 hHeld ?_
        refine held_t 4 hHeld ?_
        refine held_t 5 hHeld ?_
        refine held_one (i := 6) (by kernel_rfl) rfl (by kernel_rfl) (fun K hK => ?_)
        go_simp
        refine (l1In_any _ _ _ _).mono ?_
        rintro e w2 ⟨rfl, hw2⟩
        subst hw2
        rw [hI]
        go_wp2_with fail
        clear hHeld
        refine hK.out _ _ ?_ (fun hHeld => ?_)
        . exact ⟨y0, y1, e1, e2, e9⟩
        clear hK K
        refine held_t 7 hHeld ?_
        refine held_t 8 hHeld ?_
        refine held_t 9 hHeld ?_
        refine held_t 10 hHeld ?_
        refine held_t 11 hHeld ?_
        refine held_t 12 hHeld ?_
        refine held_t 13 hHeld ?_
        refine held_t 14 hHeld ?_
        refine held_t 15 hHeld ?_
        refine held_t 16 hHeld ?_
        refine held_t 17 hHeld ?_
        refine held_t 18 hHeld ?_
        refine held_p 19 hHeld ?_
        refine held_p 20 hHeld ?_
        refine held_none (i := 21) (by kernel_rfl) rfl (by kernel_rfl) hHeld ?_
        simp only [Act.put, List.setIfInBounds_toArray, List.set_cons_zero, List.set_cons_succ]
        refine held_p 22 hHeld ?_
        refine held_t 23 hHeld ?_
        refine held_t 24 hHeld ?_
        refine held_p 25 hHeld ?_
        refine held_p 26 hHeld ?_
        refine held_p 27 hHeld ?_
        refine held_p 28 hHeld ?_
        refine held_p 29 hHeld ?_
        refine held_p 30 hHeld ?_
        refine held_p 31 hHeld ?_
        refine held_p 32 hHeld ?_
        refine held_p 33 hHeld ?_
        refine held_p 34 hHeld ?_
        refine held_p 35 hHeld ?_
        refine held_p 36 hHeld ?_
        refine held_p 37 hHeld ?_
        refine held_p 38 hHeld ?_
        refine held_t 39 hHeld ?_
        refine wpAnyH_done (by kernel_rfl) ?_ _
        clear hHeld
        have HB := hidden (hA.trans (B1.drew.mono hA.size))
        have HE := hidden (entsB_no (x := x) HDJ.out (entAt_2 HL.out))
        go_wp2
        go_ret
        exact ⟨ret_bool HE.out.symm, HB.out⟩
  . have ej : j = nd := by omega
    subst ej
    have hAll : entsB x ds = true := allIx_iff.2 (fun q d hq => hall q d (by have := (List.getElem?_eq_some_iff.1 hq).1; omega) hq)
    have HB := hidden (hA.trans (hb.mono hA.size))
    go_wp2
    go_ret
    exact ⟨ret_bool hAll.symm, HB.out⟩

def liveB (x : ArrN) (ms : List MemD) (m s : Int) : Bool := inB m 0 ((ms.length : Int) - 1) && (!(ms.getD m.toNat ([], [], false, [])).2.2.1 && (!decide (m = x.lost) || decide (s < x.built)))

theorem specArrOk_any (w : World) (E F G : TypeId) (x : ArrN) (am ad : Option Addr) (nm cm nd cd : Nat) (ms : List MemD) (ds : List (Int × List Int)) (h0 : (tMemS E F).Rd w [.slice am nm cm] ms) (h1 : (tWrS G).Rd w [.slice ad nd cd] ds) (hw : wtArr ms ds <= 2097152) :
 Calls Tryz.prog 63 #[.agg #[.int .i64 x.id, .int .i64 x.n, .int .i64 x.s, .slice am nm cm, .int .i64 x.lost, .int .i64 x.built, .int .i64 x.seq, .int .i64 x.tail, .int .i64 x.gen, .slice ad nd cd, .int .i64 x.fuse, .bool x.down, .bool x.broken]] w fun e w' => e = .returned (.bool (arrB x ms ds)) /\ Below w.heap.size w w' := by
 have hwm : wtMemS ms <= 2097152 := by unfold wtArr at hw; omega
 have hwd : wtWrS ds <= 2097152 := by unfold wtArr at hw; omega
 have hA := new_below w (.cells #[.int .i64 x.id, .int .i64 x.n, .int .i64 x.s, .slice am nm cm, .int .i64 x.lost, .int .i64 x.built, .int .i64 x.seq, .int .i64 x.tail, .int .i64 x.gen, .slice ad nd cd, .int .i64 x.fuse, .bool x.down, .bool x.broken] 29)
 have X := Box.new w 29 #[.int .i64 x.id, .int .i64 x.n, .int .i64 x.s, .slice am nm cm, .int .i64 x.lost, .int .i64 x.built, .int .i64 x.seq, .int .i64 x.tail, .int .i64 x.gen, .slice ad nd cd, .int .i64 x.fuse, .bool x.down, .bool x.broken]
 obtain ⟨k0, k1, k2, k3, k4, k5, k6, k7, k8, k9, k10, k11, k12⟩ := X.cells13
 have zA := X.lt
 have r0 := h0.below hA
 have r1 := h1.below hA
 go_enter Tryz.func63, Tryz.ntmps63
 go_wp2_with fail
 generalize w.alloc (.cells #[.int .i64 x.id, .int .i64 x.n, .int .i64 x.s, .slice am nm cm, .int .i64 x.lost, .int .i64 x.built, .int .i64 x.seq, .int .i64 x.tail, .int .i64 x.gen, .slice ad nd cd, .int .i64 x.fuse, .bool x.down, .bool x.broken] 29) = W at hA X zA r0 r1 k0 k1 k2 k3 k4 k5 k6 k7 k8 k9 k10 k11 k12 ⊢
 refine (specGeoOk_any _ _ _).mono ?_
 rintro e w1 ⟨rfl, b1⟩
 have X1 := X.below b1 X.lt
 have B1 := Below.andThen hA b1
 have q1 := r0.below b1
 have t1 := r1.below b1
 clear k0 k1 k2 k3 k4 k5 k6 k7 k8 k9 k10 k11 k12 b1 hA X r0 r1
 obtain ⟨k0, k1, k2, k3, k4, k5, k6, k7, k8, k9, k10, k11, k12⟩ := X1.cells13
 cases hg : geoB x.n x.s
 . skip
   have HF : Hid (arrB x ms ds = false) := by unfold Hid arrB; simp [hg]
   go_wp2
   go_ret
   exact ⟨ret_bool HF.out.symm, B1⟩
 . obtain ⟨g1, g2, g3, g4⟩ := geoB_iff.1 hg
   have hws : IntKind.i64.wrap (x.n - 1) = x.n - 1 := IntWalk.i64_in _ (by omega)
   go_wp2_with fail
   refine (l1In_any _ _ _ _).mono ?_
   rintro e wq ⟨rfl, hq⟩
   obtain rfl := hq.symm
   cases hid : inB x.id 1 60000
   . skip
     have HF : Hid (arrB x ms ds = false) := by unfold Hid arrB; simp [hid]
     go_wp2
     go_ret
     exact ⟨ret_bool HF.out.symm, B1⟩
   . skip
     go_wp2_with fail
     refine (l6Mems_any _ E F x _ _ _ _ _ _ ms q1 hwm hg).mono ?_
     rintro e w2 ⟨rfl, b2⟩
     have X2 := X1.below b2 X1.lt
     have B2 := Below.andThen B1 b2
     have q2 := q1.below b2
     have t2 := t1.below b2
     clear k0 k1 k2 k3 k4 k5 k6 k7 k8 k9 k10 k11 k12 b2 B1 X1 q1 t1
     obtain ⟨k0, k1, k2, k3, k4, k5, k6, k7, k8, k9, k10, k11, k12⟩ := X2.cells13
     cases hms : memsB x ms
     . skip
       have HF : Hid (arrB x ms ds = false) := by unfold Hid arrB; simp [hms]
       go_wp2
       go_ret
       exact ⟨ret_bool HF.out.symm, B2⟩
     . skip
       go_wp2_with fail
       refine (l6Dirty_any _ G x _ _ _ _ _ _ ds t2 hwd hg).mono ?_
       rintro e w3 ⟨rfl, b3⟩
       have X3 := X2.below b3 X2.lt
       have B3 := Below.andThen B2 b3
       have q3 := q2.below b3
       have t3 := t2.below b3
       clear k0 k1 k2 k3 k4 k5 k6 k7 k8 k9 k10 k11 k12 b3 B2 X2 q2 t2
       obtain ⟨k0, k1, k2, k3, k4, k5, k6, k7, k8, k9, k10, k11, k12⟩ := X3.cells13
       cases hds : entsB x ds
       . skip
         have HF : Hid (arrB x ms ds = false) := by unfold Hid arrB; simp [hds]
         go_wp2
         go_ret
         exact ⟨ret_bool HF.out.symm, B3⟩
       . skip
         go_wp2_with fail
         refine (l1In_any _ _ _ _).mono ?_
         rintro e wq ⟨rfl, hq⟩
         obtain rfl := hq.symm
         cases hlo : inB x.lost (-1) (x.n - 1)
         . skip
           have HF : Hid (arrB x ms ds = false) := by unfold Hid arrB; simp [lostB6, hlo]
           go_wp2
           go_ret
           exact ⟨ret_bool HF.out.symm, B3⟩
         . skip
           go_wp2_with fail
           refine (l1In_any _ _ _ _).mono ?_
           rintro e wq ⟨rfl, hq⟩
           obtain rfl := hq.symm
           cases hbu : inB x.built 0 x.s
           . skip
             have HF : Hid (arrB x ms ds = false) := by unfold Hid arrB; simp [lostB6, hbu]
             go_wp2
             go_ret
             exact ⟨ret_bool HF.out.symm, B3⟩
           . skip
             have hlb : (x.lost = -1 /\ ¬ x.built = 0) ∨ (x.lost = -1 /\ x.built = 0) ∨ ¬ x.lost = -1 := by omega
             have HLB : Hid (lostB6 x = (!decide (x.lost = -1) || decide (x.built = 0))) := by unfold Hid lostB6; rw [hlo, hbu]; simp
             rcases hlb with ⟨l1, l2⟩ | ⟨l1, l2⟩ | l1
             . have e1 : (x.lost == -1) = true := by simpa using l1
               have e2 : (x.built != 0) = true := by simpa using l2
               have e3 : (x.built == 0) = false := by simpa using l2
               have hL : lostB6 x = false := by rw [HLB.out]; simp [l1, l2]
               rw [l1] at k4
               have HF : Hid (arrB x ms ds = false) := by unfold Hid arrB; simp [hL]
               clear hL l1 l2
               go_wp2
               go_ret
               exact ⟨ret_bool HF.out.symm, B3⟩
             . have e1 : (x.lost == -1) = true := by simpa using l1
               have e2 : (x.built != 0) = false := by simpa using l2
               have e3 : (x.built == 0) = true := by simpa using l2
               have HLT : Hid (lostB6 x = true) := by unfold Hid; rw [HLB.out]; simp [l2]
               rw [l1] at k4
               rw [l2] at k5
               clear l1 l2
               have HT : Hid (arrB x ms ds = seqB6 x) := by unfold Hid arrB; rw [hg, hid, hms, hds, HLT.out]; rfl
               go_wp2_with fail
               refine (l1In_any _ _ _ _).mono ?_
               rintro e wq ⟨rfl, hq⟩
               obtain rfl := hq.symm
               cases ht : inB x.tail 0 60000
               . have HF : Hid (arrB x ms ds = false) := by unfold Hid; rw [HT.out]; unfold seqB6; simp [ht]
                 go_wp2
                 go_ret
                 exact ⟨ret_bool HF.out.symm, B3⟩
               . skip
                 have ht2 : 0 <= x.tail /\ x.tail <= 60000 := by unfold inB at ht; simpa using ht
                 have hw4 : IntKind.i64.wrap (x.tail + 4) = x.tail + 4 := IntWalk.i64_in _ (by omega)
                 go_wp2_with fail
                 refine (l1In_any _ _ _ _).mono ?_
                 rintro e wq ⟨rfl, hq⟩
                 obtain rfl := hq.symm
                 cases hs : inB x.seq x.tail 60000
                 . have HF : Hid (arrB x ms ds = false) := by unfold Hid; rw [HT.out]; unfold seqB6; simp [hs]
                   go_wp2
                   go_ret
                   exact ⟨ret_bool HF.out.symm, B3⟩
                 . skip
                   by_cases hle : x.seq <= x.tail + 4
                   . skip
                     go_wp2_with fail
                     refine (l1In_any _ _ _ _).mono ?_
                     rintro e wq ⟨rfl, hq⟩
                     obtain rfl := hq.symm
                     cases hge : inB x.gen 0 60000
                     . have HF : Hid (arrB x ms ds = false) := by unfold Hid; rw [HT.out]; unfold seqB6; simp [hge]
                       go_wp2
                       go_ret
                       exact ⟨ret_bool HF.out.symm, B3⟩
                     . skip
                       have HF : Hid (arrB x ms ds = inB x.fuse (-1) 1000) := by unfold Hid; rw [HT.out]; unfold seqB6; simp [ht, hs, hle, hge]
                       go_wp2_with fail
                       refine (l1In_any _ _ _ _).mono ?_
                       rintro e wq ⟨rfl, hq⟩
                       obtain rfl := hq.symm
                       cases hfu : inB x.fuse (-1) 1000
                       . go_wp2
                         go_ret
                         exact ⟨ret_bool (by rw [HF.out, hfu]), B3⟩
                       . go_wp2
                         go_ret
                         exact ⟨ret_bool (by rw [HF.out, hfu]), B3⟩
                   . have HF : Hid (arrB x ms ds = false) := by unfold Hid; rw [HT.out]; unfold seqB6; simp; omega
                     have hgt : x.tail + 4 < x.seq := by omega
                     go_wp2
                     go_ret
                     exact ⟨ret_bool HF.out.symm, B3⟩
             . have e1 : (x.lost == -1) = false := by simpa using l1
               have HLT : Hid (lostB6 x = true) := by unfold Hid; rw [HLB.out]; simp [l1]
               clear l1
               have HT : Hid (arrB x ms ds = seqB6 x) := by unfold Hid arrB; rw [hg, hid, hms, hds, HLT.out]; rfl
               go_wp2_with fail
               refine (l1In_any _ _ _ _).mono ?_
               rintro e wq ⟨rfl, hq⟩
               obtain rfl := hq.symm
               cases ht : inB x.tail 0 60000
               . have HF : Hid (arrB x ms ds = false) := by unfold Hid; rw [HT.out]; unfold seqB6; simp [ht]
                 go_wp2
                 go_ret
                 exact ⟨ret_bool HF.out.symm, B3⟩
               . skip
                 have ht2 : 0 <= x.tail /\ x.tail <= 60000 := by unfold inB at ht; simpa using ht
                 have hw4 : IntKind.i64.wrap (x.tail + 4) = x.tail + 4 := IntWalk.i64_in _ (by omega)
                 go_wp2_with fail
                 refine (l1In_any _ _ _ _).mono ?_
                 rintro e wq ⟨rfl, hq⟩
                 obtain rfl := hq.symm
                 cases hs : inB x.seq x.tail 60000
                 . have HF : Hid (arrB x ms ds = false) := by unfold Hid; rw [HT.out]; unfold seqB6; simp [hs]
                   go_wp2
                   go_ret
                   exact ⟨ret_bool HF.out.symm, B3⟩
                 . skip
                   by_cases hle : x.seq <= x.tail + 4
                   . skip
                     go_wp2_with fail
                     refine (l1In_any _ _ _ _).mono ?_
                     rintro e wq ⟨rfl, hq⟩
                     obtain rfl := hq.symm
                     cases hge : inB x.gen 0 60000
                     . have HF : Hid (arrB x ms ds = false) := by unfold Hid; rw [HT.out]; unfold seqB6; simp [hge]
                       go_wp2
                       go_ret
                       exact ⟨ret_bool HF.out.symm, B3⟩
                     . skip
                       have HF : Hid (arrB x ms ds = inB x.fuse (-1) 1000) := by unfold Hid; rw [HT.out]; unfold seqB6; simp [ht, hs, hle, hge]
                       go_wp2_with fail
                       refine (l1In_any _ _ _ _).mono ?_
                       rintro e wq ⟨rfl, hq⟩
                       obtain rfl := hq.symm
                       cases hfu : inB x.fuse (-1) 1000
                       . go_wp2
                         go_ret
                         exact ⟨ret_bool (by rw [HF.out, hfu]), B3⟩
                       . go_wp2
                         go_ret
                         exact ⟨ret_bool (by rw [HF.out, hfu]), B3⟩
                   . have HF : Hid (arrB x ms ds = false) := by unfold Hid; rw [HT.out]; unfold seqB6; simp; omega
                     have hgt : x.tail + 4 < x.seq := by omega
                     go_wp2
                     go_ret
                     exact ⟨ret_bool HF.out.symm, B3⟩

theorem specLiveAt_any (w : World) (E F : TypeId) (x : ArrN) (am ad : Option Addr) (nm cm nd cd : Nat) (ms : List MemD) (m s : Int) (h0 : (tMemS E F).Rd w [.slice am nm cm] ms) (hw : wtMemS ms <= 2097152) :
 Calls Tryz.prog 178 #[.agg #[.int .i64 x.id, .int .i64 x.n, .int .i64 x.s, .slice am nm cm, .int .i64 x.lost, .int .i64 x.built, .int .i64 x.seq, .int .i64 x.tail, .int .i64 x.gen, .slice ad nd cd, .int .i64 x.fuse, .bool x.down, .bool x.broken], .int .i64 m, .int .i64 s] w fun e w' => e = .returned (.bool (liveB x ms m s)) /\ Below w.heap.size w w' := by
 obtain ⟨hl, hc, hm⟩ := row_length h0
 have hnm : nm <= 2097152 := by unfold wtMemS at hw; omega
 have hA := new_below w (.cells #[.int .i64 x.id, .int .i64 x.n, .int .i64 x.s, .slice am nm cm, .int .i64 x.lost, .int .i64 x.built, .int .i64 x.seq, .int .i64 x.tail, .int .i64 x.gen, .slice ad nd cd, .int .i64 x.fuse, .bool x.down, .bool x.broken] 29)
 have X := Box.new w 29 #[.int .i64 x.id, .int .i64 x.n, .int .i64 x.s, .slice am nm cm, .int .i64 x.lost, .int .i64 x.built, .int .i64 x.seq, .int .i64 x.tail, .int .i64 x.gen, .slice ad nd cd, .int .i64 x.fuse, .bool x.down, .bool x.broken]
 obtain ⟨k0, k1, k2, k3, k4, k5, k6, k7, k8, k9, k10, k11, k12⟩ := X.cells13
 have h1 := h0.below hA
 have hwn : IntKind.i64.wrap ((nm : Int) - 1) = (nm : Int) - 1 := IntWalk.i64_in _ (by omega)
 go_enter Tryz.func178, Tryz.ntmps178
 go_wp2_with fail
 generalize w.alloc (.cells #[.int .i64 x.id, .int .i64 x.n, .int .i64 x.s, .slice am nm cm, .int .i64 x.lost, .int .i64 x.built, .int .i64 x.seq, .int .i64 x.tail, .int .i64 x.gen, .slice ad nd cd, .int .i64 x.fuse, .bool x.down, .bool x.broken] 29) = W at hA X h1 k0 k1 k2 k3 k4 k5 k6 k7 k8 k9 k10 k11 k12 ⊢
 refine (l1In_any _ _ _ _).mono ?_
 rintro e wq ⟨rfl, hq⟩
 obtain rfl := hq.symm
 cases hi : inB m 0 ((nm : Int) - 1)
 . have HF : Hid (liveB x ms m s = false) := by unfold Hid liveB; rw [hl, hi]; rfl
   go_wp2
   go_ret
   exact ⟨ret_bool HF.out.symm, hA⟩
 . have hi2 : 0 <= m /\ m <= (nm : Int) - 1 := by unfold inB at hi; simpa using hi
   obtain ⟨j, rfl⟩ := Int.eq_ofNat_of_zero_le hi2.1
   rcases quads_at rfl h1 with h0' | ⟨b, off, rfl, hbl, hcs⟩
   . omega
   have hdj : ms[j]? = some (ms[j]'(by omega)) := List.getElem?_eq_getElem (by omega)
   generalize ms[j]'(by omega) = d at hdj
   obtain ⟨v0, v1, v2, v3, hv0, hv1, hv2, hv3, hrv⟩ := hcs j d hdj
   obtain ⟨a0, c0, a1, c1, a3, c3, ss, cs, f, bs, rfl, rfl, rfl, rfl, rfl, r0, r1, r3⟩ := mem_at hrv
   have i1 : (0 : Int) <= (j : Int) := by omega
   have i2 : (j : Int) < (nm : Int) := by omega
   have HD : Hid (liveB x ms (j : Int) s = (!f && (!decide ((j : Int) = x.lost) || decide (s < x.built)))) := by
    unfold Hid liveB
    rw [hl, hi, Int.toNat_natCast, List.getD_eq_getElem?_getD, hdj]
    rfl
   clear hcs hv0 hv1 hv3 hrv r0 r1 r3 hdj
   cases f
   . by_cases hj : (j : Int) = x.lost
     . have e1 : ((j : Int) == x.lost) = true := by simpa using hj
       have e2 : ((j : Int) != x.lost) = false := by simpa using hj
       have HF : Hid (liveB x ms (j : Int) s = decide (s < x.built)) := by unfold Hid; rw [HD.out]; simp [hj]
       clear hj
       go_wp2
       go_ret
       exact ⟨ret_bool HF.out.symm, hA⟩
     . have e1 : ((j : Int) == x.lost) = false := by simpa using hj
       have e2 : ((j : Int) != x.lost) = true := by simpa using hj
       have HF : Hid (liveB x ms (j : Int) s = true) := by unfold Hid; rw [HD.out]; simp [hj]
       clear hj
       go_wp2
       go_ret
       exact ⟨ret_bool HF.out.symm, hA⟩
   . have HF : Hid (liveB x ms (j : Int) s = false) := by unfold Hid; rw [HD.out]; rfl
     go_wp2
     go_ret
     exact ⟨ret_bool HF.out.symm, hA⟩

def ask8 (x : ArrN) (ms : List MemD) (ds : List (Int × List Int)) : Int := if arrB x ms ds = true then (if x.down = true then 6 else 0) else 1
def scode8 (x : ArrN) (ms : List MemD) (ds : List (Int × List Int)) (s : Int) : Int := if ask8 x ms ds = 0 then (if stripeB x.n x.s s = true then 0 else 2) else ask8 x ms ds
theorem ask_good {x : ArrN} {ms : List MemD} {ds : List (Int × List Int)} (h : ask8 x ms ds = 0) : arrB x ms ds = true /\ x.down = false := by
 unfold ask8 at h
 by_cases ha : arrB x ms ds = true
 . rw [if_pos ha] at h
   by_cases hd : x.down = true
   . rw [if_pos hd] at h
     omega
   . exact ⟨ha, by simpa using hd⟩
 . rw [if_neg ha] at h
   omega
theorem arr_geo {x : ArrN} {ms : List MemD} {ds : List (Int × List Int)} (ha : arrB x ms ds = true) : geoB x.n x.s = true := by
 unfold arrB at ha
 simp only [Bool.and_eq_true] at ha
 exact ha.1
theorem scode_gs {x : ArrN} {ms : List MemD} {ds : List (Int × List Int)} {s : Int} (h : scode8 x ms ds s = 0) : ask8 x ms ds = 0 /\ arrB x ms ds = true /\ x.down = false /\ inB s 0 (x.s - 1) = true := by
 unfold scode8 at h
 by_cases ha : ask8 x ms ds = 0
 . rw [if_pos ha] at h
   by_cases hb : stripeB x.n x.s s = true
   . refine ⟨ha, (ask_good ha).1, (ask_good ha).2, ?_⟩
     unfold stripeB at hb
     simp only [Bool.and_eq_true] at hb
     exact hb.2
   . rw [if_neg hb] at h
     omega
 . rw [if_neg ha] at h
   exact absurd h ha
theorem arr_asc {x : ArrN} {ms : List MemD} {ds : List (Int × List Int)} (ha : arrB x ms ds = true) : Asc8 ds := by
 have hg := arr_geo ha
 obtain ⟨_, _, _, g4⟩ := geoB_iff.1 hg
 unfold arrB entsB at ha
 simp only [Bool.and_eq_true] at ha
 have he := allIx_iff.1 ha.2.2.2.1
 have h1 : ∀ (i : Nat) (e e' : Int × List Int), ds[i]? = some e -> ds[i + 1]? = some e' -> e.1 < e'.1 := fun i e e' h h' => by
  have := he (i + 1) e' h'
  unfold entAt at this
  simp only [Bool.and_eq_true, Bool.or_eq_true, decide_eq_true_eq, Nat.add_sub_cancel] at this
  rcases this.2.2.2 with h0 | h0
  . omega
  . rw [List.getD_eq_getElem?_getD, h] at h0
    exact h0
 refine ⟨fun i j => ?_, fun i e h => ?_⟩
 . induction j with
   | zero => intro e e' h; omega
   | succ j ih =>
    intro e e' hij h h'
    by_cases hj : i = j
    . subst hj
      exact h1 i e e' h h'
    . have hjl := (List.getElem?_eq_some_iff.1 h').1
      have hjj := List.getElem?_eq_getElem (show j < ds.length by omega)
      have a1 := ih e _ (by omega) h hjj
      have a2 := h1 j _ e' hjj h'
      omega
 . have := he i e h
   unfold entAt at this
   simp only [Bool.and_eq_true] at this
   have := inB_iff.1 this.1
   omega
theorem asc_len {ds : List EntD} (h : Asc8 ds) : ds.length <= 101 := by
 have h1 : ∀ (i : Nat) (e : EntD), ds[i]? = some e -> (i : Int) <= e.1 := by
  intro i
  induction i with
  | zero => intro e he; have := h.2 0 e he; omega
  | succ i ih =>
   intro e he
   have hl := (List.getElem?_eq_some_iff.1 he).1
   have hi := List.getElem?_eq_getElem (show i < ds.length by omega)
   have a1 := ih _ hi
   have a2 := h.1 i (i + 1) _ e (by omega) hi he
   omega
 by_cases h0 : ds.length = 0
 . omega
 . have hi := List.getElem?_eq_getElem (show ds.length - 1 < ds.length by omega)
   have a1 := h1 _ _ hi
   have a2 := h.2 _ _ hi
   omega

structure Sup where
 id : Int
 gen : Int
 role : Int
 n : Int
 s : Int
 tail : Int
 lost : Int
 built : Int

def lostB (n s lost built : Int) : Bool := if lost = -1 then decide (built = 0) else inB lost 0 (n - 1) && inB built 0 s
def supB (x : Sup) : Bool := geoB x.n x.s && (lostB x.n x.s x.lost x.built && (inB x.role 0 (x.n - 1) && (inB x.id 1 60000 && (inB x.gen 0 60000 && inB x.tail 0 60000))))

theorem lostB_iff {n s lost built : Int} : lostB n s lost built = true ↔ (lost = -1 /\ built = 0) ∨ (¬ lost = -1 /\ 0 <= lost /\ lost <= n - 1 /\ 0 <= built /\ built <= s) := by
 unfold lostB
 split
 . rename_i h
   simp [h]
 . rename_i h
   rw [Bool.and_eq_true, inB_iff, inB_iff]
   simp [h, and_assoc]
theorem supB_iff {x : Sup} : supB x = true ↔ (3 <= x.n /\ x.n <= 5 /\ 1 <= x.s /\ x.s <= 8) /\ ((x.lost = -1 /\ x.built = 0) ∨ (¬ x.lost = -1 /\ 0 <= x.lost /\ x.lost <= x.n - 1 /\ 0 <= x.built /\ x.built <= x.s)) /\ (0 <= x.role /\ x.role <= x.n - 1) /\ (1 <= x.id /\ x.id <= 60000) /\ (0 <= x.gen /\ x.gen <= 60000) /\ (0 <= x.tail /\ x.tail <= 60000) := by
 unfold supB
 simp only [Bool.and_eq_true, geoB_iff, lostB_iff, inB_iff]
theorem supB_not {x : Sup} (h : ¬ ((3 <= x.n /\ x.n <= 5 /\ 1 <= x.s /\ x.s <= 8) /\ ((x.lost = -1 /\ x.built = 0) ∨ (¬ x.lost = -1 /\ 0 <= x.lost /\ x.lost <= x.n - 1 /\ 0 <= x.built /\ x.built <= x.s)) /\ (0 <= x.role /\ x.role <= x.n - 1) /\ (1 <= x.id /\ x.id <= 60000) /\ (0 <= x.gen /\ x.gen <= 60000) /\ (0 <= x.tail /\ x.tail <= 60000))) : supB x = false := by
 rw [← Bool.not_eq_true, supB_iff]
 exact h

theorem Box.cells8 {w : World} {B : Nat} {T : TypeId} {v0 v1 v2 v3 v4 v5 v6 v7 : Value} (h : Box w B T #[v0, v1, v2, v3, v4, v5, v6, v7]) :
 w.cell? ⟨B, 0, none⟩ = some v0 /\ w.cell? ⟨B, 1, none⟩ = some v1 /\ w.cell? ⟨B, 2, none⟩ = some v2 /\ w.cell? ⟨B, 3, none⟩ = some v3 /\ w.cell? ⟨B, 4, none⟩ = some v4 /\ w.cell? ⟨B, 5, none⟩ = some v5 /\ w.cell? ⟨B, 6, none⟩ = some v6 /\ w.cell? ⟨B, 7, none⟩ = some v7 :=
 ⟨h.cell 0, h.cell 1, h.cell 2, h.cell 3, h.cell 4, h.cell 5, h.cell 6, h.cell 7⟩

theorem lostOk_any (w : World) (n s lost built : Int) (hn : 3 <= n /\ n <= 5) : Calls Tryz.prog 126 #[.agg #[.int .i64 n, .int .i64 s], .int .i64 lost, .int .i64 built] w fun e w' => e = .returned (.bool (lostB n s lost built)) /\ Below w.heap.size w w' := by
 have hA := new_below w (.cells #[.int .i64 n, .int .i64 s] 25)
 obtain ⟨k0, k1⟩ := (Gbox.new w 25 n s).cells
 have gw : IntKind.i64.wrap (n - 1) = n - 1 := IntWalk.i64_in _ (by omega)
 by_cases h : lost = -1
 . by_cases hb : built = 0
   . go_enter Tryz.func126, Tryz.ntmps126
     go_wp2
     go_ret
     exact ⟨ret_bool (by unfold lostB; rw [if_pos h]; simp [hb]), hA⟩
   . go_enter Tryz.func126, Tryz.ntmps126
     go_wp2
     go_ret
     exact ⟨ret_bool (by unfold lostB; rw [if_pos h]; simp [hb]), hA⟩
 . have HD : Hid (lostB n s lost built = (inB lost 0 (n - 1) && inB built 0 s)) := by unfold Hid lostB; rw [if_neg h]
   go_enter Tryz.func126, Tryz.ntmps126
   go_wp2_with fail
   refine (within_any _ _ _ _).mono ?_
   rintro e w1 ⟨rfl, rfl⟩
   by_cases h1 : inB lost 0 (n - 1) = true
   . go_wp2_with fail
     refine (within_any _ _ _ _).mono ?_
     rintro e w1 ⟨rfl, rfl⟩
     go_wp2
     go_ret
     exact ⟨ret_bool (by rw [HD.out, h1]; rfl), hA⟩
   . have h1' : inB lost 0 (n - 1) = false := by simpa using h1
     go_wp2
     go_ret
     exact ⟨ret_bool (by rw [HD.out, h1']; rfl), hA⟩

theorem specSuperOk_any (w : World) (x : Sup) : Calls Tryz.prog 189 #[.agg #[.int .i64 x.id, .int .i64 x.gen, .int .i64 x.role, .int .i64 x.n, .int .i64 x.s, .int .i64 x.tail, .int .i64 x.lost, .int .i64 x.built]] w fun e w' => e = .returned (.bool (supB x)) /\ Below w.heap.size w w' := by
 have hA := new_below w (.cells #[.int .i64 x.id, .int .i64 x.gen, .int .i64 x.role, .int .i64 x.n, .int .i64 x.s, .int .i64 x.tail, .int .i64 x.lost, .int .i64 x.built] 133)
 have X := Box.new w 133 #[.int .i64 x.id, .int .i64 x.gen, .int .i64 x.role, .int .i64 x.n, .int .i64 x.s, .int .i64 x.tail, .int .i64 x.lost, .int .i64 x.built]
 obtain ⟨k0, k1, k2, k3, k4, k5, k6, k7⟩ := X.cells8
 have zA := X.lt
 go_enter Tryz.func189, Tryz.ntmps189
 go_wp2_with fail
 refine (specGeoOk_any _ _ _).mono ?_
 rintro e w1 ⟨rfl, b1⟩
 have X1 := X.below b1 zA
 have B1 := Below.andThen hA b1
 clear k0 k1 k2 k3 k4 k5 k6 k7 X b1 hA zA
 obtain ⟨k0, k1, k2, k3, k4, k5, k6, k7⟩ := X1.cells8
 by_cases hg : geoB x.n x.s = true
 . obtain ⟨g1, g2, g3, g4⟩ := geoB_iff.1 hg
   have gw : IntKind.i64.wrap (x.n - 1) = x.n - 1 := IntWalk.i64_in _ (by omega)
   go_wp2_with fail
   refine (l1In_any _ _ _ _).mono ?_
   rintro e w2 ⟨rfl, rfl⟩
   by_cases h1 : inB x.id 1 60000 = true
   . have h1i := inB_iff.1 h1
     go_wp2_with fail
     refine (l1In_any _ _ _ _).mono ?_
     rintro e w2 ⟨rfl, rfl⟩
     by_cases h2 : inB x.gen 0 60000 = true
     . have h2i := inB_iff.1 h2
       go_wp2_with fail
       refine (l1In_any _ _ _ _).mono ?_
       rintro e w2 ⟨rfl, rfl⟩
       by_cases h3 : inB x.role 0 (x.n - 1) = true
       . have h3i := inB_iff.1 h3
         go_wp2_with fail
         refine (l1In_any _ _ _ _).mono ?_
         rintro e w2 ⟨rfl, rfl⟩
         by_cases h4 : inB x.tail 0 60000 = true
         . have h4i := inB_iff.1 h4
           go_wp2_with fail
           refine (l1In_any _ _ _ _).mono ?_
           rintro e w2 ⟨rfl, rfl⟩
           by_cases h5 : inB x.lost (-1) (x.n - 1) = true
           . have h5i := inB_iff.1 h5
             go_wp2_with fail
             refine (l1In_any _ _ _ _).mono ?_
             rintro e w2 ⟨rfl, rfl⟩
             by_cases h6 : inB x.built 0 x.s = true
             . have h6i := inB_iff.1 h6
               clear h1 h2 h3 h4 h5 hg
               go_wp2
               all_goals go_ret
               all_goals exact ⟨ret_bool (by rw [Bool.eq_iff_iff, supB_iff]; simp; omega), B1⟩
             . have h6' : inB x.built 0 x.s = false := by simpa using h6
               have h6n := inB_not.1 h6'
               go_wp2
               go_ret
               exact ⟨ret_bool (by symm; refine supB_not (fun hc => ?_); omega), B1⟩
           . have h5' : inB x.lost (-1) (x.n - 1) = false := by simpa using h5
             have h5n := inB_not.1 h5'
             go_wp2
             go_ret
             exact ⟨ret_bool (by symm; refine supB_not (fun hc => ?_); omega), B1⟩
         . have h4' : inB x.tail 0 60000 = false := by simpa using h4
           have h4n := inB_not.1 h4'
           go_wp2
           go_ret
           exact ⟨ret_bool (by symm; refine supB_not (fun hc => ?_); omega), B1⟩
       . have h3' : inB x.role 0 (x.n - 1) = false := by simpa using h3
         have h3n := inB_not.1 h3'
         go_wp2
         go_ret
         exact ⟨ret_bool (by symm; refine supB_not (fun hc => ?_); omega), B1⟩
     . have h2' : inB x.gen 0 60000 = false := by simpa using h2
       have h2n := inB_not.1 h2'
       go_wp2
       go_ret
       exact ⟨ret_bool (by symm; refine supB_not (fun hc => ?_); omega), B1⟩
   . have h1' : inB x.id 1 60000 = false := by simpa using h1
     have h1n := inB_not.1 h1'
     go_wp2
     go_ret
     exact ⟨ret_bool (by symm; refine supB_not (fun hc => ?_); omega), B1⟩
 . have hg' : geoB x.n x.s = false := by simpa using hg
   go_wp2
   go_ret
   exact ⟨ret_bool (by unfold supB; rw [hg']; rfl), B1⟩

theorem implSuperOk_any (w : World) (x : Sup) : Calls Tryz.prog 248 #[.agg #[.int .i64 x.id, .int .i64 x.gen, .int .i64 x.role, .int .i64 x.n, .int .i64 x.s, .int .i64 x.tail, .int .i64 x.lost, .int .i64 x.built]] w fun e w' => e = .returned (.bool (supB x)) /\ Below w.heap.size w w' := by
 have hA := new_below w (.cells #[.int .i64 x.id, .int .i64 x.gen, .int .i64 x.role, .int .i64 x.n, .int .i64 x.s, .int .i64 x.tail, .int .i64 x.lost, .int .i64 x.built] 133)
 have X := Box.new w 133 #[.int .i64 x.id, .int .i64 x.gen, .int .i64 x.role, .int .i64 x.n, .int .i64 x.s, .int .i64 x.tail, .int .i64 x.lost, .int .i64 x.built]
 obtain ⟨k0, k1, k2, k3, k4, k5, k6, k7⟩ := X.cells8
 have zA := X.lt
 go_enter Tryz.func248, Tryz.ntmps248
 have hA2 := Below.andThen hA (new_below (w.alloc (.cells #[.int .i64 x.id, .int .i64 x.gen, .int .i64 x.role, .int .i64 x.n, .int .i64 x.s, .int .i64 x.tail, .int .i64 x.lost, .int .i64 x.built] 133)) (.cells #[.int .i64 x.n, .int .i64 x.s] 25))
 have X2 := X.alloc (.cells #[.int .i64 x.n, .int .i64 x.s] 25)
 have G2 := Box.new (w.alloc (.cells #[.int .i64 x.id, .int .i64 x.gen, .int .i64 x.role, .int .i64 x.n, .int .i64 x.s, .int .i64 x.tail, .int .i64 x.lost, .int .i64 x.built] 133)) 25 #[.int .i64 x.n, .int .i64 x.s]
 rw [World.size_alloc] at G2
 obtain ⟨j0, j1⟩ := G2.cells2
 obtain ⟨i0, i1, i2, i3, i4, i5, i6, i7⟩ := X2.cells8
 go_wp2_with fail
 generalize (w.alloc (.cells #[.int .i64 x.id, .int .i64 x.gen, .int .i64 x.role, .int .i64 x.n, .int .i64 x.s, .int .i64 x.tail, .int .i64 x.lost, .int .i64 x.built] 133)).alloc (.cells #[.int .i64 x.n, .int .i64 x.s] 25) = W at hA2 X2 G2 i0 i1 i2 i3 i4 i5 i6 i7 j0 j1 ⊢
 have zX := X2.lt
 have zG := G2.lt
 refine (implGeoOk_any _ _ _).mono ?_
 rintro e w1 ⟨rfl, b1⟩
 have X1 := X2.below b1 zX
 have G1 := G2.below b1 zG
 have B1 := Below.andThen hA2 b1
 clear k0 k1 k2 k3 k4 k5 k6 k7 i0 i1 i2 i3 i4 i5 i6 i7 j0 j1 X hA zA b1 hA2 X2 G2 zX zG
 obtain ⟨k0, k1, k2, k3, k4, k5, k6, k7⟩ := X1.cells8
 obtain ⟨j0, j1⟩ := G1.cells2
 by_cases hg : geoB x.n x.s = true
 . obtain ⟨g1, g2, g3, g4⟩ := geoB_iff.1 hg
   have gw : IntKind.i64.wrap (x.n - 1) = x.n - 1 := IntWalk.i64_in _ (by omega)
   go_wp2_with fail
   refine (lostOk_any _ _ _ _ _ ⟨g1, g2⟩).mono ?_
   rintro e w2 ⟨rfl, b2⟩
   have X3 := X1.below b2 X1.lt
   have G3 := G1.below b2 G1.lt
   have B3 := Below.andThen B1 b2
   clear k0 k1 k2 k3 k4 k5 k6 k7 j0 j1 X1 G1 B1 b2
   obtain ⟨k0, k1, k2, k3, k4, k5, k6, k7⟩ := X3.cells8
   obtain ⟨j0, j1⟩ := G3.cells2
   by_cases hl : lostB x.n x.s x.lost x.built = true
   . have hli := lostB_iff.1 hl
     go_wp2_with fail
     refine (within_any _ _ _ _).mono ?_
     rintro e w4 ⟨rfl, rfl⟩
     by_cases h1 : inB x.role 0 (x.n - 1) = true
     . have h1i := inB_iff.1 h1
       go_wp2_with fail
       refine (within_any _ _ _ _).mono ?_
       rintro e w4 ⟨rfl, rfl⟩
       by_cases h2 : inB x.id 1 60000 = true
       . have h2i := inB_iff.1 h2
         go_wp2_with fail
         refine (within_any _ _ _ _).mono ?_
         rintro e w4 ⟨rfl, rfl⟩
         by_cases h3 : inB x.gen 0 60000 = true
         . have h3i := inB_iff.1 h3
           go_wp2_with fail
           refine (within_any _ _ _ _).mono ?_
           rintro e w4 ⟨rfl, rfl⟩
           go_wp2
           go_ret
           exact ⟨ret_bool (by unfold supB; rw [hg, hl, h1, h2, h3]; rfl), B3⟩
         . have h3' : inB x.gen 0 60000 = false := by simpa using h3
           have h3n := inB_not.1 h3'
           go_wp2
           go_ret
           exact ⟨ret_bool (by symm; refine supB_not (fun hc => ?_); omega), B3⟩
       . have h2' : inB x.id 1 60000 = false := by simpa using h2
         have h2n := inB_not.1 h2'
         go_wp2
         go_ret
         exact ⟨ret_bool (by symm; refine supB_not (fun hc => ?_); omega), B3⟩
     . have h1' : inB x.role 0 (x.n - 1) = false := by simpa using h1
       have h1n := inB_not.1 h1'
       go_wp2
       go_ret
       exact ⟨ret_bool (by symm; refine supB_not (fun hc => ?_); omega), B3⟩
   . have hl' : lostB x.n x.s x.lost x.built = false := by simpa using hl
     go_wp2
     go_ret
     exact ⟨ret_bool (by unfold supB; rw [hg, hl']; rfl), B3⟩
 . have hg' : geoB x.n x.s = false := by simpa using hg
   go_wp2
   go_ret
   exact ⟨ret_bool (by unfold supB; rw [hg']; rfl), B1⟩

theorem copyWords_any (w : World) (a : Option Addr) (n cap : Nat) (zs : List Int) (h : tIntS.Rd w [.slice a n cap] zs) (hn : n <= 2097152) :
 Calls Tryz.prog 112 #[.slice a n cap] w fun e w' => ∃ a' c', e = .returned (.slice a' n c') /\ tIntS.Own w' w.heap.size w'.heap.size [.slice a' n c'] zs /\ Below w.heap.size w w' := by
 obtain ⟨i0, hi, hz0, hz1, hz2⟩ := info_parts Tryz.info3
 obtain ⟨hr, hl, _, _⟩ := ints_rd h
 have hA : Below w.heap.size w (w.alloc (.cells #[] 3)) := (Below.refl _ _).alloc (Nat.le_refl _) _
 have hO : Owns .i64 3 (w.alloc (.cells #[] 3)) w.heap.size (.slice (some ⟨w.heap.size, 0, none⟩) 0 0) [] := Owns.lit .i64 3 w [] 0 #[] rfl rfl (by unfold maxLen; omega)
 match a, h, hr with
 | none, h, _ =>
  obtain ⟨rfl, rfl, rfl⟩ := row_nil h
  go_enter Tryz.func112, Tryz.ntmps112
  go_wp2_with (at_builtin; refine wpList_append_own_none rfl _ _ 30 rfl w.heap.size 3 i0 1 Tryz.underlying30 hi _ 0 [] rfl hO rfl ?_)
  go_ret
  exact ⟨_, _, rfl, own_ints hO, hA⟩
 | some ad, _, hr =>
  have hr1 := hr.below hA
  go_enter Tryz.func112, Tryz.ntmps112
  go_wp2_with (at_builtin; refine wpList_app .i64 rfl _ _ 30 rfl w.heap.size 3 i0 (.int .i64 0) 8 Tryz.underlying30 hi hz0 hz1 hz2 rfl _ [] rfl hO ad n cap zs rfl hl hr1 (by unfold maxLen; simp; omega) (by simp; omega) (by simp) ?_; intro v' w1 ho1 hb1; obtain ⟨a1, c1, hv1, _⟩ := ho1.shape; rw [List.nil_append, hl] at hv1; rw [List.nil_append] at ho1; subst hv1)
  go_ret
  exact ⟨_, _, rfl, own_ints ho1, hA.trans hb1⟩

def putD (x : Sup) : List Int := if supB x = true then [21317, x.id, x.gen, x.role, x.n, x.s, x.tail, x.lost + 1, x.built] else []
theorem putD_of {x : Sup} (h : supB x = true) : putD x = [21317, x.id, x.gen, x.role, x.n, x.s, x.tail, x.lost + 1, x.built] := by unfold putD; rw [if_pos h]
theorem putD_not {x : Sup} (h : supB x = false) : putD x = [] := by unfold putD; rw [if_neg (by simp [h])]

theorem wordsOfSuper_any (w : World) (x : Sup) (hx : supB x = true) : Calls Tryz.prog 254 #[.agg #[.int .i64 x.id, .int .i64 x.gen, .int .i64 x.role, .int .i64 x.n, .int .i64 x.s, .int .i64 x.tail, .int .i64 x.lost, .int .i64 x.built]] w fun e w' => e = .returned (.agg #[.int .i64 21317, .int .i64 x.id, .int .i64 x.gen, .int .i64 x.role, .int .i64 x.n, .int .i64 x.s, .int .i64 x.tail, .int .i64 (x.lost + 1), .int .i64 x.built]) /\ Below w.heap.size w w' := by
 obtain ⟨_, hl, _⟩ := supB_iff.1 hx
 have gw : IntKind.i64.wrap (x.lost + 1) = x.lost + 1 := IntWalk.i64_in _ (by have := (supB_iff.1 hx).1; omega)
 clear hl hx
 go_enter Tryz.func254, Tryz.ntmps254
 go_wp2
 refine bodyPost_ret (v := .agg #[.int .i64 21317, .int .i64 x.id, .int .i64 x.gen, .int .i64 x.role, .int .i64 x.n, .int .i64 x.s, .int .i64 x.tail, .int .i64 (x.lost + 1), .int .i64 x.built]) (by simp [results, Tryz.results254, go_sem]) rfl ?_
 refine ⟨rfl, ?_⟩
 exact (new_below w _).alloc (by simp) _

theorem specPutSuper_any (w : World) (x : Sup) : Calls Tryz.prog 138 #[.agg #[.int .i64 x.id, .int .i64 x.gen, .int .i64 x.role, .int .i64 x.n, .int .i64 x.s, .int .i64 x.tail, .int .i64 x.lost, .int .i64 x.built]] w fun e w' => ∃ a l c, e = .returned (.slice a l c) /\ tIntS.Own w' w.heap.size w'.heap.size [.slice a l c] (putD x) /\ Below w.heap.size w w' := by
 have hA := new_below w (.cells #[.int .i64 x.id, .int .i64 x.gen, .int .i64 x.role, .int .i64 x.n, .int .i64 x.s, .int .i64 x.tail, .int .i64 x.lost, .int .i64 x.built] 133)
 have X := Box.new w 133 #[.int .i64 x.id, .int .i64 x.gen, .int .i64 x.role, .int .i64 x.n, .int .i64 x.s, .int .i64 x.tail, .int .i64 x.lost, .int .i64 x.built]
 obtain ⟨k0, k1, k2, k3, k4, k5, k6, k7⟩ := X.cells8
 have zA := X.lt
 go_enter Tryz.func138, Tryz.ntmps138
 go_wp2_with fail
 generalize w.alloc (.cells #[.int .i64 x.id, .int .i64 x.gen, .int .i64 x.role, .int .i64 x.n, .int .i64 x.s, .int .i64 x.tail, .int .i64 x.lost, .int .i64 x.built] 133) = W at hA X k0 k1 k2 k3 k4 k5 k6 k7 zA ⊢
 refine (specSuperOk_any _ _).mono ?_
 rintro e w1 ⟨rfl, b1⟩
 have X1 := X.below b1 zA
 have B1 := Below.andThen hA b1
 clear k0 k1 k2 k3 k4 k5 k6 k7 X b1 hA zA
 obtain ⟨k0, k1, k2, k3, k4, k5, k6, k7⟩ := X1.cells8
 by_cases hx : supB x = true
 . have gw : IntKind.i64.wrap (x.lost + 1) = x.lost + 1 := IntWalk.i64_in _ (by have := supB_iff.1 hx; omega)
   have HX := hidden (putD_of hx)
   go_wp2
   go_ret
   refine ⟨_, _, _, rfl, ?_, B1.alloc B1.size _⟩
   rw [HX.out]
   exact (own_ints (Owns.lit .i64 3 w1 [21317, x.id, x.gen, x.role, x.n, x.s, x.tail, x.lost + 1, x.built] 9 _ (by simp) rfl (by unfold maxLen; omega))).widen B1.size (Nat.le_refl _)
 . have hx' : supB x = false := by simpa using hx
   have HX := hidden (putD_not hx')
   go_wp2
   go_ret
   refine ⟨_, _, _, rfl, ?_, B1.alloc B1.size _⟩
   rw [HX.out]
   exact (own_ints (Owns.lit .i64 3 w1 [] 0 #[] rfl rfl (by unfold maxLen; omega))).widen B1.size (Nat.le_refl _)

theorem implPutSuper_any (w : World) (x : Sup) : Calls Tryz.prog 250 #[.agg #[.int .i64 x.id, .int .i64 x.gen, .int .i64 x.role, .int .i64 x.n, .int .i64 x.s, .int .i64 x.tail, .int .i64 x.lost, .int .i64 x.built]] w fun e w' => ∃ a l c, e = .returned (.slice a l c) /\ tIntS.Own w' w.heap.size w'.heap.size [.slice a l c] (putD x) /\ Below w.heap.size w w' := by
 have hA := new_below w (.cells #[.int .i64 x.id, .int .i64 x.gen, .int .i64 x.role, .int .i64 x.n, .int .i64 x.s, .int .i64 x.tail, .int .i64 x.lost, .int .i64 x.built] 133)
 have X := Box.new w 133 #[.int .i64 x.id, .int .i64 x.gen, .int .i64 x.role, .int .i64 x.n, .int .i64 x.s, .int .i64 x.tail, .int .i64 x.lost, .int .i64 x.built]
 obtain ⟨k0, k1, k2, k3, k4, k5, k6, k7⟩ := X.cells8
 have zA := X.lt
 go_enter Tryz.func250, Tryz.ntmps250
 go_wp2_with fail
 generalize w.alloc (.cells #[.int .i64 x.id, .int .i64 x.gen, .int .i64 x.role, .int .i64 x.n, .int .i64 x.s, .int .i64 x.tail, .int .i64 x.lost, .int .i64 x.built] 133) = W at hA X k0 k1 k2 k3 k4 k5 k6 k7 zA ⊢
 refine (implSuperOk_any _ _).mono ?_
 rintro e w1 ⟨rfl, b1⟩
 have X1 := X.below b1 zA
 have B1 := Below.andThen hA b1
 clear k0 k1 k2 k3 k4 k5 k6 k7 X b1 hA zA
 obtain ⟨k0, k1, k2, k3, k4, k5, k6, k7⟩ := X1.cells8
 by_cases hx : supB x = true
 . have HX := hidden (putD_of hx)
   go_wp2_with fail
   refine (wordsOfSuper_any _ _ hx).mono ?_
   rintro e w2 ⟨rfl, b2⟩
   have B2 := Below.andThen B1 b2
   clear k0 k1 k2 k3 k4 k5 k6 k7 X1 b2 B1
   have hR : tIntS.Rd (w2.alloc (.cells #[.int .i64 21317, .int .i64 x.id, .int .i64 x.gen, .int .i64 x.role, .int .i64 x.n, .int .i64 x.s, .int .i64 x.tail, .int .i64 (x.lost + 1), .int .i64 x.built] 222)) [.slice (some ⟨w2.heap.size, 0, none⟩) 9 9] [21317, x.id, x.gen, x.role, x.n, x.s, x.tail, x.lost + 1, x.built] := ints_rd_of (zs := [21317, x.id, x.gen, x.role, x.n, x.s, x.tail, x.lost + 1, x.built]) (Reads.new .i64 w2 222 _ _ (by simp)) (by simp) (by omega) (by simp)
   have B3 := B2.alloc B2.size (.cells #[.int .i64 21317, .int .i64 x.id, .int .i64 x.gen, .int .i64 x.role, .int .i64 x.n, .int .i64 x.s, .int .i64 x.tail, .int .i64 (x.lost + 1), .int .i64 x.built] 222)
   have z3 := B3.size
   go_wp2_with fail
   generalize w2.alloc (.cells #[.int .i64 21317, .int .i64 x.id, .int .i64 x.gen, .int .i64 x.role, .int .i64 x.n, .int .i64 x.s, .int .i64 x.tail, .int .i64 (x.lost + 1), .int .i64 x.built] 222) = w3 at hR B3 z3 ⊢
   refine (copyWords_any _ _ _ _ _ hR (by omega)).mono ?_
   rintro e w4 ⟨a', c', rfl, o4, b4⟩
   go_wp2
   go_ret
   refine ⟨_, _, _, rfl, ?_, Below.andThen B3 b4⟩
   rw [HX.out]
   exact o4.widen z3 (Nat.le_refl _)
 . have hx' : supB x = false := by simpa using hx
   have HX := hidden (putD_not hx')
   go_wp2
   go_ret
   refine ⟨_, _, _, rfl, ?_, B1.alloc B1.size _⟩
   rw [HX.out]
   exact (own_ints (Owns.lit .i64 3 w1 [] 0 #[] rfl rfl (by unfold maxLen; omega))).widen B1.size (Nat.le_refl _)

theorem superPlace_any (g : Int) (w : World) (h : 0 <= g) : Calls Tryz.prog 249 #[.int .i64 g] w fun e w' => e = .returned (.int .i64 (g % 2)) /\ w' = w := by
 have e1 : g.tmod 2 = g % 2 := Int.tmod_eq_emod_of_nonneg h
 go_enter Tryz.func249, Tryz.ntmps249
 go_wp2
 go_ret
 exact ⟨ret_int (by first | rfl | exact e1), rfl⟩

theorem copyMem_any (w : World) (E : TypeId) (a0 a1 a3 : Option Addr) (n0 c0 n1 c1 n3 c3 : Nat) (ss : List (List Int)) (cs : List (Int × List Int)) (f : Bool) (bs : List Int) (h0 : tIntSS.Rd w [.slice a0 n0 c0] ss) (h1 : (tWrS E).Rd w [.slice a1 n1 c1] cs) (h3 : tIntS.Rd w [.slice a3 n3 c3] bs) (hw : wtMem (ss, cs, f, bs) <= 2097152) :
 Calls Tryz.prog 111 #[.agg #[.slice a0 n0 c0, .slice a1 n1 c1, .bool f, .slice a3 n3 c3]] w fun e w' => ∃ v0 v1 v3 m1 m2, e = .returned (.agg #[v0, v1, .bool f, v3]) /\ tIntS.Own w' w.heap.size m1 [v3] bs /\ tIntSS.Own w' m1 m2 [v0] ss /\ (tWrS 159).Own w' m2 w'.heap.size [v1] cs /\ m1 <= m2 /\ w.heap.size <= m1 /\ m2 <= w'.heap.size /\ Below w.heap.size w w' := by
 obtain ⟨hl0, _, hm0⟩ := row_length h0
 obtain ⟨hl1, _, hm1⟩ := row_length h1
 obtain ⟨hl3, _, hm3⟩ := row_length h3
 have hw0 : wtIntSS ss <= 2097152 := by unfold wtMem at hw; simp only at hw; omega
 have hw1 : wtWrS cs <= 2097152 := by unfold wtMem at hw; simp only at hw; omega
 have hw3 : n3 <= 2097152 := by unfold wtMem at hw; simp only at hw; omega
 have hn0 : n0 <= 2097152 := by unfold wtIntSS at hw0; omega
 have hn1 : n1 <= 2097152 := by unfold wtWrS at hw1; omega
 obtain ⟨i0, hi, hz0, hz1, hz2⟩ := info_parts Tryz.infoIntS
 obtain ⟨i1, hi1, hy0, hy1, hy2⟩ := info_parts Tryz.infoWr
 have hA : Below w.heap.size w ((w.alloc (.cells #[.slice a0 n0 c0, .slice a1 n1 c1, .bool f, .slice a3 n3 c3] 109)).alloc (.cells #[.slice none 0 0, .slice none 0 0, .bool false, .slice none 0 0] 109)) := ((Below.refl _ _).alloc (Nat.le_refl _) _).alloc (by simp) _
 have xm : Box ((w.alloc (.cells #[.slice a0 n0 c0, .slice a1 n1 c1, .bool f, .slice a3 n3 c3] 109)).alloc (.cells #[.slice none 0 0, .slice none 0 0, .bool false, .slice none 0 0] 109)) w.heap.size 109 #[.slice a0 n0 c0, .slice a1 n1 c1, .bool f, .slice a3 n3 c3] := (Box.new w _ _).alloc _
 have xr : Box ((w.alloc (.cells #[.slice a0 n0 c0, .slice a1 n1 c1, .bool f, .slice a3 n3 c3] 109)).alloc (.cells #[.slice none 0 0, .slice none 0 0, .bool false, .slice none 0 0] 109)) (w.heap.size + 1) 109 #[.slice none 0 0, .slice none 0 0, .bool false, .slice none 0 0] := by
  have := Box.new (w.alloc (.cells #[.slice a0 n0 c0, .slice a1 n1 c1, .bool f, .slice a3 n3 c3] 109)) 109 #[.slice none 0 0, .slice none 0 0, .bool false, .slice none 0 0]
  rw [show (w.alloc (.cells #[.slice a0 n0 c0, .slice a1 n1 c1, .bool f, .slice a3 n3 c3] 109)).heap.size = w.heap.size + 1 by simp] at this
  exact this
 have hsz : ((w.alloc (.cells #[.slice a0 n0 c0, .slice a1 n1 c1, .bool f, .slice a3 n3 c3] 109)).alloc (.cells #[.slice none 0 0, .slice none 0 0, .bool false, .slice none 0 0] 109)).heap.size = w.heap.size + 1 + 1 := by simp
 have HSZ := hidden hsz
 clear hsz
 go_enter Tryz.func111, Tryz.ntmps111
 go_wp2_with fail
 generalize hW : (w.alloc (.cells #[.slice a0 n0 c0, .slice a1 n1 c1, .bool f, .slice a3 n3 c3] 109)).alloc (.cells #[.slice none 0 0, .slice none 0 0, .bool false, .slice none 0 0] 109) = W at hA xm xr HSZ ⊢
 clear hW
 obtain ⟨q0, q1, q2, q3⟩ := xm.cells4
 have zW : w.heap.size < W.heap.size := xm.lt
 have g3 := h3.below hA
 have hS : ∀ w', Below W.heap.size W w' -> w'.cell? ⟨w.heap.size, 2, none⟩ = some (.bool f) /\ w'.cell? ⟨w.heap.size, 3, none⟩ = some (.slice a3 n3 c3) := fun w' hb => ⟨(hb.cell (p := ⟨w.heap.size, 2, none⟩) zW).trans q2, (hb.cell (p := ⟨w.heap.size, 3, none⟩) zW).trans q3⟩
 go_region_held3 (fun w' => w'.cell? ⟨w.heap.size, 2, none⟩ = some (.bool f) /\ w'.cell? ⟨w.heap.size, 3, none⟩ = some (.slice a3 n3 c3))
  (first | (exact hS _ hb5') | (exact hS _ (hb5'.alloc hb5'.size _)) | (exact hS _ (by go_grown)) | go_keep)
  (first
   | (go_at_call 112; refine (copyWords_any _ _ _ _ bs (by exact g3.drew) (by omega)).mono ?_; rintro e w5 ⟨a5, c5, rfl, o5, hb5⟩; have hb5' : Below W.heap.size W w5 := by exact (Below.refl W.heap.size W).drew.trans hb5)
   | (go_at_call 112; refine (copyWords_any _ _ _ _ bs (by exact (g3.below ((Below.refl _ _).alloc (Nat.le_refl _) _)).drew) (by omega)).mono ?_; rintro e w5 ⟨a5, c5, rfl, o5, hb5⟩; have hb5' : Below W.heap.size W w5 := (by exact ((Below.refl W.heap.size W).alloc (Nat.le_refl _) _).drew.trans (hb5.mono (by simp))); have xo : Box w5 W.heap.size 109 #[.slice none 0 0, .slice none 0 0, .bool false, .slice none 0 0] := (by exact Box.below (w := (W.alloc (.cells #[.slice none 0 0, .slice none 0 0, .bool false, .slice none 0 0] 109)).drew) (Box.new W 109 _) hb5 (by simp)); obtain ⟨t0, t1, t2, t3⟩ := xo.cells4; have u0 := xo.frozen 0; have u1 := xo.frozen 1; have u2 := xo.frozen 2; have u3 := xo.frozen 3))
 . have sW := HSZ.out
   have zz := hb5'.size
   have ba : Below w5.heap.size w5 (w5.alloc (.cells #[.slice none 0 0, .slice none 0 0, .bool f, .slice a5 n3 c5] 109)) := (Below.refl _ _).alloc (Nat.le_refl _) _
   have bb := Below.andThen hb5' ba
   obtain ⟨fp3, m3, r3⟩ := Ty.Own.mine (show tIntS.Own w5 W.heap.size w5.heap.size [.slice a5 n3 c5] bs from o5)
   have hz6 : (w5.alloc (.cells #[.slice none 0 0, .slice none 0 0, .bool f, .slice a5 n3 c5] 109)).heap.size = w5.heap.size + 1 := by simp
   have FM := hidden (xm.below bb zW)
   have FR := hidden (xr.below bb (by omega))
   have FO := hidden (Box.new w5 109 #[.slice none 0 0, .slice none 0 0, .bool f, .slice a5 n3 c5])
   have F3 := hidden (m3.below ba)
   have FB := hidden (hA.trans (bb.mono (by omega)))
   have FS : Hid (w.heap.size + 2 <= w5.heap.size /\ w5.heap.size < (w5.alloc (.cells #[.slice none 0 0, .slice none 0 0, .bool f, .slice a5 n3 c5] 109)).heap.size /\ ∀ b ∈ fp3, w.heap.size + 2 <= b /\ b < (w5.alloc (.cells #[.slice none 0 0, .slice none 0 0, .bool f, .slice a5 n3 c5] 109)).heap.size /\ b ≠ w5.heap.size) := ⟨by omega, by omega, fun b hb => by have := r3 b hb; omega⟩
   clear sW zz ba bb m3 r3 hz6 hS g3 q0 q1 q2 q3 xm xr hb5' o5 hb5 hA HSZ zW
   generalize w5.alloc (.cells #[.slice none 0 0, .slice none 0 0, .bool f, .slice a5 n3 c5] 109) = w6 at FM FR FO F3 FB FS ⊢
   generalize w5.heap.size = BO at FO FS ⊢
   obtain ⟨p0, p1, p2, p3⟩ := FM.out.cells4
   obtain ⟨fs1, fs2, fs3⟩ := FS.out
   go_wp2
   go_loopw [17] (fun i wr => ∃ (j : Nat) (v0 : Value) (fp0 : List Nat), j <= n0 /\ i = .int .i64 j /\ Fr w6.heap.size BO w6 wr /\ Box wr BO 109 #[v0, .slice none 0 0, .bool f, .slice a5 n3 c5] /\ tIntSS.Mine wr [v0] (ss.take j) fp0 /\ (∀ b ∈ fp0, w6.heap.size <= b)) (fun i _ => n0 - (intOf i).toNat)
   case atStart => exact ⟨0, _, [], Nat.zero_le _, rfl, Fr.refl _ _ _, FO.out, nil_mine _, by simp⟩
   case round =>
    obtain ⟨j, v0, fp0, hj, rfl, fr, xo, hm, hfp⟩ := hrel
    have hs := fr.size
    have xm := fr.box FM.out (by omega) (by omega)
    have hb := FB.out.trans (fr.below (M := w.heap.size) (by omega) (by omega))
    obtain ⟨q0, q1, q2, q3⟩ := xm.cells4
    clear xm
    by_cases hjn : j < n0
    . rcases rows_at rfl h0 with h0' | ⟨b, off, rfl, hbl, hcs⟩
      . omega
      have hdj : ss[j]? = some (ss[j]'(by omega)) := List.getElem?_eq_getElem (by omega)
      have htk : ss.take (j + 1) = ss.take j ++ [ss[j]'(by omega)] := List.take_succ_eq_append_getElem (by omega)
      generalize ss[j]'(by omega) = x at hdj htk
      have hil := inner_le hdj
      obtain ⟨v, hv, hrv⟩ := hcs j x hdj
      obtain ⟨av, cv, rfl⟩ := row_shape hrv
      have pv := (hb.cell (p := ⟨b, off + j, none⟩) hbl).trans hv
      have HX := hidden (hrv.below hb)
      have k1 : (0 : Int) <= (j : Int) := by omega
      have k2 : (j : Int) < (n0 : Int) := by omega
      have HTK := hidden htk
      have XO := hidden xo
      have FRR := hidden fr
      have HM := hidden hm
      have HFP := hidden hfp
      have HL : Hid ((ss.take j).length = j) := by unfold Hid; rw [List.length_take]; omega
      have L1 : Hid ((ss.take j).length + 1 <= maxLen) := by unfold Hid; rw [HL.out]; unfold maxLen; omega
      have L2 : Hid (((ss.take j).length + 1) * 24 <= 140737488355328) := by unfold Hid; rw [HL.out]; omega
      have c0 : wr.drew.cell? ⟨BO, 0, none⟩ = some v0 := xo.cell 0
      clear hcs hdj hv hrv htk xo hm hfp hb fr
      go_wp2_with fail
      refine Upto.start (S := fun w' => w'.cell? ⟨BO, 0, none⟩ = some v0) (k := 7) (by kernel_rfl) ?_
      refine Upto.t 0 c0 ?_
      refine Upto.t 1 c0 ?_
      refine Upto.t 2 c0 ?_
      refine Upto.one (i := 3) (by kernel_rfl) rfl (fun K hK => ?_)
      go_simp
      refine (copyWords_any _ _ _ _ x (by exact HX.out.drew) (by omega)).mono ?_
      rintro e wc ⟨ac, cc, rfl, oc, hbc⟩
      have hbc' : Below wr.heap.size wr wc := (by exact (Below.refl wr.heap.size wr).drew.trans hbc)
      have xoc : Box wc BO 109 _ := XO.out.below hbc' (by omega)
      have c1 : wc.cell? ⟨BO, 0, none⟩ = some v0 := xoc.cell 0
      have c2 : (wc.alloc (.cells #[.slice ac x.length cc] 30)).cell? ⟨BO, 0, none⟩ = some v0 := (xoc.alloc (.cells #[.slice ac x.length cc] 30)).cell 0
      obtain ⟨fpx, mx, rx⟩ := Ty.Own.mine (lo := wr.heap.size) oc
      have XOC := hidden xoc
      have MX := hidden mx
      have RX := hidden rx
      have HBC := hidden hbc'
      clear xoc mx rx oc hbc hbc'
      go_wp2_with fail
      refine hK.out _ _ (fun _ => c1) ?_
      clear hK K
      refine Upto.one (i := 4) (by kernel_rfl) rfl (fun K hK => ?_)
      go_simp
      refine hK.out _ _ (fun _ => c2) ?_
      clear hK K
      refine Upto.one (i := 5) (by kernel_rfl) rfl (fun K hK => ?_)
      refine step_appT tIntS (by rfl) _ _ 106 (by rfl) 30 i0 (.slice none 0 0) 24 Tryz.underlying106 hi hz0 hz1 hz2 rfl Nat.zero_lt_one v0 (ss.take j) fp0 (by rfl) ?_ ⟨wc.heap.size, 0, none⟩ 1 [.slice ac x.length cc] x fpx (by rfl) ?_ ?_ ?_ ?_ L1.out L2.out ?_
      . exact (HM.out.below HBC.out).alloc _
      . exact MX.out.alloc _
      . intro b hb hb'
        have h1 := HM.out.lt b hb
        have h2 := RX.out b hb'
        omega
      . exact news_new _ _ _
      . intro u hu
        simp at hu
        rw [hu]
        rfl
      intro g cap wA fpA m1 m2 m3
      rw [HL.out] at m1 ⊢
      rw [← HTK.out] at m1
      have ya : Box wA BO 109 _ := (XOC.out.alloc _).turned m3 (fun hm => by have := HFP.out _ hm; omega)
      have r0 : wA.cell? ⟨BO, 0, none⟩ = some v0 := ya.cell 0
      have fz := ya.frozen 0
      have YA := hidden ya
      have M1 := hidden m1
      have M2 := hidden m2
      have M3 := hidden m3
      clear ya m1 m2 m3
      refine hK.out _ _ (fun _ => r0) ?_
      clear hK K
      simp only [Act.put, List.setIfInBounds_toArray, List.set_cons_zero, List.set_cons_succ]
      refine Upto.t 6 r0 ?_
      refine Upto.one (i := 7) (by kernel_rfl) rfl (fun K hK => ?_)
      go_simp
      refine hK.out _ _ (fun h => absurd rfl h) ?_
      clear hK K
      refine Upto.done (by kernel_rfl) ?_ _
      have hfA := round_fp (N := w6.heap.size) hs HBC.out HFP.out RX.out M2.out
      have frA := Fr.round FRR.out hs HBC.out _ M3.out HFP.out 0 (.slice (some ⟨g, 0, none⟩) (j + 1) cap)
      have mA := M1.out.setCell (g := BO) (j := 0) (fun hm => by have := hfA _ hm; omega) (.slice (some ⟨g, 0, none⟩) (j + 1) cap)
      have yA := YA.out.set 0 (.slice (some ⟨g, 0, none⟩) (j + 1) cap)
      have HFA := hidden hfA
      have FRA := hidden frA
      have MA := hidden mA
      have YA' := hidden yA
      clear hfA frA mA yA c0 c1 c2 r0 YA M1 M2 M3 XOC MX RX HBC HFP HM FRR XO
      go_wp2
      go_roundw
      case rel => exact ⟨j + 1, _, fpA, by omega, by go_num, FRA.out, YA'.out, MA.out, HFA.out⟩
      case measure => simp [intOf]; omega
    . have e : n0 = j := by omega
      subst e
      rw [List.take_of_length_le (by omega)] at hm
      have hlt := hm.lt
      have GR := hidden (fr.box FR.out (by omega) (by omega))
      have GM := hidden (fr.box FM.out (by omega) (by omega))
      have GB := hidden (FB.out.trans (fr.below (M := w.heap.size) (by omega) (by omega)))
      have G3 := hidden (fr.mine F3.out (fun b hb => by have := fs3 b hb; omega))
      have G0 := hidden (hm.own (lo := w6.heap.size) (hi := wr.heap.size) (fun b hb => ⟨hfp b hb, hlt b hb⟩))
      have GO := hidden xo
      clear fr xo hm hfp hlt FM FO F3 FB FR
      go_wp2
      generalize wr = w7 at hs GM GR GB G3 G0 GO q0 q1 q2 q3 ⊢
      go_loopw [32] (fun i wr => ∃ (j : Nat) (v1 : Value) (fp1 : List Nat), j <= n1 /\ i = .int .i64 j /\ Fr w7.heap.size BO w7 wr /\ Box wr BO 109 #[v0, v1, .bool f, .slice a5 n3 c5] /\ (tWrS 159).Mine wr [v1] (cs.take j) fp1 /\ (∀ b ∈ fp1, w7.heap.size <= b)) (fun i _ => n1 - (intOf i).toNat)
      case atStart => exact ⟨0, _, [], Nat.zero_le _, rfl, Fr.refl _ _ _, GO.out, nil_mine _, by simp⟩
      case round =>
       obtain ⟨j, v1, fp1, hj, rfl, fr, xo, hm, hfp⟩ := hrel
       have hs2 := fr.size
       have xm := fr.box GM.out (by omega) (by omega)
       have hb := GB.out.trans (fr.below (M := w.heap.size) (by omega) (by omega))
       clear q0 q1 q2 q3
       obtain ⟨q0, q1, q2, q3⟩ := xm.cells4
       clear xm
       by_cases hjn : j < n1
       . rcases pairs_at rfl h1 with h0' | ⟨b, off, rfl, hbl, hcs⟩
         . omega
         have hdj : cs[j]? = some (cs[j]'(by omega)) := List.getElem?_eq_getElem (by omega)
         have htk : cs.take (j + 1) = cs.take j ++ [cs[j]'(by omega)] := List.take_succ_eq_append_getElem (by omega)
         generalize cs[j]'(by omega) = x at hdj htk
         have hil := inner_le' hdj
         obtain ⟨u0, u1, hv0, hv1, hrv⟩ := hcs j x hdj
         obtain ⟨rfl, hrv'⟩ := wr_rd hrv
         obtain ⟨av, cv, rfl⟩ := row_shape hrv'
         have pv0 := (hb.cell (p := ⟨b, off + j * 2, none⟩) hbl).trans hv0
         have pv1 := (hb.cell (p := ⟨b, off + j * 2 + 1, none⟩) hbl).trans hv1
         obtain ⟨x0, x1⟩ := x
         simp only at pv0 pv1 hrv' hil
         have HX := hidden (hrv'.below hb)
         have k1 : (0 : Int) <= (j : Int) := by omega
         have k2 : (j : Int) < (n1 : Int) := by omega
         have HTK := hidden htk
         have XO := hidden xo
         have FRR := hidden fr
         have HM := hidden hm
         have HFP := hidden hfp
         have HL : Hid ((cs.take j).length = j) := by unfold Hid; rw [List.length_take]; omega
         have L1 : Hid ((cs.take j).length + 1 <= maxLen) := by unfold Hid; rw [HL.out]; unfold maxLen; omega
         have L2 : Hid (((cs.take j).length + 1) * 32 <= 140737488355328) := by unfold Hid; rw [HL.out]; omega
         have xw := Box.new wr 159 #[.int .i64 x0, .slice av x1.length cv]
         have ba : Below wr.heap.size wr (wr.alloc (.cells #[.int .i64 x0, .slice av x1.length cv] 159)) := (Below.refl _ _).alloc (Nat.le_refl _) _
         have XO2 := hidden (xo.alloc (.cells #[.int .i64 x0, .slice av x1.length cv] 159))
         have HM2 := hidden (hm.alloc (.cells #[.int .i64 x0, .slice av x1.length cv] 159))
         have HX2 := hidden (HX.out.below ba)
         have FR2 := hidden (fr.trans (Fr.ofBelow (B := BO) ba hs2))
         have HZ : Hid (wr.heap.size < (wr.alloc (.cells #[.int .i64 x0, .slice av x1.length cv] 159)).heap.size) := by unfold Hid; simp
         have XW := hidden xw
         have HFX := hidden hm.lt
         clear hcs hdj hv0 hv1 hrv hrv' htk xo hm hfp hb fr xw ba HX HM FRR XO
         go_wp2_with fail
         generalize wr.alloc (.cells #[.int .i64 x0, .slice av x1.length cv] 159) = w8 at XO2 HM2 HX2 FR2 HZ XW ⊢
         have zw := HZ.out
         have hs8 : w7.heap.size <= w8.heap.size := by omega
         have c0 : w8.drew.cell? ⟨BO, 1, none⟩ = some v1 := XO2.out.cell 1
         have c1 : w8.drew.cell? ⟨wr.heap.size, 0, none⟩ = some (.int .i64 x0) := XW.out.cell 0
         have c2 : w8.drew.cell? ⟨wr.heap.size, 1, none⟩ = some (.slice av x1.length cv) := XW.out.cell 1
         have hS : w8.drew.cell? ⟨BO, 1, none⟩ = some v1 /\ w8.drew.cell? ⟨wr.heap.size, 0, none⟩ = some (.int .i64 x0) /\ w8.drew.cell? ⟨wr.heap.size, 1, none⟩ = some (.slice av x1.length cv) := ⟨c0, c1, c2⟩
         clear c0 c1 c2
         refine Upto.start (S := fun w' => w'.cell? ⟨BO, 1, none⟩ = some v1 /\ w'.cell? ⟨wr.heap.size, 0, none⟩ = some (.int .i64 x0) /\ w'.cell? ⟨wr.heap.size, 1, none⟩ = some (.slice av x1.length cv)) (k := 11) (by kernel_rfl) ?_
         refine Upto.take (i := 0) (v := ?_) rfl (by kernel_rfl) (by kernel_rfl) (by kernel_rfl) (by kernel_rfl) (fun _ _ _ h => h) (Or.inl ⟨by rfl, ?_⟩) hS ?_
         rotate_left 1
         . (intro w hSw; (try dsimp only at hSw); go_split_ands; go_simp; first | done | with_reducible rfl)
         refine Upto.t 1 hS ?_
         refine Upto.t 2 hS ?_
         refine Upto.t 3 hS ?_
         refine Upto.t 4 hS ?_
         refine Upto.t 5 hS ?_
         refine Upto.one (i := 6) (by kernel_rfl) rfl (fun K hK => ?_)
         go_simp
         refine (copyWords_any _ _ _ _ x1 (by exact HX2.out.drew) (by omega)).mono ?_
         rintro e wc ⟨ac, cc, rfl, oc, hbc⟩
         have hbc' : Below w8.heap.size w8 wc := (by exact (Below.refl w8.heap.size w8).drew.trans hbc)
         have xoc : Box wc BO 109 _ := XO2.out.below hbc' (by omega)
         have xwc : Box wc wr.heap.size 159 _ := XW.out.below hbc' zw
         have d0 : wc.cell? ⟨BO, 1, none⟩ = some v1 /\ wc.cell? ⟨wr.heap.size, 0, none⟩ = some (.int .i64 x0) /\ wc.cell? ⟨wr.heap.size, 1, none⟩ = some (.slice av x1.length cv) := ⟨xoc.cell 1, xwc.cell 0, xwc.cell 1⟩
         have d2 : (wc.alloc (.cells #[.int .i64 x0, .slice ac x1.length cc] 159)).cell? ⟨BO, 1, none⟩ = some v1 /\ (wc.alloc (.cells #[.int .i64 x0, .slice ac x1.length cc] 159)).cell? ⟨wr.heap.size, 0, none⟩ = some (.int .i64 x0) /\ (wc.alloc (.cells #[.int .i64 x0, .slice ac x1.length cc] 159)).cell? ⟨wr.heap.size, 1, none⟩ = some (.slice av x1.length cv) := ⟨(xoc.alloc _).cell 1, (xwc.alloc _).cell 0, (xwc.alloc _).cell 1⟩
         obtain ⟨fpx, mx, rx⟩ := Ty.Own.mine (lo := w8.heap.size) oc
         have XOC := hidden xoc
         have XWC := hidden xwc
         have MX := hidden mx
         have RX := hidden rx
         have HBC := hidden hbc'
         clear xoc xwc mx rx oc hbc hbc'
         go_wp2_with fail
         refine hK.out _ _ (fun _ => d0) ?_
         clear hK K
         refine Upto.t 7 d0 ?_
         refine Upto.one (i := 8) (by kernel_rfl) rfl (fun K hK => ?_)
         go_simp
         refine hK.out _ _ (fun _ => d2) ?_
         clear hK K
         refine Upto.one (i := 9) (by kernel_rfl) rfl (fun K hK => ?_)
         refine step_appT tWr (by rfl) _ _ 107 (by rfl) 159 i1 (.agg #[.int .i64 0, .slice none 0 0]) 32 Tryz.underlying107 hi1 hy0 hy1 hy2 rfl Nat.zero_lt_two v1 (cs.take j) fp1 (by rfl) ?_ ⟨wc.heap.size, 0, none⟩ 1 [.int .i64 x0, .slice ac x1.length cc] (x0, x1) fpx (by rfl) ?_ ?_ ?_ ?_ L1.out L2.out ?_
         . exact (HM2.out.below HBC.out).alloc _
         . exact (wr_mine x0 MX.out).alloc _
         . intro b hb hb'
           have h1 := HM2.out.lt b hb
           have h2 := RX.out b hb'
           omega
         . exact news_new _ _ _
         . intro u hu
           simp at hu
           rcases hu with hu | hu <;> (rw [hu]; rfl)
         intro g cap wA fpA m1 m2 m3
         rw [HL.out] at m1 ⊢
         rw [← HTK.out] at m1
         have ya : Box wA BO 109 _ := (XOC.out.alloc _).turned m3 (fun hm => by have := HFP.out _ hm; omega)
         have yw : Box wA wr.heap.size 159 _ := (XWC.out.alloc _).turned m3 (fun hm => by have h1 := HM2.out; have h2 := HFX.out _ hm; omega)
         have r0 : wA.cell? ⟨BO, 1, none⟩ = some v1 /\ wA.cell? ⟨wr.heap.size, 0, none⟩ = some (.int .i64 x0) /\ wA.cell? ⟨wr.heap.size, 1, none⟩ = some (.slice av x1.length cv) := ⟨ya.cell 1, yw.cell 0, yw.cell 1⟩
         have q9 := r0.1
         have fz := ya.frozen 1
         have YA := hidden ya
         have M1 := hidden m1
         have M2 := hidden m2
         have M3 := hidden m3
         clear ya yw m1 m2 m3
         refine hK.out _ _ (fun _ => r0) ?_
         clear hK K
         simp only [Act.put, List.setIfInBounds_toArray, List.set_cons_zero, List.set_cons_succ]
         refine Upto.t 10 r0 ?_
         refine Upto.one (i := 11) (by kernel_rfl) rfl (fun K hK => ?_)
         go_simp
         refine hK.out _ _ (fun h => absurd rfl h) ?_
         clear hK K
         refine Upto.done (by kernel_rfl) ?_ _
         have hfA := round_fp (N := w7.heap.size) hs8 HBC.out HFP.out RX.out M2.out
         have frA := Fr.round FR2.out hs8 HBC.out _ M3.out HFP.out 1 (.slice (some ⟨g, 0, none⟩) (j + 1) cap)
         have mA := M1.out.setCell (g := BO) (j := 1) (fun hm => by have := hfA _ hm; omega) (.slice (some ⟨g, 0, none⟩) (j + 1) cap)
         have yA := YA.out.set 1 (.slice (some ⟨g, 0, none⟩) (j + 1) cap)
         have HFA := hidden hfA
         have FRA := hidden frA
         have MA := hidden mA
         have YA' := hidden yA
         clear hfA frA mA yA hS d0 d2 r0 q9 YA M1 M2 M3 XOC MX RX HBC HFP HM2 FR2 XO2 XW HX2 XWC HFX
         go_wp2
         go_roundw
         case rel => exact ⟨j + 1, _, fpA, by omega, by go_num, FRA.out, YA'.out, MA.out, HFA.out⟩
         case measure => simp [intOf]; omega
       . have e : n1 = j := by omega
         subst e
         rw [List.take_of_length_le (by omega)] at hm
         have hlt := hm.lt
         have xr := fr.box GR.out (by omega) (by omega)
         obtain ⟨p0, p1, p2, p3⟩ := xr.cells4
         have fz := xr.frozen
         obtain ⟨r0, r1, r2, r3⟩ := xo.cells4
         have K3 := fr.mine G3.out (fun b hb => by have := fs3 b hb; omega)
         have K0 := fr.own G0.out (by omega) (by omega)
         have K1 := hm.own (lo := w7.heap.size) (hi := wr.heap.size) (fun b hb => ⟨hfp b hb, hlt b hb⟩)
         have KB := GB.out.trans (fr.below (M := w.heap.size) (by omega) (by omega))
         obtain ⟨e0, g0, hv0⟩ := row_shape K0.rd
         obtain ⟨e1, g1, hv1⟩ := row_shape K1.rd
         rw [hl0] at hv0
         rw [hl1] at hv1
         subst hv0 hv1
         have hbt : But (w.heap.size + 1) (w.heap.size + 2) wr ((((wr.setCell ⟨w.heap.size + 1, 0, none⟩ (.slice e0 n0 g0)).setCell ⟨w.heap.size + 1, 1, none⟩ (.slice e1 n1 g1)).setCell ⟨w.heap.size + 1, 2, none⟩ (.bool f)).setCell ⟨w.heap.size + 1, 3, none⟩ (.slice a5 n3 c5)) :=
          (((But.setCell (by omega) (by omega) _).trans (But.setCell (by omega) (by omega) _)).trans (But.setCell (by omega) (by omega) _)).trans (But.setCell (by omega) (by omega) _)
         have H3 := hidden ((K3.but hbt (fun b hb => by have := fs3 b hb; omega)).own (lo := w.heap.size) (hi := w6.heap.size) (fun b hb => by have := fs3 b hb; omega))
         have H0 := hidden (K0.but hbt (by omega))
         have H1 := hidden (K1.but hbt (by omega))
         have HB := hidden (Below.andBut KB hbt (by omega))
         have hsz := hbt.size
         clear fr xo hm hfp hlt xr K3 K0 K1 KB hbt GM GR GB G3 G0 GO
         go_wp2
         refine bodyPost_ret (v := .agg #[.slice e0 n0 g0, .slice e1 n1 g1, .bool f, .slice a5 n3 c5]) (by simp [results, Tryz.results111, go_sem, p0, p1, p2, p3]) rfl ?_
         exact ⟨_, _, _, w6.heap.size, w7.heap.size, rfl, H3.out, H0.out, H1.out.widen (Nat.le_refl _) hsz, by omega, by omega, by omega, HB.out⟩
 . have sW := HSZ.out
   have zz := hb5'.size
   have zy : W.heap.size < w5.heap.size := xo.lt
   have hbt : But W.heap.size (W.heap.size + 1) w5 ((((w5.setCell ⟨W.heap.size, 0, none⟩ (.slice none 0 0)).setCell ⟨W.heap.size, 1, none⟩ (.slice none 0 0)).setCell ⟨W.heap.size, 2, none⟩ (.bool f)).setCell ⟨W.heap.size, 3, none⟩ (.slice a5 n3 c5)) :=
    (((But.setCell (by omega) (by omega) _).trans (But.setCell (by omega) (by omega) _)).trans (But.setCell (by omega) (by omega) _)).trans (But.setCell (by omega) (by omega) _)
   obtain ⟨fp3, m3, r3⟩ := Ty.Own.mine (show tIntS.Own w5 (W.alloc (.cells #[.slice none 0 0, .slice none 0 0, .bool false, .slice none 0 0] 109)).heap.size w5.heap.size [.slice a5 n3 c5] bs from o5)
   have hz6 : (W.alloc (.cells #[.slice none 0 0, .slice none 0 0, .bool false, .slice none 0 0] 109)).heap.size = W.heap.size + 1 := by simp
   have FM := hidden ((xm.below hb5' zW).kept (hbt.block _ (by omega) (by omega)))
   have FR := hidden ((xr.below hb5' (by omega)).kept (hbt.block _ (by omega) (by omega)))
   have FO := hidden ((((xo.set 0 (.slice none 0 0)).set 1 (.slice none 0 0)).set 2 (.bool f)).set 3 (.slice a5 n3 c5))
   have F3 := hidden (m3.but hbt (fun b hb => by have := r3 b hb; omega))
   have FB := hidden (hA.trans ((hb5'.mono (by omega : w.heap.size <= W.heap.size)).trans (hbt.below (by omega) (by omega))))
   have hsz := hbt.size
   have FS : Hid (w.heap.size + 2 <= W.heap.size /\ W.heap.size < ((((w5.setCell ⟨W.heap.size, 0, none⟩ (.slice none 0 0)).setCell ⟨W.heap.size, 1, none⟩ (.slice none 0 0)).setCell ⟨W.heap.size, 2, none⟩ (.bool f)).setCell ⟨W.heap.size, 3, none⟩ (.slice a5 n3 c5)).heap.size /\ ∀ b ∈ fp3, w.heap.size + 2 <= b /\ b < ((((w5.setCell ⟨W.heap.size, 0, none⟩ (.slice none 0 0)).setCell ⟨W.heap.size, 1, none⟩ (.slice none 0 0)).setCell ⟨W.heap.size, 2, none⟩ (.bool f)).setCell ⟨W.heap.size, 3, none⟩ (.slice a5 n3 c5)).heap.size /\ b ≠ W.heap.size) := ⟨by omega, by omega, fun b hb => by have := r3 b hb; omega⟩
   clear sW zz zy hbt m3 r3 hz6 hsz hS g3 q0 q1 q2 q3 xm xr hb5' o5 hb5 hA HSZ zW xo t0 t1 t2 t3 u0 u1 u2 u3
   generalize (((w5.setCell ⟨W.heap.size, 0, none⟩ (.slice none 0 0)).setCell ⟨W.heap.size, 1, none⟩ (.slice none 0 0)).setCell ⟨W.heap.size, 2, none⟩ (.bool f)).setCell ⟨W.heap.size, 3, none⟩ (.slice a5 n3 c5) = w6 at FM FR FO F3 FB FS ⊢
   generalize W.heap.size = BO at FO FS ⊢
   obtain ⟨p0, p1, p2, p3⟩ := FM.out.cells4
   obtain ⟨fs1, fs2, fs3⟩ := FS.out
   go_wp2
   go_loopw [17] (fun i wr => ∃ (j : Nat) (v0 : Value) (fp0 : List Nat), j <= n0 /\ i = .int .i64 j /\ Fr w6.heap.size BO w6 wr /\ Box wr BO 109 #[v0, .slice none 0 0, .bool f, .slice a5 n3 c5] /\ tIntSS.Mine wr [v0] (ss.take j) fp0 /\ (∀ b ∈ fp0, w6.heap.size <= b)) (fun i _ => n0 - (intOf i).toNat)
   case atStart => exact ⟨0, _, [], Nat.zero_le _, rfl, Fr.refl _ _ _, FO.out, nil_mine _, by simp⟩
   case round =>
    obtain ⟨j, v0, fp0, hj, rfl, fr, xo, hm, hfp⟩ := hrel
    have hs := fr.size
    have xm := fr.box FM.out (by omega) (by omega)
    have hb := FB.out.trans (fr.below (M := w.heap.size) (by omega) (by omega))
    obtain ⟨q0, q1, q2, q3⟩ := xm.cells4
    clear xm
    by_cases hjn : j < n0
    . rcases rows_at rfl h0 with h0' | ⟨b, off, rfl, hbl, hcs⟩
      . omega
      have hdj : ss[j]? = some (ss[j]'(by omega)) := List.getElem?_eq_getElem (by omega)
      have htk : ss.take (j + 1) = ss.take j ++ [ss[j]'(by omega)] := List.take_succ_eq_append_getElem (by omega)
      generalize ss[j]'(by omega) = x at hdj htk
      have hil := inner_le hdj
      obtain ⟨v, hv, hrv⟩ := hcs j x hdj
      obtain ⟨av, cv, rfl⟩ := row_shape hrv
      have pv := (hb.cell (p := ⟨b, off + j, none⟩) hbl).trans hv
      have HX := hidden (hrv.below hb)
      have k1 : (0 : Int) <= (j : Int) := by omega
      have k2 : (j : Int) < (n0 : Int) := by omega
      have HTK := hidden htk
      have XO := hidden xo
      have FRR := hidden fr
      have HM := hidden hm
      have HFP := hidden hfp
      have HL : Hid ((ss.take j).length = j) := by unfold Hid; rw [List.length_take]; omega
      have L1 : Hid ((ss.take j).length + 1 <= maxLen) := by unfold Hid; rw [HL.out]; unfold maxLen; omega
      have L2 : Hid (((ss.take j).length + 1) * 24 <= 140737488355328) := by unfold Hid; rw [HL.out]; omega
      have c0 : wr.drew.cell? ⟨BO, 0, none⟩ = some v0 := xo.cell 0
      clear hcs hdj hv hrv htk xo hm hfp hb fr
      go_wp2_with fail
      refine Upto.start (S := fun w' => w'.cell? ⟨BO, 0, none⟩ = some v0) (k := 7) (by kernel_rfl) ?_
      refine Upto.take (i := 0) (v := ?_) rfl (by kernel_rfl) (by kernel_rfl) (by kernel_rfl) (by kernel_rfl) (fun _ _ _ h => h) (Or.inl ⟨by rfl, ?_⟩) c0 ?_
      rotate_left 1
      . (intro w hSw; (try dsimp only at hSw); go_split_ands; go_simp; first | done | with_reducible rfl)
      refine Upto.t 1 c0 ?_
      refine Upto.t 2 c0 ?_
      refine Upto.one (i := 3) (by kernel_rfl) rfl (fun K hK => ?_)
      go_simp
      refine (copyWords_any _ _ _ _ x (by exact HX.out.drew) (by omega)).mono ?_
      rintro e wc ⟨ac, cc, rfl, oc, hbc⟩
      have hbc' : Below wr.heap.size wr wc := (by exact (Below.refl wr.heap.size wr).drew.trans hbc)
      have xoc : Box wc BO 109 _ := XO.out.below hbc' (by omega)
      have c1 : wc.cell? ⟨BO, 0, none⟩ = some v0 := xoc.cell 0
      have c2 : (wc.alloc (.cells #[.slice ac x.length cc] 30)).cell? ⟨BO, 0, none⟩ = some v0 := (xoc.alloc (.cells #[.slice ac x.length cc] 30)).cell 0
      obtain ⟨fpx, mx, rx⟩ := Ty.Own.mine (lo := wr.heap.size) oc
      have XOC := hidden xoc
      have MX := hidden mx
      have RX := hidden rx
      have HBC := hidden hbc'
      clear xoc mx rx oc hbc hbc'
      go_wp2_with fail
      refine hK.out _ _ (fun _ => c1) ?_
      clear hK K
      refine Upto.one (i := 4) (by kernel_rfl) rfl (fun K hK => ?_)
      go_simp
      refine hK.out _ _ (fun _ => c2) ?_
      clear hK K
      refine Upto.one (i := 5) (by kernel_rfl) rfl (fun K hK => ?_)
      refine step_appT tIntS (by rfl) _ _ 106 (by rfl) 30 i0 (.slice none 0 0) 24 Tryz.underlying106 hi hz0 hz1 hz2 rfl Nat.zero_lt_one v0 (ss.take j) fp0 (by rfl) ?_ ⟨wc.heap.size, 0, none⟩ 1 [.slice ac x.length cc] x fpx (by rfl) ?_ ?_ ?_ ?_ L1.out L2.out ?_
      . exact (HM.out.below HBC.out).alloc _
      . exact MX.out.alloc _
      . intro b hb hb'
        have h1 := HM.out.lt b hb
        have h2 := RX.out b hb'
        omega
      . exact news_new _ _ _
      . intro u hu
        simp at hu
        rw [hu]
        rfl
      intro g cap wA fpA m1 m2 m3
      rw [HL.out] at m1 ⊢
      rw [← HTK.out] at m1
      have ya : Box wA BO 109 _ := (XOC.out.alloc _).turned m3 (fun hm => by have := HFP.out _ hm; omega)
      have r0 : wA.cell? ⟨BO, 0, none⟩ = some v0 := ya.cell 0
      have fz := ya.frozen 0
      have YA := hidden ya
      have M1 := hidden m1
      have M2 := hidden m2
      have M3 := hidden m3
      clear ya m1 m2 m3
      refine hK.out _ _ (fun _ => r0) ?_
      clear hK K
      simp only [Act.put, List.setIfInBounds_toArray, List.set_cons_zero, List.set_cons_succ]
      refine Upto.t 6 r0 ?_
      refine Upto.one (i := 7) (by kernel_rfl) rfl (fun K hK => ?_)
      go_simp
      refine hK.out _ _ (fun h => absurd rfl h) ?_
      clear hK K
      refine Upto.done (by kernel_rfl) ?_ _
      have hfA := round_fp (N := w6.heap.size) hs HBC.out HFP.out RX.out M2.out
      have frA := Fr.round FRR.out hs HBC.out _ M3.out HFP.out 0 (.slice (some ⟨g, 0, none⟩) (j + 1) cap)
      have mA := M1.out.setCell (g := BO) (j := 0) (fun hm => by have := hfA _ hm; omega) (.slice (some ⟨g, 0, none⟩) (j + 1) cap)
      have yA := YA.out.set 0 (.slice (some ⟨g, 0, none⟩) (j + 1) cap)
      have HFA := hidden hfA
      have FRA := hidden frA
      have MA := hidden mA
      have YA' := hidden yA
      clear hfA frA mA yA c0 c1 c2 r0 YA M1 M2 M3 XOC MX RX HBC HFP HM FRR XO
      go_wp2
      go_roundw
      case rel => exact ⟨j + 1, _, fpA, by omega, by go_num, FRA.out, YA'.out, MA.out, HFA.out⟩
      case measure => simp [intOf]; omega
    . have e : n0 = j := by omega
      subst e
      rw [List.take_of_length_le (by omega)] at hm
      have hlt := hm.lt
      have GR := hidden (fr.box FR.out (by omega) (by omega))
      have GM := hidden (fr.box FM.out (by omega) (by omega))
      have GB := hidden (FB.out.trans (fr.below (M := w.heap.size) (by omega) (by omega)))
      have G3 := hidden (fr.mine F3.out (fun b hb => by have := fs3 b hb; omega))
      have G0 := hidden (hm.own (lo := w6.heap.size) (hi := wr.heap.size) (fun b hb => ⟨hfp b hb, hlt b hb⟩))
      have GO := hidden xo
      clear fr xo hm hfp hlt FM FO F3 FB FR
      go_wp2
      generalize wr = w7 at hs GM GR GB G3 G0 GO q0 q1 q2 q3 ⊢
      go_loopw [32] (fun i wr => ∃ (j : Nat) (v1 : Value) (fp1 : List Nat), j <= n1 /\ i = .int .i64 j /\ Fr w7.heap.size BO w7 wr /\ Box wr BO 109 #[v0, v1, .bool f, .slice a5 n3 c5] /\ (tWrS 159).Mine wr [v1] (cs.take j) fp1 /\ (∀ b ∈ fp1, w7.heap.size <= b)) (fun i _ => n1 - (intOf i).toNat)
      case atStart => exact ⟨0, _, [], Nat.zero_le _, rfl, Fr.refl _ _ _, GO.out, nil_mine _, by simp⟩
      case round =>
       obtain ⟨j, v1, fp1, hj, rfl, fr, xo, hm, hfp⟩ := hrel
       have hs2 := fr.size
       have xm := fr.box GM.out (by omega) (by omega)
       have hb := GB.out.trans (fr.below (M := w.heap.size) (by omega) (by omega))
       clear q0 q1 q2 q3
       obtain ⟨q0, q1, q2, q3⟩ := xm.cells4
       clear xm
       by_cases hjn : j < n1
       . rcases pairs_at rfl h1 with h0' | ⟨b, off, rfl, hbl, hcs⟩
         . omega
         have hdj : cs[j]? = some (cs[j]'(by omega)) := List.getElem?_eq_getElem (by omega)
         have htk : cs.take (j + 1) = cs.take j ++ [cs[j]'(by omega)] := List.take_succ_eq_append_getElem (by omega)
         generalize cs[j]'(by omega) = x at hdj htk
         have hil := inner_le' hdj
         obtain ⟨u0, u1, hv0, hv1, hrv⟩ := hcs j x hdj
         obtain ⟨rfl, hrv'⟩ := wr_rd hrv
         obtain ⟨av, cv, rfl⟩ := row_shape hrv'
         have pv0 := (hb.cell (p := ⟨b, off + j * 2, none⟩) hbl).trans hv0
         have pv1 := (hb.cell (p := ⟨b, off + j * 2 + 1, none⟩) hbl).trans hv1
         obtain ⟨x0, x1⟩ := x
         simp only at pv0 pv1 hrv' hil
         have HX := hidden (hrv'.below hb)
         have k1 : (0 : Int) <= (j : Int) := by omega
         have k2 : (j : Int) < (n1 : Int) := by omega
         have HTK := hidden htk
         have XO := hidden xo
         have FRR := hidden fr
         have HM := hidden hm
         have HFP := hidden hfp
         have HL : Hid ((cs.take j).length = j) := by unfold Hid; rw [List.length_take]; omega
         have L1 : Hid ((cs.take j).length + 1 <= maxLen) := by unfold Hid; rw [HL.out]; unfold maxLen; omega
         have L2 : Hid (((cs.take j).length + 1) * 32 <= 140737488355328) := by unfold Hid; rw [HL.out]; omega
         have xw := Box.new wr 159 #[.int .i64 x0, .slice av x1.length cv]
         have ba : Below wr.heap.size wr (wr.alloc (.cells #[.int .i64 x0, .slice av x1.length cv] 159)) := (Below.refl _ _).alloc (Nat.le_refl _) _
         have XO2 := hidden (xo.alloc (.cells #[.int .i64 x0, .slice av x1.length cv] 159))
         have HM2 := hidden (hm.alloc (.cells #[.int .i64 x0, .slice av x1.length cv] 159))
         have HX2 := hidden (HX.out.below ba)
         have FR2 := hidden (fr.trans (Fr.ofBelow (B := BO) ba hs2))
         have HZ : Hid (wr.heap.size < (wr.alloc (.cells #[.int .i64 x0, .slice av x1.length cv] 159)).heap.size) := by unfold Hid; simp
         have XW := hidden xw
         have HFX := hidden hm.lt
         clear hcs hdj hv0 hv1 hrv hrv' htk xo hm hfp hb fr xw ba HX HM FRR XO
         go_wp2_with fail
         generalize wr.alloc (.cells #[.int .i64 x0, .slice av x1.length cv] 159) = w8 at XO2 HM2 HX2 FR2 HZ XW ⊢
         have zw := HZ.out
         have hs8 : w7.heap.size <= w8.heap.size := by omega
         have c0 : w8.drew.cell? ⟨BO, 1, none⟩ = some v1 := XO2.out.cell 1
         have c1 : w8.drew.cell? ⟨wr.heap.size, 0, none⟩ = some (.int .i64 x0) := XW.out.cell 0
         have c2 : w8.drew.cell? ⟨wr.heap.size, 1, none⟩ = some (.slice av x1.length cv) := XW.out.cell 1
         have hS : w8.drew.cell? ⟨BO, 1, none⟩ = some v1 /\ w8.drew.cell? ⟨wr.heap.size, 0, none⟩ = some (.int .i64 x0) /\ w8.drew.cell? ⟨wr.heap.size, 1, none⟩ = some (.slice av x1.length cv) := ⟨c0, c1, c2⟩
         clear c0 c1 c2
         refine Upto.start (S := fun w' => w'.cell? ⟨BO, 1, none⟩ = some v1 /\ w'.cell? ⟨wr.heap.size, 0, none⟩ = some (.int .i64 x0) /\ w'.cell? ⟨wr.heap.size, 1, none⟩ = some (.slice av x1.length cv)) (k := 11) (by kernel_rfl) ?_
         refine Upto.take (i := 0) (v := ?_) rfl (by kernel_rfl) (by kernel_rfl) (by kernel_rfl) (by kernel_rfl) (fun _ _ _ h => h) (Or.inl ⟨by rfl, ?_⟩) hS ?_
         rotate_left 1
         . (intro w hSw; (try dsimp only at hSw); go_split_ands; go_simp; first | done | with_reducible rfl)
         refine Upto.t 1 hS ?_
         refine Upto.t 2 hS ?_
         refine Upto.t 3 hS ?_
         refine Upto.t 4 hS ?_
         refine Upto.t 5 hS ?_
         refine Upto.one (i := 6) (by kernel_rfl) rfl (fun K hK => ?_)
         go_simp
         refine (copyWords_any _ _ _ _ x1 (by exact HX2.out.drew) (by omega)).mono ?_
         rintro e wc ⟨ac, cc, rfl, oc, hbc⟩
         have hbc' : Below w8.heap.size w8 wc := (by exact (Below.refl w8.heap.size w8).drew.trans hbc)
         have xoc : Box wc BO 109 _ := XO2.out.below hbc' (by omega)
         have xwc : Box wc wr.heap.size 159 _ := XW.out.below hbc' zw
         have d0 : wc.cell? ⟨BO, 1, none⟩ = some v1 /\ wc.cell? ⟨wr.heap.size, 0, none⟩ = some (.int .i64 x0) /\ wc.cell? ⟨wr.heap.size, 1, none⟩ = some (.slice av x1.length cv) := ⟨xoc.cell 1, xwc.cell 0, xwc.cell 1⟩
         have d2 : (wc.alloc (.cells #[.int .i64 x0, .slice ac x1.length cc] 159)).cell? ⟨BO, 1, none⟩ = some v1 /\ (wc.alloc (.cells #[.int .i64 x0, .slice ac x1.length cc] 159)).cell? ⟨wr.heap.size, 0, none⟩ = some (.int .i64 x0) /\ (wc.alloc (.cells #[.int .i64 x0, .slice ac x1.length cc] 159)).cell? ⟨wr.heap.size, 1, none⟩ = some (.slice av x1.length cv) := ⟨(xoc.alloc _).cell 1, (xwc.alloc _).cell 0, (xwc.alloc _).cell 1⟩
         obtain ⟨fpx, mx, rx⟩ := Ty.Own.mine (lo := w8.heap.size) oc
         have XOC := hidden xoc
         have XWC := hidden xwc
         have MX := hidden mx
         have RX := hidden rx
         have HBC := hidden hbc'
         clear xoc xwc mx rx oc hbc hbc'
         go_wp2_with fail
         refine hK.out _ _ (fun _ => d0) ?_
         clear hK K
         refine Upto.t 7 d0 ?_
         refine Upto.one (i := 8) (by kernel_rfl) rfl (fun K hK => ?_)
         go_simp
         refine hK.out _ _ (fun _ => d2) ?_
         clear hK K
         refine Upto.one (i := 9) (by kernel_rfl) rfl (fun K hK => ?_)
         refine step_appT tWr (by rfl) _ _ 107 (by rfl) 159 i1 (.agg #[.int .i64 0, .slice none 0 0]) 32 Tryz.underlying107 hi1 hy0 hy1 hy2 rfl Nat.zero_lt_two v1 (cs.take j) fp1 (by rfl) ?_ ⟨wc.heap.size, 0, none⟩ 1 [.int .i64 x0, .slice ac x1.length cc] (x0, x1) fpx (by rfl) ?_ ?_ ?_ ?_ L1.out L2.out ?_
         . exact (HM2.out.below HBC.out).alloc _
         . exact (wr_mine x0 MX.out).alloc _
         . intro b hb hb'
           have h1 := HM2.out.lt b hb
           have h2 := RX.out b hb'
           omega
         . exact news_new _ _ _
         . intro u hu
           simp at hu
           rcases hu with hu | hu <;> (rw [hu]; rfl)
         intro g cap wA fpA m1 m2 m3
         rw [HL.out] at m1 ⊢
         rw [← HTK.out] at m1
         have ya : Box wA BO 109 _ := (XOC.out.alloc _).turned m3 (fun hm => by have := HFP.out _ hm; omega)
         have yw : Box wA wr.heap.size 159 _ := (XWC.out.alloc _).turned m3 (fun hm => by have h1 := HM2.out; have h2 := HFX.out _ hm; omega)
         have r0 : wA.cell? ⟨BO, 1, none⟩ = some v1 /\ wA.cell? ⟨wr.heap.size, 0, none⟩ = some (.int .i64 x0) /\ wA.cell? ⟨wr.heap.size, 1, none⟩ = some (.slice av x1.length cv) := ⟨ya.cell 1, yw.cell 0, yw.cell 1⟩
         have q9 := r0.1
         have fz := ya.frozen 1
         have YA := hidden ya
         have M1 := hidden m1
         have M2 := hidden m2
         have M3 := hidden m3
         clear ya yw m1 m2 m3
         refine hK.out _ _ (fun _ => r0) ?_
         clear hK K
         simp only [Act.put, List.setIfInBounds_toArray, List.set_cons_zero, List.set_cons_succ]
         refine Upto.t 10 r0 ?_
         refine Upto.one (i := 11) (by kernel_rfl) rfl (fun K hK => ?_)
         go_simp
         refine hK.out _ _ (fun h => absurd rfl h) ?_
         clear hK K
         refine Upto.done (by kernel_rfl) ?_ _
         have hfA := round_fp (N := w7.heap.size) hs8 HBC.out HFP.out RX.out M2.out
         have frA := Fr.round FR2.out hs8 HBC.out _ M3.out HFP.out 1 (.slice (some ⟨g, 0, none⟩) (j + 1) cap)
         have mA := M1.out.setCell (g := BO) (j := 1) (fun hm => by have := hfA _ hm; omega) (.slice (some ⟨g, 0, none⟩) (j + 1) cap)
         have yA := YA.out.set 1 (.slice (some ⟨g, 0, none⟩) (j + 1) cap)
         have HFA := hidden hfA
         have FRA := hidden frA
         have MA := hidden mA
         have YA' := hidden yA
         clear hfA frA mA yA hS d0 d2 r0 q9 YA M1 M2 M3 XOC MX RX HBC HFP HM2 FR2 XO2 XW HX2 XWC HFX
         go_wp2
         go_roundw
         case rel => exact ⟨j + 1, _, fpA, by omega, by go_num, FRA.out, YA'.out, MA.out, HFA.out⟩
         case measure => simp [intOf]; omega
       . have e : n1 = j := by omega
         subst e
         rw [List.take_of_length_le (by omega)] at hm
         have hlt := hm.lt
         have xr := fr.box GR.out (by omega) (by omega)
         obtain ⟨p0, p1, p2, p3⟩ := xr.cells4
         have fz := xr.frozen
         obtain ⟨r0, r1, r2, r3⟩ := xo.cells4
         have K3 := fr.mine G3.out (fun b hb => by have := fs3 b hb; omega)
         have K0 := fr.own G0.out (by omega) (by omega)
         have K1 := hm.own (lo := w7.heap.size) (hi := wr.heap.size) (fun b hb => ⟨hfp b hb, hlt b hb⟩)
         have KB := GB.out.trans (fr.below (M := w.heap.size) (by omega) (by omega))
         obtain ⟨e0, g0, hv0⟩ := row_shape K0.rd
         obtain ⟨e1, g1, hv1⟩ := row_shape K1.rd
         rw [hl0] at hv0
         rw [hl1] at hv1
         subst hv0 hv1
         have hbt : But (w.heap.size + 1) (w.heap.size + 2) wr ((((wr.setCell ⟨w.heap.size + 1, 0, none⟩ (.slice e0 n0 g0)).setCell ⟨w.heap.size + 1, 1, none⟩ (.slice e1 n1 g1)).setCell ⟨w.heap.size + 1, 2, none⟩ (.bool f)).setCell ⟨w.heap.size + 1, 3, none⟩ (.slice a5 n3 c5)) :=
          (((But.setCell (by omega) (by omega) _).trans (But.setCell (by omega) (by omega) _)).trans (But.setCell (by omega) (by omega) _)).trans (But.setCell (by omega) (by omega) _)
         have H3 := hidden ((K3.but hbt (fun b hb => by have := fs3 b hb; omega)).own (lo := w.heap.size) (hi := w6.heap.size) (fun b hb => by have := fs3 b hb; omega))
         have H0 := hidden (K0.but hbt (by omega))
         have H1 := hidden (K1.but hbt (by omega))
         have HB := hidden (Below.andBut KB hbt (by omega))
         have hsz := hbt.size
         clear fr xo hm hfp hlt xr K3 K0 K1 KB hbt GM GR GB G3 G0 GO
         go_wp2
         refine bodyPost_ret (v := .agg #[.slice e0 n0 g0, .slice e1 n1 g1, .bool f, .slice a5 n3 c5]) (by simp [results, Tryz.results111, go_sem, p0, p1, p2, p3]) rfl ?_
         exact ⟨_, _, _, w6.heap.size, w7.heap.size, rfl, H3.out, H0.out, H1.out.widen (Nat.le_refl _) hsz, by omega, by omega, by omega, HB.out⟩

end Go.Proofs.YtianjijbmiebgaaGreat

/-
  Both BestSuper (the program's and the specification's) answer as the definition here says. Condition: the disk weighs at most 2097152.
-/
import Derived.Test.YtlcjfgmmjkandaaWalkSuperAt
namespace Go.Proofs.Ytlcjfgmmjkandaa
open Go.RowKit

/-- What stands at place j counts; what it is; the best of the places ahead of j. -/
def atB (ss : List (List Int)) (cs : List (Int × List Int)) (f : Bool) (bs : List Int) (id : Int) (j : Nat) : Bool := atOk (readOk ss cs f bs (j : Int)) (readD ss cs f bs (j : Int)) id (j : Int)
def atS (ss : List (List Int)) (cs : List (Int × List Int)) (f : Bool) (bs : List Int) (id : Int) (j : Nat) : Sup := atD (readOk ss cs f bs (j : Int)) (readD ss cs f bs (j : Int)) id (j : Int)
def better (k : Bool) (x y : Sup) (fb : Bool) : Bool := k && (!fb || decide (y.gen < x.gen))
def bestSt (ss : List (List Int)) (cs : List (Int × List Int)) (f : Bool) (bs : List Int) (id : Int) : Nat → Sup × Bool
  | 0 => (supZ, false)
  | j + 1 => if better (atB ss cs f bs id j) (atS ss cs f bs id j) (bestSt ss cs f bs id j).1 (bestSt ss cs f bs id j).2 = true then (atS ss cs f bs id j, true) else bestSt ss cs f bs id j
theorem best_up {ss : List (List Int)} {cs : List (Int × List Int)} {f : Bool} {bs : List Int} {id : Int} {j : Nat} {y : Sup} {fb : Bool} (h : bestSt ss cs f bs id j = (y, fb)) (hb : better (atOk (readOk ss cs f bs (j : Int)) (readD ss cs f bs (j : Int)) id (j : Int)) (atD (readOk ss cs f bs (j : Int)) (readD ss cs f bs (j : Int)) id (j : Int)) y fb = true) :
    bestSt ss cs f bs id (j + 1) = (atD (readOk ss cs f bs (j : Int)) (readD ss cs f bs (j : Int)) id (j : Int), true) := by
  have e : bestSt ss cs f bs id (j + 1) = if better (atB ss cs f bs id j) (atS ss cs f bs id j) (bestSt ss cs f bs id j).1 (bestSt ss cs f bs id j).2 = true then (atS ss cs f bs id j, true) else bestSt ss cs f bs id j := rfl
  rw [e, h]
  exact if_pos hb
theorem best_same {ss : List (List Int)} {cs : List (Int × List Int)} {f : Bool} {bs : List Int} {id : Int} {j : Nat} {y : Sup} {fb : Bool} (h : bestSt ss cs f bs id j = (y, fb)) (hb : better (atOk (readOk ss cs f bs (j : Int)) (readD ss cs f bs (j : Int)) id (j : Int)) (atD (readOk ss cs f bs (j : Int)) (readD ss cs f bs (j : Int)) id (j : Int)) y fb = false) :
    bestSt ss cs f bs id (j + 1) = (y, fb) := by
  have e : bestSt ss cs f bs id (j + 1) = if better (atB ss cs f bs id j) (atS ss cs f bs id j) (bestSt ss cs f bs id j).1 (bestSt ss cs f bs id j).2 = true then (atS ss cs f bs id j, true) else bestSt ss cs f bs id j := rfl
  rw [e, h]
  refine if_neg ?_
  have : better (atB ss cs f bs id j) (atS ss cs f bs id j) y fb = false := hb
  simp [this]
theorem best_end {ss : List (List Int)} {cs : List (Int × List Int)} {f : Bool} {bs : List Int} {id : Int} {y : Sup} {fb : Bool} (h : bestSt ss cs f bs id 2 = (y, fb)) : Ending.returned (.tuple #[.agg #[.int .i64 y.id, .int .i64 y.gen, .int .i64 y.role, .int .i64 y.n, .int .i64 y.s, .int .i64 y.tail, .int .i64 y.lost, .int .i64 y.built], .bool fb]) = .returned (.tuple #[.agg #[.int .i64 ((bestSt ss cs f bs id 2).1).id, .int .i64 ((bestSt ss cs f bs id 2).1).gen, .int .i64 ((bestSt ss cs f bs id 2).1).role, .int .i64 ((bestSt ss cs f bs id 2).1).n, .int .i64 ((bestSt ss cs f bs id 2).1).s, .int .i64 ((bestSt ss cs f bs id 2).1).tail, .int .i64 ((bestSt ss cs f bs id 2).1).lost, .int .i64 ((bestSt ss cs f bs id 2).1).built], .bool (bestSt ss cs f bs id 2).2]) := by rw [h]

set_option maxHeartbeats 6400000 in
theorem implBestSuper_any (w : World) (E : TypeId) (a0 a1 a3 : Option Addr) (n0 c0 n1 c1 n3 c3 : Nat) (ss : List (List Int)) (cs : List (Int × List Int)) (f : Bool) (bs : List Int) (id : Int) (h0 : tIntSS.Rd w [.slice a0 n0 c0] ss) (h1 : (tWrS E).Rd w [.slice a1 n1 c1] cs) (h3 : tIntS.Rd w [.slice a3 n3 c3] bs) (hw : wtMem (ss, cs, f, bs) ≤ 2097152) :
    Calls Try.prog 92 #[.agg #[.slice a0 n0 c0, .slice a1 n1 c1, .bool f, .slice a3 n3 c3], .int .i64 id] w fun e w' => e = .returned (.tuple #[.agg #[.int .i64 ((bestSt ss cs f bs id 2).1).id, .int .i64 ((bestSt ss cs f bs id 2).1).gen, .int .i64 ((bestSt ss cs f bs id 2).1).role, .int .i64 ((bestSt ss cs f bs id 2).1).n, .int .i64 ((bestSt ss cs f bs id 2).1).s, .int .i64 ((bestSt ss cs f bs id 2).1).tail, .int .i64 ((bestSt ss cs f bs id 2).1).lost, .int .i64 ((bestSt ss cs f bs id 2).1).built], .bool (bestSt ss cs f bs id 2).2]) ∧ Below w.heap.size w w' := by
  have hA := ((new_below w (.cells #[.slice a0 n0 c0, .slice a1 n1 c1, .bool f, .slice a3 n3 c3] 73)).alloc (by simp) (.cells #[.int .i64 0, .int .i64 0, .int .i64 0, .int .i64 0, .int .i64 0, .int .i64 0, .int .i64 0, .int .i64 0] 80)).alloc (by simp; omega) (.cells #[.int .i64 0, .int .i64 0, .int .i64 0, .int .i64 0, .int .i64 0, .int .i64 0, .int .i64 0, .int .i64 0] 80)
  have M0 := ((Box.new w 73 #[.slice a0 n0 c0, .slice a1 n1 c1, .bool f, .slice a3 n3 c3]).alloc (.cells #[.int .i64 0, .int .i64 0, .int .i64 0, .int .i64 0, .int .i64 0, .int .i64 0, .int .i64 0, .int .i64 0] 80)).alloc (.cells #[.int .i64 0, .int .i64 0, .int .i64 0, .int .i64 0, .int .i64 0, .int .i64 0, .int .i64 0, .int .i64 0] 80)
  have R0 := (Box.new (w.alloc (.cells #[.slice a0 n0 c0, .slice a1 n1 c1, .bool f, .slice a3 n3 c3] 73)) 80 #[.int .i64 0, .int .i64 0, .int .i64 0, .int .i64 0, .int .i64 0, .int .i64 0, .int .i64 0, .int .i64 0]).alloc (.cells #[.int .i64 0, .int .i64 0, .int .i64 0, .int .i64 0, .int .i64 0, .int .i64 0, .int .i64 0, .int .i64 0] 80)
  have T0 := Box.new ((w.alloc (.cells #[.slice a0 n0 c0, .slice a1 n1 c1, .bool f, .slice a3 n3 c3] 73)).alloc (.cells #[.int .i64 0, .int .i64 0, .int .i64 0, .int .i64 0, .int .i64 0, .int .i64 0, .int .i64 0, .int .i64 0] 80)) 80 #[.int .i64 0, .int .i64 0, .int .i64 0, .int .i64 0, .int .i64 0, .int .i64 0, .int .i64 0, .int .i64 0]
  rw [World.size_alloc] at R0
  rw [World.size_alloc, World.size_alloc] at T0
  go_enter Try.func92, Try.ntmps92
  go_wp2
  generalize ((w.alloc (.cells #[.slice a0 n0 c0, .slice a1 n1 c1, .bool f, .slice a3 n3 c3] 73)).alloc (.cells #[.int .i64 0, .int .i64 0, .int .i64 0, .int .i64 0, .int .i64 0, .int .i64 0, .int .i64 0, .int .i64 0] 80)).alloc (.cells #[.int .i64 0, .int .i64 0, .int .i64 0, .int .i64 0, .int .i64 0, .int .i64 0, .int .i64 0, .int .i64 0] 80) = W at hA M0 R0 T0 ⊢
  go_loopw [7, 12] (fun fv i wr => ∃ (j : Nat) (y : Sup) (fb : Bool), j ≤ 2 ∧ i = .int .i64 j ∧ fv = .bool fb ∧ bestSt ss cs f bs id j = (y, fb) ∧ Box wr (w.heap.size + 1 + 1) 80 #[.int .i64 y.id, .int .i64 y.gen, .int .i64 y.role, .int .i64 y.n, .int .i64 y.s, .int .i64 y.tail, .int .i64 y.lost, .int .i64 y.built] ∧ Box wr (w.heap.size + 1) 80 #[.int .i64 0, .int .i64 0, .int .i64 0, .int .i64 0, .int .i64 0, .int .i64 0, .int .i64 0, .int .i64 0] ∧ Box wr w.heap.size 73 #[.slice a0 n0 c0, .slice a1 n1 c1, .bool f, .slice a3 n3 c3] ∧ Below w.heap.size w wr) (fun _ i _ => 2 - (intOf i).toNat)
  case atStart => exact ⟨0, supZ, false, by omega, rfl, rfl, rfl, T0, R0, M0, hA⟩
  case round =>
    obtain ⟨j, y, fb, hj, rfl, rfl, hst, T1, R1, M1, B1⟩ := hrel
    have HST := hidden hst
    have zM := M1.lt
    have zR := R1.lt
    have zT := T1.lt
    clear hst
    by_cases hj2 : j < 2
    · have k2 : (j : Int) < 2 := by omega
      have k1 : (0 : Int) ≤ (j : Int) := by omega
      obtain ⟨q0, q1, q2, q3⟩ := M1.cells4
      go_wp2_with fail
      refine (superAt_any _ E _ _ _ _ _ _ _ _ _ ss cs f bs id (j : Int) (h0.below B1) (h1.below B1) (h3.below B1) hw).mono ?_
      rintro e w1 ⟨rfl, b1⟩
      have UP := hidden (fun h => best_up (ss := ss) (cs := cs) (f := f) (bs := bs) (id := id) HST.out h)
      have DN := hidden (fun h => best_same (ss := ss) (cs := cs) (f := f) (bs := bs) (id := id) HST.out h)
      generalize atD (readOk ss cs f bs (j : Int)) (readD ss cs f bs (j : Int)) id (j : Int) = x at UP DN ⊢
      generalize atOk (readOk ss cs f bs (j : Int)) (readD ss cs f bs (j : Int)) id (j : Int) = k at UP DN ⊢
      have T2 := T1.below b1 zT
      have R2 := R1.below b1 zR
      have M2 := M1.below b1 zM
      have B2 := Below.andThen B1 b1
      clear q0 q1 q2 q3 T1 R1 M1 B1 b1 zM zR zT
      have T3 := T2.alloc (.cells #[.int .i64 x.id, .int .i64 x.gen, .int .i64 x.role, .int .i64 x.n, .int .i64 x.s, .int .i64 x.tail, .int .i64 x.lost, .int .i64 x.built] 80)
      have R3 := hidden (R2.alloc (.cells #[.int .i64 x.id, .int .i64 x.gen, .int .i64 x.role, .int .i64 x.n, .int .i64 x.s, .int .i64 x.tail, .int .i64 x.lost, .int .i64 x.built] 80))
      have M3 := hidden (M2.alloc (.cells #[.int .i64 x.id, .int .i64 x.gen, .int .i64 x.role, .int .i64 x.n, .int .i64 x.s, .int .i64 x.tail, .int .i64 x.lost, .int .i64 x.built] 80))
      have B3 := hidden (B2.alloc B2.size (.cells #[.int .i64 x.id, .int .i64 x.gen, .int .i64 x.role, .int .i64 x.n, .int .i64 x.s, .int .i64 x.tail, .int .i64 x.lost, .int .i64 x.built] 80))
      have X3 := Box.new w1 80 #[.int .i64 x.id, .int .i64 x.gen, .int .i64 x.role, .int .i64 x.n, .int .i64 x.s, .int .i64 x.tail, .int .i64 x.lost, .int .i64 x.built]
      obtain ⟨x0, x1, x2, x3, x4, x5, x6, x7⟩ := X3.cells8
      obtain ⟨t0, t1, t2, t3, t4, t5, t6, t7⟩ := T3.cells8
      have fz := T3.frozen
      have TT := hidden T3
      clear T2 R2 M2 B2 X3 T3
      by_cases hb : better k x y fb = true
      · have HN := hidden (UP.out hb)
        have hbt := set8_but (w1.alloc (.cells #[.int .i64 x.id, .int .i64 x.gen, .int .i64 x.role, .int .i64 x.n, .int .i64 x.s, .int .i64 x.tail, .int .i64 x.lost, .int .i64 x.built] 80)) (w.heap.size + 1 + 1) (.int .i64 x.id) (.int .i64 x.gen) (.int .i64 x.role) (.int .i64 x.n) (.int .i64 x.s) (.int .i64 x.tail) (.int .i64 x.lost) (.int .i64 x.built)
        have TF := hidden (set8_box TT.out (.int .i64 x.id) (.int .i64 x.gen) (.int .i64 x.role) (.int .i64 x.n) (.int .i64 x.s) (.int .i64 x.tail) (.int .i64 x.lost) (.int .i64 x.built))
        have RF := hidden (R3.out.kept (hbt.block _ (by have := R3.out.lt; omega) (by omega)))
        have MF := hidden (M3.out.kept (hbt.block _ (by have := M3.out.lt; omega) (by omega)))
        have BF := hidden (Below.andBut B3.out hbt (by omega))
        unfold set8 at TF RF MF BF
        clear hbt UP DN R3 M3 B3 TT
        unfold better at hb
        simp only [Bool.and_eq_true, Bool.or_eq_true, Bool.not_eq_true', decide_eq_true_eq] at hb
        obtain ⟨hk, hc⟩ := hb
        subst hk
        by_cases hf : fb = true
        · subst hf
          have hc : y.gen < x.gen := by simpa using hc
          go_wp2
          go_roundw
          case rel => exact ⟨j + 1, x, true, by omega, by go_num, rfl, HN.out, TF.out, RF.out, MF.out, BF.out⟩
          case measure => simp [intOf]; omega
        · have hf : fb = false := by simpa using hf
          subst hf
          clear hc
          go_wp2
          go_roundw
          case rel => exact ⟨j + 1, x, true, by omega, by go_num, rfl, HN.out, TF.out, RF.out, MF.out, BF.out⟩
          case measure => simp [intOf]; omega
      · have hb' : better k x y fb = false := by simpa using hb
        have HN := hidden (DN.out hb')
        clear UP DN hb fz
        unfold better at hb'
        by_cases hk : k = true
        · subst hk
          by_cases hf : fb = true
          · subst hf
            have hc : ¬ y.gen < x.gen := by simpa using hb'
            clear hb'
            go_wp2
            go_roundw
            case rel => exact ⟨j + 1, y, true, by omega, by go_num, rfl, HN.out, TT.out, R3.out, M3.out, B3.out⟩
            case measure => simp [intOf]; omega
          · have hf : fb = false := by simpa using hf
            subst hf
            simp at hb'
        · have hk : k = false := by simpa using hk
          subst hk
          clear hb'
          go_wp2
          go_roundw
          case rel => exact ⟨j + 1, y, fb, by omega, by go_num, rfl, HN.out, TT.out, R3.out, M3.out, B3.out⟩
          case measure => simp [intOf]; omega
    · have e : j = 2 := by omega
      subst e
      obtain ⟨t0, t1, t2, t3, t4, t5, t6, t7⟩ := T1.cells8
      obtain ⟨r0, r1, r2, r3, r4, r5, r6, r7⟩ := R1.cells8
      have fz := R1.frozen
      have FB := hidden (Below.andBut B1 (set8_but wr (w.heap.size + 1) (.int .i64 y.id) (.int .i64 y.gen) (.int .i64 y.role) (.int .i64 y.n) (.int .i64 y.s) (.int .i64 y.tail) (.int .i64 y.lost) (.int .i64 y.built)) (by omega))
      unfold set8 at FB
      have HE := hidden (best_end HST.out)
      clear M1 T1 R1 B1 HST
      go_wp2
      refine bodyPost_ret (v := .tuple #[.agg #[.int .i64 y.id, .int .i64 y.gen, .int .i64 y.role, .int .i64 y.n, .int .i64 y.s, .int .i64 y.tail, .int .i64 y.lost, .int .i64 y.built], .bool fb]) (by simp [results, Try.results92, go_sem, r0, r1, r2, r3, r4, r5, r6, r7]) rfl ?_
      exact ⟨HE.out, FB.out⟩

set_option maxHeartbeats 6400000 in
theorem specBestSuper_any (w : World) (E : TypeId) (a0 a1 a3 : Option Addr) (n0 c0 n1 c1 n3 c3 : Nat) (ss : List (List Int)) (cs : List (Int × List Int)) (f : Bool) (bs : List Int) (id : Int) (h0 : tIntSS.Rd w [.slice a0 n0 c0] ss) (h1 : (tWrS E).Rd w [.slice a1 n1 c1] cs) (h3 : tIntS.Rd w [.slice a3 n3 c3] bs) (hw : wtMem (ss, cs, f, bs) ≤ 2097152) :
    Calls Try.prog 91 #[.agg #[.slice a0 n0 c0, .slice a1 n1 c1, .bool f, .slice a3 n3 c3], .int .i64 id] w fun e w' => e = .returned (.tuple #[.agg #[.int .i64 ((bestSt ss cs f bs id 2).1).id, .int .i64 ((bestSt ss cs f bs id 2).1).gen, .int .i64 ((bestSt ss cs f bs id 2).1).role, .int .i64 ((bestSt ss cs f bs id 2).1).n, .int .i64 ((bestSt ss cs f bs id 2).1).s, .int .i64 ((bestSt ss cs f bs id 2).1).tail, .int .i64 ((bestSt ss cs f bs id 2).1).lost, .int .i64 ((bestSt ss cs f bs id 2).1).built], .bool (bestSt ss cs f bs id 2).2]) ∧ Below w.heap.size w w' := by
  have hA := ((new_below w (.cells #[.slice a0 n0 c0, .slice a1 n1 c1, .bool f, .slice a3 n3 c3] 73)).alloc (by simp) (.cells #[.int .i64 0, .int .i64 0, .int .i64 0, .int .i64 0, .int .i64 0, .int .i64 0, .int .i64 0, .int .i64 0] 80)).alloc (by simp; omega) (.cells #[.int .i64 0, .int .i64 0, .int .i64 0, .int .i64 0, .int .i64 0, .int .i64 0, .int .i64 0, .int .i64 0] 80)
  have M0 := ((Box.new w 73 #[.slice a0 n0 c0, .slice a1 n1 c1, .bool f, .slice a3 n3 c3]).alloc (.cells #[.int .i64 0, .int .i64 0, .int .i64 0, .int .i64 0, .int .i64 0, .int .i64 0, .int .i64 0, .int .i64 0] 80)).alloc (.cells #[.int .i64 0, .int .i64 0, .int .i64 0, .int .i64 0, .int .i64 0, .int .i64 0, .int .i64 0, .int .i64 0] 80)
  have R0 := (Box.new (w.alloc (.cells #[.slice a0 n0 c0, .slice a1 n1 c1, .bool f, .slice a3 n3 c3] 73)) 80 #[.int .i64 0, .int .i64 0, .int .i64 0, .int .i64 0, .int .i64 0, .int .i64 0, .int .i64 0, .int .i64 0]).alloc (.cells #[.int .i64 0, .int .i64 0, .int .i64 0, .int .i64 0, .int .i64 0, .int .i64 0, .int .i64 0, .int .i64 0] 80)
  have T0 := Box.new ((w.alloc (.cells #[.slice a0 n0 c0, .slice a1 n1 c1, .bool f, .slice a3 n3 c3] 73)).alloc (.cells #[.int .i64 0, .int .i64 0, .int .i64 0, .int .i64 0, .int .i64 0, .int .i64 0, .int .i64 0, .int .i64 0] 80)) 80 #[.int .i64 0, .int .i64 0, .int .i64 0, .int .i64 0, .int .i64 0, .int .i64 0, .int .i64 0, .int .i64 0]
  rw [World.size_alloc] at R0
  rw [World.size_alloc, World.size_alloc] at T0
  go_enter Try.func91, Try.ntmps91
  go_wp2
  generalize ((w.alloc (.cells #[.slice a0 n0 c0, .slice a1 n1 c1, .bool f, .slice a3 n3 c3] 73)).alloc (.cells #[.int .i64 0, .int .i64 0, .int .i64 0, .int .i64 0, .int .i64 0, .int .i64 0, .int .i64 0, .int .i64 0] 80)).alloc (.cells #[.int .i64 0, .int .i64 0, .int .i64 0, .int .i64 0, .int .i64 0, .int .i64 0, .int .i64 0, .int .i64 0] 80) = W at hA M0 R0 T0 ⊢
  go_loopw [7, 8] (fun fv i wr => ∃ (j : Nat) (y : Sup) (fb : Bool), j ≤ 2 ∧ i = .int .i64 j ∧ fv = .bool fb ∧ bestSt ss cs f bs id j = (y, fb) ∧ Box wr (w.heap.size + 1 + 1) 80 #[.int .i64 y.id, .int .i64 y.gen, .int .i64 y.role, .int .i64 y.n, .int .i64 y.s, .int .i64 y.tail, .int .i64 y.lost, .int .i64 y.built] ∧ Box wr (w.heap.size + 1) 80 #[.int .i64 0, .int .i64 0, .int .i64 0, .int .i64 0, .int .i64 0, .int .i64 0, .int .i64 0, .int .i64 0] ∧ Box wr w.heap.size 73 #[.slice a0 n0 c0, .slice a1 n1 c1, .bool f, .slice a3 n3 c3] ∧ Below w.heap.size w wr) (fun _ i _ => 2 - (intOf i).toNat)
  case atStart => exact ⟨0, supZ, false, by omega, rfl, rfl, rfl, T0, R0, M0, hA⟩
  case round =>
    obtain ⟨j, y, fb, hj, rfl, rfl, hst, T1, R1, M1, B1⟩ := hrel
    have HST := hidden hst
    have zM := M1.lt
    have zR := R1.lt
    have zT := T1.lt
    clear hst
    by_cases hj2 : j < 2
    · have k2 : (j : Int) < 2 := by omega
      have k1 : (0 : Int) ≤ (j : Int) := by omega
      obtain ⟨q0, q1, q2, q3⟩ := M1.cells4
      go_wp2_with fail
      refine (specReadSec_any _ E _ _ _ _ _ _ _ _ _ ss cs f bs (j : Int) (h0.below B1) (h1.below B1) (h3.below B1) hw).mono ?_
      rintro e w0 ⟨al, ll, cl, rfl, o1, b0⟩
      have UP := hidden (fun h => best_up (ss := ss) (cs := cs) (f := f) (bs := bs) (id := id) HST.out h)
      have DN := hidden (fun h => best_same (ss := ss) (cs := cs) (f := f) (bs := bs) (id := id) HST.out h)
      have hlr := readD_le2 (n := (j : Int)) hw
      generalize readD ss cs f bs (j : Int) = ps at o1 hlr UP DN ⊢
      generalize readOk ss cs f bs (j : Int) = rk at UP DN ⊢
      obtain ⟨rr, rl, _, _⟩ := ints_rd o1.rd
      go_wp2_with fail
      refine (specGetSuper_any _ _ _ _ ps rr rl (by omega)).mono ?_
      rintro e w1 ⟨rfl, b1'⟩
      have b1 := Below.andThen b0 b1'
      have T2 := T1.below b1 zT
      have R2 := R1.below b1 zR
      have M2 := M1.below b1 zM
      have B2 := Below.andThen B1 b1
      clear q0 q1 q2 q3 T1 R1 M1 B1 b1 b0 b1' zM zR zT o1 rr
      have T3 := T2.alloc (.cells #[.int .i64 (getD ps).id, .int .i64 (getD ps).gen, .int .i64 (getD ps).role, .int .i64 (getD ps).n, .int .i64 (getD ps).s, .int .i64 (getD ps).tail, .int .i64 (getD ps).lost, .int .i64 (getD ps).built] 80)
      have R3 := hidden (R2.alloc (.cells #[.int .i64 (getD ps).id, .int .i64 (getD ps).gen, .int .i64 (getD ps).role, .int .i64 (getD ps).n, .int .i64 (getD ps).s, .int .i64 (getD ps).tail, .int .i64 (getD ps).lost, .int .i64 (getD ps).built] 80))
      have M3 := hidden (M2.alloc (.cells #[.int .i64 (getD ps).id, .int .i64 (getD ps).gen, .int .i64 (getD ps).role, .int .i64 (getD ps).n, .int .i64 (getD ps).s, .int .i64 (getD ps).tail, .int .i64 (getD ps).lost, .int .i64 (getD ps).built] 80))
      have B3 := hidden (B2.alloc B2.size (.cells #[.int .i64 (getD ps).id, .int .i64 (getD ps).gen, .int .i64 (getD ps).role, .int .i64 (getD ps).n, .int .i64 (getD ps).s, .int .i64 (getD ps).tail, .int .i64 (getD ps).lost, .int .i64 (getD ps).built] 80))
      have X3 := Box.new w1 80 #[.int .i64 (getD ps).id, .int .i64 (getD ps).gen, .int .i64 (getD ps).role, .int .i64 (getD ps).n, .int .i64 (getD ps).s, .int .i64 (getD ps).tail, .int .i64 (getD ps).lost, .int .i64 (getD ps).built]
      obtain ⟨x0, x1, x2, x3, x4, x5, x6, x7⟩ := X3.cells8
      obtain ⟨t0, t1, t2, t3, t4, t5, t6, t7⟩ := T3.cells8
      have fz := T3.frozen
      have TT := hidden T3
      clear T2 R2 M2 B2 X3 T3
      by_cases ha : atOk rk ps id (j : Int) = true
      · have hd : atD rk ps id (j : Int) = getD ps := by unfold atD; rw [if_pos ha]
        rw [hd, ha] at UP DN
        clear hd
        unfold atOk at ha
        simp only [Bool.and_eq_true, decide_eq_true_eq] at ha
        obtain ⟨hk, hg, hi, hp⟩ := ha
        subst hk
        subst hi
        obtain ⟨g0, g1⟩ := getB_gen hg
        have e1 : (getD ps).gen.tmod 2 = (getD ps).gen % 2 := Int.tmod_eq_emod_of_nonneg g0
        by_cases hb : better true (getD ps) y fb = true
        · have HN := hidden (UP.out hb)
          have hbt := set8_but (w1.alloc (.cells #[.int .i64 (getD ps).id, .int .i64 (getD ps).gen, .int .i64 (getD ps).role, .int .i64 (getD ps).n, .int .i64 (getD ps).s, .int .i64 (getD ps).tail, .int .i64 (getD ps).lost, .int .i64 (getD ps).built] 80)) (w.heap.size + 1 + 1) (.int .i64 (getD ps).id) (.int .i64 (getD ps).gen) (.int .i64 (getD ps).role) (.int .i64 (getD ps).n) (.int .i64 (getD ps).s) (.int .i64 (getD ps).tail) (.int .i64 (getD ps).lost) (.int .i64 (getD ps).built)
          have TF := hidden (set8_box TT.out (.int .i64 (getD ps).id) (.int .i64 (getD ps).gen) (.int .i64 (getD ps).role) (.int .i64 (getD ps).n) (.int .i64 (getD ps).s) (.int .i64 (getD ps).tail) (.int .i64 (getD ps).lost) (.int .i64 (getD ps).built))
          have RF := hidden (R3.out.kept (hbt.block _ (by have := R3.out.lt; omega) (by omega)))
          have MF := hidden (M3.out.kept (hbt.block _ (by have := M3.out.lt; omega) (by omega)))
          have BF := hidden (Below.andBut B3.out hbt (by omega))
          unfold set8 at TF RF MF BF
          clear hbt UP DN R3 M3 B3 TT
          unfold better at hb
          by_cases hf : fb = true
          · subst hf
            have hc : y.gen < (getD ps).gen := by simpa using hb
            clear hb
            go_wp2
            go_roundw
            case rel => exact ⟨j + 1, getD ps, true, by omega, by go_num, rfl, HN.out, TF.out, RF.out, MF.out, BF.out⟩
            case measure => simp [intOf]; omega
          · have hf : fb = false := by simpa using hf
            subst hf
            clear hb
            go_wp2
            go_roundw
            case rel => exact ⟨j + 1, getD ps, true, by omega, by go_num, rfl, HN.out, TF.out, RF.out, MF.out, BF.out⟩
            case measure => simp [intOf]; omega
        · have hb' : better true (getD ps) y fb = false := by simpa using hb
          have HN := hidden (DN.out hb')
          clear UP DN hb fz
          unfold better at hb'
          by_cases hf : fb = true
          · subst hf
            have hc : ¬ y.gen < (getD ps).gen := by simpa using hb'
            clear hb'
            go_wp2
            go_roundw
            case rel => exact ⟨j + 1, y, true, by omega, by go_num, rfl, HN.out, TT.out, R3.out, M3.out, B3.out⟩
            case measure => simp [intOf]; omega
          · have hf : fb = false := by simpa using hf
            subst hf
            simp at hb'
      · have ha' : atOk rk ps id (j : Int) = false := by simpa using ha
        have HN := hidden (DN.out (by rw [ha']; rfl))
        clear UP DN ha fz
        have FINN := hidden (And.intro HN.out (And.intro TT.out (And.intro R3.out (And.intro M3.out B3.out))))
        clear HN TT R3 M3 B3
        unfold atOk at ha'
        by_cases hk : rk = true
        · subst hk
          by_cases hg : getB ps = true
          · obtain ⟨g0, g1⟩ := getB_gen hg
            have e1 : (getD ps).gen.tmod 2 = (getD ps).gen % 2 := Int.tmod_eq_emod_of_nonneg g0
            by_cases hi : (getD ps).id = id
            · subst hi
              have hp : ¬ (getD ps).gen % 2 = (j : Int) := by simpa [hg] using ha'
              clear ha'
              go_wp2
              go_roundw
              case rel => exact ⟨j + 1, y, fb, by omega, by go_num, rfl, FINN.out⟩
              case measure => simp [intOf]; omega
            · clear ha'
              go_wp2
              go_roundw
              case rel => exact ⟨j + 1, y, fb, by omega, by go_num, rfl, FINN.out⟩
              case measure => simp [intOf]; omega
          · have hg' : getB ps = false := by simpa using hg
            clear ha' hg
            go_wp2
            go_roundw
            case rel => exact ⟨j + 1, y, fb, by omega, by go_num, rfl, FINN.out⟩
            case measure => simp [intOf]; omega
        · have hk : rk = false := by simpa using hk
          subst hk
          clear ha'
          go_wp2
          go_roundw
          case rel => exact ⟨j + 1, y, fb, by omega, by go_num, rfl, FINN.out⟩
          case measure => simp [intOf]; omega
    · have e : j = 2 := by omega
      subst e
      obtain ⟨t0, t1, t2, t3, t4, t5, t6, t7⟩ := T1.cells8
      obtain ⟨r0, r1, r2, r3, r4, r5, r6, r7⟩ := R1.cells8
      have fz := R1.frozen
      have FB := hidden (Below.andBut B1 (set8_but wr (w.heap.size + 1) (.int .i64 y.id) (.int .i64 y.gen) (.int .i64 y.role) (.int .i64 y.n) (.int .i64 y.s) (.int .i64 y.tail) (.int .i64 y.lost) (.int .i64 y.built)) (by omega))
      unfold set8 at FB
      have HE := hidden (best_end HST.out)
      clear M1 T1 R1 B1 HST
      go_wp2
      refine bodyPost_ret (v := .tuple #[.agg #[.int .i64 y.id, .int .i64 y.gen, .int .i64 y.role, .int .i64 y.n, .int .i64 y.s, .int .i64 y.tail, .int .i64 y.lost, .int .i64 y.built], .bool fb]) (by simp [results, Try.results91, go_sem, r0, r1, r2, r3, r4, r5, r6, r7]) rfl ?_
      exact ⟨HE.out, FB.out⟩

end Go.Proofs.Ytlcjfgmmjkandaa

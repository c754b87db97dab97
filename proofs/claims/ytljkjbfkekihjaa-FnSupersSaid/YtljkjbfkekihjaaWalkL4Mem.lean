/-
  The walk of the specification's l4Mem: a drawn disk, with Supers or not; it reads as some data that weighs little, through blocks that are new. Condition: at most 2097152 bytes to draw from.
-/
import Derived.Test.YtljkjbfkekihjaaWalkL4Draw
import Derived.Test.YtljkjbfkekihjaaWalkWriteSuper
import Derived.Test.YtljkjbfkekihjaaWalkL2Any
namespace Go.Proofs.Ytljkjbfkekihjaa
open Go.RowKit

set_option maxRecDepth 20000 in
set_option maxHeartbeats 8000000 in
theorem l4Any_any {w : World} {g lb cb : Nat} {a : Option Addr} {zs : List Int} (h : Draws w g a lb cb zs) :
    Calls Try.prog 36 #[.pointer (some ⟨g, 0, none⟩)] w fun e w' => ∃ x : Sup, e = .returned (.agg #[.int .i64 x.id, .int .i64 x.gen, .int .i64 x.role, .int .i64 x.n, .int .i64 x.s, .int .i64 x.tail, .int .i64 x.lost, .int .i64 x.built]) ∧ Draws w' g a lb cb zs ∧ But g (g + 1) w w' := by
  have hA := new_below w (.cells #[.int .i64 0, .int .i64 0, .int .i64 0, .int .i64 0, .int .i64 0, .int .i64 0, .int .i64 0, .int .i64 0] 25)
  have X := Box.new w 25 #[.int .i64 0, .int .i64 0, .int .i64 0, .int .i64 0, .int .i64 0, .int .i64 0, .int .i64 0, .int .i64 0]
  have D0 := h.alloc (.cells #[.int .i64 0, .int .i64 0, .int .i64 0, .int .i64 0, .int .i64 0, .int .i64 0, .int .i64 0, .int .i64 0] 25)
  have zA := X.lt
  have hg := h.lt
  go_enter Try.func36, Try.ntmps36
  go_wp2_with fail
  refine (l4Draw_any D0).mono ?_
  rintro e w1 ⟨x, rfl, _, D1, b1⟩
  obtain ⟨f0, f1, f2, f3, f4, f5, f6, f7⟩ := x
  have X1 := X.kept (b1.block _ (by omega) (by omega))
  have B1 := (But.of_below (lo := g) (hi := g + 1) hA).trans b1
  have z1 := X1.lt
  clear X b1 hA D0 zA
  have Y2 := Box.new w1 25 #[.int .i64 f0, .int .i64 f1, .int .i64 f2, .int .i64 f3, .int .i64 f4, .int .i64 f5, .int .i64 f6, .int .i64 f7]
  have X2 := X1.alloc (.cells #[.int .i64 f0, .int .i64 f1, .int .i64 f2, .int .i64 f3, .int .i64 f4, .int .i64 f5, .int .i64 f6, .int .i64 f7] 25)
  have D2 := D1.alloc (.cells #[.int .i64 f0, .int .i64 f1, .int .i64 f2, .int .i64 f3, .int .i64 f4, .int .i64 f5, .int .i64 f6, .int .i64 f7] 25)
  have B2 := B1.alloc (.cells #[.int .i64 f0, .int .i64 f1, .int .i64 f2, .int .i64 f3, .int .i64 f4, .int .i64 f5, .int .i64 f6, .int .i64 f7] 25)
  have z2 := Y2.lt
  clear X1 D1 B1
  dsimp only
  go_wp2_with fail
  generalize w1.alloc (.cells #[.int .i64 f0, .int .i64 f1, .int .i64 f2, .int .i64 f3, .int .i64 f4, .int .i64 f5, .int .i64 f6, .int .i64 f7] 25) = W2 at Y2 X2 D2 B2 z2 ⊢
  refine (dBelow D2 14 (by omega) (by omega)).mono ?_
  rintro e w3 ⟨y, rfl, hy0, hy1, D3, b3⟩
  have Y3 := Y2.kept (b3.block _ z2 (by omega))
  have X3 := X2.kept (b3.block _ X2.lt (by omega))
  have B3 := B2.trans b3
  have z3 := b3.size
  clear Y2 X2 D2 B2 b3
  have nX : w.heap.size ≠ w1.heap.size := by omega
  by_cases c0 : y = 0
  · subst c0
    have HR := hidden (Reads.new .i64 w3 3 [0, 60001] _ rfl)
    go_wp2_with fail
    refine (dInt (D3.alloc _) _ 2 _ [0, 60001] rfl HR.out ?hx0 (by omega) (by omega)).mono ?_
    case hx0 => intro x hx; simp at hx; subst hx; exact D3.lt
    rintro e w4 ⟨v, rfl, _, D4, b4⟩
    have Y4 := (Y3.alloc _).kept (b4.block _ (Y3.alloc _).lt (by omega))
    have X4 := (X3.alloc _).kept (b4.block _ (X3.alloc _).lt (by omega))
    have B4 := (B3.alloc _).trans b4
    have zw4 : w.heap.size ≤ w4.heap.size := by have := X4.lt; omega
    clear Y3 X3 D3 B3 b4 HR
    have Y5 : Box (w4.setCell ⟨w1.heap.size, 0, none⟩ (.int .i64 v)) w1.heap.size 25 #[.int .i64 v, .int .i64 f1, .int .i64 f2, .int .i64 f3, .int .i64 f4, .int .i64 f5, .int .i64 f6, .int .i64 f7] := by
      have := Y4.set 0 (.int .i64 v)
      simpa using this
    have hbt : But w1.heap.size (w1.heap.size + 1) w4 (w4.setCell ⟨w1.heap.size, 0, none⟩ (.int .i64 v)) := But.setCell (by omega) (by omega) _
    have X5 := X4.kept (hbt.block _ X4.lt (by omega))
    have hbl : Below w.heap.size w4 (w4.setCell ⟨w1.heap.size, 0, none⟩ (.int .i64 v)) := hbt.below (by omega) zw4
    have D5 := D4.lower hbl hg
    have B5 := B4.thenBelow hbl
    have zw : w.heap.size ≤ (w4.setCell ⟨w1.heap.size, 0, none⟩ (.int .i64 v)).heap.size := Nat.le_trans zw4 hbl.size
    obtain ⟨j0, j1, j2, j3, j4, j5, j6, j7⟩ := Y4.cells8
    have fy := Y4.frozen
    have YY := hidden Y5
    have XX := hidden X5
    have DD := hidden D5
    have BB := hidden B5
    clear Y5 X5 D5 B5 X4 D4 B4 hbl hbt
    obtain ⟨y0, y1, y2, y3, y4, y5, y6, y7⟩ := Box.cells8 YY.out
    obtain ⟨x0, x1, x2, x3, x4, x5, x6, x7⟩ := XX.out.cells8
    have fx := XX.out.frozen
    have hbt := set8_but (w4.setCell ⟨w1.heap.size, 0, none⟩ (.int .i64 v)) w.heap.size (.int .i64 v) (.int .i64 f1) (.int .i64 f2) (.int .i64 f3) (.int .i64 f4) (.int .i64 f5) (.int .i64 f6) (.int .i64 f7)
    have hbl : Below w.heap.size (w4.setCell ⟨w1.heap.size, 0, none⟩ (.int .i64 v)) (set8 (w4.setCell ⟨w1.heap.size, 0, none⟩ (.int .i64 v)) w.heap.size (.int .i64 v) (.int .i64 f1) (.int .i64 f2) (.int .i64 f3) (.int .i64 f4) (.int .i64 f5) (.int .i64 f6) (.int .i64 f7)) := hbt.below (Nat.le_refl _) zw
    have FD := hidden (DD.out.lower hbl hg)
    have FB := hidden (BB.out.thenBelow hbl)
    unfold set8 at FD FB
    clear hbt hbl XX YY DD BB
    go_wp2
    refine bodyPost_ret (v := .agg #[.int .i64 v, .int .i64 f1, .int .i64 f2, .int .i64 f3, .int .i64 f4, .int .i64 f5, .int .i64 f6, .int .i64 f7]) (by simp [results, Try.results36, go_sem, x0, x1, x2, x3, x4, x5, x6, x7]) rfl ?_
    exact ⟨⟨v, f1, f2, f3, f4, f5, f6, f7⟩, rfl, FD.out, FB.out⟩
  · skip
    by_cases c1 : y = 1
    · subst c1
      have HR := hidden (Reads.new .i64 w3 3 [-1, 60001] _ rfl)
      go_wp2_with fail
      refine (dInt (D3.alloc _) _ 2 _ [-1, 60001] rfl HR.out ?hx1 (by omega) (by omega)).mono ?_
      case hx1 => intro x hx; simp at hx; subst hx; exact D3.lt
      rintro e w4 ⟨v, rfl, _, D4, b4⟩
      have Y4 := (Y3.alloc _).kept (b4.block _ (Y3.alloc _).lt (by omega))
      have X4 := (X3.alloc _).kept (b4.block _ (X3.alloc _).lt (by omega))
      have B4 := (B3.alloc _).trans b4
      have zw4 : w.heap.size ≤ w4.heap.size := by have := X4.lt; omega
      clear Y3 X3 D3 B3 b4 HR
      have Y5 : Box (w4.setCell ⟨w1.heap.size, 1, none⟩ (.int .i64 v)) w1.heap.size 25 #[.int .i64 f0, .int .i64 v, .int .i64 f2, .int .i64 f3, .int .i64 f4, .int .i64 f5, .int .i64 f6, .int .i64 f7] := by
        have := Y4.set 1 (.int .i64 v)
        simpa using this
      have hbt : But w1.heap.size (w1.heap.size + 1) w4 (w4.setCell ⟨w1.heap.size, 1, none⟩ (.int .i64 v)) := But.setCell (by omega) (by omega) _
      have X5 := X4.kept (hbt.block _ X4.lt (by omega))
      have hbl : Below w.heap.size w4 (w4.setCell ⟨w1.heap.size, 1, none⟩ (.int .i64 v)) := hbt.below (by omega) zw4
      have D5 := D4.lower hbl hg
      have B5 := B4.thenBelow hbl
      have zw : w.heap.size ≤ (w4.setCell ⟨w1.heap.size, 1, none⟩ (.int .i64 v)).heap.size := Nat.le_trans zw4 hbl.size
      obtain ⟨j0, j1, j2, j3, j4, j5, j6, j7⟩ := Y4.cells8
      have fy := Y4.frozen
      have YY := hidden Y5
      have XX := hidden X5
      have DD := hidden D5
      have BB := hidden B5
      clear Y5 X5 D5 B5 X4 D4 B4 hbl hbt
      obtain ⟨y0, y1, y2, y3, y4, y5, y6, y7⟩ := Box.cells8 YY.out
      obtain ⟨x0, x1, x2, x3, x4, x5, x6, x7⟩ := XX.out.cells8
      have fx := XX.out.frozen
      have hbt := set8_but (w4.setCell ⟨w1.heap.size, 1, none⟩ (.int .i64 v)) w.heap.size (.int .i64 f0) (.int .i64 v) (.int .i64 f2) (.int .i64 f3) (.int .i64 f4) (.int .i64 f5) (.int .i64 f6) (.int .i64 f7)
      have hbl : Below w.heap.size (w4.setCell ⟨w1.heap.size, 1, none⟩ (.int .i64 v)) (set8 (w4.setCell ⟨w1.heap.size, 1, none⟩ (.int .i64 v)) w.heap.size (.int .i64 f0) (.int .i64 v) (.int .i64 f2) (.int .i64 f3) (.int .i64 f4) (.int .i64 f5) (.int .i64 f6) (.int .i64 f7)) := hbt.below (Nat.le_refl _) zw
      have FD := hidden (DD.out.lower hbl hg)
      have FB := hidden (BB.out.thenBelow hbl)
      unfold set8 at FD FB
      clear hbt hbl XX YY DD BB
      go_wp2
      refine bodyPost_ret (v := .agg #[.int .i64 f0, .int .i64 v, .int .i64 f2, .int .i64 f3, .int .i64 f4, .int .i64 f5, .int .i64 f6, .int .i64 f7]) (by simp [results, Try.results36, go_sem, x0, x1, x2, x3, x4, x5, x6, x7]) rfl ?_
      exact ⟨⟨f0, v, f2, f3, f4, f5, f6, f7⟩, rfl, FD.out, FB.out⟩
    · skip
      by_cases c2 : y = 2
      · subst c2
        have HR := hidden (Reads.new .i64 w3 3 [-1, 5] _ rfl)
        go_wp2_with fail
        refine (dInt (D3.alloc _) _ 2 _ [-1, 5] rfl HR.out ?hx2 (by omega) (by omega)).mono ?_
        case hx2 => intro x hx; simp at hx; subst hx; exact D3.lt
        rintro e w4 ⟨v, rfl, _, D4, b4⟩
        have Y4 := (Y3.alloc _).kept (b4.block _ (Y3.alloc _).lt (by omega))
        have X4 := (X3.alloc _).kept (b4.block _ (X3.alloc _).lt (by omega))
        have B4 := (B3.alloc _).trans b4
        have zw4 : w.heap.size ≤ w4.heap.size := by have := X4.lt; omega
        clear Y3 X3 D3 B3 b4 HR
        have Y5 : Box (w4.setCell ⟨w1.heap.size, 2, none⟩ (.int .i64 v)) w1.heap.size 25 #[.int .i64 f0, .int .i64 f1, .int .i64 v, .int .i64 f3, .int .i64 f4, .int .i64 f5, .int .i64 f6, .int .i64 f7] := by
          have := Y4.set 2 (.int .i64 v)
          simpa using this
        have hbt : But w1.heap.size (w1.heap.size + 1) w4 (w4.setCell ⟨w1.heap.size, 2, none⟩ (.int .i64 v)) := But.setCell (by omega) (by omega) _
        have X5 := X4.kept (hbt.block _ X4.lt (by omega))
        have hbl : Below w.heap.size w4 (w4.setCell ⟨w1.heap.size, 2, none⟩ (.int .i64 v)) := hbt.below (by omega) zw4
        have D5 := D4.lower hbl hg
        have B5 := B4.thenBelow hbl
        have zw : w.heap.size ≤ (w4.setCell ⟨w1.heap.size, 2, none⟩ (.int .i64 v)).heap.size := Nat.le_trans zw4 hbl.size
        obtain ⟨j0, j1, j2, j3, j4, j5, j6, j7⟩ := Y4.cells8
        have fy := Y4.frozen
        have YY := hidden Y5
        have XX := hidden X5
        have DD := hidden D5
        have BB := hidden B5
        clear Y5 X5 D5 B5 X4 D4 B4 hbl hbt
        obtain ⟨y0, y1, y2, y3, y4, y5, y6, y7⟩ := Box.cells8 YY.out
        obtain ⟨x0, x1, x2, x3, x4, x5, x6, x7⟩ := XX.out.cells8
        have fx := XX.out.frozen
        have hbt := set8_but (w4.setCell ⟨w1.heap.size, 2, none⟩ (.int .i64 v)) w.heap.size (.int .i64 f0) (.int .i64 f1) (.int .i64 v) (.int .i64 f3) (.int .i64 f4) (.int .i64 f5) (.int .i64 f6) (.int .i64 f7)
        have hbl : Below w.heap.size (w4.setCell ⟨w1.heap.size, 2, none⟩ (.int .i64 v)) (set8 (w4.setCell ⟨w1.heap.size, 2, none⟩ (.int .i64 v)) w.heap.size (.int .i64 f0) (.int .i64 f1) (.int .i64 v) (.int .i64 f3) (.int .i64 f4) (.int .i64 f5) (.int .i64 f6) (.int .i64 f7)) := hbt.below (Nat.le_refl _) zw
        have FD := hidden (DD.out.lower hbl hg)
        have FB := hidden (BB.out.thenBelow hbl)
        unfold set8 at FD FB
        clear hbt hbl XX YY DD BB
        go_wp2
        refine bodyPost_ret (v := .agg #[.int .i64 f0, .int .i64 f1, .int .i64 v, .int .i64 f3, .int .i64 f4, .int .i64 f5, .int .i64 f6, .int .i64 f7]) (by simp [results, Try.results36, go_sem, x0, x1, x2, x3, x4, x5, x6, x7]) rfl ?_
        exact ⟨⟨f0, f1, v, f3, f4, f5, f6, f7⟩, rfl, FD.out, FB.out⟩
      · skip
        by_cases c3 : y = 3
        · subst c3
          have HR := hidden (Reads.new .i64 w3 3 [2, 6] _ rfl)
          go_wp2_with fail
          refine (dInt (D3.alloc _) _ 2 _ [2, 6] rfl HR.out ?hx3 (by omega) (by omega)).mono ?_
          case hx3 => intro x hx; simp at hx; subst hx; exact D3.lt
          rintro e w4 ⟨v, rfl, _, D4, b4⟩
          have Y4 := (Y3.alloc _).kept (b4.block _ (Y3.alloc _).lt (by omega))
          have X4 := (X3.alloc _).kept (b4.block _ (X3.alloc _).lt (by omega))
          have B4 := (B3.alloc _).trans b4
          have zw4 : w.heap.size ≤ w4.heap.size := by have := X4.lt; omega
          clear Y3 X3 D3 B3 b4 HR
          have Y5 : Box (w4.setCell ⟨w1.heap.size, 3, none⟩ (.int .i64 v)) w1.heap.size 25 #[.int .i64 f0, .int .i64 f1, .int .i64 f2, .int .i64 v, .int .i64 f4, .int .i64 f5, .int .i64 f6, .int .i64 f7] := by
            have := Y4.set 3 (.int .i64 v)
            simpa using this
          have hbt : But w1.heap.size (w1.heap.size + 1) w4 (w4.setCell ⟨w1.heap.size, 3, none⟩ (.int .i64 v)) := But.setCell (by omega) (by omega) _
          have X5 := X4.kept (hbt.block _ X4.lt (by omega))
          have hbl : Below w.heap.size w4 (w4.setCell ⟨w1.heap.size, 3, none⟩ (.int .i64 v)) := hbt.below (by omega) zw4
          have D5 := D4.lower hbl hg
          have B5 := B4.thenBelow hbl
          have zw : w.heap.size ≤ (w4.setCell ⟨w1.heap.size, 3, none⟩ (.int .i64 v)).heap.size := Nat.le_trans zw4 hbl.size
          obtain ⟨j0, j1, j2, j3, j4, j5, j6, j7⟩ := Y4.cells8
          have fy := Y4.frozen
          have YY := hidden Y5
          have XX := hidden X5
          have DD := hidden D5
          have BB := hidden B5
          clear Y5 X5 D5 B5 X4 D4 B4 hbl hbt
          obtain ⟨y0, y1, y2, y3, y4, y5, y6, y7⟩ := Box.cells8 YY.out
          obtain ⟨x0, x1, x2, x3, x4, x5, x6, x7⟩ := XX.out.cells8
          have fx := XX.out.frozen
          have hbt := set8_but (w4.setCell ⟨w1.heap.size, 3, none⟩ (.int .i64 v)) w.heap.size (.int .i64 f0) (.int .i64 f1) (.int .i64 f2) (.int .i64 v) (.int .i64 f4) (.int .i64 f5) (.int .i64 f6) (.int .i64 f7)
          have hbl : Below w.heap.size (w4.setCell ⟨w1.heap.size, 3, none⟩ (.int .i64 v)) (set8 (w4.setCell ⟨w1.heap.size, 3, none⟩ (.int .i64 v)) w.heap.size (.int .i64 f0) (.int .i64 f1) (.int .i64 f2) (.int .i64 v) (.int .i64 f4) (.int .i64 f5) (.int .i64 f6) (.int .i64 f7)) := hbt.below (Nat.le_refl _) zw
          have FD := hidden (DD.out.lower hbl hg)
          have FB := hidden (BB.out.thenBelow hbl)
          unfold set8 at FD FB
          clear hbt hbl XX YY DD BB
          go_wp2
          refine bodyPost_ret (v := .agg #[.int .i64 f0, .int .i64 f1, .int .i64 f2, .int .i64 v, .int .i64 f4, .int .i64 f5, .int .i64 f6, .int .i64 f7]) (by simp [results, Try.results36, go_sem, x0, x1, x2, x3, x4, x5, x6, x7]) rfl ?_
          exact ⟨⟨f0, f1, f2, v, f4, f5, f6, f7⟩, rfl, FD.out, FB.out⟩
        · skip
          by_cases c4 : y = 4
          · subst c4
            have HR := hidden (Reads.new .i64 w3 3 [-2, -1, 5] _ rfl)
            go_wp2_with fail
            refine (dInt (D3.alloc _) _ 3 _ [-2, -1, 5] rfl HR.out ?hx4 (by omega) (by omega)).mono ?_
            case hx4 => intro x hx; simp at hx; subst hx; exact D3.lt
            rintro e w4 ⟨v, rfl, _, D4, b4⟩
            have Y4 := (Y3.alloc _).kept (b4.block _ (Y3.alloc _).lt (by omega))
            have X4 := (X3.alloc _).kept (b4.block _ (X3.alloc _).lt (by omega))
            have B4 := (B3.alloc _).trans b4
            have zw4 : w.heap.size ≤ w4.heap.size := by have := X4.lt; omega
            clear Y3 X3 D3 B3 b4 HR
            have Y5 : Box (w4.setCell ⟨w1.heap.size, 6, none⟩ (.int .i64 v)) w1.heap.size 25 #[.int .i64 f0, .int .i64 f1, .int .i64 f2, .int .i64 f3, .int .i64 f4, .int .i64 f5, .int .i64 v, .int .i64 f7] := by
              have := Y4.set 6 (.int .i64 v)
              simpa using this
            have hbt : But w1.heap.size (w1.heap.size + 1) w4 (w4.setCell ⟨w1.heap.size, 6, none⟩ (.int .i64 v)) := But.setCell (by omega) (by omega) _
            have X5 := X4.kept (hbt.block _ X4.lt (by omega))
            have hbl : Below w.heap.size w4 (w4.setCell ⟨w1.heap.size, 6, none⟩ (.int .i64 v)) := hbt.below (by omega) zw4
            have D5 := D4.lower hbl hg
            have B5 := B4.thenBelow hbl
            have zw : w.heap.size ≤ (w4.setCell ⟨w1.heap.size, 6, none⟩ (.int .i64 v)).heap.size := Nat.le_trans zw4 hbl.size
            obtain ⟨j0, j1, j2, j3, j4, j5, j6, j7⟩ := Y4.cells8
            have fy := Y4.frozen
            have YY := hidden Y5
            have XX := hidden X5
            have DD := hidden D5
            have BB := hidden B5
            clear Y5 X5 D5 B5 X4 D4 B4 hbl hbt
            obtain ⟨y0, y1, y2, y3, y4, y5, y6, y7⟩ := Box.cells8 YY.out
            obtain ⟨x0, x1, x2, x3, x4, x5, x6, x7⟩ := XX.out.cells8
            have fx := XX.out.frozen
            have hbt := set8_but (w4.setCell ⟨w1.heap.size, 6, none⟩ (.int .i64 v)) w.heap.size (.int .i64 f0) (.int .i64 f1) (.int .i64 f2) (.int .i64 f3) (.int .i64 f4) (.int .i64 f5) (.int .i64 v) (.int .i64 f7)
            have hbl : Below w.heap.size (w4.setCell ⟨w1.heap.size, 6, none⟩ (.int .i64 v)) (set8 (w4.setCell ⟨w1.heap.size, 6, none⟩ (.int .i64 v)) w.heap.size (.int .i64 f0) (.int .i64 f1) (.int .i64 f2) (.int .i64 f3) (.int .i64 f4) (.int .i64 f5) (.int .i64 v) (.int .i64 f7)) := hbt.below (Nat.le_refl _) zw
            have FD := hidden (DD.out.lower hbl hg)
            have FB := hidden (BB.out.thenBelow hbl)
            unfold set8 at FD FB
            clear hbt hbl XX YY DD BB
            go_wp2
            refine bodyPost_ret (v := .agg #[.int .i64 f0, .int .i64 f1, .int .i64 f2, .int .i64 f3, .int .i64 f4, .int .i64 f5, .int .i64 v, .int .i64 f7]) (by simp [results, Try.results36, go_sem, x0, x1, x2, x3, x4, x5, x6, x7]) rfl ?_
            exact ⟨⟨f0, f1, f2, f3, f4, f5, v, f7⟩, rfl, FD.out, FB.out⟩
          · skip
            by_cases c5 : y = 5
            · subst c5
              have HR := hidden (Reads.new .i64 w3 3 [-1, 1, 9] _ rfl)
              go_wp2_with fail
              refine (dInt (D3.alloc _) _ 3 _ [-1, 1, 9] rfl HR.out ?hx5 (by omega) (by omega)).mono ?_
              case hx5 => intro x hx; simp at hx; subst hx; exact D3.lt
              rintro e w4 ⟨v, rfl, _, D4, b4⟩
              have Y4 := (Y3.alloc _).kept (b4.block _ (Y3.alloc _).lt (by omega))
              have X4 := (X3.alloc _).kept (b4.block _ (X3.alloc _).lt (by omega))
              have B4 := (B3.alloc _).trans b4
              have zw4 : w.heap.size ≤ w4.heap.size := by have := X4.lt; omega
              clear Y3 X3 D3 B3 b4 HR
              have Y5 : Box (w4.setCell ⟨w1.heap.size, 7, none⟩ (.int .i64 v)) w1.heap.size 25 #[.int .i64 f0, .int .i64 f1, .int .i64 f2, .int .i64 f3, .int .i64 f4, .int .i64 f5, .int .i64 f6, .int .i64 v] := by
                have := Y4.set 7 (.int .i64 v)
                simpa using this
              have hbt : But w1.heap.size (w1.heap.size + 1) w4 (w4.setCell ⟨w1.heap.size, 7, none⟩ (.int .i64 v)) := But.setCell (by omega) (by omega) _
              have X5 := X4.kept (hbt.block _ X4.lt (by omega))
              have hbl : Below w.heap.size w4 (w4.setCell ⟨w1.heap.size, 7, none⟩ (.int .i64 v)) := hbt.below (by omega) zw4
              have D5 := D4.lower hbl hg
              have B5 := B4.thenBelow hbl
              have zw : w.heap.size ≤ (w4.setCell ⟨w1.heap.size, 7, none⟩ (.int .i64 v)).heap.size := Nat.le_trans zw4 hbl.size
              obtain ⟨j0, j1, j2, j3, j4, j5, j6, j7⟩ := Y4.cells8
              have fy := Y4.frozen
              have YY := hidden Y5
              have XX := hidden X5
              have DD := hidden D5
              have BB := hidden B5
              clear Y5 X5 D5 B5 X4 D4 B4 hbl hbt
              obtain ⟨y0, y1, y2, y3, y4, y5, y6, y7⟩ := Box.cells8 YY.out
              obtain ⟨x0, x1, x2, x3, x4, x5, x6, x7⟩ := XX.out.cells8
              have fx := XX.out.frozen
              have hbt := set8_but (w4.setCell ⟨w1.heap.size, 7, none⟩ (.int .i64 v)) w.heap.size (.int .i64 f0) (.int .i64 f1) (.int .i64 f2) (.int .i64 f3) (.int .i64 f4) (.int .i64 f5) (.int .i64 f6) (.int .i64 v)
              have hbl : Below w.heap.size (w4.setCell ⟨w1.heap.size, 7, none⟩ (.int .i64 v)) (set8 (w4.setCell ⟨w1.heap.size, 7, none⟩ (.int .i64 v)) w.heap.size (.int .i64 f0) (.int .i64 f1) (.int .i64 f2) (.int .i64 f3) (.int .i64 f4) (.int .i64 f5) (.int .i64 f6) (.int .i64 v)) := hbt.below (Nat.le_refl _) zw
              have FD := hidden (DD.out.lower hbl hg)
              have FB := hidden (BB.out.thenBelow hbl)
              unfold set8 at FD FB
              clear hbt hbl XX YY DD BB
              go_wp2
              refine bodyPost_ret (v := .agg #[.int .i64 f0, .int .i64 f1, .int .i64 f2, .int .i64 f3, .int .i64 f4, .int .i64 f5, .int .i64 f6, .int .i64 v]) (by simp [results, Try.results36, go_sem, x0, x1, x2, x3, x4, x5, x6, x7]) rfl ?_
              exact ⟨⟨f0, f1, f2, f3, f4, f5, f6, v⟩, rfl, FD.out, FB.out⟩
            · skip
              have zw : w.heap.size ≤ w3.heap.size := by have := X3.lt; omega
              have YY := hidden Y3
              have XX := hidden X3
              have DD := hidden D3
              have BB := hidden B3
              clear Y3 X3 D3 B3
              obtain ⟨y0, y1, y2, y3, y4, y5, y6, y7⟩ := Box.cells8 YY.out
              obtain ⟨x0, x1, x2, x3, x4, x5, x6, x7⟩ := XX.out.cells8
              have fx := XX.out.frozen
              have hbt := set8_but w3 w.heap.size (.int .i64 f0) (.int .i64 f1) (.int .i64 f2) (.int .i64 f3) (.int .i64 f4) (.int .i64 f5) (.int .i64 f6) (.int .i64 f7)
              have hbl : Below w.heap.size w3 (set8 w3 w.heap.size (.int .i64 f0) (.int .i64 f1) (.int .i64 f2) (.int .i64 f3) (.int .i64 f4) (.int .i64 f5) (.int .i64 f6) (.int .i64 f7)) := hbt.below (Nat.le_refl _) zw
              have FD := hidden (DD.out.lower hbl hg)
              have FB := hidden (BB.out.thenBelow hbl)
              unfold set8 at FD FB
              clear hbt hbl XX YY DD BB
              go_wp2
              refine bodyPost_ret (v := .agg #[.int .i64 f0, .int .i64 f1, .int .i64 f2, .int .i64 f3, .int .i64 f4, .int .i64 f5, .int .i64 f6, .int .i64 f7]) (by simp [results, Try.results36, go_sem, x0, x1, x2, x3, x4, x5, x6, x7]) rfl ?_
              exact ⟨⟨f0, f1, f2, f3, f4, f5, f6, f7⟩, rfl, FD.out, FB.out⟩

theorem sumL_app : ∀ (l m : List Nat), sumL (l ++ m) = sumL l + sumL m
  | [], m => by simp [sumL]
  | x :: l, m => by
    have h := sumL_app l m
    have e1 : sumL (x :: (l ++ m)) = x + sumL (l ++ m) := by simp [sumL]
    have e2 : sumL (x :: l) = x + sumL l := by simp [sumL]
    rw [List.cons_append, e1, e2, h]
    omega
theorem ws_grow (ss : List (List Int)) (cs : List (Int × List Int)) (f : Bool) (bs : List Int) (x : Sup) : wtMem (ss, wsCS ss cs f bs x, f, wsBS ss cs f bs x) ≤ wtMem (ss, cs, f, bs) + 10 := by
  unfold wsCS wsBS
  by_cases hx : supB x = true
  · rw [if_pos hx, if_pos hx]
    unfold wrCS wrBS
    by_cases hc : wrOk ss cs f bs (x.gen % 2) (putD x) = true
    · rw [if_pos hc, if_pos hc]
      have h1 := filt_length bs (x.gen % 2)
      have h3 := putD_le2 x
      unfold wtMem wtWrS
      simp only [List.map_append, List.length_append, List.map_cons, List.map_nil, List.length_cons, List.length_nil]
      rw [sumL_app]
      have h2 : sumL [(putD x).length] = (putD x).length := by simp [sumL]
      omega
    · rw [if_neg hc, if_neg hc]
      omega
  · rw [if_neg hx, if_neg hx]
    omega
/-- It reads so, through blocks from lo on that are not B. -/
def Ty.Av (t : Ty) (w : World) (lo B : Nat) (vs : List Value) (d : t.D) : Prop := ∃ fp, t.rd w vs d fp ∧ ∀ b ∈ fp, lo ≤ b ∧ b ≠ B
theorem Ty.Av.but {t : Ty} {w w' : World} {lo B l h : Nat} {vs : List Value} {d : t.D} (hx : t.Av w lo B vs d) (hb : But l h w w') (hd : h ≤ lo ∨ (l = B ∧ h = B + 1)) : t.Av w' lo B vs d := by
  obtain ⟨fp, hr, hk⟩ := hx
  exact ⟨fp, t.rdKept hr (fun b hb' => hb.block b (t.rdLt hr b hb') (by have := hk b hb'; omega)) hb.size, hk⟩
theorem Ty.Av.rd {t : Ty} {w : World} {lo B : Nat} {vs : List Value} {d : t.D} (h : t.Av w lo B vs d) : t.Rd w vs d := by
  obtain ⟨fp, hr, _⟩ := h
  exact ⟨fp, hr⟩
theorem Ty.In.av {t : Ty} {w : World} {lo hi lo' B : Nat} {vs : List Value} {d : t.D} (h : t.In w lo hi vs d) (h1 : lo' ≤ lo) (h2 : hi ≤ B ∨ B < lo) : t.Av w lo' B vs d := by
  obtain ⟨fp, hr, hk⟩ := h
  exact ⟨fp, hr, fun b hb => by have := hk b hb; omega⟩
theorem Ty.Av.toIn {t : Ty} {w : World} {lo B : Nat} {vs : List Value} {d : t.D} (h : t.Av w lo B vs d) : t.In w lo w.heap.size vs d := by
  obtain ⟨fp, hr, hk⟩ := h
  exact ⟨fp, hr, fun b hb => ⟨(hk b hb).1, t.rdLt hr b hb⟩⟩
/-- The three lists of a disk. -/
def AvM (w : World) (lo B : Nat) (v0 v1 v3 : Value) (ss : List (List Int)) (cs : List (Int × List Int)) (bs : List Int) : Prop :=
  tIntSS.Av w lo B [v0] ss ∧ (tWrS 81).Av w lo B [v1] cs ∧ tIntS.Av w lo B [v3] bs
theorem AvM.but {w w' : World} {lo B l h : Nat} {v0 v1 v3 : Value} {ss : List (List Int)} {cs : List (Int × List Int)} {bs : List Int} (hm : AvM w lo B v0 v1 v3 ss cs bs) (hb : But l h w w') (hd : h ≤ lo ∨ (l = B ∧ h = B + 1)) : AvM w' lo B v0 v1 v3 ss cs bs :=
  ⟨hm.1.but hb hd, hm.2.1.but hb hd, hm.2.2.but hb hd⟩
/-- Of a disk that is made of rows of its own. -/
theorem AvM.own {w : World} {lo hi lo' B : Nat} {v0 v1 v3 : Value} {f : Bool} {ss : List (List Int)} {cs : List (Int × List Int)} {bs : List Int} (h : (tMem 81).Own w lo hi [v0, v1, .bool f, v3] (ss, cs, f, bs)) (h1 : lo' ≤ lo) (h2 : B < lo) : AvM w lo' B v0 v1 v3 ss cs bs := by
  obtain ⟨f0, f1, f3, m0, m1, m3, k0, k1, k3⟩ := mem_mines h
  exact ⟨⟨f0, tIntSS.owRd m0.1, fun b hb => by have := k0 b hb; omega⟩, ⟨f1, (tWrS 81).owRd m1.1, fun b hb => by have := k1 b hb; omega⟩, ⟨f3, tIntS.owRd m3.1, fun b hb => by have := k3 b hb; omega⟩⟩

set_option maxRecDepth 20000 in
set_option maxHeartbeats 8000000 in
theorem l4Mem_any {w : World} {g lb cb : Nat} {a : Option Addr} {zs : List Int} (h : Draws w g a lb cb zs) :
    Calls Try.prog 43 #[.pointer (some ⟨g, 0, none⟩)] w fun e w' => ∃ a0 n0 c0 a1 n1 c1 a3 n3 c3 ss cs f bs, e = .returned (.agg #[.slice a0 n0 c0, .slice a1 n1 c1, .bool f, .slice a3 n3 c3]) ∧ tIntSS.In w' w.heap.size w'.heap.size [.slice a0 n0 c0] ss ∧ (tWrS 81).In w' w.heap.size w'.heap.size [.slice a1 n1 c1] cs ∧ tIntS.In w' w.heap.size w'.heap.size [.slice a3 n3 c3] bs ∧ wtMem (ss, cs, f, bs) ≤ 2100 ∧ Draws w' g a lb cb zs ∧ But g (g + 1) w w' := by
  have hA := new_below w (.cells #[.slice none 0 0, .slice none 0 0, .bool false, .slice none 0 0] 35)
  have X := Box.new w 35 #[.slice none 0 0, .slice none 0 0, .bool false, .slice none 0 0]
  have D0 := h.alloc (.cells #[.slice none 0 0, .slice none 0 0, .bool false, .slice none 0 0] 35)
  have zA := X.lt
  have hg := h.lt
  have hsz : (w.alloc (.cells #[.slice none 0 0, .slice none 0 0, .bool false, .slice none 0 0] 35)).heap.size = w.heap.size + 1 := by simp
  go_enter Try.func43, Try.ntmps43
  go_wp2_with fail
  refine (l2Any_any D0).mono ?_
  rintro e w1 ⟨v0, v1, v3, ss, cs, f, bs, rfl, i0, i1, i3, hwt, D1, b1⟩
  obtain ⟨a0, c0, rfl⟩ := row_shape i0.rd
  obtain ⟨a1, c1, rfl⟩ := row_shape i1.rd
  obtain ⟨a3, c3, rfl⟩ := row_shape i3.rd
  generalize hn0 : ss.length = n0 at i0
  generalize hn1 : cs.length = n1 at i1
  generalize hn3 : bs.length = n3 at i3
  clear hn0 hn1 hn3
  have X1 := X.kept (b1.block _ (by omega) (by omega))
  have B1 := (But.of_below (lo := g) (hi := g + 1) hA).trans b1
  have z1 := X1.lt
  have IM : AvM w1 (w.heap.size + 1) w1.heap.size (.slice a0 n0 c0) (.slice a1 n1 c1) (.slice a3 n3 c3) ss cs bs := ⟨i0.av (by omega) (.inl (Nat.le_refl _)), i1.av (by omega) (.inl (Nat.le_refl _)), i3.av (by omega) (.inl (Nat.le_refl _))⟩
  clear X b1 hA D0 zA i0 i1 i3 hsz
  have Y2 := Box.new w1 35 #[.slice a0 n0 c0, .slice a1 n1 c1, .bool f, .slice a3 n3 c3]
  have X2 := X1.alloc (.cells #[.slice a0 n0 c0, .slice a1 n1 c1, .bool f, .slice a3 n3 c3] 35)
  have D2 := D1.alloc (.cells #[.slice a0 n0 c0, .slice a1 n1 c1, .bool f, .slice a3 n3 c3] 35)
  have B2 := B1.alloc (.cells #[.slice a0 n0 c0, .slice a1 n1 c1, .bool f, .slice a3 n3 c3] 35)
  have I2 := IM.but (But.of_below (lo := 0) (hi := 0) (new_below w1 (.cells #[.slice a0 n0 c0, .slice a1 n1 c1, .bool f, .slice a3 n3 c3] 35))) (.inl (Nat.zero_le _))
  have z2 := Y2.lt
  clear X1 D1 B1 IM
  go_wp2_with fail
  generalize w1.alloc (.cells #[.slice a0 n0 c0, .slice a1 n1 c1, .bool f, .slice a3 n3 c3] 35) = W2 at Y2 X2 D2 B2 I2 z2 ⊢
  refine (dBelow D2 4 (by omega) (by omega)).mono ?_
  rintro e w3 ⟨y, rfl, hy0, hy1, D3, b3⟩
  have Y3 := Y2.kept (b3.block _ z2 (by omega))
  have X3 := X2.kept (b3.block _ X2.lt (by omega))
  have B3 := B2.trans b3
  have I3 := I2.but b3 (.inl (by omega))
  clear Y2 X2 D2 B2 I2 b3
  obtain ⟨k, rfl⟩ : ∃ k : Nat, y = (k : Int) := ⟨y.toNat, by omega⟩
  have hk : k ≤ 3 := by omega
  have hst := And.intro Y3 (And.intro X3 (And.intro I3 (And.intro D3 B3)))
  have HST := hidden hst
  have hz13 : w1.heap.size < w3.heap.size := Y3.lt
  clear Y3 X3 I3 D3 B3 hst
  go_wp2
  go_loopw [4] (fun i wr => ∃ (j : Nat) (p0 : Option Addr) (l0 e0 : Nat) (p1 : Option Addr) (l1 e1 : Nat) (p3 : Option Addr) (l3 e3 : Nat) (ss : List (List Int)) (cs : List (Int × List Int)) (bs : List Int), j ≤ 3 ∧ i = .int .i64 j ∧ Box wr w1.heap.size 35 #[.slice p0 l0 e0, .slice p1 l1 e1, .bool f, .slice p3 l3 e3] ∧ Box wr w.heap.size 35 #[.slice none 0 0, .slice none 0 0, .bool false, .slice none 0 0] ∧ AvM wr (w.heap.size + 1) w1.heap.size (.slice p0 l0 e0) (.slice p1 l1 e1) (.slice p3 l3 e3) ss cs bs ∧ wtMem (ss, cs, f, bs) + 10 * j ≤ 2100 ∧ Draws wr g a lb cb zs ∧ But g (g + 1) w wr) (fun i _ => (intOf i).toNat)
  case atStart =>
    obtain ⟨q1, q2, q3, q4, q5⟩ := HST.out
    exact ⟨k, a0, n0, c0, a1, n1, c1, a3, n3, c3, ss, cs, bs, hk, rfl, q1, q2, q3, by omega, q4, q5⟩
  case round =>
    clear HST hwt
    obtain ⟨j, p0, l0, e0, p1, l1, e1, p3, l3, e3, ss, cs, bs, hj, rfl, YR, XR, IR, hwt, DR, BR⟩ := hrel
    by_cases hj0 : 0 < j
    · have k2 : (0 : Int) < (j : Int) := by omega
      have zYR := YR.lt
      have zXR := XR.lt
      go_wp2_with fail
      obtain ⟨I, hI⟩ : ∃ I : Array Bool → Act → World → Prop, I = (fun l A V => ∃ (b0 b1 b2 b3 b4 : Bool) (t13 t14 t15 t16 : Value) (x : Sup) (ya0 : Option Addr) (yl0 yc0 : Nat) (ya1 : Option Addr) (yl1 yc1 : Nat) (ya3 : Option Addr) (yl3 yc3 : Nat), l = #[b0, b1, b2, b3, b4] ∧ A = ({ tmps := #[.pointer (some ⟨g, 0, none⟩), undef, .pointer (some ⟨w.heap.size, 0, none⟩), .pointer (some ⟨w1.heap.size, 0, none⟩), .int .i64 (j : Int), .pointer (some ⟨g, 0, none⟩), .agg #[.slice a0 n0 c0, .slice a1 n1 c1, .bool f, .slice a3 n3 c3], .pointer (some ⟨g, 0, none⟩), .int .i64 (k : Int), .int .i64 (j : Int), .bool true, u11, u12, t13, t14, t15, t16, undef], defers := [] } : Act) ∧ Draws V g a lb cb zs ∧ But g (g + 1) w V ∧ Box V w.heap.size 35 #[.slice none 0 0, .slice none 0 0, .bool false, .slice none 0 0] ∧ w1.heap.size < V.heap.size ∧ (b0 = true → t13 = .agg #[.slice p0 l0 e0, .slice p1 l1 e1, .bool f, .slice p3 l3 e3]) ∧ (b1 = true → t14 = .pointer (some ⟨g, 0, none⟩)) ∧ (b2 = true → t15 = .agg #[.int .i64 x.id, .int .i64 x.gen, .int .i64 x.role, .int .i64 x.n, .int .i64 x.s, .int .i64 x.tail, .int .i64 x.lost, .int .i64 x.built]) ∧ (b3 = true → b0 = true ∧ b2 = true ∧ t16 = .agg #[.slice ya0 yl0 yc0, .slice ya1 yl1 yc1, .bool f, .slice ya3 yl3 yc3] ∧ AvM V (w.heap.size + 1) w1.heap.size (.slice ya0 yl0 yc0) (.slice ya1 yl1 yc1) (.slice ya3 yl3 yc3) ss (wsCS ss cs f bs x) (wsBS ss cs f bs x)) ∧ (b4 = false → Box V w1.heap.size 35 #[.slice p0 l0 e0, .slice p1 l1 e1, .bool f, .slice p3 l3 e3] ∧ AvM V (w.heap.size + 1) w1.heap.size (.slice p0 l0 e0) (.slice p1 l1 e1) (.slice p3 l3 e3) ss cs bs) ∧ (b4 = true → b3 = true ∧ Box V w1.heap.size 35 #[.slice ya0 yl0 yc0, .slice ya1 yl1 yc1, .bool f, .slice ya3 yl3 yc3])) := ⟨_, rfl⟩
      refine region_inv I (by kernel_rfl) ?_ ?_ ?_
      · rw [hI]
        exact ⟨false, false, false, false, false, u13, u14, u15, u16, supZ, none, 0, 0, none, 0, 0, none, 0, 0, rfl, rfl, Draws.drew DR, ⟨BR.os, BR.tape, BR.output, BR.size, BR.block⟩, XR, zYR, (fun h => by cases h), (fun h => by cases h), (fun h => by cases h), (fun h => by cases h), (fun _ => ⟨YR, IR.but (⟨rfl, rfl, rfl, Nat.le_refl _, fun _ _ _ => rfl⟩ : But 0 0 wr wr.drew) (.inl (Nat.zero_le _))⟩), (fun h => by cases h)⟩
      · intro l A V hIV jj hj
        rw [hI] at hIV
        obtain ⟨b0, b1, b2, b3, b4, t13, t14, t15, t16, x, ya0, yl0, yc0, ya1, yl1, yc1, ya3, yl3, yc3, rfl, rfl, D, B, XV, zV, h0, h1, h2, h3, h4, h5⟩ := hIV
        have hlt : jj < 5 := ready_lt hj
        obtain ⟨hju, o, ho, hdp⟩ := ready_deps hj
        clear hj YR XR IR DR BR
        have hcs : jj = 0 ∨ jj = 1 ∨ jj = 2 ∨ jj = 3 ∨ jj = 4 := by omega
        rcases hcs with rfl | rfl | rfl | rfl | rfl
        · obtain rfl : _ = o := Option.some.inj (ho : some _ = some o)
          have hji : b0 = false := hju
          clear hdp ho hju hlt
          subst hji
          have b4f : b4 = false := by
            cases b4 with
            | false => rfl
            | true => cases (h3 (h5 rfl).1).1
          subst b4f
          obtain ⟨YV, IV⟩ := h4 rfl
          obtain ⟨y0, y1, y2, y3⟩ := YV.cells4
          have KEY : Hid (I #[true, b1, b2, b3, false] ({ tmps := #[.pointer (some ⟨g, 0, none⟩), undef, .pointer (some ⟨w.heap.size, 0, none⟩), .pointer (some ⟨w1.heap.size, 0, none⟩), .int .i64 (j : Int), .pointer (some ⟨g, 0, none⟩), .agg #[.slice a0 n0 c0, .slice a1 n1 c1, .bool f, .slice a3 n3 c3], .pointer (some ⟨g, 0, none⟩), .int .i64 (k : Int), .int .i64 (j : Int), .bool true, u11, u12, .agg #[.slice p0 l0 e0, .slice p1 l1 e1, .bool f, .slice p3 l3 e3], t14, t15, t16, undef], defers := [] } : Act) (V)) := by
            unfold Hid
            rw [hI]
            exact ⟨true, b1, b2, b3, false, .agg #[.slice p0 l0 e0, .slice p1 l1 e1, .bool f, .slice p3 l3 e3], t14, t15, t16, x, ya0, yl0, yc0, ya1, yl1, yc1, ya3, yl3, yc3, rfl, rfl, D, B, XV, zV, (fun _ => rfl), (h1), (h2), (fun hb => (by cases (h3 hb).1)), (h4), (h5)⟩
          clear hI h0 h1 h2 h3 h4 h5 IV
          refine wpOp_one (by rfl) (fun K hK => ?_)
          go_simp
          exact hK.out _ _ KEY.out
        · obtain rfl : _ = o := Option.some.inj (ho : some _ = some o)
          have hji : b1 = false := hju
          clear hdp ho hju hlt
          subst hji
          have KEY : Hid (I #[b0, true, b2, b3, b4] ({ tmps := #[.pointer (some ⟨g, 0, none⟩), undef, .pointer (some ⟨w.heap.size, 0, none⟩), .pointer (some ⟨w1.heap.size, 0, none⟩), .int .i64 (j : Int), .pointer (some ⟨g, 0, none⟩), .agg #[.slice a0 n0 c0, .slice a1 n1 c1, .bool f, .slice a3 n3 c3], .pointer (some ⟨g, 0, none⟩), .int .i64 (k : Int), .int .i64 (j : Int), .bool true, u11, u12, t13, .pointer (some ⟨g, 0, none⟩), t15, t16, undef], defers := [] } : Act) (V)) := by
            unfold Hid
            rw [hI]
            exact ⟨b0, true, b2, b3, b4, t13, .pointer (some ⟨g, 0, none⟩), t15, t16, x, ya0, yl0, yc0, ya1, yl1, yc1, ya3, yl3, yc3, rfl, rfl, D, B, XV, zV, (h0), (fun _ => rfl), (h2), (h3), (h4), (h5)⟩
          clear hI h0 h1 h2 h3 h4 h5
          refine wpOp_one (by rfl) (fun K hK => ?_)
          go_simp
          exact hK.out _ _ KEY.out
        · obtain rfl : _ = o := Option.some.inj (ho : some _ = some o)
          have hji : b2 = false := hju
          have d1 : b1 = true := hdp 1 (by decide)
          clear hdp ho hju hlt
          subst hji d1
          obtain rfl := h1 rfl
          have b4f : b4 = false := by
            cases b4 with
            | false => rfl
            | true => cases (h3 (h5 rfl).1).2.1
          subst b4f
          obtain ⟨YV, IV⟩ := h4 rfl
          have zX := XV.lt
          have zY := YV.lt
          have KEY : Hid (∀ (x : Sup) (v : World), Draws v g a lb cb zs → But g (g + 1) V v → I #[b0, true, true, b3, false] ({ tmps := #[.pointer (some ⟨g, 0, none⟩), undef, .pointer (some ⟨w.heap.size, 0, none⟩), .pointer (some ⟨w1.heap.size, 0, none⟩), .int .i64 (j : Int), .pointer (some ⟨g, 0, none⟩), .agg #[.slice a0 n0 c0, .slice a1 n1 c1, .bool f, .slice a3 n3 c3], .pointer (some ⟨g, 0, none⟩), .int .i64 (k : Int), .int .i64 (j : Int), .bool true, u11, u12, t13, .pointer (some ⟨g, 0, none⟩), .agg #[.int .i64 x.id, .int .i64 x.gen, .int .i64 x.role, .int .i64 x.n, .int .i64 x.s, .int .i64 x.tail, .int .i64 x.lost, .int .i64 x.built], t16, undef], defers := [] } : Act) (v)) := by
            unfold Hid
            rw [hI]
            intro x v dd bb
            exact ⟨b0, true, true, b3, false, t13, .pointer (some ⟨g, 0, none⟩), .agg #[.int .i64 x.id, .int .i64 x.gen, .int .i64 x.role, .int .i64 x.n, .int .i64 x.s, .int .i64 x.tail, .int .i64 x.lost, .int .i64 x.built], t16, x, ya0, yl0, yc0, ya1, yl1, yc1, ya3, yl3, yc3, rfl, rfl, dd, (B.trans bb), (XV.kept (bb.block _ zX (.inr (Nat.succ_le_of_lt hg)))), (Nat.lt_of_lt_of_le zV bb.size), (h0), (fun _ => rfl), (fun _ => rfl), (fun hb => (by cases (h3 hb).2.1)), (fun _ => ⟨YV.kept (bb.block _ zY (.inr (by omega))), IV.but bb (.inl (by omega))⟩), (fun hb => (by cases hb))⟩
          clear hI h0 h1 h2 h3 h4 h5 IV YV XV
          refine wpOp_one (by rfl) (fun K hK => ?_)
          go_simp
          refine (l4Draw_any D).mono ?_
          rintro e v ⟨x', rfl, _, dd, bb⟩
          have KK := hidden (KEY.out x' v dd bb)
          clear KEY
          go_wp2_with fail
          exact hK.out _ _ KK.out
        · obtain rfl : _ = o := Option.some.inj (ho : some _ = some o)
          have hji : b3 = false := hju
          have d0 : b0 = true := hdp 0 (by decide)
          have d2 : b2 = true := hdp 2 (by decide)
          clear hdp ho hju hlt
          subst hji d0 d2
          obtain rfl := h0 rfl
          obtain rfl := h2 rfl
          have b4f : b4 = false := by
            cases b4 with
            | false => rfl
            | true => cases (h5 rfl).1
          subst b4f
          obtain ⟨YV, IV⟩ := h4 rfl
          have zX := XV.lt
          have zY := YV.lt
          have KEY : Hid (∀ (ya0 : Option Addr) (yl0 yc0 : Nat) (ya1 : Option Addr) (yl1 yc1 : Nat) (ya3 : Option Addr) (yl3 yc3 : Nat) (v : World), (tMem 81).Own v V.heap.size v.heap.size [.slice ya0 yl0 yc0, .slice ya1 yl1 yc1, .bool f, .slice ya3 yl3 yc3] (ss, wsCS ss cs f bs x, f, wsBS ss cs f bs x) → Below V.heap.size V v → I #[true, b1, true, true, false] ({ tmps := #[.pointer (some ⟨g, 0, none⟩), undef, .pointer (some ⟨w.heap.size, 0, none⟩), .pointer (some ⟨w1.heap.size, 0, none⟩), .int .i64 (j : Int), .pointer (some ⟨g, 0, none⟩), .agg #[.slice a0 n0 c0, .slice a1 n1 c1, .bool f, .slice a3 n3 c3], .pointer (some ⟨g, 0, none⟩), .int .i64 (k : Int), .int .i64 (j : Int), .bool true, u11, u12, .agg #[.slice p0 l0 e0, .slice p1 l1 e1, .bool f, .slice p3 l3 e3], t14, .agg #[.int .i64 x.id, .int .i64 x.gen, .int .i64 x.role, .int .i64 x.n, .int .i64 x.s, .int .i64 x.tail, .int .i64 x.lost, .int .i64 x.built], .agg #[.slice ya0 yl0 yc0, .slice ya1 yl1 yc1, .bool f, .slice ya3 yl3 yc3], undef], defers := [] } : Act) (v)) := by
            unfold Hid
            rw [hI]
            intro ya0 yl0 yc0 ya1 yl1 yc1 ya3 yl3 yc3 v ow bb
            exact ⟨true, b1, true, true, false, .agg #[.slice p0 l0 e0, .slice p1 l1 e1, .bool f, .slice p3 l3 e3], t14, .agg #[.int .i64 x.id, .int .i64 x.gen, .int .i64 x.role, .int .i64 x.n, .int .i64 x.s, .int .i64 x.tail, .int .i64 x.lost, .int .i64 x.built], .agg #[.slice ya0 yl0 yc0, .slice ya1 yl1 yc1, .bool f, .slice ya3 yl3 yc3], x, ya0, yl0, yc0, ya1, yl1, yc1, ya3, yl3, yc3, rfl, rfl, (D.lower bb (Nat.lt_of_lt_of_le hg B.size)), (B.thenBelow (bb.mono B.size)), (XV.below bb zX), (Nat.lt_of_lt_of_le zV bb.size), (fun _ => rfl), (h1), (fun _ => rfl), (fun _ => ⟨rfl, rfl, rfl, AvM.own ow (by omega) (by omega)⟩), (fun _ => ⟨YV.below bb zY, IV.but (But.of_below (lo := 0) (hi := 0) bb) (.inl (Nat.zero_le _))⟩), (fun hb => (by cases hb))⟩
          clear hI h0 h1 h2 h3 h4 h5 YV XV
          refine wpOp_one (by rfl) (fun K hK => ?_)
          go_simp
          refine (specWriteSuper_any _ 81 _ _ _ _ _ _ _ _ _ ss cs f bs x IV.1.rd IV.2.1.rd IV.2.2.rd (by omega)).mono ?_
          rintro e v ⟨w0, w1', w3', rfl, ow, bb⟩
          obtain ⟨za0, zl0, zc0, za1, zl1, zc1, za3, zl3, zc3, hv0, hv1, hv3⟩ := mem_letters2 ow
          subst hv0 hv1 hv3
          have KK := hidden (KEY.out za0 zl0 zc0 za1 zl1 zc1 za3 zl3 zc3 v ow bb)
          clear KEY
          go_wp2_with fail
          exact hK.out _ _ KK.out
        · obtain rfl : _ = o := Option.some.inj (ho : some _ = some o)
          have hji : b4 = false := hju
          have d0 : b0 = true := hdp 0 (by decide)
          have d1 : b1 = true := hdp 1 (by decide)
          have d2 : b2 = true := hdp 2 (by decide)
          have d3 : b3 = true := hdp 3 (by decide)
          clear hdp ho hju hlt
          subst hji d0 d1 d2 d3
          obtain rfl := h0 rfl
          obtain rfl := h1 rfl
          obtain rfl := h2 rfl
          obtain ⟨_, _, rfl, AY⟩ := h3 rfl
          obtain ⟨YV, IV⟩ := h4 rfl
          have zX := XV.lt
          have zY := YV.lt
          obtain ⟨s0, s1, s2, s3⟩ := YV.cells4
          have fz := YV.frozen
          have hbt := set4_but V w1.heap.size (.slice ya0 yl0 yc0) (.slice ya1 yl1 yc1) (.bool f) (.slice ya3 yl3 yc3)
          have hbl : Below w.heap.size V (set4 V w1.heap.size (.slice ya0 yl0 yc0) (.slice ya1 yl1 yc1) (.bool f) (.slice ya3 yl3 yc3)) := hbt.below (by omega) (by omega)
          have KEY : Hid (I #[true, true, true, true, true] ({ tmps := #[.pointer (some ⟨g, 0, none⟩), undef, .pointer (some ⟨w.heap.size, 0, none⟩), .pointer (some ⟨w1.heap.size, 0, none⟩), .int .i64 (j : Int), .pointer (some ⟨g, 0, none⟩), .agg #[.slice a0 n0 c0, .slice a1 n1 c1, .bool f, .slice a3 n3 c3], .pointer (some ⟨g, 0, none⟩), .int .i64 (k : Int), .int .i64 (j : Int), .bool true, u11, u12, .agg #[.slice p0 l0 e0, .slice p1 l1 e1, .bool f, .slice p3 l3 e3], .pointer (some ⟨g, 0, none⟩), .agg #[.int .i64 x.id, .int .i64 x.gen, .int .i64 x.role, .int .i64 x.n, .int .i64 x.s, .int .i64 x.tail, .int .i64 x.lost, .int .i64 x.built], .agg #[.slice ya0 yl0 yc0, .slice ya1 yl1 yc1, .bool f, .slice ya3 yl3 yc3], undef], defers := [] } : Act) (set4 V w1.heap.size (.slice ya0 yl0 yc0) (.slice ya1 yl1 yc1) (.bool f) (.slice ya3 yl3 yc3))) := by
            unfold Hid
            rw [hI]
            exact ⟨true, true, true, true, true, .agg #[.slice p0 l0 e0, .slice p1 l1 e1, .bool f, .slice p3 l3 e3], .pointer (some ⟨g, 0, none⟩), .agg #[.int .i64 x.id, .int .i64 x.gen, .int .i64 x.role, .int .i64 x.n, .int .i64 x.s, .int .i64 x.tail, .int .i64 x.lost, .int .i64 x.built], .agg #[.slice ya0 yl0 yc0, .slice ya1 yl1 yc1, .bool f, .slice ya3 yl3 yc3], x, ya0, yl0, yc0, ya1, yl1, yc1, ya3, yl3, yc3, rfl, rfl, (D.lower hbl hg), (B.thenBelow hbl), (XV.kept (hbt.block _ zX (.inl (by omega)))), (Nat.lt_of_lt_of_le zV hbt.size), (fun _ => rfl), (fun _ => rfl), (fun _ => rfl), (fun _ => ⟨rfl, rfl, rfl, AY.but hbt (.inr ⟨rfl, rfl⟩)⟩), (fun hb => (by cases hb)), (fun _ => ⟨rfl, set4_box YV (.slice ya0 yl0 yc0) (.slice ya1 yl1 yc1) (.bool f) (.slice ya3 yl3 yc3)⟩)⟩
          unfold set4 at KEY
          clear hI h0 h1 h2 h3 h4 h5 hbt hbl AY IV
          refine wpOp_one (by rfl) (fun K hK => ?_)
          go_simp
          exact hK.out _ _ KEY.out
      · intro l A V hIV hr
        rw [hI] at hIV
        obtain ⟨b0, b1, b2, b3, b4, t13, t14, t15, t16, x, ya0, yl0, yc0, ya1, yl1, yc1, ya3, yl3, yc3, rfl, rfl, D, B, XV, zV, h0, h1, h2, h3, h4, h5⟩ := hIV
        clear hI YR XR IR DR BR
        have e0d : b0 = true := done_of hr (j := 0) (by rfl) (by intro d hd; have hd2 : d ∈ ([] : List Nat) := hd; cases hd2)
        subst e0d
        have e1d : b1 = true := done_of hr (j := 1) (by rfl) (by intro d hd; have hd2 : d ∈ ([] : List Nat) := hd; cases hd2)
        subst e1d
        have e2d : b2 = true := done_of hr (j := 2) (by rfl) (by intro d hd; have hd2 : d ∈ [1] := hd; simp only [List.mem_cons, List.not_mem_nil, or_false] at hd2; rcases hd2 with rfl <;> rfl)
        subst e2d
        have e3d : b3 = true := done_of hr (j := 3) (by rfl) (by intro d hd; have hd2 : d ∈ [0, 2, 2] := hd; simp only [List.mem_cons, List.not_mem_nil, or_false] at hd2; rcases hd2 with rfl | rfl | rfl <;> rfl)
        subst e3d
        have e4d : b4 = true := done_of hr (j := 4) (by rfl) (by intro d hd; have hd2 : d ∈ [3, 3, 0, 1, 2, 3] := hd; simp only [List.mem_cons, List.not_mem_nil, or_false] at hd2; rcases hd2 with rfl | rfl | rfl | rfl | rfl | rfl <;> rfl)
        subst e4d
        obtain rfl := h0 rfl
        obtain rfl := h1 rfl
        obtain rfl := h2 rfl
        obtain ⟨_, _, rfl, AY⟩ := h3 rfl
        obtain ⟨_, YV⟩ := h5 rfl
        have hgr := ws_grow ss cs f bs x
        clear hr h0 h1 h2 h3 h4 h5
        have FIN := hidden (And.intro YV (And.intro XV (And.intro AY (And.intro D B))))
        clear YV XV AY D B
        have gw : IntKind.i64.wrap ((j : Int) - 1) = (j : Int) - 1 := IntWalk.i64_in _ (by omega)
        (try dsimp only)
        go_wp2
        go_roundw
        case rel =>
          obtain ⟨q1, q2, q3, q4, q5⟩ := FIN.out
          exact ⟨j - 1, ya0, yl0, yc0, ya1, yl1, yc1, ya3, yl3, yc3, ss, _, _, by omega, by go_num, q1, q2, q3, by omega, q4, q5⟩
        case measure => simp [intOf]; omega
    · have e : j = 0 := by omega
      subst e
      obtain ⟨y0, y1, y2, y3⟩ := YR.cells4
      obtain ⟨x0, x1, x2, x3⟩ := XR.cells4
      have fx := XR.frozen
      have hbt := set4_but wr w.heap.size (.slice p0 l0 e0) (.slice p1 l1 e1) (.bool f) (.slice p3 l3 e3)
      have hbl : Below w.heap.size wr (set4 wr w.heap.size (.slice p0 l0 e0) (.slice p1 l1 e1) (.bool f) (.slice p3 l3 e3)) := hbt.below (Nat.le_refl _) (Nat.le_of_lt XR.lt)
      have FD := hidden (DR.lower hbl hg)
      have FB := hidden (BR.thenBelow hbl)
      have IF := IR.but hbt (.inl (Nat.le_refl _))
      have FI := hidden (And.intro (IF.1.toIn.widen (lo' := w.heap.size) (by omega) (Nat.le_refl _)) (And.intro (IF.2.1.toIn.widen (lo' := w.heap.size) (by omega) (Nat.le_refl _)) (IF.2.2.toIn.widen (lo' := w.heap.size) (by omega) (Nat.le_refl _))))
      unfold set4 at FD FB FI
      clear hbt hbl XR YR DR BR IR IF
      go_wp2
      refine bodyPost_ret (v := .agg #[.slice p0 l0 e0, .slice p1 l1 e1, .bool f, .slice p3 l3 e3]) (by simp [results, Try.results43, go_sem, x0, x1, x2, x3]) rfl ?_
      exact ⟨_, _, _, _, _, _, _, _, _, ss, cs, f, bs, rfl, FI.out.1, FI.out.2.1, FI.out.2.2, by omega, FD.out, FB.out⟩

end Go.Proofs.Ytljkjbfkekihjaa

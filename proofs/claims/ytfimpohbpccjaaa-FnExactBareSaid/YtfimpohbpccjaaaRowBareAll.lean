/-
  The exact law of Bare holds: for every array the law returns true. No condition.
-/
import Derived.Test.YtfimpohbpccjaaaWalkArr
import Derived.Test.YtfimpohbpccjaaaHeld
import Derived.Test.YtfimpohbpccjaaaWalkXorS
import Derived.Test.YtfimpohbpccjaaaWalkXorI
import Derived.Test.YtfimpohbpccjaaaWalkSz
import Derived.ProofKit
import Derived.OpenShut
import Derived.Lib.SmallJoins
import Derived.Deep.Slices
import Derived.Deep.SlicePairs
import Derived.Test.YtfimpohbpccjaaaRows
import Derived.WalkKit
import Derived.ShutString
import Derived.ChangeOld
import Derived.Below

/-
  The walk of the exact law of Bare: at every array it answers true, and nothing that was there has turned. No condition.
-/
namespace Go.Proofs.Ytfimpohbpccjaaa
open Go.RowKit

set_option linter.unusedSimpArgs false in
set_option maxRecDepth 20000 in
set_option maxHeartbeats 4000000 in
theorem fnExactBare_walk (x : ArrN) (am ad : Option Addr) (nm cm nd cd : Nat) (ms : List MemD) (ds : List (Int × List Int)) (w : World) (h0 : (tMemS 119 78).Rd w [.slice am nm cm] ms) (h1 : (tWrS 81).Rd w [.slice ad nd cd] ds) :
    Calls Try.prog 6 #[.agg #[.int .i64 x.id, .int .i64 x.n, .int .i64 x.s, .slice am nm cm, .int .i64 x.lost, .int .i64 x.built, .int .i64 x.seq, .int .i64 x.tail, .int .i64 x.gen, .slice ad nd cd, .int .i64 x.fuse, .bool x.down, .bool x.broken]] w fun e w' => e = .returned (.bool true) ∧ Below w.heap.size w w' := by
  have hA := new_below w (.cells #[.int .i64 x.id, .int .i64 x.n, .int .i64 x.s, .slice am nm cm, .int .i64 x.lost, .int .i64 x.built, .int .i64 x.seq, .int .i64 x.tail, .int .i64 x.gen, .slice ad nd cd, .int .i64 x.fuse, .bool x.down, .bool x.broken] 27)
  have xm := Box.new w 27 #[.int .i64 x.id, .int .i64 x.n, .int .i64 x.s, .slice am nm cm, .int .i64 x.lost, .int .i64 x.built, .int .i64 x.seq, .int .i64 x.tail, .int .i64 x.gen, .slice ad nd cd, .int .i64 x.fuse, .bool x.down, .bool x.broken]
  have z0 := xm.lt
  have B0 := hidden hA
  have BR0 := hidden xm
  obtain ⟨l0, l1, l2, l3, l4, l5, l6, l7, l8, l9, l10, l11, l12⟩ := xm.cells13
  go_enter Try.func6, Try.ntmps6
  go_wp2_with fail
  generalize w.alloc (.cells #[.int .i64 x.id, .int .i64 x.n, .int .i64 x.s, .slice am nm cm, .int .i64 x.lost, .int .i64 x.built, .int .i64 x.seq, .int .i64 x.tail, .int .i64 x.gen, .slice ad nd cd, .int .i64 x.fuse, .bool x.down, .bool x.broken] 27) = w0 at hA xm z0 B0 BR0 l0 l1 l2 l3 l4 l5 l6 l7 l8 l9 l10 l11 l12 ⊢
  clear hA xm
  refine (szArr_any _ 119 78 81 x _ _ _ _ _ _ ms ds _ (h0.below B0.out) (h1.below B0.out) (by omega) (by omega)).mono ?_
  rintro e w1 ⟨rfl, hb1⟩
  clear l0 l1 l2 l3 l4 l5 l6 l7 l8 l9 l10 l11 l12
  have B1 := hidden (Below.andThen B0.out hb1)
  have BR1 := hidden (BR0.out.below hb1 (by omega))
  have z1 := hb1.size
  clear B0 BR0 hb1
  by_cases hwt : (wtArr ms ds : Int) ≤ 1048576
  · have hq := leftOf_pos hwt
    have hwt' : wtArr ms ds ≤ 1048576 := by omega
    have hwt2 : wtArr ms ds ≤ 2097152 := by omega
    obtain ⟨gv, hgv⟩ : ∃ gv, bare10 x ms ds = gv := ⟨_, rfl⟩
    have HGV := hidden hgv
    clear hgv
    have hv : (gv != gv) = false := by simp
    obtain ⟨l0, l1, l2, l3, l4, l5, l6, l7, l8, l9, l10, l11, l12⟩ := BR1.out.cells13
    go_wp2_with fail
    refine (toArr_any _ 119 78 81 x _ _ _ _ _ _ ms ds (h0.below B1.out) (h1.below B1.out) hwt').mono ?_
    rintro e w2 ⟨bm2, bd2, rfl, om2, od2, ya2, yb2, hb2⟩
    clear l0 l1 l2 l3 l4 l5 l6 l7 l8 l9 l10 l11 l12
    have B2 := hidden (Below.andThen B1.out hb2)
    have BR2 := hidden (BR1.out.below hb2 (by omega))
    have z2 := hb2.size
    clear B1 BR1 hb2
    have Cm2 := hidden om2
    clear om2
    have Cd2 := hidden od2
    clear od2
    go_wp2_with fail
    refine (specBare_any _ 114 54 83 x _ _ _ _ _ _ ms ds Cm2.out.rd Cd2.out.rd hwt2).mono ?_
    rintro e w3 ⟨rfl, hb3⟩
    rw [HGV.out]
    clear Cm2
    clear Cd2
    have B3 := hidden (Below.andThen B2.out hb3)
    have BR3 := hidden (BR2.out.below hb3 (by omega))
    have z3 := hb3.size
    clear B2 BR2 hb3
    obtain ⟨l0, l1, l2, l3, l4, l5, l6, l7, l8, l9, l10, l11, l12⟩ := BR3.out.cells13
    go_wp2_with fail
    refine (toArr_any _ 119 78 81 x _ _ _ _ _ _ ms ds (h0.below B3.out) (h1.below B3.out) hwt').mono ?_
    rintro e w4 ⟨bm4, bd4, rfl, om4, od4, ya4, yb4, hb4⟩
    clear l0 l1 l2 l3 l4 l5 l6 l7 l8 l9 l10 l11 l12
    have B4 := hidden (Below.andThen B3.out hb4)
    have BR4 := hidden (BR3.out.below hb4 (by omega))
    have z4 := hb4.size
    clear B3 BR3 hb4
    have Dm4 := hidden om4
    clear om4
    have Dd4 := hidden od4
    clear od4
    have ba : Below w4.heap.size w4 (w4.alloc (.cells #[.int .i64 x.id, .int .i64 x.n, .int .i64 x.s, .slice (some ⟨bm4, 0, none⟩) nm nm, .int .i64 x.lost, .int .i64 x.built, .int .i64 x.seq, .int .i64 x.tail, .int .i64 x.gen, .slice (some ⟨bd4, 0, none⟩) nd nd, .int .i64 x.fuse, .bool x.down, .bool x.broken] 34)) := (Below.refl _ _).alloc (Nat.le_refl _) _
    have xb := Box.new w4 34 #[.int .i64 x.id, .int .i64 x.n, .int .i64 x.s, .slice (some ⟨bm4, 0, none⟩) nm nm, .int .i64 x.lost, .int .i64 x.built, .int .i64 x.seq, .int .i64 x.tail, .int .i64 x.gen, .slice (some ⟨bd4, 0, none⟩) nd nd, .int .i64 x.fuse, .bool x.down, .bool x.broken]
    have zx := xb.lt
    have B5 := hidden (Below.andThen B4.out ba)
    have BR5 := hidden (BR4.out.below ba (by omega))
    have Dm5 := hidden (Dm4.out.below ba)
    have Dd5 := hidden (Dd4.out.below ba)
    have z5 := ba.size
    clear B4 BR4 Dm4 Dd4 ba
    have BX5 := hidden xb
    clear xb
    obtain ⟨q0, q1, q2, q3, q4, q5, q6, q7, q8, q9, q10, q11, q12⟩ := BX5.out.cells13
    go_wp2_with fail
    generalize w4.alloc (.cells #[.int .i64 x.id, .int .i64 x.n, .int .i64 x.s, .slice (some ⟨bm4, 0, none⟩) nm nm, .int .i64 x.lost, .int .i64 x.built, .int .i64 x.seq, .int .i64 x.tail, .int .i64 x.gen, .slice (some ⟨bd4, 0, none⟩) nd nd, .int .i64 x.fuse, .bool x.down, .bool x.broken] 34) = w5 at B5 BR5 Dm5 Dd5 BX5 z5 zx q0 q1 q2 q3 q4 q5 q6 q7 q8 q9 q10 q11 q12 ⊢
    refine (implBare_any _ 114 54 83 x _ _ _ _ _ _ ms ds Dm5.out.rd Dd5.out.rd hwt2).mono ?_
    rintro e w6 ⟨rfl, hb6⟩
    rw [HGV.out]
    clear q0 q1 q2 q3 q4 q5 q6 q7 q8 q9 q10 q11 q12
    have B6 := hidden (Below.andThen B5.out hb6)
    have BR6 := hidden (BR5.out.below hb6 (by omega))
    have Dm6 := hidden (Dm5.out.below hb6)
    have Dd6 := hidden (Dd5.out.below hb6)
    have BX6 := hidden (BX5.out.below hb6 (by omega))
    have z6 := hb6.size
    clear B5 BR5 Dm5 Dd5 BX5 hb6
    obtain ⟨y0, y1, y2, y3, y4, y5, y6, y7, y8, y9, y10, y11, y12⟩ := BX6.out.cells13
    obtain ⟨l0, l1, l2, l3, l4, l5, l6, l7, l8, l9, l10, l11, l12⟩ := BR6.out.cells13
    have zl := BR6.out.lt
    have zy := BX6.out.lt
    go_wp2_with fail
    refine wp_region_held_drew (S := fun w' => (w'.cell? ⟨w4.heap.size, 0, none⟩ = some (.int .i64 x.id) ∧ w'.cell? ⟨w4.heap.size, 1, none⟩ = some (.int .i64 x.n) ∧ w'.cell? ⟨w4.heap.size, 2, none⟩ = some (.int .i64 x.s) ∧ w'.cell? ⟨w4.heap.size, 3, none⟩ = some (.slice (some ⟨bm4, 0, none⟩) nm nm) ∧ w'.cell? ⟨w4.heap.size, 4, none⟩ = some (.int .i64 x.lost) ∧ w'.cell? ⟨w4.heap.size, 5, none⟩ = some (.int .i64 x.built) ∧ w'.cell? ⟨w4.heap.size, 6, none⟩ = some (.int .i64 x.seq) ∧ w'.cell? ⟨w4.heap.size, 7, none⟩ = some (.int .i64 x.tail) ∧ w'.cell? ⟨w4.heap.size, 8, none⟩ = some (.int .i64 x.gen) ∧ w'.cell? ⟨w4.heap.size, 9, none⟩ = some (.slice (some ⟨bd4, 0, none⟩) nd nd) ∧ w'.cell? ⟨w4.heap.size, 10, none⟩ = some (.int .i64 x.fuse) ∧ w'.cell? ⟨w4.heap.size, 11, none⟩ = some (.bool x.down) ∧ w'.cell? ⟨w4.heap.size, 12, none⟩ = some (.bool x.broken)) ∧ w'.cell? ⟨w.heap.size, 0, none⟩ = some (.int .i64 x.id) ∧ w'.cell? ⟨w.heap.size, 1, none⟩ = some (.int .i64 x.n) ∧ w'.cell? ⟨w.heap.size, 2, none⟩ = some (.int .i64 x.s) ∧ w'.cell? ⟨w.heap.size, 3, none⟩ = some (.slice am nm cm) ∧ w'.cell? ⟨w.heap.size, 4, none⟩ = some (.int .i64 x.lost) ∧ w'.cell? ⟨w.heap.size, 5, none⟩ = some (.int .i64 x.built) ∧ w'.cell? ⟨w.heap.size, 6, none⟩ = some (.int .i64 x.seq) ∧ w'.cell? ⟨w.heap.size, 7, none⟩ = some (.int .i64 x.tail) ∧ w'.cell? ⟨w.heap.size, 8, none⟩ = some (.int .i64 x.gen) ∧ w'.cell? ⟨w.heap.size, 9, none⟩ = some (.slice ad nd cd) ∧ w'.cell? ⟨w.heap.size, 10, none⟩ = some (.int .i64 x.fuse) ∧ w'.cell? ⟨w.heap.size, 11, none⟩ = some (.bool x.down) ∧ w'.cell? ⟨w.heap.size, 12, none⟩ = some (.bool x.broken)) (by kernel_rfl) ?_ (fun hHeld => ?_)
    · exact ⟨BX6.out.cells13, BR6.out.cells13⟩
    refine held_take (i := 0) (v := ?_) rfl (by kernel_rfl) (by kernel_rfl) (by kernel_rfl) (fun _ _ _ h => h) (by kernel_rfl) ?_ hHeld ?_
    rotate_left 1
    · (intro w hSw; (try dsimp only at hSw); go_split_ands; go_simp; first | done | with_reducible rfl)
    simp only [Act.put, List.setIfInBounds_toArray, List.set_cons_zero, List.set_cons_succ]
    refine held_take (i := 1) (v := ?_) rfl (by kernel_rfl) (by kernel_rfl) (by kernel_rfl) (fun _ _ _ h => h) (by kernel_rfl) ?_ hHeld ?_
    rotate_left 1
    · (intro w hSw; (try dsimp only at hSw); go_split_ands; go_simp; first | done | with_reducible rfl)
    simp only [Act.put, List.setIfInBounds_toArray, List.set_cons_zero, List.set_cons_succ]
    refine held_one (i := 2) (by kernel_rfl) rfl (by kernel_rfl) (fun K hK => ?_)
    go_simp
    refine (toArr_any _ 119 78 81 x _ _ _ _ _ _ ms ds (h0.below B6.out).drew (h1.below B6.out).drew hwt').mono ?_
    rintro e w7 ⟨bm7, bd7, rfl, om7, od7, ya7, yb7, hb7⟩
    have hb7' : Below w6.heap.size w6 w7 := (Below.refl w6.heap.size w6).drew.trans hb7
    go_wp2_with fail
    clear hHeld
    refine hK.out _ _ ?_ (fun hHeld => ?_)
    · exact ⟨(BX6.out.below hb7' zy).cells13, (BR6.out.below hb7' zl).cells13⟩
    clear hK K
    refine held_one (i := 3) (by kernel_rfl) rfl (by kernel_rfl) (fun K hK => ?_)
    go_simp
    refine (eqArr_same _ 114 114 54 54 83 83 x _ _ _ _ _ _ _ _ _ _ _ _ ms ds (Dm6.out.below hb7').rd (Dd6.out.below hb7').rd om7.rd od7.rd hwt2).mono ?_
    rintro e w8 ⟨rfl, hb8⟩
    have hb8' : Below w6.heap.size w6 w8 := Below.andThen hb7' hb8
    go_wp2_with fail
    clear hHeld
    refine hK.out _ _ ?_ (fun hHeld => ?_)
    · exact ⟨(BX6.out.below hb8' zy).cells13, (BR6.out.below hb8' zl).cells13⟩
    clear hK K
    refine held_take (i := 4) (v := ?_) rfl (by kernel_rfl) (by kernel_rfl) (by kernel_rfl) (fun _ _ _ h => h) (by kernel_rfl) ?_ hHeld ?_
    rotate_left 1
    · (intro w hSw; (try dsimp only at hSw); go_split_ands; go_simp; first | done | with_reducible rfl)
    simp only [Act.put, List.setIfInBounds_toArray, List.set_cons_zero, List.set_cons_succ]
    refine wpAnyH_done (by kernel_rfl) ?_ _
    clear hHeld
    clear y0 y1 y2 y3 y4 y5 y6 y7 y8 y9 y10 y11 y12 l0 l1 l2 l3 l4 l5 l6 l7 l8 l9 l10 l11 l12
    clear zl zy om7 od7 ya7 yb7 hb7 hb8 hb7'
    have B8 := hidden (Below.andThen B6.out hb8')
    have BR8 := hidden (BR6.out.below hb8' (by omega))
    have Dm8 := hidden (Dm6.out.below hb8')
    have Dd8 := hidden (Dd6.out.below hb8')
    have BX8 := hidden (BX6.out.below hb8' (by omega))
    have z8 := hb8'.size
    clear B6 BR6 Dm6 Dd6 BX6 hb8'
    go_wp2
    go_ret
    exact ⟨rfl, B8.out⟩
  · have hq := leftOf_neg (left := 1048576) (wt := wtArr ms ds) (by omega)
    go_wp2
    go_ret
    exact ⟨rfl, B1.out⟩

end Go.Proofs.Ytfimpohbpccjaaa

/-
  What the row's reading says of arguments with depth, in these texts' own words. No condition.
-/
namespace Go.Proofs.Ytfimpohbpccjaaa
open Go.RowKit Go.ChangeShapes Go.WideShapes Go.ChangeAt Go.Joins Go.Deep

section
variable {H : Type} {enc : TypeId × Value → H} {P : Program} {w : World} {held : Bool}

theorem rdInts_of {t q : TypeId} {fuel : Nat} {v : Value} {x : DataW H × List MemPlace} (ht : P.underlying t = some (.slice q)) (hq : P.underlying q = some (.int .i64)) (cq : P.cellsOf q = 1)
    (h : DataW.trod enc P w 0 (fun _ => true) held fuel t [v] = some x) : ∃ zs, tIntS.Rd w [v] zs := by
  rcases open_ints ht hq cq h with ⟨hcs, _⟩ | ⟨a, len, cap, zs, hcs, _, hl, hm, hz, _, hcell, hwz⟩
  · simp at hcs
    subst hcs
    exact ⟨[], ints_rd_of (.inl rfl) (Nat.le_refl _) (by simp) (fun _ => rfl)⟩
  · simp at hcs
    subst hcs
    have hr : IsRow .i64 w (some a) len cap zs := .inr ⟨_, rfl, hl, hm, by simpa using hz, hcell, hwz⟩
    obtain ⟨h1, h2, _, _⟩ := hr.reads
    refine ⟨zs.take len, ?_⟩
    have := ints_rd_of (E := 3) (cap := cap) h1 (by omega) (by unfold maxLen at hm; omega) (by simp)
    rw [h2] at this
    exact this

/-- A slice by its elements. -/
theorem rd_row {t : Ty} {E : TypeId} {a : Addr} {len cap : Nat} (hl : len ≤ cap) (hm : cap ≤ 9223372036854775807) (cs : Nat → List Value) (hn : 0 < t.n) (hcl : ∀ i, i < len → (cs i).length = t.n)
    (hc : ∀ i, i < len → ∀ j, j < t.n → w.cell? (a.add (i * t.n + j)) = (cs i)[j]?) (hx : ∀ i, i < len → ∃ x, t.Rd w (cs i) x) : ∃ d, (rowTy t E).Rd w [.slice (some a) len cap] d := by
  have each : ∀ i, i < len → ∃ y : t.D × List Nat, t.rd w (cs i) y.1 y.2 := by
    intro i hi
    obtain ⟨x, fp, h⟩ := hx i hi
    exact ⟨(x, fp), h⟩
  by_cases h0 : len = 0
  · subst h0
    exact ⟨[], [], some a, cap, rfl, by simp, hm, .inl ⟨rfl, rfl, by simp⟩⟩
  · have hne : Nonempty (t.D × List Nat) := by
      obtain ⟨y, _⟩ := each 0 (by omega)
      exact ⟨y⟩
    have hch : ∃ f : Nat → t.D × List Nat, ∀ i, i < len → t.rd w (cs i) (f i).1 (f i).2 := by
      refine ⟨fun i => if h : i < len then Classical.choose (each i h) else Classical.choice hne, fun i hi => ?_⟩
      simp only [dif_pos hi]
      exact Classical.choose_spec (each i hi)
    obtain ⟨f, hf⟩ := hch
    obtain ⟨b, off, spot⟩ := a
    have hc0 := hc 0 (by omega) 0 hn
    have hsome : ∃ v0, (cs 0)[0]? = some v0 := ⟨(cs 0)[0]'(by rw [hcl 0 (by omega)]; exact hn), List.getElem?_eq_getElem _⟩
    obtain ⟨v0, hv0⟩ := hsome
    rw [hv0] at hc0
    have hspot : spot = none := by simpa [Addr.add] using World.cell?_spot hc0
    subst hspot
    have ea : ∀ k, (⟨b, off, none⟩ : Addr).add k = ⟨b, off + k, none⟩ := by
      intro k
      unfold Addr.add
      split <;> simp_all
    rw [ea] at hc0
    have hblt : b < w.heap.size := World.block_lt_of_cell? w _ hc0
    refine ⟨(List.range len).map fun i => (f i).1, b :: ((List.range len).map fun i => (f i).2).flatten, _, cap, by simp, by simpa using hl, hm, .inr ⟨b, off, (List.range len).map fun i => (f i).2, rfl, hblt, rfl, by simp, fun i x hxi => ?_⟩⟩
    have hi : i < len := by
      have := (List.getElem?_eq_some_iff.1 hxi).1
      simpa using this
    rw [List.getElem?_map, List.getElem?_range hi] at hxi
    simp at hxi
    subst hxi
    refine ⟨(f i).2, cs i, by rw [List.getElem?_map, List.getElem?_range hi]; rfl, hf i hi, fun j hj => ?_⟩
    rw [← ea]
    exact hc i hi j hj

theorem rdIntSS_of {t e q : TypeId} {fuel : Nat} {v : Value} {x : DataW H × List MemPlace} (ht : P.underlying t = some (.slice e)) (he : P.underlying e = some (.slice q)) (hq : P.underlying q = some (.int .i64)) (ce : P.cellsOf e = 1) (cq : P.cellsOf q = 1)
    (h : DataW.trod enc P w 0 (fun _ => true) held fuel t [v] = some x) : ∃ d, tIntSS.Rd w [v] d := by
  rcases open_slice1 ht ce h with ⟨hcs, _⟩ | ⟨a, len, cap, m, n, V, D, Pl, hcs, _, hl, hm, hmm, _, hx⟩
  · simp at hcs
    subst hcs
    exact ⟨[], [], none, 0, rfl, by simp, by simp, .inl ⟨rfl, rfl, fun _ => rfl⟩⟩
  · simp at hcs
    subst hcs
    simp only [if_true] at hmm
    refine rd_row hl (by unfold maxLen at hm; omega) (fun i => [V i]) (by decide) (fun _ _ => rfl) (fun i hi j hj => ?_) (fun i hi => rdInts_of he hq cq (hx i (by omega)).2)
    have hj0 : j = 0 := by have : j < 1 := hj; omega
    subst hj0
    have := (hx i (by omega)).1
    show w.cell? (a.add (i * 1 + 0)) = some (V i)
    rw [Nat.mul_one, Nat.add_zero]
    exact this

theorem rdWrS_of {t e q : TypeId} {f0 f1 : Field} {E : TypeId} {fuel : Nat} {v : Value} {x : DataW H × List MemPlace} (ht : P.underlying t = some (.slice e)) (he : P.underlying e = some (.struct #[f0, f1])) (ce : P.cellsOf e = 2) (o0 : f0.offset = 0) (o1 : f1.offset = 1) (c0 : P.cellsOf f0.type = 1) (c1 : P.cellsOf f1.type = 1)
    (hi0 : P.underlying f0.type = some (.int .i64)) (hi1 : P.underlying f1.type = some (.slice q)) (hq : P.underlying q = some (.int .i64)) (cq : P.cellsOf q = 1)
    (h : DataW.trod enc P w 0 (fun _ => true) held fuel t [v] = some x) : ∃ d, (tWrS E).Rd w [v] d := by
  rcases open_slice_pairs ht he ce o0 o1 c0 c1 h with ⟨hcs, _⟩ | ⟨a, len, cap, m, n, V0, V1, D0, D1, P0, P1, hcs, _, hl, hm, hmm, _, hx⟩
  · simp at hcs
    subst hcs
    exact ⟨[], [], none, 0, rfl, by simp, by simp, .inl ⟨rfl, rfl, fun _ => rfl⟩⟩
  · simp at hcs
    subst hcs
    simp only [if_true] at hmm
    refine rd_row hl (by unfold maxLen at hm; omega) (fun i => [V0 i, V1 i]) (by decide) (fun _ _ => rfl) (fun i hi j hj => ?_) (fun i hi => ?_)
    · have hj2 : j < 2 := hj
      obtain ⟨h0, h1, _⟩ := hx i (by omega)
      match j, hj2 with
      | 0, _ => exact h0
      | 1, _ => exact h1
    · obtain ⟨_, _, h2, h3⟩ := hx i (by omega)
      obtain ⟨y, hy, _, _⟩ := DataW.trod_int hi0 h2
      obtain ⟨zs, hzs⟩ := rdInts_of hi1 hq cq h3
      simp at hy
      exact ⟨(y, zs), by rw [hy]; exact pair_rd_of (t := intTy) (vs := [_]) ⟨[], rfl, rfl⟩ hzs⟩

end
end Go.Proofs.Ytfimpohbpccjaaa

/-
  What the row's reading says of an array that came in, in these texts' own words: its numbers and flags, and what its two slices read. No condition.
-/
namespace Go.Proofs.Ytfimpohbpccjaaa
open Go.RowKit Go.ChangeShapes Go.WideShapes Go.ChangeAt Go.Joins Go.Deep

section
variable {H : Type} {enc : TypeId × Value → H} {w : World} {held : Bool}

/-- A slice whose elements are read one by one. -/
theorem rdRow_of {P : Program} {t e E : TypeId} {u : Ty} {fuel : Nat} {v : Value} {x : DataW H × List MemPlace} (ht : P.underlying t = some (.slice e)) (ce : P.cellsOf e = u.n) (hn : 0 < u.n)
    (each : ∀ (n : Nat) (cs : List Value) (y : DataW H × List MemPlace), cs.length = u.n → DataW.trod enc P w 0 (fun _ => true) held n e cs = some y → ∃ d, u.Rd w cs d)
    (h : DataW.trod enc P w 0 (fun _ => true) held fuel t [v] = some x) : ∃ d, (rowTy u E).Rd w [v] d := by
  rcases open_slice ht h with ⟨hcs, _⟩ | ⟨a, len, cap, m, n, D, Pl, hcs, _, hl, hm, hmm, _, hx⟩
  · simp at hcs
    subst hcs
    exact ⟨[], [], none, 0, rfl, by simp, by simp, .inl ⟨rfl, rfl, fun _ => rfl⟩⟩
  · simp at hcs
    subst hcs
    simp only [if_true] at hmm
    have one : ∀ i, i < len → ∃ cs : List Value, cs.length = u.n ∧ (∀ j, j < u.n → w.cell? (a.add (i * u.n + j)) = cs[j]?) ∧ ∃ d, u.Rd w cs d := by
      intro i hi
      obtain ⟨cs', h1, h2⟩ := hx i (by omega)
      rw [ce] at h1
      obtain ⟨_, hlen, hcell⟩ := World.cells?_some h1
      refine ⟨cs', hlen, fun j hj => ?_, each n cs' _ hlen h2⟩
      have := hcell j hj
      rw [add_add] at this
      exact this
    obtain ⟨q, hq⟩ := choose_lt one
    exact rd_row hl (by unfold maxLen at hm; omega) q hn (fun i hi => (hq i hi).1) (fun i hi => (hq i hi).2.1) (fun i hi => (hq i hi).2.2)

theorem rdMemS_of {fuel : Nat} {v : Value} {x : DataW H × List MemPlace} (h : DataW.trod enc Try.prog w 0 (fun _ => true) held fuel 24 [v] = some x) : ∃ d, (tMemS 119 78).Rd w [v] d := by
  refine rdRow_of (e := 78) Try.underlying24 (by kernel_rfl) (by decide) (fun n cs y hl hy => ?_) h
  match cs, hl with
  | [v0, v1, v2, v3], _ =>
    obtain ⟨xs, k, _, _, _, hxl, hf⟩ := DataW.trod_struct Try.underlying78 hy
    have c1 : Try.prog.cellsOf 51 = 1 := by kernel_rfl
    have c2 : Try.prog.cellsOf 76 = 1 := by kernel_rfl
    have c3 : Try.prog.cellsOf 4 = 1 := by kernel_rfl
    have c4 : Try.prog.cellsOf 38 = 1 := by kernel_rfl
    match xs, hxl with
    | [y0, y1, y2, y3], _ =>
      have g0 := hf 0 _ rfl
      have g1 := hf 1 _ rfl
      have g2 := hf 2 _ rfl
      have g3 := hf 3 _ rfl
      simp [c1] at g0
      simp [c2] at g1
      simp [c3] at g2
      simp [c4] at g3
      obtain ⟨ss, r0⟩ := rdIntSS_of Try.underlying51 Try.underlying38 Try.underlying3 (by kernel_rfl) (by kernel_rfl) g0
      obtain ⟨ws, r1⟩ := rdWrS_of (E := 119) Try.underlying76 Try.underlying119 (by kernel_rfl) rfl rfl (by kernel_rfl) (by kernel_rfl) Try.underlying3 Try.underlying38 Try.underlying3 (by kernel_rfl) g1
      obtain ⟨f, hfb, _⟩ := DataW.trod_bool Try.underlying4 g2
      obtain ⟨bs, r3⟩ := rdInts_of Try.underlying38 Try.underlying3 (by kernel_rfl) g3
      simp at hfb
      subst hfb
      exact ⟨(ss, ws, f, bs), pair_rd_of (vs := [v0]) r0 (pair_rd_of (vs := [v1]) r1 (pair_rd_of (t := boolTy) (vs := [.bool f]) ⟨[], rfl, rfl⟩ r3))⟩

set_option maxRecDepth 20000 in
theorem array13 {cs : Array Value} (h : cs.size = 13) : ∃ c0 c1 c2 c3 c4 c5 c6 c7 c8 c9 c10 c11 c12, cs = #[c0, c1, c2, c3, c4, c5, c6, c7, c8, c9, c10, c11, c12] := by
  obtain ⟨l⟩ := cs
  match l, h with
  | [c0, c1, c2, c3, c4, c5, c6, c7, c8, c9, c10, c11, c12], _ => exact ⟨c0, c1, c2, c3, c4, c5, c6, c7, c8, c9, c10, c11, c12, rfl⟩

set_option maxRecDepth 20000 in
set_option maxHeartbeats 1600000 in
theorem open_arr {r : Reach} {b0 : Nat} {v : Value} {d : DataW H} {p : List MemPlace} (hv : Value.okWide Try.prog w r b0 27 v) (h : DataW.Trod enc Try.prog w 0 (fun _ => true) held 27 v d p) :
    ∃ (x : ArrN) (am ad : Option Addr) (cm cd : Nat) (ms : List MemD) (ds : List (Int × List Int)), v = .agg #[.int .i64 x.id, .int .i64 x.n, .int .i64 x.s, .slice am ms.length cm, .int .i64 x.lost, .int .i64 x.built, .int .i64 x.seq, .int .i64 x.tail, .int .i64 x.gen, .slice ad ds.length cd, .int .i64 x.fuse, .bool x.down, .bool x.broken] ∧ (tMemS 119 78).Rd w [.slice am ms.length cm] ms ∧ (tWrS 81).Rd w [.slice ad ds.length cd] ds := by
  obtain ⟨cs, rfl, hsz⟩ := okWide_struct Try.underlying27 hv
  obtain ⟨c0, c1, c2, c3, c4, c5, c6, c7, c8, c9, c10, c11, c12, rfl⟩ := array13 (hsz.trans (by kernel_rfl))
  obtain ⟨fuel, hf⟩ := h
  obtain ⟨xs, n, _, _, _, hxl, hx⟩ := DataW.trod_struct Try.underlying27 hf
  have k3 : Try.prog.cellsOf 3 = 1 := by kernel_rfl
  have k4 : Try.prog.cellsOf 4 = 1 := by kernel_rfl
  have kG : Try.prog.cellsOf 23 = 2 := by kernel_rfl
  have kM : Try.prog.cellsOf 24 = 1 := by kernel_rfl
  have kE : Try.prog.cellsOf 25 = 1 := by kernel_rfl
  match xs, hxl with
  | [y0, y1, y2, y3, y4, y5, y6, y7, y8, y9, y10, y11], _ =>
    have g0 := hx 0 _ rfl
    have g1 := hx 1 _ rfl
    have g2 := hx 2 _ rfl
    have g3 := hx 3 _ rfl
    have g4 := hx 4 _ rfl
    have g5 := hx 5 _ rfl
    have g6 := hx 6 _ rfl
    have g7 := hx 7 _ rfl
    have g8 := hx 8 _ rfl
    have g9 := hx 9 _ rfl
    have g10 := hx 10 _ rfl
    have g11 := hx 11 _ rfl
    simp [Value.cells, k3] at g0
    simp [Value.cells, kG] at g1
    simp [Value.cells, kM] at g2
    simp [Value.cells, k3] at g3
    simp [Value.cells, k3] at g4
    simp [Value.cells, k3] at g5
    simp [Value.cells, k3] at g6
    simp [Value.cells, k3] at g7
    simp [Value.cells, kE] at g8
    simp [Value.cells, k3] at g9
    simp [Value.cells, k4] at g10
    simp [Value.cells, k4] at g11
    obtain ⟨n0, e0, _, _⟩ := DataW.trod_int Try.underlying3 g0
    simp at e0
    subst e0
    obtain ⟨zs, m, _, _, _, hzl, hz⟩ := DataW.trod_struct Try.underlying23 g1
    match zs, hzl with
    | [z0, z1], _ =>
    have q0 := hz 0 _ rfl
    have q1 := hz 1 _ rfl
    simp [k3] at q0 q1
    obtain ⟨nn, en, _, _⟩ := DataW.trod_int Try.underlying3 q0
    obtain ⟨ns, es, _, _⟩ := DataW.trod_int Try.underlying3 q1
    simp at en es
    subst en es
    obtain ⟨ms, r2⟩ := rdMemS_of g2
    obtain ⟨am, cm, rfl⟩ := row_shape r2
    obtain ⟨n3, e3, _, _⟩ := DataW.trod_int Try.underlying3 g3
    simp at e3
    subst e3
    obtain ⟨n4, e4, _, _⟩ := DataW.trod_int Try.underlying3 g4
    simp at e4
    subst e4
    obtain ⟨n5, e5, _, _⟩ := DataW.trod_int Try.underlying3 g5
    simp at e5
    subst e5
    obtain ⟨n6, e6, _, _⟩ := DataW.trod_int Try.underlying3 g6
    simp at e6
    subst e6
    obtain ⟨n7, e7, _, _⟩ := DataW.trod_int Try.underlying3 g7
    simp at e7
    subst e7
    obtain ⟨ds, r8⟩ := rdWrS_of (E := 81) Try.underlying25 Try.underlying81 (by kernel_rfl) rfl rfl (by kernel_rfl) (by kernel_rfl) Try.underlying3 Try.underlying38 Try.underlying3 (by kernel_rfl) g8
    obtain ⟨ad, cd, rfl⟩ := row_shape r8
    obtain ⟨n9, e9, _, _⟩ := DataW.trod_int Try.underlying3 g9
    simp at e9
    subst e9
    obtain ⟨n10, e10, _⟩ := DataW.trod_bool Try.underlying4 g10
    simp at e10
    subst e10
    obtain ⟨n11, e11, _⟩ := DataW.trod_bool Try.underlying4 g11
    simp at e11
    subst e11
    exact ⟨⟨n0, nn, ns, n3, n4, n5, n6, n7, n9, n10, n11⟩, am, ad, cm, cd, ms, ds, rfl, r2, r8⟩

end
end Go.Proofs.Ytfimpohbpccjaaa

namespace Go.Proofs.Ytfimpohbpccjaaa.fnExactBare
open Go.ChangeShapes Go.WideShapes Go.ChangeAt Go.RowKit Go.Joins
open Go.ChangeMaps (open_string shut_string)
set_option linter.unusedVariables false

theorem own : ownKnob Try.prog.godebug = none := by kernel_rfl
theorem laidOut : laidOutB Try.prog = true := by kernel_rfl

set_option maxRecDepth 100000 in
theorem lifted (os : Os) (started : os.Started) (H : Type) (enc : TypeId × Value → H) :
    ReturnsInHanded {} Try.checked os 6 .any (Rows.fnExactBareSpec.pre6 enc Try.prog Try.f6 Rows.fnExactBareRow.domain false) (Rows.fnExactBareSpec.post enc Try.prog Try.f6 false true false false) := by
  refine returnsInHanded_of_change (C := Try.checked) own started (by kernel_rfl) Try.func6
    (ChangeSpec.witness6 (enc := enc) (C := Try.checked) false ⟨#[], #[.agg #[.int .i64 0, .int .i64 0, .int .i64 0, .slice none 0 0, .int .i64 0, .int .i64 0, .int .i64 0, .int .i64 0, .int .i64 0, .slice none 0 0, .int .i64 0, .bool false, .bool false]], []⟩ 8 (by kernel_rfl) (by kernel_rfl) (by kernel_rfl) (by kernel_rfl)) ?_
  intro W base args ds gs before hval0 hW hcnd _
  have hval : ∀ (j : Nat) t v, Try.f6.params[j]? = some t → args[j]? = some v → Value.okWide Try.prog W .any base t v := hval0
  have hW' := hW
  obtain ⟨p, q, hA0, hV, rfl, hfz, hnd⟩ := hW
  have hA : DataW.TrodAll enc Try.prog W 0 (fun _ => true) true Try.f6.params.toList args.toList ds p := hA0
  rw [Try.params6] at hA hval
  obtain ⟨v0, vs0, d0, ds0, p0, q0, hargs0, rfl, rfl, h0, r0⟩ := trodAll_cons hA
  obtain ⟨rfl, rfl, rfl⟩ := trodAll_nil r0
  obtain rfl : args = #[v0] := by cases args; simp_all
  obtain ⟨rfl, rfl⟩ := trodVars_none hV
  have k0 := h0
  have lt0 : ∀ x ∈ p0, x.block < W.heap.size := by obtain ⟨m, hm⟩ := k0; exact DataW.trod_lt m _ _ _ hm
  obtain ⟨x0, am0, ad0, cm0, cd0, ms0, ds0, rfl, g0m, g0d⟩ := open_arr (hval 0 27 v0 rfl rfl) h0
  clear hA0 hval0
  refine (fnExactBare_walk x0 am0 ad0 ms0.length cm0 ds0.length cd0 ms0 ds0 W g0m g0d).mono fun e W' ⟨he, bel⟩ => ?_
  subst he
  exact ⟨_, rfl, _, _, _, [], _, [], hW', trodAll_mk1 (shut_bool Try.underlying4 _), (trodAll_cons_mk (Below.trod laidOut (by kernel_rfl) (of_decide_eq_true (by kernel_rfl)) k0 bel lt0) trodAll_mk0), rfl, bel.frame _, fun h => by cases h⟩

theorem over : Rows.fnExactBareRow.holds Try.pinned (OpenSpec.ofChange Rows.fnExactBareSpec) :=
  OpenClaim.holds_of_wide 6 Try.f6 rfl rfl rfl rfl rfl rfl rfl ⟨rfl, rfl, rfl, rfl, rfl⟩ rfl rfl rfl rfl rfl (by kernel_rfl) Try.func6 (by kernel_rfl)
    (of_decide_eq_true (by kernel_rfl)) (by unfold Func.isWrapper; first | (rw [if_pos (by decide +kernel)]; kernel_rfl) | (rw [if_neg (by decide +kernel)]; exact ⟨rfl, rfl⟩))
    (fun os started H enc _ => lifted os started H enc)
end Go.Proofs.Ytfimpohbpccjaaa.fnExactBare

namespace Go.Proofs.Ytfimpohbpccjaaa
/-- The given statement. -/
theorem fnExactBare_holds : Rows.FnExactBareSaid := fnExactBare.over
#print axioms fnExactBare_holds
end Go.Proofs.Ytfimpohbpccjaaa

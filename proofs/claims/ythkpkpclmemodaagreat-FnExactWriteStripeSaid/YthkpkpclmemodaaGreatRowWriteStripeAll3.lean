/-
  The walk of the specification's l7Data: a stripe's words are written where they are to be. Conditions: the power goes within 1000 operations, or stays; every disk is right, and there are N; there is such a stripe; the words lie in memory apart from the array.
-/
import Derived.Test.YthkpkpclmemodaaGreatOrder
import Derived.Test.YthkpkpclmemodaaGreatWalkArr
import Derived.Test.YthkpkpclmemodaaGreatWalkMemOk
import Derived.Test.YthkpkpclmemodaaGreatWalkSecOk
import Derived.Test.YthkpkpclmemodaaGreatWalkDel
import Derived.Test.YthkpkpclmemodaaGreatWalkFlush
import Derived.Test.YthkpkpclmemodaaGreatWalkL2Has
import Derived.Test.YthkpkpclmemodaaGreatData
import Derived.Test.YthkpkpclmemodaaGreatBox
import Derived.Test.YthkpkpclmemodaaGreatWalkWriteSpec
import Derived.Test.YthkpkpclmemodaaGreatArr7
import Derived.Test.YthkpkpclmemodaaGreatWalkWriteSuper
import Derived.Test.YthkpkpclmemodaaGreatWalkMems
import Derived.Test.YthkpkpclmemodaaGreatWalkPutSuper
import Derived.Test.YthkpkpclmemodaaGreatWalkGeo
import Derived.Test.YthkpkpclmemodaaGreatKit
import Derived.Test.YthkpkpclmemodaaGreatRows
import Derived.Test.YthkpkpclmemodaaGreatWalkIn

/-
  Plain lemmas on a region that draws its order and only reads, operation by operation: one that is not wanted is passed by. No condition; nothing of the program is named here.
-/
namespace Go.Proofs.YthkpkpclmemodaaGreat
open Go.RowKit
variable {P : Program} {ops : Array Oper} {Q : Exit → Act → World → Prop} {S : World → Prop}

/-- Number i is taken first, and yields v. -/
theorem held_take {i : Nat} {oi : Oper} {v : Value} {fuel : Nat} {l : Array Bool} {a : Act} {w : World} {tl : List Oper} (hi : ops.toList.drop i = oi :: tl)
    (hs : Region.noSelect ops = true) (hf : Region.free .any ops l i = true) (hr : (Region.ready .any ops l).contains i = true)
    (hQ : ∀ c a w, Q (.panic c) (a.put oi.dst v) w → Q (.panic c) a w) (hw : Region.wanted oi (yielded ops a.tmps) = true) (hy : ∀ w, S w → (execOp a.eval oi).run P w = .ok (.value v) w) (hS : S w)
    (h : wpAnyH P .any ops Q S fuel (l.setIfInBounds i true) (a.put oi.dst v) w) : wpAnyH P .any ops Q S (fuel + 1) l a w :=
  wpAnyH_take (op_at hi) hs hf hr hQ (Or.inl ⟨hw, hy⟩) hS h
/-- Number i is not wanted. -/
theorem held_pass {i : Nat} {oi : Oper} {fuel : Nat} {l : Array Bool} {a : Act} {w : World} {tl : List Oper} (hi : ops.toList.drop i = oi :: tl)
    (hs : Region.noSelect ops = true) (hf : Region.free .any ops l i = true) (hr : (Region.ready .any ops l).contains i = true)
    (hQ : ∀ c a w, Q (.panic c) (a.put oi.dst undef) w → Q (.panic c) a w) (hw : Region.wanted oi (yielded ops a.tmps) = false) (hS : S w)
    (h : wpAnyH P .any ops Q S fuel (l.setIfInBounds i true) (a.put oi.dst undef) w) : wpAnyH P .any ops Q S (fuel + 1) l a w :=
  wpAnyH_take (op_at hi) hs hf hr hQ (Or.inr ⟨hw, rfl⟩) hS h
/-- One alone may come up, and it is wanted. -/
theorem held_one {i : Nat} {o : Oper} {fuel : Nat} {l : Array Bool} {a : Act} {w : World} {tl : List Oper} (hr : Region.ready .any ops l = [i]) (ho : ops.toList.drop i = o :: tl) (hw : Region.wanted o (yielded ops a.tmps) = true)
    (h : ∀ K' : Act → World → Prop, Shut (∀ a w, S w → (S w → wpAnyH P .any ops Q S fuel (l.setIfInBounds i true) a w) → K' a w) → Oper.wp P o a w K' Q) : wpAnyH P .any ops Q S (fuel + 1) l a w :=
  wpAnyH_ready hr (by simp) (AllReadyH.cons (op_at ho) (fun K' hK => by rw [if_pos hw]; exact h K' hK) AllReadyH.nil)
theorem held_t (i : Nat) {oi : Oper} {v : Value} {fuel : Nat} {l : Array Bool} {a a' : Act} {w : World} {tl : List Oper} (hS : S w) (h : wpAnyH P .any ops Q S fuel (l.setIfInBounds i true) a' w) (hi : ops.toList.drop i = oi :: tl := by rfl)
    (hs : Region.noSelect ops = true := by kernel_rfl) (hf : Region.free .any ops l i = true := by kernel_rfl) (hr : (Region.ready .any ops l).contains i = true := by kernel_rfl)
    (hQ : ∀ c a w, Q (.panic c) (a.put oi.dst v) w → Q (.panic c) a w := by exact fun _ _ _ h => h) (hw : Region.wanted oi (yielded ops a.tmps) = true := by kernel_rfl)
    (hy : ∀ w, S w → (execOp a.eval oi).run P w = .ok (.value v) w := by (intro w hSw; (try dsimp only at hSw); go_split_ands; go_simp; first | done | with_reducible rfl))
    (ha : a.put oi.dst v = a' := by (simp only [Act.put, List.setIfInBounds_toArray, List.set_cons_zero, List.set_cons_succ]; first | done | rfl)) : wpAnyH P .any ops Q S (fuel + 1) l a w := held_take hi hs hf hr hQ hw hy hS (ha ▸ h)
/-- One alone may come up, and it is not wanted. -/
theorem held_none {i : Nat} {o : Oper} {fuel : Nat} {l : Array Bool} {a : Act} {w : World} {tl : List Oper} (hr : Region.ready .any ops l = [i]) (ho : ops.toList.drop i = o :: tl) (hw : Region.wanted o (yielded ops a.tmps) = false) (hS : S w)
    (h : wpAnyH P .any ops Q S fuel (l.setIfInBounds i true) (a.put o.dst undef) w) : wpAnyH P .any ops Q S (fuel + 1) l a w :=
  wpAnyH_ready hr (by simp) (AllReadyH.cons (op_at ho) (fun K' hK => by rw [if_neg (by rw [hw]; simp)]; exact hK _ _ hS (fun _ => h)) AllReadyH.nil)

theorem Upto.t {k : Nat} (i : Nat) {oi : Oper} {v : Value} {n : Nat} {l : Array Bool} {a a' : Act} {w : World} {tl : List Oper} (hS : S w) (h : Upto P ops Q S k n (l.setIfInBounds i true) a' w) (hi : ops.toList.drop i = oi :: tl := by rfl)
    (hki : ((ops[k]?).map fun o => o.after.any fun e => Region.binds .any e && e.on == i) = some true := by kernel_rfl) (hs : Region.noSelect ops = true := by kernel_rfl) (hf : Region.free .any ops l i = true := by kernel_rfl) (hr : (Region.ready .any ops l).contains i = true := by kernel_rfl)
    (hQ : ∀ c a w, Q (.panic c) (a.put oi.dst v) w → Q (.panic c) a w := by exact fun _ _ _ h => h) (hw : Region.wanted oi (yielded ops a.tmps) = true := by rfl) (hy : ∀ w, S w → (execOp a.eval oi).run P w = .ok (.value v) w := by (intro w hSw; (try dsimp only at hSw); go_split_ands; go_simp; first | done | with_reducible rfl)) (ha : a.put oi.dst v = a' := by (simp only [Act.put, List.setIfInBounds_toArray, List.set_cons_zero, List.set_cons_succ]; first | done | rfl)) : Upto P ops Q S k (n + 1) l a w :=
  Upto.take hi hki hs hf hr hQ (Or.inl ⟨hw, hy⟩) hS (ha ▸ h)
theorem held_p (i : Nat) {oi : Oper} {fuel : Nat} {l : Array Bool} {a a' : Act} {w : World} {tl : List Oper} (hS : S w) (h : wpAnyH P .any ops Q S fuel (l.setIfInBounds i true) a' w) (hi : ops.toList.drop i = oi :: tl := by rfl)
    (hs : Region.noSelect ops = true := by kernel_rfl) (hf : Region.free .any ops l i = true := by kernel_rfl) (hr : (Region.ready .any ops l).contains i = true := by kernel_rfl)
    (hQ : ∀ c a w, Q (.panic c) (a.put oi.dst undef) w → Q (.panic c) a w := by exact fun _ _ _ h => h) (hw : Region.wanted oi (yielded ops a.tmps) = false := by kernel_rfl)
    (ha : a.put oi.dst undef = a' := by (simp only [Act.put, List.setIfInBounds_toArray, List.set_cons_zero, List.set_cons_succ]; first | done | rfl)) : wpAnyH P .any ops Q S (fuel + 1) l a w := held_pass hi hs hf hr hQ hw hS (ha ▸ h)
end Go.Proofs.YthkpkpclmemodaaGreat

/-
  What it is that an array is right (arrB), and the walks of the specification's look for it: disk by disk, entry by entry. Condition: it weighs at most 2097152.
-/
namespace Go.Proofs.YthkpkpclmemodaaGreat
open Go.RowKit

/-- Every element of a list, with its place. -/
def allIx {α : Type} (p : Nat → α → Bool) (l : List α) : Bool := (List.range l.length).all fun i => (l[i]?.map (p i)).getD true
theorem allIx_iff {α : Type} {p : Nat → α → Bool} {l : List α} : allIx p l = true ↔ ∀ (i : Nat) (x : α), l[i]? = some x → p i x = true := by
  unfold allIx
  rw [List.all_eq_true]
  constructor
  · intro h i x hx
    have := h i (by rw [List.mem_range]; exact (List.getElem?_eq_some_iff.1 hx).1)
    rw [hx] at this
    simpa using this
  · intro h i hi
    cases hx : l[i]? with
    | none => rfl
    | some x => simpa using h i x hx
theorem allIx_no {α : Type} {p : Nat → α → Bool} {l : List α} {i : Nat} {x : α} (hx : l[i]? = some x) (h : p i x = false) : allIx p l = false := by
  cases hb : allIx p l with
  | false => rfl
  | true => rw [allIx_iff.1 hb i x hx] at h; cases h

def memAt (x : ArrN) (i : Nat) (m : MemD) : Bool := memB m.1 m.2.1 m.2.2.2 && (decide ((m.1.length : Int) = 6 + x.s) && (!m.2.2.1 || (decide ((i : Int) = x.lost) || x.broken)))
def memsB (x : ArrN) (ms : List MemD) : Bool := allIx (memAt x) ms && decide ((ms.length : Int) = x.n)
def entAt (x : ArrN) (ds : List (Int × List Int)) (i : Nat) (e : Int × List Int) : Bool := inB e.1 0 (x.s - 1) && (decide ((e.2.length : Int) = x.n - 1) && (allW e.2 && (decide (i = 0) || decide ((ds.getD (i - 1) (0, [])).1 < e.1))))
def entsB (x : ArrN) (ds : List (Int × List Int)) : Bool := allIx (entAt x ds) ds
def lostB6 (x : ArrN) : Bool := inB x.lost (-1) (x.n - 1) && (inB x.built 0 x.s && (!decide (x.lost = -1) || decide (x.built = 0)))
def seqB6 (x : ArrN) : Bool := inB x.tail 0 60000 && (inB x.seq x.tail 60000 && (decide (x.seq ≤ x.tail + 4) && (inB x.gen 0 60000 && inB x.fuse (-1) 1000)))
def arrB (x : ArrN) (ms : List MemD) (ds : List (Int × List Int)) : Bool := geoB x.n x.s && (inB x.id 1 60000 && (memsB x ms && (entsB x ds && (lostB6 x && seqB6 x))))

theorem l6Secs_any (w : World) (n s : Int) (hs : 1 ≤ s ∧ s ≤ 8) : Calls Tryz.prog 90 #[.agg #[.int .i64 n, .int .i64 s]] w fun e w' => e = .returned (.int .i64 (6 + s)) ∧ Below w.heap.size w w' := by
  have hA := new_below w (.cells #[.int .i64 n, .int .i64 s] 29)
  obtain ⟨k0, k1⟩ := (Gbox.new w 29 n s).cells
  have hw : IntKind.i64.wrap (6 + s) = 6 + s := IntWalk.i64_in _ (by omega)
  go_enter Tryz.func90, Tryz.ntmps90
  go_wp2
  go_ret
  exact ⟨rfl, hA⟩

set_option linter.unusedSimpArgs false in
set_option maxHeartbeats 3200000 in
theorem l6Mems_any (w : World) (E F : TypeId) (x : ArrN) (am ad : Option Addr) (nm cm nd cd : Nat) (ms : List MemD) (h0 : (tMemS E F).Rd w [.slice am nm cm] ms) (hw : wtMemS ms ≤ 2097152) (hg : geoB x.n x.s = true) :
    Calls Tryz.prog 51 #[.agg #[.int .i64 x.id, .int .i64 x.n, .int .i64 x.s, .slice am nm cm, .int .i64 x.lost, .int .i64 x.built, .int .i64 x.seq, .int .i64 x.tail, .int .i64 x.gen, .slice ad nd cd, .int .i64 x.fuse, .bool x.down, .bool x.broken]] w fun e w' => e = .returned (.bool (memsB x ms)) ∧ Below w.heap.size w w' := by
  obtain ⟨hl, hc, hm⟩ := row_length h0
  obtain ⟨g1, g2, g3, g4⟩ := geoB_iff.1 hg
  have hA := new_below w (.cells #[.int .i64 x.id, .int .i64 x.n, .int .i64 x.s, .slice am nm cm, .int .i64 x.lost, .int .i64 x.built, .int .i64 x.seq, .int .i64 x.tail, .int .i64 x.gen, .slice ad nd cd, .int .i64 x.fuse, .bool x.down, .bool x.broken] 33)
  have X := Box.new w 33 #[.int .i64 x.id, .int .i64 x.n, .int .i64 x.s, .slice am nm cm, .int .i64 x.lost, .int .i64 x.built, .int .i64 x.seq, .int .i64 x.tail, .int .i64 x.gen, .slice ad nd cd, .int .i64 x.fuse, .bool x.down, .bool x.broken]
  have zA := X.lt
  have hnm : nm ≤ 2097152 := by unfold wtMemS at hw; omega
  have h1 := h0.below hA
  go_enter Tryz.func51, Tryz.ntmps51
  go_wp2
  generalize w.alloc (.cells #[.int .i64 x.id, .int .i64 x.n, .int .i64 x.s, .slice am nm cm, .int .i64 x.lost, .int .i64 x.built, .int .i64 x.seq, .int .i64 x.tail, .int .i64 x.gen, .slice ad nd cd, .int .i64 x.fuse, .bool x.down, .bool x.broken] 33) = W at hA X zA h1 ⊢
  go_loopw [3] (fun i wr => ∃ j : Nat, j ≤ nm ∧ i = .int .i64 j ∧ (∀ (q : Nat) (m : MemD), q < j → ms[q]? = some m → memAt x q m = true) ∧ Below W.heap.size W wr) (fun i _ => nm - (intOf i).toNat)
  case atStart => exact ⟨0, Nat.zero_le _, rfl, fun q m hq => by omega, Below.refl _ _⟩
  case round =>
    obtain ⟨j, hj, rfl, hall, hb⟩ := hrel
    have Xr := X.below hb zA
    obtain ⟨k0, k1, k2, k3, k4, k5, k6, k7, k8, k9, k10, k11, k12⟩ := Xr.cells13
    by_cases hjn : j < nm
    · rcases quads_at rfl h1 with h0' | ⟨b, off, rfl, hbl, hcs⟩
      · omega
      have hdj : ms[j]? = some (ms[j]'(by omega)) := List.getElem?_eq_getElem (by omega)
      generalize ms[j]'(by omega) = m at hdj
      obtain ⟨v0, v1, v2, v3, hv0, hv1, hv2, hv3, hrv⟩ := hcs j m hdj
      obtain ⟨a0, c0, a1, c1, a3, c3, ss, cs, f, bs, rfl, rfl, rfl, rfl, rfl, r0, r1, r3⟩ := mem_at hrv
      have u0 := (hb.cell (p := ⟨b, off + j * 4, none⟩) hbl).trans hv0
      have u1 := (hb.cell (p := ⟨b, off + j * 4 + 1, none⟩) hbl).trans hv1
      have u2 := (hb.cell (p := ⟨b, off + j * 4 + 2, none⟩) hbl).trans hv2
      have u3 := (hb.cell (p := ⟨b, off + j * 4 + 3, none⟩) hbl).trans hv3
      have i1 : (0 : Int) ≤ (j : Int) := by omega
      have i2 : (j : Int) < (nm : Int) := by omega
      have hwm := Nat.le_trans (inner_leM hdj) hw
      have HDJ := hidden hdj
      clear hcs hv0 hv1 hv2 hv3 hrv hdj
      have b1 := new_below wr (.cells #[.slice a0 ss.length c0, .slice a1 cs.length c1, .bool f, .slice a3 bs.length c3] 73)
      have Y1 := Box.new wr 73 #[.slice a0 ss.length c0, .slice a1 cs.length c1, .bool f, .slice a3 bs.length c3]
      have X1 := Xr.below b1 Xr.lt
      have R0 := (r0.below hb).below b1
      have R1 := (r1.below hb).below b1
      have R3 := (r3.below hb).below b1
      have B1 := hb.trans (b1.mono hb.size)
      clear r0 r1 r3 b1
      obtain ⟨y0, y1, y2, y3⟩ := Y1.cells4
      obtain ⟨e0, e1, e2, e3, e4, e5, e6, e7, e8, e9, e10, e11, e12⟩ := X1.cells13
      have zy := Y1.lt
      have zx := X1.lt
      clear e0 e3 e5 e6 e7 e8 e9 e10 e11
      cases hM : memB ss cs bs
      · skip
        go_wp2_with fail
        generalize wr.alloc (.cells #[.slice a0 ss.length c0, .slice a1 cs.length c1, .bool f, .slice a3 bs.length c3] 73) = w1 at X1 Y1 R0 R1 R3 B1 y0 y1 y2 y3 e1 e2 e4 e12 zy zx ⊢
        refine wp_region_held_drew (S := fun w' => w'.cell? ⟨wr.heap.size, 0, none⟩ = some (.slice a0 ss.length c0) ∧ w'.cell? ⟨wr.heap.size, 1, none⟩ = some (.slice a1 cs.length c1) ∧ w'.cell? ⟨wr.heap.size, 2, none⟩ = some (.bool f) ∧ w'.cell? ⟨wr.heap.size, 3, none⟩ = some (.slice a3 bs.length c3) ∧ w'.cell? ⟨w.heap.size, 1, none⟩ = some (.int .i64 x.n) ∧ w'.cell? ⟨w.heap.size, 2, none⟩ = some (.int .i64 x.s) ∧ w'.cell? ⟨w.heap.size, 4, none⟩ = some (.int .i64 x.lost) ∧ w'.cell? ⟨w.heap.size, 12, none⟩ = some (.bool x.broken)) (by kernel_rfl) ?_ (fun hHeld => ?_)
        · exact ⟨y0, y1, y2, y3, e1, e2, e4, e12⟩
        refine held_t 0 hHeld ?_
        refine held_one (i := 1) (by kernel_rfl) rfl (by kernel_rfl) (fun K hK => ?_)
        go_simp
        refine (specMemOk_any _ E _ _ _ _ _ _ _ _ _ ss cs f bs R0.drew R1.drew R3.drew hwm).mono ?_
        rintro e w2 ⟨rfl, b2⟩
        rw [hM]
        have b2' : Below w1.heap.size w1 w2 := (Below.refl w1.heap.size w1).drew.trans b2
        clear b2
        go_wp2_with fail
        clear hHeld
        refine hK.out _ _ ?_ (fun hHeld => ?_)
        · exact ⟨(b2'.cell (p := ⟨wr.heap.size, 0, none⟩) zy).trans y0, (b2'.cell (p := ⟨wr.heap.size, 1, none⟩) zy).trans y1, (b2'.cell (p := ⟨wr.heap.size, 2, none⟩) zy).trans y2, (b2'.cell (p := ⟨wr.heap.size, 3, none⟩) zy).trans y3, (b2'.cell (p := ⟨w.heap.size, 1, none⟩) zx).trans e1, (b2'.cell (p := ⟨w.heap.size, 2, none⟩) zx).trans e2, (b2'.cell (p := ⟨w.heap.size, 4, none⟩) zx).trans e4, (b2'.cell (p := ⟨w.heap.size, 12, none⟩) zx).trans e12⟩
        clear hK K
        refine held_t 2 hHeld ?_
        refine held_t 3 hHeld ?_
        refine held_p 4 hHeld ?_
        refine held_p 5 hHeld ?_
        refine held_p 6 hHeld ?_
        refine held_p 7 hHeld ?_
        refine held_p 8 hHeld ?_
        refine held_none (i := 9) (by kernel_rfl) rfl (by kernel_rfl) hHeld ?_
        simp only [Act.put, List.setIfInBounds_toArray, List.set_cons_zero, List.set_cons_succ]
        refine held_p 10 hHeld ?_
        refine held_t 11 hHeld ?_
        refine held_t 12 hHeld ?_
        refine held_p 13 hHeld ?_
        refine held_p 14 hHeld ?_
        refine held_p 15 hHeld ?_
        refine held_p 16 hHeld ?_
        refine held_p 17 hHeld ?_
        refine held_p 18 hHeld ?_
        refine held_p 19 hHeld ?_
        refine held_p 20 hHeld ?_
        refine held_p 21 hHeld ?_
        refine held_p 22 hHeld ?_
        refine held_p 23 hHeld ?_
        refine held_p 24 hHeld ?_
        refine held_p 25 hHeld ?_
        refine held_t 26 hHeld ?_
        refine wpAnyH_done (by kernel_rfl) ?_ _
        clear hHeld
        have HB := hidden (hA.trans ((B1.trans (b2'.mono B1.size)).mono hA.size))
        go_wp2
        go_ret
        exact ⟨ret_bool (by rw [show memsB x ms = false from (by unfold memsB; rw [allIx_no HDJ.out (by unfold memAt; simp [hM])]; rfl)]), HB.out⟩
      · by_cases hS : (ss.length : Int) = 6 + x.s
        · have hS1 : ((ss.length : Int) == 6 + x.s) = true := by simpa using hS
          have hS2 : ((ss.length : Int) != 6 + x.s) = false := by simpa using hS
          have HS := hidden hS
          clear hS
          cases f
          · skip
            go_wp2_with fail
            generalize wr.alloc (.cells #[.slice a0 ss.length c0, .slice a1 cs.length c1, .bool false, .slice a3 bs.length c3] 73) = w1 at X1 Y1 R0 R1 R3 B1 y0 y1 y2 y3 e1 e2 e4 e12 zy zx ⊢
            refine wp_region_held_drew (S := fun w' => w'.cell? ⟨wr.heap.size, 0, none⟩ = some (.slice a0 ss.length c0) ∧ w'.cell? ⟨wr.heap.size, 1, none⟩ = some (.slice a1 cs.length c1) ∧ w'.cell? ⟨wr.heap.size, 2, none⟩ = some (.bool false) ∧ w'.cell? ⟨wr.heap.size, 3, none⟩ = some (.slice a3 bs.length c3) ∧ w'.cell? ⟨w.heap.size, 1, none⟩ = some (.int .i64 x.n) ∧ w'.cell? ⟨w.heap.size, 2, none⟩ = some (.int .i64 x.s) ∧ w'.cell? ⟨w.heap.size, 4, none⟩ = some (.int .i64 x.lost) ∧ w'.cell? ⟨w.heap.size, 12, none⟩ = some (.bool x.broken)) (by kernel_rfl) ?_ (fun hHeld => ?_)
            · exact ⟨y0, y1, y2, y3, e1, e2, e4, e12⟩
            refine held_t 0 hHeld ?_
            refine held_one (i := 1) (by kernel_rfl) rfl (by kernel_rfl) (fun K hK => ?_)
            go_simp
            refine (specMemOk_any _ E _ _ _ _ _ _ _ _ _ ss cs false bs R0.drew R1.drew R3.drew hwm).mono ?_
            rintro e w2 ⟨rfl, b2⟩
            rw [hM]
            have b2' : Below w1.heap.size w1 w2 := (Below.refl w1.heap.size w1).drew.trans b2
            clear b2
            go_wp2_with fail
            clear hHeld
            refine hK.out _ _ ?_ (fun hHeld => ?_)
            · exact ⟨(b2'.cell (p := ⟨wr.heap.size, 0, none⟩) zy).trans y0, (b2'.cell (p := ⟨wr.heap.size, 1, none⟩) zy).trans y1, (b2'.cell (p := ⟨wr.heap.size, 2, none⟩) zy).trans y2, (b2'.cell (p := ⟨wr.heap.size, 3, none⟩) zy).trans y3, (b2'.cell (p := ⟨w.heap.size, 1, none⟩) zx).trans e1, (b2'.cell (p := ⟨w.heap.size, 2, none⟩) zx).trans e2, (b2'.cell (p := ⟨w.heap.size, 4, none⟩) zx).trans e4, (b2'.cell (p := ⟨w.heap.size, 12, none⟩) zx).trans e12⟩
            clear hK K
            refine held_t 2 hHeld ?_
            refine held_t 3 hHeld ?_
            refine held_t 4 hHeld ?_
            refine held_t 5 hHeld ?_
            refine held_t 6 hHeld ?_
            refine held_t 7 hHeld ?_
            refine held_t 8 hHeld ?_
            refine held_one (i := 9) (by kernel_rfl) rfl (by kernel_rfl) (fun K hK => ?_)
            go_simp
            refine (l6Secs_any _ x.n x.s ⟨g3, g4⟩).mono ?_
            rintro e w3 ⟨rfl, b3⟩
            have b3' : Below w1.heap.size w1 w3 := Below.andThen b2' b3
            clear b3
            go_wp2_with fail
            clear hHeld
            refine hK.out _ _ ?_ (fun hHeld => ?_)
            · exact ⟨(b3'.cell (p := ⟨wr.heap.size, 0, none⟩) zy).trans y0, (b3'.cell (p := ⟨wr.heap.size, 1, none⟩) zy).trans y1, (b3'.cell (p := ⟨wr.heap.size, 2, none⟩) zy).trans y2, (b3'.cell (p := ⟨wr.heap.size, 3, none⟩) zy).trans y3, (b3'.cell (p := ⟨w.heap.size, 1, none⟩) zx).trans e1, (b3'.cell (p := ⟨w.heap.size, 2, none⟩) zx).trans e2, (b3'.cell (p := ⟨w.heap.size, 4, none⟩) zx).trans e4, (b3'.cell (p := ⟨w.heap.size, 12, none⟩) zx).trans e12⟩
            clear hK K
            refine held_t 10 hHeld ?_
            refine held_t 11 hHeld ?_
            refine held_t 12 hHeld ?_
            refine held_t 13 hHeld ?_
            refine held_t 14 hHeld ?_
            refine held_t 15 hHeld ?_
            refine held_p 16 hHeld ?_
            refine held_p 17 hHeld ?_
            refine held_p 18 hHeld ?_
            refine held_p 19 hHeld ?_
            refine held_t 20 hHeld ?_
            refine held_t 21 hHeld ?_
            refine held_p 22 hHeld ?_
            refine held_p 23 hHeld ?_
            refine held_p 24 hHeld ?_
            refine held_t 25 hHeld ?_
            refine held_t 26 hHeld ?_
            refine wpAnyH_done (by kernel_rfl) ?_ _
            clear hHeld
            have HB := hidden (B1.trans (b3'.mono B1.size))
            have hat : memAt x j (ss, cs, false, bs) = true := (by unfold memAt; simp [hM, HS.out])
            go_wp2
            go_roundw
            case rel => exact ⟨j + 1, by omega, by go_num, fun q m hq hm' => by
                rcases Nat.lt_or_ge q j with h | h
                · exact hall q m h hm'
                · obtain rfl : q = j := by omega
                  rw [HDJ.out] at hm'
                  cases hm'
                  exact hat, HB.out⟩
            case measure => simp [intOf]; omega
          · by_cases hL : (j : Int) = x.lost
            · have hL1 : ((j : Int) == x.lost) = true := by simpa using hL
              have hL2 : ((j : Int) != x.lost) = false := by simpa using hL
              have HL := hidden hL
              clear hL
              go_wp2_with fail
              generalize wr.alloc (.cells #[.slice a0 ss.length c0, .slice a1 cs.length c1, .bool true, .slice a3 bs.length c3] 73) = w1 at X1 Y1 R0 R1 R3 B1 y0 y1 y2 y3 e1 e2 e4 e12 zy zx ⊢
              refine wp_region_held_drew (S := fun w' => w'.cell? ⟨wr.heap.size, 0, none⟩ = some (.slice a0 ss.length c0) ∧ w'.cell? ⟨wr.heap.size, 1, none⟩ = some (.slice a1 cs.length c1) ∧ w'.cell? ⟨wr.heap.size, 2, none⟩ = some (.bool true) ∧ w'.cell? ⟨wr.heap.size, 3, none⟩ = some (.slice a3 bs.length c3) ∧ w'.cell? ⟨w.heap.size, 1, none⟩ = some (.int .i64 x.n) ∧ w'.cell? ⟨w.heap.size, 2, none⟩ = some (.int .i64 x.s) ∧ w'.cell? ⟨w.heap.size, 4, none⟩ = some (.int .i64 x.lost) ∧ w'.cell? ⟨w.heap.size, 12, none⟩ = some (.bool x.broken)) (by kernel_rfl) ?_ (fun hHeld => ?_)
              · exact ⟨y0, y1, y2, y3, e1, e2, e4, e12⟩
              refine held_t 0 hHeld ?_
              refine held_one (i := 1) (by kernel_rfl) rfl (by kernel_rfl) (fun K hK => ?_)
              go_simp
              refine (specMemOk_any _ E _ _ _ _ _ _ _ _ _ ss cs true bs R0.drew R1.drew R3.drew hwm).mono ?_
              rintro e w2 ⟨rfl, b2⟩
              rw [hM]
              have b2' : Below w1.heap.size w1 w2 := (Below.refl w1.heap.size w1).drew.trans b2
              clear b2
              go_wp2_with fail
              clear hHeld
              refine hK.out _ _ ?_ (fun hHeld => ?_)
              · exact ⟨(b2'.cell (p := ⟨wr.heap.size, 0, none⟩) zy).trans y0, (b2'.cell (p := ⟨wr.heap.size, 1, none⟩) zy).trans y1, (b2'.cell (p := ⟨wr.heap.size, 2, none⟩) zy).trans y2, (b2'.cell (p := ⟨wr.heap.size, 3, none⟩) zy).trans y3, (b2'.cell (p := ⟨w.heap.size, 1, none⟩) zx).trans e1, (b2'.cell (p := ⟨w.heap.size, 2, none⟩) zx).trans e2, (b2'.cell (p := ⟨w.heap.size, 4, none⟩) zx).trans e4, (b2'.cell (p := ⟨w.heap.size, 12, none⟩) zx).trans e12⟩
              clear hK K
              refine held_t 2 hHeld ?_
              refine held_t 3 hHeld ?_
              refine held_t 4 hHeld ?_
              refine held_t 5 hHeld ?_
              refine held_t 6 hHeld ?_
              refine held_t 7 hHeld ?_
              refine held_t 8 hHeld ?_
              refine held_one (i := 9) (by kernel_rfl) rfl (by kernel_rfl) (fun K hK => ?_)
              go_simp
              refine (l6Secs_any _ x.n x.s ⟨g3, g4⟩).mono ?_
              rintro e w3 ⟨rfl, b3⟩
              have b3' : Below w1.heap.size w1 w3 := Below.andThen b2' b3
              clear b3
              go_wp2_with fail
              clear hHeld
              refine hK.out _ _ ?_ (fun hHeld => ?_)
              · exact ⟨(b3'.cell (p := ⟨wr.heap.size, 0, none⟩) zy).trans y0, (b3'.cell (p := ⟨wr.heap.size, 1, none⟩) zy).trans y1, (b3'.cell (p := ⟨wr.heap.size, 2, none⟩) zy).trans y2, (b3'.cell (p := ⟨wr.heap.size, 3, none⟩) zy).trans y3, (b3'.cell (p := ⟨w.heap.size, 1, none⟩) zx).trans e1, (b3'.cell (p := ⟨w.heap.size, 2, none⟩) zx).trans e2, (b3'.cell (p := ⟨w.heap.size, 4, none⟩) zx).trans e4, (b3'.cell (p := ⟨w.heap.size, 12, none⟩) zx).trans e12⟩
              clear hK K
              refine held_t 10 hHeld ?_
              refine held_t 11 hHeld ?_
              refine held_t 12 hHeld ?_
              refine held_t 13 hHeld ?_
              refine held_t 14 hHeld ?_
              refine held_t 15 hHeld ?_
              refine held_t 16 hHeld ?_
              refine held_t 17 hHeld ?_
              refine held_t 18 hHeld ?_
              refine held_t 19 hHeld ?_
              refine held_t 20 hHeld ?_
              refine held_t 21 hHeld ?_
              refine held_p 22 hHeld ?_
              refine held_p 23 hHeld ?_
              refine held_p 24 hHeld ?_
              refine held_t 25 hHeld ?_
              refine held_t 26 hHeld ?_
              refine wpAnyH_done (by kernel_rfl) ?_ _
              clear hHeld
              have HB := hidden (B1.trans (b3'.mono B1.size))
              have hat : memAt x j (ss, cs, true, bs) = true := (by unfold memAt; simp [hM, HS.out, HL.out])
              go_wp2
              go_roundw
              case rel => exact ⟨j + 1, by omega, by go_num, fun q m hq hm' => by
                  rcases Nat.lt_or_ge q j with h | h
                  · exact hall q m h hm'
                  · obtain rfl : q = j := by omega
                    rw [HDJ.out] at hm'
                    cases hm'
                    exact hat, HB.out⟩
              case measure => simp [intOf]; omega
            · have hL1 : ((j : Int) == x.lost) = false := by simpa using hL
              have hL2 : ((j : Int) != x.lost) = true := by simpa using hL
              have HL := hidden hL
              clear hL
              cases hBr : x.broken
              · rw [hBr] at e12
                go_wp2_with fail
                generalize wr.alloc (.cells #[.slice a0 ss.length c0, .slice a1 cs.length c1, .bool true, .slice a3 bs.length c3] 73) = w1 at X1 Y1 R0 R1 R3 B1 y0 y1 y2 y3 e1 e2 e4 e12 zy zx ⊢
                refine wp_region_held_drew (S := fun w' => w'.cell? ⟨wr.heap.size, 0, none⟩ = some (.slice a0 ss.length c0) ∧ w'.cell? ⟨wr.heap.size, 1, none⟩ = some (.slice a1 cs.length c1) ∧ w'.cell? ⟨wr.heap.size, 2, none⟩ = some (.bool true) ∧ w'.cell? ⟨wr.heap.size, 3, none⟩ = some (.slice a3 bs.length c3) ∧ w'.cell? ⟨w.heap.size, 1, none⟩ = some (.int .i64 x.n) ∧ w'.cell? ⟨w.heap.size, 2, none⟩ = some (.int .i64 x.s) ∧ w'.cell? ⟨w.heap.size, 4, none⟩ = some (.int .i64 x.lost) ∧ w'.cell? ⟨w.heap.size, 12, none⟩ = some (.bool false)) (by kernel_rfl) ?_ (fun hHeld => ?_)
                · exact ⟨y0, y1, y2, y3, e1, e2, e4, e12⟩
                refine held_t 0 hHeld ?_
                refine held_one (i := 1) (by kernel_rfl) rfl (by kernel_rfl) (fun K hK => ?_)
                go_simp
                refine (specMemOk_any _ E _ _ _ _ _ _ _ _ _ ss cs true bs R0.drew R1.drew R3.drew hwm).mono ?_
                rintro e w2 ⟨rfl, b2⟩
                rw [hM]
                have b2' : Below w1.heap.size w1 w2 := (Below.refl w1.heap.size w1).drew.trans b2
                clear b2
                go_wp2_with fail
                clear hHeld
                refine hK.out _ _ ?_ (fun hHeld => ?_)
                · exact ⟨(b2'.cell (p := ⟨wr.heap.size, 0, none⟩) zy).trans y0, (b2'.cell (p := ⟨wr.heap.size, 1, none⟩) zy).trans y1, (b2'.cell (p := ⟨wr.heap.size, 2, none⟩) zy).trans y2, (b2'.cell (p := ⟨wr.heap.size, 3, none⟩) zy).trans y3, (b2'.cell (p := ⟨w.heap.size, 1, none⟩) zx).trans e1, (b2'.cell (p := ⟨w.heap.size, 2, none⟩) zx).trans e2, (b2'.cell (p := ⟨w.heap.size, 4, none⟩) zx).trans e4, (b2'.cell (p := ⟨w.heap.size, 12, none⟩) zx).trans e12⟩
                clear hK K
                refine held_t 2 hHeld ?_
                refine held_t 3 hHeld ?_
                refine held_t 4 hHeld ?_
                refine held_t 5 hHeld ?_
                refine held_t 6 hHeld ?_
                refine held_t 7 hHeld ?_
                refine held_t 8 hHeld ?_
                refine held_one (i := 9) (by kernel_rfl) rfl (by kernel_rfl) (fun K hK => ?_)
                go_simp
                refine (l6Secs_any _ x.n x.s ⟨g3, g4⟩).mono ?_
                rintro e w3 ⟨rfl, b3⟩
                have b3' : Below w1.heap.size w1 w3 := Below.andThen b2' b3
                clear b3
                go_wp2_with fail
                clear hHeld
                refine hK.out _ _ ?_ (fun hHeld => ?_)
                · exact ⟨(b3'.cell (p := ⟨wr.heap.size, 0, none⟩) zy).trans y0, (b3'.cell (p := ⟨wr.heap.size, 1, none⟩) zy).trans y1, (b3'.cell (p := ⟨wr.heap.size, 2, none⟩) zy).trans y2, (b3'.cell (p := ⟨wr.heap.size, 3, none⟩) zy).trans y3, (b3'.cell (p := ⟨w.heap.size, 1, none⟩) zx).trans e1, (b3'.cell (p := ⟨w.heap.size, 2, none⟩) zx).trans e2, (b3'.cell (p := ⟨w.heap.size, 4, none⟩) zx).trans e4, (b3'.cell (p := ⟨w.heap.size, 12, none⟩) zx).trans e12⟩
                clear hK K
                refine held_t 10 hHeld ?_
                refine held_t 11 hHeld ?_
                refine held_t 12 hHeld ?_
                refine held_t 13 hHeld ?_
                refine held_t 14 hHeld ?_
                refine held_t 15 hHeld ?_
                refine held_t 16 hHeld ?_
                refine held_t 17 hHeld ?_
                refine held_t 18 hHeld ?_
                refine held_t 19 hHeld ?_
                refine held_t 20 hHeld ?_
                refine held_t 21 hHeld ?_
                refine held_t 22 hHeld ?_
                refine held_t 23 hHeld ?_
                refine held_t 24 hHeld ?_
                refine held_t 25 hHeld ?_
                refine held_t 26 hHeld ?_
                refine wpAnyH_done (by kernel_rfl) ?_ _
                clear hHeld
                have HB := hidden (hA.trans ((B1.trans (b3'.mono B1.size)).mono hA.size))
                go_wp2
                go_ret
                exact ⟨ret_bool (by rw [show memsB x ms = false from (by unfold memsB; rw [allIx_no HDJ.out (by unfold memAt; simp [HL.out, hBr])]; rfl)]), HB.out⟩
              · rw [hBr] at e12
                go_wp2_with fail
                generalize wr.alloc (.cells #[.slice a0 ss.length c0, .slice a1 cs.length c1, .bool true, .slice a3 bs.length c3] 73) = w1 at X1 Y1 R0 R1 R3 B1 y0 y1 y2 y3 e1 e2 e4 e12 zy zx ⊢
                refine wp_region_held_drew (S := fun w' => w'.cell? ⟨wr.heap.size, 0, none⟩ = some (.slice a0 ss.length c0) ∧ w'.cell? ⟨wr.heap.size, 1, none⟩ = some (.slice a1 cs.length c1) ∧ w'.cell? ⟨wr.heap.size, 2, none⟩ = some (.bool true) ∧ w'.cell? ⟨wr.heap.size, 3, none⟩ = some (.slice a3 bs.length c3) ∧ w'.cell? ⟨w.heap.size, 1, none⟩ = some (.int .i64 x.n) ∧ w'.cell? ⟨w.heap.size, 2, none⟩ = some (.int .i64 x.s) ∧ w'.cell? ⟨w.heap.size, 4, none⟩ = some (.int .i64 x.lost) ∧ w'.cell? ⟨w.heap.size, 12, none⟩ = some (.bool true)) (by kernel_rfl) ?_ (fun hHeld => ?_)
                · exact ⟨y0, y1, y2, y3, e1, e2, e4, e12⟩
                refine held_t 0 hHeld ?_
                refine held_one (i := 1) (by kernel_rfl) rfl (by kernel_rfl) (fun K hK => ?_)
                go_simp
                refine (specMemOk_any _ E _ _ _ _ _ _ _ _ _ ss cs true bs R0.drew R1.drew R3.drew hwm).mono ?_
                rintro e w2 ⟨rfl, b2⟩
                rw [hM]
                have b2' : Below w1.heap.size w1 w2 := (Below.refl w1.heap.size w1).drew.trans b2
                clear b2
                go_wp2_with fail
                clear hHeld
                refine hK.out _ _ ?_ (fun hHeld => ?_)
                · exact ⟨(b2'.cell (p := ⟨wr.heap.size, 0, none⟩) zy).trans y0, (b2'.cell (p := ⟨wr.heap.size, 1, none⟩) zy).trans y1, (b2'.cell (p := ⟨wr.heap.size, 2, none⟩) zy).trans y2, (b2'.cell (p := ⟨wr.heap.size, 3, none⟩) zy).trans y3, (b2'.cell (p := ⟨w.heap.size, 1, none⟩) zx).trans e1, (b2'.cell (p := ⟨w.heap.size, 2, none⟩) zx).trans e2, (b2'.cell (p := ⟨w.heap.size, 4, none⟩) zx).trans e4, (b2'.cell (p := ⟨w.heap.size, 12, none⟩) zx).trans e12⟩
                clear hK K
                refine held_t 2 hHeld ?_
                refine held_t 3 hHeld ?_
                refine held_t 4 hHeld ?_
                refine held_t 5 hHeld ?_
                refine held_t 6 hHeld ?_
                refine held_t 7 hHeld ?_
                refine held_t 8 hHeld ?_
                refine held_one (i := 9) (by kernel_rfl) rfl (by kernel_rfl) (fun K hK => ?_)
                go_simp
                refine (l6Secs_any _ x.n x.s ⟨g3, g4⟩).mono ?_
                rintro e w3 ⟨rfl, b3⟩
                have b3' : Below w1.heap.size w1 w3 := Below.andThen b2' b3
                clear b3
                go_wp2_with fail
                clear hHeld
                refine hK.out _ _ ?_ (fun hHeld => ?_)
                · exact ⟨(b3'.cell (p := ⟨wr.heap.size, 0, none⟩) zy).trans y0, (b3'.cell (p := ⟨wr.heap.size, 1, none⟩) zy).trans y1, (b3'.cell (p := ⟨wr.heap.size, 2, none⟩) zy).trans y2, (b3'.cell (p := ⟨wr.heap.size, 3, none⟩) zy).trans y3, (b3'.cell (p := ⟨w.heap.size, 1, none⟩) zx).trans e1, (b3'.cell (p := ⟨w.heap.size, 2, none⟩) zx).trans e2, (b3'.cell (p := ⟨w.heap.size, 4, none⟩) zx).trans e4, (b3'.cell (p := ⟨w.heap.size, 12, none⟩) zx).trans e12⟩
                clear hK K
                refine held_t 10 hHeld ?_
                refine held_t 11 hHeld ?_
                refine held_t 12 hHeld ?_
                refine held_t 13 hHeld ?_
                refine held_t 14 hHeld ?_
                refine held_t 15 hHeld ?_
                refine held_t 16 hHeld ?_
                refine held_t 17 hHeld ?_
                refine held_t 18 hHeld ?_
                refine held_t 19 hHeld ?_
                refine held_t 20 hHeld ?_
                refine held_t 21 hHeld ?_
                refine held_t 22 hHeld ?_
                refine held_t 23 hHeld ?_
                refine held_t 24 hHeld ?_
                refine held_t 25 hHeld ?_
                refine held_t 26 hHeld ?_
                refine wpAnyH_done (by kernel_rfl) ?_ _
                clear hHeld
                have HB := hidden (B1.trans (b3'.mono B1.size))
                have hat : memAt x j (ss, cs, true, bs) = true := (by unfold memAt; simp [hM, HS.out, hBr])
                go_wp2
                go_roundw
                case rel => exact ⟨j + 1, by omega, by go_num, fun q m hq hm' => by
                    rcases Nat.lt_or_ge q j with h | h
                    · exact hall q m h hm'
                    · obtain rfl : q = j := by omega
                      rw [HDJ.out] at hm'
                      cases hm'
                      exact hat, HB.out⟩
                case measure => simp [intOf]; omega
        · have hS1 : ((ss.length : Int) == 6 + x.s) = false := by simpa using hS
          have hS2 : ((ss.length : Int) != 6 + x.s) = true := by simpa using hS
          have HS := hidden hS
          clear hS
          go_wp2_with fail
          generalize wr.alloc (.cells #[.slice a0 ss.length c0, .slice a1 cs.length c1, .bool f, .slice a3 bs.length c3] 73) = w1 at X1 Y1 R0 R1 R3 B1 y0 y1 y2 y3 e1 e2 e4 e12 zy zx ⊢
          refine wp_region_held_drew (S := fun w' => w'.cell? ⟨wr.heap.size, 0, none⟩ = some (.slice a0 ss.length c0) ∧ w'.cell? ⟨wr.heap.size, 1, none⟩ = some (.slice a1 cs.length c1) ∧ w'.cell? ⟨wr.heap.size, 2, none⟩ = some (.bool f) ∧ w'.cell? ⟨wr.heap.size, 3, none⟩ = some (.slice a3 bs.length c3) ∧ w'.cell? ⟨w.heap.size, 1, none⟩ = some (.int .i64 x.n) ∧ w'.cell? ⟨w.heap.size, 2, none⟩ = some (.int .i64 x.s) ∧ w'.cell? ⟨w.heap.size, 4, none⟩ = some (.int .i64 x.lost) ∧ w'.cell? ⟨w.heap.size, 12, none⟩ = some (.bool x.broken)) (by kernel_rfl) ?_ (fun hHeld => ?_)
          · exact ⟨y0, y1, y2, y3, e1, e2, e4, e12⟩
          refine held_t 0 hHeld ?_
          refine held_one (i := 1) (by kernel_rfl) rfl (by kernel_rfl) (fun K hK => ?_)
          go_simp
          refine (specMemOk_any _ E _ _ _ _ _ _ _ _ _ ss cs f bs R0.drew R1.drew R3.drew hwm).mono ?_
          rintro e w2 ⟨rfl, b2⟩
          rw [hM]
          have b2' : Below w1.heap.size w1 w2 := (Below.refl w1.heap.size w1).drew.trans b2
          clear b2
          go_wp2_with fail
          clear hHeld
          refine hK.out _ _ ?_ (fun hHeld => ?_)
          · exact ⟨(b2'.cell (p := ⟨wr.heap.size, 0, none⟩) zy).trans y0, (b2'.cell (p := ⟨wr.heap.size, 1, none⟩) zy).trans y1, (b2'.cell (p := ⟨wr.heap.size, 2, none⟩) zy).trans y2, (b2'.cell (p := ⟨wr.heap.size, 3, none⟩) zy).trans y3, (b2'.cell (p := ⟨w.heap.size, 1, none⟩) zx).trans e1, (b2'.cell (p := ⟨w.heap.size, 2, none⟩) zx).trans e2, (b2'.cell (p := ⟨w.heap.size, 4, none⟩) zx).trans e4, (b2'.cell (p := ⟨w.heap.size, 12, none⟩) zx).trans e12⟩
          clear hK K
          refine held_t 2 hHeld ?_
          refine held_t 3 hHeld ?_
          refine held_t 4 hHeld ?_
          refine held_t 5 hHeld ?_
          refine held_t 6 hHeld ?_
          refine held_t 7 hHeld ?_
          refine held_t 8 hHeld ?_
          refine held_one (i := 9) (by kernel_rfl) rfl (by kernel_rfl) (fun K hK => ?_)
          go_simp
          refine (l6Secs_any _ x.n x.s ⟨g3, g4⟩).mono ?_
          rintro e w3 ⟨rfl, b3⟩
          have b3' : Below w1.heap.size w1 w3 := Below.andThen b2' b3
          clear b3
          go_wp2_with fail
          clear hHeld
          refine hK.out _ _ ?_ (fun hHeld => ?_)
          · exact ⟨(b3'.cell (p := ⟨wr.heap.size, 0, none⟩) zy).trans y0, (b3'.cell (p := ⟨wr.heap.size, 1, none⟩) zy).trans y1, (b3'.cell (p := ⟨wr.heap.size, 2, none⟩) zy).trans y2, (b3'.cell (p := ⟨wr.heap.size, 3, none⟩) zy).trans y3, (b3'.cell (p := ⟨w.heap.size, 1, none⟩) zx).trans e1, (b3'.cell (p := ⟨w.heap.size, 2, none⟩) zx).trans e2, (b3'.cell (p := ⟨w.heap.size, 4, none⟩) zx).trans e4, (b3'.cell (p := ⟨w.heap.size, 12, none⟩) zx).trans e12⟩
          clear hK K
          refine held_t 10 hHeld ?_
          refine held_t 11 hHeld ?_
          refine held_t 12 hHeld ?_
          refine held_p 13 hHeld ?_
          refine held_p 14 hHeld ?_
          refine held_p 15 hHeld ?_
          refine held_p 16 hHeld ?_
          refine held_p 17 hHeld ?_
          refine held_p 18 hHeld ?_
          refine held_p 19 hHeld ?_
          refine held_p 20 hHeld ?_
          refine held_p 21 hHeld ?_
          refine held_p 22 hHeld ?_
          refine held_p 23 hHeld ?_
          refine held_p 24 hHeld ?_
          refine held_p 25 hHeld ?_
          refine held_t 26 hHeld ?_
          refine wpAnyH_done (by kernel_rfl) ?_ _
          clear hHeld
          have HB := hidden (hA.trans ((B1.trans (b3'.mono B1.size)).mono hA.size))
          go_wp2
          go_ret
          exact ⟨ret_bool (by rw [show memsB x ms = false from (by unfold memsB; rw [allIx_no HDJ.out (by unfold memAt; simp [HS.out])]; rfl)]), HB.out⟩
    · have e : j = nm := by omega
      subst e
      have hAll : allIx (memAt x) ms = true := allIx_iff.2 (fun q m hq => hall q m (by have := (List.getElem?_eq_some_iff.1 hq).1; omega) hq)
      have HB := hidden (hA.trans (hb.mono hA.size))
      have hR : memsB x ms = ((j : Int) == x.n) := by unfold memsB; rw [hAll, hl]; simp [BEq.beq]
      go_wp2
      go_ret
      exact ⟨ret_bool hR.symm, HB.out⟩

end Go.Proofs.YthkpkpclmemodaaGreat

/-
  The walk of the specification's SpoilSec: one sector more that can't be read, among the others, in memory of its own; else the disk as it was. Condition: the disk weighs at most 2097152.
-/
namespace Go.Proofs.YthkpkpclmemodaaGreat
open Go.RowKit

/-- Whether a sector is spoilt anew; a number among ascending ones; the sectors that can't be read behind it. -/
def spOk (ss : List (List Int)) (cs : List (Int × List Int)) (bs : List Int) (n : Int) : Bool := memB ss cs bs && (inB n 0 ((ss.length : Int) - 1) && !inL bs n)
def insD (bs : List Int) (n : Int) : List Int := bs.take (bs.filter fun x => decide (x ≤ n)).length ++ n :: bs.drop (bs.filter fun x => decide (x ≤ n)).length
def spBS (ss : List (List Int)) (cs : List (Int × List Int)) (bs : List Int) (n : Int) : List Int := if spOk ss cs bs n = true then insD bs n else bs
theorem ins_eq {bs : List Int} {n : Int} {k : Nat} (h1 : ∀ x ∈ bs.take k, x ≤ n) (h2 : ∀ x ∈ bs.drop k, n < x) (hk : k ≤ bs.length) : insD bs n = bs.take k ++ n :: bs.drop k := by
  have e : (bs.filter fun x => decide (x ≤ n)).length = k := by
    have h3 : (bs.take k ++ bs.drop k).filter (fun x => decide (x ≤ n)) = bs.take k := by
      rw [List.filter_append, List.filter_eq_self.2 (fun x hx => by simp [h1 x hx]), List.filter_eq_nil_iff.2 (fun x hx => by have := h2 x hx; simp; omega), List.append_nil]
    rw [List.take_append_drop] at h3
    rw [h3, List.length_take]
    omega
  unfold insD
  rw [e]
theorem bad_lt {ss : List (List Int)} {cs : List (Int × List Int)} {bs : List Int} (h : memB ss cs bs = true) : ∀ i, i + 1 < bs.length → bs.getD i 0 < bs.getD (i + 1) 0 := by
  unfold memB at h
  simp only [Bool.and_eq_true] at h
  have h1 := h.2.2.1
  unfold badB at h1
  rw [List.all_eq_true] at h1
  intro i hi
  have h2 := h1 (i + 1) (List.mem_range.2 hi)
  unfold badAt at h2
  simp at h2
  have h3 := h2.2
  rw [List.getD_eq_getElem?_getD, List.getD_eq_getElem?_getD]
  exact h3
/-- All ahead of one that is not greater are not greater. -/
theorem take_le {bs : List Int} {n : Int} {k : Nat} (ha : ∀ i, i + 1 < bs.length → bs.getD i 0 < bs.getD (i + 1) 0) (hk : k ≤ bs.length) (h : k = 0 ∨ bs.getD (k - 1) 0 ≤ n) : ∀ x ∈ bs.take k, x ≤ n := by
  intro x hx
  obtain ⟨i, hi⟩ := List.mem_iff_getElem?.1 hx
  rw [List.getElem?_take] at hi
  by_cases hik : i < k
  · rw [if_pos hik] at hi
    have hd : bs.getD i 0 = x := by rw [List.getD_eq_getElem?_getD, hi]; rfl
    rcases h with h | h
    · omega
    · have mono : ∀ d, i + d < k → bs.getD i 0 ≤ bs.getD (i + d) 0 := by
        intro d
        induction d with
        | zero => intro _; exact Int.le_refl _
        | succ d ih =>
          intro hd'
          have h1 := ih (by omega)
          have h2 := ha (i + d) (by omega)
          have e : i + d + 1 = i + (d + 1) := by omega
          rw [e] at h2
          omega
      have h3 := mono (k - 1 - i) (by omega)
      have e : i + (k - 1 - i) = k - 1 := by omega
      rw [e, hd] at h3
      omega
  · rw [if_neg hik] at hi
    simp at hi

end Go.Proofs.YthkpkpclmemodaaGreat

/-
  The walks of both MemNew (the program's and the specification's): a new disk, in memory of its own. No condition.
-/
namespace Go.Proofs.YthkpkpclmemodaaGreat
open Go.RowKit

/-- A new disk. -/
def newSS (n : Int) : List (List Int) := if 1 ≤ n ∧ n ≤ 20 then List.replicate n.toNat [] else []

end Go.Proofs.YthkpkpclmemodaaGreat

/-
  A disk that is MemOk stays so: new, flushed or fallen, written, spoilt. Plain lemmas. No condition.
-/
namespace Go.Proofs.YthkpkpclmemodaaGreat
open Go.RowKit

theorem asc_pairwise {bs : List Int} (ha : ∀ i, i + 1 < bs.length → bs.getD i 0 < bs.getD (i + 1) 0) : bs.Pairwise (· < ·) := by
  have mono : ∀ d i, i + (d + 1) < bs.length → bs.getD i 0 < bs.getD (i + (d + 1)) 0 := by
    intro d
    induction d with
    | zero => intro i hi; exact ha i hi
    | succ d ih =>
      intro i hi
      have h1 := ih i (by omega)
      have h2 := ha (i + (d + 1)) (by omega)
      have e : i + (d + 1) + 1 = i + (d + 1 + 1) := by omega
      rw [e] at h2
      omega
  rw [List.pairwise_iff_getElem]
  intro i j hi hj hij
  have h := mono (j - i - 1) i (by omega)
  have e : i + (j - i - 1 + 1) = j := by omega
  rw [e, List.getD_eq_getElem?_getD, List.getD_eq_getElem?_getD, List.getElem?_eq_getElem hi, List.getElem?_eq_getElem hj] at h
  exact h

theorem badB_iff (n : Int) (bs : List Int) : badB n bs = true ↔ (∀ x ∈ bs, 0 ≤ x ∧ x ≤ n - 1) ∧ bs.Pairwise (· < ·) := by
  unfold badB
  rw [List.all_eq_true]
  constructor
  · intro h
    refine ⟨fun x hx => ?_, asc_pairwise (fun i hi => ?_)⟩
    · obtain ⟨i, hi⟩ := List.mem_iff_getElem?.1 hx
      have hil : i < bs.length := (List.getElem?_eq_some_iff.1 hi).1
      have h1 := h i (List.mem_range.2 hil)
      unfold badAt inB at h1
      rw [List.getD_eq_getElem?_getD, hi] at h1
      simp at h1
      omega
    · have h1 := h (i + 1) (List.mem_range.2 hi)
      unfold badAt at h1
      simp at h1
      rw [List.getD_eq_getElem?_getD, List.getD_eq_getElem?_getD]
      exact h1.2
  · rintro ⟨h1, h2⟩ i hi
    have hil : i < bs.length := List.mem_range.1 hi
    unfold badAt inB
    have e : bs.getD i 0 = bs[i] := by rw [List.getD_eq_getElem?_getD, List.getElem?_eq_getElem hil]; rfl
    have h3 := h1 bs[i] (List.getElem_mem hil)
    rw [e]
    simp only [Bool.and_eq_true, Bool.or_eq_true, decide_eq_true_eq]
    refine ⟨⟨by omega, by omega⟩, ?_⟩
    by_cases h0 : i = 0
    · exact .inl h0
    · right
      have h4 := List.pairwise_iff_getElem.1 h2 (i - 1) i (by omega) hil (by omega)
      rw [List.getD_eq_getElem?_getD, List.getElem?_eq_getElem (by omega : i - 1 < bs.length)]
      exact h4

theorem memB_iff (ss : List (List Int)) (cs : List (Int × List Int)) (bs : List Int) : memB ss cs bs = true ↔ (∀ x ∈ ss, secB x = true) ∧ (∀ x ∈ cs, wrB ss.length x = true) ∧ badB ss.length bs = true ∧ inB ss.length 1 20 = true ∧ cs.length ≤ 60 := by
  unfold memB
  simp only [Bool.and_eq_true, List.all_eq_true, decide_eq_true_eq]

theorem memB_flush {ss : List (List Int)} {cs : List (Int × List Int)} {bs : List Int} (h : memB ss cs bs = true) (ks : List (Int × List Int)) (hk : ∀ x ∈ ks, x ∈ cs) : memB (flushD ss ks) [] bs = true := by
  obtain ⟨h1, h2, h3, h4, _⟩ := (memB_iff _ _ _).1 h
  rw [memB_iff, flushD_length]
  refine ⟨fun x hx => ?_, by simp, h3, h4, by simp⟩
  unfold flushD at hx
  obtain ⟨k, hkr, rfl⟩ := List.mem_map.1 hx
  have hkl : k < ss.length := List.mem_range.1 hkr
  cases hl : lastW ks (k : Int) with
  | some zs =>
    have h5 := h2 _ (hk _ (lastW_mem hl))
    unfold wrB at h5
    simp only [Bool.and_eq_true] at h5
    exact h5.2
  | none => exact h1 _ (List.mem_of_getElem? (getD_some hkl))

theorem memB_write {ss : List (List Int)} {cs : List (Int × List Int)} {f : Bool} {bs : List Int} {n : Int} {sw : List Int} (h : wrOk ss cs f bs n sw = true) : memB ss (cs ++ [(n, sw)]) (filt bs n) = true := by
  unfold wrOk at h
  simp only [Bool.and_eq_true, decide_eq_true_eq] at h
  obtain ⟨hM, _, hI, hS, hL⟩ := h
  obtain ⟨h1, h2, h3, h4, _⟩ := (memB_iff _ _ _).1 hM
  rw [memB_iff]
  refine ⟨h1, fun x hx => ?_, ?_, h4, by rw [List.length_append]; simp; omega⟩
  · rcases List.mem_append.1 hx with hx | hx
    · exact h2 x hx
    · simp at hx
      subst hx
      unfold wrB
      rw [hI, hS]
      rfl
  · rw [badB_iff] at h3 ⊢
    exact ⟨fun x hx => h3.1 x (List.mem_filter.1 hx).1, h3.2.filter _⟩

theorem memB_spoil {ss : List (List Int)} {cs : List (Int × List Int)} {bs : List Int} {n : Int} (h : spOk ss cs bs n = true) : memB ss cs (insD bs n) = true := by
  unfold spOk at h
  simp only [Bool.and_eq_true, Bool.not_eq_true'] at h
  obtain ⟨hM, hI, hH⟩ := h
  have hasc := bad_lt hM
  obtain ⟨h1, h2, h3, h4, h5⟩ := (memB_iff _ _ _).1 hM
  rw [memB_iff]
  refine ⟨h1, h2, ?_, h4, h5⟩
  rw [badB_iff] at h3 ⊢
  have hn : ∀ x ∈ bs, x ≠ n := by
    intro x hx e
    unfold inL at hH
    rw [List.any_eq_false] at hH
    exact hH x hx (by simp [e])
  unfold inB at hI
  simp at hI
  refine ⟨fun x hx => ?_, ?_⟩
  · unfold insD at hx
    rcases List.mem_append.1 hx with hx | hx
    · exact h3.1 x (List.mem_of_mem_take hx)
    · rcases List.mem_cons.1 hx with rfl | hx
      · omega
      · exact h3.1 x (List.mem_of_mem_drop hx)
  · have hp := h3.2
    have hle : ∀ (l : List Int), l.Pairwise (· < ·) → (∀ x ∈ l, x ≠ n) → ∃ k, k ≤ l.length ∧ (∀ x ∈ l.take k, x ≤ n) ∧ (∀ x ∈ l.drop k, n < x) := by
      intro l
      induction l with
      | nil => intro _ _; exact ⟨0, by simp, by simp, by simp⟩
      | cons y l ih =>
        intro hp hne
        rw [List.pairwise_cons] at hp
        by_cases hy : y ≤ n
        · obtain ⟨k, k1, k2, k3⟩ := ih hp.2 (fun x hx => hne x (List.mem_cons_of_mem _ hx))
          refine ⟨k + 1, by simp; omega, fun x hx => ?_, by simpa using k3⟩
          rw [List.take_succ_cons] at hx
          rcases List.mem_cons.1 hx with rfl | hx
          · exact hy
          · exact k2 x hx
        · refine ⟨0, by simp, by simp, fun x hx => ?_⟩
          rw [List.drop_zero] at hx
          rcases List.mem_cons.1 hx with rfl | hx
          · omega
          · have := hp.1 x hx
            omega
    obtain ⟨k, k1, k2, k3⟩ := hle bs hp hn
    rw [ins_eq k2 k3 k1]
    rw [List.pairwise_append, List.pairwise_cons]
    refine ⟨hp.sublist (List.take_sublist _ _), ⟨k3, hp.sublist (List.drop_sublist _ _)⟩, fun a ha b hb => ?_⟩
    have h6 := k2 a ha
    have h7 := hn a (List.mem_of_mem_take ha)
    rcases List.mem_cons.1 hb with rfl | hb
    · omega
    · have := k3 b hb
      omega

theorem memB_new {n : Int} (h1 : 1 ≤ n) (h2 : n ≤ 20) : memB (newSS n) [] [] = true := by
  rw [memB_iff]
  unfold newSS
  rw [if_pos ⟨h1, h2⟩]
  refine ⟨fun x hx => ?_, by simp, by rw [badB_iff]; simp, ?_, by simp⟩
  · rw [List.eq_of_mem_replicate hx]
    decide
  · unfold inB
    simp
    omega

end Go.Proofs.YthkpkpclmemodaaGreat

/-
  What the operations on an array's disks make of it: one operation counted, a sector written, all flushed, marked, checked; what they keep. Plain lemmas. No condition.
-/
namespace Go.Proofs.YthkpkpclmemodaaGreat
open Go.RowKit

def memZ : MemD := ([], [], false, [])
def opB (x : ArrN) : Bool := !x.down && !decide (x.fuse = 0)
def opX (x : ArrN) : ArrN := if x.down = true then x else if x.fuse = 0 then {x with down := true, fuse := -1} else if 0 < x.fuse then {x with fuse := x.fuse - 1} else x
def wrM (d : MemD) (n : Int) (s : List Int) : MemD := (d.1, wrCS d.1 d.2.1 d.2.2.1 d.2.2.2 n s, d.2.2.1, wrBS d.1 d.2.1 d.2.2.1 d.2.2.2 n s)
def flM (d : MemD) : MemD := (flSS d.1 d.2.1 d.2.2.1 d.2.2.2, flCS d.1 d.2.1 d.2.2.1 d.2.2.2, d.2.2.1, d.2.2.2)
/-- An operation at the disk i: if it is not Failed, it counts; if it is done, the disk is turned. -/
def doS (q : ArrN × List MemD) (i : Nat) (f : MemD → MemD) : ArrN × List MemD :=
  if (q.2.getD i memZ).2.2.1 = true then q else if opB q.1 = true then (opX q.1, q.2.set i (f (q.2.getD i memZ))) else (opX q.1, q.2)
def putS (q : ArrN × List MemD) (i : Nat) (n : Int) (s : List Int) : ArrN × List MemD := doS q i fun d => wrM d n s
def syncS (q : ArrN × List MemD) (j : Nat) : ArrN × List MemD := (List.range j).foldl (fun q i => doS q i flM) q
def supA (x : ArrN) (i : Nat) : Sup := ⟨x.id, x.gen, (i : Int), x.n, x.s, x.tail, x.lost, x.built⟩
def supsS (q : ArrN × List MemD) (j : Nat) : ArrN × List MemD := (List.range j).foldl (fun q i => putS q i (q.1.gen % 2) (putD (supA q.1 i))) q
def markS (q : ArrN × List MemD) : ArrN × List MemD := syncS (supsS ({q.1 with gen := q.1.gen + 1}, q.2) q.2.length) q.2.length
def checkS (q : ArrN × List MemD) : ArrN × List MemD := if (syncS q q.2.length).1.down = true then syncS q q.2.length else markS ({(syncS q q.2.length).1 with tail := (syncS q q.2.length).1.seq}, (syncS q q.2.length).2)

/-- Every disk is right. -/
def MsOk (ms : List MemD) : Prop := ∀ (i : Nat) (d : MemD), ms[i]? = some d → memB d.1 d.2.1 d.2.2.2 = true

/-- The numbers but those of the power are the same. -/
def SameN (x y : ArrN) : Prop := y.id = x.id ∧ y.n = x.n ∧ y.s = x.s ∧ y.lost = x.lost ∧ y.built = x.built ∧ y.seq = x.seq ∧ y.tail = x.tail ∧ y.gen = x.gen ∧ y.broken = x.broken ∧ y.fuse ≤ 1000 ∧ (-1 ≤ x.fuse → -1 ≤ y.fuse)
theorem SameN.refl {x : ArrN} (h : x.fuse ≤ 1000) : SameN x x := ⟨rfl, rfl, rfl, rfl, rfl, rfl, rfl, rfl, rfl, h, fun h => h⟩
theorem SameN.trans {x y z : ArrN} (h : SameN x y) (k : SameN y z) : SameN x z := by
  obtain ⟨a1, a2, a3, a4, a5, a6, a7, a8, a9, _, b⟩ := h
  obtain ⟨c1, c2, c3, c4, c5, c6, c7, c8, c9, c10, d⟩ := k
  exact ⟨c1.trans a1, c2.trans a2, c3.trans a3, c4.trans a4, c5.trans a5, c6.trans a6, c7.trans a7, c8.trans a8, c9.trans a9, c10, fun h => d (b h)⟩
theorem opX_same {x : ArrN} (h : x.fuse ≤ 1000) : SameN x (opX x) := by
  unfold opX
  split
  · exact SameN.refl h
  · split
    · exact ⟨rfl, rfl, rfl, rfl, rfl, rfl, rfl, rfl, rfl, by dsimp only; omega, fun _ => by dsimp only; omega⟩
    · split
      · exact ⟨rfl, rfl, rfl, rfl, rfl, rfl, rfl, rfl, rfl, by dsimp only; omega, fun _ => by dsimp only; omega⟩
      · exact SameN.refl h
theorem opX_keeps {x : ArrN} (h : x.fuse ≤ 1000) : (opX x).fuse ≤ 1000 := (opX_same h).2.2.2.2.2.2.2.2.2.1
theorem getD_at {ms : List MemD} {i : Nat} {d : MemD} (h : ms[i]? = some d) : ms.getD i memZ = d := by rw [List.getD_eq_getElem?_getD, h]; rfl
theorem doS_failed {q : ArrN × List MemD} {i : Nat} {d : MemD} {f : MemD → MemD} (h : q.2[i]? = some d) (hf : d.2.2.1 = true) : doS q i f = q := by unfold doS; rw [getD_at h, if_pos hf]
theorem doS_no {q : ArrN × List MemD} {i : Nat} {d : MemD} {f : MemD → MemD} (h : q.2[i]? = some d) (hf : d.2.2.1 = false) (ho : opB q.1 = false) : doS q i f = (opX q.1, q.2) := by unfold doS; rw [getD_at h, if_neg (by simp [hf]), if_neg (by simp [ho])]
theorem doS_yes {q : ArrN × List MemD} {i : Nat} {d : MemD} {f : MemD → MemD} (h : q.2[i]? = some d) (hf : d.2.2.1 = false) (ho : opB q.1 = true) : doS q i f = (opX q.1, q.2.set i (f d)) := by unfold doS; rw [getD_at h, if_neg (by simp [hf]), if_pos ho]
theorem doS_len (q : ArrN × List MemD) (i : Nat) (f : MemD → MemD) : (doS q i f).2.length = q.2.length := by
  unfold doS
  split
  · rfl
  · split
    · exact List.length_set
    · rfl
theorem doS_same {q : ArrN × List MemD} (i : Nat) (f : MemD → MemD) (h : q.1.fuse ≤ 1000) : SameN q.1 (doS q i f).1 := by
  unfold doS
  split
  · exact SameN.refl h
  · split <;> exact opX_same h
theorem MsOk.set {ms : List MemD} {i : Nat} {d : MemD} (h : MsOk ms) (hd : memB d.1 d.2.1 d.2.2.2 = true) : MsOk (ms.set i d) := by
  intro k e he
  by_cases hk : k = i
  · subst hk
    by_cases hl : k < ms.length
    · rw [List.getElem?_set_self hl] at he
      simp at he
      subst he
      exact hd
    · rw [List.getElem?_eq_none (by rw [List.length_set]; omega)] at he
      cases he
  · rw [List.getElem?_set_ne (fun e => hk e.symm)] at he
    exact h k e he
theorem doS_ok {q : ArrN × List MemD} {i : Nat} {f : MemD → MemD} (h : MsOk q.2) (hf : ∀ d : MemD, memB d.1 d.2.1 d.2.2.2 = true → memB (f d).1 (f d).2.1 (f d).2.2.2 = true) : MsOk (doS q i f).2 := by
  unfold doS
  split
  · exact h
  · split
    · cases hd : q.2[i]? with
      | none =>
        rw [List.set_eq_of_length_le (by rw [List.getElem?_eq_none_iff] at hd; exact hd)]
        exact h
      | some d => rw [getD_at hd]; exact h.set (hf d (h i d hd))
    · exact h
theorem wrM_ok (n : Int) (s : List Int) (d : MemD) (h : memB d.1 d.2.1 d.2.2.2 = true) : memB (wrM d n s).1 (wrM d n s).2.1 (wrM d n s).2.2.2 = true := by
  unfold wrM wrCS wrBS
  dsimp only
  by_cases hw : wrOk d.1 d.2.1 d.2.2.1 d.2.2.2 n s = true
  · rw [if_pos hw, if_pos hw]
    exact memB_write hw
  · rw [if_neg hw, if_neg hw]
    exact h
theorem flM_ok (d : MemD) (h : memB d.1 d.2.1 d.2.2.2 = true) : memB (flM d).1 (flM d).2.1 (flM d).2.2.2 = true := by
  unfold flM flSS flCS
  dsimp only
  by_cases hw : (memB d.1 d.2.1 d.2.2.2 && !d.2.2.1) = true
  · rw [if_pos hw, if_pos hw]
    exact memB_flush h d.2.1 (fun _ h => h)
  · rw [if_neg hw, if_neg hw]
    exact h
theorem putS_ok {q : ArrN × List MemD} {i : Nat} {n : Int} {s : List Int} (h : MsOk q.2) : MsOk (putS q i n s).2 := doS_ok h (wrM_ok n s)
theorem syncS_succ (q : ArrN × List MemD) (j : Nat) : syncS q (j + 1) = doS (syncS q j) j flM := by unfold syncS; rw [List.range_succ, List.foldl_append]; rfl
theorem syncS_keeps {q : ArrN × List MemD} (h : MsOk q.2) (hf : q.1.fuse ≤ 1000) : ∀ j, MsOk (syncS q j).2 ∧ SameN q.1 (syncS q j).1 ∧ (syncS q j).2.length = q.2.length
  | 0 => ⟨h, SameN.refl hf, rfl⟩
  | j + 1 => by
    obtain ⟨h1, h2, h3⟩ := syncS_keeps h hf j
    rw [syncS_succ]
    exact ⟨doS_ok h1 flM_ok, h2.trans (doS_same _ _ h2.2.2.2.2.2.2.2.2.2.1), by rw [doS_len]; exact h3⟩
theorem supsS_succ (q : ArrN × List MemD) (j : Nat) : supsS q (j + 1) = putS (supsS q j) j ((supsS q j).1.gen % 2) (putD (supA (supsS q j).1 j)) := by unfold supsS; rw [List.range_succ, List.foldl_append]; rfl
theorem supsS_keeps {q : ArrN × List MemD} (h : MsOk q.2) (hf : q.1.fuse ≤ 1000) : ∀ j, MsOk (supsS q j).2 ∧ SameN q.1 (supsS q j).1 ∧ (supsS q j).2.length = q.2.length
  | 0 => ⟨h, SameN.refl hf, rfl⟩
  | j + 1 => by
    obtain ⟨h1, h2, h3⟩ := supsS_keeps h hf j
    rw [supsS_succ]
    exact ⟨putS_ok h1, h2.trans (doS_same _ _ h2.2.2.2.2.2.2.2.2.2.1), by unfold putS; rw [doS_len]; exact h3⟩
theorem bad_ge {n : Int} {bs : List Int} (h : badB n bs = true) : ∀ i : Nat, i < bs.length → (i : Int) ≤ bs.getD i 0
  | 0, hi => by
    unfold badB at h
    have := (List.all_eq_true.1 h) 0 (List.mem_range.2 hi)
    unfold badAt inB at this
    simp at this
    have e : bs.getD 0 0 = bs[0]?.getD 0 := List.getD_eq_getElem?_getD ..
    rw [e]
    omega
  | i + 1, hi => by
    have h1 := bad_ge h i (by omega)
    unfold badB at h
    have h2 := (List.all_eq_true.1 h) (i + 1) (List.mem_range.2 hi)
    unfold badAt at h2
    simp only [Bool.and_eq_true, Bool.or_eq_true, decide_eq_true_eq] at h2
    rw [Nat.add_sub_cancel] at h2
    omega
theorem bad_len {n : Int} {bs : List Int} (h : badB n bs = true) : bs = [] ∨ (bs.length : Int) ≤ n := by
  by_cases h0 : bs.length = 0
  · exact .inl (List.length_eq_zero_iff.1 h0)
  · right
    have h1 := bad_ge h (bs.length - 1) (by omega)
    unfold badB at h
    have h2 := (List.all_eq_true.1 h) (bs.length - 1) (List.mem_range.2 (by omega))
    unfold badAt at h2
    simp only [Bool.and_eq_true] at h2
    have h3 := inB_iff.1 h2.1
    omega
/-- A disk that is right weighs little. -/
theorem memB_light {ss : List (List Int)} {cs : List (Int × List Int)} {bs : List Int} (h : memB ss cs bs = true) (f : Bool) : wtMem (ss, cs, f, bs) ≤ 2000 := by
  have h1 := sumL_bound (ss.map List.length) 12 (fun x hx => by
    obtain ⟨y, hy, rfl⟩ := List.mem_map.1 hx
    exact (mem_small h).1 y hy)
  have h2 := sumL_bound (cs.map fun x => x.2.length) 12 (fun x hx => by
    obtain ⟨y, hy, rfl⟩ := List.mem_map.1 hx
    exact (mem_small h).2 y hy)
  have h3 := mem_secs h
  have h5 := h
  unfold memB at h5
  simp only [Bool.and_eq_true, decide_eq_true_eq] at h5
  have h4 : cs.length ≤ 60 := h5.2.2.2.2
  have h6 : bs.length ≤ 20 := by
    rcases bad_len h5.2.2.1 with h7 | h7
    · rw [h7]; simp
    · omega
  rw [List.length_map] at h1 h2
  unfold wtMem wtIntSS wtWrS
  simp only
  omega

end Go.Proofs.YthkpkpclmemodaaGreat

/-
  The walk of the laws' mark over slices of disks: every number, flag and word is marked in place, one behind the other. Condition: they weigh at most 2097152, and the first mark and the weight together at most 2097153.
-/
namespace Go.Proofs.YthkpkpclmemodaaGreat
open Go.RowKit

def cntMD (x : MemD) : Nat := cntSS x.1 + cntWS x.2.1 + 1 + x.2.2.2.length
def markMD (k : Int) (x : MemD) : MemD := (markSS k x.1, markW (k + (cntSS x.1 : Int)) x.2.1, decide ((k + (cntSS x.1 : Int) + (cntWS x.2.1 : Int)) % 3 = 0), marks id (k + (cntSS x.1 : Int) + (cntWS x.2.1 : Int) + 1) x.2.2.2.length)
def markMS (k0 : Int) (d : List MemD) : List MemD := markL cntMD markMD k0 d
def cntMS (d : List MemD) : Nat := sumL (d.map cntMD)
theorem cntMS_le (d : List MemD) : cntMS d ≤ wtMemS d := by
  unfold cntMS wtMemS
  induction d with
  | nil => simp [sumL]
  | cons x d ih =>
    have h1 : cntMD x ≤ wtMem x + 1 := by
      have := Nat.le_of_eq (cntWS_wt x.2.1)
      unfold cntMD wtMem wtIntSS cntSS
      omega
    have e1 : sumL ((x :: d).map cntMD) = cntMD x + sumL (d.map cntMD) := by simp [sumL]
    have e2 : sumL ((x :: d).map wtMem) = wtMem x + sumL (d.map wtMem) := by simp [sumL]
    rw [e1, e2, List.length_cons]
    omega

set_option maxHeartbeats 6400000 in
theorem markMemS_fp (w : World) (a : Option Addr) (n cap : Nat) (d : List MemD) (k0 : Int) (fp : List Nat) (h : (tMemS 104 73).Mine w [.slice a n cap] d fp) (hw : wtMemS d ≤ 2097152) (hk : 0 ≤ k0) (hk' : k0 + (wtMemS d : Int) ≤ 2097153) :
    Calls Tryz.prog 35 #[.slice a n cap, .int .i64 k0] w fun e w' => e = .returned (.int .i64 (k0 + (cntMS d : Int))) ∧ (tMemS 104 73).Mine w' [.slice a n cap] (markMS k0 d) fp ∧ Turned fp w w' := by
  obtain ⟨hl, hc, hm⟩ := row_length h.rd
  have hmL : (markMS k0 d).length = d.length := markL_length _ _ _ _
  have hnn : n ≤ 2097152 := by unfold wtMemS at hw; omega
  have hwt := cntMS_le d
  go_enter Tryz.func35, Tryz.ntmps35
  go_wp2
  go_loopw [1, 5] (fun kk i wr => ∃ j : Nat, j ≤ n ∧ i = .int .i64 j ∧ kk = .int .i64 (k0 + (sumL ((d.map cntMD).take j) : Int)) ∧ (tMemS 104 73).Mine wr [.slice a n cap] ((markMS k0 d).take j ++ d.drop j) fp ∧ Turned fp w wr) (fun _ i _ => n - (intOf i).toNat)
  case atStart => exact ⟨0, Nat.zero_le _, rfl, by simp [sumL], by simpa using h, Turned.refl _ _⟩
  case round =>
    obtain ⟨j, hj, rfl, rfl, ho, hb⟩ := hrel
    by_cases hjn : j < n
    · have hdj : d[j]? = some (d[j]'(by omega)) := List.getElem?_eq_getElem (by omega)
      generalize d[j]'(by omega) = x at hdj
      have hst := sumL_take (l := d.map cntMD) (j := j) (x := cntMD x) (by rw [List.getElem?_map, hdj]; rfl)
      have hle := sumL_le (l := d.map cntMD) (j + 1)
      have hin := Nat.le_trans (inner_leM hdj) hw
      unfold cntMS at hwt
      have HM := hidden (turn_step hmL (markL_at (c := cntMD) (mk := markMD) (k := k0) hdj))
      have hat := turn_at (m := markMS k0 d) hmL hdj
      have HW := hidden hst
      generalize sumL ((d.map cntMD).take j) = S at hst HM HW
      obtain ⟨ss, cs, f, bs⟩ := x
      have hcx : cntMD (ss, cs, f, bs) = cntSS ss + cntWS cs + 1 + bs.length := rfl
      have hin0 : wtIntSS ss ≤ 2097152 := by unfold wtMem at hin; simp only at hin; omega
      have hin1 : wtWrS cs ≤ 2097152 := by unfold wtMem at hin; simp only at hin; omega
      have hin3 : bs.length ≤ 2097152 := by unfold wtMem at hin; simp only at hin; omega
      have hcw := Nat.le_of_eq (cntWS_wt cs)
      have hcw' := Nat.le_of_eq (cntWS_wt cs).symm
      have hS : k0 + (S : Int) + (cntSS ss : Int) + (cntWS cs : Int) + 1 + (bs.length : Int) ≤ 2097153 := by omega
      rcases row_ow_shape ho with h0' | ⟨g, rfl⟩
      · omega
      obtain ⟨cs1, f1, ow1, hgf, hgp, hf1, hcc, hfz, _, back⟩ := row_open ho hat
      have hcl := (tMem 104).rdLen ((tMem 104).owRd ow1.1)
      obtain ⟨v0, v1, v2, v3, rfl⟩ : ∃ v0 v1 v2 v3, cs1 = [v0, v1, v2, v3] := by
        match cs1, hcl with
        | [v0, v1, v2, v3], _ => exact ⟨v0, v1, v2, v3, rfl⟩
      obtain ⟨f0, g1, rfl, m0, ow2, d0⟩ := pair_mine (t := tIntSS) (u := pairTy (tWrS 104) (pairTy boolTy tIntS)) (vs := [v0]) (us := [v1, v2, v3]) rfl ow1
      obtain ⟨fc, g2, rfl, m1, ow3, d1⟩ := pair_mine (t := tWrS 104) (u := pairTy boolTy tIntS) (vs := [v1]) (us := [v2, v3]) rfl ow2
      obtain ⟨fb, f3, rfl, ⟨⟨hv2, hfb⟩, _⟩, m3, _⟩ := pair_mine (t := boolTy) (u := tIntS) (vs := [v2]) (us := [v3]) rfl ow3
      simp at hv2
      subst hv2
      subst hfb
      rw [List.nil_append] at *
      have hc0 : wr.cell? ⟨g, j * 4, none⟩ = some v0 := hcc 0 (by show 0 < 4; omega)
      have hc1 : wr.cell? ⟨g, j * 4 + 1, none⟩ = some v1 := hcc 1 (by show 1 < 4; omega)
      have hc2 : wr.cell? ⟨g, j * 4 + 2, none⟩ = some (.bool f) := hcc 2 (by show 2 < 4; omega)
      have hc3 : wr.cell? ⟨g, j * 4 + 3, none⟩ = some v3 := hcc 3 (by show 3 < 4; omega)
      obtain ⟨a0, e0, rfl⟩ := row_shape m0.rd
      obtain ⟨a1, e1', rfl⟩ := row_shape m1.rd
      obtain ⟨a3, e3, rfl⟩ := row_shape m3.rd
      have hlt := ho.lt
      have ng0 : g ∉ f0 := fun hm => hgf (List.mem_append_left _ hm)
      have ngc : g ∉ fc := fun hm => hgf (List.mem_append_right _ (List.mem_append_left _ hm))
      have ng3 : g ∉ f3 := fun hm => hgf (List.mem_append_right _ (List.mem_append_right _ hm))
      have d0c : ∀ b ∈ fc, b ∉ f0 := fun b hb hb' => d0 b hb' (List.mem_append_left _ hb)
      have d03 : ∀ b ∈ f3, b ∉ f0 := fun b hb hb' => d0 b hb' (List.mem_append_right _ hb)
      have dc3 : ∀ b ∈ f3, b ∉ fc := fun b hb hb' => d1 b hb' hb
      have hgl : g < wr.heap.size := hlt g hgp
      obtain ⟨cur, hcur, hcsz, hncap, _⟩ := row_block (ho.own (lo := 0) (hi := wr.heap.size) (fun b hb => ⟨Nat.zero_le _, ho.lt b hb⟩))
      have XB : Box wr g 73 cur := hcur
      have HBK := hidden back
      have HLT := hidden hlt
      have HF1 := hidden hf1
      have HFZ := hidden hfz
      have M0 := hidden m0
      have M1 := hidden m1
      have M3 := hidden m3
      have DD := hidden (And.intro d0 d1)
      have HG := hidden hgf
      have i1 : (0 : Int) ≤ (j : Int) := by omega
      have i2 : (j : Int) < (n : Int) := by omega
      clear hcc back hcl ow1 ow2 ow3 hat hdj ho hst hlt hfz hf1 m0 m1 m3 d0 d1 hgf
      have e1 : (k0 + (S : Int) + (cntSS ss : Int) + (cntWS cs : Int)).tmod 3 = (k0 + (S : Int) + (cntSS ss : Int) + (cntWS cs : Int)) % 3 := Int.tmod_eq_emod_of_nonneg (by omega)
      have HXB := hidden XB
      have HC := hidden (And.intro hc0 (And.intro hc1 hc3))
      clear XB hcur
      go_wp2_with fail
      refine (markIntSS_fp _ _ _ _ ss _ f0 M0.out hin0 (by omega) (by omega)).mono ?_
      rintro e w1 ⟨rfl, o1, t1⟩
      have b1 := t1.block g hgl ng0
      have kc1 := (cell_kept b1 (j * 4 + 1)).trans hc1
      have kc2 := (cell_kept b1 (j * 4 + 2)).trans hc2
      have kc3 := (cell_kept b1 (j * 4 + 3)).trans hc3
      have X1 := hidden (HXB.out.kept b1)
      have z1 := t1.size
      have M1' := hidden (M1.out.kept t1 d0c)
      have M3' := hidden (M3.out.kept t1 d03)
      have O1 := hidden o1
      have T1 := hidden t1
      clear hc0 hc1 hc2 hc3 b1 o1 t1 M0 M1 M3 HXB
      have hg1 : g < w1.heap.size := Nat.lt_of_lt_of_le hgl z1
      go_wp2_with fail
      refine (markWrS_fp _ _ _ _ cs _ fc M1'.out hin1 (by omega) (by omega)).mono ?_
      rintro e w2 ⟨rfl, o2, t2⟩
      have b2 := t2.block g hg1 ngc
      have lc2 := (cell_kept b2 (j * 4 + 2)).trans kc2
      have lc3 := (cell_kept b2 (j * 4 + 3)).trans kc3
      have x2 := X1.out.kept b2
      have X2 := hidden x2
      have ff := x2.frozen (j * 4 + 2)
      have z2 := t2.size
      have M3'' := hidden (M3'.out.kept t2 dc3)
      have O1' := hidden (O1.out.kept t2 (fun b hb hb' => d0c b hb' hb))
      have O2 := hidden o2
      have T2 := hidden t2
      have T3 : Hid (Turned [g] w2 (w2.setCell ⟨g, j * 4 + 2, none⟩ (.bool (decide ((k0 + (S : Int) + (cntSS ss : Int) + (cntWS cs : Int)) % 3 = 0))))) := Turned.setCell _ (by simp)
      have M3t := hidden (M3''.out.kept T3.out (fun b hb hb' => ng3 (by simp at hb'; exact hb' ▸ hb)))
      have O1t := hidden (O1'.out.kept T3.out (fun b hb hb' => ng0 (by simp at hb'; exact hb' ▸ hb)))
      have O2t := hidden (O2.out.kept T3.out (fun b hb hb' => ngc (by simp at hb'; exact hb' ▸ hb)))
      have X3 := hidden (x2.set (j * 4 + 2) (.bool (decide ((k0 + (S : Int) + (cntSS ss : Int) + (cntWS cs : Int)) % 3 = 0))))
      clear kc1 kc2 kc3 b2 o2 t2 X1 M1' M3' M3'' O1 O1' O2 x2
      have hg2 : g < w2.heap.size := Nat.lt_of_lt_of_le hg1 z2
      go_wp2_with fail
      generalize hw3 : w2.setCell ⟨g, j * 4 + 2, none⟩ (.bool (decide ((k0 + (S : Int) + (cntSS ss : Int) + (cntWS cs : Int)) % 3 = 0))) = w3 at T3 M3t O1t O2t X3 ⊢
      clear hw3
      refine (markIntS_fp _ _ _ _ bs _ f3 M3t.out (by omega) (by omega) (by omega)).mono ?_
      rintro e w4 ⟨rfl, o3, t4⟩
      have z3 := T3.out.size
      have z4 := t4.size
      have hg3 : g < w3.heap.size := Nat.lt_of_lt_of_le hg2 z3
      have hO := HBK.out w4 [.slice a0 ss.length e0, .slice a1 cs.length e1', .bool (decide ((k0 + (S : Int) + (cntSS ss : Int) + (cntWS cs : Int)) % 3 = 0)), .slice a3 bs.length e3] (markMD (k0 + (S : Int)) (ss, cs, f, bs))
        (pair_mine_of (t := tIntSS) (vs := [_]) (us := [_, _, _]) (O1t.out.kept t4 (fun b hb hb' => d03 b hb' hb)) (pair_mine_of (t := tWrS 104) (vs := [_]) (us := [_, _]) (O2t.out.kept t4 (fun b hb hb' => dc3 b hb' hb)) (pair_mine_of (t := boolTy) (u := tIntS) (vs := [_]) (us := [_]) (f1 := []) ⟨⟨rfl, rfl⟩, by simp⟩ o3 (by simp)) DD.out.2) DD.out.1)
        (fun b hb hbf hbg => by
          have n0 : b ∉ f0 := fun hm => hbf (List.mem_append_left _ hm)
          have nc : b ∉ fc := fun hm => hbf (List.mem_append_right _ (List.mem_append_left _ hm))
          have n3 : b ∉ f3 := fun hm => hbf (List.mem_append_right _ (List.mem_append_right _ hm))
          have l0 := HLT.out b hb
          rw [t4.block b (by omega) n3, T3.out.block b (by omega) (by simpa using hbg), T2.out.block b (by omega) nc, T1.out.block b l0 n0])
        (by omega)
        (fun cur2 hcur2 hcs2 hnc2 => by
          have hX := X3.out
          have e2 : cur2 = cur := by
            have h1 := X2.out
            have h2 : w2.heap[g]? = wr.heap[g]? := by rw [T2.out.block g hg1 ngc, T1.out.block g hgl ng0]
            unfold Box at h1
            rw [h2, hcur2] at h1
            simpa using h1
          subst e2
          refine ⟨_, (t4.block g hg3 ng3).trans hX, by simp, fun k => ?_⟩
          have hcs' : cur2.size = cap * 4 := hcs2
          rw [Array.toList_setIfInBounds]
          obtain ⟨p0, p1, p3⟩ := HC.out
          rw [cell_of_row wr g _ cur2 _ (0, 0) hcur2] at p0 p1 p3
          simp only [show (1 + (1 + (1 + 1)) : Nat) = 4 from rfl]
          by_cases k0' : k = j * 4
          · subst k0'
            rw [List.getElem?_set_ne (by omega), if_pos (by omega), Nat.sub_self, Array.getElem?_toList, p0]
            rfl
          · by_cases k1 : k = j * 4 + 1
            · subst k1
              rw [List.getElem?_set_ne (by omega), if_pos (by omega), Nat.add_sub_cancel_left, Array.getElem?_toList, p1]
              rfl
            · by_cases k2 : k = j * 4 + 2
              · subst k2
                rw [List.getElem?_set_self (by simp; omega), if_pos (by omega), Nat.add_sub_cancel_left]
                rfl
              · by_cases k3 : k = j * 4 + 3
                · subst k3
                  rw [List.getElem?_set_ne (by omega), if_pos (by omega), Nat.add_sub_cancel_left, Array.getElem?_toList, p3]
                  rfl
                · rw [List.getElem?_set_ne (by omega), if_neg (by omega)])
      rw [HM.out] at hO
      have HO := hidden hO
      have HB := hidden ((((hb.trans (T1.out.mono (fun b hm => HF1.out b (List.mem_append_left _ hm)))).trans (T2.out.mono (fun b hm => HF1.out b (List.mem_append_right _ (List.mem_append_left _ hm))))).trans (T3.out.mono (by simpa using hgp))).trans (t4.mono (fun b hm => HF1.out b (List.mem_append_right _ (List.mem_append_right _ hm)))))
      clear hO o3 t4 HBK hb T1 T2 T3 X2 X3 O1t O2t M3t HLT HC
      go_wp2
      go_roundw
      case rel => exact ⟨j + 1, by omega, by go_num, by rw [HW.out, hcx]; go_num, HO.out, HB.out⟩
      case measure => simp [intOf]; omega
    · go_wp2
      go_ret
      have e : j = n := by omega
      subst e
      have ht : (d.map cntMD).take j = d.map cntMD := List.take_of_length_le (by simp; omega)
      rw [List.take_of_length_le (by omega), List.drop_of_length_le (by omega), List.append_nil] at ho
      exact ⟨ret_int (by rw [ht]; rfl), ho, hb⟩

end Go.Proofs.YthkpkpclmemodaaGreat

/-
  The walk of the laws' mark over an array: its disks and stripes are marked in place. Condition: it weighs at most 2097152.
-/
namespace Go.Proofs.YthkpkpclmemodaaGreat
open Go.RowKit

set_option maxHeartbeats 1600000 in
theorem markArr_own (w : World) (lo m hi : Nat) (x : ArrN) (bm bd : Option Addr) (nm cm nd cd : Nat) (ms : List MemD) (ds : List (Int × List Int)) (h0 : (tMemS 104 73).Own w lo m [.slice bm nm cm] ms) (h1 : (tWrS 75).Own w m hi [.slice bd nd cd] ds) (hlm : lo ≤ m) (hmh : m ≤ hi) (hhi : hi ≤ w.heap.size) (hw : wtArr ms ds ≤ 2097152) :
    Calls Tryz.prog 11 #[.agg #[.int .i64 x.id, .int .i64 x.n, .int .i64 x.s, .slice bm nm cm, .int .i64 x.lost, .int .i64 x.built, .int .i64 x.seq, .int .i64 x.tail, .int .i64 x.gen, .slice bd nd cd, .int .i64 x.fuse, .bool x.down, .bool x.broken], .int .i64 1] w fun e w' => e = .returned (.int .i64 (1 + (cntMS ms : Int) + (cntWS ds : Int))) ∧ (tMemS 104 73).Own w' lo m [.slice bm nm cm] (markMS 1 ms) ∧ (tWrS 75).Own w' m hi [.slice bd nd cd] (markW (1 + (cntMS ms : Int)) ds) ∧ But lo hi w w' := by
  have hw0 : wtMemS ms ≤ 2097152 := by unfold wtArr at hw; omega
  have hw1 : wtWrS ds ≤ 2097152 := by unfold wtArr at hw; omega
  have hcm := cntMS_le ms
  have hA := new_below w (.cells #[.int .i64 x.id, .int .i64 x.n, .int .i64 x.s, .slice bm nm cm, .int .i64 x.lost, .int .i64 x.built, .int .i64 x.seq, .int .i64 x.tail, .int .i64 x.gen, .slice bd nd cd, .int .i64 x.fuse, .bool x.down, .bool x.broken] 33)
  have A := Box.new w 33 #[.int .i64 x.id, .int .i64 x.n, .int .i64 x.s, .slice bm nm cm, .int .i64 x.lost, .int .i64 x.built, .int .i64 x.seq, .int .i64 x.tail, .int .i64 x.gen, .slice bd nd cd, .int .i64 x.fuse, .bool x.down, .bool x.broken]
  obtain ⟨k0, k1, k2, k3, k4, k5, k6, k7, k8, k9, k10, k11, k12⟩ := A.cells13
  have o0 := h0.below hA
  have o1 := h1.below hA
  have zA := A.lt
  go_enter Tryz.func11, Tryz.ntmps11
  go_wp2_with fail
  generalize w.alloc (.cells #[.int .i64 x.id, .int .i64 x.n, .int .i64 x.s, .slice bm nm cm, .int .i64 x.lost, .int .i64 x.built, .int .i64 x.seq, .int .i64 x.tail, .int .i64 x.gen, .slice bd nd cd, .int .i64 x.fuse, .bool x.down, .bool x.broken] 33) = W at hA A o0 o1 zA k0 k1 k2 k3 k4 k5 k6 k7 k8 k9 k10 k11 k12 ⊢
  obtain ⟨f0, m0, r0⟩ := o0.mine
  refine (markMemS_fp _ _ _ _ ms 1 f0 m0 hw0 (by omega) (by omega)).mono ?_
  rintro e w1 ⟨rfl, p0, t1⟩
  have hb1 := t1.but (lo := lo) (hi := m) r0
  have q0 := p0.own r0
  have q1 := o1.but hb1 (.inr (Nat.le_refl _))
  have A1 := A.kept (hb1.block _ zA (by omega))
  have B1 := (But.of_below (lo := lo) (hi := hi) hA).trans ⟨hb1.os, hb1.tape, hb1.output, hb1.size, fun k hk ho => hb1.block k hk (by omega)⟩
  clear k0 k1 k2 k3 k4 k5 k6 k7 k8 k9 k10 k11 k12 A hb1 t1 p0 m0 o0 o1 hA
  obtain ⟨k0, k1, k2, k3, k4, k5, k6, k7, k8, k9, k10, k11, k12⟩ := A1.cells13
  obtain ⟨f1, m1, r1⟩ := q1.mine
  have hwa : (wtMemS ms : Int) + (wtWrS ds : Int) ≤ 2097152 := by unfold wtArr at hw; omega
  go_wp2_with fail
  refine (markEntS_fp _ _ _ _ ds (1 + (cntMS ms : Int)) f1 m1 hw1 (by omega) (by omega)).mono ?_
  rintro e w2 ⟨rfl, p1, t2⟩
  have hb2 := t2.but (lo := m) (hi := hi) r1
  have s1 := hidden (p1.own r1)
  have s0 := hidden (q0.but hb2 (.inl (Nat.le_refl _)))
  have B2 := hidden (B1.trans ⟨hb2.os, hb2.tape, hb2.output, hb2.size, fun k hk ho => hb2.block k hk (by omega)⟩)
  clear k0 k1 k2 k3 k4 k5 k6 k7 k8 k9 k10 k11 k12 A1 hb2 t2 p1 m1 q0 q1 B1
  go_wp2
  go_ret
  exact ⟨rfl, s0.out, s1.out, B2.out⟩

end Go.Proofs.YthkpkpclmemodaaGreat

/-
  An array's data in memory of its own, whatever order its blocks lie in; the walk of the laws' mark over it. Condition: it weighs at most 2097152.
-/
namespace Go.Proofs.YthkpkpclmemodaaGreat
open Go.RowKit

/-- An array's disks and entries, in blocks lo .. hi of their own. -/
def ArrIn (w : World) (lo hi : Nat) (bm bd : Option Addr) (nm cm nd cd : Nat) (ms : List MemD) (ds : List (Int × List Int)) : Prop :=
  ∃ (fm fd : List Nat), (tMemS 104 73).Mine w [.slice bm nm cm] ms fm ∧ (tWrS 75).Mine w [.slice bd nd cd] ds fd ∧ (∀ b ∈ fm, b ∉ fd) ∧ (∀ b ∈ fm, lo ≤ b ∧ b < hi) ∧ ∀ b ∈ fd, lo ≤ b ∧ b < hi

theorem ArrIn.below {w w' : World} {lo hi : Nat} {bm bd : Option Addr} {nm cm nd cd : Nat} {ms : List MemD} {ds : List (Int × List Int)} (h : ArrIn w lo hi bm bd nm cm nd cd ms ds) (hb : Below w.heap.size w w') : ArrIn w' lo hi bm bd nm cm nd cd ms ds := by
  obtain ⟨fm, fd, h1, h2, h3⟩ := h
  exact ⟨fm, fd, h1.below hb, h2.below hb, h3⟩
theorem ArrIn.same {w w' : World} {lo hi : Nat} {bm bd : Option Addr} {nm cm nd cd : Nat} {ms : List MemD} {ds : List (Int × List Int)} (h : ArrIn w lo hi bm bd nm cm nd cd ms ds) (hs : Same w w') : ArrIn w' lo hi bm bd nm cm nd cd ms ds := h.below (hs.below _)
theorem ArrIn.but {w w' : World} {lo hi l u : Nat} {bm bd : Option Addr} {nm cm nd cd : Nat} {ms : List MemD} {ds : List (Int × List Int)} (h : ArrIn w lo hi bm bd nm cm nd cd ms ds) (hb : But l u w w') (hd : hi ≤ l ∨ u ≤ lo) : ArrIn w' lo hi bm bd nm cm nd cd ms ds := by
  obtain ⟨fm, fd, h1, h2, h3, h4, h5⟩ := h
  exact ⟨fm, fd, h1.but hb (fun b hb' => by have := h4 b hb'; omega), h2.but hb (fun b hb' => by have := h5 b hb'; omega), h3, h4, h5⟩
theorem ArrIn.rdm {w : World} {lo hi : Nat} {bm bd : Option Addr} {nm cm nd cd : Nat} {ms : List MemD} {ds : List (Int × List Int)} (h : ArrIn w lo hi bm bd nm cm nd cd ms ds) : (tMemS 104 73).Rd w [.slice bm nm cm] ms := by
  obtain ⟨fm, fd, h1, _⟩ := h
  exact h1.rd
theorem ArrIn.rdd {w : World} {lo hi : Nat} {bm bd : Option Addr} {nm cm nd cd : Nat} {ms : List MemD} {ds : List (Int × List Int)} (h : ArrIn w lo hi bm bd nm cm nd cd ms ds) : (tWrS 75).Rd w [.slice bd nd cd] ds := by
  obtain ⟨fm, fd, _, h2, _⟩ := h
  exact h2.rd
theorem ArrIn.widen {w : World} {lo hi lo' hi' : Nat} {bm bd : Option Addr} {nm cm nd cd : Nat} {ms : List MemD} {ds : List (Int × List Int)} (h : ArrIn w lo hi bm bd nm cm nd cd ms ds) (h1 : lo' ≤ lo) (h2 : hi ≤ hi') : ArrIn w lo' hi' bm bd nm cm nd cd ms ds := by
  obtain ⟨fm, fd, a1, a2, a3, a4, a5⟩ := h
  exact ⟨fm, fd, a1, a2, a3, fun b hb => by have := a4 b hb; omega, fun b hb => by have := a5 b hb; omega⟩
theorem ArrIn.of_own {w : World} {lo m hi : Nat} {bm bd : Option Addr} {nm cm nd cd : Nat} {ms : List MemD} {ds : List (Int × List Int)} (h0 : (tMemS 104 73).Own w lo m [.slice bm nm cm] ms) (h1 : (tWrS 75).Own w m hi [.slice bd nd cd] ds) (hlm : lo ≤ m) (hmh : m ≤ hi) : ArrIn w lo hi bm bd nm cm nd cd ms ds := by
  obtain ⟨fm, m0, r0⟩ := h0.mine
  obtain ⟨fd, m1, r1⟩ := h1.mine
  exact ⟨fm, fd, m0, m1, fun b hb hb' => by have h1 := r0 b hb; have h2 := r1 b hb'; omega, fun b hb => by have := r0 b hb; omega, fun b hb => by have := r1 b hb; omega⟩

set_option maxHeartbeats 1600000 in
theorem markArr_in (w : World) (lo hi : Nat) (x : ArrN) (bm bd : Option Addr) (nm cm nd cd : Nat) (ms : List MemD) (ds : List (Int × List Int)) (h : ArrIn w lo hi bm bd nm cm nd cd ms ds) (hhi : hi ≤ w.heap.size) (hw : wtArr ms ds ≤ 2097152) :
    Calls Tryz.prog 11 #[.agg #[.int .i64 x.id, .int .i64 x.n, .int .i64 x.s, .slice bm nm cm, .int .i64 x.lost, .int .i64 x.built, .int .i64 x.seq, .int .i64 x.tail, .int .i64 x.gen, .slice bd nd cd, .int .i64 x.fuse, .bool x.down, .bool x.broken], .int .i64 1] w fun e w' => e = .returned (.int .i64 (1 + (cntMS ms : Int) + (cntWS ds : Int))) ∧ ArrIn w' lo hi bm bd nm cm nd cd (markMS 1 ms) (markW (1 + (cntMS ms : Int)) ds) ∧ But lo hi w w' := by
  obtain ⟨f0, f1, h0, h1, hdis, r0, r1⟩ := h
  have hw0 : wtMemS ms ≤ 2097152 := by unfold wtArr at hw; omega
  have hw1 : wtWrS ds ≤ 2097152 := by unfold wtArr at hw; omega
  have hcm := cntMS_le ms
  have hA := new_below w (.cells #[.int .i64 x.id, .int .i64 x.n, .int .i64 x.s, .slice bm nm cm, .int .i64 x.lost, .int .i64 x.built, .int .i64 x.seq, .int .i64 x.tail, .int .i64 x.gen, .slice bd nd cd, .int .i64 x.fuse, .bool x.down, .bool x.broken] 33)
  have A := Box.new w 33 #[.int .i64 x.id, .int .i64 x.n, .int .i64 x.s, .slice bm nm cm, .int .i64 x.lost, .int .i64 x.built, .int .i64 x.seq, .int .i64 x.tail, .int .i64 x.gen, .slice bd nd cd, .int .i64 x.fuse, .bool x.down, .bool x.broken]
  obtain ⟨k0, k1, k2, k3, k4, k5, k6, k7, k8, k9, k10, k11, k12⟩ := A.cells13
  have m0 := h0.below hA
  have o1 := h1.below hA
  have zA := A.lt
  go_enter Tryz.func11, Tryz.ntmps11
  go_wp2_with fail
  generalize w.alloc (.cells #[.int .i64 x.id, .int .i64 x.n, .int .i64 x.s, .slice bm nm cm, .int .i64 x.lost, .int .i64 x.built, .int .i64 x.seq, .int .i64 x.tail, .int .i64 x.gen, .slice bd nd cd, .int .i64 x.fuse, .bool x.down, .bool x.broken] 33) = W at hA A m0 o1 zA k0 k1 k2 k3 k4 k5 k6 k7 k8 k9 k10 k11 k12 ⊢
  refine (markMemS_fp _ _ _ _ ms 1 f0 m0 hw0 (by omega) (by omega)).mono ?_
  rintro e w1 ⟨rfl, p0, t1⟩
  have hb1 := t1.but (lo := lo) (hi := hi) r0
  have m1 := o1.kept t1 (fun b hb hb' => hdis b hb' hb)
  have A1 := A.kept (hb1.block _ zA (by omega))
  have B1 := (But.of_below (lo := lo) (hi := hi) hA).trans hb1
  clear k0 k1 k2 k3 k4 k5 k6 k7 k8 k9 k10 k11 k12 A hb1 t1 m0 o1 hA
  obtain ⟨k0, k1, k2, k3, k4, k5, k6, k7, k8, k9, k10, k11, k12⟩ := A1.cells13
  have hwa : (wtMemS ms : Int) + (wtWrS ds : Int) ≤ 2097152 := by unfold wtArr at hw; omega
  go_wp2_with fail
  refine (markEntS_fp _ _ _ _ ds (1 + (cntMS ms : Int)) f1 m1 hw1 (by omega) (by omega)).mono ?_
  rintro e w2 ⟨rfl, p1, t2⟩
  have hb2 := t2.but (lo := lo) (hi := hi) r1
  have s0 := hidden (p0.kept t2 hdis)
  have s1 := hidden p1
  have B2 := hidden (B1.trans hb2)
  clear k0 k1 k2 k3 k4 k5 k6 k7 k8 k9 k10 k11 k12 A1 hb2 t2 p1 m1 p0 B1
  go_wp2
  go_ret
  exact ⟨rfl, ⟨f0, f1, s0.out, s1.out, hdis, r0, r1⟩, B2.out⟩

end Go.Proofs.YthkpkpclmemodaaGreat

/-
  The walks of the specification's looks at an array's entries, at the array as a whole, and whether a disk of it lives. Condition: it weighs at most 2097152.
-/
namespace Go.Proofs.YthkpkpclmemodaaGreat
open Go.RowKit

theorem entsB_no {x : ArrN} {ds : List (Int × List Int)} {i : Nat} {d : Int × List Int} (hx : ds[i]? = some d) (h : entAt x ds i d = false) : entsB x ds = false := allIx_no hx h
theorem entAt_1 {x : ArrN} {ds : List (Int × List Int)} {i : Nat} {y : Int} {zs : List Int} (h : inB y 0 (x.s - 1) = false) : entAt x ds i (y, zs) = false := by unfold entAt; rw [h]; rfl
theorem entAt_2 {x : ArrN} {ds : List (Int × List Int)} {i : Nat} {y : Int} {zs : List Int} (h : ¬ (zs.length : Int) = x.n - 1) : entAt x ds i (y, zs) = false := by unfold entAt; simp [h]
theorem entAt_3 {x : ArrN} {ds : List (Int × List Int)} {i : Nat} {y : Int} {zs : List Int} (h : allW zs = false) : entAt x ds i (y, zs) = false := by unfold entAt; simp [h]
theorem entAt_4 {x : ArrN} {ds : List (Int × List Int)} {y : Int} {zs : List Int} (h1 : inB y 0 (x.s - 1) = true) (h2 : (zs.length : Int) = x.n - 1) (h3 : allW zs = true) : entAt x ds 0 (y, zs) = true := by unfold entAt; simp [h1, h2, h3]
theorem entAt_5 {x : ArrN} {ds : List (Int × List Int)} {p : Nat} {y : Int} {zs : List Int} {q : Int × List Int} (h1 : inB y 0 (x.s - 1) = true) (h2 : (zs.length : Int) = x.n - 1) (h3 : allW zs = true) (hq : ds[p]? = some q) : entAt x ds (p + 1) (y, zs) = decide (q.1 < y) := by
  unfold entAt
  rw [h1, h3]
  have : ds.getD (p + 1 - 1) (0, []) = q := by rw [Nat.add_sub_cancel, List.getD_eq_getElem?_getD, hq]; rfl
  simp only [h2, decide_true, Bool.true_and, this]
  simp

set_option linter.unusedSimpArgs false in
set_option maxHeartbeats 3200000 in
theorem l6Dirty_any (w : World) (G : TypeId) (x : ArrN) (am ad : Option Addr) (nm cm nd cd : Nat) (ds : List (Int × List Int)) (h0 : (tWrS G).Rd w [.slice ad nd cd] ds) (hw : wtWrS ds ≤ 2097152) (hg : geoB x.n x.s = true) :
    Calls Tryz.prog 52 #[.agg #[.int .i64 x.id, .int .i64 x.n, .int .i64 x.s, .slice am nm cm, .int .i64 x.lost, .int .i64 x.built, .int .i64 x.seq, .int .i64 x.tail, .int .i64 x.gen, .slice ad nd cd, .int .i64 x.fuse, .bool x.down, .bool x.broken]] w fun e w' => e = .returned (.bool (entsB x ds)) ∧ Below w.heap.size w w' := by
  obtain ⟨hl, hc, hm⟩ := row_length h0
  obtain ⟨g1, g2, g3, g4⟩ := geoB_iff.1 hg
  have hA := new_below w (.cells #[.int .i64 x.id, .int .i64 x.n, .int .i64 x.s, .slice am nm cm, .int .i64 x.lost, .int .i64 x.built, .int .i64 x.seq, .int .i64 x.tail, .int .i64 x.gen, .slice ad nd cd, .int .i64 x.fuse, .bool x.down, .bool x.broken] 33)
  have X := Box.new w 33 #[.int .i64 x.id, .int .i64 x.n, .int .i64 x.s, .slice am nm cm, .int .i64 x.lost, .int .i64 x.built, .int .i64 x.seq, .int .i64 x.tail, .int .i64 x.gen, .slice ad nd cd, .int .i64 x.fuse, .bool x.down, .bool x.broken]
  have zA := X.lt
  have hnd : nd ≤ 2097152 := by unfold wtWrS at hw; omega
  have h1 := h0.below hA
  have hws : IntKind.i64.wrap (x.s - 1) = x.s - 1 := IntWalk.i64_in _ (by omega)
  have hwn : IntKind.i64.wrap (x.n - 1) = x.n - 1 := IntWalk.i64_in _ (by omega)
  go_enter Tryz.func52, Tryz.ntmps52
  go_wp2
  generalize w.alloc (.cells #[.int .i64 x.id, .int .i64 x.n, .int .i64 x.s, .slice am nm cm, .int .i64 x.lost, .int .i64 x.built, .int .i64 x.seq, .int .i64 x.tail, .int .i64 x.gen, .slice ad nd cd, .int .i64 x.fuse, .bool x.down, .bool x.broken] 33) = W at hA X zA h1 ⊢
  go_loopw [3] (fun i wr => ∃ j : Nat, j ≤ nd ∧ i = .int .i64 j ∧ (∀ (q : Nat) (d : Int × List Int), q < j → ds[q]? = some d → entAt x ds q d = true) ∧ Below W.heap.size W wr) (fun i _ => nd - (intOf i).toNat)
  case atStart => exact ⟨0, Nat.zero_le _, rfl, fun q d hq => by omega, Below.refl _ _⟩
  case round =>
    obtain ⟨j, hj, rfl, hall, hb⟩ := hrel
    have Xr := X.below hb zA
    obtain ⟨k0, k1, k2, k3, k4, k5, k6, k7, k8, k9, k10, k11, k12⟩ := Xr.cells13
    by_cases hjn : j < nd
    · rcases pairs_at rfl h1 with h0' | ⟨b, off, rfl, hbl, hcs⟩
      · omega
      have hdj : ds[j]? = some (ds[j]'(by omega)) := List.getElem?_eq_getElem (by omega)
      generalize ds[j]'(by omega) = d at hdj
      obtain ⟨v0, v1, hv0, hv1, hrv⟩ := hcs j d hdj
      obtain ⟨rfl, hrw⟩ := wr_rd hrv
      obtain ⟨av, cv, rfl⟩ := row_shape hrw
      obtain ⟨y, zs⟩ := d
      simp only at hv0 hv1 hrw hrv
      have u0 := (hb.cell (p := ⟨b, off + j * 2, none⟩) hbl).trans hv0
      have u1 := (hb.cell (p := ⟨b, off + j * 2 + 1, none⟩) hbl).trans hv1
      have i1 : (0 : Int) ≤ (j : Int) := by omega
      have i2 : (j : Int) < (nd : Int) := by omega
      have hwz : zs.length ≤ 2097152 := Nat.le_trans (inner_le' hdj) hw
      have HDJ := hidden hdj
      have b1 := new_below wr (.cells #[.int .i64 y, .slice av zs.length cv] 75)
      have Y1 := Box.new wr 75 #[.int .i64 y, .slice av zs.length cv]
      have X1 := Xr.below b1 Xr.lt
      have RZ := (ints_rd ((hrw.below hb).below b1)).1
      have B1 := hb.trans (b1.mono hb.size)
      obtain ⟨y0, y1⟩ := Y1.cells2
      obtain ⟨e0, e1, e2, e3, e4, e5, e6, e7, e8, e9, e10, e11, e12⟩ := X1.cells13
      have hq : ∀ (p : Nat) (q : Int × List Int), ds[p]? = some q → (wr.alloc (.cells #[.int .i64 y, .slice av zs.length cv] 75)).cell? ⟨b, off + p * 2, none⟩ = some (.int .i64 q.1) := fun p q hpq => by
        obtain ⟨c0, c1, hc0, hc1, hrc⟩ := hcs p q hpq
        obtain ⟨rfl, _⟩ := wr_rd hrc
        exact (B1.cell (p := ⟨b, off + p * 2, none⟩) hbl).trans hc0
      have HQ := hidden hq
      clear hcs hv0 hv1 hrv hrw hdj hq b1 e0 e3 e4 e5 e6 e7 e8 e10 e11 e12
      cases hI : inB y 0 (x.s - 1)
      · skip
        go_wp2_with fail
        generalize wr.alloc (.cells #[.int .i64 y, .slice av zs.length cv] 75) = w1 at X1 Y1 RZ B1 y0 y1 e1 e2 e9 HQ ⊢
        refine wp_region_held_drew (S := fun w' => w'.cell? ⟨wr.heap.size, 0, none⟩ = some (.int .i64 y) ∧ w'.cell? ⟨wr.heap.size, 1, none⟩ = some (.slice av zs.length cv) ∧ w'.cell? ⟨w.heap.size, 1, none⟩ = some (.int .i64 x.n) ∧ w'.cell? ⟨w.heap.size, 2, none⟩ = some (.int .i64 x.s) ∧ w'.cell? ⟨w.heap.size, 9, none⟩ = some (.slice (some ⟨b, off, none⟩) nd cd)) (by kernel_rfl) ?_ (fun hHeld => ?_)
        · exact ⟨y0, y1, e1, e2, e9⟩
        refine held_t 0 hHeld ?_
        refine held_t 1 hHeld ?_
        refine held_t 2 hHeld ?_
        refine held_t 3 hHeld ?_
        refine held_t 4 hHeld ?_
        refine held_t 5 hHeld ?_
        refine held_one (i := 6) (by kernel_rfl) rfl (by kernel_rfl) (fun K hK => ?_)
        go_simp
        refine (l1In_any _ _ _ _).mono ?_
        rintro e w2 ⟨rfl, hw2⟩
        subst hw2
        rw [hI]
        go_wp2_with fail
        clear hHeld
        refine hK.out _ _ ?_ (fun hHeld => ?_)
        · exact ⟨y0, y1, e1, e2, e9⟩
        clear hK K
        refine held_t 7 hHeld ?_
        refine held_t 8 hHeld ?_
        refine held_p 9 hHeld ?_
        refine held_p 10 hHeld ?_
        refine held_p 11 hHeld ?_
        refine held_p 12 hHeld ?_
        refine held_p 13 hHeld ?_
        refine held_p 14 hHeld ?_
        refine held_p 15 hHeld ?_
        refine held_p 16 hHeld ?_
        refine held_t 17 hHeld ?_
        refine held_t 18 hHeld ?_
        refine held_p 19 hHeld ?_
        refine held_p 20 hHeld ?_
        refine held_none (i := 21) (by kernel_rfl) rfl (by kernel_rfl) hHeld ?_
        simp only [Act.put, List.setIfInBounds_toArray, List.set_cons_zero, List.set_cons_succ]
        refine held_p 22 hHeld ?_
        refine held_t 23 hHeld ?_
        refine held_t 24 hHeld ?_
        refine held_p 25 hHeld ?_
        refine held_p 26 hHeld ?_
        refine held_p 27 hHeld ?_
        refine held_p 28 hHeld ?_
        refine held_p 29 hHeld ?_
        refine held_p 30 hHeld ?_
        refine held_p 31 hHeld ?_
        refine held_p 32 hHeld ?_
        refine held_p 33 hHeld ?_
        refine held_p 34 hHeld ?_
        refine held_p 35 hHeld ?_
        refine held_p 36 hHeld ?_
        refine held_p 37 hHeld ?_
        refine held_p 38 hHeld ?_
        refine held_t 39 hHeld ?_
        refine wpAnyH_done (by kernel_rfl) ?_ _
        clear hHeld
        have HB := hidden (hA.trans (B1.drew.mono hA.size))
        have HE := hidden (entsB_no (x := x) HDJ.out (entAt_1 hI))
        go_wp2
        go_ret
        exact ⟨ret_bool HE.out.symm, HB.out⟩
      · by_cases hL : (zs.length : Int) = x.n - 1
        · have hL1 : ((zs.length : Int) == x.n - 1) = true := by simpa using hL
          have hL2 : ((zs.length : Int) != x.n - 1) = false := by simpa using hL
          have HL := hidden hL
          clear hL
          cases hZ : allW zs
          · skip
            go_wp2_with fail
            generalize wr.alloc (.cells #[.int .i64 y, .slice av zs.length cv] 75) = w1 at X1 Y1 RZ B1 y0 y1 e1 e2 e9 HQ ⊢
            refine wp_region_held_drew (S := fun w' => w'.cell? ⟨wr.heap.size, 0, none⟩ = some (.int .i64 y) ∧ w'.cell? ⟨wr.heap.size, 1, none⟩ = some (.slice av zs.length cv) ∧ w'.cell? ⟨w.heap.size, 1, none⟩ = some (.int .i64 x.n) ∧ w'.cell? ⟨w.heap.size, 2, none⟩ = some (.int .i64 x.s) ∧ w'.cell? ⟨w.heap.size, 9, none⟩ = some (.slice (some ⟨b, off, none⟩) nd cd)) (by kernel_rfl) ?_ (fun hHeld => ?_)
            · exact ⟨y0, y1, e1, e2, e9⟩
            refine held_t 0 hHeld ?_
            refine held_t 1 hHeld ?_
            refine held_t 2 hHeld ?_
            refine held_t 3 hHeld ?_
            refine held_t 4 hHeld ?_
            refine held_t 5 hHeld ?_
            refine held_one (i := 6) (by kernel_rfl) rfl (by kernel_rfl) (fun K hK => ?_)
            go_simp
            refine (l1In_any _ _ _ _).mono ?_
            rintro e w2 ⟨rfl, hw2⟩
            subst hw2
            rw [hI]
            go_wp2_with fail
            clear hHeld
            refine hK.out _ _ ?_ (fun hHeld => ?_)
            · exact ⟨y0, y1, e1, e2, e9⟩
            clear hK K
            refine held_t 7 hHeld ?_
            refine held_t 8 hHeld ?_
            refine held_t 9 hHeld ?_
            refine held_t 10 hHeld ?_
            refine held_t 11 hHeld ?_
            refine held_t 12 hHeld ?_
            refine held_t 13 hHeld ?_
            refine held_t 14 hHeld ?_
            refine held_t 15 hHeld ?_
            refine held_t 16 hHeld ?_
            refine held_t 17 hHeld ?_
            refine held_t 18 hHeld ?_
            refine held_t 19 hHeld ?_
            refine held_t 20 hHeld ?_
            refine held_one (i := 21) (by kernel_rfl) rfl (by kernel_rfl) (fun K hK => ?_)
            go_simp
            refine (l1Words_any _ _ _ _ zs rfl RZ.draw hwz).mono ?_
            rintro e w2 ⟨rfl, hw2⟩
            subst hw2
            rw [hZ]
            go_wp2_with fail
            clear hHeld
            refine hK.out _ _ ?_ (fun hHeld => ?_)
            · exact ⟨y0, y1, e1, e2, e9⟩
            clear hK K
            refine held_t 22 hHeld ?_
            refine held_t 23 hHeld ?_
            refine held_t 24 hHeld ?_
            refine held_p 25 hHeld ?_
            refine held_p 26 hHeld ?_
            refine held_p 27 hHeld ?_
            refine held_p 28 hHeld ?_
            refine held_p 29 hHeld ?_
            refine held_p 30 hHeld ?_
            refine held_p 31 hHeld ?_
            refine held_p 32 hHeld ?_
            refine held_p 33 hHeld ?_
            refine held_p 34 hHeld ?_
            refine held_p 35 hHeld ?_
            refine held_p 36 hHeld ?_
            refine held_p 37 hHeld ?_
            refine held_p 38 hHeld ?_
            refine held_t 39 hHeld ?_
            refine wpAnyH_done (by kernel_rfl) ?_ _
            clear hHeld
            have HB := hidden (hA.trans (B1.drew.mono hA.size))
            have HE := hidden (entsB_no (x := x) HDJ.out (entAt_3 hZ))
            go_wp2
            go_ret
            exact ⟨ret_bool HE.out.symm, HB.out⟩
          · by_cases hj0 : j = 0
            · subst hj0
              simp only [Nat.zero_mul, Nat.add_zero] at u0 u1
              go_wp2_with fail
              generalize wr.alloc (.cells #[.int .i64 y, .slice av zs.length cv] 75) = w1 at X1 Y1 RZ B1 y0 y1 e1 e2 e9 HQ ⊢
              refine wp_region_held_drew (S := fun w' => w'.cell? ⟨wr.heap.size, 0, none⟩ = some (.int .i64 y) ∧ w'.cell? ⟨wr.heap.size, 1, none⟩ = some (.slice av zs.length cv) ∧ w'.cell? ⟨w.heap.size, 1, none⟩ = some (.int .i64 x.n) ∧ w'.cell? ⟨w.heap.size, 2, none⟩ = some (.int .i64 x.s) ∧ w'.cell? ⟨w.heap.size, 9, none⟩ = some (.slice (some ⟨b, off, none⟩) nd cd)) (by kernel_rfl) ?_ (fun hHeld => ?_)
              · exact ⟨y0, y1, e1, e2, e9⟩
              refine held_t 0 hHeld ?_
              refine held_t 1 hHeld ?_
              refine held_t 2 hHeld ?_
              refine held_t 3 hHeld ?_
              refine held_t 4 hHeld ?_
              refine held_t 5 hHeld ?_
              refine held_one (i := 6) (by kernel_rfl) rfl (by kernel_rfl) (fun K hK => ?_)
              go_simp
              refine (l1In_any _ _ _ _).mono ?_
              rintro e w2 ⟨rfl, hw2⟩
              subst hw2
              rw [hI]
              go_wp2_with fail
              clear hHeld
              refine hK.out _ _ ?_ (fun hHeld => ?_)
              · exact ⟨y0, y1, e1, e2, e9⟩
              clear hK K
              refine held_t 7 hHeld ?_
              refine held_t 8 hHeld ?_
              refine held_t 9 hHeld ?_
              refine held_t 10 hHeld ?_
              refine held_t 11 hHeld ?_
              refine held_t 12 hHeld ?_
              refine held_t 13 hHeld ?_
              refine held_t 14 hHeld ?_
              refine held_t 15 hHeld ?_
              refine held_t 16 hHeld ?_
              refine held_t 17 hHeld ?_
              refine held_t 18 hHeld ?_
              refine held_t 19 hHeld ?_
              refine held_t 20 hHeld ?_
              refine held_one (i := 21) (by kernel_rfl) rfl (by kernel_rfl) (fun K hK => ?_)
              go_simp
              refine (l1Words_any _ _ _ _ zs rfl RZ.draw hwz).mono ?_
              rintro e w2 ⟨rfl, hw2⟩
              subst hw2
              rw [hZ]
              go_wp2_with fail
              clear hHeld
              refine hK.out _ _ ?_ (fun hHeld => ?_)
              · exact ⟨y0, y1, e1, e2, e9⟩
              clear hK K
              refine held_t 22 hHeld ?_
              refine held_t 23 hHeld ?_
              refine held_t 24 hHeld ?_
              refine held_t 25 hHeld ?_
              refine held_t 26 hHeld ?_
              refine held_t 27 hHeld ?_
              refine held_p 28 hHeld ?_
              refine held_p 29 hHeld ?_
              refine held_p 30 hHeld ?_
              refine held_p 31 hHeld ?_
              refine held_p 32 hHeld ?_
              refine held_p 33 hHeld ?_
              refine held_p 34 hHeld ?_
              refine held_p 35 hHeld ?_
              refine held_p 36 hHeld ?_
              refine held_p 37 hHeld ?_
              refine held_t 38 hHeld ?_
              refine held_t 39 hHeld ?_
              refine wpAnyH_done (by kernel_rfl) ?_ _
              clear hHeld
              have HB := hidden B1.drew
              have hat : entAt x ds (0) (y, zs) = true := entAt_4 hI HL.out hZ
              go_wp2
              go_roundw
              case rel => exact ⟨0 + 1, by omega, by go_num, fun q d hq hm' => by
                  rcases Nat.lt_or_ge q (0) with h | h
                  · exact hall q d h hm'
                  · obtain rfl : q = 0 := by omega
                    rw [HDJ.out] at hm'
                    cases hm'
                    exact hat, HB.out⟩
              case measure => simp [intOf]; omega
            · obtain ⟨p, rfl⟩ : ∃ p, j = p + 1 := ⟨j - 1, by omega⟩
              have hpq : ds[p]? = some (ds[p]'(by omega)) := List.getElem?_eq_getElem (by omega)
              generalize ds[p]'(by omega) = q at hpq
              have hE := entAt_5 hI HL.out hZ hpq
              have qc := HQ.out p q hpq
              obtain ⟨s, zq⟩ := q
              simp only at qc hE
              have HE5 := hidden hE
              clear hpq hE
              have j1 : IntKind.i64.wrap (((p + 1 : Nat) : Int) - 1) = (p : Int) := by rw [IntWalk.i64_in _ (by omega)]; omega
              have j2 : IntKind.i64.wrap ((p : Int) + 1 - 1) = (p : Int) := by rw [IntWalk.i64_in _ (by omega)]; omega
              have j3 : IntKind.i64.wrap (p : Int) = (p : Int) := IntWalk.i64_in _ (by omega)
              have j4 : (0 : Int) ≤ (p : Int) := by omega
              have j5 : (p : Int) < (nd : Int) := by omega
              have j6 : (0 : Int) < ((p + 1 : Nat) : Int) := by omega
              by_cases hlt : s < y
              · have hd1 : decide (s < y) = true := by simpa using hlt
                have hge : ¬ y ≤ s := by omega
                go_wp2_with fail
                generalize wr.alloc (.cells #[.int .i64 y, .slice av zs.length cv] 75) = w1 at X1 Y1 RZ B1 y0 y1 e1 e2 e9 HQ qc ⊢
                refine wp_region_held_drew (S := fun w' => w'.cell? ⟨wr.heap.size, 0, none⟩ = some (.int .i64 y) ∧ w'.cell? ⟨wr.heap.size, 1, none⟩ = some (.slice av zs.length cv) ∧ w'.cell? ⟨w.heap.size, 1, none⟩ = some (.int .i64 x.n) ∧ w'.cell? ⟨w.heap.size, 2, none⟩ = some (.int .i64 x.s) ∧ w'.cell? ⟨w.heap.size, 9, none⟩ = some (.slice (some ⟨b, off, none⟩) nd cd) ∧ w'.cell? ⟨b, off + p * 2, none⟩ = some (.int .i64 s)) (by kernel_rfl) ?_ (fun hHeld => ?_)
                · exact ⟨y0, y1, e1, e2, e9, qc⟩
                refine held_t 0 hHeld ?_
                refine held_t 1 hHeld ?_
                refine held_t 2 hHeld ?_
                refine held_t 3 hHeld ?_
                refine held_t 4 hHeld ?_
                refine held_t 5 hHeld ?_
                refine held_one (i := 6) (by kernel_rfl) rfl (by kernel_rfl) (fun K hK => ?_)
                go_simp
                refine (l1In_any _ _ _ _).mono ?_
                rintro e w2 ⟨rfl, hw2⟩
                subst hw2
                rw [hI]
                go_wp2_with fail
                clear hHeld
                refine hK.out _ _ ?_ (fun hHeld => ?_)
                · exact ⟨y0, y1, e1, e2, e9, qc⟩
                clear hK K
                refine held_t 7 hHeld ?_
                refine held_t 8 hHeld ?_
                refine held_t 9 hHeld ?_
                refine held_t 10 hHeld ?_
                refine held_t 11 hHeld ?_
                refine held_t 12 hHeld ?_
                refine held_t 13 hHeld ?_
                refine held_t 14 hHeld ?_
                refine held_t 15 hHeld ?_
                refine held_t 16 hHeld ?_
                refine held_t 17 hHeld ?_
                refine held_t 18 hHeld ?_
                refine held_t 19 hHeld ?_
                refine held_t 20 hHeld ?_
                refine held_one (i := 21) (by kernel_rfl) rfl (by kernel_rfl) (fun K hK => ?_)
                go_simp
                refine (l1Words_any _ _ _ _ zs rfl RZ.draw hwz).mono ?_
                rintro e w2 ⟨rfl, hw2⟩
                subst hw2
                rw [hZ]
                go_wp2_with fail
                clear hHeld
                refine hK.out _ _ ?_ (fun hHeld => ?_)
                · exact ⟨y0, y1, e1, e2, e9, qc⟩
                clear hK K
                refine held_t 22 hHeld ?_
                refine held_t 23 hHeld ?_
                refine held_t 24 hHeld ?_
                refine held_t 25 hHeld ?_
                refine held_t 26 hHeld ?_
                refine held_t 27 hHeld ?_
                refine held_t 28 hHeld ?_
                refine held_t 29 hHeld ?_
                refine held_t 30 hHeld ?_
                refine held_t 31 hHeld ?_
                refine held_t 32 hHeld ?_
                refine held_t 33 hHeld ?_
                refine held_t 34 hHeld ?_
                refine held_t 35 hHeld ?_
                refine held_t 36 hHeld ?_
                refine held_t 37 hHeld ?_
                refine held_t 38 hHeld ?_
                refine held_t 39 hHeld ?_
                refine wpAnyH_done (by kernel_rfl) ?_ _
                clear hHeld
                have HB := hidden B1.drew
                have hat : entAt x ds (p + 1) (y, zs) = true := HE5.out.trans hd1
                go_wp2
                go_roundw
                case rel => exact ⟨p + 1 + 1, by omega, by go_num, fun q d hq hm' => by
                    rcases Nat.lt_or_ge q (p + 1) with h | h
                    · exact hall q d h hm'
                    · obtain rfl : q = p + 1 := by omega
                      rw [HDJ.out] at hm'
                      cases hm'
                      exact hat, HB.out⟩
                case measure => simp [intOf]; omega
              · have hd1 : decide (s < y) = false := by simpa using hlt
                have hge : y ≤ s := by omega
                go_wp2_with fail
                generalize wr.alloc (.cells #[.int .i64 y, .slice av zs.length cv] 75) = w1 at X1 Y1 RZ B1 y0 y1 e1 e2 e9 HQ qc ⊢
                refine wp_region_held_drew (S := fun w' => w'.cell? ⟨wr.heap.size, 0, none⟩ = some (.int .i64 y) ∧ w'.cell? ⟨wr.heap.size, 1, none⟩ = some (.slice av zs.length cv) ∧ w'.cell? ⟨w.heap.size, 1, none⟩ = some (.int .i64 x.n) ∧ w'.cell? ⟨w.heap.size, 2, none⟩ = some (.int .i64 x.s) ∧ w'.cell? ⟨w.heap.size, 9, none⟩ = some (.slice (some ⟨b, off, none⟩) nd cd) ∧ w'.cell? ⟨b, off + p * 2, none⟩ = some (.int .i64 s)) (by kernel_rfl) ?_ (fun hHeld => ?_)
                · exact ⟨y0, y1, e1, e2, e9, qc⟩
                refine held_t 0 hHeld ?_
                refine held_t 1 hHeld ?_
                refine held_t 2 hHeld ?_
                refine held_t 3 hHeld ?_
                refine held_t 4 hHeld ?_
                refine held_t 5 hHeld ?_
                refine held_one (i := 6) (by kernel_rfl) rfl (by kernel_rfl) (fun K hK => ?_)
                go_simp
                refine (l1In_any _ _ _ _).mono ?_
                rintro e w2 ⟨rfl, hw2⟩
                subst hw2
                rw [hI]
                go_wp2_with fail
                clear hHeld
                refine hK.out _ _ ?_ (fun hHeld => ?_)
                · exact ⟨y0, y1, e1, e2, e9, qc⟩
                clear hK K
                refine held_t 7 hHeld ?_
                refine held_t 8 hHeld ?_
                refine held_t 9 hHeld ?_
                refine held_t 10 hHeld ?_
                refine held_t 11 hHeld ?_
                refine held_t 12 hHeld ?_
                refine held_t 13 hHeld ?_
                refine held_t 14 hHeld ?_
                refine held_t 15 hHeld ?_
                refine held_t 16 hHeld ?_
                refine held_t 17 hHeld ?_
                refine held_t 18 hHeld ?_
                refine held_t 19 hHeld ?_
                refine held_t 20 hHeld ?_
                refine held_one (i := 21) (by kernel_rfl) rfl (by kernel_rfl) (fun K hK => ?_)
                go_simp
                refine (l1Words_any _ _ _ _ zs rfl RZ.draw hwz).mono ?_
                rintro e w2 ⟨rfl, hw2⟩
                subst hw2
                rw [hZ]
                go_wp2_with fail
                clear hHeld
                refine hK.out _ _ ?_ (fun hHeld => ?_)
                · exact ⟨y0, y1, e1, e2, e9, qc⟩
                clear hK K
                refine held_t 22 hHeld ?_
                refine held_t 23 hHeld ?_
                refine held_t 24 hHeld ?_
                refine held_t 25 hHeld ?_
                refine held_t 26 hHeld ?_
                refine held_t 27 hHeld ?_
                refine held_t 28 hHeld ?_
                refine held_t 29 hHeld ?_
                refine held_t 30 hHeld ?_
                refine held_t 31 hHeld ?_
                refine held_t 32 hHeld ?_
                refine held_t 33 hHeld ?_
                refine held_t 34 hHeld ?_
                refine held_t 35 hHeld ?_
                refine held_t 36 hHeld ?_
                refine held_t 37 hHeld ?_
                refine held_t 38 hHeld ?_
                refine held_t 39 hHeld ?_
                refine wpAnyH_done (by kernel_rfl) ?_ _
                clear hHeld
                have HB := hidden (hA.trans (B1.drew.mono hA.size))
                have HE := hidden (entsB_no (x := x) HDJ.out (HE5.out.trans hd1))
                go_wp2
                go_ret
                exact ⟨ret_bool HE.out.symm, HB.out⟩
        · have hL1 : ((zs.length : Int) == x.n - 1) = false := by simpa using hL
          have hL2 : ((zs.length : Int) != x.n - 1) = true := by simpa using hL
          have HL := hidden hL
          clear hL
          go_wp2_with fail
          generalize wr.alloc (.cells #[.int .i64 y, .slice av zs.length cv] 75) = w1 at X1 Y1 RZ B1 y0 y1 e1 e2 e9 HQ ⊢
          refine wp_region_held_drew (S := fun w' => w'.cell? ⟨wr.heap.size, 0, none⟩ = some (.int .i64 y) ∧ w'.cell? ⟨wr.heap.size, 1, none⟩ = some (.slice av zs.length cv) ∧ w'.cell? ⟨w.heap.size, 1, none⟩ = some (.int .i64 x.n) ∧ w'.cell? ⟨w.heap.size, 2, none⟩ = some (.int .i64 x.s) ∧ w'.cell? ⟨w.heap.size, 9, none⟩ = some (.slice (some ⟨b, off, none⟩) nd cd)) (by kernel_rfl) ?_ (fun hHeld => ?_)
          · exact ⟨y0, y1, e1, e2, e9⟩
          refine held_t 0 hHeld ?_
          refine held_t 1 hHeld ?_
          refine held_t 2 hHeld ?_
          refine held_t 3 hHeld ?_
          refine held_t 4 hHeld ?_
          refine held_t 5 hHeld ?_
          refine held_one (i := 6) (by kernel_rfl) rfl (by kernel_rfl) (fun K hK => ?_)
          go_simp
          refine (l1In_any _ _ _ _).mono ?_
          rintro e w2 ⟨rfl, hw2⟩
          subst hw2
          rw [hI]
          go_wp2_with fail
          clear hHeld
          refine hK.out _ _ ?_ (fun hHeld => ?_)
          · exact ⟨y0, y1, e1, e2, e9⟩
          clear hK K
          refine held_t 7 hHeld ?_
          refine held_t 8 hHeld ?_
          refine held_t 9 hHeld ?_
          refine held_t 10 hHeld ?_
          refine held_t 11 hHeld ?_
          refine held_t 12 hHeld ?_
          refine held_t 13 hHeld ?_
          refine held_t 14 hHeld ?_
          refine held_t 15 hHeld ?_
          refine held_t 16 hHeld ?_
          refine held_t 17 hHeld ?_
          refine held_t 18 hHeld ?_
          refine held_p 19 hHeld ?_
          refine held_p 20 hHeld ?_
          refine held_none (i := 21) (by kernel_rfl) rfl (by kernel_rfl) hHeld ?_
          simp only [Act.put, List.setIfInBounds_toArray, List.set_cons_zero, List.set_cons_succ]
          refine held_p 22 hHeld ?_
          refine held_t 23 hHeld ?_
          refine held_t 24 hHeld ?_
          refine held_p 25 hHeld ?_
          refine held_p 26 hHeld ?_
          refine held_p 27 hHeld ?_
          refine held_p 28 hHeld ?_
          refine held_p 29 hHeld ?_
          refine held_p 30 hHeld ?_
          refine held_p 31 hHeld ?_
          refine held_p 32 hHeld ?_
          refine held_p 33 hHeld ?_
          refine held_p 34 hHeld ?_
          refine held_p 35 hHeld ?_
          refine held_p 36 hHeld ?_
          refine held_p 37 hHeld ?_
          refine held_p 38 hHeld ?_
          refine held_t 39 hHeld ?_
          refine wpAnyH_done (by kernel_rfl) ?_ _
          clear hHeld
          have HB := hidden (hA.trans (B1.drew.mono hA.size))
          have HE := hidden (entsB_no (x := x) HDJ.out (entAt_2 HL.out))
          go_wp2
          go_ret
          exact ⟨ret_bool HE.out.symm, HB.out⟩
    · have ej : j = nd := by omega
      subst ej
      have hAll : entsB x ds = true := allIx_iff.2 (fun q d hq => hall q d (by have := (List.getElem?_eq_some_iff.1 hq).1; omega) hq)
      have HB := hidden (hA.trans (hb.mono hA.size))
      go_wp2
      go_ret
      exact ⟨ret_bool hAll.symm, HB.out⟩

end Go.Proofs.YthkpkpclmemodaaGreat

/-
  The walks of the specification's looks whether an array is right, and whether a disk of it lives at a stripe. Condition: it weighs at most 2097152.
-/
namespace Go.Proofs.YthkpkpclmemodaaGreat
open Go.RowKit

def liveB (x : ArrN) (ms : List MemD) (m s : Int) : Bool := inB m 0 ((ms.length : Int) - 1) && (!(ms.getD m.toNat ([], [], false, [])).2.2.1 && (!decide (m = x.lost) || decide (s < x.built)))

set_option maxHeartbeats 3200000 in
theorem specArrOk_any (w : World) (E F G : TypeId) (x : ArrN) (am ad : Option Addr) (nm cm nd cd : Nat) (ms : List MemD) (ds : List (Int × List Int)) (h0 : (tMemS E F).Rd w [.slice am nm cm] ms) (h1 : (tWrS G).Rd w [.slice ad nd cd] ds) (hw : wtArr ms ds ≤ 2097152) :
    Calls Tryz.prog 23 #[.agg #[.int .i64 x.id, .int .i64 x.n, .int .i64 x.s, .slice am nm cm, .int .i64 x.lost, .int .i64 x.built, .int .i64 x.seq, .int .i64 x.tail, .int .i64 x.gen, .slice ad nd cd, .int .i64 x.fuse, .bool x.down, .bool x.broken]] w fun e w' => e = .returned (.bool (arrB x ms ds)) ∧ Below w.heap.size w w' := by
  have hwm : wtMemS ms ≤ 2097152 := by unfold wtArr at hw; omega
  have hwd : wtWrS ds ≤ 2097152 := by unfold wtArr at hw; omega
  have hA := new_below w (.cells #[.int .i64 x.id, .int .i64 x.n, .int .i64 x.s, .slice am nm cm, .int .i64 x.lost, .int .i64 x.built, .int .i64 x.seq, .int .i64 x.tail, .int .i64 x.gen, .slice ad nd cd, .int .i64 x.fuse, .bool x.down, .bool x.broken] 33)
  have X := Box.new w 33 #[.int .i64 x.id, .int .i64 x.n, .int .i64 x.s, .slice am nm cm, .int .i64 x.lost, .int .i64 x.built, .int .i64 x.seq, .int .i64 x.tail, .int .i64 x.gen, .slice ad nd cd, .int .i64 x.fuse, .bool x.down, .bool x.broken]
  obtain ⟨k0, k1, k2, k3, k4, k5, k6, k7, k8, k9, k10, k11, k12⟩ := X.cells13
  have zA := X.lt
  have r0 := h0.below hA
  have r1 := h1.below hA
  go_enter Tryz.func23, Tryz.ntmps23
  go_wp2_with fail
  generalize w.alloc (.cells #[.int .i64 x.id, .int .i64 x.n, .int .i64 x.s, .slice am nm cm, .int .i64 x.lost, .int .i64 x.built, .int .i64 x.seq, .int .i64 x.tail, .int .i64 x.gen, .slice ad nd cd, .int .i64 x.fuse, .bool x.down, .bool x.broken] 33) = W at hA X zA r0 r1 k0 k1 k2 k3 k4 k5 k6 k7 k8 k9 k10 k11 k12 ⊢
  refine (specGeoOk_any _ _ _).mono ?_
  rintro e w1 ⟨rfl, b1⟩
  have X1 := X.below b1 X.lt
  have B1 := Below.andThen hA b1
  have q1 := r0.below b1
  have t1 := r1.below b1
  clear k0 k1 k2 k3 k4 k5 k6 k7 k8 k9 k10 k11 k12 b1 hA X r0 r1
  obtain ⟨k0, k1, k2, k3, k4, k5, k6, k7, k8, k9, k10, k11, k12⟩ := X1.cells13
  cases hg : geoB x.n x.s
  · skip
    have HF : Hid (arrB x ms ds = false) := by unfold Hid arrB; simp [hg]
    go_wp2
    go_ret
    exact ⟨ret_bool HF.out.symm, B1⟩
  · obtain ⟨g1, g2, g3, g4⟩ := geoB_iff.1 hg
    have hws : IntKind.i64.wrap (x.n - 1) = x.n - 1 := IntWalk.i64_in _ (by omega)
    go_wp2_with fail
    refine (l1In_any _ _ _ _).mono ?_
    rintro e wq ⟨rfl, hq⟩
    obtain rfl := hq.symm
    cases hid : inB x.id 1 60000
    · skip
      have HF : Hid (arrB x ms ds = false) := by unfold Hid arrB; simp [hid]
      go_wp2
      go_ret
      exact ⟨ret_bool HF.out.symm, B1⟩
    · skip
      go_wp2_with fail
      refine (l6Mems_any _ E F x _ _ _ _ _ _ ms q1 hwm hg).mono ?_
      rintro e w2 ⟨rfl, b2⟩
      have X2 := X1.below b2 X1.lt
      have B2 := Below.andThen B1 b2
      have q2 := q1.below b2
      have t2 := t1.below b2
      clear k0 k1 k2 k3 k4 k5 k6 k7 k8 k9 k10 k11 k12 b2 B1 X1 q1 t1
      obtain ⟨k0, k1, k2, k3, k4, k5, k6, k7, k8, k9, k10, k11, k12⟩ := X2.cells13
      cases hms : memsB x ms
      · skip
        have HF : Hid (arrB x ms ds = false) := by unfold Hid arrB; simp [hms]
        go_wp2
        go_ret
        exact ⟨ret_bool HF.out.symm, B2⟩
      · skip
        go_wp2_with fail
        refine (l6Dirty_any _ G x _ _ _ _ _ _ ds t2 hwd hg).mono ?_
        rintro e w3 ⟨rfl, b3⟩
        have X3 := X2.below b3 X2.lt
        have B3 := Below.andThen B2 b3
        have q3 := q2.below b3
        have t3 := t2.below b3
        clear k0 k1 k2 k3 k4 k5 k6 k7 k8 k9 k10 k11 k12 b3 B2 X2 q2 t2
        obtain ⟨k0, k1, k2, k3, k4, k5, k6, k7, k8, k9, k10, k11, k12⟩ := X3.cells13
        cases hds : entsB x ds
        · skip
          have HF : Hid (arrB x ms ds = false) := by unfold Hid arrB; simp [hds]
          go_wp2
          go_ret
          exact ⟨ret_bool HF.out.symm, B3⟩
        · skip
          go_wp2_with fail
          refine (l1In_any _ _ _ _).mono ?_
          rintro e wq ⟨rfl, hq⟩
          obtain rfl := hq.symm
          cases hlo : inB x.lost (-1) (x.n - 1)
          · skip
            have HF : Hid (arrB x ms ds = false) := by unfold Hid arrB; simp [lostB6, hlo]
            go_wp2
            go_ret
            exact ⟨ret_bool HF.out.symm, B3⟩
          · skip
            go_wp2_with fail
            refine (l1In_any _ _ _ _).mono ?_
            rintro e wq ⟨rfl, hq⟩
            obtain rfl := hq.symm
            cases hbu : inB x.built 0 x.s
            · skip
              have HF : Hid (arrB x ms ds = false) := by unfold Hid arrB; simp [lostB6, hbu]
              go_wp2
              go_ret
              exact ⟨ret_bool HF.out.symm, B3⟩
            · skip
              have hlb : (x.lost = -1 ∧ ¬ x.built = 0) ∨ (x.lost = -1 ∧ x.built = 0) ∨ ¬ x.lost = -1 := by omega
              have HLB : Hid (lostB6 x = (!decide (x.lost = -1) || decide (x.built = 0))) := by unfold Hid lostB6; rw [hlo, hbu]; simp
              rcases hlb with ⟨l1, l2⟩ | ⟨l1, l2⟩ | l1
              · have e1 : (x.lost == -1) = true := by simpa using l1
                have e2 : (x.built != 0) = true := by simpa using l2
                have e3 : (x.built == 0) = false := by simpa using l2
                have hL : lostB6 x = false := by rw [HLB.out]; simp [l1, l2]
                rw [l1] at k4
                have HF : Hid (arrB x ms ds = false) := by unfold Hid arrB; simp [hL]
                clear hL l1 l2
                go_wp2
                go_ret
                exact ⟨ret_bool HF.out.symm, B3⟩
              · have e1 : (x.lost == -1) = true := by simpa using l1
                have e2 : (x.built != 0) = false := by simpa using l2
                have e3 : (x.built == 0) = true := by simpa using l2
                have HLT : Hid (lostB6 x = true) := by unfold Hid; rw [HLB.out]; simp [l2]
                rw [l1] at k4
                rw [l2] at k5
                clear l1 l2
                have HT : Hid (arrB x ms ds = seqB6 x) := by unfold Hid arrB; rw [hg, hid, hms, hds, HLT.out]; rfl
                go_wp2_with fail
                refine (l1In_any _ _ _ _).mono ?_
                rintro e wq ⟨rfl, hq⟩
                obtain rfl := hq.symm
                cases ht : inB x.tail 0 60000
                · have HF : Hid (arrB x ms ds = false) := by unfold Hid; rw [HT.out]; unfold seqB6; simp [ht]
                  go_wp2
                  go_ret
                  exact ⟨ret_bool HF.out.symm, B3⟩
                · skip
                  have ht2 : 0 ≤ x.tail ∧ x.tail ≤ 60000 := by unfold inB at ht; simpa using ht
                  have hw4 : IntKind.i64.wrap (x.tail + 4) = x.tail + 4 := IntWalk.i64_in _ (by omega)
                  go_wp2_with fail
                  refine (l1In_any _ _ _ _).mono ?_
                  rintro e wq ⟨rfl, hq⟩
                  obtain rfl := hq.symm
                  cases hs : inB x.seq x.tail 60000
                  · have HF : Hid (arrB x ms ds = false) := by unfold Hid; rw [HT.out]; unfold seqB6; simp [hs]
                    go_wp2
                    go_ret
                    exact ⟨ret_bool HF.out.symm, B3⟩
                  · skip
                    by_cases hle : x.seq ≤ x.tail + 4
                    · skip
                      go_wp2_with fail
                      refine (l1In_any _ _ _ _).mono ?_
                      rintro e wq ⟨rfl, hq⟩
                      obtain rfl := hq.symm
                      cases hge : inB x.gen 0 60000
                      · have HF : Hid (arrB x ms ds = false) := by unfold Hid; rw [HT.out]; unfold seqB6; simp [hge]
                        go_wp2
                        go_ret
                        exact ⟨ret_bool HF.out.symm, B3⟩
                      · skip
                        have HF : Hid (arrB x ms ds = inB x.fuse (-1) 1000) := by unfold Hid; rw [HT.out]; unfold seqB6; simp [ht, hs, hle, hge]
                        go_wp2_with fail
                        refine (l1In_any _ _ _ _).mono ?_
                        rintro e wq ⟨rfl, hq⟩
                        obtain rfl := hq.symm
                        cases hfu : inB x.fuse (-1) 1000
                        · go_wp2
                          go_ret
                          exact ⟨ret_bool (by rw [HF.out, hfu]), B3⟩
                        · go_wp2
                          go_ret
                          exact ⟨ret_bool (by rw [HF.out, hfu]), B3⟩
                    · have HF : Hid (arrB x ms ds = false) := by unfold Hid; rw [HT.out]; unfold seqB6; simp; omega
                      have hgt : x.tail + 4 < x.seq := by omega
                      go_wp2
                      go_ret
                      exact ⟨ret_bool HF.out.symm, B3⟩
              · have e1 : (x.lost == -1) = false := by simpa using l1
                have HLT : Hid (lostB6 x = true) := by unfold Hid; rw [HLB.out]; simp [l1]
                clear l1
                have HT : Hid (arrB x ms ds = seqB6 x) := by unfold Hid arrB; rw [hg, hid, hms, hds, HLT.out]; rfl
                go_wp2_with fail
                refine (l1In_any _ _ _ _).mono ?_
                rintro e wq ⟨rfl, hq⟩
                obtain rfl := hq.symm
                cases ht : inB x.tail 0 60000
                · have HF : Hid (arrB x ms ds = false) := by unfold Hid; rw [HT.out]; unfold seqB6; simp [ht]
                  go_wp2
                  go_ret
                  exact ⟨ret_bool HF.out.symm, B3⟩
                · skip
                  have ht2 : 0 ≤ x.tail ∧ x.tail ≤ 60000 := by unfold inB at ht; simpa using ht
                  have hw4 : IntKind.i64.wrap (x.tail + 4) = x.tail + 4 := IntWalk.i64_in _ (by omega)
                  go_wp2_with fail
                  refine (l1In_any _ _ _ _).mono ?_
                  rintro e wq ⟨rfl, hq⟩
                  obtain rfl := hq.symm
                  cases hs : inB x.seq x.tail 60000
                  · have HF : Hid (arrB x ms ds = false) := by unfold Hid; rw [HT.out]; unfold seqB6; simp [hs]
                    go_wp2
                    go_ret
                    exact ⟨ret_bool HF.out.symm, B3⟩
                  · skip
                    by_cases hle : x.seq ≤ x.tail + 4
                    · skip
                      go_wp2_with fail
                      refine (l1In_any _ _ _ _).mono ?_
                      rintro e wq ⟨rfl, hq⟩
                      obtain rfl := hq.symm
                      cases hge : inB x.gen 0 60000
                      · have HF : Hid (arrB x ms ds = false) := by unfold Hid; rw [HT.out]; unfold seqB6; simp [hge]
                        go_wp2
                        go_ret
                        exact ⟨ret_bool HF.out.symm, B3⟩
                      · skip
                        have HF : Hid (arrB x ms ds = inB x.fuse (-1) 1000) := by unfold Hid; rw [HT.out]; unfold seqB6; simp [ht, hs, hle, hge]
                        go_wp2_with fail
                        refine (l1In_any _ _ _ _).mono ?_
                        rintro e wq ⟨rfl, hq⟩
                        obtain rfl := hq.symm
                        cases hfu : inB x.fuse (-1) 1000
                        · go_wp2
                          go_ret
                          exact ⟨ret_bool (by rw [HF.out, hfu]), B3⟩
                        · go_wp2
                          go_ret
                          exact ⟨ret_bool (by rw [HF.out, hfu]), B3⟩
                    · have HF : Hid (arrB x ms ds = false) := by unfold Hid; rw [HT.out]; unfold seqB6; simp; omega
                      have hgt : x.tail + 4 < x.seq := by omega
                      go_wp2
                      go_ret
                      exact ⟨ret_bool HF.out.symm, B3⟩

set_option maxHeartbeats 1600000 in
theorem specLiveAt_any (w : World) (E F : TypeId) (x : ArrN) (am ad : Option Addr) (nm cm nd cd : Nat) (ms : List MemD) (m s : Int) (h0 : (tMemS E F).Rd w [.slice am nm cm] ms) (hw : wtMemS ms ≤ 2097152) :
    Calls Tryz.prog 111 #[.agg #[.int .i64 x.id, .int .i64 x.n, .int .i64 x.s, .slice am nm cm, .int .i64 x.lost, .int .i64 x.built, .int .i64 x.seq, .int .i64 x.tail, .int .i64 x.gen, .slice ad nd cd, .int .i64 x.fuse, .bool x.down, .bool x.broken], .int .i64 m, .int .i64 s] w fun e w' => e = .returned (.bool (liveB x ms m s)) ∧ Below w.heap.size w w' := by
  obtain ⟨hl, hc, hm⟩ := row_length h0
  have hnm : nm ≤ 2097152 := by unfold wtMemS at hw; omega
  have hA := new_below w (.cells #[.int .i64 x.id, .int .i64 x.n, .int .i64 x.s, .slice am nm cm, .int .i64 x.lost, .int .i64 x.built, .int .i64 x.seq, .int .i64 x.tail, .int .i64 x.gen, .slice ad nd cd, .int .i64 x.fuse, .bool x.down, .bool x.broken] 33)
  have X := Box.new w 33 #[.int .i64 x.id, .int .i64 x.n, .int .i64 x.s, .slice am nm cm, .int .i64 x.lost, .int .i64 x.built, .int .i64 x.seq, .int .i64 x.tail, .int .i64 x.gen, .slice ad nd cd, .int .i64 x.fuse, .bool x.down, .bool x.broken]
  obtain ⟨k0, k1, k2, k3, k4, k5, k6, k7, k8, k9, k10, k11, k12⟩ := X.cells13
  have h1 := h0.below hA
  have hwn : IntKind.i64.wrap ((nm : Int) - 1) = (nm : Int) - 1 := IntWalk.i64_in _ (by omega)
  go_enter Tryz.func111, Tryz.ntmps111
  go_wp2_with fail
  generalize w.alloc (.cells #[.int .i64 x.id, .int .i64 x.n, .int .i64 x.s, .slice am nm cm, .int .i64 x.lost, .int .i64 x.built, .int .i64 x.seq, .int .i64 x.tail, .int .i64 x.gen, .slice ad nd cd, .int .i64 x.fuse, .bool x.down, .bool x.broken] 33) = W at hA X h1 k0 k1 k2 k3 k4 k5 k6 k7 k8 k9 k10 k11 k12 ⊢
  refine (l1In_any _ _ _ _).mono ?_
  rintro e wq ⟨rfl, hq⟩
  obtain rfl := hq.symm
  cases hi : inB m 0 ((nm : Int) - 1)
  · have HF : Hid (liveB x ms m s = false) := by unfold Hid liveB; rw [hl, hi]; rfl
    go_wp2
    go_ret
    exact ⟨ret_bool HF.out.symm, hA⟩
  · have hi2 : 0 ≤ m ∧ m ≤ (nm : Int) - 1 := by unfold inB at hi; simpa using hi
    obtain ⟨j, rfl⟩ := Int.eq_ofNat_of_zero_le hi2.1
    rcases quads_at rfl h1 with h0' | ⟨b, off, rfl, hbl, hcs⟩
    · omega
    have hdj : ms[j]? = some (ms[j]'(by omega)) := List.getElem?_eq_getElem (by omega)
    generalize ms[j]'(by omega) = d at hdj
    obtain ⟨v0, v1, v2, v3, hv0, hv1, hv2, hv3, hrv⟩ := hcs j d hdj
    obtain ⟨a0, c0, a1, c1, a3, c3, ss, cs, f, bs, rfl, rfl, rfl, rfl, rfl, r0, r1, r3⟩ := mem_at hrv
    have i1 : (0 : Int) ≤ (j : Int) := by omega
    have i2 : (j : Int) < (nm : Int) := by omega
    have HD : Hid (liveB x ms (j : Int) s = (!f && (!decide ((j : Int) = x.lost) || decide (s < x.built)))) := by
      unfold Hid liveB
      rw [hl, hi, Int.toNat_natCast, List.getD_eq_getElem?_getD, hdj]
      rfl
    clear hcs hv0 hv1 hv3 hrv r0 r1 r3 hdj
    cases f
    · by_cases hj : (j : Int) = x.lost
      · have e1 : ((j : Int) == x.lost) = true := by simpa using hj
        have e2 : ((j : Int) != x.lost) = false := by simpa using hj
        have HF : Hid (liveB x ms (j : Int) s = decide (s < x.built)) := by unfold Hid; rw [HD.out]; simp [hj]
        clear hj
        go_wp2
        go_ret
        exact ⟨ret_bool HF.out.symm, hA⟩
      · have e1 : ((j : Int) == x.lost) = false := by simpa using hj
        have e2 : ((j : Int) != x.lost) = true := by simpa using hj
        have HF : Hid (liveB x ms (j : Int) s = true) := by unfold Hid; rw [HD.out]; simp [hj]
        clear hj
        go_wp2
        go_ret
        exact ⟨ret_bool HF.out.symm, hA⟩
    · have HF : Hid (liveB x ms (j : Int) s = false) := by unfold Hid; rw [HD.out]; rfl
      go_wp2
      go_ret
      exact ⟨ret_bool HF.out.symm, hA⟩

end Go.Proofs.YthkpkpclmemodaaGreat

/-
  An array that a function hands back: plain lemmas. No condition.
-/
namespace Go.Proofs.YthkpkpclmemodaaGreat
open Go.RowKit

/-- What an array was made into, in memory of its own. -/
def ArrOut (w w' : World) (e : Ending) (q : ArrN × List MemD) (ds : List (Int × List Int)) : Prop :=
  ∃ (bm bd : Option Addr) (cm cd : Nat), e = .returned (.agg (arrC q.1 (.slice bm q.2.length cm) (.slice bd ds.length cd))) ∧ ArrIn w' w.heap.size w'.heap.size bm bd q.2.length cm ds.length cd q.2 ds ∧ Below w.heap.size w w'
theorem Moved.belowN {B N : Nat} {f1 f2 : List Nat} {w1 w2 : World} (h : Moved B f1 w1 f2 w2) (hB : N ≤ B) (hf : ∀ b ∈ f1, N ≤ b) (hN : N ≤ w1.heap.size) : Below N w1 w2 :=
  ⟨h.1.os, h.1.tape, h.1.output, h.1.size, fun k hk => h.1.block k (by omega) (fun hm => by
    rcases List.mem_cons.1 hm with e | hm
    · omega
    · have := hf k hm; omega)⟩
theorem arr_facts {x : ArrN} {ms : List MemD} {ds : List (Int × List Int)} (h : arrB x ms ds = true) : x.fuse ≤ 1000 ∧ MsOk ms ∧ 0 ≤ x.gen ∧ x.gen ≤ 60000 := by
  unfold arrB memsB seqB6 at h
  simp only [Bool.and_eq_true, inB_iff] at h
  obtain ⟨_, _, ⟨hm, _⟩, _, _, _, _, _, hg, hf⟩ := h
  refine ⟨hf.2, fun i d hd => ?_, hg.1, hg.2⟩
  have := allIx_iff.1 hm i d hd
  unfold memAt at this
  simp only [Bool.and_eq_true] at this
  exact this.1
/-- The array is handed back: its cells are stored into the result's box. -/
theorem arr_out {w w4 : World} {R lo : Nat} {y : ArrN} {ns : List MemD} {ds : List (Int × List Int)} {vm vd : Option Addr} {cvm cvd : Nat} {fm fd : List Nat} {e : Ending} {T : TypeId} {cs : Array Value} (hb : Below w.heap.size w w4) (_ : Box w4 R T cs) (he : e = .returned (.agg (arrC y (.slice vm ns.length cvm) (.slice vd ds.length cvd)))) (hm : (tMemS 104 73).Mine w4 [.slice vm ns.length cvm] ns fm) (hd : (tWrS 75).Mine w4 [.slice vd ds.length cvd] ds fd) (hr : ∀ b ∈ fm, b ∉ fd) (rm : ∀ b ∈ fm, lo ≤ b) (rd : ∀ b ∈ fd, lo ≤ b) (h1 : w.heap.size ≤ R) (h2 : R < lo) :
    ArrOut w (puts w4 R [(0, .int .i64 y.id), (1, .int .i64 y.n), (2, .int .i64 y.s), (3, .slice vm ns.length cvm), (4, .int .i64 y.lost), (5, .int .i64 y.built), (6, .int .i64 y.seq), (7, .int .i64 y.tail), (8, .int .i64 y.gen), (9, .slice vd ds.length cvd), (10, .int .i64 y.fuse), (11, .bool y.down), (12, .bool y.broken)]) e (y, ns) ds := by
  have hbt := puts_but R [(0, .int .i64 y.id), (1, .int .i64 y.n), (2, .int .i64 y.s), (3, .slice vm ns.length cvm), (4, .int .i64 y.lost), (5, .int .i64 y.built), (6, .int .i64 y.seq), (7, .int .i64 y.tail), (8, .int .i64 y.gen), (9, .slice vd ds.length cvd), (10, .int .i64 y.fuse), (11, .bool y.down), (12, .bool y.broken)] w4
  have hz := hbt.size
  have hlm := hm.lt
  have hld := hd.lt
  refine ⟨vm, vd, cvm, cvd, he, ⟨fm, fd, hm.but hbt (fun b hb => by have := rm b hb; omega), hd.but hbt (fun b hb => by have := rd b hb; omega), hr, fun b hb => ?_, fun b hb => ?_⟩, Below.andBut hb hbt h1⟩
  · have h3 := rm b hb
    have h4 := hlm b hb
    omega
  · have h3 := rd b hb
    have h4 := hld b hb
    omega


end Go.Proofs.YthkpkpclmemodaaGreat

/-
  An array and a code that a function hands back: plain lemmas. No condition.
-/
namespace Go.Proofs.YthkpkpclmemodaaGreat
open Go.RowKit

/-- What an array was made into, in memory of its own, and a code. -/
def ArrOutC (w w' : World) (e : Ending) (q : ArrN × List MemD) (code : Int) (ds : List (Int × List Int)) : Prop :=
  ∃ (bm bd : Option Addr) (cm cd : Nat), e = .returned (.tuple #[.agg (arrC q.1 (.slice bm q.2.length cm) (.slice bd ds.length cd)), .int .i64 code]) ∧ ArrIn w' w.heap.size w'.heap.size bm bd q.2.length cm ds.length cd q.2 ds ∧ Below w.heap.size w w'
theorem arr_outC {w w4 : World} {R lo : Nat} {y : ArrN} {ns : List MemD} {ds : List (Int × List Int)} {vm vd : Option Addr} {cvm cvd : Nat} {fm fd : List Nat} {e : Ending} {T : TypeId} {cs : Array Value} {code : Int} (hb : Below w.heap.size w w4) (_ : Box w4 R T cs) (he : e = .returned (.tuple #[.agg (arrC y (.slice vm ns.length cvm) (.slice vd ds.length cvd)), .int .i64 code])) (hm : (tMemS 104 73).Mine w4 [.slice vm ns.length cvm] ns fm) (hd : (tWrS 75).Mine w4 [.slice vd ds.length cvd] ds fd) (hr : ∀ b ∈ fm, b ∉ fd) (rm : ∀ b ∈ fm, lo ≤ b) (rd : ∀ b ∈ fd, lo ≤ b) (h1 : w.heap.size ≤ R) (h2 : R < lo) :
    ArrOutC w (puts w4 R [(0, .int .i64 y.id), (1, .int .i64 y.n), (2, .int .i64 y.s), (3, .slice vm ns.length cvm), (4, .int .i64 y.lost), (5, .int .i64 y.built), (6, .int .i64 y.seq), (7, .int .i64 y.tail), (8, .int .i64 y.gen), (9, .slice vd ds.length cvd), (10, .int .i64 y.fuse), (11, .bool y.down), (12, .bool y.broken)]) e (y, ns) code ds := by
  have hbt := puts_but R [(0, .int .i64 y.id), (1, .int .i64 y.n), (2, .int .i64 y.s), (3, .slice vm ns.length cvm), (4, .int .i64 y.lost), (5, .int .i64 y.built), (6, .int .i64 y.seq), (7, .int .i64 y.tail), (8, .int .i64 y.gen), (9, .slice vd ds.length cvd), (10, .int .i64 y.fuse), (11, .bool y.down), (12, .bool y.broken)] w4
  have hz := hbt.size
  have hlm := hm.lt
  have hld := hd.lt
  refine ⟨vm, vd, cvm, cvd, he, ⟨fm, fd, hm.but hbt (fun b hb => by have := rm b hb; omega), hd.but hbt (fun b hb => by have := rd b hb; omega), hr, fun b hb => ?_, fun b hb => ?_⟩, Below.andBut hb hbt h1⟩
  · have h3 := rm b hb
    have h4 := hlm b hb
    omega
  · have h3 := rd b hb
    have h4 := hld b hb
    omega

end Go.Proofs.YthkpkpclmemodaaGreat

/-
  What a list of disk operations makes of an array, where the power may go within it: plain lemmas. No condition.
-/
namespace Go.Proofs.YthkpkpclmemodaaGreat
open Go.RowKit

/-- A disk operation: its disk; none: it is flushed; some none: what it knows is written; some (some (n, s)): its sector n is written. -/
abbrev DOp := Nat × Option (Option (Int × List Int))
def supM (d : MemD) (u : Sup) : MemD := (d.1, wsCS d.1 d.2.1 d.2.2.1 d.2.2.2 u, d.2.2.1, wsBS d.1 d.2.1 d.2.2.1 d.2.2.2 u)
def opF (o : DOp) (x : ArrN) : MemD → MemD :=
  match o.2 with
  | none => flM
  | some none => fun d => supM d (supA x o.1)
  | some (some p) => fun d => wrM d p.1 p.2
def runS (q : ArrN × List MemD) (ops : List DOp) : ArrN × List MemD := ops.foldl (fun q o => doS q o.1 (opF o q.1)) q

theorem opX_down {x : ArrN} (h : x.down = true) : opX x = x := by unfold opX; rw [if_pos h]
theorem opB_down {x : ArrN} (h : x.down = true) : opB x = false := by unfold opB; simp [h]
theorem opX_no {x : ArrN} (h : opB x = false) : (opX x).down = true := by
  unfold opB at h
  unfold opX
  by_cases hd : x.down = true
  · rw [if_pos hd]; exact hd
  · rw [if_neg hd]
    simp at h
    rw [if_pos (h (by simpa using hd))]
theorem opX_yes {x : ArrN} (h : opB x = true) : (opX x).down = false := by
  unfold opB at h
  simp at h
  unfold opX
  rw [if_neg (by simp [h.1]), if_neg h.2]
  split
  · exact h.1
  · exact h.1
theorem doS_down {q : ArrN × List MemD} (i : Nat) (f : MemD → MemD) (h : q.1.down = true) : doS q i f = q := by
  unfold doS
  rw [opB_down h, opX_down h]
  split
  · rfl
  · rfl
theorem runS_down {q : ArrN × List MemD} (h : q.1.down = true) : ∀ ops : List DOp, runS q ops = q
  | [] => rfl
  | o :: ops => by
    unfold runS
    rw [List.foldl_cons, doS_down _ _ h]
    exact runS_down h ops
theorem runS_app (q : ArrN × List MemD) (a b : List DOp) : runS q (a ++ b) = runS (runS q a) b := by unfold runS; rw [List.foldl_append]
theorem runS_one (q : ArrN × List MemD) (o : DOp) : runS q [o] = doS q o.1 (opF o q.1) := rfl
theorem runS_next {q : ArrN × List MemD} {ops : List DOp} {j : Nat} {o : DOp} (h : ops[j]? = some o) : runS q (ops.take (j + 1)) = doS (runS q (ops.take j)) o.1 (opF o (runS q (ops.take j)).1) := by
  rw [List.take_add_one, h, runS_app]
  rfl
theorem runS_end {q : ArrN × List MemD} {ops : List DOp} {j : Nat} (h : (runS q (ops.take j)).1.down = true) : runS q ops = runS q (ops.take j) := by
  have := runS_app q (ops.take j) (ops.drop j)
  rw [List.take_append_drop, runS_down h] at this
  exact this
theorem supM_ok (u : Sup) (d : MemD) (h : memB d.1 d.2.1 d.2.2.2 = true) : memB (supM d u).1 (supM d u).2.1 (supM d u).2.2.2 = true := by
  unfold supM wsCS wsBS
  dsimp only
  by_cases hu : supB u = true
  · rw [if_pos hu, if_pos hu]
    exact wrM_ok (u.gen % 2) (putD u) d h
  · rw [if_neg hu, if_neg hu]
    exact h
theorem supM_put {u : Sup} (h : supB u = true) (d : MemD) : supM d u = wrM d (u.gen % 2) (putD u) := by
  unfold supM wsCS wsBS wrM
  rw [if_pos h, if_pos h]
theorem opF_ok (o : DOp) (x : ArrN) (d : MemD) (h : memB d.1 d.2.1 d.2.2.2 = true) : memB (opF o x d).1 (opF o x d).2.1 (opF o x d).2.2.2 = true := by
  obtain ⟨i, k⟩ := o
  rcases k with _ | _ | ⟨n, s⟩
  · exact flM_ok d h
  · exact supM_ok _ d h
  · exact wrM_ok n s d h
theorem opF_flag (o : DOp) (x : ArrN) (d : MemD) : (opF o x d).2.2.1 = d.2.2.1 := by
  obtain ⟨i, k⟩ := o
  rcases k with _ | _ | ⟨n, s⟩ <;> rfl
theorem runS_keeps {q : ArrN × List MemD} (h : MsOk q.2) (hf : q.1.fuse ≤ 1000) : ∀ ops : List DOp, MsOk (runS q ops).2 ∧ SameN q.1 (runS q ops).1 ∧ (runS q ops).2.length = q.2.length := by
  intro ops
  induction ops generalizing q with
  | nil => exact ⟨h, SameN.refl hf, rfl⟩
  | cons o ops ih =>
    have h1 := doS_same (q := q) o.1 (opF o q.1) hf
    obtain ⟨a, b, c⟩ := ih (q := doS q o.1 (opF o q.1)) (doS_ok h (opF_ok o q.1)) h1.2.2.2.2.2.2.2.2.2.1
    exact ⟨a, h1.trans b, c.trans (doS_len _ _ _)⟩
theorem opF_opX (o : DOp) (x : ArrN) : opF o (opX x) = opF o x := by
  obtain ⟨i, k⟩ := o
  rcases k with _ | _ | ⟨n, s⟩
  · rfl
  · have e : supA (opX x) i = supA x i := by
      unfold opX
      split
      · rfl
      · split
        · rfl
        · split <;> rfl
    show (fun d => supM d (supA (opX x) i)) = fun d => supM d (supA x i)
    rw [e]
  · rfl
/-- Which disks Failed stays. -/
def flagAt (ms : List MemD) (k : Nat) : Bool := (ms.getD k memZ).2.2.1
theorem flag_set {ms : List MemD} {i : Nat} {d : MemD} (h : d.2.2.1 = flagAt ms i) (k : Nat) : flagAt (ms.set i d) k = flagAt ms k := by
  unfold flagAt
  by_cases hk : k = i
  · subst hk
    by_cases hl : k < ms.length
    · rw [List.getD_eq_getElem?_getD, List.getElem?_set_self hl]
      exact h
    · rw [List.set_eq_of_length_le (by omega)]
  · rw [List.getD_eq_getElem?_getD, List.getD_eq_getElem?_getD, List.getElem?_set_ne (fun e => hk e.symm)]
theorem doS_flag (q : ArrN × List MemD) (i : Nat) {f : MemD → MemD} (hf : ∀ d, (f d).2.2.1 = d.2.2.1) (k : Nat) : flagAt (doS q i f).2 k = flagAt q.2 k := by
  unfold doS
  split
  · rfl
  · split
    · exact flag_set (hf _) k
    · rfl
theorem runS_flag (q : ArrN × List MemD) (ops : List DOp) (k : Nat) : flagAt (runS q ops).2 k = flagAt q.2 k := by
  induction ops generalizing q with
  | nil => rfl
  | cons o ops ih => exact (ih (doS q o.1 (opF o q.1))).trans (doS_flag q o.1 (opF_flag o q.1) k)
/-- What is to be done disk by disk; a disk that Failed does nothing. -/
def opsL (K : Nat → DOp) (ms : List MemD) (j : Nat) : List DOp := ((List.range j).filter fun i => !flagAt ms i).map K
theorem opsL_succ (K : Nat → DOp) (ms : List MemD) (j : Nat) : opsL K ms (j + 1) = opsL K ms j ++ (if flagAt ms j = true then [] else [K j]) := by
  unfold opsL
  rw [List.range_succ, List.filter_append, List.map_append]
  cases h : flagAt ms j <;> simp [h]
theorem opsL_len (K : Nat → DOp) (ms : List MemD) (j : Nat) : (opsL K ms j).length ≤ j := by
  unfold opsL
  rw [List.length_map]
  exact Nat.le_trans (List.length_filter_le _ _) (by rw [List.length_range]; exact Nat.le_refl _)
theorem opsL_mem {K : Nat → DOp} {ms : List MemD} {j : Nat} {o : DOp} (h : o ∈ opsL K ms j) : ∃ i, i < j ∧ flagAt ms i = false ∧ o = K i := by
  unfold opsL at h
  obtain ⟨i, hi, rfl⟩ := List.mem_map.1 h
  obtain ⟨h1, h2⟩ := List.mem_filter.1 hi
  exact ⟨i, List.mem_range.1 h1, by simpa using h2, rfl⟩
theorem run_list {K : Nat → DOp} (hK : ∀ i, (K i).1 = i) (q : ArrN × List MemD) : ∀ j, runS q (opsL K q.2 j) = (List.range j).foldl (fun q i => doS q i (opF (K i) q.1)) q
  | 0 => rfl
  | j + 1 => by
    rw [opsL_succ, runS_app, List.range_succ, List.foldl_append, ← run_list hK q j]
    cases h : flagAt q.2 j
    · rw [if_neg (by simp), runS_one, hK]
      rfl
    · rw [if_pos rfl]
      have h2 : flagAt (runS q (opsL K q.2 j)).2 j = true := by rw [runS_flag]; exact h
      show runS q (opsL K q.2 j) = doS (runS q (opsL K q.2 j)) j _
      unfold flagAt at h2
      unfold doS
      rw [if_pos h2]
def flushK (i : Nat) : DOp := (i, none)
def supK (i : Nat) : DOp := (i, some none)
def wrK (n : Int) (s : List Int) (i : Nat) : DOp := (i, some (some (n, s)))
theorem run_sync (q : ArrN × List MemD) (j : Nat) : runS q (opsL flushK q.2 j) = syncS q j := run_list (fun _ => rfl) q j
theorem run_sups {q : ArrN × List MemD} (h : MsOk q.2) (hf : q.1.fuse ≤ 1000) (hu : ∀ i : Nat, i < q.2.length → supB (supA q.1 i) = true) : ∀ j, j ≤ q.2.length → runS q (opsL supK q.2 j) = supsS q j
  | 0, _ => rfl
  | j + 1, hj => by
    have ih := run_sups h hf hu j (by omega)
    have hs := (supsS_keeps h hf j).2.1
    rw [run_list (fun _ => rfl)] at ih ⊢
    rw [List.range_succ, List.foldl_append, ih, supsS_succ]
    have e : supA (supsS q j).1 j = supA q.1 j := by
      obtain ⟨a1, a2, a3, a4, a5, a6, a7, a8, a9, _⟩ := hs
      unfold supA
      rw [a1, a2, a3, a4, a5, a7, a8]
    have hu2 : supB (supA (supsS q j).1 j) = true := by rw [e]; exact hu j (by omega)
    show doS (supsS q j) j (fun d => supM d (supA (supsS q j).1 j)) = putS _ _ _ _
    unfold putS
    congr 1
    funext d
    exact supM_put hu2 d

end Go.Proofs.YthkpkpclmemodaaGreat

/-
  What Sync, Mark and Check make of an array, whatever it is: plain lemmas. No condition.
-/
namespace Go.Proofs.YthkpkpclmemodaaGreat
open Go.RowKit

def syncA (q : ArrN × List MemD) : ArrN × List MemD := syncS q q.2.length
def syncO (x : ArrN) (ms : List MemD) (ds : List (Int × List Int)) : ArrN × List MemD := if (arrB x ms ds && !x.down) = true then syncA (x, ms) else (x, ms)
def markO (x : ArrN) (ms : List MemD) (ds : List (Int × List Int)) : ArrN × List MemD := if (arrB x ms ds && !x.down && decide (x.gen < 60000)) = true then markS (x, ms) else (x, ms)
def checkO (x : ArrN) (ms : List MemD) (ds : List (Int × List Int)) : ArrN × List MemD := if (arrB x ms ds && !x.down && decide (x.gen < 60000)) = true then checkS (x, ms) else (x, ms)

theorem arr_len {x : ArrN} {ms : List MemD} {ds : List (Int × List Int)} (h : arrB x ms ds = true) : 3 ≤ x.n ∧ x.n ≤ 5 ∧ (ms.length : Int) = x.n := by
  unfold arrB memsB at h
  simp only [Bool.and_eq_true, geoB_iff, decide_eq_true_eq] at h
  exact ⟨h.1.1, h.1.2.1, h.2.2.1.2⟩
theorem ms_light {ns : List MemD} (h : MsOk ns) (hl : ns.length ≤ 5) : wtMemS ns ≤ 10005 := by
  have h1 := sumL_bound (ns.map wtMem) 2000 (fun y hy => by
    obtain ⟨d, hd, rfl⟩ := List.mem_map.1 hy
    obtain ⟨i, hi⟩ := List.mem_iff_getElem?.1 hd
    obtain ⟨ss, cs, f, bs⟩ := d
    exact memB_light (h i _ hi) f)
  rw [List.length_map] at h1
  unfold wtMemS
  omega
/-- What keeps the disks right and their number weighs little. -/
theorem out_light {x : ArrN} {ms : List MemD} {ds : List (Int × List Int)} {q : ArrN × List MemD} (h : arrB x ms ds = true) (hk : MsOk q.2) (hl : q.2.length = ms.length) (hw : wtArr ms ds ≤ 1048576) : wtArr q.2 ds ≤ 2097152 := by
  have h1 := arr_len h
  have h2 := ms_light hk (by omega)
  unfold wtArr at hw ⊢
  omega
theorem markS_keeps {q : ArrN × List MemD} (h : MsOk q.2) (hf : q.1.fuse ≤ 1000) : MsOk (markS q).2 ∧ (markS q).2.length = q.2.length := by
  obtain ⟨a, b, c⟩ := supsS_keeps (q := ({q.1 with gen := q.1.gen + 1}, q.2)) h hf q.2.length
  obtain ⟨a2, _, c2⟩ := syncS_keeps (q := supsS ({q.1 with gen := q.1.gen + 1}, q.2) q.2.length) a b.2.2.2.2.2.2.2.2.2.1 q.2.length
  exact ⟨a2, c2.trans c⟩
theorem checkS_keeps {q : ArrN × List MemD} (h : MsOk q.2) (hf : q.1.fuse ≤ 1000) : MsOk (checkS q).2 ∧ (checkS q).2.length = q.2.length := by
  obtain ⟨a, b, c⟩ := syncS_keeps (q := q) h hf q.2.length
  unfold checkS
  split
  · exact ⟨a, c⟩
  · obtain ⟨a2, c2⟩ := markS_keeps (q := ({(syncS q q.2.length).1 with tail := (syncS q q.2.length).1.seq}, (syncS q q.2.length).2)) a b.2.2.2.2.2.2.2.2.2.1
    exact ⟨a2, c2.trans c⟩
theorem syncO_wt {x : ArrN} {ms : List MemD} {ds : List (Int × List Int)} (hw : wtArr ms ds ≤ 1048576) : wtArr (syncO x ms ds).2 ds ≤ 2097152 := by
  unfold syncO
  split
  · rename_i h
    simp only [Bool.and_eq_true] at h
    obtain ⟨fc, mk, _⟩ := arr_facts h.1
    obtain ⟨a, _, c⟩ := syncS_keeps (q := (x, ms)) mk fc ms.length
    exact out_light h.1 a c hw
  · exact Nat.le_trans hw (by omega)
theorem markO_wt {x : ArrN} {ms : List MemD} {ds : List (Int × List Int)} (hw : wtArr ms ds ≤ 1048576) : wtArr (markO x ms ds).2 ds ≤ 2097152 := by
  unfold markO
  split
  · rename_i h
    simp only [Bool.and_eq_true] at h
    obtain ⟨fc, mk, _⟩ := arr_facts h.1.1
    obtain ⟨a, c⟩ := markS_keeps (q := (x, ms)) mk fc
    exact out_light h.1.1 a c hw
  · exact Nat.le_trans hw (by omega)
theorem checkO_wt {x : ArrN} {ms : List MemD} {ds : List (Int × List Int)} (hw : wtArr ms ds ≤ 1048576) : wtArr (checkO x ms ds).2 ds ≤ 2097152 := by
  unfold checkO
  split
  · rename_i h
    simp only [Bool.and_eq_true] at h
    obtain ⟨fc, mk, _⟩ := arr_facts h.1.1
    obtain ⟨a, c⟩ := checkS_keeps (q := (x, ms)) mk fc
    exact out_light h.1.1 a c hw
  · exact Nat.le_trans hw (by omega)

end Go.Proofs.YthkpkpclmemodaaGreat

/-
  The walks of the specification's operations on an array that a pointer leads to: one counted, a sector written. Conditions: the power goes within 1000 operations, or stays; every disk is right.
-/
namespace Go.Proofs.YthkpkpclmemodaaGreat
open Go.RowKit

set_option maxRecDepth 20000 in
set_option maxHeartbeats 1600000 in
theorem l7Op_any (w : World) (B : Nat) (x : ArrN) (ms : List MemD) (ds : List (Int × List Int)) (fm fd : List Nat) (h : ArrAt w B x ms ds fm fd) (hf : x.fuse ≤ 1000) :
    Calls Tryz.prog 91 #[.pointer (some ⟨B, 0, none⟩)] w fun e w' => e = .returned (.bool (opB x)) ∧ ArrAt w' B (opX x) ms ds fm fd ∧ Moved B fm w fm w' := by
  obtain ⟨bm, bd, cm, cd, X, hm, hd, hr, r1, r2⟩ := h
  unfold arrC at X
  obtain ⟨k0, k1, k2, k3, k4, k5, k6, k7, k8, k9, k10, k11, k12⟩ := X.cells13
  have fz := X.frozen
  cases hdn : x.down
  · rw [hdn] at k11
    by_cases h0 : x.fuse = 0
    · have HB : Hid (opB x = false) := by unfold Hid opB; simp [h0]
      have HX : Hid (opX x = {x with down := true, fuse := -1}) := by unfold Hid opX; rw [if_neg (by simp [hdn]), if_pos h0]
      have Y := (X.set 11 (.bool true)).set 10 (.int .i64 (-1))
      have M := hidden ((hm.setCell (g := B) (j := 11) r1 (.bool true)).setCell (g := B) (j := 10) r1 (.int .i64 (-1)))
      have D := hidden ((hd.setCell (g := B) (j := 11) r2 (.bool true)).setCell (g := B) (j := 10) r2 (.int .i64 (-1)))
      have MV := hidden ((Moved.set (B := B) (j := 11) (fm := fm) (w := w) (.bool true)).trans (Moved.set (B := B) (j := 10) (.int .i64 (-1))))
      have YH := hidden Y
      rw [h0] at k10
      clear Y X hm hd hdn h0
      go_enter Tryz.func91, Tryz.ntmps91
      go_wp2
      go_ret
      exact ⟨ret_bool HB.out.symm, by rw [HX.out]; exact ⟨bm, bd, cm, cd, YH.out, M.out, D.out, hr, r1, r2⟩, MV.out⟩
    · have e0 : (x.fuse == 0) = false := by simpa using h0
      have HB : Hid (opB x = true) := by unfold Hid opB; simp [h0, hdn]
      by_cases h1 : 0 < x.fuse
      · have hw : IntKind.i64.wrap (x.fuse - 1) = x.fuse - 1 := IntWalk.i64_in _ (by omega)
        have HX : Hid (opX x = {x with fuse := x.fuse - 1}) := by unfold Hid opX; rw [if_neg (by simp [hdn]), if_neg h0, if_pos h1]
        have YH := hidden (X.set 10 (.int .i64 (x.fuse - 1)))
        have M := hidden (hm.setCell (g := B) (j := 10) r1 (.int .i64 (x.fuse - 1)))
        have D := hidden (hd.setCell (g := B) (j := 10) r2 (.int .i64 (x.fuse - 1)))
        have MV := hidden (Moved.set (B := B) (j := 10) (fm := fm) (w := w) (.int .i64 (x.fuse - 1)))
        clear X hm hd hdn h0
        go_enter Tryz.func91, Tryz.ntmps91
        go_wp2
        go_ret
        exact ⟨ret_bool HB.out.symm, by rw [HX.out]; exact ⟨bm, bd, cm, cd, YH.out, M.out, D.out, hr, r1, r2⟩, MV.out⟩
      · have HX : Hid (opX x = x) := by unfold Hid opX; rw [if_neg (by simp [hdn]), if_neg h0, if_neg h1]
        have YH := hidden X
        clear hdn h0 X
        go_enter Tryz.func91, Tryz.ntmps91
        go_wp2
        go_ret
        exact ⟨ret_bool HB.out.symm, by rw [HX.out]; exact ⟨bm, bd, cm, cd, YH.out, hm, hd, hr, r1, r2⟩, Moved.refl _ _ _⟩
  · have HB : Hid (opB x = false) := by unfold Hid opB; simp [hdn]
    have HX : Hid (opX x = x) := by unfold Hid opX; rw [if_pos hdn]
    rw [hdn] at k11
    have YH := hidden X
    clear hdn X
    go_enter Tryz.func91, Tryz.ntmps91
    go_wp2
    go_ret
    exact ⟨ret_bool HB.out.symm, by rw [HX.out]; exact ⟨bm, bd, cm, cd, YH.out, hm, hd, hr, r1, r2⟩, Moved.refl _ _ _⟩

end Go.Proofs.YthkpkpclmemodaaGreat

/-
  The walk of the specification's l7Put: a sector of a disk is written, if the disk is not Failed and the operation is done. Conditions: the power goes within 1000 operations, or stays; every disk is right.
-/
namespace Go.Proofs.YthkpkpclmemodaaGreat
open Go.RowKit

set_option linter.unusedSimpArgs false in
set_option maxRecDepth 20000 in
set_option maxHeartbeats 3200000 in
theorem l7Put_any (w : World) (B : Nat) (x : ArrN) (ms : List MemD) (ds : List (Int × List Int)) (fm fd : List Nat) (h : ArrAt w B x ms ds fm fd) (hf : x.fuse ≤ 1000) (hM : MsOk ms) (m : Nat) (hm : m < ms.length) (n : Int) (a5 : Option Addr) (n5 c5 : Nat) (sw : List Int) (f5 : List Nat) (h5 : tIntS.Mine w [.slice a5 n5 c5] sw f5) (h5B : B ∉ f5) (h5f : ∀ b ∈ f5, b ∉ fm) (hn5 : n5 ≤ 2097152) :
    Calls Tryz.prog 53 #[.pointer (some ⟨B, 0, none⟩), .int .i64 (m : Int), .int .i64 n, .slice a5 n5 c5] w fun e w' => e = .returned (.tuple #[]) ∧ ∃ fm', ArrAt w' B (putS (x, ms) m n sw).1 (putS (x, ms) m n sw).2 ds fm' fd ∧ Moved B fm w fm' w' := by
  have h00 := h
  obtain ⟨bm, bd, cm, cd, X, hmm, hdd, hr, r1, r2⟩ := h
  unfold arrC at X
  obtain ⟨g, rfl⟩ := row_head hmm (by omega)
  have hdj : ms[m]? = some (ms[m]'hm) := List.getElem?_eq_getElem hm
  generalize ms[m]'hm = d at hdj
  obtain ⟨hgl, a0, a1, a3, c0, c1, c3, ss, cs, f, bs, rfl, q0, q1, q2, q3, _, _, _⟩ := disk_at hmm hdj
  obtain ⟨k0, k1, k2, k3, k4, k5, k6, k7, k8, k9, k10, k11, k12⟩ := X.cells13
  have i1 : (0 : Int) ≤ (m : Int) := by omega
  have i2 : (m : Int) < (ms.length : Int) := by omega
  cases f
  · have H0 := hidden h00
    clear X hmm hdd hgl q0 q1 q3
    go_enter Tryz.func53, Tryz.ntmps53
    go_wp2_with fail
    refine (l7Op_any _ B x ms ds fm fd H0.out hf).mono ?_
    rintro e w1 ⟨rfl, hA1, hMv1⟩
    clear k0 k1 k2 k3 k4 k5 k6 k7 k8 k9 k10 k11 k12 q2 H0 h00
    cases ho : opB x
    · have HP : Hid (putS (x, ms) m n sw = (opX x, ms)) := doS_no hdj rfl ho
      go_wp2
      refine bodyPost_ret (v := .tuple #[]) (by simp [results, Tryz.results53, go_sem]) rfl ?_
      exact ⟨rfl, fm, by rw [HP.out]; exact hA1, hMv1⟩
    · have HP : Hid (putS (x, ms) m n sw = (opX x, ms.set m (wrM (ss, cs, false, bs) n sw))) := doS_yes hdj rfl ho
      obtain ⟨bm, bd, cm, cd, X, hmm, hdd, hr, r1, r2⟩ := hA1
      obtain ⟨g, rfl⟩ := row_head hmm (by omega)
      obtain ⟨hgl, a0, a1, a3, c0, c1, c3, ss, cs, f, bs, hde, q0, q1, q2, q3, p0, p1, p3⟩ := disk_at hmm hdj
      simp only [Prod.mk.injEq] at hde
      obtain ⟨rfl, rfl, rfl, rfl⟩ := hde
      have X0 := X
      unfold arrC at X0
      obtain ⟨k0, k1, k2, k3, k4, k5, k6, k7, k8, k9, k10, k11, k12⟩ := X0.cells13
      have hwt := memB_light (hM m _ hdj) false
      dsimp only at hwt
      have XH := hidden X
      have MH := hidden hmm
      have DH := hidden hdd
      have MV := hidden hMv1
      have DJ := hidden hdj
      have h51 := (hMv1.mine h5 h5B h5f).rd
      clear X X0 hmm hdd hMv1 hdj
      go_wp2_with fail
      refine (specWriteSec_any _ 104 _ _ _ _ _ _ _ _ _ _ _ _ ss cs false bs n sw p0 p1 p3 h51 (by omega) hn5).mono ?_
      rintro e w2 ⟨u0, u1, u3, rfl, o2, b2⟩
      obtain ⟨d0, l0, f0, d1, l1, f1, d3, l3, f3, hv0, hv1, hv3⟩ := mem_slices o2
      subst hv0 hv1 hv3
      have b3 := new_below w2 (.cells #[.slice d0 l0 f0, .slice d1 l1 f1, .bool false, .slice d3 l3 f3] 73)
      have b13 : Below w1.heap.size w1 (w2.alloc (.cells #[.slice d0 l0 f0, .slice d1 l1 f1, .bool false, .slice d3 l3 f3] 73)) := Below.andThen b2 b3
      have Y3 := Box.new w2 73 #[.slice d0 l0 f0, .slice d1 l1 f1, .bool false, .slice d3 l3 f3]
      have zY := Y3.lt
      have z2 := b2.size
      obtain ⟨fpx, mx, rx⟩ := (o2.below b3).mine
      obtain ⟨cOld, fz, hgm, fm9, hA9, hMv9⟩ := arr_store XH.out MH.out DH.out hr r1 r2 b13 hm mx (fun b hb => (rx b hb).1)
      obtain ⟨o0, t0⟩ := cOld 0 (by omega)
      obtain ⟨o1, t1⟩ := cOld 1 (by omega)
      obtain ⟨o2', t2⟩ := cOld 2 (by omega)
      obtain ⟨o3, t3⟩ := cOld 3 (by omega)
      rw [Nat.add_zero] at t0
      have HA := hidden hA9
      have HMV := hidden (MV.out.trans hMv9)
      have X3 := XH.out.below b13 XH.out.lt
      unfold arrC at X3
      have gB : ¬ g = B := fun e => r1 (e ▸ hgm)
      have gY : ¬ g = w2.heap.size := by omega
      obtain ⟨y0, y1, y2, y3⟩ := Y3.cells4
      have x3 := X3.cells13.2.2.2.1
      have hS : (w2.alloc (.cells #[.slice d0 l0 f0, .slice d1 l1 f1, .bool false, .slice d3 l3 f3] 73)).drew.cell? ⟨B, 3, none⟩ = some (.slice (some ⟨g, 0, none⟩) ms.length cm) ∧ (w2.alloc (.cells #[.slice d0 l0 f0, .slice d1 l1 f1, .bool false, .slice d3 l3 f3] 73)).drew.cell? ⟨w2.heap.size, 0, none⟩ = some (.slice d0 l0 f0) ∧ (w2.alloc (.cells #[.slice d0 l0 f0, .slice d1 l1 f1, .bool false, .slice d3 l3 f3] 73)).drew.cell? ⟨w2.heap.size, 1, none⟩ = some (.slice d1 l1 f1) ∧ (w2.alloc (.cells #[.slice d0 l0 f0, .slice d1 l1 f1, .bool false, .slice d3 l3 f3] 73)).drew.cell? ⟨w2.heap.size, 2, none⟩ = some (.bool false) ∧ (w2.alloc (.cells #[.slice d0 l0 f0, .slice d1 l1 f1, .bool false, .slice d3 l3 f3] 73)).drew.cell? ⟨w2.heap.size, 3, none⟩ = some (.slice d3 l3 f3) := ⟨x3, y0, y1, y2, y3⟩
      unfold put4 at HA HMV
      clear k0 k1 k2 k3 k4 k5 k6 k7 k8 k9 k10 k11 k12 q0 q1 q2 q3 p0 p1 p3 h51 o2 b2 b3 b13 Y3 mx rx cOld hA9 hMv9 X3 x3 XH MH DH MV hwt
      go_wp2_with fail
      refine Upto.start (S := fun w' => w'.cell? ⟨B, 3, none⟩ = some (.slice (some ⟨g, 0, none⟩) ms.length cm) ∧ w'.cell? ⟨w2.heap.size, 0, none⟩ = some (.slice d0 l0 f0) ∧ w'.cell? ⟨w2.heap.size, 1, none⟩ = some (.slice d1 l1 f1) ∧ w'.cell? ⟨w2.heap.size, 2, none⟩ = some (.bool false) ∧ w'.cell? ⟨w2.heap.size, 3, none⟩ = some (.slice d3 l3 f3)) (k := 7) (by kernel_rfl) ?_
      refine Upto.t 0 hS ?_
      refine Upto.t 1 hS ?_
      refine Upto.t 2 hS ?_
      refine Upto.t 3 hS ?_
      refine Upto.t 4 hS ?_
      refine Upto.t 5 hS ?_
      refine Upto.t 6 hS ?_
      refine Upto.one (i := 7) (by kernel_rfl) rfl (fun K hK => ?_)
      go_simp
      refine hK.out _ _ (fun h => absurd rfl h) ?_
      clear hK K
      refine Upto.done (by kernel_rfl) ?_ _
      clear hS y0 y1 y2 y3 t0 t1 t2 t3 fz
      go_wp2
      refine bodyPost_end (v := .tuple #[]) (results_none rfl _ _ _) rfl ?_
      exact ⟨rfl, fm9, by rw [HP.out]; exact HA.out.drew, HMV.out.drew⟩
  · have HP : Hid (putS (x, ms) m n sw = (x, ms)) := doS_failed hdj rfl
    clear X hmm hdd hgl q0 q1 q3
    go_enter Tryz.func53, Tryz.ntmps53
    go_wp2
    refine bodyPost_ret (v := .tuple #[]) (by simp [results, Tryz.results53, go_sem]) rfl ?_
    exact ⟨rfl, fm, by rw [HP.out]; exact h00, Moved.refl _ _ _⟩

end Go.Proofs.YthkpkpclmemodaaGreat

/-
  The walk of the specification's FlushMem: what is written is in its sector, the cache empty, in memory of its own; what is not MemOk, or failed, as it was. Condition: the disk weighs at most 2097152.
-/
namespace Go.Proofs.YthkpkpclmemodaaGreat
open Go.RowKit

theorem wr_mine_inv {w : World} {vs : List Value} {x : Int × List Int} {fp : List Nat} (h : tWr.Mine w vs x fp) : ∃ a cap, vs = [.int .i64 x.1, .slice a x.2.length cap] ∧ tIntS.Mine w [.slice a x.2.length cap] x.2 fp := by
  have hl : vs.length = 2 := tWr.rdLen (tWr.owRd h.1)
  match vs, hl, h with
  | [u0, u1], _, h =>
    obtain ⟨f1, f2, hf, m1, m2, _⟩ := pair_mine (t := intTy) (u := tIntS) (vs := [u0]) (us := [u1]) rfl h
    obtain ⟨e1, e2⟩ := m1.1
    subst e2
    obtain ⟨a, cap, rfl⟩ := row_shape m2.rd
    refine ⟨a, cap, by simpa using e1, ?_⟩
    rw [hf]
    exact m2
theorem Turned.adrew {fp : List Nat} {w w' : World} (h : Turned fp w w') : Turned fp w w'.drew := ⟨h.os, h.tape, h.output, h.size, h.block⟩
theorem Ty.Mine.adrew {t : Ty} {w : World} {vs : List Value} {d : t.D} {fp : List Nat} (h : t.Mine w vs d fp) : t.Mine w.drew vs d fp := h.kept (Turned.adrew (Turned.refl [] w)) (by simp)
/-- The writes of a cache, each with its blocks. -/
theorem cache_parts {w : World} {E : TypeId} {lo hi n cap : Nat} {b : Option Addr} {cs : List (Int × List Int)} (h : (tWrS E).Own w lo hi [.slice b n cap] cs) :
    ∃ (gC : Nat) (F : Nat → List Nat), (n = 0 ∨ (b = some ⟨gC, 0, none⟩ ∧ lo ≤ gC ∧ gC < hi)) ∧ (∀ i x, cs[i]? = some x → ∃ a c, tIntS.Mine w [.slice a x.2.length c] x.2 (F i) ∧ (∀ b ∈ F i, lo ≤ b ∧ b < hi) ∧ w.cell? ⟨gC, i * 2, none⟩ = some (.int .i64 x.1) ∧ w.cell? ⟨gC, i * 2 + 1, none⟩ = some (.slice a x.2.length c)) ∧ ∀ i j, i < j → j < cs.length → ∀ b ∈ F i, b ∉ F j := by
  have hl := (row_length h.rd).1
  rcases h.rowShape with h0 | ⟨g, rfl⟩
  · refine ⟨0, fun _ => [], .inl h0, fun i x hx => ?_, by simp⟩
    have := (List.getElem?_eq_some_iff.1 hx).1
    omega
  · obtain ⟨fp, m, r⟩ := h.mine
    obtain ⟨hg, F, h1, h2⟩ := row_parts m
    refine ⟨g, F, .inr ⟨rfl, r g hg⟩, fun i x hx => ?_, h2⟩
    obtain ⟨vs, m1, _, m3, m4⟩ := h1 i x hx
    obtain ⟨a, c, rfl, m5⟩ := wr_mine_inv m1
    exact ⟨a, c, m5, fun b hb => r b (m3 b hb), m4 0 (by decide), m4 1 (by decide)⟩

set_option maxHeartbeats 3200000 in
theorem specFlushMem_any (w : World) (E : TypeId) (a0 a1 a3 : Option Addr) (n0 c0 n1 c1 n3 c3 : Nat) (ss : List (List Int)) (cs : List (Int × List Int)) (f : Bool) (bs : List Int) (h0 : tIntSS.Rd w [.slice a0 n0 c0] ss) (h1 : (tWrS E).Rd w [.slice a1 n1 c1] cs) (h3 : tIntS.Rd w [.slice a3 n3 c3] bs) (hw : wtMem (ss, cs, f, bs) ≤ 2097152) :
    Calls Tryz.prog 94 #[.agg #[.slice a0 n0 c0, .slice a1 n1 c1, .bool f, .slice a3 n3 c3]] w fun e w' => ∃ v0 v1 v3, e = .returned (.agg #[v0, v1, .bool f, v3]) ∧ (tMem 104).Own w' w.heap.size w'.heap.size [v0, v1, .bool f, v3] (flSS ss cs f bs, flCS ss cs f bs, f, bs) ∧ Below w.heap.size w w' := by
  obtain ⟨hl0, _, hm0⟩ := row_length h0
  obtain ⟨hl1, _, hm1⟩ := row_length h1
  obtain ⟨hl3, _, hm3⟩ := row_length h3
  have hwc : wtWrS cs ≤ 2097152 := by unfold wtMem at hw; simp only at hw; omega
  by_cases hM : memB ss cs bs = true
  · have hn20 : n0 ≤ 20 := by have := mem_secs hM; omega
    have hks := mem_writes hM
    by_cases hf : f = true
    · subst hf
      have e1 : flSS ss cs true bs = ss := by unfold flSS; simp
      have e2 : flCS ss cs true bs = cs := by unfold flCS; simp
      rw [e1, e2]
      clear e1 e2
      have hA : Below w.heap.size w ((w.alloc (.cells #[.slice a0 n0 c0, .slice a1 n1 c1, .bool true, .slice a3 n3 c3] 73)).alloc (.cells #[.slice none 0 0, .slice none 0 0, .bool false, .slice none 0 0] 73)) := ((Below.refl _ _).alloc (Nat.le_refl _) _).alloc (by simp) _
      have xm : Box ((w.alloc (.cells #[.slice a0 n0 c0, .slice a1 n1 c1, .bool true, .slice a3 n3 c3] 73)).alloc (.cells #[.slice none 0 0, .slice none 0 0, .bool false, .slice none 0 0] 73)) w.heap.size 73 #[.slice a0 n0 c0, .slice a1 n1 c1, .bool true, .slice a3 n3 c3] := (Box.new w _ _).alloc _
      have xr : Box ((w.alloc (.cells #[.slice a0 n0 c0, .slice a1 n1 c1, .bool true, .slice a3 n3 c3] 73)).alloc (.cells #[.slice none 0 0, .slice none 0 0, .bool false, .slice none 0 0] 73)) (w.heap.size + 1) 73 #[.slice none 0 0, .slice none 0 0, .bool false, .slice none 0 0] := by
        have := Box.new (w.alloc (.cells #[.slice a0 n0 c0, .slice a1 n1 c1, .bool true, .slice a3 n3 c3] 73)) 73 #[.slice none 0 0, .slice none 0 0, .bool false, .slice none 0 0]
        rw [show (w.alloc (.cells #[.slice a0 n0 c0, .slice a1 n1 c1, .bool true, .slice a3 n3 c3] 73)).heap.size = w.heap.size + 1 by simp] at this
        exact this
      go_enter Tryz.func94, Tryz.ntmps94
      go_wp2_with fail
      generalize hW : (w.alloc (.cells #[.slice a0 n0 c0, .slice a1 n1 c1, .bool true, .slice a3 n3 c3] 73)).alloc (.cells #[.slice none 0 0, .slice none 0 0, .bool false, .slice none 0 0] 73) = W at hA xm xr ⊢
      clear hW
      have zr := xr.lt
      obtain ⟨q0, q1, q2, q3⟩ := xm.cells4
      have XM := hidden xm
      have XR := hidden xr
      clear xm xr
      refine (l2Copy_any _ E _ _ _ _ _ _ _ _ _ ss cs true bs (h0.below hA) (h1.below hA) (h3.below hA) hw).mono ?_
      intro e w1 hc
      obtain ⟨b0, b1, b3, e0, e1, e3, m1, m2, rfl, o3, o0, o1, r1, r2, r3, bb⟩ := copy_shapes hl0 hl1 hl3 hc
      clear hc
      have z1 := bb.size
      have sW : w.heap.size + 2 ≤ W.heap.size := by omega
      have ba : Below w1.heap.size w1 (w1.alloc (.cells #[.slice b0 n0 e0, .slice b1 n1 e1, .bool true, .slice b3 n3 e3] 73)) := (Below.refl _ _).alloc (Nat.le_refl _) _
      have yo := Box.new w1 73 #[.slice b0 n0 e0, .slice b1 n1 e1, .bool true, .slice b3 n3 e3]
      have zo := yo.lt
      have YO := hidden yo
      have YR := hidden ((XR.out.below bb zr).below ba (by omega))
      have YM := hidden ((XM.out.below bb (by omega)).below ba (by omega))
      have K0 := hidden (o0.below ba)
      have K1 := hidden (o1.below ba)
      have K3 := hidden (o3.below ba)
      have KB := hidden (hA.trans ((bb.mono (by omega : w.heap.size ≤ W.heap.size)).trans (ba.mono (by omega))))
      clear yo o0 o1 o3 XM XR bb ba hA q0 q1 q2 q3
      obtain ⟨q0, q1, q2, q3⟩ := YM.out.cells4
      go_wp2_with fail
      generalize w1.alloc (.cells #[.slice b0 n0 e0, .slice b1 n1 e1, .bool true, .slice b3 n3 e3] 73) = w2 at YO YR YM K0 K1 K3 KB zo q0 q1 q2 q3 ⊢
      refine (specMemOk_any _ E _ _ _ _ _ _ _ _ _ ss cs true bs (h0.below KB.out) (h1.below KB.out) (h3.below KB.out) hw).mono ?_
      rintro e w3 ⟨rfl, b4⟩
      have z3 := b4.size
      have XO := hidden (YO.out.below b4 (by omega))
      have XR := hidden (YR.out.below b4 (by omega))
      have XM := hidden (YM.out.below b4 (by omega))
      have L0 := hidden (K0.out.below b4)
      have L1 := hidden (K1.out.below b4)
      have L3 := hidden (K3.out.below b4)
      have LB := hidden (KB.out.trans (b4.mono (by have := KB.out.size; omega)))
      clear YO YR YM K0 K1 K3 KB b4 q0 q1 q2 q3
      obtain ⟨q0, q1, q2, q3⟩ := XM.out.cells4
      obtain ⟨x0, x1, x2, x3⟩ := XO.out.cells4
      obtain ⟨p0, p1, p2, p3⟩ := XR.out.cells4
      have fz := XR.out.frozen
      have hbt : But (w.heap.size + 1) (w.heap.size + 2) w3 ((((w3.setCell ⟨w.heap.size + 1, 0, none⟩ (.slice b0 n0 e0)).setCell ⟨w.heap.size + 1, 1, none⟩ (.slice b1 n1 e1)).setCell ⟨w.heap.size + 1, 2, none⟩ (.bool true)).setCell ⟨w.heap.size + 1, 3, none⟩ (.slice b3 n3 e3)) :=
        (((But.setCell (by omega) (by omega) _).trans (But.setCell (by omega) (by omega) _)).trans (But.setCell (by omega) (by omega) _)).trans (But.setCell (by omega) (by omega) _)
      have z9 := hbt.size
      have FIN : Hid ((tMem 104).Own ((((w3.setCell ⟨w.heap.size + 1, 0, none⟩ (.slice b0 n0 e0)).setCell ⟨w.heap.size + 1, 1, none⟩ (.slice b1 n1 e1)).setCell ⟨w.heap.size + 1, 2, none⟩ (.bool true)).setCell ⟨w.heap.size + 1, 3, none⟩ (.slice b3 n3 e3)) w.heap.size ((((w3.setCell ⟨w.heap.size + 1, 0, none⟩ (.slice b0 n0 e0)).setCell ⟨w.heap.size + 1, 1, none⟩ (.slice b1 n1 e1)).setCell ⟨w.heap.size + 1, 2, none⟩ (.bool true)).setCell ⟨w.heap.size + 1, 3, none⟩ (.slice b3 n3 e3)).heap.size [.slice b0 n0 e0, .slice b1 n1 e1, .bool true, .slice b3 n3 e3] (ss, cs, true, bs)) := mem_own3 (L0.out.but hbt (by omega)) (L1.out.but hbt (by omega)) (L3.out.but hbt (by omega)) (by omega) (by omega) (by omega) (by omega) (by omega) (by omega)
      have FB := hidden (Below.andBut LB.out hbt (by omega))
      clear hbt
      go_wp2
      refine bodyPost_ret (v := .agg #[.slice b0 n0 e0, .slice b1 n1 e1, .bool true, .slice b3 n3 e3]) (by simp [results, Tryz.results94, go_sem, p0, p1, p2, p3]) rfl ?_
      exact ⟨_, _, _, rfl, FIN.out, FB.out⟩
    · have hf : f = false := by simpa using hf
      subst hf
      have e1 : flSS ss cs false bs = flushD ss cs := by unfold flSS; simp [hM]
      have e2 : flCS ss cs false bs = [] := by unfold flCS; simp [hM]
      rw [e1, e2]
      clear e1 e2
      have hA : Below w.heap.size w ((w.alloc (.cells #[.slice a0 n0 c0, .slice a1 n1 c1, .bool false, .slice a3 n3 c3] 73)).alloc (.cells #[.slice none 0 0, .slice none 0 0, .bool false, .slice none 0 0] 73)) := ((Below.refl _ _).alloc (Nat.le_refl _) _).alloc (by simp) _
      have xm : Box ((w.alloc (.cells #[.slice a0 n0 c0, .slice a1 n1 c1, .bool false, .slice a3 n3 c3] 73)).alloc (.cells #[.slice none 0 0, .slice none 0 0, .bool false, .slice none 0 0] 73)) w.heap.size 73 #[.slice a0 n0 c0, .slice a1 n1 c1, .bool false, .slice a3 n3 c3] := (Box.new w _ _).alloc _
      have xr : Box ((w.alloc (.cells #[.slice a0 n0 c0, .slice a1 n1 c1, .bool false, .slice a3 n3 c3] 73)).alloc (.cells #[.slice none 0 0, .slice none 0 0, .bool false, .slice none 0 0] 73)) (w.heap.size + 1) 73 #[.slice none 0 0, .slice none 0 0, .bool false, .slice none 0 0] := by
        have := Box.new (w.alloc (.cells #[.slice a0 n0 c0, .slice a1 n1 c1, .bool false, .slice a3 n3 c3] 73)) 73 #[.slice none 0 0, .slice none 0 0, .bool false, .slice none 0 0]
        rw [show (w.alloc (.cells #[.slice a0 n0 c0, .slice a1 n1 c1, .bool false, .slice a3 n3 c3] 73)).heap.size = w.heap.size + 1 by simp] at this
        exact this
      go_enter Tryz.func94, Tryz.ntmps94
      go_wp2_with fail
      generalize hW : (w.alloc (.cells #[.slice a0 n0 c0, .slice a1 n1 c1, .bool false, .slice a3 n3 c3] 73)).alloc (.cells #[.slice none 0 0, .slice none 0 0, .bool false, .slice none 0 0] 73) = W at hA xm xr ⊢
      clear hW
      have zr := xr.lt
      obtain ⟨q0, q1, q2, q3⟩ := xm.cells4
      have XM := hidden xm
      have XR := hidden xr
      clear xm xr
      refine (l2Copy_any _ E _ _ _ _ _ _ _ _ _ ss cs false bs (h0.below hA) (h1.below hA) (h3.below hA) hw).mono ?_
      intro e w1 hc
      obtain ⟨b0, b1, b3, e0, e1, e3, m1, m2, rfl, o3, o0, o1, r1, r2, r3, bb⟩ := copy_shapes hl0 hl1 hl3 hc
      clear hc
      have z1 := bb.size
      have sW : w.heap.size + 2 ≤ W.heap.size := by omega
      have ba : Below w1.heap.size w1 (w1.alloc (.cells #[.slice b0 n0 e0, .slice b1 n1 e1, .bool false, .slice b3 n3 e3] 73)) := (Below.refl _ _).alloc (Nat.le_refl _) _
      have yo := Box.new w1 73 #[.slice b0 n0 e0, .slice b1 n1 e1, .bool false, .slice b3 n3 e3]
      have zo := yo.lt
      have YO := hidden yo
      have YR := hidden ((XR.out.below bb zr).below ba (by omega))
      have YM := hidden ((XM.out.below bb (by omega)).below ba (by omega))
      have K0 := hidden (o0.below ba)
      have K1 := hidden (o1.below ba)
      have K3 := hidden (o3.below ba)
      have KB := hidden (hA.trans ((bb.mono (by omega : w.heap.size ≤ W.heap.size)).trans (ba.mono (by omega))))
      clear yo o0 o1 o3 XM XR bb ba hA q0 q1 q2 q3
      obtain ⟨q0, q1, q2, q3⟩ := YM.out.cells4
      go_wp2_with fail
      generalize w1.alloc (.cells #[.slice b0 n0 e0, .slice b1 n1 e1, .bool false, .slice b3 n3 e3] 73) = w2 at YO YR YM K0 K1 K3 KB zo q0 q1 q2 q3 ⊢
      refine (specMemOk_any _ E _ _ _ _ _ _ _ _ _ ss cs false bs (h0.below KB.out) (h1.below KB.out) (h3.below KB.out) hw).mono ?_
      rintro e w3 ⟨rfl, b4⟩
      have z3 := b4.size
      have XO := hidden (YO.out.below b4 (by omega))
      have XR := hidden (YR.out.below b4 (by omega))
      have XM := hidden (YM.out.below b4 (by omega))
      have L0 := hidden (K0.out.below b4)
      have L1 := hidden (K1.out.below b4)
      have L3 := hidden (K3.out.below b4)
      have LB := hidden (KB.out.trans (b4.mono (by have := KB.out.size; omega)))
      clear YO YR YM K0 K1 K3 KB b4 q0 q1 q2 q3
      obtain ⟨q0, q1, q2, q3⟩ := XM.out.cells4
      obtain ⟨x0, x1, x2, x3⟩ := XO.out.cells4
      have hn1' : 0 < n0 := by have := mem_some hM; omega
      obtain ⟨gS, hb0⟩ : ∃ gS, b0 = some ⟨gS, 0, none⟩ := by
        rcases L0.out.rowShape with h | ⟨g, h⟩
        · omega
        · exact ⟨g, h⟩
      subst hb0
      obtain ⟨fpS0, mS0, rS0⟩ := L0.out.mine
      have hgS := rS0 gS (row_parts mS0).1
      obtain ⟨gC, FC, hC0, hC1, hC2⟩ := cache_parts L1.out
      have MS0 := hidden mS0
      have RS0 := hidden rS0
      have HC1 := hidden hC1
      have HC2 := hidden hC2
      clear mS0 rS0 hC1 hC2
      go_wp2
      clear x0 x1 x2 x3
      go_loopw [4] (fun i wr => ∃ (j : Nat) (fpS : List Nat), j ≤ n1 ∧ i = .int .i64 j ∧ Turned [gS] w3 wr ∧ tIntSS.Mine wr [.slice (some ⟨gS, 0, none⟩) n0 e0] (flushD ss (cs.take j)) fpS ∧ (∀ b ∈ fpS, (m1 ≤ b ∧ b < m2) ∨ ∃ i, i < j ∧ b ∈ FC i)) (fun i _ => n1 - (intOf i).toNat)
      case atStart => exact ⟨0, fpS0, Nat.zero_le _, rfl, Turned.refl _ _, by rw [List.take_zero, flushD_nil]; exact MS0.out, fun b hb => .inl (RS0.out b hb)⟩
      case round =>
        obtain ⟨j, fpS, hj, rfl, tn, hS, hfp⟩ := hrel
        have hs := tn.size
        have xo := XO.out.turned tn (by simp; omega)
        obtain ⟨y0, y1, y2, y3⟩ := xo.cells4
        by_cases hjn : j < n1
        · have k1 : (0 : Int) ≤ (j : Int) := by omega
          have k2 : (j : Int) < (n1 : Int) := by omega
          rcases hC0 with hC0 | ⟨rfl, hC3, hC4⟩
          · omega
          have hdj : cs[j]? = some (cs[j]'(by omega)) := List.getElem?_eq_getElem (by omega)
          have htk : cs.take (j + 1) = cs.take j ++ [cs[j]'(by omega)] := List.take_succ_eq_append_getElem (by omega)
          have hmem : cs[j]'(by omega) ∈ cs := List.getElem_mem _
          generalize cs[j]'(by omega) = x at hdj htk hmem
          obtain ⟨q, hq, hql⟩ := mem_writes_lt hM x hmem
          obtain ⟨av, cv, mx, rx, cv0, cv1⟩ := HC1.out j x hdj
          obtain ⟨x0, x1⟩ := x
          simp only at hq mx rx cv0 cv1
          subst hq
          have ncs : gC ≠ gS := by omega
          have d0 := (cell_kept (tn.block gC (by omega) (by simp; omega)) (j * 2)).trans cv0
          have d1 := (cell_kept (tn.block gC (by omega) (by simp; omega)) (j * 2 + 1)).trans cv1
          have mr := mx.kept tn (fun b hb hb' => by have := rx b hb; simp at hb'; omega)
          obtain ⟨⟨old, cOld⟩, fz, hgm, fpA, mA, rA⟩ := row_set1 (j := q) rfl hS (by omega) mr (fun b hb hb' => by
            have h1 := rx b hb
            rcases hfp b hb' with h2 | ⟨i, h2, h3⟩
            · omega
            · exact HC2.out i j h2 (by omega) b h3 hb)
          have hfA : ∀ b ∈ fpA, (m1 ≤ b ∧ b < m2) ∨ ∃ i, i < j + 1 ∧ b ∈ FC i := fun b hb => by
            rcases rA b hb with h | h
            · rcases hfp b h with h2 | ⟨i, h2, h3⟩
              · exact .inl h2
              · exact .inr ⟨i, by omega, h3⟩
            · exact .inr ⟨j, by omega, h⟩
          have k3 : (0 : Int) ≤ (q : Int) := by omega
          have k4 : (q : Int) < (n0 : Int) := by omega
          have HTK := hidden htk
          have HFA := hidden hfA
          have MA := hidden mA
          have TA := hidden (tn.trans (Turned.setCell (w := wr) (g := gS) (j := q) (.slice av x1.length cv) (List.mem_cons_self : gS ∈ [gS])))
          have XOR := hidden xo
          have nO : Hid (w1.heap.size ≠ gS) := by unfold Hid; omega
          have nC : Hid (gC ≠ gS) := ncs
          have hT : Hid (wr.cell? ⟨gC, j * 2, none⟩ = some (.int .i64 (q : Int)) ∧ wr.cell? ⟨gC, j * 2 + 1, none⟩ = some (.slice av x1.length cv)) := ⟨d0, d1⟩
          clear hdj htk hmem mx rx cv0 cv1 mr hfA mA rA tn hS hfp xo hgm ncs
          go_wp2_with fail
          go_region_held3 (fun w' => w'.cell? ⟨w1.heap.size, 0, none⟩ = some (.slice (some ⟨gS, 0, none⟩) n0 e0) ∧ w'.cell? ⟨w1.heap.size, 1, none⟩ = some (.slice (some ⟨gC, 0, none⟩) n1 e1) ∧ w'.cell? ⟨gC, j * 2, none⟩ = some (.int .i64 (q : Int)) ∧ w'.cell? ⟨gC, j * 2 + 1, none⟩ = some (.slice av x1.length cv))
            (first | (exact ⟨y0, y1, d0, d1⟩) | (exact ⟨(XOR.out.other nO.out q (.slice av x1.length cv)).cell 0, (XOR.out.other nO.out q (.slice av x1.length cv)).cell 1, (cell_kept (Below.heap_setCell _ _ _ _ nC.out) _).trans d0, (cell_kept (Below.heap_setCell _ _ _ _ nC.out) _).trans d1⟩) | go_keep)
            (fail)
          clear d0 d1 y0 y1 y2 y3 cOld fz XOR nO nC hT
          go_wp2
          go_roundw
          case rel => exact ⟨j + 1, fpA, by omega, by go_num, Turned.adrew TA.out, by rw [HTK.out, flushD_snoc (by omega)]; exact Ty.Mine.adrew MA.out, HFA.out⟩
          case measure => simp [intOf]; omega
        · have e : n1 = j := by omega
          subst e
          rw [List.take_of_length_le (by omega)] at hS
          have yo := xo.alloc (.cells #[] 104)
          have ys := yo.set 1 (.slice (some ⟨wr.heap.size, 0, none⟩) 0 0)
          have yt := ((XR.out.turned tn (by simp; omega)).alloc (.cells #[] 104)).other (g := w1.heap.size) (by omega) 1 (.slice (some ⟨wr.heap.size, 0, none⟩) 0 0)
          obtain ⟨s0, s1, s2, s3⟩ := yo.cells4
          have fo := yo.frozen 1
          obtain ⟨t0, t1, t2, t3⟩ := Box.cells4 (v0 := .slice (some ⟨gS, 0, none⟩) n0 e0) (v1 := (.slice (some ⟨wr.heap.size, 0, none⟩) 0 0)) (v2 := .bool false) (v3 := .slice b3 n3 e3) ys
          obtain ⟨p0, p1, p2, p3⟩ := yt.cells4
          have fz := yt.frozen
          have zl : (wr.alloc (.cells #[] 104)).heap.size = wr.heap.size + 1 := by simp
          have ZL := hidden zl
          have bo := But.setCell (lo := w1.heap.size) (hi := w1.heap.size + 1) (g := w1.heap.size) (j := 1) (w := (wr.alloc (.cells #[] 104))) (Nat.le_refl _) (Nat.lt_succ_self _) (.slice (some ⟨wr.heap.size, 0, none⟩) 0 0)
          have bl : Below wr.heap.size wr (wr.alloc (.cells #[] 104)) := (Below.refl _ _).alloc (Nat.le_refl _) _
          have kl := ((lit0_mine (t := tWr) (E := 104) wr).own (lo := wr.heap.size) (hi := wr.heap.size + 1) (fun b hb => by simp at hb; omega)).but bo (.inr (by omega))
          have k0 := ((hS.own (lo := m1) (hi := w1.heap.size) (fun b hb => by
            rcases hfp b hb with h | ⟨i, h2, h3⟩
            · omega
            · by_cases hin : i < n1
              · obtain ⟨_, _, _, r, _⟩ := HC1.out i _ (List.getElem?_eq_getElem (by omega))
                have := r b h3
                omega
              · omega)).below bl).but bo (.inl (Nat.le_refl _))
          have k3 := ((L3.out.but (tn.but (lo := m1) (hi := m2) (by simp; omega)) (.inl (Nat.le_refl _))).below bl).but bo (.inl (by omega))
          have kb : Below w.heap.size w ((wr.alloc (.cells #[] 104)).setCell ⟨w1.heap.size, 1, none⟩ (.slice (some ⟨wr.heap.size, 0, none⟩) 0 0)) := LB.out.trans ((tn.below (N := w.heap.size) (by omega) (by simp; omega)).trans ((bl.mono (by omega)).trans (bo.below (by omega) (by omega))))
          have zs := bo.size
          clear zl bo bl hS tn hfp xo yo ys yt q0 q1 q2 q3 XM hC0 HC1 HC2 MS0 RS0
          go_wp2
          generalize ((wr.alloc (.cells #[] 104)).setCell ⟨w1.heap.size, 1, none⟩ (.slice (some ⟨wr.heap.size, 0, none⟩) 0 0)) = wz at t0 t1 t2 t3 p0 p1 p2 p3 fz kl k0 k3 kb zs ⊢
          have zL := ZL.out
          have hbt : But (w.heap.size + 1) (w.heap.size + 2) wz ((((wz.setCell ⟨w.heap.size + 1, 0, none⟩ (.slice (some ⟨gS, 0, none⟩) n0 e0)).setCell ⟨w.heap.size + 1, 1, none⟩ (.slice (some ⟨wr.heap.size, 0, none⟩) 0 0)).setCell ⟨w.heap.size + 1, 2, none⟩ (.bool false)).setCell ⟨w.heap.size + 1, 3, none⟩ (.slice b3 n3 e3)) :=
            (((But.setCell (by omega) (by omega) _).trans (But.setCell (by omega) (by omega) _)).trans (But.setCell (by omega) (by omega) _)).trans (But.setCell (by omega) (by omega) _)
          have z9 := hbt.size
          refine bodyPost_ret (v := .agg #[.slice (some ⟨gS, 0, none⟩) n0 e0, (.slice (some ⟨wr.heap.size, 0, none⟩) 0 0), .bool false, .slice b3 n3 e3]) (by simp [results, Tryz.results94, go_sem, p0, p1, p2, p3]) rfl ?_
          exact ⟨_, _, _, rfl, mem_own3 (k0.but hbt (by omega)) (kl.but hbt (by omega)) (k3.but hbt (by omega)) (by omega) (by omega) (by omega) (by omega) (by omega) (by omega), Below.andBut kb hbt (by omega)⟩
  · have hM : memB ss cs bs = false := by simpa using hM
    have e1 : flSS ss cs f bs = ss := by unfold flSS; simp [hM]
    have e2 : flCS ss cs f bs = cs := by unfold flCS; simp [hM]
    rw [e1, e2]
    clear e1 e2
    have hA : Below w.heap.size w ((w.alloc (.cells #[.slice a0 n0 c0, .slice a1 n1 c1, .bool f, .slice a3 n3 c3] 73)).alloc (.cells #[.slice none 0 0, .slice none 0 0, .bool false, .slice none 0 0] 73)) := ((Below.refl _ _).alloc (Nat.le_refl _) _).alloc (by simp) _
    have xm : Box ((w.alloc (.cells #[.slice a0 n0 c0, .slice a1 n1 c1, .bool f, .slice a3 n3 c3] 73)).alloc (.cells #[.slice none 0 0, .slice none 0 0, .bool false, .slice none 0 0] 73)) w.heap.size 73 #[.slice a0 n0 c0, .slice a1 n1 c1, .bool f, .slice a3 n3 c3] := (Box.new w _ _).alloc _
    have xr : Box ((w.alloc (.cells #[.slice a0 n0 c0, .slice a1 n1 c1, .bool f, .slice a3 n3 c3] 73)).alloc (.cells #[.slice none 0 0, .slice none 0 0, .bool false, .slice none 0 0] 73)) (w.heap.size + 1) 73 #[.slice none 0 0, .slice none 0 0, .bool false, .slice none 0 0] := by
      have := Box.new (w.alloc (.cells #[.slice a0 n0 c0, .slice a1 n1 c1, .bool f, .slice a3 n3 c3] 73)) 73 #[.slice none 0 0, .slice none 0 0, .bool false, .slice none 0 0]
      rw [show (w.alloc (.cells #[.slice a0 n0 c0, .slice a1 n1 c1, .bool f, .slice a3 n3 c3] 73)).heap.size = w.heap.size + 1 by simp] at this
      exact this
    go_enter Tryz.func94, Tryz.ntmps94
    go_wp2_with fail
    generalize hW : (w.alloc (.cells #[.slice a0 n0 c0, .slice a1 n1 c1, .bool f, .slice a3 n3 c3] 73)).alloc (.cells #[.slice none 0 0, .slice none 0 0, .bool false, .slice none 0 0] 73) = W at hA xm xr ⊢
    clear hW
    have zr := xr.lt
    obtain ⟨q0, q1, q2, q3⟩ := xm.cells4
    have XM := hidden xm
    have XR := hidden xr
    clear xm xr
    refine (l2Copy_any _ E _ _ _ _ _ _ _ _ _ ss cs f bs (h0.below hA) (h1.below hA) (h3.below hA) hw).mono ?_
    intro e w1 hc
    obtain ⟨b0, b1, b3, e0, e1, e3, m1, m2, rfl, o3, o0, o1, r1, r2, r3, bb⟩ := copy_shapes hl0 hl1 hl3 hc
    clear hc
    have z1 := bb.size
    have sW : w.heap.size + 2 ≤ W.heap.size := by omega
    have ba : Below w1.heap.size w1 (w1.alloc (.cells #[.slice b0 n0 e0, .slice b1 n1 e1, .bool f, .slice b3 n3 e3] 73)) := (Below.refl _ _).alloc (Nat.le_refl _) _
    have yo := Box.new w1 73 #[.slice b0 n0 e0, .slice b1 n1 e1, .bool f, .slice b3 n3 e3]
    have zo := yo.lt
    have YO := hidden yo
    have YR := hidden ((XR.out.below bb zr).below ba (by omega))
    have YM := hidden ((XM.out.below bb (by omega)).below ba (by omega))
    have K0 := hidden (o0.below ba)
    have K1 := hidden (o1.below ba)
    have K3 := hidden (o3.below ba)
    have KB := hidden (hA.trans ((bb.mono (by omega : w.heap.size ≤ W.heap.size)).trans (ba.mono (by omega))))
    clear yo o0 o1 o3 XM XR bb ba hA q0 q1 q2 q3
    obtain ⟨q0, q1, q2, q3⟩ := YM.out.cells4
    go_wp2_with fail
    generalize w1.alloc (.cells #[.slice b0 n0 e0, .slice b1 n1 e1, .bool f, .slice b3 n3 e3] 73) = w2 at YO YR YM K0 K1 K3 KB zo q0 q1 q2 q3 ⊢
    refine (specMemOk_any _ E _ _ _ _ _ _ _ _ _ ss cs f bs (h0.below KB.out) (h1.below KB.out) (h3.below KB.out) hw).mono ?_
    rintro e w3 ⟨rfl, b4⟩
    have z3 := b4.size
    have XO := hidden (YO.out.below b4 (by omega))
    have XR := hidden (YR.out.below b4 (by omega))
    have XM := hidden (YM.out.below b4 (by omega))
    have L0 := hidden (K0.out.below b4)
    have L1 := hidden (K1.out.below b4)
    have L3 := hidden (K3.out.below b4)
    have LB := hidden (KB.out.trans (b4.mono (by have := KB.out.size; omega)))
    clear YO YR YM K0 K1 K3 KB b4 q0 q1 q2 q3
    obtain ⟨q0, q1, q2, q3⟩ := XM.out.cells4
    obtain ⟨x0, x1, x2, x3⟩ := XO.out.cells4
    obtain ⟨p0, p1, p2, p3⟩ := XR.out.cells4
    have fz := XR.out.frozen
    have hbt : But (w.heap.size + 1) (w.heap.size + 2) w3 ((((w3.setCell ⟨w.heap.size + 1, 0, none⟩ (.slice b0 n0 e0)).setCell ⟨w.heap.size + 1, 1, none⟩ (.slice b1 n1 e1)).setCell ⟨w.heap.size + 1, 2, none⟩ (.bool f)).setCell ⟨w.heap.size + 1, 3, none⟩ (.slice b3 n3 e3)) :=
      (((But.setCell (by omega) (by omega) _).trans (But.setCell (by omega) (by omega) _)).trans (But.setCell (by omega) (by omega) _)).trans (But.setCell (by omega) (by omega) _)
    have z9 := hbt.size
    have FIN : Hid ((tMem 104).Own ((((w3.setCell ⟨w.heap.size + 1, 0, none⟩ (.slice b0 n0 e0)).setCell ⟨w.heap.size + 1, 1, none⟩ (.slice b1 n1 e1)).setCell ⟨w.heap.size + 1, 2, none⟩ (.bool f)).setCell ⟨w.heap.size + 1, 3, none⟩ (.slice b3 n3 e3)) w.heap.size ((((w3.setCell ⟨w.heap.size + 1, 0, none⟩ (.slice b0 n0 e0)).setCell ⟨w.heap.size + 1, 1, none⟩ (.slice b1 n1 e1)).setCell ⟨w.heap.size + 1, 2, none⟩ (.bool f)).setCell ⟨w.heap.size + 1, 3, none⟩ (.slice b3 n3 e3)).heap.size [.slice b0 n0 e0, .slice b1 n1 e1, .bool f, .slice b3 n3 e3] (ss, cs, f, bs)) := mem_own3 (L0.out.but hbt (by omega)) (L1.out.but hbt (by omega)) (L3.out.but hbt (by omega)) (by omega) (by omega) (by omega) (by omega) (by omega) (by omega)
    have FB := hidden (Below.andBut LB.out hbt (by omega))
    clear hbt
    go_wp2
    refine bodyPost_ret (v := .agg #[.slice b0 n0 e0, .slice b1 n1 e1, .bool f, .slice b3 n3 e3]) (by simp [results, Tryz.results94, go_sem, p0, p1, p2, p3]) rfl ?_
    exact ⟨_, _, _, rfl, FIN.out, FB.out⟩

end Go.Proofs.YthkpkpclmemodaaGreat

/-
  The walk of the specification's l7Sync: all disks flushed. Conditions: the power goes within 1000 operations, or stays; every disk is right.
-/
namespace Go.Proofs.YthkpkpclmemodaaGreat
open Go.RowKit

set_option linter.unusedSimpArgs false in
set_option maxRecDepth 20000 in
set_option maxHeartbeats 3200000 in
theorem l7Sync_any (w : World) (B : Nat) (x : ArrN) (ms : List MemD) (ds : List (Int × List Int)) (fm fd : List Nat) (h : ArrAt w B x ms ds fm fd) (hf : x.fuse ≤ 1000) (hM : MsOk ms) :
    Calls Tryz.prog 55 #[.pointer (some ⟨B, 0, none⟩)] w fun e w' => e = .returned (.tuple #[]) ∧ ∃ fm', ArrAt w' B (syncS (x, ms) ms.length).1 (syncS (x, ms) ms.length).2 ds fm' fd ∧ Moved B fm w fm' w' := by
  have hkp := fun j => syncS_keeps (q := (x, ms)) hM hf j
  have HK := hidden hkp
  clear hkp
  have H0 := hidden h
  obtain ⟨bm0, bd0, cm0, cd0, X0, hm0, _⟩ := h
  have hmx := (row_length hm0.rd).2
  clear X0 hm0
  go_enter Tryz.func55, Tryz.ntmps55
  go_wp2
  go_loopw [2] (fun i wr => ∃ (j : Nat) (fm1 : List Nat), j ≤ ms.length ∧ i = .int .i64 j ∧ ArrAt wr B (syncS (x, ms) j).1 (syncS (x, ms) j).2 ds fm1 fd ∧ Moved B fm w fm1 wr) (fun i _ => ms.length - (intOf i).toNat)
  case atStart => exact ⟨0, fm, Nat.zero_le _, rfl, H0.out, Moved.refl _ _ _⟩
  case round =>
    obtain ⟨j, fm1, hj, rfl, hA, hMv⟩ := hrel
    obtain ⟨hMj, hsj, hlj⟩ := HK.out j
    have hfj := hsj.2.2.2.2.2.2.2.2.2.1
    have HS := hidden (syncS_succ (x, ms) j)
    generalize hst : syncS (x, ms) j = st at hA hMj hsj hlj hfj HS
    have HST := hidden hst
    clear hst
    obtain ⟨y, ns⟩ := st
    dsimp only at hA hMj hsj hlj hfj
    have HA := hidden hA
    obtain ⟨bm, bd, cm, cd, X, hmm, hdd, hr, r1, r2⟩ := hA
    rw [hlj] at X hmm
    have X0 := X
    unfold arrC at X0
    obtain ⟨k0, k1, k2, k3, k4, k5, k6, k7, k8, k9, k10, k11, k12⟩ := X0.cells13
    by_cases hjn : j < ms.length
    · have i2 : (j : Int) < (ms.length : Int) := by omega
      have i1 : (0 : Int) ≤ (j : Int) := by omega
      obtain ⟨g, rfl⟩ := row_head hmm (by omega)
      have hdj : ns[j]? = some (ns[j]'(by omega)) := List.getElem?_eq_getElem (by omega)
      generalize ns[j]'(by omega) = d at hdj
      obtain ⟨hgl, a0, a1, a3, c0, c1, c3, ss, cs, f, bs, rfl, q0, q1, q2, q3, _, _, _⟩ := disk_at hmm hdj
      have MV := hidden hMv
      clear X X0 hmm hdd hMv
      cases f
      · go_wp2_with fail
        refine (l7Op_any _ B y ns ds fm1 fd HA.out hfj).mono ?_
        rintro e w1 ⟨rfl, hA1, hMv1⟩
        clear k0 k1 k2 k3 k4 k5 k6 k7 k8 k9 k10 k11 k12 q0 q1 q2 q3 HA
        cases ho : opB y
        · have HP : Hid (syncS (x, ms) (j + 1) = (opX y, ns)) := HS.out.trans (doS_no hdj rfl ho)
          have HB := hidden (MV.out.trans hMv1)
          have HA1 := hidden hA1
          clear hA1 hMv1
          go_wp2
          go_roundw
          case rel => exact ⟨j + 1, fm1, by omega, by go_num, by rw [HP.out]; exact HA1.out, HB.out⟩
          case measure => simp [intOf]; omega
        · have HP : Hid (syncS (x, ms) (j + 1) = (opX y, ns.set j (flM (ss, cs, false, bs)))) := HS.out.trans (doS_yes hdj rfl ho)
          obtain ⟨bm, bd, cm, cd, X, hmm, hdd, hr, r1, r2⟩ := hA1
          obtain ⟨g, rfl⟩ := row_head hmm (by omega)
          obtain ⟨hgl, a0, a1, a3, c0, c1, c3, ss, cs, f, bs, hde, q0, q1, q2, q3, p0, p1, p3⟩ := disk_at hmm hdj
          simp only [Prod.mk.injEq] at hde
          obtain ⟨rfl, rfl, rfl, rfl⟩ := hde
          have X0 := X
          unfold arrC at X0
          have x3 := X0.cells13.2.2.2.1
          have hwt := memB_light (hMj j _ hdj) false
          dsimp only at hwt
          have zB := X.lt
          have XH := hidden X
          have MH := hidden hmm
          have DH := hidden hdd
          have MV1 := hidden hMv1
          have R0 := hidden p0
          have R1 := hidden p1
          have R3 := hidden p3
          have hS : w1.drew.cell? ⟨B, 3, none⟩ = some (.slice (some ⟨g, 0, none⟩) ns.length cm) ∧ w1.drew.cell? ⟨g, j * 4, none⟩ = some (.slice a0 ss.length c0) ∧ w1.drew.cell? ⟨g, j * 4 + 1, none⟩ = some (.slice a1 cs.length c1) ∧ w1.drew.cell? ⟨g, j * 4 + 2, none⟩ = some (.bool false) ∧ w1.drew.cell? ⟨g, j * 4 + 3, none⟩ = some (.slice a3 bs.length c3) := ⟨x3, q0, q1, q2, q3⟩
          have i3 : (j : Int) < (ns.length : Int) := by omega
          clear X X0 hmm hdd hMv1 p0 p1 p3
          go_wp2_with fail
          refine Upto.start (S := fun w' => w'.cell? ⟨B, 3, none⟩ = some (.slice (some ⟨g, 0, none⟩) ns.length cm) ∧ w'.cell? ⟨g, j * 4, none⟩ = some (.slice a0 ss.length c0) ∧ w'.cell? ⟨g, j * 4 + 1, none⟩ = some (.slice a1 cs.length c1) ∧ w'.cell? ⟨g, j * 4 + 2, none⟩ = some (.bool false) ∧ w'.cell? ⟨g, j * 4 + 3, none⟩ = some (.slice a3 bs.length c3)) (k := 14) (by kernel_rfl) ?_
          refine Upto.t 0 hS ?_
          refine Upto.t 1 hS ?_
          refine Upto.t 2 hS ?_
          refine Upto.t 3 hS ?_
          refine Upto.t 4 hS ?_
          refine Upto.t 5 hS ?_
          refine Upto.t 6 hS ?_
          refine Upto.t 7 hS ?_
          refine Upto.t 8 hS ?_
          refine Upto.t 9 hS ?_
          refine Upto.t 10 hS ?_
          refine Upto.t 11 hS ?_
          refine Upto.one (i := 12) (by kernel_rfl) rfl (fun K hK => ?_)
          go_simp
          refine (specFlushMem_any _ 104 _ _ _ _ _ _ _ _ _ ss cs false bs R0.out.drew R1.out.drew R3.out.drew (by omega)).mono ?_
          rintro e w2 ⟨u0, u1, u3, rfl, o2, b2'⟩
          have b2 : Below w1.heap.size w1 w2 := (Below.refl w1.heap.size w1).drew.trans b2'
          have o2b : (tMem 104).Own w2 w1.heap.size w2.heap.size [u0, u1, .bool false, u3] _ := o2
          obtain ⟨d0, l0, f0, d1, l1, f1, d3, l3, f3, hv0, hv1, hv3⟩ := mem_slices o2b
          subst hv0 hv1 hv3
          obtain ⟨fpx, mx, rx⟩ := o2b.mine
          obtain ⟨cOld, fz, hgm, fm9, hA9, hMv9⟩ := arr_store (m := j) XH.out MH.out DH.out hr r1 r2 b2 (by omega) mx (fun b hb => (rx b hb).1)
          obtain ⟨o0, t0⟩ := cOld 0 (by omega)
          obtain ⟨o1, t1⟩ := cOld 1 (by omega)
          obtain ⟨o2', t2⟩ := cOld 2 (by omega)
          obtain ⟨o3, t3⟩ := cOld 3 (by omega)
          rw [Nat.add_zero] at t0
          have HA := hidden hA9
          have HMV := hidden ((MV.out.trans MV1.out).trans hMv9)
          have hS2 : w2.cell? ⟨B, 3, none⟩ = some (.slice (some ⟨g, 0, none⟩) ns.length cm) ∧ w2.cell? ⟨g, j * 4, none⟩ = some (.slice a0 ss.length c0) ∧ w2.cell? ⟨g, j * 4 + 1, none⟩ = some (.slice a1 cs.length c1) ∧ w2.cell? ⟨g, j * 4 + 2, none⟩ = some (.bool false) ∧ w2.cell? ⟨g, j * 4 + 3, none⟩ = some (.slice a3 bs.length c3) := ⟨(b2.cell (p := ⟨B, 3, none⟩) zB).trans x3, (b2.cell (p := ⟨g, j * 4, none⟩) hgl).trans q0, (b2.cell (p := ⟨g, j * 4 + 1, none⟩) hgl).trans q1, (b2.cell (p := ⟨g, j * 4 + 2, none⟩) hgl).trans q2, (b2.cell (p := ⟨g, j * 4 + 3, none⟩) hgl).trans q3⟩
          have gB : ¬ g = B := fun e => r1 (e ▸ hgm)
          unfold put4 at HA HMV
          clear x3 q0 q1 q2 q3 o2 o2b b2 b2' mx rx cOld hA9 hMv9 XH MH DH MV MV1 R0 R1 R3 hwt
          go_wp2_with fail
          refine hK.out _ _ (fun _ => hS2) ?_
          clear hK K
          refine Upto.t 13 hS2 ?_
          refine Upto.one (i := 14) (by kernel_rfl) rfl (fun K hK => ?_)
          go_simp
          refine hK.out _ _ (fun h => absurd rfl h) ?_
          clear hK K
          refine Upto.done (by kernel_rfl) ?_ _
          clear hS hS2 t0 t1 t2 t3 fz
          go_wp2
          go_roundw
          case rel => exact ⟨j + 1, fm9, by omega, by go_num, by rw [HP.out]; exact HA.out, HMV.out⟩
          case measure => simp [intOf]; omega
      · have HP : Hid (syncS (x, ms) (j + 1) = (y, ns)) := HS.out.trans (doS_failed hdj rfl)
        go_wp2
        go_roundw
        case rel => exact ⟨j + 1, fm1, by omega, by go_num, by rw [HP.out]; exact HA.out, MV.out⟩
        case measure => simp [intOf]; omega
    · have ej : j = ms.length := by omega
      subst ej
      have HMV := hidden hMv
      clear X X0 hmm hdd hMv
      go_wp2
      refine bodyPost_end (v := .tuple #[]) (results_none rfl _ _ _) rfl ?_
      exact ⟨rfl, fm1, by rw [HST.out]; exact HA.out, HMV.out⟩


end Go.Proofs.YthkpkpclmemodaaGreat

/-
  The walks of the specification's Blocks, ParityOf, DiskOf, StripeOf, IndexOf and BlockAt. No condition.
-/
namespace Go.Proofs.YthkpkpclmemodaaGreat
open Go.RowKit

theorem sStripe_of {n s t : Int} : stripeB n s t = true ↔ geoB n s = true ∧ 0 ≤ t ∧ t ≤ s - 1 := by unfold stripeB; rw [Bool.and_eq_true, inB_iff]

set_option maxHeartbeats 800000 in
theorem l3Stripe_any (w : World) (n s t : Int) : Calls Tryz.prog 134 #[.agg #[.int .i64 n, .int .i64 s], .int .i64 t] w fun e w' => e = .returned (.bool (stripeB n s t)) ∧ Below w.heap.size w w' := by
  have hA := new_below w (.cells #[.int .i64 n, .int .i64 s] 29)
  have X := Gbox.new w 29 n s
  obtain ⟨k0, k1⟩ := X.cells
  have zA := X.lt
  go_enter Tryz.func134, Tryz.ntmps134
  go_wp2_with fail
  refine (specGeoOk_any _ _ _).mono ?_
  rintro e w1 ⟨rfl, b1⟩
  have X1 := X.below b1 zA
  obtain ⟨p0, p1⟩ := X1.cells
  have B1 := Below.andThen hA b1
  clear k0 k1 X b1 hA zA
  by_cases hg : geoB n s = true
  · obtain ⟨h1, h2, h3, h4⟩ := geoB_iff.1 hg
    go_wp2_with fail
    refine (l1In_any _ _ _ _).mono ?_
    rintro e w2 ⟨rfl, rfl⟩
    go_wp2
    go_ret
    exact ⟨ret_bool (by unfold stripeB; rw [hg]; rfl), B1⟩
  · have hg : geoB n s = false := by simpa using hg
    go_wp2
    go_ret
    exact ⟨ret_bool (by unfold stripeB; rw [hg]; rfl), B1⟩

set_option maxHeartbeats 800000 in
theorem specParityOf_any (w : World) (n s t : Int) : Calls Tryz.prog 109 #[.agg #[.int .i64 n, .int .i64 s], .int .i64 t] w fun e w' => e = .returned (.int .i64 (parN n s t)) ∧ Below w.heap.size w w' := by
  have hA := new_below w (.cells #[.int .i64 n, .int .i64 s] 29)
  have X := Gbox.new w 29 n s
  obtain ⟨k0, k1⟩ := X.cells
  have zA := X.lt
  go_enter Tryz.func109, Tryz.ntmps109
  go_wp2_with fail
  refine (l3Stripe_any _ _ _ _).mono ?_
  rintro e w1 ⟨rfl, b1⟩
  have X1 := X.below b1 zA
  obtain ⟨p0, p1⟩ := X1.cells
  have B1 := Below.andThen hA b1
  clear k0 k1 X b1 hA zA
  by_cases hg : stripeB n s t = true
  · obtain ⟨hg1, h1, h2⟩ := sStripe_of.1 hg
    obtain ⟨g1, g2, g3, g4⟩ := geoB_iff.1 hg1
    have hm1 : 0 ≤ t % n := Int.emod_nonneg _ (by omega)
    have hm2 : t % n < n := Int.emod_lt_of_pos _ (by omega)
    have HB : Hid (parN n s t = n - 1 - t % n) := by unfold Hid parN; rw [if_pos hg]
    go_wp2_with fail
    go_quiet (fail)
    go_wp2
    go_ret
    exact ⟨ret_int (by rw [HB.out]), Below.andSame B1 ((Same.refl _).drewN _)⟩
  · have hg' : stripeB n s t = false := by simpa using hg
    go_wp2
    go_ret
    exact ⟨ret_int (by unfold parN; rw [if_neg hg]), B1⟩



theorem blockB_geo' {n s b : Int} (h : blockB n s b = true) : geoB n s = true ∧ 0 ≤ b ∧ b < blocksN n s := by
  unfold blockB at h
  rw [inB_iff] at h
  by_cases hg : geoB n s = true
  · exact ⟨hg, by omega, by omega⟩
  · rw [blocksN_not (by simpa using hg)] at h
    omega



end Go.Proofs.YthkpkpclmemodaaGreat

/-
  What xor does: all numbers together as one number of 64 bits, a number that comes twice is gone, and all but one. No condition; nothing of the program is named here but the model's own word for xor.
-/
namespace Go.Proofs.YthkpkpclmemodaaGreat
open Go.RowKit

/-- All together, from the left. -/
def xorL (l : List Int) : Int := l.foldl (fun n x => bits BinOp.xor IntKind.i64 n x) 0

theorem xorL_step {zs : List Int} {j : Nat} {x : Int} (h : j < zs.length) (hx : zs.getD j 0 = x) : bits BinOp.xor IntKind.i64 (xorL (zs.take j)) x = xorL (zs.take (j + 1)) := by
  have e : zs[j] = x := by rw [← hx]; simp [List.getElem?_eq_getElem h]
  unfold xorL
  rw [List.take_succ_eq_append_getElem h, List.foldl_append, e]
  rfl

/-- The number of 64 bits. -/
def bv (n : Int) : BitVec 64 := BitVec.ofInt 64 n
def ofBv (v : BitVec 64) : Int := IntKind.i64.wrap (v.toNat : Int)
theorem xor_bv (a b : Int) : bits BinOp.xor IntKind.i64 a b = ofBv (bv a ^^^ bv b) := rfl
theorem bv_ofBv (v : BitVec 64) : bv (ofBv v) = v := by
  apply BitVec.eq_of_toNat_eq
  have := v.isLt
  unfold bv ofBv
  rw [BitVec.toNat_ofInt, IntKind.wrap_i64]
  omega
theorem ofBv_bv {n : Int} (h1 : -9223372036854775808 ≤ n) (h2 : n ≤ 9223372036854775807) : ofBv (bv n) = n := by
  unfold bv ofBv
  rw [BitVec.toNat_ofInt, IntKind.wrap_i64]
  omega
def xorV (l : List Int) : BitVec 64 := l.foldl (fun v x => v ^^^ bv x) 0

theorem xor_fold (l : List Int) (v : BitVec 64) : l.foldl (fun n x => bits BinOp.xor IntKind.i64 n x) (ofBv v) = ofBv (l.foldl (fun v x => v ^^^ bv x) v) := by
  induction l generalizing v with
  | nil => rfl
  | cons x l ih => rw [List.foldl_cons, List.foldl_cons, xor_bv, bv_ofBv, ih]
theorem xorL_bv (l : List Int) : xorL l = ofBv (xorV l) := by
  have h : ofBv 0 = 0 := by decide
  unfold xorL xorV
  rw [← h, xor_fold]

/-- All but the k-th, of the first j. -/
def skipL (zs : List Int) (k : Int) (j : Nat) : Int := (List.range j).foldl (fun (n : Int) (i : Nat) => if (i : Int) = k then n else bits BinOp.xor IntKind.i64 n (zs.getD i 0)) 0
theorem skipL_succ (zs : List Int) (k : Int) (j : Nat) : skipL zs k (j + 1) = if (j : Int) = k then skipL zs k j else bits BinOp.xor IntKind.i64 (skipL zs k j) (zs.getD j 0) := by
  unfold skipL
  rw [List.range_succ, List.foldl_append]
  rfl

theorem skip_bv (zs : List Int) (k : Int) (j : Nat) (hj : j ≤ zs.length) : ∃ v, skipL zs k j = ofBv v ∧ xorV (zs.take j) = if 0 ≤ k ∧ k < j then v ^^^ bv (zs.getD k.toNat 0) else v := by
  induction j with
  | zero => exact ⟨0, (by decide : (0 : Int) = ofBv 0), by rw [if_neg (by omega)]; rfl⟩
  | succ j ih =>
    obtain ⟨v, hv, hx⟩ := ih (by omega)
    have hs : xorV (zs.take (j + 1)) = xorV (zs.take j) ^^^ bv (zs.getD j 0) := by
      unfold xorV
      rw [List.take_succ_eq_append_getElem (by omega), List.foldl_append]
      simp [List.getElem?_eq_getElem (show j < zs.length by omega)]
    rw [skipL_succ, hs, hx]
    by_cases hk : (j : Int) = k
    · subst hk
      refine ⟨v, by rw [if_pos rfl]; exact hv, ?_⟩
      rw [if_neg (by omega), if_pos (by omega), Int.toNat_natCast]
    · refine ⟨v ^^^ bv (zs.getD j 0), by rw [if_neg hk, hv, xor_bv, bv_ofBv], ?_⟩
      by_cases h1 : 0 ≤ k ∧ k < j
      · rw [if_pos h1, if_pos (by omega), BitVec.xor_assoc, BitVec.xor_comm (bv (zs.getD k.toNat 0)), BitVec.xor_assoc]
      · rw [if_neg h1, if_neg (by omega)]

theorem skip_all (zs : List Int) (k : Int) : skipL zs k zs.length = if 0 ≤ k ∧ k < zs.length then bits BinOp.xor IntKind.i64 (xorL zs) (zs.getD k.toNat 0) else xorL zs := by
  obtain ⟨v, hv, hx⟩ := skip_bv zs k zs.length (Nat.le_refl _)
  rw [List.take_length] at hx
  rw [hv, xorL_bv, hx]
  by_cases h : 0 ≤ k ∧ k < zs.length
  · rw [if_pos h, if_pos h, xor_bv, bv_ofBv, BitVec.xor_assoc, BitVec.xor_self, BitVec.xor_zero]
  · rw [if_neg h, if_neg h]

theorem skip_back (zs : List Int) (k : Nat) (h : k < zs.length) : bits BinOp.xor IntKind.i64 (skipL zs k zs.length) (zs.getD k 0) = xorL zs := by
  rw [skip_all, if_pos (by omega), Int.toNat_natCast, xor_bv, xor_bv, bv_ofBv, xorL_bv, bv_ofBv, BitVec.xor_assoc, BitVec.xor_self, BitVec.xor_zero]

theorem xor_twice (zs : List Int) (n : Int) : xorL (zs ++ [n, n]) = xorL zs := by
  rw [xorL_bv, xorL_bv]
  unfold xorV
  rw [List.foldl_append]
  simp only [List.foldl_cons, List.foldl_nil]
  rw [BitVec.xor_assoc, BitVec.xor_self, BitVec.xor_zero]
theorem xor_one {n : Int} (h1 : -9223372036854775808 ≤ n) (h2 : n ≤ 9223372036854775807) : xorL [n] = n := by
  rw [xorL_bv]
  unfold xorV
  simp only [List.foldl_cons, List.foldl_nil]
  have e : (0 : BitVec 64) ^^^ bv n = bv n := BitVec.zero_xor
  rw [e, ofBv_bv h1 h2]

end Go.Proofs.YthkpkpclmemodaaGreat

/-
  The walks of both XorOf (the program's and the specification's): each answers all numbers together, by xor. Condition: at most 2097152 elements.
-/
namespace Go.Proofs.YthkpkpclmemodaaGreat
open Go.RowKit

theorem specXorOf_any (w : World) (a : Option Addr) (len cap : Nat) (zs : List Int) (hz : zs.length = len) (hr : Reads .i64 w a zs) (hlen : len ≤ 2097152) :
    Calls Tryz.prog 135 #[.slice a len cap] w fun e w' => e = .returned (.int .i64 (xorL zs)) ∧ Same w w' := by
  go_enter Tryz.func135, Tryz.ntmps135
  go_wp2
  go_loop [3, 4] (fun n i => ∃ j : Nat, j ≤ len ∧ i = .int .i64 j ∧ n = .int .i64 (xorL (zs.take j))) (fun _ i => len - (intOf i).toNat)
  case atStart => exact ⟨0, Nat.zero_le _, rfl, rfl⟩
  case round =>
    obtain ⟨j, hj, rfl, rfl⟩ := hrel
    by_cases hlt : j < len
    · rcases hr.cases with h0 | ⟨b, off, rfl, hbl, hc⟩
      · omega
      have hc1 := hc j (by omega)
      have HX : Hid (bits BinOp.xor IntKind.i64 (xorL (zs.take j)) (zs.getD j 0) = xorL (zs.take (j + 1))) := xorL_step (by omega) rfl
      generalize zs.getD j 0 = x at hc1 HX
      clear hc
      go_wp2
      go_round
      case rel => exact ⟨j + 1, by omega, by go_num, by rw [HX.out]⟩
      case measure => simp [intOf]; omega
    · go_wp2
      go_ret
      have e : j = len := by omega
      subst e
      exact ⟨ret_int (by rw [List.take_of_length_le (by omega)]), Same.refl _⟩

theorem implXorOf_any (w : World) (a : Option Addr) (len cap : Nat) (zs : List Int) (hz : zs.length = len) (hr : Reads .i64 w a zs) (hlen : len ≤ 2097152) :
    Calls Tryz.prog 153 #[.slice a len cap] w fun e w' => e = .returned (.int .i64 (xorL zs)) ∧ Same w w' := by
  go_enter Tryz.func153, Tryz.ntmps153
  go_wp2
  go_loop [3, 8] (fun n i => ∃ j : Nat, j ≤ len ∧ i = .int .i64 j ∧ n = .int .i64 (xorL (zs.take j))) (fun _ i => len - (intOf i).toNat)
  case atStart => exact ⟨0, Nat.zero_le _, rfl, rfl⟩
  case round =>
    obtain ⟨j, hj, rfl, rfl⟩ := hrel
    by_cases hlt : j < len
    · rcases hr.cases with h0 | ⟨b, off, rfl, hbl, hc⟩
      · omega
      have hc1 := hc j (by omega)
      have HX : Hid (bits BinOp.xor IntKind.i64 (xorL (zs.take j)) (zs.getD j 0) = xorL (zs.take (j + 1))) := xorL_step (by omega) rfl
      generalize zs.getD j 0 = x at hc1 HX
      clear hc
      go_wp2
      go_round
      case rel => exact ⟨j + 1, by omega, by go_num, by rw [HX.out]⟩
      case measure => simp [intOf]; omega
    · go_wp2
      go_ret
      have e : j = len := by omega
      subst e
      exact ⟨ret_int (by rw [List.take_of_length_le (by omega)]), Same.refl _⟩

end Go.Proofs.YthkpkpclmemodaaGreat

/-
  The walks of both ParityWord and both MissingWord (the program's and the specification's): all together by xor, and all but the k-th. Condition: at most 2097152 elements.
-/
namespace Go.Proofs.YthkpkpclmemodaaGreat
open Go.RowKit

theorem implParityWord_any (w : World) (a : Option Addr) (len cap : Nat) (zs : List Int) (hz : zs.length = len) (hr : Reads .i64 w a zs) (hlen : len ≤ 2097152) :
    Calls Tryz.prog 140 #[.slice a len cap] w fun e w' => e = .returned (.int .i64 (xorL zs)) ∧ Same w w' := by
  go_enter Tryz.func140, Tryz.ntmps140
  go_wp2_with fail
  refine (implXorOf_any _ _ _ _ zs hz hr hlen).mono ?_
  rintro e w1 ⟨rfl, hs⟩
  go_wp2
  go_ret
  exact ⟨rfl, hs⟩
theorem specParityWord_any (w : World) (a : Option Addr) (len cap : Nat) (zs : List Int) (hz : zs.length = len) (hr : Reads .i64 w a zs) (hlen : len ≤ 2097152) :
    Calls Tryz.prog 110 #[.slice a len cap] w fun e w' => e = .returned (.int .i64 (xorL zs)) ∧ Same w w' := by
  go_enter Tryz.func110, Tryz.ntmps110
  go_wp2_with fail
  refine (specXorOf_any _ _ _ _ zs hz hr hlen).mono ?_
  rintro e w1 ⟨rfl, hs⟩
  go_wp2
  go_ret
  exact ⟨rfl, hs⟩



end Go.Proofs.YthkpkpclmemodaaGreat

/-
  SlotOf and DataAt (the program's and the specification's) answer as the definitions here say, and the walks of their exact laws: at every number the law answers true, and nothing that was there has turned. No condition.
-/
namespace Go.Proofs.YthkpkpclmemodaaGreat
open Go.RowKit

def slotN (x : Int) : Int := if 0 ≤ x then 2 + x % 4 else -1
def dataN (x : Int) : Int := if 0 ≤ x ∧ x ≤ 1099511627776 then x + 6 else -1
theorem implSlotOf_any (w : World) (x : Int) : Calls Tryz.prog 116 #[.int .i64 x] w fun e w' => e = .returned (.int .i64 (slotN x)) ∧ w' = w := by
  by_cases h : 0 ≤ x
  · have e1 : x.tmod 4 = x % 4 := Int.tmod_eq_emod_of_nonneg h
    have e2 : IntKind.i64.wrap (x % 4) = x % 4 := IntWalk.i64_in _ (by omega)
    have e3 : IntKind.i64.wrap (2 + x % 4) = 2 + x % 4 := IntWalk.i64_in _ (by omega)
    have hv : slotN x = 2 + x % 4 := by unfold slotN; rw [if_pos h]
    go_enter Tryz.func116, Tryz.ntmps116
    go_wp2
    go_ret
    exact ⟨ret_int (by first | (rw [hv]; done) | rfl | omega), rfl⟩
  · have hv : slotN x = -1 := by unfold slotN; rw [if_neg h]
    go_enter Tryz.func116, Tryz.ntmps116
    go_wp2
    go_ret
    exact ⟨ret_int (by first | (rw [hv]; done) | rfl | omega), rfl⟩

theorem specSlotOf_any (w : World) (x : Int) : Calls Tryz.prog 107 #[.int .i64 x] w fun e w' => e = .returned (.int .i64 (slotN x)) ∧ w' = w := by
  by_cases h : 0 ≤ x
  · have e1 : x.tmod 4 = x % 4 := Int.tmod_eq_emod_of_nonneg h
    have e2 : IntKind.i64.wrap (x % 4) = x % 4 := IntWalk.i64_in _ (by omega)
    have e3 : IntKind.i64.wrap (2 + x % 4) = 2 + x % 4 := IntWalk.i64_in _ (by omega)
    have hv : slotN x = 2 + x % 4 := by unfold slotN; rw [if_pos h]
    go_enter Tryz.func107, Tryz.ntmps107
    go_wp2
    go_ret
    exact ⟨ret_int (by first | (rw [hv]; done) | rfl | omega), rfl⟩
  · have hv : slotN x = -1 := by unfold slotN; rw [if_neg h]
    go_enter Tryz.func107, Tryz.ntmps107
    go_wp2
    go_ret
    exact ⟨ret_int (by first | (rw [hv]; done) | rfl | omega), rfl⟩

theorem implDataAt_any (w : World) (x : Int) : Calls Tryz.prog 120 #[.int .i64 x] w fun e w' => e = .returned (.int .i64 (dataN x)) ∧ w' = w := by
  by_cases h : 0 ≤ x ∧ x ≤ 1099511627776
  · have e2 : IntKind.i64.wrap (x + 2) = x + 2 := IntWalk.i64_in _ (by omega)
    have e4 : IntKind.i64.wrap (x + 2 + 4) = x + 2 + 4 := IntWalk.i64_in _ (by omega)
    have e3 : IntKind.i64.wrap (6 + x) = 6 + x := IntWalk.i64_in _ (by omega)
    have hv : dataN x = x + 6 := by unfold dataN; rw [if_pos h]
    have hi : inB x 0 1099511627776 = true := by unfold inB; simp; omega
    go_enter Tryz.func120, Tryz.ntmps120
    go_wp2_with fail
    refine (within_any _ _ _ _).mono ?_
    rintro e w1 ⟨rfl, rfl⟩
    rw [hi]
    go_wp2
    go_ret
    exact ⟨ret_int (by rw [hv]; omega), rfl⟩
  · have hv : dataN x = -1 := by unfold dataN; rw [if_neg h]
    have hi : inB x 0 1099511627776 = false := by unfold inB; simp; omega
    go_enter Tryz.func120, Tryz.ntmps120
    go_wp2_with fail
    refine (within_any _ _ _ _).mono ?_
    rintro e w1 ⟨rfl, rfl⟩
    rw [hi]
    go_wp2
    go_ret
    exact ⟨ret_int (by first | (rw [hv]; done) | rfl | omega), rfl⟩

theorem specDataAt_any (w : World) (x : Int) : Calls Tryz.prog 112 #[.int .i64 x] w fun e w' => e = .returned (.int .i64 (dataN x)) ∧ w' = w := by
  by_cases h : 0 ≤ x ∧ x ≤ 1099511627776
  · have e2 : IntKind.i64.wrap (x + 2) = x + 2 := IntWalk.i64_in _ (by omega)
    have e4 : IntKind.i64.wrap (x + 2 + 4) = x + 2 + 4 := IntWalk.i64_in _ (by omega)
    have e3 : IntKind.i64.wrap (6 + x) = 6 + x := IntWalk.i64_in _ (by omega)
    have hv : dataN x = x + 6 := by unfold dataN; rw [if_pos h]
    have hi : inB x 0 1099511627776 = true := by unfold inB; simp; omega
    go_enter Tryz.func112, Tryz.ntmps112
    go_wp2_with fail
    refine (l1In_any _ _ _ _).mono ?_
    rintro e w1 ⟨rfl, rfl⟩
    rw [hi]
    go_wp2
    go_ret
    exact ⟨ret_int (by rw [hv]; omega), rfl⟩
  · have hv : dataN x = -1 := by unfold dataN; rw [if_neg h]
    have hi : inB x 0 1099511627776 = false := by unfold inB; simp; omega
    go_enter Tryz.func112, Tryz.ntmps112
    go_wp2_with fail
    refine (l1In_any _ _ _ _).mono ?_
    rintro e w1 ⟨rfl, rfl⟩
    rw [hi]
    go_wp2
    go_ret
    exact ⟨ret_int (by first | (rw [hv]; done) | rfl | omega), rfl⟩

end Go.Proofs.YthkpkpclmemodaaGreat

namespace Go.Proofs.YthkpkpclmemodaaGreat
open Go.RowKit

def dataW (n p : Int) (zs : List Int) (i : Nat) : Int := if (i : Int) = p then xorL zs else zs.getD (((i : Int) - p - 1 + n) % n).toNat 0
def datasS (q : ArrN × List MemD) (s p : Int) (zs : List Int) (j : Nat) : ArrN × List MemD := (List.range j).foldl (fun q (i : Nat) => if liveB q.1 q.2 (i : Int) s = true then putS q i (dataN s) [dataW q.1.n p zs i] else q) q
theorem datasS_succ (q : ArrN × List MemD) (s p : Int) (zs : List Int) (j : Nat) : datasS q s p zs (j + 1) = if liveB (datasS q s p zs j).1 (datasS q s p zs j).2 (j : Int) s = true then putS (datasS q s p zs j) j (dataN s) [dataW (datasS q s p zs j).1.n p zs j] else datasS q s p zs j := by unfold datasS; rw [List.range_succ, List.foldl_append]; rfl
theorem datasS_keeps {q : ArrN × List MemD} (s p : Int) (zs : List Int) (h : MsOk q.2) (hf : q.1.fuse ≤ 1000) : ∀ j, MsOk (datasS q s p zs j).2 ∧ SameN q.1 (datasS q s p zs j).1 ∧ (datasS q s p zs j).2.length = q.2.length
  | 0 => ⟨h, SameN.refl hf, rfl⟩
  | j + 1 => by
    obtain ⟨h1, h2, h3⟩ := datasS_keeps s p zs h hf j
    rw [datasS_succ]
    split
    · exact ⟨putS_ok h1, h2.trans (doS_same _ _ h2.2.2.2.2.2.2.2.2.2.1), by unfold putS; rw [doS_len]; exact h3⟩
    · exact ⟨h1, h2, h3⟩
theorem MsOk.light {ms : List MemD} (h : MsOk ms) (hl : ms.length ≤ 1000) : wtMemS ms ≤ 2097152 := by
  have h1 : ∀ x ∈ ms.map wtMem, x ≤ 2000 := fun x hx => by
    obtain ⟨d, hd, rfl⟩ := List.mem_map.1 hx
    obtain ⟨i, hi⟩ := List.mem_iff_getElem?.1 hd
    exact memB_light (h i d hi) d.2.2.1
  have h2 := sumL_bound (ms.map wtMem) 2000 h1
  rw [List.length_map] at h2
  unfold wtMemS
  omega
theorem par_in {n s t : Int} (hg : geoB n s = true) (ht : inB t 0 (s - 1) = true) : 0 ≤ parN n s t ∧ parN n s t < n := by
  obtain ⟨g1, g2, g3, g4⟩ := geoB_iff.1 hg
  have hs : stripeB n s t = true := by unfold stripeB; rw [hg, ht]; rfl
  unfold parN
  rw [if_pos hs]
  have h1 := Int.emod_nonneg t (show n ≠ 0 by omega)
  have h2 := Int.emod_lt_of_pos t (show 0 < n by omega)
  omega

set_option linter.unusedSimpArgs false in
set_option maxRecDepth 20000 in
set_option maxHeartbeats 4000000 in
theorem l7Data_any (w : World) (B : Nat) (x : ArrN) (ms : List MemD) (ds : List (Int × List Int)) (fm fd : List Nat) (h : ArrAt w B x ms ds fm fd) (hf : x.fuse ≤ 1000) (hM : MsOk ms) (s : Int) (ar : Option Addr) (nr cr : Nat) (zs : List Int) (fr : List Nat) (h5 : tIntS.Mine w [.slice ar nr cr] zs fr) (h5B : B ∉ fr) (h5f : ∀ b ∈ fr, b ∉ fm) (hg : geoB x.n x.s = true) (hs : inB s 0 (x.s - 1) = true) (hl : (ms.length : Int) = x.n) (hz : (nr : Int) = x.n - 1) :
    Calls Tryz.prog 79 #[.pointer (some ⟨B, 0, none⟩), .int .i64 s, .slice ar nr cr] w fun e w' => e = .returned (.tuple #[]) ∧ ∃ fm', ArrAt w' B (datasS (x, ms) s (parN x.n x.s s) zs ms.length).1 (datasS (x, ms) s (parN x.n x.s s) zs ms.length).2 ds fm' fd ∧ Moved B fm w fm' w' := by
  have hzl := (row_length h5.rd).1
  obtain ⟨g1, g2, g3, g4⟩ := geoB_iff.1 hg
  obtain ⟨pn0, pn1⟩ := par_in hg hs
  have HK : Hid (∀ j, _) := fun j => datasS_keeps (q := (x, ms)) s (parN x.n x.s s) zs hM hf j
  obtain ⟨N, hN⟩ : ∃ N : Nat, x.n = (N : Int) := ⟨x.n.toNat, by omega⟩
  have hmN : ms.length = N := by omega
  have hn5 : N ≤ 5 := by omega
  have hn3 : 3 ≤ N := by omega
  have hnr : nr + 1 ≤ N ∧ N ≤ nr + 1 := by omega
  have hml : ms.length ≤ N ∧ N ≤ ms.length := by omega
  have HNN := hidden hN
  have hpN : parN x.n x.s s < (N : Int) := by omega
  clear hN hmN hl hz pn1
  have A0 := hidden h
  have zB := h.lt
  have hlm := h.ltm.1
  have hlr := h5.lt
  have M5 := hidden h5
  have hmx : ∃ cm0, ms.length ≤ cm0 ∧ cm0 ≤ 9223372036854775807 := by
    obtain ⟨_, _, cm0, _, _, hm0, _⟩ := h
    exact ⟨cm0, (row_length hm0.rd).2⟩
  obtain ⟨cm0, hmx⟩ := hmx
  obtain ⟨bm, bd, cm, cd, X, hmm, hdd, hr, r1, r2⟩ := h
  unfold arrC at X
  obtain ⟨k0, k1, k2, k3, k4, k5, k6, k7, k8, k9, k10, k11, k12⟩ := X.cells13
  clear X hmm hdd hr r1 r2
  go_enter Tryz.func79, Tryz.ntmps79
  go_wp2_with fail
  refine (specParityOf_any _ x.n x.s s).mono ?_
  rintro e W ⟨rfl, bW⟩
  clear k0 k1 k2 k3 k4 k5 k6 k7 k8 k9 k10 k11 k12
  generalize hp : parN x.n x.s s = p at pn0 hpN HK ⊢
  have HP0 := hidden hp
  clear hp
  have A1 := hidden (A0.out.below bW)
  have M5W := hidden (M5.out.below bW)
  have BW := hidden bW
  have zW := bW.size
  clear bW A0 M5
  go_wp2
  go_loopw [7] (fun i wr => ∃ (j : Nat) (fm1 : List Nat), j ≤ ms.length ∧ i = .int .i64 j ∧ ArrAt wr B (datasS (x, ms) s p zs j).1 (datasS (x, ms) s p zs j).2 ds fm1 fd ∧ Moved B fm W fm1 wr) (fun i _ => ms.length - (intOf i).toNat)
  case atStart => exact ⟨0, fm, Nat.zero_le _, rfl, A1.out, Moved.refl _ _ _⟩
  case round =>
    obtain ⟨j, fm1, hj, rfl, hA, hMv⟩ := hrel
    obtain ⟨hMj, hsj, hlj⟩ := HK.out j
    have hfj := hsj.2.2.2.2.2.2.2.2.2.1
    have hnj := hsj.2.1
    have HS := hidden (datasS_succ (x, ms) s p zs j)
    generalize hst : datasS (x, ms) s p zs j = st at hA hMj hsj hlj hfj hnj HS
    have HST := hidden hst
    clear hst
    obtain ⟨y, ns⟩ := st
    dsimp only at hA hMj hsj hlj hfj hnj HS
    clear hsj
    have HNJ := hidden hnj
    clear hnj
    have HA := hidden hA
    obtain ⟨bm, bd, cm, cd, X, hmm, hdd, hr, r1, r2⟩ := hA
    have HL := hidden hlj
    rw [hlj] at X hmm
    unfold arrC at X
    have hwM := hMj.light (by omega)
    clear hlj
    have RM := hidden hmm.rd
    have zr := X.lt
    have XH := hidden X
    obtain ⟨k0, k1, k2, k3, k4, k5, k6, k7, k8, k9, k10, k11, k12⟩ := X.cells13
    clear hmm hdd hr r1 r2 X
    have m5 := hMv.mine M5W.out h5B h5f
    have zw := hMv.size
    obtain ⟨rd5, _⟩ := ints_rd m5.rd
    have M5R := hidden m5
    have MV := hidden hMv
    clear m5 hMv
    by_cases hjn : j < ms.length
    · have i2 : (j : Int) < (ms.length : Int) := by omega
      have RD5 := hidden rd5
      go_wp2_with fail
      refine (specParityWord_any _ _ _ _ zs hzl RD5.out (by omega)).mono ?_
      rintro e w1 ⟨rfl, s1⟩
      have b1 := s1.below wr.heap.size
      have X1 := XH.out.below b1 zr
      have A2 := hidden (HA.out.below b1)
      have R2 := hidden (RM.out.below b1)
      have M2 := hidden (M5R.out.below b1)
      have MV2 := hidden (MV.out.below b1)
      have zr1 := X1.lt
      have RD6 := hidden (RD5.out.below b1)
      have z1 := b1.size
      clear k0 k1 k2 k3 k4 k5 k6 k7 k8 k9 k10 k11 k12 s1 b1 XH RM M5R MV RD5 HA rd5
      obtain ⟨k0, k1, k2, k3, k4, k5, k6, k7, k8, k9, k10, k11, k12⟩ := X1.cells13
      by_cases hjp : (j : Int) = p
      · have e1 : ((j : Int) == p) = true := by simpa using hjp
        have e2 : ((j : Int) != p) = false := by simpa using hjp
        have HDW : Hid (dataW y.n p zs j = xorL zs) := by unfold Hid dataW; rw [if_pos hjp]
        clear hjp
        generalize xorL zs = v at HDW ⊢
        go_wp2_with fail
        refine (specLiveAt_any _ 104 73 y _ _ _ _ _ _ ns (j : Int) s R2.out hwM).mono ?_
        rintro e w4 ⟨rfl, b4⟩
        have A4 := hidden (A2.out.below b4)
        have MV4 := hidden (MV2.out.below b4)
        clear k0 k1 k2 k3 k4 k5 k6 k7 k8 k9 k10 k11 k12 b4 X1
        cases hlv : liveB y ns (j : Int) s
        · have HP : Hid (datasS (x, ms) s p zs (j + 1) = (y, ns)) := by unfold Hid; rw [HS.out, if_neg (by simp [hlv])]
          go_wp2
          go_roundw
          case rel => exact ⟨j + 1, fm1, by omega, by go_num, by rw [HP.out]; exact A4.out, MV4.out⟩
          case measure => simp [intOf]; omega
        · have HP : Hid (datasS (x, ms) s p zs (j + 1) = putS (y, ns) j (dataN s) [dataW y.n p zs j]) := by unfold Hid; rw [HS.out, if_pos hlv]
          rw [HDW.out] at HP
          go_wp2_with fail
          refine (specDataAt_any _ _).mono ?_
          rintro e w5 ⟨rfl, h5w⟩
          subst h5w
          have b5 := new_below w5 (.cells #[.int .i64 v] 3)
          have A5 := hidden (A4.out.below b5)
          have MV5 := hidden (MV4.out.below b5)
          have LT := hidden A4.out.ltm
          have zB4 := A4.out.lt
          obtain ⟨fp5, m5, r5⟩ := (own_ints (Owns.lit .i64 3 w5 [v] 1 #[.int .i64 v] rfl rfl (by unfold maxLen; omega))).mine
          have M5 := hidden m5
          have R5 := hidden r5
          clear m5 r5 b5
          go_wp2_with fail
          refine (l7Put_any _ B y ns ds fm1 fd A5.out hfj hMj j (by have := HL.out; omega) _ _ _ _ [v] fp5 M5.out (fun hm => by have := R5.out _ hm; omega) (fun b hb hm => by have h1 := R5.out b hb; have h2 := LT.out.1 b hm; omega) (by omega)).mono ?_
          rintro e w6 ⟨rfl, fm3, hA3, hMv3⟩
          have HA3 : Hid (ArrAt w6 B (datasS (x, ms) s p zs (j + 1)).1 (datasS (x, ms) s p zs (j + 1)).2 ds fm3 fd) := by unfold Hid; rw [HP.out]; exact hA3
          have HM3 := hidden (MV5.out.trans hMv3)
          clear hA3 hMv3
          go_wp2
          go_roundw
          case rel => exact ⟨j + 1, fm3, by omega, by go_num, HA3.out, HM3.out⟩
          case measure => simp [intOf]; omega
      · have e1 : ((j : Int) == p) = false := by simpa using hjp
        have e2 : ((j : Int) != p) = true := by simpa using hjp
        have hyN : y.n = (N : Int) := HNJ.out.trans HNN.out
        obtain ⟨Q, hQ⟩ : ∃ Q : Nat, ((j : Int) - p - 1 + (N : Int)) % (N : Int) = (Q : Int) := ⟨(((j : Int) - p - 1 + (N : Int)) % (N : Int)).toNat, by have := Int.emod_nonneg ((j : Int) - p - 1 + (N : Int)) (show (N : Int) ≠ 0 by omega); omega⟩
        have hQlt : Q < nr := by
          have h1 := Int.emod_lt_of_pos ((j : Int) - p - 1 + (N : Int)) (show (0 : Int) < (N : Int) by omega)
          by_cases hc : (j : Int) < p
          · rw [Int.emod_eq_of_lt (by omega) (by omega)] at hQ; omega
          · rw [show (j : Int) - p - 1 + (N : Int) = ((j : Int) - p - 1) + (N : Int) * 1 by omega, Int.add_mul_emod_self_left, Int.emod_eq_of_lt (by omega) (by omega)] at hQ; omega
        have HDW : Hid (dataW y.n p zs j = zs.getD Q 0) := by unfold Hid dataW; rw [if_neg hjp, hyN, hQ, Int.toNat_natCast]
        rw [hyN] at k1
        have w1a : IntKind.i64.wrap ((j : Int) - p) = (j : Int) - p := IntWalk.i64_in _ (by omega)
        have w1b : IntKind.i64.wrap ((j : Int) - p - 1) = (j : Int) - p - 1 := IntWalk.i64_in _ (by omega)
        have w1c : IntKind.i64.wrap ((j : Int) - p - 1 + (N : Int)) = (j : Int) - p - 1 + (N : Int) := IntWalk.i64_in _ (by omega)
        have w1d : ((j : Int) - p - 1 + (N : Int)).tmod (N : Int) = (Q : Int) := by rw [Int.tmod_eq_emod_of_nonneg (by omega), hQ]
        have w1e : ¬ (N : Int) = 0 := by omega
        have w1f : ¬ N = 0 := by omega
        have w1g : IntKind.i64.wrap (Q : Int) = (Q : Int) := IntWalk.i64_in _ (by omega)
        have q1 : (0 : Int) ≤ (Q : Int) := by omega
        have q2 : (Q : Int) < (nr : Int) := by omega
        rcases RD6.out.cases with hn0 | ⟨b, off, rfl, hbl, hcs⟩
        · omega
        have hcq := hcs Q (by omega)
        generalize zs.getD Q 0 = v at HDW hcq ⊢
        clear hQ hjp hcs hyN
        go_wp2_with fail
        refine wp_region_held_drew (S := fun w' => w'.cell? ⟨B, 1, none⟩ = some (.int .i64 (N : Int)) ∧ w'.cell? ⟨b, off + Q, none⟩ = some (.int .i64 v)) (by kernel_rfl) ?_ (fun hHeld => ?_)
        · exact ⟨k1, hcq⟩
        refine held_t 0 hHeld ?_
        refine held_t 1 hHeld ?_
        refine held_t 2 hHeld ?_
        refine held_t 3 hHeld ?_
        refine held_t 4 hHeld ?_
        refine held_t 5 hHeld ?_
        refine held_t 6 hHeld ?_
        refine held_t 7 hHeld ?_
        refine held_t 8 hHeld ?_
        refine held_t 9 hHeld ?_
        refine held_t 10 hHeld ?_
        refine held_t 11 hHeld ?_
        refine held_t 12 hHeld ?_
        refine held_t 13 hHeld ?_
        refine held_t 14 hHeld ?_
        refine held_t 15 hHeld ?_
        refine held_t 16 hHeld ?_
        refine held_t 17 hHeld ?_
        refine held_t 18 hHeld ?_
        refine held_t 19 hHeld ?_
        refine wpAnyH_done (by kernel_rfl) ?_ _
        clear hHeld
        have X3 := X1.below ((Below.refl w1.heap.size w1).drew) zr1
        have A3 := hidden A2.out.drew
        have R3 := hidden R2.out.drew
        have MV3 := hidden MV2.out.drew
        clear k0 k1 k2 k3 k4 k5 k6 k7 k8 k9 k10 k11 k12 hcq
        obtain ⟨k0, k1, k2, k3, k4, k5, k6, k7, k8, k9, k10, k11, k12⟩ := X3.cells13
        go_wp2_with fail
        refine (specLiveAt_any _ 104 73 y _ _ _ _ _ _ ns (j : Int) s R3.out hwM).mono ?_
        rintro e w4 ⟨rfl, b4⟩
        have A4 := hidden (A3.out.below b4)
        have MV4 := hidden (MV3.out.below b4)
        clear k0 k1 k2 k3 k4 k5 k6 k7 k8 k9 k10 k11 k12 b4 X1
        cases hlv : liveB y ns (j : Int) s
        · have HP : Hid (datasS (x, ms) s p zs (j + 1) = (y, ns)) := by unfold Hid; rw [HS.out, if_neg (by simp [hlv])]
          go_wp2
          go_roundw
          case rel => exact ⟨j + 1, fm1, by omega, by go_num, by rw [HP.out]; exact A4.out, MV4.out⟩
          case measure => simp [intOf]; omega
        · have HP : Hid (datasS (x, ms) s p zs (j + 1) = putS (y, ns) j (dataN s) [dataW y.n p zs j]) := by unfold Hid; rw [HS.out, if_pos hlv]
          rw [HDW.out] at HP
          go_wp2_with fail
          refine (specDataAt_any _ _).mono ?_
          rintro e w5 ⟨rfl, h5w⟩
          subst h5w
          have b5 := new_below w5 (.cells #[.int .i64 v] 3)
          have A5 := hidden (A4.out.below b5)
          have MV5 := hidden (MV4.out.below b5)
          have LT := hidden A4.out.ltm
          have zB4 := A4.out.lt
          obtain ⟨fp5, m5, r5⟩ := (own_ints (Owns.lit .i64 3 w5 [v] 1 #[.int .i64 v] rfl rfl (by unfold maxLen; omega))).mine
          have M5 := hidden m5
          have R5 := hidden r5
          clear m5 r5 b5
          go_wp2_with fail
          refine (l7Put_any _ B y ns ds fm1 fd A5.out hfj hMj j (by have := HL.out; omega) _ _ _ _ [v] fp5 M5.out (fun hm => by have := R5.out _ hm; omega) (fun b hb hm => by have h1 := R5.out b hb; have h2 := LT.out.1 b hm; omega) (by omega)).mono ?_
          rintro e w6 ⟨rfl, fm3, hA3, hMv3⟩
          have HA3 : Hid (ArrAt w6 B (datasS (x, ms) s p zs (j + 1)).1 (datasS (x, ms) s p zs (j + 1)).2 ds fm3 fd) := by unfold Hid; rw [HP.out]; exact hA3
          have HM3 := hidden (MV5.out.trans hMv3)
          clear hA3 hMv3
          go_wp2
          go_roundw
          case rel => exact ⟨j + 1, fm3, by omega, by go_num, HA3.out, HM3.out⟩
          case measure => simp [intOf]; omega
    · have ej : j = ms.length := by omega
      subst ej
      have HMV := hidden (((Moved.refl B fm w).below BW.out).trans MV.out)
      go_wp2
      refine bodyPost_end (v := .tuple #[]) (results_none rfl _ _ _) rfl ?_
      exact ⟨rfl, fm1, by rw [HP0.out, HST.out]; exact HA.out, HMV.out⟩


end Go.Proofs.YthkpkpclmemodaaGreat

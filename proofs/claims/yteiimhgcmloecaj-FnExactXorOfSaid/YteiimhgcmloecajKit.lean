/-
  Plain lemmas that this seat's walks share: what a slice of integers reads, what a call owns, and how both outlast later steps. No condition; nothing of the program is named here.
-/
import Derived.WalkKit
import Derived.WalkSpells
import Derived.WalkLawsBesides
import Derived.Handy
import Derived.BigQuiet
import Derived.Deep.QuietTactic
namespace Go.Proofs.Yteiimhgcmloecaj
open Go.RowKit

/-- The slice value that begins at 'a' reads the numbers 'zs' in the world 'w' ('k': their kind). -/
def Reads (k : IntKind) (w : World) (a : Option Addr) (zs : List Int) : Prop :=
  zs = [] ∨ ∃ b off, a = some ⟨b, off, none⟩ ∧ b < w.heap.size ∧ ∀ i, i < zs.length → w.cell? ⟨b, off + i, none⟩ = some (.int k (zs.getD i 0))

theorem Reads.below {k : IntKind} {w w' : World} {a : Option Addr} {zs : List Int} (h : Reads k w a zs) (hb : Below w.heap.size w w') : Reads k w' a zs := by
  rcases h with h | ⟨b, off, ha, hlt, hc⟩
  · exact .inl h
  · refine .inr ⟨b, off, ha, Nat.lt_of_lt_of_le hlt hb.size, fun i hi => ?_⟩
    rw [hb.cell (p := ⟨b, off + i, none⟩) hlt]
    exact hc i hi

theorem Reads.draw {k : IntKind} {w : World} {a : Option Addr} {zs : List Int} (h : Reads k w a zs) : Reads k w.drew a zs := h

theorem Reads.old {k : IntKind} {w w' : World} {a : Option Addr} {zs : List Int} {B : Nat} (h : Reads k w a zs) (hB : ∀ x, a = some x → x.block < B) (hb : Below B w w') : Reads k w' a zs := by
  rcases h with h | ⟨b, off, ha, hlt, hc⟩
  · exact .inl h
  · refine .inr ⟨b, off, ha, Nat.lt_of_lt_of_le hlt hb.size, fun i hi => ?_⟩
    have hx : b < B := hB _ ha
    rw [hb.cell (p := ⟨b, off + i, none⟩) hx]
    exact hc i hi

/-- Nothing in memory has turned (a draw alone may have been made). -/
structure Same (w w' : World) : Prop where
  os : w'.os = w.os
  tape : w'.tape = w.tape
  output : w'.output = w.output
  heap : w'.heap = w.heap

theorem Same.refl (w : World) : Same w w := ⟨rfl, rfl, rfl, rfl⟩
theorem Same.trans {a b c : World} (h : Same a b) (k : Same b c) : Same a c := ⟨k.os.trans h.os, k.tape.trans h.tape, k.output.trans h.output, k.heap.trans h.heap⟩
theorem Same.drew {a w : World} (h : Same a w) : Same a w.drew := ⟨h.os, h.tape, h.output, h.heap⟩
theorem Same.drewN {a w : World} (h : Same a w) (n : Nat) : Same a (w.drewN n) := ⟨h.os, h.tape, h.output, h.heap⟩
theorem Same.below {w w' : World} (h : Same w w') (B : Nat) : Below B w w' := ⟨h.os, h.tape, h.output, by rw [h.heap]; exact Nat.le_refl _, fun _ _ => by rw [h.heap]⟩
theorem Same.cell {w w' : World} (h : Same w w') (p : Addr) : w'.cell? p = w.cell? p := (h.below (p.block + 1)).cell (Nat.lt_succ_self _)
theorem Same.size {w w' : World} (h : Same w w') : w'.heap.size = w.heap.size := by rw [h.heap]
theorem Reads.same {k : IntKind} {w w' : World} {a : Option Addr} {zs : List Int} (h : Reads k w a zs) (hs : Same w w') : Reads k w' a zs := h.below (hs.below _)

/-- Nothing is read, or the address is known. -/
theorem Reads.cases {k : IntKind} {w : World} {a : Option Addr} {zs : List Int} (h : Reads k w a zs) : zs.length = 0 ∨ ∃ b off, a = some ⟨b, off, none⟩ ∧ b < w.heap.size ∧ ∀ i, i < zs.length → w.cell? ⟨b, off + i, none⟩ = some (.int k (zs.getD i 0)) := by
  rcases h with h | h
  · exact .inl (by rw [h]; rfl)
  · exact .inr h

/-- The slice value 'v' of 'n' elements is the call's own from block 'base' on, and holds 'zs'. -/
def Owns (k : IntKind) (E : TypeId) (w : World) (base : Nat) (v : Value) (zs : List Int) : Prop :=
  w.ownsRow base E 1 v zs.length (zs.map (Value.int k))

theorem Owns.shape {k : IntKind} {E : TypeId} {w : World} {base : Nat} {v : Value} {zs : List Int} (h : Owns k E w base v zs) :
    ∃ a cap, v = .slice a zs.length cap ∧ Reads k w a zs ∧ (∀ x, a = some x → base ≤ x.block ∧ x.block < w.heap.size) := by
  rcases h.2 with ⟨hv, hn⟩ | ⟨g, cap, cur, hv, hb, hg, hnc, hcm, hcs, ht⟩
  · refine ⟨none, 0, by rw [hv, hn], .inl (List.eq_nil_of_length_eq_zero hn), by simp⟩
  · have hlt : g < w.heap.size := (Array.getElem?_eq_some_iff.1 hg).1
    refine ⟨some ⟨g, 0, none⟩, cap, hv, .inr ⟨g, 0, rfl, hlt, fun i hi => ?_⟩, ?_⟩
    · have h' : w.ownsRow base E 1 (.slice (some ⟨g, 0, none⟩) zs.length cap) zs.length (zs.map (Value.int k)) := by rw [← hv]; exact h
      have := h'.cellAt i (by omega)
      rw [Nat.zero_add, this]
      simp [List.getElem?_eq_getElem hi]
    · intro x hx
      simp at hx
      subst hx
      exact ⟨hb, hlt⟩

theorem Owns.below {k : IntKind} {E : TypeId} {w w' : World} {base B : Nat} {v : Value} {zs : List Int} (h : Owns k E w base v zs) (hb : Below B w w') (hB : w.heap.size ≤ B) : Owns k E w' base v zs := by
  refine ⟨h.1, ?_⟩
  rcases h.2 with h2 | ⟨g, cap, cur, hv, hbg, hg, r⟩
  · exact .inl h2
  · have hlt : g < w.heap.size := (Array.getElem?_eq_some_iff.1 hg).1
    exact .inr ⟨g, cap, cur, hv, hbg, by rw [hb.block g (by omega)]; exact hg, r⟩

theorem Owns.lower {k : IntKind} {E : TypeId} {w : World} {base base' : Nat} {v : Value} {zs : List Int} (h : Owns k E w base v zs) (hb : base' ≤ base) : Owns k E w base' v zs := by
  refine ⟨h.1, ?_⟩
  rcases h.2 with h2 | ⟨g, cap, cur, hv, hbg, r⟩
  · exact .inl h2
  · exact .inr ⟨g, cap, cur, hv, by omega, r⟩

theorem ret_bool {a b : Bool} (h : a = b) : Ending.returned (.bool a) = .returned (.bool b) := by rw [h]
theorem ret_int {k : IntKind} {a b : Int} (h : a = b) : Ending.returned (.int k a) = .returned (.int k b) := by rw [h]

theorem made_ints (k : IntKind) (n : Nat) : (madeCells (Value.int k 0).cells (n * 1)).toList = (List.replicate n (0 : Int)).map (Value.int k) := by
  apply List.ext_getElem?
  intro i
  by_cases h : i < n
  · simp [madeCells, h, Value.cells, Nat.mod_one]
  · simp [madeCells, h]

/-- One round of copying. -/
theorem copied_step (zs : List Int) (j : Nat) (h : j < zs.length) :
    (zs.take j ++ List.replicate (zs.length - j) (0 : Int)).set j (zs.getD j 0) = zs.take (j + 1) ++ List.replicate (zs.length - (j + 1)) (0 : Int) := by
  have e : zs.length - j = (zs.length - (j + 1)) + 1 := by omega
  rw [e, List.replicate_succ]
  have hl : (zs.take j).length = j := by simp; omega
  rw [List.set_append, if_neg (by omega), hl, Nat.sub_self, List.set_cons_zero, List.take_succ_eq_append_getElem h, List.append_assoc]
  have eg : zs.getD j 0 = zs[j] := by simp [List.getElem?_eq_getElem h]
  rw [eg]
  rfl

theorem heads_alike {xs ys : List Int} {j : Nat} (h1 : j < xs.length) (h2 : j < ys.length) :
    (xs.getD j 0 = ys.getD j 0 → xs.take j = ys.take j → xs.take (j + 1) = ys.take (j + 1)) ∧ (xs.getD j 0 ≠ ys.getD j 0 → xs ≠ ys) := by
  refine ⟨fun h ht => ?_, fun h he => h (by rw [he])⟩
  rw [List.take_succ_eq_append_getElem h1, List.take_succ_eq_append_getElem h2, ht]
  simp only [List.getD_eq_getElem?_getD, List.getElem?_eq_getElem h1, List.getElem?_eq_getElem h2, Option.getD_some] at h
  rw [h]

/-- The row behind one more store of a copy, and what it leaves of the world. -/
theorem copied_own {k : IntKind} {E : TypeId} {w : World} {base g : Nat} {zs : List Int} {len j : Nat} {x : Int} (hx : zs.getD j 0 = x) (hz : zs.length = len) (hj : j < len)
    (h : w.ownsRow base E 1 (.slice (some ⟨g, 0, none⟩) len len) len ((zs.take j ++ List.replicate (len - j) (0 : Int)).map (Value.int k))) :
    w.cell? ⟨g, j, none⟩ = some (.int k 0) ∧ w.frozen? ⟨g, j, none⟩ = false ∧
    (w.setCell ⟨g, j, none⟩ (.int k x)).ownsRow base E 1 (.slice (some ⟨g, 0, none⟩) len len) len ((zs.take (j + 1) ++ List.replicate (len - (j + 1)) (0 : Int)).map (Value.int k)) := by
  subst hx
  refine ⟨?_, h.frozenAt j, ?_⟩
  · rw [h.cellAt j (by omega), List.getElem?_map, List.getElem?_append_right (by simp; omega)]
    rw [List.getElem?_replicate, if_pos (by simp; omega)]
    rfl
  · have := (h.stored j (.int k (zs.getD j 0))).1
    subst hz
    rw [← List.map_set, copied_step zs j hj] at this
    exact this

/-- One step behind another, each seen from its own beginning. -/
theorem Below.andThen {w w1 w2 : World} (h : Below w.heap.size w w1) (k : Below w1.heap.size w1 w2) : Below w.heap.size w w2 := h.trans (k.mono h.size)
theorem Below.andSame {w w1 w2 : World} (h : Below w.heap.size w w1) (k : Same w1 w2) : Below w.heap.size w w2 := h.trans (k.below _)

theorem Owns.reads {k : IntKind} {E : TypeId} {w : World} {base n cap : Nat} {a : Option Addr} {zs : List Int} (h : Owns k E w base (.slice a n cap) zs) : Reads k w a zs := by
  obtain ⟨a', cap', hv, hr, _⟩ := h.shape
  simp only [Value.slice.injEq] at hv
  rw [hv.1]
  exact hr

/-- What the row's reading says of a slice of integers that came in: it is nil; or it leads to a row of 'cap' cells, the numbers 'zs', each fitting its kind. -/
def IsRow (k : IntKind) (w : World) (a : Option Addr) (len cap : Nat) (zs : List Int) : Prop :=
  (a = none ∧ len = 0 ∧ cap = 0 ∧ zs = []) ∨
  ∃ x, a = some x ∧ len ≤ cap ∧ cap ≤ maxLen ∧ zs.length = cap ∧ (∀ i, i < zs.length → w.cell? (x.add i) = some (.int k (zs.getD i 0))) ∧ ∀ n ∈ zs, (Lit.int k n).wf = true

theorem IsRow.reads {k : IntKind} {w : World} {a : Option Addr} {len cap : Nat} {zs : List Int} (h : IsRow k w a len cap zs) :
    Reads k w a (zs.take len) ∧ (zs.take len).length = len ∧ (∀ n ∈ zs.take len, (Lit.int k n).wf = true) ∧ len ≤ maxLen := by
  rcases h with ⟨rfl, rfl, rfl, rfl⟩ | ⟨x, rfl, hl, hm, hz, hc, hw⟩
  · exact ⟨.inl rfl, rfl, by simp, Nat.zero_le _⟩
  · have hlen : (zs.take len).length = len := by simp; omega
    refine ⟨?_, hlen, fun n hn => hw n (List.mem_of_mem_take hn), Nat.le_trans hl hm⟩
    by_cases h0 : len = 0
    · subst h0
      exact .inl (by simp)
    · obtain ⟨b, off, spot⟩ := x
      have hc0 := hc 0 (by omega)
      have hspot : spot = none := by simpa [Addr.add] using World.cell?_spot hc0
      subst hspot
      refine .inr ⟨b, off, rfl, World.block_lt_of_cell? w _ hc0, fun i hi => ?_⟩
      have hi' : i < len := by omega
      have := hc i (by omega)
      have ea : (⟨b, off, none⟩ : Addr).add i = ⟨b, off + i, none⟩ := by unfold Addr.add; split <;> simp_all
      rw [ea] at this
      rw [List.getD_eq_getElem?_getD, List.getElem?_take, if_pos hi', ← List.getD_eq_getElem?_getD]
      exact this

end Go.Proofs.Yteiimhgcmloecaj

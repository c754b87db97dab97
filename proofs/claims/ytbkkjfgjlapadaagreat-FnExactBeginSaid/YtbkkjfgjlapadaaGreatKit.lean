/-
  Plain lemmas that this seat's walks share: what a slice of integers reads, what a call owns, and how both outlast later steps. No condition; nothing of the program is named here.
-/
import Derived.WalkKit
import Derived.WalkSpells
import Derived.WalkLawsBesides
import Derived.Handy
import Derived.BigQuiet
import Derived.Deep.QuietTactic
import Derived.Deep.RegionHeld3
import Derived.Deep.AppendLies
namespace Go.Proofs.YtbkkjfgjlapadaaGreat
open Go.RowKit

/-- The slice value that begins at a reads the numbers zs in the world w (k: their kind). -/
def Reads (k : IntKind) (w : World) (a : Option Addr) (zs : List Int) : Prop :=
  zs = [] ∨ ∃ b off, a = some ⟨b, off, none⟩ ∧ b < w.heap.size ∧ ∀ i, i < zs.length → w.cell? ⟨b, off + i, none⟩ = some (.int k (zs.getD i 0))

theorem Reads.below {k : IntKind} {w w' : World} {a : Option Addr} {zs : List Int} (h : Reads k w a zs) (hb : Below w.heap.size w w') : Reads k w' a zs := by
  rcases h with h | ⟨b, off, ha, hlt, hc⟩
  · exact .inl h
  · refine .inr ⟨b, off, ha, Nat.lt_of_lt_of_le hlt hb.size, fun i hi => ?_⟩
    rw [hb.cell (p := ⟨b, off + i, none⟩) hlt]
    exact hc i hi

theorem Reads.draw {k : IntKind} {w : World} {a : Option Addr} {zs : List Int} (h : Reads k w a zs) : Reads k w.drew a zs := h

theorem Reads.old {k : IntKind} {w w' : World} {a : Option Addr} {zs : List Int} {B : Nat} (h : Reads k w a zs) (hB : ∀ x, a = some x → x.block < B) (hb : Below B w w') : Reads k w' a zs := by
  rcases h with h | ⟨b, off, ha, hlt, hc⟩
  · exact .inl h
  · refine .inr ⟨b, off, ha, Nat.lt_of_lt_of_le hlt hb.size, fun i hi => ?_⟩
    have hx : b < B := hB _ ha
    rw [hb.cell (p := ⟨b, off + i, none⟩) hx]
    exact hc i hi

/-- Nothing in memory has turned (a draw alone may have been made). -/
structure Same (w w' : World) : Prop where
  os : w'.os = w.os
  tape : w'.tape = w.tape
  output : w'.output = w.output
  heap : w'.heap = w.heap

theorem Same.refl (w : World) : Same w w := ⟨rfl, rfl, rfl, rfl⟩
theorem Same.trans {a b c : World} (h : Same a b) (k : Same b c) : Same a c := ⟨k.os.trans h.os, k.tape.trans h.tape, k.output.trans h.output, k.heap.trans h.heap⟩
theorem Same.drew {a w : World} (h : Same a w) : Same a w.drew := ⟨h.os, h.tape, h.output, h.heap⟩
theorem Same.drewN {a w : World} (h : Same a w) (n : Nat) : Same a (w.drewN n) := ⟨h.os, h.tape, h.output, h.heap⟩
theorem Same.below {w w' : World} (h : Same w w') (B : Nat) : Below B w w' := ⟨h.os, h.tape, h.output, by rw [h.heap]; exact Nat.le_refl _, fun _ _ => by rw [h.heap]⟩
theorem Same.cell {w w' : World} (h : Same w w') (p : Addr) : w'.cell? p = w.cell? p := (h.below (p.block + 1)).cell (Nat.lt_succ_self _)
theorem Same.size {w w' : World} (h : Same w w') : w'.heap.size = w.heap.size := by rw [h.heap]
theorem Reads.same {k : IntKind} {w w' : World} {a : Option Addr} {zs : List Int} (h : Reads k w a zs) (hs : Same w w') : Reads k w' a zs := h.below (hs.below _)

/-- Nothing is read, or the address is known. -/
theorem Reads.cases {k : IntKind} {w : World} {a : Option Addr} {zs : List Int} (h : Reads k w a zs) : zs.length = 0 ∨ ∃ b off, a = some ⟨b, off, none⟩ ∧ b < w.heap.size ∧ ∀ i, i < zs.length → w.cell? ⟨b, off + i, none⟩ = some (.int k (zs.getD i 0)) := by
  rcases h with h | h
  · exact .inl (by rw [h]; rfl)
  · exact .inr h

/-- The slice value v of n elements is the call's own from block 'base' on, and holds zs. -/
def Owns (k : IntKind) (E : TypeId) (w : World) (base : Nat) (v : Value) (zs : List Int) : Prop :=
  w.ownsRow base E 1 v zs.length (zs.map (Value.int k))

theorem Owns.shape {k : IntKind} {E : TypeId} {w : World} {base : Nat} {v : Value} {zs : List Int} (h : Owns k E w base v zs) :
    ∃ a cap, v = .slice a zs.length cap ∧ Reads k w a zs ∧ (∀ x, a = some x → base ≤ x.block ∧ x.block < w.heap.size) := by
  rcases h.2 with ⟨hv, hn⟩ | ⟨g, cap, cur, hv, hb, hg, hnc, hcm, hcs, ht⟩
  · refine ⟨none, 0, by rw [hv, hn], .inl (List.eq_nil_of_length_eq_zero hn), by simp⟩
  · have hlt : g < w.heap.size := (Array.getElem?_eq_some_iff.1 hg).1
    refine ⟨some ⟨g, 0, none⟩, cap, hv, .inr ⟨g, 0, rfl, hlt, fun i hi => ?_⟩, ?_⟩
    · have h' : w.ownsRow base E 1 (.slice (some ⟨g, 0, none⟩) zs.length cap) zs.length (zs.map (Value.int k)) := by rw [← hv]; exact h
      have := h'.cellAt i (by omega)
      rw [Nat.zero_add, this]
      simp [List.getElem?_eq_getElem hi]
    · intro x hx
      simp at hx
      subst hx
      exact ⟨hb, hlt⟩

theorem Owns.below {k : IntKind} {E : TypeId} {w w' : World} {base B : Nat} {v : Value} {zs : List Int} (h : Owns k E w base v zs) (hb : Below B w w') (hB : w.heap.size ≤ B) : Owns k E w' base v zs := by
  refine ⟨h.1, ?_⟩
  rcases h.2 with h2 | ⟨g, cap, cur, hv, hbg, hg, r⟩
  · exact .inl h2
  · have hlt : g < w.heap.size := (Array.getElem?_eq_some_iff.1 hg).1
    exact .inr ⟨g, cap, cur, hv, hbg, by rw [hb.block g (by omega)]; exact hg, r⟩

theorem Owns.lower {k : IntKind} {E : TypeId} {w : World} {base base' : Nat} {v : Value} {zs : List Int} (h : Owns k E w base v zs) (hb : base' ≤ base) : Owns k E w base' v zs := by
  refine ⟨h.1, ?_⟩
  rcases h.2 with h2 | ⟨g, cap, cur, hv, hbg, r⟩
  · exact .inl h2
  · exact .inr ⟨g, cap, cur, hv, by omega, r⟩

theorem ret_bool {a b : Bool} (h : a = b) : Ending.returned (.bool a) = .returned (.bool b) := by rw [h]
theorem ret_int {k : IntKind} {a b : Int} (h : a = b) : Ending.returned (.int k a) = .returned (.int k b) := by rw [h]

theorem made_ints (k : IntKind) (n : Nat) : (madeCells (Value.int k 0).cells (n * 1)).toList = (List.replicate n (0 : Int)).map (Value.int k) := by
  apply List.ext_getElem?
  intro i
  by_cases h : i < n
  · simp [madeCells, h, Value.cells, Nat.mod_one]
  · simp [madeCells, h]

/-- One round of copying. -/
theorem copied_step (zs : List Int) (j : Nat) (h : j < zs.length) :
    (zs.take j ++ List.replicate (zs.length - j) (0 : Int)).set j (zs.getD j 0) = zs.take (j + 1) ++ List.replicate (zs.length - (j + 1)) (0 : Int) := by
  have e : zs.length - j = (zs.length - (j + 1)) + 1 := by omega
  rw [e, List.replicate_succ]
  have hl : (zs.take j).length = j := by simp; omega
  rw [List.set_append, if_neg (by omega), hl, Nat.sub_self, List.set_cons_zero, List.take_succ_eq_append_getElem h, List.append_assoc]
  have eg : zs.getD j 0 = zs[j] := by simp [List.getElem?_eq_getElem h]
  rw [eg]
  rfl

theorem heads_alike {xs ys : List Int} {j : Nat} (h1 : j < xs.length) (h2 : j < ys.length) :
    (xs.getD j 0 = ys.getD j 0 → xs.take j = ys.take j → xs.take (j + 1) = ys.take (j + 1)) ∧ (xs.getD j 0 ≠ ys.getD j 0 → xs ≠ ys) := by
  refine ⟨fun h ht => ?_, fun h he => h (by rw [he])⟩
  rw [List.take_succ_eq_append_getElem h1, List.take_succ_eq_append_getElem h2, ht]
  simp only [List.getD_eq_getElem?_getD, List.getElem?_eq_getElem h1, List.getElem?_eq_getElem h2, Option.getD_some] at h
  rw [h]

/-- The row behind one more store of a copy, and what it leaves of the world. -/
theorem copied_own {k : IntKind} {E : TypeId} {w : World} {base g : Nat} {zs : List Int} {len j : Nat} {x : Int} (hx : zs.getD j 0 = x) (hz : zs.length = len) (hj : j < len)
    (h : w.ownsRow base E 1 (.slice (some ⟨g, 0, none⟩) len len) len ((zs.take j ++ List.replicate (len - j) (0 : Int)).map (Value.int k))) :
    w.cell? ⟨g, j, none⟩ = some (.int k 0) ∧ w.frozen? ⟨g, j, none⟩ = false ∧
    (w.setCell ⟨g, j, none⟩ (.int k x)).ownsRow base E 1 (.slice (some ⟨g, 0, none⟩) len len) len ((zs.take (j + 1) ++ List.replicate (len - (j + 1)) (0 : Int)).map (Value.int k)) := by
  subst hx
  refine ⟨?_, h.frozenAt j, ?_⟩
  · rw [h.cellAt j (by omega), List.getElem?_map, List.getElem?_append_right (by simp; omega)]
    rw [List.getElem?_replicate, if_pos (by simp; omega)]
    rfl
  · have := (h.stored j (.int k (zs.getD j 0))).1
    subst hz
    rw [← List.map_set, copied_step zs j hj] at this
    exact this

/-- One step behind another, each seen from its own beginning. -/
theorem Below.andThen {w w1 w2 : World} (h : Below w.heap.size w w1) (k : Below w1.heap.size w1 w2) : Below w.heap.size w w2 := h.trans (k.mono h.size)
theorem Below.andSame {w w1 w2 : World} (h : Below w.heap.size w w1) (k : Same w1 w2) : Below w.heap.size w w2 := h.trans (k.below _)

theorem Owns.reads {k : IntKind} {E : TypeId} {w : World} {base n cap : Nat} {a : Option Addr} {zs : List Int} (h : Owns k E w base (.slice a n cap) zs) : Reads k w a zs := by
  obtain ⟨a', cap', hv, hr, _⟩ := h.shape
  simp only [Value.slice.injEq] at hv
  rw [hv.1]
  exact hr

/-- What the row's reading says of a slice of integers that came in: it is nil; or it leads to a row of 'cap' cells, the numbers zs, each fitting its kind. -/
def IsRow (k : IntKind) (w : World) (a : Option Addr) (len cap : Nat) (zs : List Int) : Prop :=
  (a = none ∧ len = 0 ∧ cap = 0 ∧ zs = []) ∨
  ∃ x, a = some x ∧ len ≤ cap ∧ cap ≤ maxLen ∧ zs.length = cap ∧ (∀ i, i < zs.length → w.cell? (x.add i) = some (.int k (zs.getD i 0))) ∧ ∀ n ∈ zs, (Lit.int k n).wf = true

theorem IsRow.reads {k : IntKind} {w : World} {a : Option Addr} {len cap : Nat} {zs : List Int} (h : IsRow k w a len cap zs) :
    Reads k w a (zs.take len) ∧ (zs.take len).length = len ∧ (∀ n ∈ zs.take len, (Lit.int k n).wf = true) ∧ len ≤ maxLen := by
  rcases h with ⟨rfl, rfl, rfl, rfl⟩ | ⟨x, rfl, hl, hm, hz, hc, hw⟩
  · exact ⟨.inl rfl, rfl, by simp, Nat.zero_le _⟩
  · have hlen : (zs.take len).length = len := by simp; omega
    refine ⟨?_, hlen, fun n hn => hw n (List.mem_of_mem_take hn), Nat.le_trans hl hm⟩
    by_cases h0 : len = 0
    · subst h0
      exact .inl (by simp)
    · obtain ⟨b, off, spot⟩ := x
      have hc0 := hc 0 (by omega)
      have hspot : spot = none := by simpa [Addr.add] using World.cell?_spot hc0
      subst hspot
      refine .inr ⟨b, off, rfl, World.block_lt_of_cell? w _ hc0, fun i hi => ?_⟩
      have hi' : i < len := by omega
      have := hc i (by omega)
      have ea : (⟨b, off, none⟩ : Addr).add i = ⟨b, off + i, none⟩ := by unfold Addr.add; split <;> simp_all
      rw [ea] at this
      rw [List.getD_eq_getElem?_getD, List.getElem?_take, if_pos hi', ← List.getD_eq_getElem?_getD]
      exact this

/-- Of what was there nothing has turned but the blocks from lo on below hi. -/
structure But (lo hi : Nat) (w w' : World) : Prop where
  os : w'.os = w.os
  tape : w'.tape = w.tape
  output : w'.output = w.output
  size : w.heap.size ≤ w'.heap.size
  block : ∀ k, k < w.heap.size → (k < lo ∨ hi ≤ k) → w'.heap[k]? = w.heap[k]?

theorem But.refl (lo hi : Nat) (w : World) : But lo hi w w := ⟨rfl, rfl, rfl, Nat.le_refl _, fun _ _ _ => rfl⟩
theorem But.trans {lo hi : Nat} {a b c : World} (h : But lo hi a b) (k : But lo hi b c) : But lo hi a c :=
  ⟨k.os.trans h.os, k.tape.trans h.tape, k.output.trans h.output, Nat.le_trans h.size k.size, fun i hi' ho => (k.block i (Nat.lt_of_lt_of_le hi' h.size) ho).trans (h.block i hi' ho)⟩
theorem But.below {lo hi B : Nat} {w w' : World} (h : But lo hi w w') (hB : B ≤ lo) (hw : B ≤ w.heap.size) : Below B w w' :=
  ⟨h.os, h.tape, h.output, h.size, fun k hk => h.block k (by omega) (.inl (by omega))⟩
theorem But.of_grown {lo hi g : Nat} {w w' : World} (h : w.grownBy w' (some g)) (h1 : lo ≤ g) (h2 : g < hi) : But lo hi w w' :=
  ⟨h.os, h.tape, h.output, h.size, fun k hk ho => h.block k hk (by intro e; simp at e; omega)⟩
theorem Below.andBut {w w1 w2 : World} {lo hi : Nat} (h : Below w.heap.size w w1) (k : But lo hi w1 w2) (hlo : w.heap.size ≤ lo) : Below w.heap.size w w2 :=
  h.trans (k.below hlo h.size)

/-- The slice value v is one that was made: its row is one of the blocks from lo on below hi, and holds zs. -/
def Own (k : IntKind) (E : TypeId) (w : World) (lo hi : Nat) (v : Value) (zs : List Int) : Prop :=
  Owns k E w lo v zs ∧ ∀ g, v.ownBlock = some g → g < hi

theorem Owns.own {k : IntKind} {E : TypeId} {w : World} {lo : Nat} {v : Value} {zs : List Int} (h : Owns k E w lo v zs) : Own k E w lo w.heap.size v zs :=
  ⟨h, fun g hg => (World.ownsRow.lt h g hg).2⟩

theorem Own.reads {k : IntKind} {E : TypeId} {w : World} {lo hi n cap : Nat} {a : Option Addr} {zs : List Int} (h : Own k E w lo hi (.slice a n cap) zs) : Reads k w a zs := h.1.reads

theorem Own.below {k : IntKind} {E : TypeId} {w w' : World} {lo hi : Nat} {v : Value} {zs : List Int} (h : Own k E w lo hi v zs) (hb : Below w.heap.size w w') : Own k E w' lo hi v zs :=
  ⟨h.1.below hb (Nat.le_refl _), h.2⟩

theorem Own.same {k : IntKind} {E : TypeId} {w w' : World} {lo hi : Nat} {v : Value} {zs : List Int} (h : Own k E w lo hi v zs) (hs : Same w w') : Own k E w' lo hi v zs := h.below (hs.below _)

theorem Own.but {k : IntKind} {E : TypeId} {w w' : World} {lo hi l h' : Nat} {v : Value} {zs : List Int} (h : Own k E w lo hi v zs) (hb : But l h' w w') (hd : hi ≤ l ∨ h' ≤ lo) : Own k E w' lo hi v zs := by
  refine ⟨⟨h.1.1, ?_⟩, h.2⟩
  rcases h.1.2 with h2 | ⟨g, cap, cur, hv, hbg, hg, r⟩
  · exact .inl h2
  · have hlt : g < w.heap.size := (Array.getElem?_eq_some_iff.1 hg).1
    have hhi : g < hi := h.2 g (by rw [hv]; rfl)
    exact .inr ⟨g, cap, cur, hv, hbg, by rw [hb.block g hlt (by omega)]; exact hg, r⟩

theorem Own.shape {k : IntKind} {E : TypeId} {w : World} {lo hi : Nat} {v : Value} {zs : List Int} (h : Own k E w lo hi v zs) : ∃ a cap, v = .slice a zs.length cap := by
  obtain ⟨a, cap, hv, _⟩ := h.1.shape
  exact ⟨a, cap, hv⟩

theorem Own.length {k : IntKind} {E : TypeId} {w : World} {lo hi n cap : Nat} {a : Option Addr} {zs : List Int} (h : Own k E w lo hi (.slice a n cap) zs) : zs.length = n := by
  obtain ⟨a', cap', hv⟩ := h.shape
  simp only [Value.slice.injEq] at hv
  exact hv.2.1.symm

/-- No element, or the row's block is known. -/
theorem Own.cases {k : IntKind} {E : TypeId} {w : World} {lo hi n cap : Nat} {a : Option Addr} {zs : List Int} (h : Own k E w lo hi (.slice a n cap) zs) :
    n = 0 ∨ ∃ g, a = some ⟨g, 0, none⟩ ∧ lo ≤ g ∧ g < hi := by
  rcases h.1.2 with ⟨hv, hn⟩ | ⟨g, cap', cur, hv, hbg, hg, r⟩
  · simp only [Value.slice.injEq] at hv
    exact .inl hv.2.1
  · simp only [Value.slice.injEq] at hv
    exact .inr ⟨g, hv.1, hbg, h.2 g (by rw [hv.1]; rfl)⟩

/-- One store into the row. -/
theorem Own.store {k : IntKind} {E : TypeId} {w : World} {lo hi n cap g : Nat} {zs : List Int} (h : Own k E w lo hi (.slice (some ⟨g, 0, none⟩) n cap) zs) (j : Nat) (hj : j < n) (x : Int) :
    w.cell? ⟨g, j, none⟩ = some (.int k (zs.getD j 0)) ∧ w.frozen? ⟨g, j, none⟩ = false ∧
    Own k E (w.setCell ⟨g, j, none⟩ (.int k x)) lo hi (.slice (some ⟨g, 0, none⟩) n cap) (zs.set j x) ∧ But lo hi w (w.setCell ⟨g, j, none⟩ (.int k x)) := by
  have hl := h.length
  have h1 : w.ownsRow lo E 1 (.slice (some ⟨g, 0, none⟩) n cap) n (zs.map (Value.int k)) := by have := h.1; unfold Owns at this; rw [hl] at this; exact this
  have hg1 : lo ≤ g := (World.ownsRow.lt h1 g rfl).1
  have hg2 : g < hi := h.2 g rfl
  refine ⟨?_, h1.frozenAt j, ⟨?_, h.2⟩, But.of_grown (h1.stored j _).2 hg1 hg2⟩
  · rw [h1.cellAt j (by omega)]
    simp [List.getElem?_eq_getElem (show j < zs.length by omega)]
  · have := (h1.stored j (.int k x)).1
    unfold Owns
    rw [List.length_set, hl, List.map_set]
    exact this

/-- The marks: the numbers from k0 on, as the kind k holds them. -/
def marks (f : Int → Int) (k0 : Int) (n : Nat) : List Int := (List.range n).map fun (i : Nat) => f (k0 + (i : Int))

theorem marks_length (f : Int → Int) (k0 : Int) (n : Nat) : (marks f k0 n).length = n := by simp [marks]
theorem marks_getD (f : Int → Int) (k0 : Int) (n j : Nat) (h : j < n) : (marks f k0 n).getD j 0 = f (k0 + (j : Int)) := by simp [marks, h]
theorem marks_step (f : Int → Int) (k0 : Int) (zs : List Int) (j : Nat) (h : j < zs.length) :
    (marks f k0 j ++ zs.drop j).set j (f (k0 + (j : Int))) = marks f k0 (j + 1) ++ zs.drop (j + 1) := by
  rw [List.set_append, if_neg (by rw [marks_length]; omega), marks_length, Nat.sub_self, List.drop_eq_getElem_cons h, List.set_cons_zero]
  unfold marks
  rw [List.range_succ, List.map_append, List.append_assoc]
  rfl

theorem Reads.cells {k : IntKind} {w : World} {ad : Addr} {ys : List Int} (h : Reads k w (some ad) ys) : ∀ j u, (ys.map (Value.int k))[j]? = some u → w.cell? (ad.add j) = some u := by
  intro j u hu
  rw [List.getElem?_map] at hu
  rcases h with h | ⟨b, off, ha, hlt, hc⟩
  · subst h
    simp at hu
  · simp at ha
    subst ha
    have hj : j < ys.length := by
      by_cases hj : j < ys.length
      · exact hj
      · rw [List.getElem?_eq_none (by omega)] at hu
        simp at hu
    rw [List.getElem?_eq_getElem hj] at hu
    simp at hu
    have ea : (⟨b, off, none⟩ : Addr).add j = ⟨b, off + j, none⟩ := by unfold Addr.add; split <;> simp_all
    rw [ea, hc j hj, ← hu]
    simp [List.getElem?_eq_getElem hj]

theorem ints_plain {k : IntKind} (ys : List Int) : ∀ u ∈ ys.map (Value.int k), u.oneCell' = true := by
  intro u hu
  obtain ⟨n, _, rfl⟩ := List.mem_map.1 hu
  rfl

theorem Reads.new (k : IntKind) (w : World) (E : TypeId) (ys : List Int) (cs : Array Value) (h : cs = (ys.map (Value.int k)).toArray) : Reads k (w.alloc (.cells cs E)) (some ⟨w.heap.size, 0, none⟩) ys := by
  refine .inr ⟨w.heap.size, 0, rfl, by simp, fun i hi => ?_⟩
  rw [cell_of_row (w.alloc (.cells cs E)) w.heap.size (0 + i) cs E (0, 0) (heap_alloc_new w _), h]
  simp [List.getElem?_eq_getElem hi]

theorem Owns.alloc {k : IntKind} {E : TypeId} {w : World} {lo : Nat} {v : Value} {zs : List Int} (h : Owns k E w lo v zs) (o : Obj) : Owns k E (w.alloc o) lo v zs := World.ownsRow.alloc h o
theorem Owns.drewN {k : IntKind} {E : TypeId} {w : World} {lo : Nat} {v : Value} {zs : List Int} (h : Owns k E w lo v zs) (n : Nat) : Owns k E (w.drewN n) lo v zs := h
theorem Owns.drew {k : IntKind} {E : TypeId} {w : World} {lo : Nat} {v : Value} {zs : List Int} (h : Owns k E w lo v zs) : Owns k E w.drew lo v zs := h
theorem Owns.grown {k : IntKind} {E : TypeId} {w w' : World} {lo : Nat} {v : Value} {zs : List Int} (h : Owns k E w lo v zs) (hg : w.grownBy w' none) : Owns k E w' lo v zs := World.ownsRow.kept h hg (by cases hv : v.ownBlock <;> simp)

/-- 'append' to a row of the call's own, at a list of operations. -/
theorem wpList_app {P : Program} {w : World} {ops : Array Oper} {rest : List Oper} {o : Oper} {a : Act} {Q : Exit → Act → World → Prop} (k : IntKind) (hgd : o.guard = none) (s x : Operand) (t : TypeId)
    (ho : o.op = .call { callee := .builtin .append, args := #[s, x], argTypes := #[t, t] })
    (lo : Nat) (E : TypeId) (i : TypeInfo) (z : Value) (bytes : Nat) (ht : P.underlying t = some (.slice E)) (hi : P.info? E = some i) (hz : i.zero = some z)
    (hsize : i.size = 1) (hby : i.bytes = bytes) (hzs : z.cells.size = 1)
    (v : Value) (zs : List Int) (hs : a.eval s = v) (hown : Owns k E w lo v zs)
    (ad : Addr) (m c : Nat) (ys : List Int) (hx : a.eval x = .slice (some ad) m c) (hl : ys.length = m) (hr : Reads k w (some ad) ys)
    (h63 : zs.length + m ≤ maxLen) (hbytes : (zs.length + m) * bytes ≤ 140737488355328) (hbase : lo ≤ w.heap.size)
    (h : ∀ v' w', Owns k E w' lo v' (zs ++ ys) → Below lo w w' → wpList P ops Q rest (a.put o.dst v') w') : wpList P ops Q (o :: rest) a w := by
  refine wpList_append_own w hgd s x t ho lo E i z 1 bytes ht hi hz hsize hby hzs (by decide) v zs.length (zs.map (Value.int k)) hs hown ad m c (ys.map (Value.int k)) hx (by simp [hl]) hr.cells (ints_plain ys) h63 hbytes hbase ?_
  intro v' w' h1 h2 _
  refine h v' w' ?_ ((Below.refl _ _).grown h2 hbase (fun g hg => (World.ownsRow.lt hown g hg).1))
  unfold Owns
  rw [List.map_append, List.length_append, hl]
  exact h1

/-- 'append' to a row of the call's own, at a step of a region that draws its order. -/
theorem step_app {P : Program} {w : World} {ops : Array Oper} {o : Oper} {a : Act} {K : Act → World → Prop} {Q : Exit → Act → World → Prop} {G : Prop} (k : IntKind) (hgd : o.guard = none) (s x : Operand) (t : TypeId)
    (ho : o.op = .call { callee := .builtin .append, args := #[s, x], argTypes := #[t, t] })
    (lo : Nat) (E : TypeId) (i : TypeInfo) (z : Value) (bytes : Nat) (ht : P.underlying t = some (.slice E)) (hi : P.info? E = some i) (hz : i.zero = some z)
    (hsize : i.size = 1) (hby : i.bytes = bytes) (hzs : z.cells.size = 1)
    (v : Value) (zs : List Int) (hs : a.eval s = v) (hown : Owns k E w lo v zs)
    (ad : Addr) (m c : Nat) (ys : List Int) (hx : a.eval x = .slice (some ad) m c) (hl : ys.length = m) (hr : Reads k w (some ad) ys) (hm : 0 < m)
    (h63 : zs.length + m ≤ maxLen) (hbytes : (zs.length + m) * bytes ≤ 140737488355328) (hbase : lo ≤ w.heap.size)
    (h : ∀ v' w', Owns k E w' lo v' (zs ++ ys) → Below lo w w' → K (a.put o.dst v') w') :
    if Region.wanted o (yielded ops a.tmps) = true then Oper.wp P o a w K Q else G := by
  refine step_append_lies w hgd s x t ho lo E i z 1 bytes ht hi hz hsize hby hzs (by decide) v zs.length (zs.map (Value.int k)) hs hown ad m c (ys.map (Value.int k)) hx (by simp [hl]) hr.cells (ints_plain ys) hm h63 hbytes hbase w.heap.size rfl ?_
  intro g cap w' h1 h2 _ _
  refine h _ w' ?_ ((Below.refl _ _).grown h2 hbase (fun g hg => (World.ownsRow.lt hown g hg).1))
  unfold Owns
  rw [List.map_append, List.length_append, hl]
  exact h1

theorem Owns.lit (k : IntKind) (E : TypeId) (w : World) (ys : List Int) (n : Nat) (cs : Array Value) (h : cs = (ys.map (Value.int k)).toArray) (hn : ys.length = n) (hm : n ≤ maxLen) : Owns k E (w.alloc (.cells cs E)) w.heap.size (.slice (some ⟨w.heap.size, 0, none⟩) n n) ys := by
  have := World.ownsRow_lit (base := w.heap.size) (e := E) (size := 1) w cs n (Nat.le_refl _) hm (by rw [h]; simp [hn])
  unfold Owns
  rw [hn]
  rw [h] at this
  rw [h]
  simpa using this

theorem Owns.take {k : IntKind} {E : TypeId} {w : World} {lo n : Nat} {v : Value} {zs ps : List Int} (h : Owns k E w lo v zs) (hp : zs = ps) (hn : ps.length = n) :
    ∃ a cap, v = .slice a n cap ∧ Own k E w lo w.heap.size (.slice a n cap) ps := by
  subst hp
  obtain ⟨a, cap, hv, _⟩ := h.shape
  rw [hn] at hv
  exact ⟨a, cap, hv, by rw [← hv]; exact h.own⟩

theorem Own.bound {k : IntKind} {E : TypeId} {w : World} {lo hi n cap : Nat} {a : Option Addr} {zs : List Int} (h : Own k E w lo hi (.slice a n cap) zs) : ∀ x, a = some x → x.block < hi := by
  intro x hx
  exact h.2 _ (by rw [hx]; rfl)

theorem But.setCell {lo hi g j : Nat} {w : World} (h1 : lo ≤ g) (h2 : g < hi) (u : Value) : But lo hi w (w.setCell ⟨g, j, none⟩ u) :=
  ⟨rfl, rfl, rfl, by simp [World.setCell], fun k _ ho => Below.heap_setCell _ _ _ _ (by simp; omega)⟩
theorem But.drewN {lo hi : Nat} {a w : World} (h : But lo hi a w) (n : Nat) : But lo hi a (w.drewN n) := ⟨h.os, h.tape, h.output, h.size, h.block⟩

theorem But.of_below {lo hi : Nat} {w w' : World} (h : Below w.heap.size w w') : But lo hi w w' := ⟨h.os, h.tape, h.output, h.size, fun k hk _ => h.block k hk⟩
theorem But.alloc {lo hi : Nat} {a w : World} (h : But lo hi a w) (o : Obj) : But lo hi a (w.alloc o) := h.trans (But.of_below ((Below.refl _ _).alloc (Nat.le_refl _) o))
theorem But.thenBelow {lo hi : Nat} {w0 wr w1 : World} (h : But lo hi w0 wr) (k : Below w0.heap.size wr w1) : But lo hi w0 w1 :=
  ⟨k.os.trans h.os, k.tape.trans h.tape, k.output.trans h.output, Nat.le_trans h.size k.size, fun i hi' ho => (k.block i hi').trans (h.block i hi' ho)⟩
theorem hidden {p : Prop} (h : p) : Hid p := h

theorem new_below (w : World) (o : Obj) : Below w.heap.size w (w.alloc o) := (Below.refl _ _).alloc (Nat.le_refl _) _
end Go.Proofs.YtbkkjfgjlapadaaGreat

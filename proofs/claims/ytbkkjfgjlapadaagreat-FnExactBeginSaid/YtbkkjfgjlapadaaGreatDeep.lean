/-
  Plain lemmas on data with depth: what cells read as, through which blocks, and what of it is a call's own; slices of whatever, pairs, numbers, flags. No condition; nothing of the program is named here.
-/
import Derived.Test.YtbkkjfgjlapadaaGreatKit
namespace Go.Proofs.YtbkkjfgjlapadaaGreat
open Go.RowKit

/-- A kind of data: how many cells it takes, what it reads as and through which blocks, and when it is made of rows of a call's own. -/
structure Ty where
  n : Nat
  D : Type
  rd : World → List Value → D → List Nat → Prop
  ow : World → List Value → D → List Nat → Prop
  owRd : ∀ {w vs d fp}, ow w vs d fp → rd w vs d fp
  rdLen : ∀ {w vs d fp}, rd w vs d fp → vs.length = n
  rdLt : ∀ {w vs d fp}, rd w vs d fp → ∀ b ∈ fp, b < w.heap.size
  rdKept : ∀ {w w' vs d fp}, rd w vs d fp → (∀ b ∈ fp, w'.heap[b]? = w.heap[b]?) → w.heap.size ≤ w'.heap.size → rd w' vs d fp
  owKept : ∀ {w w' vs d fp}, ow w vs d fp → (∀ b ∈ fp, w'.heap[b]? = w.heap[b]?) → w.heap.size ≤ w'.heap.size → ow w' vs d fp

theorem cell_kept {w w' : World} {b : Nat} (h : w'.heap[b]? = w.heap[b]?) (off : Nat) : w'.cell? ⟨b, off, none⟩ = w.cell? ⟨b, off, none⟩ := World.cell?_of_block (w := w) h

/-- A number. -/
abbrev intTy : Ty where
  n := 1
  D := Int
  rd := fun _ vs d fp => vs = [.int .i64 d] ∧ fp = []
  ow := fun _ vs d fp => vs = [.int .i64 d] ∧ fp = []
  owRd := fun h => h
  rdLen := fun h => by rw [h.1]; rfl
  rdLt := fun h => by rw [h.2]; simp
  rdKept := fun h _ _ => h
  owKept := fun h _ _ => h

/-- A flag. -/
abbrev boolTy : Ty where
  n := 1
  D := Bool
  rd := fun _ vs d fp => vs = [.bool d] ∧ fp = []
  ow := fun _ vs d fp => vs = [.bool d] ∧ fp = []
  owRd := fun h => h
  rdLen := fun h => by rw [h.1]; rfl
  rdLt := fun h => by rw [h.2]; simp
  rdKept := fun h _ _ => h
  owKept := fun h _ _ => h

/-- One behind the other. -/
abbrev pairTy (t u : Ty) : Ty where
  n := t.n + u.n
  D := t.D × u.D
  rd := fun w vs d fp => ∃ f1 f2, fp = f1 ++ f2 ∧ t.rd w (vs.take t.n) d.1 f1 ∧ u.rd w (vs.drop t.n) d.2 f2 ∧ vs.length = t.n + u.n
  ow := fun w vs d fp => ∃ f1 f2, fp = f1 ++ f2 ∧ t.ow w (vs.take t.n) d.1 f1 ∧ u.ow w (vs.drop t.n) d.2 f2 ∧ vs.length = t.n + u.n
  owRd := fun ⟨f1, f2, h, h1, h2, h3⟩ => ⟨f1, f2, h, t.owRd h1, u.owRd h2, h3⟩
  rdLen := fun ⟨_, _, _, _, _, h3⟩ => h3
  rdLt := fun ⟨f1, f2, h, h1, h2, _⟩ b hb => by
    rw [h] at hb
    rcases List.mem_append.1 hb with hb | hb
    · exact t.rdLt h1 b hb
    · exact u.rdLt h2 b hb
  rdKept := fun ⟨f1, f2, h, h1, h2, h3⟩ hk hs => ⟨f1, f2, h, t.rdKept h1 (fun b hb => hk b (by rw [h]; exact List.mem_append_left _ hb)) hs, u.rdKept h2 (fun b hb => hk b (by rw [h]; exact List.mem_append_right _ hb)) hs, h3⟩
  owKept := fun ⟨f1, f2, h, h1, h2, h3⟩ hk hs => ⟨f1, f2, h, t.owKept h1 (fun b hb => hk b (by rw [h]; exact List.mem_append_left _ hb)) hs, u.owKept h2 (fun b hb => hk b (by rw [h]; exact List.mem_append_right _ hb)) hs, h3⟩

/-- The rows' part of a slice that reads. -/
def rowRd (t : Ty) (w : World) (b off : Nat) (d : List t.D) (fps : List (List Nat)) : Prop :=
  fps.length = d.length ∧ ∀ i x, d[i]? = some x → ∃ f cs, fps[i]? = some f ∧ t.rd w cs x f ∧ ∀ j, j < t.n → w.cell? ⟨b, off + (i * t.n + j), none⟩ = cs[j]?
/-- The rows' part of a slice that is a call's own. -/
def rowOw (t : Ty) (w : World) (cur : List Value) (d : List t.D) (fps : List (List Nat)) : Prop :=
  fps.length = d.length ∧ ∀ i x, d[i]? = some x → ∃ f, fps[i]? = some f ∧ t.ow w ((cur.drop (i * t.n)).take t.n) x f

/-- A slice of such. -/
abbrev rowTy (t : Ty) (E : TypeId) : Ty where
  n := 1
  D := List t.D
  rd := fun w vs d fp => ∃ a cap, vs = [.slice a d.length cap] ∧ d.length ≤ cap ∧ cap ≤ 9223372036854775807 ∧
    ((d.length = 0 ∧ fp = [] ∧ (a = none → cap = 0)) ∨ ∃ b off fps, a = some ⟨b, off, none⟩ ∧ b < w.heap.size ∧ fp = b :: fps.flatten ∧ rowRd t w b off d fps)
  ow := fun w vs d fp => (vs = [.slice none 0 0] ∧ d = [] ∧ fp = []) ∨
    ∃ b cap cur fps, vs = [.slice (some ⟨b, 0, none⟩) d.length cap] ∧ d.length ≤ cap ∧ cap ≤ 9223372036854775807 ∧ w.heap[b]? = some (.cells cur E (0, 0)) ∧ cur.size = cap * t.n ∧ fp = b :: fps.flatten ∧ rowOw t w cur.toList d fps
  owRd := fun {w vs d fp} h => by
    rcases h with ⟨h1, h2, h3⟩ | ⟨b, cap, cur, fps, h1, h2, h3, h4, h5, h6, h7, h8⟩
    · refine ⟨none, 0, ?_, ?_, ?_, .inl ⟨?_, h3, fun _ => rfl⟩⟩
      · rw [h1, h2]; rfl
      · rw [h2]; exact Nat.le_refl _
      · omega
      · rw [h2]; rfl
    · refine ⟨_, cap, h1, h2, h3, .inr ⟨b, 0, fps, rfl, (Array.getElem?_eq_some_iff.1 h4).1, h6, h7, fun i x hx => ?_⟩⟩
      obtain ⟨f, hf, ho⟩ := h8 i x hx
      refine ⟨f, _, hf, t.owRd ho, fun j hj => ?_⟩
      rw [cell_of_row w b _ cur E (0, 0) h4, List.getElem?_take, if_pos hj, List.getElem?_drop]
      simp
  rdLen := fun ⟨_, _, h, _⟩ => by rw [h]; rfl
  rdLt := fun {w vs d fp} ⟨a, cap, h1, h2, h3, h4⟩ b hb => by
    rcases h4 with ⟨_, h5, _⟩ | ⟨b', off, fps, _, h5, h6, h7, h8⟩
    · rw [h5] at hb; simp at hb
    · rw [h6] at hb
      rcases List.mem_cons.1 hb with rfl | hb
      · exact h5
      · obtain ⟨f, hf, hbf⟩ := List.mem_flatten.1 hb
        obtain ⟨i, hi⟩ := List.mem_iff_getElem?.1 hf
        have hil : i < d.length := by rw [← h7]; exact (List.getElem?_eq_some_iff.1 hi).1
        obtain ⟨f', cs, hf', hrd, _⟩ := h8 i _ (List.getElem?_eq_getElem hil)
        rw [hi] at hf'
        simp at hf'
        subst hf'
        exact t.rdLt hrd b hbf
  rdKept := fun {w w' vs d fp} ⟨a, cap, h1, h2, h3, h4⟩ hk hs => by
    refine ⟨a, cap, h1, h2, h3, ?_⟩
    rcases h4 with h4 | ⟨b, off, fps, h5, h6, h7, h8, h9⟩
    · exact .inl h4
    · have hb : w'.heap[b]? = w.heap[b]? := hk b (by rw [h7]; exact List.mem_cons_self)
      refine .inr ⟨b, off, fps, h5, Nat.lt_of_lt_of_le h6 hs, h7, h8, fun i x hx => ?_⟩
      obtain ⟨f, cs, hf, hrd, hc⟩ := h9 i x hx
      refine ⟨f, cs, hf, t.rdKept hrd (fun b' hb' => hk b' ?_) hs, fun j hj => ?_⟩
      · rw [h7]
        exact List.mem_cons_of_mem _ (List.mem_flatten.2 ⟨f, List.mem_of_getElem? hf, hb'⟩)
      · rw [cell_kept hb, hc j hj]
  owKept := fun {w w' vs d fp} h hk hs => by
    rcases h with h | ⟨b, cap, cur, fps, h1, h2, h3, h4, h5, h6, h7, h8⟩
    · exact .inl h
    · refine .inr ⟨b, cap, cur, fps, h1, h2, h3, ?_, h5, h6, h7, fun i x hx => ?_⟩
      · rw [hk b (by rw [h6]; exact List.mem_cons_self)]; exact h4
      · obtain ⟨f, hf, ho⟩ := h8 i x hx
        refine ⟨f, hf, t.owKept ho (fun b' hb' => hk b' ?_) hs⟩
        rw [h6]
        exact List.mem_cons_of_mem _ (List.mem_flatten.2 ⟨f, List.mem_of_getElem? hf, hb'⟩)

/-- It reads so in this world. -/
def Ty.Rd (t : Ty) (w : World) (vs : List Value) (d : t.D) : Prop := ∃ fp, t.rd w vs d fp
/-- It is made of rows of its own, no two the same, all of them blocks from lo on below hi. -/
def Ty.Own (t : Ty) (w : World) (lo hi : Nat) (vs : List Value) (d : t.D) : Prop := ∃ fp, t.ow w vs d fp ∧ fp.Nodup ∧ ∀ b ∈ fp, lo ≤ b ∧ b < hi

theorem Ty.Rd.below {t : Ty} {w w' : World} {vs : List Value} {d : t.D} (h : t.Rd w vs d) (hb : Below w.heap.size w w') : t.Rd w' vs d := by
  obtain ⟨fp, h⟩ := h
  exact ⟨fp, t.rdKept h (fun b hb' => hb.block b (t.rdLt h b hb')) hb.size⟩
theorem Ty.Rd.same {t : Ty} {w w' : World} {vs : List Value} {d : t.D} (h : t.Rd w vs d) (hs : Same w w') : t.Rd w' vs d := h.below (hs.below _)
theorem Ty.Rd.drew {t : Ty} {w : World} {vs : List Value} {d : t.D} (h : t.Rd w vs d) : t.Rd w.drew vs d := h.same ((Same.refl w).drew)
theorem Ty.Own.rd {t : Ty} {w : World} {lo hi : Nat} {vs : List Value} {d : t.D} (h : t.Own w lo hi vs d) : t.Rd w vs d := by
  obtain ⟨fp, h, _⟩ := h
  exact ⟨fp, t.owRd h⟩
theorem Ty.Own.below {t : Ty} {w w' : World} {lo hi : Nat} {vs : List Value} {d : t.D} (h : t.Own w lo hi vs d) (hb : Below w.heap.size w w') : t.Own w' lo hi vs d := by
  obtain ⟨fp, h, hn, hr⟩ := h
  exact ⟨fp, t.owKept h (fun b hb' => hb.block b (t.rdLt (t.owRd h) b hb')) hb.size, hn, hr⟩
theorem Ty.Own.same {t : Ty} {w w' : World} {lo hi : Nat} {vs : List Value} {d : t.D} (h : t.Own w lo hi vs d) (hs : Same w w') : t.Own w' lo hi vs d := h.below (hs.below _)
theorem Ty.Own.but {t : Ty} {w w' : World} {lo hi l h' : Nat} {vs : List Value} {d : t.D} (h : t.Own w lo hi vs d) (hb : But l h' w w') (hd : hi ≤ l ∨ h' ≤ lo) : t.Own w' lo hi vs d := by
  obtain ⟨fp, h, hn, hr⟩ := h
  exact ⟨fp, t.owKept h (fun b hb' => hb.block b (t.rdLt (t.owRd h) b hb') (by have := hr b hb'; omega)) hb.size, hn, hr⟩
theorem Ty.Own.widen {t : Ty} {w : World} {lo hi lo' hi' : Nat} {vs : List Value} {d : t.D} (h : t.Own w lo hi vs d) (h1 : lo' ≤ lo) (h2 : hi ≤ hi') : t.Own w lo' hi' vs d := by
  obtain ⟨fp, h, hn, hr⟩ := h
  exact ⟨fp, h, hn, fun b hb => by have := hr b hb; omega⟩

/-- A slice of numbers, as the elder words have it. -/
theorem ints_rd {w : World} {a : Option Addr} {n cap : Nat} {E : TypeId} {zs : List Int} (h : (rowTy intTy E).Rd w [.slice a n cap] zs) : Reads .i64 w a zs ∧ zs.length = n ∧ n ≤ cap ∧ cap ≤ 9223372036854775807 := by
  obtain ⟨fp, a', cap', hv, h2, h3, h4⟩ := h
  simp only [List.cons.injEq, Value.slice.injEq, and_true] at hv
  obtain ⟨rfl, rfl, rfl⟩ := hv
  refine ⟨?_, rfl, h2, h3⟩
  rcases h4 with ⟨h5, _⟩ | ⟨b, off, fps, rfl, h6, h7, h8, h9⟩
  · exact .inl (List.eq_nil_of_length_eq_zero h5)
  · refine .inr ⟨b, off, rfl, h6, fun i hi => ?_⟩
    obtain ⟨f, cs, _, ⟨hcs, _⟩, hc⟩ := h9 i _ (List.getElem?_eq_getElem hi)
    have := hc 0 (by show 0 < 1; omega)
    rw [hcs] at this
    have e : off + (i * intTy.n + 0) = off + i := by show off + (i * 1 + 0) = off + i; omega
    rw [e] at this
    rw [this, List.getD_eq_getElem?_getD, List.getElem?_eq_getElem hi]
    rfl

theorem ints_rd_of {w : World} {a : Option Addr} {cap : Nat} {E : TypeId} {zs : List Int} (h : Reads .i64 w a zs) (h1 : zs.length ≤ cap) (h2 : cap ≤ 9223372036854775807) (hc0 : a = none → cap = 0) : (rowTy intTy E).Rd w [.slice a zs.length cap] zs := by
  rcases h with rfl | ⟨b, off, rfl, hlt, hc⟩
  · exact ⟨[], a, cap, rfl, h1, h2, .inl ⟨rfl, rfl, hc0⟩⟩
  · by_cases h0 : zs.length = 0
    · exact ⟨[], _, cap, rfl, h1, h2, .inl ⟨h0, rfl, hc0⟩⟩
    · refine ⟨b :: (zs.map fun _ => ([] : List Nat)).flatten, _, cap, rfl, h1, h2, .inr ⟨b, off, zs.map fun _ => [], rfl, hlt, rfl, by simp, fun i x hx => ?_⟩⟩
      have hi : i < zs.length := (List.getElem?_eq_some_iff.1 hx).1
      refine ⟨[], [.int .i64 x], by rw [List.getElem?_map, hx]; rfl, ⟨rfl, rfl⟩, fun j hj => ?_⟩
      have hj0 : j = 0 := by have : j < 1 := hj; omega
      subst hj0
      have e : off + (i * intTy.n + 0) = off + i := by show off + (i * 1 + 0) = off + i; omega
      rw [e, hc i hi, List.getD_eq_getElem?_getD, hx]
      rfl

theorem row_shape {t : Ty} {E : TypeId} {w : World} {v : Value} {d : List t.D} (h : (rowTy t E).Rd w [v] d) : ∃ a cap, v = .slice a d.length cap := by
  obtain ⟨fp, a, cap, hv, _⟩ := h
  exact ⟨a, cap, by simpa using hv⟩

theorem row_length {t : Ty} {E : TypeId} {w : World} {a : Option Addr} {n cap : Nat} {d : List t.D} (h : (rowTy t E).Rd w [.slice a n cap] d) : d.length = n ∧ n ≤ cap ∧ cap ≤ 9223372036854775807 := by
  obtain ⟨fp, a', cap', hv, h2, h3, _⟩ := h
  simp only [List.cons.injEq, Value.slice.injEq, and_true] at hv
  obtain ⟨rfl, rfl, rfl⟩ := hv
  exact ⟨rfl, h2, h3⟩

theorem row_nil {t : Ty} {E : TypeId} {w : World} {n cap : Nat} {d : List t.D} (h : (rowTy t E).Rd w [.slice none n cap] d) : n = 0 ∧ cap = 0 ∧ d = [] := by
  obtain ⟨fp, a', cap', hv, h2, h3, h4⟩ := h
  simp only [List.cons.injEq, Value.slice.injEq, and_true] at hv
  obtain ⟨rfl, rfl, rfl⟩ := hv
  rcases h4 with ⟨h5, _, h6⟩ | ⟨b, off, fps, h5, _⟩
  · exact ⟨h5, h6 rfl, List.eq_nil_of_length_eq_zero h5⟩
  · simp at h5

/-- A slice of what takes one cell, at an index. -/
theorem rows_at {t : Ty} {E : TypeId} {w : World} {a : Option Addr} {n cap : Nat} {d : List t.D} (ht : t.n = 1) (h : (rowTy t E).Rd w [.slice a n cap] d) :
    n = 0 ∨ ∃ b off, a = some ⟨b, off, none⟩ ∧ b < w.heap.size ∧ ∀ i x, d[i]? = some x → ∃ v, w.cell? ⟨b, off + i, none⟩ = some v ∧ t.Rd w [v] x := by
  obtain ⟨fp, a', cap', hv, h2, h3, h4⟩ := h
  simp only [List.cons.injEq, Value.slice.injEq, and_true] at hv
  obtain ⟨rfl, rfl, rfl⟩ := hv
  rcases h4 with ⟨h5, _⟩ | ⟨b, off, fps, h5, h6, _, _, h9⟩
  · exact .inl h5
  · refine .inr ⟨b, off, h5, h6, fun i x hx => ?_⟩
    obtain ⟨f, cs, _, hrd, hc⟩ := h9 i x hx
    have hl := t.rdLen hrd
    rw [ht] at hl
    match cs, hl with
    | [v], _ =>
      refine ⟨v, ?_, f, hrd⟩
      have := hc 0 (by omega)
      rw [ht, Nat.mul_one, Nat.add_zero] at this
      exact this

/-- A slice of what takes two cells, at an index. -/
theorem pairs_at {t : Ty} {E : TypeId} {w : World} {a : Option Addr} {n cap : Nat} {d : List t.D} (ht : t.n = 2) (h : (rowTy t E).Rd w [.slice a n cap] d) :
    n = 0 ∨ ∃ b off, a = some ⟨b, off, none⟩ ∧ b < w.heap.size ∧ ∀ i x, d[i]? = some x → ∃ v0 v1, w.cell? ⟨b, off + i * 2, none⟩ = some v0 ∧ w.cell? ⟨b, off + i * 2 + 1, none⟩ = some v1 ∧ t.Rd w [v0, v1] x := by
  obtain ⟨fp, a', cap', hv, h2, h3, h4⟩ := h
  simp only [List.cons.injEq, Value.slice.injEq, and_true] at hv
  obtain ⟨rfl, rfl, rfl⟩ := hv
  rcases h4 with ⟨h5, _⟩ | ⟨b, off, fps, h5, h6, _, _, h9⟩
  · exact .inl h5
  · refine .inr ⟨b, off, h5, h6, fun i x hx => ?_⟩
    obtain ⟨f, cs, _, hrd, hc⟩ := h9 i x hx
    have hl := t.rdLen hrd
    rw [ht] at hl
    match cs, hl with
    | [v0, v1], _ =>
      refine ⟨v0, v1, ?_, ?_, f, hrd⟩
      · have := hc 0 (by omega)
        rw [ht, Nat.add_zero] at this
        exact this
      · have := hc 1 (by omega)
        rw [ht, ← Nat.add_assoc] at this
        exact this

theorem pair_rd {t u : Ty} {w : World} {vs us : List Value} {d : t.D × u.D} (ht : vs.length = t.n) (h : (pairTy t u).Rd w (vs ++ us) d) : t.Rd w vs d.1 ∧ u.Rd w us d.2 := by
  obtain ⟨fp, f1, f2, _, h1, h2, _⟩ := h
  rw [List.take_left' ht] at h1
  rw [List.drop_left' ht] at h2
  exact ⟨⟨f1, h1⟩, ⟨f2, h2⟩⟩
theorem pair_rd_of {t u : Ty} {w : World} {vs us : List Value} {x : t.D} {y : u.D} (h1 : t.Rd w vs x) (h2 : u.Rd w us y) : (pairTy t u).Rd w (vs ++ us) (x, y) := by
  obtain ⟨f1, h1⟩ := h1
  obtain ⟨f2, h2⟩ := h2
  have l1 := t.rdLen h1
  have l2 := u.rdLen h2
  exact ⟨f1 ++ f2, f1, f2, rfl, by rw [List.take_left' l1]; exact h1, by rw [List.drop_left' l1]; exact h2, by rw [List.length_append, l1, l2]⟩

/-- What is left of a bound behind a weight; -1 where it is passed. -/
def leftOf (left : Int) (wt : Nat) : Int := if (wt : Int) ≤ left then left - wt else -1
theorem leftOf_pos {left : Int} {wt : Nat} (h : (wt : Int) ≤ left) : leftOf left wt = left - wt := if_pos h
theorem leftOf_neg {left : Int} {wt : Nat} (h : left < (wt : Int)) : leftOf left wt = -1 := if_neg (by omega)
def sumL (l : List Nat) : Nat := l.foldr (· + ·) 0
theorem sumL_take {l : List Nat} {j x : Nat} (h : l[j]? = some x) : sumL (l.take (j + 1)) = sumL (l.take j) + x := by
  induction l generalizing j with
  | nil => simp at h
  | cons y l ih =>
    match j, h with
    | 0, h => simp at h; subst h; simp [sumL]
    | j + 1, h =>
      have := ih (j := j) (by simpa using h)
      simp only [List.take_succ_cons, sumL, List.foldr_cons] at *
      omega
theorem sumL_le {l : List Nat} (j : Nat) : sumL (l.take j) ≤ sumL l := by
  induction l generalizing j with
  | nil => simp [sumL]
  | cons y l ih =>
    match j with
    | 0 => simp [sumL]
    | j + 1 =>
      have := ih j
      simp only [List.take_succ_cons, sumL, List.foldr_cons] at *
      omega

theorem flatten_set_nodup : ∀ (l : List (List Nat)) (j : Nat) (f : List Nat), l.flatten.Nodup → f.Nodup → (∀ b ∈ f, b ∉ l.flatten) → (l.set j f).flatten.Nodup ∧ ∀ b ∈ (l.set j f).flatten, b ∈ f ∨ b ∈ l.flatten := by
  intro l
  induction l with
  | nil => intro j f _ _ _; simp
  | cons x l ih =>
    intro j f hn hf hd
    rw [List.flatten_cons, List.nodup_append] at hn
    obtain ⟨h1, h2, h3⟩ := hn
    match j with
    | 0 =>
      rw [List.set_cons_zero, List.flatten_cons, List.nodup_append]
      refine ⟨⟨hf, h2, fun a ha b hb hab => ?_⟩, fun b hb => ?_⟩
      · subst hab
        exact hd a ha (by rw [List.flatten_cons]; exact List.mem_append_right _ hb)
      · rcases List.mem_append.1 hb with hb | hb
        · exact .inl hb
        · exact .inr (by rw [List.flatten_cons]; exact List.mem_append_right _ hb)
    | j + 1 =>
      obtain ⟨i1, i2⟩ := ih j f h2 hf (fun b hb hbl => hd b hb (by rw [List.flatten_cons]; exact List.mem_append_right _ hbl))
      rw [List.set_cons_succ, List.flatten_cons, List.nodup_append]
      refine ⟨⟨h1, i1, fun a ha b hb hab => ?_⟩, fun b hb => ?_⟩
      · subst hab
        rcases i2 a hb with hb | hb
        · exact hd a hb (by rw [List.flatten_cons]; exact List.mem_append_left _ ha)
        · exact h3 a ha a hb rfl
      · rcases List.mem_append.1 hb with hb | hb
        · exact .inr (by rw [List.flatten_cons]; exact List.mem_append_left _ hb)
        · rcases i2 b hb with hb | hb
          · exact .inl hb
          · exact .inr (by rw [List.flatten_cons]; exact List.mem_append_right _ hb)

/-- One store into a row of what takes one cell: what is stored is newer than all of the row. -/
theorem row_store1 {t : Ty} {E : TypeId} {w : World} {lo hi lo' hi' g n cap j : Nat} {d : List t.D} {v : Value} {x : t.D} (ht : t.n = 1) (h : (rowTy t E).Own w lo hi [.slice (some ⟨g, 0, none⟩) n cap] d)
    (hj : j < n) (hx : t.Own w lo' hi' [v] x) (hlo : hi ≤ lo') (hle : hi ≤ hi') :
    (∃ old, w.cell? ⟨g, j, none⟩ = some old) ∧ w.frozen? ⟨g, j, none⟩ = false ∧ (rowTy t E).Own (w.setCell ⟨g, j, none⟩ v) lo hi' [.slice (some ⟨g, 0, none⟩) n cap] (d.set j x) ∧ But lo hi w (w.setCell ⟨g, j, none⟩ v) := by
  obtain ⟨fp, h, hn, hr⟩ := h
  obtain ⟨f', hx, hn', hr'⟩ := hx
  rcases h with ⟨h1, _⟩ | ⟨b, cap', cur, fps, h1, h2, h3, h4, h5, h6, h7, h8⟩
  · simp at h1
  · simp only [List.cons.injEq, Value.slice.injEq, Option.some.injEq, Addr.mk.injEq, and_true] at h1
    obtain ⟨rfl, rfl, rfl⟩ := h1
    have hg : lo ≤ g ∧ g < hi := hr g (by rw [h6]; exact List.mem_cons_self)
    have hjc : j < cur.size := by rw [h5, ht]; omega
    have hgf' : g ∉ f' := fun hm => by have := hr' g hm; omega
    rw [h6, List.nodup_cons] at hn
    obtain ⟨hgf, hnf⟩ := hn
    have hdis : ∀ b ∈ f', b ∉ fps.flatten := fun b hb hbl => by
      have h1 := hr' b hb
      have h2 := hr b (by rw [h6]; exact List.mem_cons_of_mem _ hbl)
      omega
    obtain ⟨hsn, hsm⟩ := flatten_set_nodup fps j f' hnf hn' hdis
    have hoth : ∀ b, b ≠ g → (w.setCell ⟨g, j, none⟩ v).heap[b]? = w.heap[b]? := fun b hb => Below.heap_setCell _ _ _ _ hb
    have hsz : w.heap.size ≤ (w.setCell ⟨g, j, none⟩ v).heap.size := by simp
    refine ⟨⟨cur[j], ?_⟩, frozen_of_row w g j cur E h4, ?_, ⟨rfl, rfl, rfl, hsz, fun k _ hk => hoth k (by omega)⟩⟩
    · rw [cell_of_row w g j cur E (0, 0) h4, Array.getElem?_eq_getElem hjc]
    · refine ⟨g :: (fps.set j f').flatten, .inr ⟨g, cap, cur.setIfInBounds j v, fps.set j f', by rw [List.length_set], by rw [List.length_set]; exact h2, h3, heap_setCell_same w g j cur E v h4, by simpa using h5, rfl, by rw [List.length_set, List.length_set]; exact h7, fun i y hy => ?_⟩, ?_, ?_⟩
      · by_cases hij : i = j
        · subst hij
          have hyx : y = x := by
            rw [List.getElem?_set_self (by omega)] at hy
            simpa using hy.symm
          subst hyx
          refine ⟨f', List.getElem?_set_self (by rw [h7]; omega), ?_⟩
          have e : ((cur.setIfInBounds i v).toList.drop (i * t.n)).take t.n = [v] := by
            rw [ht, Nat.mul_one, Array.toList_setIfInBounds, List.drop_set, if_neg (by omega), Nat.sub_self, List.drop_eq_getElem_cons (by simpa using hjc), List.set_cons_zero]
            simp
          rw [e]
          exact t.owKept hx (fun b hb => hoth b (fun e => hgf' (e ▸ hb))) hsz
        · rw [List.getElem?_set_ne (fun e => hij e.symm)] at hy
          obtain ⟨f, hf, ho⟩ := h8 i y hy
          refine ⟨f, by rw [List.getElem?_set_ne (fun e => hij e.symm)]; exact hf, ?_⟩
          have e : ((cur.setIfInBounds j v).toList.drop (i * t.n)).take t.n = (cur.toList.drop (i * t.n)).take t.n := by
            rw [ht, Nat.mul_one, Array.toList_setIfInBounds]
            apply List.ext_getElem?
            intro k
            rw [List.getElem?_take, List.getElem?_take, List.getElem?_drop, List.getElem?_drop]
            by_cases hk : k < 1
            · rw [if_pos hk, if_pos hk, List.getElem?_set_ne (by omega)]
            · rw [if_neg hk, if_neg hk]
          rw [e]
          exact t.owKept ho (fun b hb => hoth b (fun e' => hgf (by rw [← e']; exact List.mem_flatten.2 ⟨f, List.mem_of_getElem? hf, hb⟩))) hsz
      · rw [List.nodup_cons]
        refine ⟨fun hm => ?_, hsn⟩
        rcases hsm g hm with hm | hm
        · exact hgf' hm
        · exact hgf hm
      · intro b hb
        rcases List.mem_cons.1 hb with rfl | hb
        · omega
        · rcases hsm b hb with hb | hb
          · have := hr' b hb
            omega
          · have := hr b (by rw [h6]; exact List.mem_cons_of_mem _ hb)
            omega

/-- A row that was just made: nothing but noughts. -/
theorem row_made {t : Ty} {E : TypeId} {w : World} {base g n : Nat} {zc : Array Value} {z : t.D} (h : w.ownsRow base E t.n (.slice (some ⟨g, 0, none⟩) n n) n (madeCells zc (n * t.n)).toList) (hn : n ≤ 9223372036854775807) (hz : zc.size = t.n)
    (hzo : ∀ w, t.ow w zc.toList z []) : (rowTy t E).Own w base w.heap.size [.slice (some ⟨g, 0, none⟩) n n] (List.replicate n z) := by
  rcases h.2 with ⟨h', _⟩ | ⟨g', cap, cur, h', hb, hg, hnc, hcm, hcs, htake⟩
  · simp at h'
  · simp only [Value.slice.injEq, Option.some.injEq, Addr.mk.injEq, and_true, true_and] at h'
    obtain ⟨rfl, rfl⟩ := h'
    have hlt : g < w.heap.size := (Array.getElem?_eq_some_iff.1 hg).1
    have hfl : (List.replicate n ([] : List Nat)).flatten = [] := by simp
    refine ⟨[g], .inr ⟨g, n, cur, List.replicate n [], by rw [List.length_replicate], by rw [List.length_replicate]; exact Nat.le_refl _, hn, hg, hcs, by rw [hfl], by simp, fun i x hx => ?_⟩, by simp, by simp; omega⟩
    have hi : i < n := by
      have := (List.getElem?_eq_some_iff.1 hx).1
      simpa using this
    rw [List.getElem?_replicate, if_pos hi] at hx
    simp at hx
    subst hx
    refine ⟨[], by rw [List.getElem?_replicate, if_pos hi], ?_⟩
    have e : (cur.toList.drop (i * t.n)).take t.n = zc.toList := by
      have hcur : cur.toList = (madeCells zc (n * t.n)).toList := by
        rw [← htake, List.take_of_length_le]
        rw [Array.length_toList, hcs]
        exact Nat.le_refl _
      rw [hcur]
      apply List.ext_getElem?
      intro k
      rw [List.getElem?_take]
      by_cases hk : k < t.n
      · have hik : i * t.n + k < n * t.n := by
          have : (i + 1) * t.n ≤ n * t.n := Nat.mul_le_mul_right _ hi
          rw [Nat.add_mul] at this
          omega
        rw [if_pos hk, List.getElem?_drop, Array.getElem?_toList, Array.getElem?_toList]
        unfold madeCells
        rw [Array.getElem?_map, Array.getElem?_eq_getElem (by simpa using hik), Array.getElem_range, Option.map_some, hz, Nat.mul_comm, Nat.mul_add_mod, Nat.mod_eq_of_lt hk]
        rw [Array.getElem?_eq_getElem (by omega)]
        simp [hz, hk]
      · rw [if_neg hk, List.getElem?_eq_none]
        rw [Array.length_toList, hz]
        omega
    rw [e]
    exact hzo w

/-- Behind a call that turns nothing old: all old cells, all old marks. -/
theorem bcell {W w1 : World} (hb : Below W.heap.size W w1) : (∀ b o, b < W.heap.size → w1.cell? ⟨b, o, none⟩ = W.cell? ⟨b, o, none⟩) ∧ (∀ b o, b < W.heap.size → w1.frozen? ⟨b, o, none⟩ = W.frozen? ⟨b, o, none⟩) :=
  ⟨fun b o h => hb.cell (p := ⟨b, o, none⟩) h, fun b o h => hb.frozen (p := ⟨b, o, none⟩) h⟩

theorem pair_own_of {t u : Ty} {w : World} {lo mid hi : Nat} {vs us : List Value} {x : t.D} {y : u.D} (h1 : t.Own w lo mid vs x) (h2 : u.Own w mid hi us y) (hm : lo ≤ mid) (hm' : mid ≤ hi) : (pairTy t u).Own w lo hi (vs ++ us) (x, y) := by
  obtain ⟨f1, h1, n1, r1⟩ := h1
  obtain ⟨f2, h2, n2, r2⟩ := h2
  have l1 := t.rdLen (t.owRd h1)
  have l2 := u.rdLen (u.owRd h2)
  refine ⟨f1 ++ f2, ⟨f1, f2, rfl, by rw [List.take_left' l1]; exact h1, by rw [List.drop_left' l1]; exact h2, by rw [List.length_append, l1, l2]⟩, ?_, ?_⟩
  · rw [List.nodup_append]
    refine ⟨n1, n2, fun a ha b hb hab => ?_⟩
    have := r1 a ha
    have := r2 b hb
    omega
  · intro b hb
    rcases List.mem_append.1 hb with hb | hb
    · have := r1 b hb
      omega
    · have := r2 b hb
      omega
theorem int_own (w : World) (lo hi : Nat) (x : Int) : intTy.Own w lo hi [.int .i64 x] x := ⟨[], ⟨rfl, rfl⟩, by simp, by simp⟩
theorem bool_own (w : World) (lo hi : Nat) (x : Bool) : boolTy.Own w lo hi [.bool x] x := ⟨[], ⟨rfl, rfl⟩, by simp, by simp⟩

/-- The cells of one element of a row, and a store over them: what is stored is newer than all of the row. -/
theorem row_store {t : Ty} {E : TypeId} {w w' : World} {lo hi lo' hi' g n cap j : Nat} {d : List t.D} {vs : List Value} {x : t.D} (h : (rowTy t E).Own w lo hi [.slice (some ⟨g, 0, none⟩) n cap] d)
    (hj : j < n) (hx : t.Own w lo' hi' vs x) (hlo : hi ≤ lo') (hle : hi ≤ hi') (ho1 : w'.os = w.os) (ho2 : w'.tape = w.tape) (ho3 : w'.output = w.output) (hsz : w.heap.size ≤ w'.heap.size) (hoth : ∀ b, b ≠ g → w'.heap[b]? = w.heap[b]?)
    (hnew : ∀ cur, w.heap[g]? = some (.cells cur E (0, 0)) → cur.size = cap * t.n → ∃ cur', w'.heap[g]? = some (.cells cur' E (0, 0)) ∧ cur'.size = cur.size ∧ ∀ k, cur'.toList[k]? = if j * t.n ≤ k ∧ k < (j + 1) * t.n then vs[k - j * t.n]? else cur.toList[k]?) :
    (rowTy t E).Own w' lo hi' [.slice (some ⟨g, 0, none⟩) n cap] (d.set j x) ∧ But lo hi w w' := by
  obtain ⟨fp, h, hn, hr⟩ := h
  obtain ⟨f', hx, hn', hr'⟩ := hx
  have hvl := t.rdLen (t.owRd hx)
  rcases h with ⟨h1, _⟩ | ⟨b, cap', cur, fps, h1, h2, h3, h4, h5, h6, h7, h8⟩
  · simp at h1
  · simp only [List.cons.injEq, Value.slice.injEq, Option.some.injEq, Addr.mk.injEq, and_true] at h1
    obtain ⟨rfl, rfl, rfl⟩ := h1
    have hg : lo ≤ g ∧ g < hi := hr g (by rw [h6]; exact List.mem_cons_self)
    have hgf' : g ∉ f' := fun hm => by have := hr' g hm; omega
    rw [h6, List.nodup_cons] at hn
    obtain ⟨hgf, hnf⟩ := hn
    have hdis : ∀ b ∈ f', b ∉ fps.flatten := fun b hb hbl => by
      have h1 := hr' b hb
      have h2 := hr b (by rw [h6]; exact List.mem_cons_of_mem _ hbl)
      omega
    obtain ⟨hsn, hsm⟩ := flatten_set_nodup fps j f' hnf hn' hdis
    obtain ⟨cur', hc1, hc2, hc3⟩ := hnew cur h4 h5
    have hpart : ∀ i, ((cur'.toList.drop (i * t.n)).take t.n) = if i = j then vs else (cur.toList.drop (i * t.n)).take t.n := by
      intro i
      apply List.ext_getElem?
      intro k
      rw [List.getElem?_take, List.getElem?_drop, hc3]
      by_cases hk : k < t.n
      · rw [if_pos hk]
        by_cases hij : i = j
        · subst hij
          rw [if_pos rfl, if_pos (by rw [Nat.add_mul]; omega), Nat.add_sub_cancel_left]
        · rw [if_neg hij, List.getElem?_take, if_pos hk, List.getElem?_drop, if_neg]
          intro hh
          rcases Nat.lt_or_gt_of_ne hij with hlt | hgt
          · have : (i + 1) * t.n ≤ j * t.n := Nat.mul_le_mul_right _ hlt
            rw [Nat.add_mul] at this
            omega
          · have : (j + 1) * t.n ≤ i * t.n := Nat.mul_le_mul_right _ hgt
            omega
      · rw [if_neg hk]
        by_cases hij : i = j
        · rw [if_pos hij, List.getElem?_eq_none (by omega)]
        · rw [if_neg hij, List.getElem?_take, if_neg hk]
    refine ⟨⟨g :: (fps.set j f').flatten, .inr ⟨g, cap, cur', fps.set j f', by rw [List.length_set], by rw [List.length_set]; exact h2, h3, hc1, by rw [hc2]; exact h5, rfl, by rw [List.length_set, List.length_set]; exact h7, fun i y hy => ?_⟩, ?_, ?_⟩, ⟨ho1, ho2, ho3, hsz, fun k _ hk => hoth k (by omega)⟩⟩
    · rw [hpart i]
      by_cases hij : i = j
      · subst hij
        have hyx : y = x := by
          rw [List.getElem?_set_self (by omega)] at hy
          simpa using hy.symm
        subst hyx
        refine ⟨f', List.getElem?_set_self (by rw [h7]; omega), ?_⟩
        rw [if_pos rfl]
        exact t.owKept hx (fun b hb => hoth b (fun e => hgf' (e ▸ hb))) hsz
      · rw [List.getElem?_set_ne (fun e => hij e.symm)] at hy
        obtain ⟨f, hf, ho⟩ := h8 i y hy
        refine ⟨f, by rw [List.getElem?_set_ne (fun e => hij e.symm)]; exact hf, ?_⟩
        rw [if_neg hij]
        exact t.owKept ho (fun b hb => hoth b (fun e' => hgf (by rw [← e']; exact List.mem_flatten.2 ⟨f, List.mem_of_getElem? hf, hb⟩))) hsz
    · rw [List.nodup_cons]
      refine ⟨fun hm => ?_, hsn⟩
      rcases hsm g hm with hm | hm
      · exact hgf' hm
      · exact hgf hm
    · intro b hb
      rcases List.mem_cons.1 hb with rfl | hb
      · omega
      · rcases hsm b hb with hb | hb
        · have := hr' b hb
          omega
        · have := hr b (by rw [h6]; exact List.mem_cons_of_mem _ hb)
          omega

/-- The row's own block. -/
theorem row_block {t : Ty} {E : TypeId} {w : World} {lo hi g n cap : Nat} {d : List t.D} (h : (rowTy t E).Own w lo hi [.slice (some ⟨g, 0, none⟩) n cap] d) : ∃ cur, w.heap[g]? = some (.cells cur E (0, 0)) ∧ cur.size = cap * t.n ∧ n ≤ cap ∧ lo ≤ g ∧ g < hi := by
  obtain ⟨fp, h, hn, hr⟩ := h
  rcases h with ⟨h1, _⟩ | ⟨b, cap', cur, fps, h1, h2, h3, h4, h5, h6, _⟩
  · simp at h1
  · simp only [List.cons.injEq, Value.slice.injEq, Option.some.injEq, Addr.mk.injEq, and_true] at h1
    obtain ⟨rfl, rfl, rfl⟩ := h1
    have := hr g (by rw [h6]; exact List.mem_cons_self)
    exact ⟨cur, h4, h5, h2, this.1, this.2⟩

/-- Two cells. -/
theorem row_store2 {t : Ty} {E : TypeId} {w : World} {lo hi lo' hi' g n cap j : Nat} {d : List t.D} {v0 v1 : Value} {x : t.D} (ht : t.n = 2) (h : (rowTy t E).Own w lo hi [.slice (some ⟨g, 0, none⟩) n cap] d)
    (hj : j < n) (hx : t.Own w lo' hi' [v0, v1] x) (hlo : hi ≤ lo') (hle : hi ≤ hi') :
    (∃ old, w.cell? ⟨g, j * 2, none⟩ = some old) ∧ (∃ old, w.cell? ⟨g, j * 2 + 1, none⟩ = some old) ∧ w.frozen? ⟨g, j * 2, none⟩ = false ∧ w.frozen? ⟨g, j * 2 + 1, none⟩ = false ∧
      (rowTy t E).Own ((w.setCell ⟨g, j * 2, none⟩ v0).setCell ⟨g, j * 2 + 1, none⟩ v1) lo hi' [.slice (some ⟨g, 0, none⟩) n cap] (d.set j x) ∧ But lo hi w ((w.setCell ⟨g, j * 2, none⟩ v0).setCell ⟨g, j * 2 + 1, none⟩ v1) := by
  obtain ⟨cur, hc, hcs, hnc, _, _⟩ := row_block h
  rw [ht] at hcs
  refine ⟨⟨cur[j * 2]'(by omega), ?_⟩, ⟨cur[j * 2 + 1]'(by omega), ?_⟩, frozen_of_row w g _ cur E hc, frozen_of_row w g _ cur E hc, ?_⟩
  · rw [cell_of_row w g _ cur E (0, 0) hc, Array.getElem?_eq_getElem]
  · rw [cell_of_row w g _ cur E (0, 0) hc, Array.getElem?_eq_getElem]
  · refine row_store h hj hx hlo hle rfl rfl rfl (by simp) (fun b hb => ?_) (fun cur2 hc2 _ => ?_)
    · rw [Below.heap_setCell _ _ _ _ hb, Below.heap_setCell _ _ _ _ hb]
    · rw [hc] at hc2
      simp at hc2
      subst hc2
      refine ⟨(cur.setIfInBounds (j * 2) v0).setIfInBounds (j * 2 + 1) v1, heap_setCell_same _ g _ _ E v1 (heap_setCell_same w g _ cur E v0 hc), by simp, fun k => ?_⟩
      rw [ht, Array.toList_setIfInBounds, Array.toList_setIfInBounds]
      by_cases h0 : k = j * 2
      · subst h0
        rw [if_pos (by omega), List.getElem?_set_ne (by omega), List.getElem?_set_self (by simp; omega), Nat.sub_self]
        rfl
      · by_cases h1 : k = j * 2 + 1
        · subst h1
          rw [if_pos (by omega), List.getElem?_set_self (by simp; omega), Nat.add_sub_cancel_left]
          rfl
        · rw [if_neg (by omega), List.getElem?_set_ne (by omega), List.getElem?_set_ne (by omega)]

theorem flatten_part {l : List (List Nat)} {j : Nat} {f : List Nat} (hn : l.flatten.Nodup) (hj : l[j]? = some f) : f.Nodup ∧ (∀ b ∈ f, b ∈ l.flatten) ∧ ∀ i g, l[i]? = some g → i ≠ j → ∀ b ∈ g, b ∉ f := by
  have hmem : f ∈ l := List.mem_of_getElem? hj
  refine ⟨?_, fun b hb => List.mem_flatten.2 ⟨f, hmem, hb⟩, ?_⟩
  · exact hn.sublist (List.sublist_flatten_of_mem hmem)
  · induction l generalizing j with
    | nil => simp at hj
    | cons x l ih =>
      rw [List.flatten_cons, List.nodup_append] at hn
      obtain ⟨_, h2, h3⟩ := hn
      intro i g hi hij b hb hbf
      match i, j, hi, hj, hij with
      | 0, 0, _, _, hij => exact hij rfl
      | 0, j + 1, hi, hj, _ =>
        simp at hi
        subst hi
        exact h3 b hb b (List.mem_flatten.2 ⟨f, List.mem_of_getElem? (by simpa using hj), hbf⟩) rfl
      | i + 1, 0, hi, hj, _ =>
        simp at hj
        subst hj
        exact h3 b hbf b (List.mem_flatten.2 ⟨g, List.mem_of_getElem? (by simpa using hi), hb⟩) rfl
      | i + 1, j + 1, hi, hj, hij =>
        exact ih (j := j) h2 (by simpa using hj) (List.mem_of_getElem? (by simpa using hj)) i g (by simpa using hi) (by omega) b hb hbf

/-- One element of a row of one's own, taken out, turned in place, and put back: its cells stay, its rows alone turn. -/
theorem row_turn {t : Ty} {E : TypeId} {w : World} {lo hi g n cap j : Nat} {d : List t.D} {x : t.D} (h : (rowTy t E).Own w lo hi [.slice (some ⟨g, 0, none⟩) n cap] d) (hx : d[j]? = some x) :
    ∃ cs f, t.ow w cs x f ∧ f.Nodup ∧ (∀ b ∈ f, lo ≤ b ∧ b < hi ∧ b ≠ g) ∧ (∀ k, k < t.n → w.cell? ⟨g, j * t.n + k, none⟩ = cs[k]?) ∧
      ∀ w' x', t.ow w' cs x' f → (∀ b, b < w.heap.size → b ∉ f → w'.heap[b]? = w.heap[b]?) → w.heap.size ≤ w'.heap.size → (rowTy t E).Own w' lo hi [.slice (some ⟨g, 0, none⟩) n cap] (d.set j x') := by
  obtain ⟨fp, h, hn, hr⟩ := h
  rcases h with ⟨h1, _⟩ | ⟨b, cap', cur, fps, h1, h2, h3, h4, h5, h6, h7, h8⟩
  · simp at h1
  · simp only [List.cons.injEq, Value.slice.injEq, Option.some.injEq, Addr.mk.injEq, and_true] at h1
    obtain ⟨rfl, rfl, rfl⟩ := h1
    obtain ⟨f, hf, ho⟩ := h8 j x hx
    rw [h6, List.nodup_cons] at hn
    obtain ⟨hg, hnf⟩ := hn
    obtain ⟨f1, f2, f3⟩ := flatten_part hnf hf
    refine ⟨_, f, ho, f1, fun b hb => ?_, fun k hk => ?_, fun w' x' ho' hoth hsz => ?_⟩
    · have := hr b (by rw [h6]; exact List.mem_cons_of_mem _ (f2 b hb))
      exact ⟨this.1, this.2, fun e => hg (e ▸ f2 b hb)⟩
    · rw [cell_of_row w g _ cur E (0, 0) h4, List.getElem?_take, if_pos hk, List.getElem?_drop]
      simp
    · have hgf : g ∉ f := fun hm => hg (f2 g hm)
      refine ⟨fp, .inr ⟨g, cap, cur, fps, by rw [List.length_set], by rw [List.length_set]; exact h2, h3, by rw [hoth g (Array.getElem?_eq_some_iff.1 h4).1 hgf]; exact h4, h5, h6, by rw [List.length_set]; exact h7, fun i y hy => ?_⟩, by rw [h6, List.nodup_cons]; exact ⟨hg, hnf⟩, hr⟩
      by_cases hij : i = j
      · subst hij
        have hil : i < d.length := (List.getElem?_eq_some_iff.1 hx).1
        have hyx : y = x' := by
          rw [List.getElem?_set_self hil] at hy
          simpa using hy.symm
        subst hyx
        exact ⟨f, hf, ho'⟩
      · rw [List.getElem?_set_ne (fun e => hij e.symm)] at hy
        obtain ⟨f', hf', ho2⟩ := h8 i y hy
        exact ⟨f', hf', t.owKept ho2 (fun b hb => hoth b (t.rdLt (t.owRd ho2) b hb) (f3 i f' hf' hij b hb)) hsz⟩

/-- A row of one's own: none, or one block from its head on. -/
theorem Ty.Own.rowShape {t : Ty} {E : TypeId} {w : World} {lo hi n cap : Nat} {a : Option Addr} {d : List t.D} (h : (rowTy t E).Own w lo hi [.slice a n cap] d) : n = 0 ∨ ∃ g, a = some ⟨g, 0, none⟩ := by
  obtain ⟨fp, h, _, _⟩ := h
  rcases h with ⟨h1, _⟩ | ⟨b, cap', cur, fps, h1, _⟩
  · simp at h1
    exact .inl h1.2.1
  · simp at h1
    exact .inr ⟨b, h1.1⟩

end Go.Proofs.YtbkkjfgjlapadaaGreat

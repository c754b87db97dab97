/-
  Plain lemmas on data of a call's own that is turned in place: one element of a row is opened, turned, and put back. No condition; nothing of the program is named here.
-/
import Derived.Test.YtbkkjfgjlapadaaGreatDeep
namespace Go.Proofs.YtbkkjfgjlapadaaGreat
open Go.RowKit

/-- Of what was there nothing has turned but these blocks. -/
structure Turned (fp : List Nat) (w w' : World) : Prop where
  os : w'.os = w.os
  tape : w'.tape = w.tape
  output : w'.output = w.output
  size : w.heap.size ≤ w'.heap.size
  block : ∀ k, k < w.heap.size → k ∉ fp → w'.heap[k]? = w.heap[k]?

theorem Turned.refl (fp : List Nat) (w : World) : Turned fp w w := ⟨rfl, rfl, rfl, Nat.le_refl _, fun _ _ _ => rfl⟩
theorem Turned.trans {fp : List Nat} {a b c : World} (h : Turned fp a b) (k : Turned fp b c) : Turned fp a c :=
  ⟨k.os.trans h.os, k.tape.trans h.tape, k.output.trans h.output, Nat.le_trans h.size k.size, fun i hi ho => (k.block i (Nat.lt_of_lt_of_le hi h.size) ho).trans (h.block i hi ho)⟩
theorem Turned.mono {fp fq : List Nat} {w w' : World} (h : Turned fp w w') (hs : ∀ b ∈ fp, b ∈ fq) : Turned fq w w' :=
  ⟨h.os, h.tape, h.output, h.size, fun k hk ho => h.block k hk (fun hm => ho (hs k hm))⟩
theorem Turned.but {fp : List Nat} {w w' : World} {lo hi : Nat} (h : Turned fp w w') (hs : ∀ b ∈ fp, lo ≤ b ∧ b < hi) : But lo hi w w' :=
  ⟨h.os, h.tape, h.output, h.size, fun k hk ho => h.block k hk (fun hm => by have := hs k hm; omega)⟩
theorem Turned.setCell {fp : List Nat} {w : World} {g j : Nat} (v : Value) (hg : g ∈ fp) : Turned fp w (w.setCell ⟨g, j, none⟩ v) :=
  ⟨rfl, rfl, rfl, by simp [World.setCell], fun k _ hk => Below.heap_setCell _ _ _ _ (by simp; exact fun e => hk (e ▸ hg))⟩
theorem Same.turned {w w' : World} (h : Same w w') (fp : List Nat) : Turned fp w w' := ⟨h.os, h.tape, h.output, by rw [h.heap]; exact Nat.le_refl _, fun _ _ _ => by rw [h.heap]⟩

/-- It is made of rows of its own, no two the same: these blocks. -/
def Ty.Mine (t : Ty) (w : World) (vs : List Value) (d : t.D) (fp : List Nat) : Prop := t.ow w vs d fp ∧ fp.Nodup
theorem Ty.Mine.rd {t : Ty} {w : World} {vs : List Value} {d : t.D} {fp : List Nat} (h : t.Mine w vs d fp) : t.Rd w vs d := ⟨fp, t.owRd h.1⟩
theorem Ty.Mine.lt {t : Ty} {w : World} {vs : List Value} {d : t.D} {fp : List Nat} (h : t.Mine w vs d fp) : ∀ b ∈ fp, b < w.heap.size := t.rdLt (t.owRd h.1)
theorem Ty.Mine.kept {t : Ty} {w w' : World} {vs : List Value} {d : t.D} {fp fq : List Nat} (h : t.Mine w vs d fp) (ht : Turned fq w w') (hd : ∀ b ∈ fp, b ∉ fq) : t.Mine w' vs d fp := ⟨t.owKept h.1 (fun b hb => ht.block b (h.lt b hb) (hd b hb)) ht.size, h.2⟩
theorem Ty.Own.mine {t : Ty} {w : World} {lo hi : Nat} {vs : List Value} {d : t.D} (h : t.Own w lo hi vs d) : ∃ fp, t.Mine w vs d fp ∧ ∀ b ∈ fp, lo ≤ b ∧ b < hi := by
  obtain ⟨fp, h1, h2, h3⟩ := h
  exact ⟨fp, ⟨h1, h2⟩, h3⟩
theorem Ty.Mine.own {t : Ty} {w : World} {lo hi : Nat} {vs : List Value} {d : t.D} {fp : List Nat} (h : t.Mine w vs d fp) (hr : ∀ b ∈ fp, lo ≤ b ∧ b < hi) : t.Own w lo hi vs d := ⟨fp, h.1, h.2, hr⟩
theorem pair_mine {t u : Ty} {w : World} {vs us : List Value} {x : t.D} {y : u.D} {fp : List Nat} (ht : vs.length = t.n) (h : (pairTy t u).Mine w (vs ++ us) (x, y) fp) : ∃ f1 f2, fp = f1 ++ f2 ∧ t.Mine w vs x f1 ∧ u.Mine w us y f2 ∧ ∀ b ∈ f1, b ∉ f2 := by
  obtain ⟨⟨f1, f2, hf, h1, h2, _⟩, hn⟩ := h
  rw [List.take_left' ht] at h1
  rw [List.drop_left' ht] at h2
  rw [hf, List.nodup_append] at hn
  exact ⟨f1, f2, hf, ⟨h1, hn.1⟩, ⟨h2, hn.2.1⟩, fun b hb hb' => hn.2.2 b hb b hb' rfl⟩
theorem pair_mine_of {t u : Ty} {w : World} {vs us : List Value} {x : t.D} {y : u.D} {f1 f2 : List Nat} (h1 : t.Mine w vs x f1) (h2 : u.Mine w us y f2) (hd : ∀ b ∈ f1, b ∉ f2) : (pairTy t u).Mine w (vs ++ us) (x, y) (f1 ++ f2) := by
  have l1 := t.rdLen (t.owRd h1.1)
  have l2 := u.rdLen (u.owRd h2.1)
  refine ⟨⟨f1, f2, rfl, by rw [List.take_left' l1]; exact h1.1, by rw [List.drop_left' l1]; exact h2.1, by rw [List.length_append, l1, l2]⟩, ?_⟩
  rw [List.nodup_append]
  exact ⟨h1.2, h2.2, fun a ha b hb e => hd a ha (e ▸ hb)⟩

/-- One element of a row of one's own, opened; turned it is put back, with its cells as they were or others. -/
theorem row_open {t : Ty} {E : TypeId} {w : World} {g n cap j : Nat} {d : List t.D} {x : t.D} {fp : List Nat} (hM : (rowTy t E).Mine w [.slice (some ⟨g, 0, none⟩) n cap] d fp) (hx : d[j]? = some x) :
    ∃ cs f, t.Mine w cs x f ∧ g ∉ f ∧ g ∈ fp ∧ (∀ b ∈ f, b ∈ fp) ∧ (∀ k, k < t.n → w.cell? ⟨g, j * t.n + k, none⟩ = cs[k]?) ∧ (∀ k, w.frozen? ⟨g, k, none⟩ = false) ∧
      (∀ w' x', t.Mine w' cs x' f → (∀ b ∈ fp, b ∉ f → w'.heap[b]? = w.heap[b]?) → w.heap.size ≤ w'.heap.size → (rowTy t E).Mine w' [.slice (some ⟨g, 0, none⟩) n cap] (d.set j x') fp) ∧
      (∀ w' cs' x', t.Mine w' cs' x' f → (∀ b ∈ fp, b ∉ f → b ≠ g → w'.heap[b]? = w.heap[b]?) → w.heap.size ≤ w'.heap.size →
        (∀ cur, w.heap[g]? = some (.cells cur E (0, 0)) → cur.size = cap * t.n → n ≤ cap → ∃ cur', w'.heap[g]? = some (.cells cur' E (0, 0)) ∧ cur'.size = cur.size ∧ ∀ k, cur'.toList[k]? = if j * t.n ≤ k ∧ k < (j + 1) * t.n then cs'[k - j * t.n]? else cur.toList[k]?) →
        (rowTy t E).Mine w' [.slice (some ⟨g, 0, none⟩) n cap] (d.set j x') fp) := by
  obtain ⟨h, hn⟩ := hM
  have hN := hn
  rcases h with ⟨h1, _⟩ | ⟨b, cap', cur, fps, h1, h2, h3, h4, h5, h6, h7, h8⟩
  · simp at h1
  · simp only [List.cons.injEq, Value.slice.injEq, Option.some.injEq, Addr.mk.injEq, and_true] at h1
    obtain ⟨rfl, rfl, rfl⟩ := h1
    obtain ⟨f, hf, ho⟩ := h8 j x hx
    rw [h6, List.nodup_cons] at hn
    obtain ⟨hg, hnf⟩ := hn
    obtain ⟨f1, f2, f3⟩ := flatten_part hnf hf
    have hgf : g ∉ f := fun hm => hg (f2 g hm)
    have hgp : g ∈ fp := by rw [h6]; exact List.mem_cons_self
    have hfp : ∀ b ∈ f, b ∈ fp := fun b hb => by rw [h6]; exact List.mem_cons_of_mem _ (f2 b hb)
    have hjl : j < d.length := (List.getElem?_eq_some_iff.1 hx).1
    have hyx : ∀ x' y, (d.set j x')[j]? = some y → y = x' := fun x' y hy => by
      rw [List.getElem?_set_self hjl] at hy
      simpa using hy.symm
    have hin : ∀ i f', fps[i]? = some f' → ∀ b ∈ f', b ∈ fp ∧ b ≠ g := fun i f' hf' b hb => by
      have hm : b ∈ fps.flatten := List.mem_flatten.2 ⟨f', List.mem_of_getElem? hf', hb⟩
      exact ⟨by rw [h6]; exact List.mem_cons_of_mem _ hm, fun e => hg (e ▸ hm)⟩
    refine ⟨_, f, ⟨ho, f1⟩, hgf, hgp, hfp, fun k hk => ?_, fun k => frozen_of_row w g _ cur E h4, fun w' x' ho' hoth hsz => ?_, fun w' cs' x' ho' hoth hsz hnew => ?_⟩
    · rw [cell_of_row w g _ cur E (0, 0) h4, List.getElem?_take, if_pos hk, List.getElem?_drop]
      simp
    · refine ⟨.inr ⟨g, cap, cur, fps, by rw [List.length_set], by rw [List.length_set]; exact h2, h3, by rw [hoth g hgp hgf]; exact h4, h5, h6, by rw [List.length_set]; exact h7, fun i y hy => ?_⟩, hN⟩
      by_cases hij : i = j
      · subst hij
        rw [hyx x' y hy]
        exact ⟨f, hf, ho'.1⟩
      · rw [List.getElem?_set_ne (fun e => hij e.symm)] at hy
        obtain ⟨f', hf', ho2⟩ := h8 i y hy
        exact ⟨f', hf', t.owKept ho2 (fun b hb => hoth b (hin i f' hf' b hb).1 (f3 i f' hf' hij b hb)) hsz⟩
    · obtain ⟨cur', hc1, hc2, hc3⟩ := hnew cur h4 h5 h2
      have hvl := t.rdLen (t.owRd ho'.1)
      have hpart : ∀ i, ((cur'.toList.drop (i * t.n)).take t.n) = if i = j then cs' else (cur.toList.drop (i * t.n)).take t.n := by
        intro i
        apply List.ext_getElem?
        intro k
        rw [List.getElem?_take, List.getElem?_drop, hc3]
        by_cases hk : k < t.n
        · rw [if_pos hk]
          by_cases hij : i = j
          · subst hij
            rw [if_pos rfl, if_pos (by rw [Nat.add_mul]; omega), Nat.add_sub_cancel_left]
          · rw [if_neg hij, List.getElem?_take, if_pos hk, List.getElem?_drop, if_neg]
            intro hh
            rcases Nat.lt_or_gt_of_ne hij with hlt | hgt
            · have : (i + 1) * t.n ≤ j * t.n := Nat.mul_le_mul_right _ hlt
              rw [Nat.add_mul] at this
              omega
            · have : (j + 1) * t.n ≤ i * t.n := Nat.mul_le_mul_right _ hgt
              omega
        · rw [if_neg hk]
          by_cases hij : i = j
          · rw [if_pos hij, List.getElem?_eq_none (by omega)]
          · rw [if_neg hij, List.getElem?_take, if_neg hk]
      refine ⟨.inr ⟨g, cap, cur', fps, by rw [List.length_set], by rw [List.length_set]; exact h2, h3, hc1, by rw [hc2]; exact h5, h6, by rw [List.length_set]; exact h7, fun i y hy => ?_⟩, hN⟩
      rw [hpart i]
      by_cases hij : i = j
      · subst hij
        rw [if_pos rfl, hyx x' y hy]
        exact ⟨f, hf, ho'.1⟩
      · rw [if_neg hij]
        rw [List.getElem?_set_ne (fun e => hij e.symm)] at hy
        obtain ⟨f', hf', ho2⟩ := h8 i y hy
        exact ⟨f', hf', t.owKept ho2 (fun b hb => hoth b (hin i f' hf' b hb).1 (f3 i f' hf' hij b hb) (hin i f' hf' b hb).2) hsz⟩

theorem row_ow_shape {t : Ty} {E : TypeId} {w : World} {n cap : Nat} {a : Option Addr} {d : List t.D} {fp : List Nat} (h : (rowTy t E).Mine w [.slice a n cap] d fp) : n = 0 ∨ ∃ g, a = some ⟨g, 0, none⟩ := by
  rcases h.1 with ⟨h1, _⟩ | ⟨b, cap', cur, fps, h1, _⟩
  · simp at h1
    exact .inl h1.2.1
  · simp at h1
    exact .inr ⟨b, h1.1⟩

/-- The marks of a list's elements, one behind the other: c says how many each takes. -/
def markL {α : Type} (c : α → Nat) (mk : Int → α → α) : Int → List α → List α
  | _, [] => []
  | k, x :: l => mk k x :: markL c mk (k + (c x : Int)) l
theorem markL_length {α : Type} (c : α → Nat) (mk : Int → α → α) (k : Int) (l : List α) : (markL c mk k l).length = l.length := by
  induction l generalizing k with
  | nil => rfl
  | cons x l ih => simp [markL, ih]
theorem markL_at {α : Type} {c : α → Nat} {mk : Int → α → α} {k : Int} {l : List α} {j : Nat} {x : α} (h : l[j]? = some x) : (markL c mk k l)[j]? = some (mk (k + (sumL ((l.map c).take j) : Int)) x) := by
  induction l generalizing k j with
  | nil => simp at h
  | cons y l ih =>
    match j, h with
    | 0, h =>
      simp at h
      subst h
      simp [markL, sumL]
    | j + 1, h =>
      have := ih (k := k + (c y : Int)) (j := j) (by simpa using h)
      simp only [markL, List.getElem?_cons_succ, this, List.map_cons, List.take_succ_cons, sumL, List.foldr_cons]
      congr 2
      rw [Int.natCast_add]
      omega
theorem turn_step {α : Type} {m d : List α} {j : Nat} {y : α} (hl : m.length = d.length) (h : m[j]? = some y) : (m.take j ++ d.drop j).set j y = m.take (j + 1) ++ d.drop (j + 1) := by
  have hj : j < m.length := (List.getElem?_eq_some_iff.1 h).1
  have hlt : (m.take j).length = j := by simp; omega
  rw [List.set_append, if_neg (by omega), hlt, Nat.sub_self, List.drop_eq_getElem_cons (by omega), List.set_cons_zero, List.take_succ_eq_append_getElem hj, List.append_assoc]
  rw [List.getElem?_eq_getElem hj] at h
  simp at h
  rw [h]
  rfl
theorem turn_at {α : Type} {m d : List α} {j : Nat} {x : α} (hl : m.length = d.length) (h : d[j]? = some x) : (m.take j ++ d.drop j)[j]? = some x := by
  have hj : j < d.length := (List.getElem?_eq_some_iff.1 h).1
  rw [List.getElem?_append_right (by simp; omega), List.getElem?_drop]
  rw [show j + (j - (m.take j).length) = j by simp; omega]
  exact h

end Go.Proofs.YtbkkjfgjlapadaaGreat

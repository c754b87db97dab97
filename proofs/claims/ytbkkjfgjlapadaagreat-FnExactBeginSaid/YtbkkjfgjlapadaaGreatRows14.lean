/-
  Plain lemmas on rows of structs that are numbers and, behind them, a slice of numbers (commands, answers): their cells, how one is stored and marked. No condition; nothing of the program is named here.
-/
import Derived.Test.YtbkkjfgjlapadaaGreatBox
import Derived.Test.YtbkkjfgjlapadaaGreatData
import Derived.Laws.IdiomCopy
namespace Go.Proofs.YtbkkjfgjlapadaaGreat
open Go.RowKit

abbrev tAns : Ty := pairTy intTy (pairTy intTy tIntS)
abbrev tCmd : Ty := pairTy intTy (pairTy intTy (pairTy intTy (pairTy intTy tIntS)))
abbrev AnsD := Int × Int × List Int
abbrev CmdD := Int × Int × Int × Int × List Int
abbrev tAnsS (E : TypeId) : Ty := rowTy tAns E
abbrev tCmdS (E : TypeId) : Ty := rowTy tCmd E

theorem int_rd {u : Ty} {w : World} {v : Value} {vs : List Value} {x : Int} {y : u.D} (h : (pairTy intTy u).Rd w (v :: vs) (x, y)) : v = .int .i64 x ∧ u.Rd w vs y := by
  obtain ⟨⟨_, h1, _⟩, h2⟩ := pair_rd (t := intTy) (u := u) (vs := [v]) (us := vs) rfl h
  exact ⟨by simpa using h1, h2⟩
theorem int_rd_of {u : Ty} {w : World} {vs : List Value} {x : Int} {y : u.D} (h : u.Rd w vs y) : (pairTy intTy u).Rd w (.int .i64 x :: vs) (x, y) := pair_rd_of (t := intTy) (vs := [.int .i64 x]) (x := x) ⟨[], rfl, rfl⟩ h
theorem int_mine {u : Ty} {w : World} {v : Value} {vs : List Value} {x : Int} {y : u.D} {fp : List Nat} (h : (pairTy intTy u).Mine w (v :: vs) (x, y) fp) : v = .int .i64 x ∧ u.Mine w vs y fp := by
  obtain ⟨fa, fb, hfe, ⟨⟨hv0, hfa⟩, _⟩, hmv, _⟩ := pair_mine (t := intTy) (u := u) (vs := [v]) (us := vs) rfl h
  subst hfa
  subst hfe
  exact ⟨by simpa using hv0, hmv⟩
theorem int_mine_of {u : Ty} {w : World} {vs : List Value} {x : Int} {y : u.D} {fp : List Nat} (h : u.Mine w vs y fp) : (pairTy intTy u).Mine w (.int .i64 x :: vs) (x, y) fp := by
  have := pair_mine_of (t := intTy) (u := u) (vs := [.int .i64 x]) (us := vs) (x := x) (f1 := []) ⟨⟨rfl, rfl⟩, by simp⟩ h (by simp)
  simpa using this
theorem int_own_of {u : Ty} {w : World} {lo hi : Nat} {vs : List Value} {x : Int} {y : u.D} (h : u.Own w lo hi vs y) : (pairTy intTy u).Own w lo hi (.int .i64 x :: vs) (x, y) := by
  obtain ⟨fp, m, r⟩ := h.mine
  exact (int_mine_of m).own r
/-- A row's element, by its cells. -/
theorem rowN_at {t : Ty} {E : TypeId} {w : World} {a : Option Addr} {n cap : Nat} {d : List t.D} (h : (rowTy t E).Rd w [.slice a n cap] d) :
    n = 0 ∨ ∃ b off, a = some ⟨b, off, none⟩ ∧ b < w.heap.size ∧ ∀ (i : Nat) (x : t.D), d[i]? = some x → ∃ cs, cs.length = t.n ∧ t.Rd w cs x ∧ ∀ j, j < t.n → w.cell? ⟨b, off + (i * t.n + j), none⟩ = cs[j]? := by
  obtain ⟨fp, a', cap', hv, h2, h3, h4⟩ := h
  simp only [List.cons.injEq, Value.slice.injEq, and_true] at hv
  obtain ⟨rfl, rfl, rfl⟩ := hv
  rcases h4 with ⟨h5, _⟩ | ⟨b, off, fps, h5, h6, _, _, h9⟩
  · exact .inl h5
  · refine .inr ⟨b, off, h5, h6, fun i x hx => ?_⟩
    obtain ⟨f, cs, _, hrd, hc⟩ := h9 i x hx
    exact ⟨cs, t.rdLen hrd, ⟨f, hrd⟩, hc⟩

theorem setCells_row {g : Nat} {E : TypeId} : ∀ (vs : List Value) (o : Nat) (w : World) (cur : Array Value), w.heap[g]? = some (.cells cur E (0, 0)) → o + vs.length ≤ cur.size →
    ∃ cur', (w.setCells g o vs).heap[g]? = some (.cells cur' E (0, 0)) ∧ cur'.size = cur.size ∧ ∀ k, cur'.toList[k]? = if o ≤ k ∧ k < o + vs.length then vs[k - o]? else cur.toList[k]?
  | [], o, w, cur, h, _ => ⟨cur, h, rfl, fun k => by rw [if_neg (by rw [List.length_nil]; omega)]⟩
  | v :: vs, o, w, cur, h, hl => by
    have hl' : o + (vs.length + 1) ≤ cur.size := hl
    obtain ⟨cur', h1, h2, h3⟩ := setCells_row vs (o + 1) (w.setCell ⟨g, o, none⟩ v) (cur.setIfInBounds o v) (heap_setCell_same w g o cur E v h) (by simp; omega)
    refine ⟨cur', h1, by rw [h2]; simp, fun k => ?_⟩
    rw [h3, Array.toList_setIfInBounds]
    by_cases hk : k = o
    · subst hk
      rw [if_neg (by omega), if_pos (by simp), List.getElem?_set_self (by simp; omega), Nat.sub_self]
      rfl
    · rw [List.getElem?_set_ne (by omega)]
      by_cases hk2 : o + 1 ≤ k ∧ k < o + 1 + vs.length
      · rw [if_pos hk2, if_pos (by simp; omega), show k - o = (k - (o + 1)) + 1 by omega]
        rfl
      · rw [if_neg hk2, if_neg (by simp; omega)]
theorem setCells_turned {g : Nat} : ∀ (vs : List Value) (o : Nat) (w : World), Turned [g] w (w.setCells g o vs)
  | [], _, w => Turned.refl _ w
  | v :: vs, o, w => (Turned.setCell v (by simp)).trans (setCells_turned vs (o + 1) _)
theorem setCells_size {g : Nat} : ∀ (vs : List Value) (o : Nat) (w : World), (w.setCells g o vs).heap.size = w.heap.size
  | [], _, _ => rfl
  | v :: vs, o, w => (setCells_size vs (o + 1) (w.setCell ⟨g, o, none⟩ v)).trans (World.size_setCell _ _ _)

/-- A struct is stored into a row of one's own. -/
theorem row_storeN {t : Ty} {E : TypeId} {w : World} {lo hi lo' hi' g n cap j : Nat} {d : List t.D} {vs : List Value} {x : t.D} (h : (rowTy t E).Own w lo hi [.slice (some ⟨g, 0, none⟩) n cap] d)
    (hj : j < n) (hx : t.Own w lo' hi' vs x) (hlo : hi ≤ lo') (hle : hi ≤ hi') :
    (∀ q, q < t.n → ∃ old, w.cell? ⟨g, j * t.n + q, none⟩ = some old) ∧ (∀ q, w.frozen? ⟨g, q, none⟩ = false) ∧
      (rowTy t E).Own (w.setCells g (j * t.n) vs) lo hi' [.slice (some ⟨g, 0, none⟩) n cap] (d.set j x) ∧ But lo hi w (w.setCells g (j * t.n) vs) := by
  obtain ⟨cur, hc, hcs, hnc, _, _⟩ := row_block h
  obtain ⟨fx, hx1, _⟩ := hx.mine
  have hvl := t.rdLen (t.owRd hx1.1)
  have hfit : j * t.n + t.n ≤ cur.size := by
    have : (j + 1) * t.n ≤ cap * t.n := Nat.mul_le_mul_right _ (by omega)
    rw [Nat.add_mul] at this
    omega
  have hT := setCells_turned (g := g) vs (j * t.n) w
  refine ⟨fun q hq => ⟨cur[j * t.n + q]'(by omega), ?_⟩, fun q => frozen_of_row w g _ cur E hc, ?_⟩
  · rw [cell_of_row w g _ cur E (0, 0) hc, Array.getElem?_eq_getElem]
  · refine row_store h hj hx hlo hle hT.os hT.tape hT.output hT.size (fun b hb => ?_) (fun cur2 hc2 _ => ?_)
    · by_cases hbl : b < w.heap.size
      · exact hT.block b hbl (by simpa using hb)
      · rw [Array.getElem?_eq_none (by rw [setCells_size]; omega), Array.getElem?_eq_none (by omega)]
    · rw [hc] at hc2
      simp at hc2
      subst hc2
      obtain ⟨cur', k1, k2, k3⟩ := setCells_row (E := E) vs (j * t.n) w cur hc (by omega)
      refine ⟨cur', k1, k2, fun k => ?_⟩
      rw [k3 k, hvl, show j * t.n + t.n = (j + 1) * t.n by rw [Nat.add_mul]; omega]

end Go.Proofs.YtbkkjfgjlapadaaGreat

/-
  Plain lemmas on rows of structs whose fields are numbers and slices of numbers in any order: their parts; what has been set in a row, store by store. No condition; nothing of the program is named here.
-/
import Derived.Test.YtbkkjfgjlapadaaGreatRows14
import Derived.Test.YtbkkjfgjlapadaaGreatFrame
namespace Go.Proofs.YtbkkjfgjlapadaaGreat
open Go.RowKit

theorem ints_rd_p {u : Ty} {w : World} {v : Value} {vs : List Value} {zs : List Int} {y : u.D} (h : (pairTy tIntS u).Rd w (v :: vs) (zs, y)) : ∃ a c, v = .slice a zs.length c ∧ tIntS.Rd w [.slice a zs.length c] zs ∧ u.Rd w vs y := by
  obtain ⟨h1, h2⟩ := pair_rd (t := tIntS) (u := u) (vs := [v]) (us := vs) rfl h
  obtain ⟨a, c, rfl⟩ := row_shape h1
  exact ⟨a, c, rfl, h1, h2⟩
theorem int_rd1 {w : World} {v : Value} {x : Int} (h : intTy.Rd w [v] x) : v = .int .i64 x := by
  obtain ⟨_, h1, _⟩ := h
  simpa using h1
theorem ints_mine_p {u : Ty} {w : World} {v : Value} {vs : List Value} {zs : List Int} {y : u.D} {fp : List Nat} (h : (pairTy tIntS u).Mine w (v :: vs) (zs, y) fp) : ∃ a c f1 f2, v = .slice a zs.length c ∧ fp = f1 ++ f2 ∧ tIntS.Mine w [.slice a zs.length c] zs f1 ∧ u.Mine w vs y f2 ∧ ∀ b ∈ f1, b ∉ f2 := by
  obtain ⟨f1, f2, hf, h1, h2, hd⟩ := pair_mine (t := tIntS) (u := u) (vs := [v]) (us := vs) rfl h
  obtain ⟨a, c, rfl⟩ := row_shape h1.rd
  exact ⟨a, c, f1, f2, rfl, hf, h1, h2, hd⟩
theorem int_mine1 {w : World} {v : Value} {x : Int} {fp : List Nat} (h : intTy.Mine w [v] x fp) : v = .int .i64 x ∧ fp = [] := by
  obtain ⟨⟨h1, h2⟩, _⟩ := h
  exact ⟨by simpa using h1, h2⟩
theorem int_mine1_of {w : World} {x : Int} : intTy.Mine w [.int .i64 x] x [] := ⟨⟨rfl, rfl⟩, by simp⟩
theorem ints_mine_of {u : Ty} {w : World} {v : Value} {vs : List Value} {zs : List Int} {y : u.D} {f1 f2 : List Nat} (h1 : tIntS.Mine w [v] zs f1) (h2 : u.Mine w vs y f2) (hd : ∀ b ∈ f1, b ∉ f2) : (pairTy tIntS u).Mine w (v :: vs) (zs, y) (f1 ++ f2) := pair_mine_of (vs := [v]) h1 h2 hd
theorem ints_rd_of2 {u : Ty} {w : World} {v : Value} {vs : List Value} {zs : List Int} {y : u.D} (h1 : tIntS.Rd w [v] zs) (h2 : u.Rd w vs y) : (pairTy tIntS u).Rd w (v :: vs) (zs, y) := pair_rd_of (vs := [v]) h1 h2
/-- Parts in memory of their own, whatever lies first. -/
theorem pair_own2 {t u : Ty} {w : World} {lo hi l1 u1 l2 u2 : Nat} {vs us : List Value} {x : t.D} {y : u.D} (h1 : t.Own w l1 u1 vs x) (h2 : u.Own w l2 u2 us y) (d : u1 ≤ l2 ∨ u2 ≤ l1) (r1 : lo ≤ l1 ∧ u1 ≤ hi) (r2 : lo ≤ l2 ∧ u2 ≤ hi) : (pairTy t u).Own w lo hi (vs ++ us) (x, y) := by
  obtain ⟨f1, m1, k1⟩ := h1.mine
  obtain ⟨f2, m2, k2⟩ := h2.mine
  refine (pair_mine_of m1 m2 (fun b hb hb' => by have := k1 b hb; have := k2 b hb'; omega)).own (fun b hb => ?_)
  rcases List.mem_append.1 hb with h | h
  · have := k1 b h; omega
  · have := k2 b h; omega
theorem int_own1 {w : World} {lo hi : Nat} {x : Int} : intTy.Own w lo hi [.int .i64 x] x := ⟨[], ⟨rfl, rfl⟩, by simp, by simp⟩

/-- What has been set in the row at g, from its place o on, since w (the last store first); but for that these blocks alone have turned. -/
structure Ed (w w' : World) (g o : Nat) (l : List (Nat × Value)) (fq : List Nat) : Prop where
  cells : ∀ cur T, w.heap[g]? = some (.cells cur T (0, 0)) → w'.heap[g]? = some (.cells (l.foldr (fun p c => c.setIfInBounds (o + p.1) p.2) cur) T (0, 0))
  turned : Turned (g :: fq) w w'
theorem Ed.refl (w : World) (g o : Nat) : Ed w w g o [] [] := ⟨fun _ _ h => h, Turned.refl _ _⟩
theorem Ed.set {w w' : World} {g o : Nat} {l : List (Nat × Value)} {fq : List Nat} (h : Ed w w' g o l fq) (q : Nat) (v : Value) : Ed w (w'.setCell ⟨g, o + q, none⟩ v) g o ((q, v) :: l) fq :=
  ⟨fun cur T hc => heap_setCell_same _ g _ _ T v (h.cells cur T hc), h.turned.trans (Turned.setCell v List.mem_cons_self)⟩
theorem Ed.then {w w' w'' : World} {g o : Nat} {l : List (Nat × Value)} {fa fq : List Nat} (h : Ed w w' g o l fq) (t : Turned fa w' w'') (hg : g ∉ fa) : Ed w w'' g o l (fa ++ fq) :=
  ⟨fun cur T hc => by
    have h1 := h.cells cur T hc
    rw [t.block g (Array.getElem?_eq_some_iff.1 h1).1 hg]
    exact h1, (h.turned.mono (fun b hb => by rcases List.mem_cons.1 hb with e | hb; exact e ▸ List.mem_cons_self; exact List.mem_cons_of_mem _ (List.mem_append_right _ hb))).trans (t.mono (fun b hb => List.mem_cons_of_mem _ (List.mem_append_left _ hb)))⟩

theorem fold_other {o q : Nat} : ∀ (l : List (Nat × Value)) (cur : Array Value), (∀ p ∈ l, p.1 ≠ q) → (l.foldr (fun p c => c.setIfInBounds (o + p.1) p.2) cur)[o + q]? = cur[o + q]?
  | [], _, _ => rfl
  | p :: l, cur, h => by
    simp only [List.foldr_cons]
    rw [Array.getElem?_setIfInBounds_ne (by have := h p List.mem_cons_self; omega)]
    exact fold_other l cur (fun x hx => h x (List.mem_cons_of_mem _ hx))
theorem Ed.cellAt {w w' : World} {g o : Nat} {l : List (Nat × Value)} {fq : List Nat} {cur : Array Value} {T : TypeId} (h : Ed w w' g o l fq) (q : Nat) (hc : w.heap[g]? = some (.cells cur T (0, 0))) (hq : ∀ p ∈ l, p.1 ≠ q) : w'.cell? ⟨g, o + q, none⟩ = w.cell? ⟨g, o + q, none⟩ := by
  rw [cell_of_row w' g _ _ T (0, 0) (h.cells cur T hc), cell_of_row w g _ cur T (0, 0) hc, fold_other l cur hq]
theorem Ed.free {w w' : World} {g o : Nat} {l : List (Nat × Value)} {fq : List Nat} {cur : Array Value} {T : TypeId} (h : Ed w w' g o l fq) (hc : w.heap[g]? = some (.cells cur T (0, 0))) (k : Nat) : w'.frozen? ⟨g, k, none⟩ = false := frozen_of_row w' g k _ T (h.cells cur T hc)
theorem mine_block {t : Ty} {E : TypeId} {w : World} {g n cap : Nat} {d : List t.D} {fp : List Nat} (h : (rowTy t E).Mine w [.slice (some ⟨g, 0, none⟩) n cap] d fp) : ∃ cur, w.heap[g]? = some (.cells cur E (0, 0)) := by
  rcases h.1 with ⟨h1, _⟩ | ⟨b, cap', cur, fps, h1, h2, h3, h4, _⟩
  · simp at h1
  · simp only [List.cons.injEq, Value.slice.injEq, Option.some.injEq, Addr.mk.injEq, and_true] at h1
    obtain ⟨rfl, rfl, rfl⟩ := h1
    exact ⟨cur, h4⟩

theorem edit_cells {o n : Nat} {cs : List Value} : ∀ (l : List (Nat × Value)) (cur : Array Value), o + n ≤ cur.size → (∀ q, q < n → cur.toList[o + q]? = cs[q]?) → cs.length = n → (∀ p ∈ l, p.1 < n) →
    (l.foldr (fun p c => c.setIfInBounds (o + p.1) p.2) cur).size = cur.size ∧ (l.foldr (fun p c => c.set p.1 p.2) cs).length = n ∧ (∀ q, q < n → (l.foldr (fun p c => c.setIfInBounds (o + p.1) p.2) cur).toList[o + q]? = (l.foldr (fun p c => c.set p.1 p.2) cs)[q]?) ∧ ∀ k, (k < o ∨ o + n ≤ k) → (l.foldr (fun p c => c.setIfInBounds (o + p.1) p.2) cur).toList[k]? = cur.toList[k]?
  | [], _, _, hq, hl, _ => ⟨rfl, hl, hq, fun _ _ => rfl⟩
  | p :: l, cur, hs, hq, hl, hp => by
    obtain ⟨h1, h0, h2, h3⟩ := edit_cells l cur hs hq hl (fun x hx => hp x (List.mem_cons_of_mem _ hx))
    have hpn := hp p List.mem_cons_self
    simp only [List.foldr_cons]
    refine ⟨by simp [h1], by simp [h0], fun q hqn => ?_, fun k hk => ?_⟩
    · rw [Array.toList_setIfInBounds]
      by_cases e : q = p.1
      · subst e
        rw [List.getElem?_set_self (by simp [h1]; omega), List.getElem?_set_self (by omega)]
      · rw [List.getElem?_set_ne (by omega), List.getElem?_set_ne (by omega), h2 q hqn]
    · rw [Array.toList_setIfInBounds, List.getElem?_set_ne (by omega), h3 k hk]

/-- The row behind the stores, as an opened element is put back. -/
theorem ed_back {n g cap j m : Nat} {cs cs' : List Value} {w w' : World} {l : List (Nat × Value)} {fq : List Nat} {E : TypeId} (h : Ed w w' g (j * n) l fq) (hcc : ∀ k, k < n → w.cell? ⟨g, j * n + k, none⟩ = cs[k]?) (hj : j < m) (he : l.foldr (fun p c => c.set p.1 p.2) cs = cs') (hl : (∀ p ∈ l, p.1 < n) := by simp) (hcl : cs.length = n := by rfl) :
    ∀ cur, w.heap[g]? = some (.cells cur E (0, 0)) → cur.size = cap * n → m ≤ cap → ∃ cur', w'.heap[g]? = some (.cells cur' E (0, 0)) ∧ cur'.size = cur.size ∧ ∀ k, cur'.toList[k]? = if j * n ≤ k ∧ k < (j + 1) * n then cs'[k - j * n]? else cur.toList[k]? := fun cur hc hs hm => by
  have hle : (j + 1) * n ≤ cap * n := Nat.mul_le_mul_right _ (by omega)
  rw [Nat.add_mul, Nat.one_mul] at hle
  obtain ⟨h1, _, h2, h3⟩ := edit_cells (cs := cs) l cur (o := j * n) (n := n) (by omega) (fun q hq => by rw [← hcc q hq, cell_of_row w g _ cur E (0, 0) hc, Array.getElem?_toList]) hcl hl
  refine ⟨_, h.cells cur E hc, h1, fun k => ?_⟩
  by_cases hk : j * n ≤ k ∧ k < (j + 1) * n
  · rw [if_pos hk, ← he]
    have := h2 (k - j * n) (by rw [Nat.add_mul, Nat.one_mul] at hk; omega)
    rwa [show j * n + (k - j * n) = k by omega] at this
  · rw [if_neg hk]
    exact h3 k (by rw [Nat.add_mul, Nat.one_mul] at hk; omega)

end Go.Proofs.YtbkkjfgjlapadaaGreat

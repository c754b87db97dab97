/-
  Plain lemmas on worlds of which nothing old but one block has turned, on the rounds of a loop that copies and appends, and on 'append' of numbers to an empty literal. No condition; nothing of the program is named here.
-/
import Derived.Test.YtbkkjfgjlapadaaGreatData
import Derived.Test.YtbkkjfgjlapadaaGreatBox
namespace Go.Proofs.YtbkkjfgjlapadaaGreat
open Go.RowKit

/-- Of the blocks below N nothing has turned but the block B. -/
structure Fr (N B : Nat) (w w' : World) : Prop where
  os : w'.os = w.os
  tape : w'.tape = w.tape
  output : w'.output = w.output
  size : w.heap.size ≤ w'.heap.size
  block : ∀ k, k < N → k ≠ B → w'.heap[k]? = w.heap[k]?
theorem Fr.refl (N B : Nat) (w : World) : Fr N B w w := ⟨rfl, rfl, rfl, Nat.le_refl _, fun _ _ _ => rfl⟩
theorem Fr.trans {N B : Nat} {a b c : World} (h : Fr N B a b) (k : Fr N B b c) : Fr N B a c :=
  ⟨k.os.trans h.os, k.tape.trans h.tape, k.output.trans h.output, Nat.le_trans h.size k.size, fun i hi ho => (k.block i hi ho).trans (h.block i hi ho)⟩
theorem Fr.box {N B C : Nat} {w w' : World} {T : TypeId} {cs : Array Value} (h : Fr N B w w') (x : Box w C T cs) (hC : C < N) (hne : C ≠ B) : Box w' C T cs := x.kept (h.block C hC hne)
theorem Fr.below {N B M : Nat} {w w' : World} (h : Fr N B w w') (h1 : M ≤ N) (h2 : M ≤ B) : Below M w w' := ⟨h.os, h.tape, h.output, h.size, fun k hk => h.block k (by omega) (by omega)⟩
theorem Fr.own {t : Ty} {N B lo hi : Nat} {w w' : World} {vs : List Value} {d : t.D} (h : Fr N B w w') (o : t.Own w lo hi vs d) (h1 : hi ≤ N) (h2 : hi ≤ B ∨ B < lo) : t.Own w' lo hi vs d := by
  obtain ⟨fp, k1, k2, k3⟩ := o
  exact ⟨fp, t.owKept k1 (fun b hb => h.block b (by have := k3 b hb; omega) (by have := k3 b hb; omega)) h.size, k2, k3⟩
theorem Fr.ofBelow {N B : Nat} {w w' : World} (h : Below w.heap.size w w') (hN : N ≤ w.heap.size) : Fr N B w w' := ⟨h.os, h.tape, h.output, h.size, fun k hk _ => h.block k (by omega)⟩
theorem Fr.ofTurned {N B : Nat} {w w' : World} {fp : List Nat} (h : Turned fp w w') (hN : N ≤ w.heap.size) (hf : ∀ b ∈ fp, N ≤ b) : Fr N B w w' :=
  ⟨h.os, h.tape, h.output, h.size, fun k hk _ => h.block k (by omega) (fun hm => by have := hf k hm; omega)⟩
theorem Fr.ofSet {N B : Nat} (w : World) (j : Nat) (v : Value) : Fr N B w (w.setCell ⟨B, j, none⟩ v) := ⟨rfl, rfl, rfl, by simp [World.setCell], fun k _ hk => Below.heap_setCell _ _ _ _ (by simpa using hk)⟩
theorem Fr.mine {t : Ty} {N B : Nat} {w w' : World} {vs : List Value} {d : t.D} {fp : List Nat} (h : Fr N B w w') (o : t.Mine w vs d fp) (h1 : ∀ b ∈ fp, b < N ∧ b ≠ B) : t.Mine w' vs d fp := ⟨t.owKept o.1 (fun b hb => h.block b (h1 b hb).1 (h1 b hb).2) h.size, o.2⟩
theorem Ty.Mine.but {t : Ty} {w w' : World} {lo hi : Nat} {vs : List Value} {d : t.D} {fp : List Nat} (h : t.Mine w vs d fp) (hb : But lo hi w w') (hd : ∀ b ∈ fp, b < lo ∨ hi ≤ b) : t.Mine w' vs d fp := ⟨t.owKept h.1 (fun b hm => hb.block b (h.lt b hm) (by have := hd b hm; omega)) hb.size, h.2⟩
/-- A round that copies one element, appends it and puts the slice back into its field. -/
theorem Fr.round {N B : Nat} {w wr wc wA : World} {fp : List Nat} (h : Fr N B w wr) (hN : N ≤ wr.heap.size) (hc : Below wr.heap.size wr wc) (o : Obj) (ht : Turned fp (wc.alloc o) wA) (hf : ∀ b ∈ fp, N ≤ b) (j : Nat) (v : Value) : Fr N B w (wA.setCell ⟨B, j, none⟩ v) := by
  have h1 := hc.size
  have h2 : (wc.alloc o).heap.size = wc.heap.size + 1 := by simp
  exact ((h.trans (Fr.ofBelow (Below.andThen hc ((Below.refl _ _).alloc (Nat.le_refl _) o)) hN)).trans (Fr.ofTurned ht (by omega) hf)).trans (Fr.ofSet _ _ _)
/-- .. and the blocks of the longer row. -/
theorem round_fp {N : Nat} {wr wc wA : World} {fp fpx fpA : List Nat} {o : Obj} (hN : N ≤ wr.heap.size) (hc : Below wr.heap.size wr wc) (hf : ∀ b ∈ fp, N ≤ b) (hx : ∀ b ∈ fpx, wr.heap.size ≤ b ∧ b < wc.heap.size) (h2 : ∀ b ∈ fpA, b ∈ fp ∨ b ∈ fpx ∨ (b = (wc.alloc o).heap.size ∧ b < wA.heap.size)) : ∀ b ∈ fpA, N ≤ b := by
  have h1 := hc.size
  intro b hb
  rcases h2 b hb with h | h | h
  · exact hf b h
  · have := hx b h
    omega
  · have := h.1
    simp at this
    omega

theorem wr_mine {w : World} {v : Value} {zs : List Int} {fp : List Nat} (x : Int) (h : tIntS.Mine w [v] zs fp) : tWr.Mine w [.int .i64 x, v] (x, zs) fp := by
  have h1 : intTy.Mine w [.int .i64 x] x [] := ⟨⟨rfl, rfl⟩, by simp⟩
  exact pair_mine_of (t := intTy) (u := tIntS) (vs := [_]) (us := [_]) h1 h (by simp)

theorem Turned.undrew {fp : List Nat} {w w' : World} (h : Turned fp w.drew w') : Turned fp w w' := ⟨h.os, h.tape, h.output, h.size, h.block⟩

/-- A disk by its parts, which lie in whatever order. -/
theorem mem_own3 {w : World} {E : TypeId} {lo hi l0 u0 l1 u1 l3 u3 : Nat} {v0 v1 v3 : Value} {f : Bool} {ss : List (List Int)} {cs : List (Int × List Int)} {bs : List Int} (h0 : tIntSS.Own w l0 u0 [v0] ss) (h1 : (tWrS E).Own w l1 u1 [v1] cs) (h3 : tIntS.Own w l3 u3 [v3] bs)
    (d01 : u0 ≤ l1 ∨ u1 ≤ l0) (d03 : u0 ≤ l3 ∨ u3 ≤ l0) (d13 : u1 ≤ l3 ∨ u3 ≤ l1) (r0 : lo ≤ l0 ∧ u0 ≤ hi) (r1 : lo ≤ l1 ∧ u1 ≤ hi) (r3 : lo ≤ l3 ∧ u3 ≤ hi) : (tMem E).Own w lo hi [v0, v1, .bool f, v3] (ss, cs, f, bs) := by
  obtain ⟨f0, m0, k0⟩ := h0.mine
  obtain ⟨f1, m1, k1⟩ := h1.mine
  obtain ⟨f3, m3, k3⟩ := h3.mine
  have mb : boolTy.Mine w [.bool f] f [] := ⟨⟨rfl, rfl⟩, by simp⟩
  have p1 := pair_mine_of (t := boolTy) (u := tIntS) (vs := [_]) (us := [_]) mb m3 (by simp)
  have p2 := pair_mine_of (t := tWrS E) (u := pairTy boolTy tIntS) (vs := [_]) (us := [_, _]) m1 p1 (fun b hb hb' => by
    have e1 := k1 b hb
    have e2 := k3 b (by simpa using hb')
    omega)
  have p3 := pair_mine_of (t := tIntSS) (u := pairTy (tWrS E) (pairTy boolTy tIntS)) (vs := [_]) (us := [_, _, _]) m0 p2 (fun b hb hb' => by
    have e0 := k0 b hb
    simp at hb'
    rcases hb' with h | h
    · have e1 := k1 b h
      omega
    · have e3 := k3 b h
      omega)
  refine Ty.Mine.own (t := tMem E) p3 (fun b hb => ?_)
  simp at hb
  rcases hb with h | h | h
  · have := k0 b h
    omega
  · have := k1 b h
    omega
  · have := k3 b h
    omega

/-- What several ways come to is shown once. -/
theorem with_key {G : Nat → Nat → World → Option Addr → Nat → Prop} {A : Nat → Nat → World → Option Addr → Nat → List Nat → Prop} {C : Prop} (main : ∀ BO g w6 a5 c5 fp3, A BO g w6 a5 c5 fp3 → G BO g w6 a5 c5) (use : Hid (∀ BO g w6 a5 c5 fp3, A BO g w6 a5 c5 fp3 → G BO g w6 a5 c5) → C) : C := use main

/-- A row of numbers, with its blocks. -/
theorem mine_ints {w : World} {lo : Nat} {v : Value} {zs : List Int} (h : Owns .i64 3 w lo v zs) : ∃ fp, tIntS.Mine w [v] zs fp ∧ ∀ b ∈ fp, v.ownBlock = some b ∧ b < w.heap.size := by
  rcases h.2 with ⟨hv, hn⟩ | ⟨g, cap, cur, hv, hb, hg, hnc, hcm, hcs, ht⟩
  · exact ⟨[], ⟨.inl ⟨by rw [hv], List.eq_nil_of_length_eq_zero hn, rfl⟩, by simp⟩, by simp⟩
  · have hgl : g < w.heap.size := (Array.getElem?_eq_some_iff.1 hg).1
    refine ⟨[g], ⟨.inr ⟨g, cap, cur, zs.map fun _ => [], by rw [hv], hnc, hcm, hg, hcs, by simp, by simp, fun i x hx => ?_⟩, by simp⟩, by intro b hb; simp at hb; subst hb; exact ⟨by rw [hv]; rfl, hgl⟩⟩
    have hi : i < zs.length := (List.getElem?_eq_some_iff.1 hx).1
    refine ⟨[], by rw [List.getElem?_map, hx]; rfl, ?_, rfl⟩
    have e : cur.toList[i]? = some (.int .i64 x) := by
      have : (cur.toList.take (zs.length * 1))[i]? = (zs.map (Value.int .i64))[i]? := by rw [ht]
      rw [List.getElem?_take, if_pos (by omega), List.getElem?_map, hx] at this
      exact this
    have hic : i < cur.toList.length := (List.getElem?_eq_some_iff.1 e).1
    show (cur.toList.drop (i * 1)).take 1 = _
    rw [Nat.mul_one, List.drop_eq_getElem_cons hic, List.take_succ_cons, List.take_zero]
    rw [List.getElem?_eq_getElem hic] at e
    simp at e
    rw [Array.getElem_toList, e]

/-- 'append' of a slice of numbers to an empty literal, at a step of a region that draws its order. -/
theorem step_copy {P : Program} {w : World} {ops : Array Oper} {o : Oper} {a : Act} {K : Act → World → Prop} {Q : Exit → Act → World → Prop} {G : Prop} (hgd : o.guard = none) (s x : Operand) (t : TypeId)
    (ho : o.op = .call { callee := .builtin .append, args := #[s, x], argTypes := #[t, t] })
    (i : TypeInfo) (ht : P.underlying t = some (.slice 3)) (hi : P.info? 3 = some i) (hz : i.zero = some (.int .i64 0)) (hsize : i.size = 1) (hby : i.bytes = 8)
    (g : Nat) (hs : a.eval s = .slice (some ⟨g, 0, none⟩) 0 0) (hg : w.heap[g]? = some (.cells #[] 3 (0, 0)))
    (src : Option Addr) (n cap : Nat) (zs : List Int) (hx : a.eval x = .slice src n cap) (hr : tIntS.Rd w [.slice src n cap] zs) (hn : n ≤ 2097152)
    (h : ∀ a' c' w' fp, tIntS.Mine w' [.slice a' n c'] zs fp → (∀ b ∈ fp, (b = g ∨ b = w.heap.size) ∧ b < w'.heap.size) → Turned [g] w w' → K (a.put o.dst (.slice a' n c')) w') :
    if Region.wanted o (yielded ops a.tmps) = true then Oper.wp P o a w K Q else G := by
  have hw : Region.wanted o (yielded ops a.tmps) = true := by simp [Region.wanted, hgd]
  rw [if_pos hw]
  have hgl : g < w.heap.size := (Array.getElem?_eq_some_iff.1 hg).1
  have hown : w.ownsRow 0 3 1 (.slice (some ⟨g, 0, none⟩) 0 0) 0 [] := ⟨rfl, .inr ⟨g, 0, #[], rfl, Nat.zero_le _, hg, Nat.le_refl _, Nat.zero_le _, rfl, rfl⟩⟩
  obtain ⟨hrd, hl, _, _⟩ := ints_rd hr
  match src, hx, hr, hrd with
  | none, hx, hr, _ =>
    obtain ⟨rfl, rfl, rfl⟩ := row_nil hr
    have hrun := run_append_owned_none (P := P) (w := w) 0 t o.type 3 i 1 ht hi _ 0 [] hown
    unfold Oper.wp
    simp [execOp, ho, resolve, invoke, builtin, hs, hx, hrun, Result.andThen]
    exact h _ _ w [g] ⟨.inr ⟨g, 0, #[], [], rfl, Nat.le_refl _, by omega, hg, rfl, rfl, rfl, fun i x hx => by simp at hx⟩, by simp⟩ (by simp; exact hgl) (Turned.refl _ _)
  | some ad, hx, _, hrd =>
    obtain ⟨v', w', hrun, k1, k2, _, k4⟩ := run_append_own_at (P := P) w 0 t o.type 3 i (.int .i64 0) 1 8 ht hi hz hsize hby rfl (by decide) _ 0 [] hown ad n cap (zs.map (Value.int .i64)) (by simp [hl]) hrd.cells (ints_plain zs) (by unfold maxLen; omega) (by omega) (Nat.zero_le _)
    have ko : Owns .i64 3 w' 0 v' zs := by
      unfold Owns
      rw [hl]
      simpa using k1
    obtain ⟨fp, m1, m2⟩ := mine_ints ko
    obtain ⟨a', c', hv⟩ := row_shape m1.rd
    rw [hl] at hv
    subst hv
    unfold Oper.wp
    simp [execOp, ho, resolve, invoke, builtin, hs, hx, hrun, Result.andThen]
    refine h _ _ w' fp m1 (fun b hb => ⟨?_, (m2 b hb).2⟩) ⟨k2.os, k2.tape, k2.output, k2.size, fun k hk hf => k2.block k hk (by simp [Value.ownBlock]; exact fun e => hf (by simp [e]))⟩
    have h1 := (m2 b hb).1
    rw [h1] at k4
    rcases k4 with k4 | k4
    · left
      simpa [Value.ownBlock] using k4
    · right
      simpa using k4

end Go.Proofs.YtbkkjfgjlapadaaGreat

/-
 The walks of the specification's looks at an array's entries, at the array as a whole, and whether a disk of it lives. Condition: it weighs at most 2097152.
-/
import Derived.Test.YtjmjianlcoleaaaGreatRowFlushAllAll6
import Derived.Test.YtjmjianlcoleaaaGreatTurn
import Derived.Maps.AppendAt
import Derived.Test.YtjmjianlcoleaaaGreatWalkEq
import Derived.Test.YtjmjianlcoleaaaGreatRow4
import Derived.Test.YtjmjianlcoleaaaGreatWalkSz
import Derived.Test.YtjmjianlcoleaaaGreatWalkTo
import Derived.Test.YtjmjianlcoleaaaGreatKit
import Derived.Test.YtjmjianlcoleaaaGreatRows
import Derived.Test.YtjmjianlcoleaaaGreatData
import Derived.OrdersHeld
import Derived.RegionTactic
import Derived.Test.YtjmjianlcoleaaaGreatWalkInts

set_option maxRecDepth 100000
set_option maxHeartbeats 8000000
set_option linter.unusedSimpArgs false

namespace Go.Proofs.YtjmjianlcoleaaaGreat
open Go.RowKit

theorem row_cells {t : Ty} {E : TypeId} {w : World} {lo : Nat} {v : Value} {d : List t.D} {fp : List Nat} (h : (rowTy t E).Mine w [v] d fp) (hlo : ∀ b ∈ fp, lo <= b) :
 ∃ xs, w.ownsRow lo E t.n v d.length xs /\ ∀ w' v' vs x f, t.Mine w vs x f -> (∀ b ∈ fp, b ∉ f) -> w'.ownsRow lo E t.n v' (d.length + 1) (xs ++ vs) -> w.grownBy w' v.ownBlock -> (v'.ownBlock = v.ownBlock ∨ v'.ownBlock = some w.heap.size) ->
  ∃ fp', (rowTy t E).Mine w' [v'] (d ++ [x]) fp' /\ (∀ b ∈ fp', b ∈ fp ∨ b ∈ f ∨ (b = w.heap.size /\ b < w'.heap.size)) /\ Turned fp w w' := by
 obtain ⟨h, hn⟩ := h
 rcases h with ⟨h1, rfl, rfl⟩ | ⟨b, cap, cur, fps, h1, h2, h3, h4, h5, rfl, h7, h8⟩
 . simp at h1
   subst h1
   refine ⟨[], World.ownsRow_nil _ _ _ _, fun w' v' vs x f hx _ ho hg hat => ?_⟩
   rcases ho.2 with ⟨_, h0⟩ | ⟨g, cap', cur', hv, hb, hg', hnc, hcm, hcs, htake⟩
   . simp at h0
   . have hgs : g = w.heap.size := by
      rw [hv] at hat
      simpa [Value.ownBlock] using hat
     have hgl : g < w'.heap.size := (Array.getElem?_eq_some_iff.1 hg').1
     subst hv
     have hfl : [f].flatten = f := by simp
     have hxlt := hx.lt
     refine ⟨g :: [f].flatten, ⟨.inr ⟨g, cap', cur', [f], rfl, hnc, hcm, hg', hcs, rfl, rfl, fun i y hy => ?_⟩, ?_⟩, ?_, hg.os, hg.tape, hg.output, hg.size, fun k hk _ => hg.block k hk (by simp [Value.ownBlock])⟩
     . match i, hy with
       | 0, hy =>
        simp at hy
        subst hy
        refine ⟨f, rfl, ?_⟩
        rw [Nat.zero_mul, List.drop_zero]
        simp only [List.length_nil, Nat.zero_add, Nat.one_mul, List.nil_append] at htake
        rw [htake]
        exact t.owKept hx.1 (fun b hb => hg.block b (hxlt b hb) (by simp [Value.ownBlock])) hg.size
     . rw [hfl, List.nodup_cons]
       refine ⟨fun hm => ?_, hx.2⟩
       have := hxlt g hm
       omega
     . intro b hb
       rw [hfl] at hb
       rcases List.mem_cons.1 hb with rfl | hb
       . exact .inr (.inr ⟨hgs, hgl⟩)
       . exact .inr (.inl hb)
 . have hv : v = .slice (some ⟨b, 0, none⟩) d.length cap := by simpa using h1
   have hbl : b < w.heap.size := (Array.getElem?_eq_some_iff.1 h4).1
   have hle : d.length * t.n <= cap * t.n := Nat.mul_le_mul_right _ h2
   have hxl : (cur.toList.take (d.length * t.n)).length = d.length * t.n := by
    have hcl : cur.toList.length = cap * t.n := by rw [Array.length_toList]; exact h5
    rw [List.length_take, hcl]
    omega
   refine ⟨cur.toList.take (d.length * t.n), ⟨hxl, .inr ⟨b, cap, cur, hv, hlo b List.mem_cons_self, h4, h2, h3, h5, rfl⟩⟩, fun w' v' vs x f hx hdis ho hg hat => ?_⟩
   rw [List.nodup_cons] at hn
   obtain ⟨hbf, hnf⟩ := hn
   have hfplt : ∀ c ∈ fps.flatten, c < w.heap.size := by
    intro c hc
    obtain ⟨f', hf', hcf⟩ := List.mem_flatten.1 hc
    obtain ⟨i, hi⟩ := List.mem_iff_getElem?.1 hf'
    have hil : i < d.length := by rw [← h7]; exact (List.getElem?_eq_some_iff.1 hi).1
    obtain ⟨f2, hf2, ho2⟩ := h8 i _ (List.getElem?_eq_getElem hil)
    rw [hi] at hf2
    simp at hf2
    subst hf2
    exact t.rdLt (t.owRd ho2) c hcf
   have hxlt := hx.lt
   have hbx : b ∉ f := hdis b List.mem_cons_self
   have hvl := t.rdLen (t.owRd hx.1)
   have hkeep : ∀ c, c < w.heap.size -> c ≠ b -> w'.heap[c]? = w.heap[c]? := fun c hc hne => hg.block c hc (by rw [hv]; simpa [Value.ownBlock] using hne)
   rcases ho.2 with ⟨_, h0⟩ | ⟨g, cap', cur', hv', hb, hg', hnc, hcm, hcs, htake⟩
   . omega
   . have hgs : g = b ∨ g = w.heap.size := by
      rw [hv', hv] at hat
      simpa [Value.ownBlock] using hat
     have hgl : g < w'.heap.size := (Array.getElem?_eq_some_iff.1 hg').1
     subst hv'
     have hfl : (fps ++ [f]).flatten = fps.flatten ++ f := by simp
     have hseg : ∀ i, i < d.length -> (cur'.toList.drop (i * t.n)).take t.n = (cur.toList.drop (i * t.n)).take t.n := by
      intro i hi
      have hmul : (i + 1) * t.n <= d.length * t.n := Nat.mul_le_mul_right _ hi
      rw [Nat.add_mul, Nat.one_mul] at hmul
      apply List.ext_getElem?
      intro k
      rw [List.getElem?_take, List.getElem?_take]
      by_cases hk : k < t.n
      . rw [if_pos hk, if_pos hk, List.getElem?_drop, List.getElem?_drop]
        have := congrArg (fun l => l[i * t.n + k]?) htake
        simp only [List.getElem?_take] at this
        rw [if_pos (by rw [Nat.add_mul, Nat.one_mul]; omega), List.getElem?_append_left (by rw [hxl]; omega), List.getElem?_take, if_pos (by omega)] at this
        exact this
      . rw [if_neg hk, if_neg hk]
     have hlast : (cur'.toList.drop (d.length * t.n)).take t.n = vs := by
      apply List.ext_getElem?
      intro k
      rw [List.getElem?_take]
      by_cases hk : k < t.n
      . rw [if_pos hk, List.getElem?_drop]
        have := congrArg (fun l => l[d.length * t.n + k]?) htake
        simp only [List.getElem?_take] at this
        rw [if_pos (by rw [Nat.add_mul, Nat.one_mul]; omega), List.getElem?_append_right (by rw [hxl]; omega), hxl, Nat.add_sub_cancel_left] at this
        exact this
      . rw [if_neg hk, List.getElem?_eq_none (by omega)]
     refine ⟨g :: (fps ++ [f]).flatten, ⟨.inr ⟨g, cap', cur', fps ++ [f], by simp, by simpa using hnc, hcm, hg', hcs, rfl, by simp [h7], fun i y hy => ?_⟩, ?_⟩, ?_, hg.os, hg.tape, hg.output, hg.size, fun k hk hf => hkeep k hk (fun e => hf (by rw [e]; exact List.mem_cons_self))⟩
     . by_cases hi : i < d.length
       . rw [List.getElem?_append_left hi] at hy
         obtain ⟨f2, hf2, ho2⟩ := h8 i y hy
         refine ⟨f2, by rw [List.getElem?_append_left (by omega)]; exact hf2, ?_⟩
         rw [hseg i hi]
         refine t.owKept ho2 (fun c hc => hkeep c (t.rdLt (t.owRd ho2) c hc) (fun e => hbf ?_)) hg.size
         rw [← e]
         exact List.mem_flatten.2 ⟨f2, List.mem_of_getElem? hf2, hc⟩
       . have hil : i = d.length := by
          have := (List.getElem?_eq_some_iff.1 hy).1
          simp at this
          omega
         subst hil
         rw [List.getElem?_append_right (Nat.le_refl _), Nat.sub_self] at hy
         simp at hy
         subst hy
         refine ⟨f, by rw [List.getElem?_append_right (by omega), h7, Nat.sub_self]; rfl, ?_⟩
         rw [hlast]
         exact t.owKept hx.1 (fun c hc => hkeep c (hxlt c hc) (fun e => hbx (e ▸ hc))) hg.size
     . rw [hfl, List.nodup_cons]
       refine ⟨fun hm => ?_, ?_⟩
       . rcases List.mem_append.1 hm with hm | hm
         . rcases hgs with rfl | rfl
           . exact hbf hm
           . have := hfplt _ hm
             omega
         . rcases hgs with rfl | rfl
           . exact hbx hm
           . have := hxlt _ hm
             omega
       . rw [List.nodup_append]
         exact ⟨hnf, hx.2, fun a ha c hc e => hdis a (List.mem_cons_of_mem _ ha) (e ▸ hc)⟩
     . intro c hc
       rw [hfl] at hc
       rcases List.mem_cons.1 hc with rfl | hc
       . rcases hgs with rfl | hgs
         . exact .inl List.mem_cons_self
         . exact .inr (.inr ⟨hgs, hgl⟩)
       . rcases List.mem_append.1 hc with hc | hc
         . exact .inl (List.mem_cons_of_mem _ hc)
         . exact .inr (.inl hc)

theorem wpList_appT {P : Program} {w : World} {ops : Array Oper} {rest : List Oper} {o : Oper} {a : Act} {Q : Exit -> Act -> World -> Prop} (t : Ty) (hgd : o.guard = none) (s x : Operand) (T : TypeId)
 (ho : o.op = .call { callee := .builtin .append, args := #[s, x], argTypes := #[T, T] })
 (E : TypeId) (i : TypeInfo) (z : Value) (bytes : Nat) (ht : P.underlying T = some (.slice E)) (hi : P.info? E = some i) (hz : i.zero = some z)
 (hsize : i.size = t.n) (hby : i.bytes = bytes) (hzs : z.cells.size = t.n) (hsz : 0 < t.n)
 (v : Value) (d : List t.D) (fp : List Nat) (hs : a.eval s = v) (hown : (rowTy t E).Mine w [v] d fp)
 (ad : Addr) (c : Nat) (vs : List Value) (y : t.D) (f : List Nat) (hx : a.eval x = .slice (some ad) 1 c) (hy : t.Mine w vs y f) (hdis : ∀ b ∈ fp, b ∉ f) (hr : ∀ j u, vs[j]? = some u -> w.cell? (ad.add j) = some u) (h1 : ∀ u ∈ vs, u.oneCell' = true)
 (h63 : d.length + 1 <= maxLen) (hbytes : (d.length + 1) * bytes <= 140737488355328)
 (h : ∀ v' w' fp', (rowTy t E).Mine w' [v'] (d ++ [y]) fp' -> (∀ b ∈ fp', b ∈ fp ∨ b ∈ f ∨ (b = w.heap.size /\ b < w'.heap.size)) -> Turned fp w w' -> wpList P ops Q rest (a.put o.dst v') w') : wpList P ops Q (o :: rest) a w := by
 obtain ⟨xs, hrow, hback⟩ := row_cells (lo := 0) hown (fun _ _ => Nat.zero_le _)
 have hvl := t.rdLen (t.owRd hy.1)
 refine wpList_append_own_at w hgd s x T ho 0 E i z t.n bytes ht hi hz hsize hby hzs hsz v d.length xs hs hrow ad 1 c vs hx (by omega) hr h1 h63 hbytes (Nat.zero_le _) ?_
 intro v' w' k1 k2 _ k4
 obtain ⟨fp', m1, m2, m3⟩ := hback w' v' vs y f hy hdis k1 k2 k4
 exact h v' w' fp' m1 m2 m3

theorem step_appT {P : Program} {w : World} {ops : Array Oper} {o : Oper} {a : Act} {K : Act -> World -> Prop} {Q : Exit -> Act -> World -> Prop} {G : Prop} (t : Ty) (hgd : o.guard = none) (s x : Operand) (T : TypeId)
 (ho : o.op = .call { callee := .builtin .append, args := #[s, x], argTypes := #[T, T] })
 (E : TypeId) (i : TypeInfo) (z : Value) (bytes : Nat) (ht : P.underlying T = some (.slice E)) (hi : P.info? E = some i) (hz : i.zero = some z)
 (hsize : i.size = t.n) (hby : i.bytes = bytes) (hzs : z.cells.size = t.n) (hsz : 0 < t.n)
 (v : Value) (d : List t.D) (fp : List Nat) (hs : a.eval s = v) (hown : (rowTy t E).Mine w [v] d fp)
 (ad : Addr) (c : Nat) (vs : List Value) (y : t.D) (f : List Nat) (hx : a.eval x = .slice (some ad) 1 c) (hy : t.Mine w vs y f) (hdis : ∀ b ∈ fp, b ∉ f) (hr : ∀ j u, vs[j]? = some u -> w.cell? (ad.add j) = some u) (h1 : ∀ u ∈ vs, u.oneCell' = true)
 (h63 : d.length + 1 <= maxLen) (hbytes : (d.length + 1) * bytes <= 140737488355328)
 (h : ∀ g cap w' fp', (rowTy t E).Mine w' [.slice (some ⟨g, 0, none⟩) (d.length + 1) cap] (d ++ [y]) fp' -> (∀ b ∈ fp', b ∈ fp ∨ b ∈ f ∨ (b = w.heap.size /\ b < w'.heap.size)) -> Turned fp w w' -> K (a.put o.dst (.slice (some ⟨g, 0, none⟩) (d.length + 1) cap)) w') :
 if Region.wanted o (yielded ops a.tmps) = true then Oper.wp P o a w K Q else G := by
 obtain ⟨xs, hrow, hback⟩ := row_cells (lo := 0) hown (fun _ _ => Nat.zero_le _)
 have hvl := t.rdLen (t.owRd hy.1)
 refine step_append_lies w hgd s x T ho 0 E i z t.n bytes ht hi hz hsize hby hzs hsz v d.length xs hs hrow ad 1 c vs hx (by omega) hr h1 Nat.zero_lt_one h63 hbytes (Nat.zero_le _) w.heap.size rfl ?_
 intro g cap w' k1 k2 k3 _
 obtain ⟨fp', m1, m2, m3⟩ := hback w' _ vs y f hy hdis k1 k2 (by
  rcases k3 with k3 | k3
  . exact .inl k3.symm
  . exact .inr (by rw [k3]; rfl))
 exact h g cap w' fp' m1 m2 m3

def Box (w : World) (B : Nat) (T : TypeId) (cs : Array Value) : Prop := w.heap[B]? = some (.cells cs T (0, 0))

theorem Box.cell {w : World} {B : Nat} {T : TypeId} {cs : Array Value} (h : Box w B T cs) (j : Nat) : w.cell? ⟨B, j, none⟩ = cs[j]? := cell_of_row w B j cs T (0, 0) h
theorem Box.cells4 {w : World} {B : Nat} {T : TypeId} {v0 v1 v2 v3 : Value} (h : Box w B T #[v0, v1, v2, v3]) : w.cell? ⟨B, 0, none⟩ = some v0 /\ w.cell? ⟨B, 1, none⟩ = some v1 /\ w.cell? ⟨B, 2, none⟩ = some v2 /\ w.cell? ⟨B, 3, none⟩ = some v3 :=
 ⟨h.cell 0, h.cell 1, h.cell 2, h.cell 3⟩
theorem Box.cells2 {w : World} {B : Nat} {T : TypeId} {v0 v1 : Value} (h : Box w B T #[v0, v1]) : w.cell? ⟨B, 0, none⟩ = some v0 /\ w.cell? ⟨B, 1, none⟩ = some v1 := ⟨h.cell 0, h.cell 1⟩
theorem Box.frozen {w : World} {B : Nat} {T : TypeId} {cs : Array Value} (h : Box w B T cs) (j : Nat) : w.frozen? ⟨B, j, none⟩ = false := frozen_of_row w B j cs T h
theorem Box.lt {w : World} {B : Nat} {T : TypeId} {cs : Array Value} (h : Box w B T cs) : B < w.heap.size := (Array.getElem?_eq_some_iff.1 h).1
theorem Box.kept {w w' : World} {B : Nat} {T : TypeId} {cs : Array Value} (h : Box w B T cs) (hk : w'.heap[B]? = w.heap[B]?) : Box w' B T cs := hk.trans h
theorem Box.below {w w' : World} {B N : Nat} {T : TypeId} {cs : Array Value} (h : Box w B T cs) (hb : Below N w w') (hN : B < N) : Box w' B T cs := h.kept (hb.block B hN)
theorem Box.turned {w w' : World} {B : Nat} {T : TypeId} {cs : Array Value} {fp : List Nat} (h : Box w B T cs) (ht : Turned fp w w') (hB : B ∉ fp) : Box w' B T cs := h.kept (ht.block B h.lt hB)
theorem Box.same {w w' : World} {B : Nat} {T : TypeId} {cs : Array Value} (h : Box w B T cs) (hs : Same w w') : Box w' B T cs := h.kept (by rw [hs.heap])
theorem Box.set {w : World} {B : Nat} {T : TypeId} {cs : Array Value} (h : Box w B T cs) (j : Nat) (v : Value) : Box (w.setCell ⟨B, j, none⟩ v) B T (cs.setIfInBounds j v) := heap_setCell_same w B j cs T v h
theorem Box.other {w : World} {B g : Nat} {T : TypeId} {cs : Array Value} (h : Box w B T cs) (hne : B ≠ g) (j : Nat) (v : Value) : Box (w.setCell ⟨g, j, none⟩ v) B T cs := h.kept (Below.heap_setCell _ _ _ _ hne)
theorem Box.alloc {w : World} {B : Nat} {T : TypeId} {cs : Array Value} (h : Box w B T cs) (o : Obj) : Box (w.alloc o) B T cs := h.kept (((Below.refl (B + 1) w).alloc h.lt o).block B (Nat.lt_succ_self _))
theorem Box.new (w : World) (T : TypeId) (cs : Array Value) : Box (w.alloc (.cells cs T)) w.heap.size T cs := heap_alloc_new w _

theorem Turned.alloc {fp : List Nat} {w w' : World} (h : Turned fp w w') (o : Obj) : Turned fp w (w'.alloc o) :=
 ⟨h.os, h.tape, h.output, Nat.le_trans h.size (by simp), fun k hk hf => (((Below.refl (k + 1) w').alloc (Nat.lt_of_lt_of_le hk h.size) o).block k (Nat.lt_succ_self _)).trans (h.block k hk hf)⟩
theorem Turned.below {fp : List Nat} {w w' : World} {N : Nat} (h : Turned fp w w') (hN : N <= w.heap.size) (hf : ∀ b ∈ fp, N <= b) : Below N w w' :=
 ⟨h.os, h.tape, h.output, h.size, fun k hk => h.block k (by omega) (fun hm => by have := hf k hm; omega)⟩
theorem Turned.ofBelow {w w' : World} (h : Below w.heap.size w w') (fp : List Nat) : Turned fp w w' := ⟨h.os, h.tape, h.output, h.size, fun k hk _ => h.block k hk⟩
theorem Ty.Mine.below {t : Ty} {w w' : World} {vs : List Value} {d : t.D} {fp : List Nat} (h : t.Mine w vs d fp) (hb : Below w.heap.size w w') : t.Mine w' vs d fp := h.kept (Turned.ofBelow hb []) (by simp)
theorem Ty.Mine.alloc {t : Ty} {w : World} {vs : List Value} {d : t.D} {fp : List Nat} (h : t.Mine w vs d fp) (o : Obj) : t.Mine (w.alloc o) vs d fp := h.kept ((Turned.refl [] w).alloc o) (by simp)
theorem Ty.Mine.setCell {t : Ty} {w : World} {vs : List Value} {d : t.D} {fp : List Nat} {g j : Nat} (h : t.Mine w vs d fp) (hg : g ∉ fp) (v : Value) : t.Mine (w.setCell ⟨g, j, none⟩ v) vs d fp :=
 h.kept (Turned.setCell (fp := [g]) v (by simp)) (fun b hb hb' => hg (by simp at hb'; exact hb' ▸ hb))
theorem Ty.Rd.turned {t : Ty} {w w' : World} {vs : List Value} {d : t.D} {fp fq : List Nat} (h : t.rd w vs d fp) (ht : Turned fq w w') (hd : ∀ b ∈ fp, b ∉ fq) : t.rd w' vs d fp := t.rdKept h (fun b hb => ht.block b (t.rdLt h b hb) (hd b hb)) ht.size
theorem nil_mine {t : Ty} {E : TypeId} (w : World) : (rowTy t E).Mine w [.slice none 0 0] [] [] := ⟨.inl ⟨rfl, rfl, rfl⟩, by simp⟩
theorem lit0_mine {t : Ty} {E : TypeId} (w : World) : (rowTy t E).Mine (w.alloc (.cells #[] E)) [.slice (some ⟨w.heap.size, 0, none⟩) 0 0] [] [w.heap.size] :=
 ⟨.inr ⟨w.heap.size, 0, #[], [], rfl, Nat.le_refl _, by omega, heap_alloc_new w _, by simp, rfl, rfl, fun i x hx => by simp at hx⟩, by simp⟩
theorem news_new (w : World) (cs : Array Value) (T : TypeId) : ∀ j u, cs.toList[j]? = some u -> (w.alloc (.cells cs T)).cell? ((⟨w.heap.size, 0, none⟩ : Addr).add j) = some u := World.news_of_block (heap_alloc_new w _)

theorem eqMem_rd (w : World) (E E' : TypeId) (v0 v1 v3 u0 u1 u3 : Value) (f : Bool) (ss : List (List Int)) (cs : List (Int × List Int)) (bs : List Int) (h : (tMem E).Rd w [v0, v1, .bool f, v3] (ss, cs, f, bs)) (k : (tMem E').Rd w [u0, u1, .bool f, u3] (ss, cs, f, bs)) (hw : wtMem (ss, cs, f, bs) <= 2097152) :
 Calls Tryz.prog 66 #[.agg #[v0, v1, .bool f, v3], .agg #[u0, u1, .bool f, u3]] w fun e w' => e = .returned (.bool true) /\ Below w.heap.size w w' := by
 obtain ⟨a0, c0, a1, c1, a3, c3, rfl, rfl, _, rfl, h0, h1, h3⟩ := mem_rd h
 obtain ⟨b0, e0, b1, e1, b3, e3, rfl, rfl, _, rfl, k0, k1, k3⟩ := mem_rd k
 exact eqMem_same w E E' _ _ _ _ _ _ _ _ _ _ _ _ _ _ _ ss cs f bs h0 h1 h3 k0 k1 k3 hw

abbrev tMemS (E F : TypeId) : Ty := rowTy (tMem E) F
abbrev MemD : Type := List (List Int) × List (Int × List Int) × Bool × List Int
def wtMemS (d : List MemD) : Nat := d.length + sumL (d.map wtMem)
theorem inner_leM {d : List MemD} {j : Nat} {x : MemD} (h : d[j]? = some x) : wtMem x <= wtMemS d := by
 have h1 := sumL_take (l := d.map wtMem) (j := j) (x := wtMem x) (by rw [List.getElem?_map, h]; rfl)
 have h2 := sumL_le (l := d.map wtMem) (j + 1)
 unfold wtMemS
 omega
theorem mem_at {E : TypeId} {w : World} {v0 v1 v2 v3 : Value} {x : MemD} (h : (tMem E).Rd w [v0, v1, v2, v3] x) :
 ∃ a0 c0 a1 c1 a3 c3 ss cs f bs, x = (ss, cs, f, bs) /\ v0 = .slice a0 ss.length c0 /\ v1 = .slice a1 cs.length c1 /\ v2 = .bool f /\ v3 = .slice a3 bs.length c3 /\ tIntSS.Rd w [.slice a0 ss.length c0] ss /\ (tWrS E).Rd w [.slice a1 cs.length c1] cs /\ tIntS.Rd w [.slice a3 bs.length c3] bs := by
 obtain ⟨ss, cs, f, bs⟩ := x
 obtain ⟨a0, c0, a1, c1, a3, c3, rfl, rfl, rfl, rfl, h0, h1, h3⟩ := mem_rd h
 exact ⟨a0, c0, a1, c1, a3, c3, ss, cs, f, bs, rfl, rfl, rfl, rfl, rfl, h0, h1, h3⟩

theorem szMemS_any (w : World) (E F : TypeId) (a : Option Addr) (n cap : Nat) (d : List MemD) (left : Int) (h : (tMemS E F).Rd w [.slice a n cap] d) (h0 : 0 <= left) (h1 : left <= 1048576) :
 Calls Tryz.prog 20 #[.slice a n cap, .int .i64 left] w fun e w' => e = .returned (.int .i64 (leftOf left (wtMemS d))) /\ Below w.heap.size w w' := by
 obtain ⟨hl, hc, hm⟩ := row_length h
 by_cases hlt : (n : Int) <= left
 . go_enter Tryz.func20, Tryz.ntmps20
   go_wp2
   go_loopw [1, 5] (fun l i wr => ∃ j : Nat, j <= n /\ i = .int .i64 j /\ l = .int .i64 (left - n - (sumL ((d.map wtMem).take j) : Int)) /\ (sumL ((d.map wtMem).take j) : Int) <= left - n /\ Below w.heap.size w wr) (fun _ i _ => n - (intOf i).toNat)
   case atStart => exact ⟨0, Nat.zero_le _, rfl, by simp [sumL], by simp [sumL]; omega, Below.refl _ _⟩
   case round =>
    obtain ⟨j, hj, rfl, rfl, hs, hb⟩ := hrel
    by_cases hjn : j < n
    . rcases quads_at rfl h with h0' | ⟨b, off, rfl, hbl, hcs⟩
      . omega
      have hdj : d[j]? = some (d[j]'(by omega)) := List.getElem?_eq_getElem (by omega)
      generalize d[j]'(by omega) = x at hdj
      obtain ⟨v0, v1, v2, v3, hv0, hv1, hv2, hv3, hrv⟩ := hcs j x hdj
      obtain ⟨a0, c0, a1, c1, a3, c3, ss, cs, f, bs, rfl, rfl, rfl, rfl, rfl, r0, r1, r3⟩ := mem_at hrv
      have hw0 := (hb.cell (p := ⟨b, off + j * 4, none⟩) hbl).trans hv0
      have hw1 := (hb.cell (p := ⟨b, off + j * 4 + 1, none⟩) hbl).trans hv1
      have hw2 := (hb.cell (p := ⟨b, off + j * 4 + 2, none⟩) hbl).trans hv2
      have hw3 := (hb.cell (p := ⟨b, off + j * 4 + 3, none⟩) hbl).trans hv3
      have hst := sumL_take (l := d.map wtMem) (j := j) (x := wtMem (ss, cs, f, bs)) (by rw [List.getElem?_map, hdj]; rfl)
      have HW : Hid (sumL ((d.map wtMem).take (j + 1)) = sumL ((d.map wtMem).take j) + wtMem (ss, cs, f, bs)) := hst
      have hle := sumL_le (l := d.map wtMem) (j + 1)
      have HE : Hid (wtMemS d = n + sumL (d.map wtMem)) := by unfold Hid wtMemS; rw [hl]
      generalize hS : sumL ((d.map wtMem).take j) = S at hs HW
      generalize hT : sumL (d.map wtMem) = T at hle HE
      have i1 : (0 : Int) <= (j : Int) := by omega
      have i2 : (j : Int) < (n : Int) := by omega
      clear hcs hst hS hT hdj hv0 hv1 hv2 hv3 hrv
      have SZ := hidden (szMem_any wr E a0 a1 a3 _ c0 _ c1 _ c3 ss cs f bs (left - n - (S : Int)) (r0.below hb) (r1.below hb) (r3.below hb) (by omega) (by omega))
      clear r0 r1 r3
      generalize wtMem (ss, cs, f, bs) = M at HW SZ
      by_cases hx : (M : Int) <= left - n - S
      . have hq := leftOf_pos hx
        go_wp2_with fail
        refine SZ.out.mono ?_
        rintro e w1 ⟨rfl, hb1⟩
        have hB := Below.andThen hb hb1
        go_wp2
        go_roundw
        case rel => exact ⟨j + 1, by omega, by go_num, by rw [HW.out]; go_num, by rw [HW.out]; omega, hB⟩
        case measure => simp [intOf]; omega
      . have hq := leftOf_neg (left := left - n - (S : Int)) (wt := M) (by omega)
        have hgt : left < ((wtMemS d : Nat) : Int) := by rw [HE.out]; have := HW.out; omega
        go_wp2_with fail
        refine SZ.out.mono ?_
        rintro e w1 ⟨rfl, hb1⟩
        have hB := Below.andThen hb hb1
        go_wp2
        go_ret
        exact ⟨ret_int (leftOf_neg (by omega)).symm, hB⟩
    . go_wp2
      go_ret
      have e : j = n := by omega
      subst e
      have ht : (d.map wtMem).take j = d.map wtMem := List.take_of_length_le (by simp; omega)
      rw [ht] at hs
      refine ⟨ret_int ?_, hb⟩
      rw [ht, leftOf_pos (by unfold wtMemS; omega)]
      unfold wtMemS
      omega
 . have hgt : left < ((wtMemS d : Nat) : Int) := by unfold wtMemS; omega
   go_enter Tryz.func20, Tryz.ntmps20
   go_wp2
   go_ret
   exact ⟨ret_int (leftOf_neg (by omega)).symm, Below.refl _ _⟩

theorem Tryz.infoMem : (Tryz.prog.info? 87).map (fun i => (i.zero, i.size, i.bytes)) = some (some (.agg #[.slice none 0 0, .slice none 0 0, .bool false, .slice none 0 0]), 4, 80) := by kernel_rfl

theorem toMemS_any (w : World) (E F : TypeId) (a : Option Addr) (n cap : Nat) (d : List MemD) (h : (tMemS E F).Rd w [.slice a n cap] d) (hw : wtMemS d <= 1048576) :
 Calls Tryz.prog 27 #[.slice a n cap] w fun e w' => e = .returned (.slice (some ⟨w.heap.size, 0, none⟩) n n) /\ (tMemS 123 87).Own w' w.heap.size w'.heap.size [.slice (some ⟨w.heap.size, 0, none⟩) n n] d /\ Below w.heap.size w w' := by
 obtain ⟨hl, hc, hm⟩ := row_length h
 obtain ⟨i0, hi, hz0, hz1, hz2⟩ := info_parts Tryz.infoMem
 have hn : n <= 1048576 := by unfold wtMemS at hw; omega
 have hb3 : i0.bytes * n <= 281474976710656 := by rw [hz2]; omega
 have hm3 : n <= maxLen := by unfold maxLen; omega
 go_enter Tryz.func27, Tryz.ntmps27
 go_wp2_with (at_make; refine wpList_make_full _ rfl _ _ 32 rfl w.heap.size 87 i0 (.agg #[.slice none 0 0, .slice none 0 0, .bool false, .slice none 0 0]) 4 Tryz.underlying32 hi hz0 hz1 _ _ _ _ n rfl rfl rfl rfl hb3 hm3 (Nat.le_refl _) ?_; intro w1 hown hgrow)
 have hO := row_made (t := tMem 123) (z := ([], [], false, [])) hown (by omega) rfl (fun _ => ⟨[], [], rfl, .inl ⟨rfl, rfl, rfl⟩, ⟨[], [], rfl, .inl ⟨rfl, rfl, rfl⟩, ⟨[], [], rfl, ⟨rfl, rfl⟩, .inl ⟨rfl, rfl, rfl⟩, rfl⟩, rfl⟩, rfl⟩)
 have hB1 : Below w.heap.size w w1 := (Below.refl _ _).grown hgrow (Nat.le_refl _) (by simp)
 clear hown hgrow
 go_loopw [4] (fun i wr => ∃ j : Nat, j <= n /\ i = .int .i64 j /\ (tMemS 123 87).Own wr w.heap.size wr.heap.size [.slice (some ⟨w.heap.size, 0, none⟩) n n] (d.take j ++ List.replicate (n - j) ([], [], false, [])) /\ Below w.heap.size w wr) (fun i _ => n - (intOf i).toNat)
 case atStart => exact ⟨0, Nat.zero_le _, rfl, by simpa using hO, hB1⟩
 case round =>
  clear hO hB1
  obtain ⟨j, hj, rfl, ho, hb⟩ := hrel
  by_cases hjn : j < n
  . rcases quads_at rfl h with h0' | ⟨b, off, rfl, hbl, hcs⟩
    . omega
    have hdj : d[j]? = some (d[j]'(by omega)) := List.getElem?_eq_getElem (by omega)
    have HS := copied_step' d ([], [], false, []) _ j hdj
    generalize d[j]'(by omega) = x at hdj HS
    have hlen := Nat.le_trans (inner_leM hdj) hw
    rw [hl] at HS
    have HS' : Hid _ := HS
    obtain ⟨v0, v1, v2, v3, hv0, hv1, hv2, hv3, hrv⟩ := hcs j x hdj
    obtain ⟨a0, c0, a1, c1, a3, c3, ss, cs, f, bs, rfl, rfl, rfl, rfl, rfl, r0, r1, r3⟩ := mem_at hrv
    have hw0 := (hb.cell (p := ⟨b, off + j * 4, none⟩) hbl).trans hv0
    have hw1 := (hb.cell (p := ⟨b, off + j * 4 + 1, none⟩) hbl).trans hv1
    have hw2 := (hb.cell (p := ⟨b, off + j * 4 + 2, none⟩) hbl).trans hv2
    have hw3 := (hb.cell (p := ⟨b, off + j * 4 + 3, none⟩) hbl).trans hv3
    have i1 : (0 : Int) <= (j : Int) := by omega
    have i2 : (j : Int) < (n : Int) := by omega
    have TM := hidden (toMem_any wr E a0 a1 a3 _ c0 _ c1 _ c3 ss cs f bs (r0.below hb) (r1.below hb) (r3.below hb) hlen)
    clear hcs hdj HS hv0 hv1 hv2 hv3 hrv r0 r1 r3
    go_wp2_with fail
    refine TM.out.mono ?_
    rintro e w2 ⟨b0, b1, b3, rfl, ho2, hb2⟩
    have s2 := hb2.size
    obtain ⟨hold, hfz, hst, hbt⟩ := row_store4 rfl (ho.below hb2) hjn ho2 (Nat.le_refl _) s2
    obtain ⟨o0, hc0⟩ := hold 0 (by omega)
    obtain ⟨o1, hc1⟩ := hold 1 (by omega)
    obtain ⟨o2, hc2⟩ := hold 2 (by omega)
    obtain ⟨o3, hc3⟩ := hold 3 (by omega)
    rw [Nat.add_zero] at hc0
    rw [HS'.out] at hst
    have HST := hidden hst
    have HB := hidden ((((Below.andThen hb hb2).setCell (p := ⟨w.heap.size, j * 4, none⟩) (Nat.le_refl _) (.slice b0 ss.length ss.length)).setCell (p := ⟨w.heap.size, j * 4 + 1, none⟩) (Nat.le_refl _) (.slice b1 cs.length cs.length)).setCell (p := ⟨w.heap.size, j * 4 + 2, none⟩) (Nat.le_refl _) (.bool f) |>.setCell (p := ⟨w.heap.size, j * 4 + 3, none⟩) (Nat.le_refl _) (.slice b3 bs.length bs.length))
    clear ho ho2 hb2 hst hbt hb hold TM
    go_wp2
    go_roundw
    case rel => exact ⟨j + 1, by omega, by go_num, by first | exact HST.out | (simp only [World.size_setCell]; exact HST.out), HB.out⟩
    case measure => simp [intOf]; omega
  . go_wp2
    go_ret
    have e : j = n := by omega
    subst e
    rw [Nat.sub_self, List.replicate_zero, List.append_nil, List.take_of_length_le (by omega)] at ho
    exact ⟨rfl, ho, hb⟩

theorem eqMemS_same (w : World) (E E' F F' : TypeId) (a b : Option Addr) (la lb ca cb : Nat) (d : List MemD) (h : (tMemS E F).Rd w [.slice a la ca] d) (h' : (tMemS E' F').Rd w [.slice b lb cb] d) (hw : wtMemS d <= 2097152) :
 Calls Tryz.prog 34 #[.slice a la ca, .slice b lb cb] w fun e w' => e = .returned (.bool true) /\ Below w.heap.size w w' := by
 obtain ⟨hl, hc, hm⟩ := row_length h
 obtain ⟨hl', hc', hm'⟩ := row_length h'
 have hla : la <= 2097152 := by unfold wtMemS at hw; omega
 have hlen : la = lb := by omega
 subst hlen
 go_enter Tryz.func34, Tryz.ntmps34
 go_wp2
 go_loopw [5] (fun i wr => ∃ j : Nat, j <= la /\ i = .int .i64 j /\ Below w.heap.size w wr) (fun i _ => la - (intOf i).toNat)
 case atStart => exact ⟨0, Nat.zero_le _, rfl, Below.refl _ _⟩
 case round =>
  obtain ⟨j, hj, rfl, hb⟩ := hrel
  by_cases hjn : j < la
  . rcases quads_at rfl h with h0' | ⟨bx, ox, rfl, hbx, hcx⟩
    . omega
    rcases quads_at rfl h' with h0' | ⟨bY, oy, rfl, hby, hcy⟩
    . omega
    have hdj : d[j]? = some (d[j]'(by omega)) := List.getElem?_eq_getElem (by omega)
    generalize d[j]'(by omega) = x at hdj
    have hil := Nat.le_trans (inner_leM hdj) hw
    obtain ⟨v0, v1, v2, v3, hv0, hv1, hv2, hv3, hrv⟩ := hcx j x hdj
    obtain ⟨u0, u1, u2, u3, hu0, hu1, hu2, hu3, hru⟩ := hcy j x hdj
    have rv := hrv.below hb
    have ru := hru.below hb
    obtain ⟨a0, c0, a1, c1, a3, c3, ss, cs, f, bs, rfl, rfl, rfl, rfl, rfl, _, _, _⟩ := mem_at hrv
    obtain ⟨b0, d0, b1, d1, b3, d3, ss', cs', f', bs', hxx, rfl, rfl, rfl, rfl, _, _, _⟩ := mem_at hru
    obtain ⟨rfl, rfl, rfl, rfl⟩ : ss = ss' /\ cs = cs' /\ f = f' /\ bs = bs' := by simpa using hxx
    have hx0 := (hb.cell (p := ⟨bx, ox + j * 4, none⟩) hbx).trans hv0
    have hx1 := (hb.cell (p := ⟨bx, ox + j * 4 + 1, none⟩) hbx).trans hv1
    have hx2 := (hb.cell (p := ⟨bx, ox + j * 4 + 2, none⟩) hbx).trans hv2
    have hx3 := (hb.cell (p := ⟨bx, ox + j * 4 + 3, none⟩) hbx).trans hv3
    have hy0 := (hb.cell (p := ⟨bY, oy + j * 4, none⟩) hby).trans hu0
    have hy1 := (hb.cell (p := ⟨bY, oy + j * 4 + 1, none⟩) hby).trans hu1
    have hy2 := (hb.cell (p := ⟨bY, oy + j * 4 + 2, none⟩) hby).trans hu2
    have hy3 := (hb.cell (p := ⟨bY, oy + j * 4 + 3, none⟩) hby).trans hu3
    have zx : bx < wr.heap.size := Nat.lt_of_lt_of_le hbx hb.size
    have zy : bY < wr.heap.size := Nat.lt_of_lt_of_le hby hb.size
    have i1 : (0 : Int) <= (j : Int) := by omega
    have i2 : (j : Int) < (la : Int) := by omega
    have RV := hidden rv
    have RU := hidden ru
    clear hcx hcy hdj hv0 hv1 hv2 hv3 hu0 hu1 hu2 hu3 hrv hru hxx rv ru
    go_wp2_with fail
    go_region_held3 (fun w' => w'.cell? ⟨bx, ox + j * 4, none⟩ = some (.slice a0 ss.length c0) /\ w'.cell? ⟨bx, ox + j * 4 + 1, none⟩ = some (.slice a1 cs.length c1) /\ w'.cell? ⟨bx, ox + j * 4 + 2, none⟩ = some (.bool f) /\ w'.cell? ⟨bx, ox + j * 4 + 3, none⟩ = some (.slice a3 bs.length c3) /\ w'.cell? ⟨bY, oy + j * 4, none⟩ = some (.slice b0 ss.length d0) /\ w'.cell? ⟨bY, oy + j * 4 + 1, none⟩ = some (.slice b1 cs.length d1) /\ w'.cell? ⟨bY, oy + j * 4 + 2, none⟩ = some (.bool f) /\ w'.cell? ⟨bY, oy + j * 4 + 3, none⟩ = some (.slice b3 bs.length d3))
     (first | (exact ⟨(hbC.cell (p := ⟨bx, ox + j * 4, none⟩) zx).trans hx0, (hbC.cell (p := ⟨bx, ox + j * 4 + 1, none⟩) zx).trans hx1, (hbC.cell (p := ⟨bx, ox + j * 4 + 2, none⟩) zx).trans hx2, (hbC.cell (p := ⟨bx, ox + j * 4 + 3, none⟩) zx).trans hx3, (hbC.cell (p := ⟨bY, oy + j * 4, none⟩) zy).trans hy0, (hbC.cell (p := ⟨bY, oy + j * 4 + 1, none⟩) zy).trans hy1, (hbC.cell (p := ⟨bY, oy + j * 4 + 2, none⟩) zy).trans hy2, (hbC.cell (p := ⟨bY, oy + j * 4 + 3, none⟩) zy).trans hy3⟩) | (exact ⟨hx0, hx1, hx2, hx3, hy0, hy1, hy2, hy3⟩) | go_keep)
     (first | (go_at_call 66; refine (eqMem_rd _ E E' _ _ _ _ _ _ f ss cs bs (by exact RV.out.drew) (by exact RU.out.drew) hil).mono ?_; rintro e wC ⟨rfl, hbC0⟩; have hbC : Below wr.heap.size wr wC := (Below.refl wr.heap.size wr).drew.trans hbC0))
    go_wp2
    go_roundw
    case rel => exact ⟨j + 1, by omega, by go_num, Below.andThen hb hbC⟩
    case measure => simp [intOf]; omega
  . go_wp2
    go_ret
    exact ⟨rfl, hb⟩

theorem szEnt_any (w : World) (x : Int) (a : Option Addr) (n cap : Nat) (left : Int) (hn : n <= 9223372036854775807) (h0 : 0 <= left) (h1 : left <= 1048576) :
 Calls Tryz.prog 55 #[.agg #[.int .i64 x, .slice a n cap], .int .i64 left] w fun e w' => e = .returned (.int .i64 (leftOf left n)) /\ Below w.heap.size w w' := by
 by_cases h : (n : Int) <= left
 . have hq := leftOf_pos h
   go_enter Tryz.func55, Tryz.ntmps55
   go_wp2_with fail
   refine (szIntS_any _ _ _ _ _ hn h0 h1).mono ?_
   rintro e w1 ⟨rfl, rfl⟩
   go_wp2
   go_ret
   exact ⟨ret_int (by omega), (Below.refl _ _).alloc (Nat.le_refl _) _⟩
 . have hq := leftOf_neg (left := left) (wt := n) (by omega)
   go_enter Tryz.func55, Tryz.ntmps55
   go_wp2_with fail
   refine (szIntS_any _ _ _ _ _ hn h0 h1).mono ?_
   rintro e w1 ⟨rfl, rfl⟩
   go_wp2
   go_ret
   exact ⟨ret_int (by omega), (Below.refl _ _).alloc (Nat.le_refl _) _⟩

theorem szEntS_any (w : World) (E : TypeId) (a : Option Addr) (n cap : Nat) (d : List (Int × List Int)) (left : Int) (h : (tWrS E).Rd w [.slice a n cap] d) (h0 : 0 <= left) (h1 : left <= 1048576) :
 Calls Tryz.prog 21 #[.slice a n cap, .int .i64 left] w fun e w' => e = .returned (.int .i64 (leftOf left (wtWrS d))) /\ Below w.heap.size w w' := by
 obtain ⟨hl, hc, hm⟩ := row_length h
 by_cases hlt : (n : Int) <= left
 . go_enter Tryz.func21, Tryz.ntmps21
   go_wp2
   go_loopw [1, 5] (fun l i wr => ∃ j : Nat, j <= n /\ i = .int .i64 j /\ l = .int .i64 (left - n - (sumL ((d.map fun x => x.2.length).take j) : Int)) /\ (sumL ((d.map fun x => x.2.length).take j) : Int) <= left - n /\ Below w.heap.size w wr) (fun _ i _ => n - (intOf i).toNat)
   case atStart => exact ⟨0, Nat.zero_le _, rfl, by simp [sumL], by simp [sumL]; omega, Below.refl _ _⟩
   case round =>
    obtain ⟨j, hj, rfl, rfl, hs, hb⟩ := hrel
    by_cases hjn : j < n
    . rcases pairs_at rfl h with h0' | ⟨b, off, rfl, hbl, hcs⟩
      . omega
      have hdj : d[j]? = some (d[j]'(by omega)) := List.getElem?_eq_getElem (by omega)
      generalize d[j]'(by omega) = x at hdj
      obtain ⟨v0, v1, hv0, hv1, hrv⟩ := hcs j x hdj
      obtain ⟨rfl, hrw⟩ := wr_rd hrv
      obtain ⟨av, cv, rfl⟩ := row_shape hrw
      obtain ⟨_, hxc, hxm⟩ := row_length hrw
      have hw0 := (hb.cell (p := ⟨b, off + j * 2, none⟩) hbl).trans hv0
      have hw1 := (hb.cell (p := ⟨b, off + j * 2 + 1, none⟩) hbl).trans hv1
      have hst := sumL_take (l := d.map fun x => x.2.length) (j := j) (x := x.2.length) (by rw [List.getElem?_map, hdj]; rfl)
      obtain ⟨x0, x1⟩ := x
      simp only at hw0 hw1 hxc hxm hst
      have HW : Hid (sumL ((d.map fun x => x.2.length).take (j + 1)) = sumL ((d.map fun x => x.2.length).take j) + x1.length) := hst
      have hle := sumL_le (l := d.map fun x => x.2.length) (j + 1)
      have HE : Hid (wtWrS d = n + sumL (d.map fun x => x.2.length)) := by unfold Hid wtWrS; rw [hl]
      generalize hS : sumL ((d.map fun x => x.2.length).take j) = S at hs HW
      generalize hT : sumL (d.map fun x => x.2.length) = T at hle HE
      clear hcs hst hS hT hdj hv0 hv1 hrv hrw
      by_cases hx : (x1.length : Int) <= left - n - S
      . have hq := leftOf_pos hx
        go_wp2_with fail
        refine (szEnt_any _ _ _ _ _ _ (by omega) (by omega) (by omega)).mono ?_
        rintro e w1 ⟨rfl, hb1⟩
        have hB := Below.andThen hb hb1
        go_wp2
        go_roundw
        case rel => exact ⟨j + 1, by omega, by go_num, by rw [HW.out]; go_num, by rw [HW.out]; omega, hB⟩
        case measure => simp [intOf]; omega
      . have hq := leftOf_neg (left := left - n - (S : Int)) (wt := x1.length) (by omega)
        have hgt : left < ((wtWrS d : Nat) : Int) := by rw [HE.out]; have := HW.out; omega
        go_wp2_with fail
        refine (szEnt_any _ _ _ _ _ _ (by omega) (by omega) (by omega)).mono ?_
        rintro e w1 ⟨rfl, hb1⟩
        have hB := Below.andThen hb hb1
        go_wp2
        go_ret
        exact ⟨ret_int (leftOf_neg (by omega)).symm, hB⟩
    . go_wp2
      go_ret
      have e : j = n := by omega
      subst e
      have ht : (d.map fun x => x.2.length).take j = d.map fun x => x.2.length := List.take_of_length_le (by simp; omega)
      rw [ht] at hs
      refine ⟨ret_int ?_, hb⟩
      rw [ht, leftOf_pos (by unfold wtWrS; omega)]
      unfold wtWrS
      omega
 . have hgt : left < ((wtWrS d : Nat) : Int) := by unfold wtWrS; omega
   go_enter Tryz.func21, Tryz.ntmps21
   go_wp2
   go_ret
   exact ⟨ret_int (leftOf_neg (by omega)).symm, Below.refl _ _⟩

theorem Tryz.infoEnt : (Tryz.prog.info? 65).map (fun i => (i.zero, i.size, i.bytes)) = some (some (.agg #[.int .i64 0, .slice none 0 0]), 2, 32) := by kernel_rfl

theorem toEnt_any (w : World) (x : Int) (a : Option Addr) (n cap : Nat) (zs : List Int) (h : tIntS.Rd w [.slice a n cap] zs) (hn : n <= 1048576) :
 Calls Tryz.prog 61 #[.agg #[.int .i64 x, .slice a n cap]] w fun e w' => ∃ g, e = .returned (.agg #[.int .i64 x, .slice (some ⟨g, 0, none⟩) n n]) /\ tWr.Own w' w.heap.size w'.heap.size [.int .i64 x, .slice (some ⟨g, 0, none⟩) n n] (x, zs) /\ Below w.heap.size w w' := by
 obtain ⟨hr, hl, _, _⟩ := ints_rd h
 go_enter Tryz.func61, Tryz.ntmps61
 have hA : Below w.heap.size w (((w.alloc (.cells #[.int .i64 x, .slice a n cap] 82)).alloc (.cells #[.int .i64 0, .slice none 0 0] 65)).alloc (.cells #[.int .i64 x, .slice none 0 0] 65)) :=
  (((Below.refl _ _).alloc (Nat.le_refl _) _).alloc (by simp) _).alloc (by simp; omega) _
 have hr3 := hr.below hA
 go_wp2_with fail
 refine (toIntS_any _ _ _ _ zs hl hr3 (by omega)).mono ?_
 rintro e w4 ⟨rfl, ho4, hb4⟩
 obtain ⟨hc, hf⟩ := bcell hb4
 have hz : w.heap.size + 1 + 1 < w4.heap.size := by have := hb4.size; simp at this; omega
 have HO := own_ints ho4
 have HB := hA.trans (hb4.mono (by simp; omega))
 have e3 : (((w.alloc (.cells #[.int .i64 x, .slice a n cap] 82)).alloc (.cells #[.int .i64 0, .slice none 0 0] 65)).alloc (.cells #[.int .i64 x, .slice none 0 0] 65)).heap.size = w.heap.size + 1 + 1 + 1 := by simp
 rw [e3] at HO
 have HO' := hidden HO
 clear HO ho4 hb4 hA hr3 e3
 go_wp2
 have hbt : But w.heap.size (w.heap.size + 1 + 1 + 1) w4 (((w4.setCell ⟨w.heap.size + 1 + 1, 1, none⟩ (.slice (some ⟨w.heap.size + 1 + 1 + 1, 0, none⟩) n n)).setCell ⟨w.heap.size + 1, 0, none⟩ (.int .i64 x)).setCell ⟨w.heap.size + 1, 1, none⟩ (.slice (some ⟨w.heap.size + 1 + 1 + 1, 0, none⟩) n n)) :=
  ((But.setCell (by omega) (by omega) _).trans (But.setCell (by omega) (by omega) _)).trans (But.setCell (by omega) (by omega) _)
 have hO := HO'.out.but hbt (.inr (Nat.le_refl _))
 have hB := Below.andBut HB hbt (Nat.le_refl _)
 have hS := hbt.size
 refine bodyPost_ret (v := .agg #[.int .i64 x, .slice (some ⟨w.heap.size + 1 + 1 + 1, 0, none⟩) n n]) (by simp [results, Tryz.results61, go_sem, hc]) rfl ⟨_, rfl, ?_, hB⟩
 exact pair_own_of (t := intTy) (int_own _ _ _ _) (hO.widen (lo' := w.heap.size) (by omega) hS) (Nat.le_refl _) (by simp; omega)

theorem toEntS_any (w : World) (E : TypeId) (a : Option Addr) (n cap : Nat) (d : List (Int × List Int)) (h : (tWrS E).Rd w [.slice a n cap] d) (hw : wtWrS d <= 1048576) :
 Calls Tryz.prog 28 #[.slice a n cap] w fun e w' => e = .returned (.slice (some ⟨w.heap.size, 0, none⟩) n n) /\ (tWrS 65).Own w' w.heap.size w'.heap.size [.slice (some ⟨w.heap.size, 0, none⟩) n n] d /\ Below w.heap.size w w' := by
 obtain ⟨hl, hc, hm⟩ := row_length h
 obtain ⟨i0, hi, hz0, hz1, hz2⟩ := info_parts Tryz.infoEnt
 have hn : n <= 1048576 := by unfold wtWrS at hw; omega
 have hb3 : i0.bytes * n <= 281474976710656 := by rw [hz2]; omega
 have hm3 : n <= maxLen := by unfold maxLen; omega
 go_enter Tryz.func28, Tryz.ntmps28
 go_wp2_with (at_make; refine wpList_make_full _ rfl _ _ 33 rfl w.heap.size 65 i0 (.agg #[.int .i64 0, .slice none 0 0]) 2 Tryz.underlying33 hi hz0 hz1 _ _ _ _ n rfl rfl rfl rfl hb3 hm3 (Nat.le_refl _) ?_; intro w1 hown hgrow)
 have hO := row_made (t := tWr) (z := (0, [])) hown (by omega) rfl (fun _ => ⟨[], [], rfl, ⟨rfl, rfl⟩, .inl ⟨rfl, rfl, rfl⟩, rfl⟩)
 have hB1 : Below w.heap.size w w1 := (Below.refl _ _).grown hgrow (Nat.le_refl _) (by simp)
 clear hown hgrow
 go_loopw [4] (fun i wr => ∃ j : Nat, j <= n /\ i = .int .i64 j /\ (tWrS 65).Own wr w.heap.size wr.heap.size [.slice (some ⟨w.heap.size, 0, none⟩) n n] (d.take j ++ List.replicate (n - j) (0, [])) /\ Below w.heap.size w wr) (fun i _ => n - (intOf i).toNat)
 case atStart => exact ⟨0, Nat.zero_le _, rfl, by simpa using hO, hB1⟩
 case round =>
  clear hO hB1
  obtain ⟨j, hj, rfl, ho, hb⟩ := hrel
  by_cases hjn : j < n
  . rcases pairs_at rfl h with h0' | ⟨b, off, rfl, hbl, hcs⟩
    . omega
    have hdj : d[j]? = some (d[j]'(by omega)) := List.getElem?_eq_getElem (by omega)
    have hlen : (d[j]'(by omega)).2.length <= 1048576 := by
     have h1 := sumL_take (l := d.map fun x => x.2.length) (j := j) (x := (d[j]'(by omega)).2.length) (by rw [List.getElem?_map, hdj]; rfl)
     have h2 := sumL_le (l := d.map fun x => x.2.length) (j + 1)
     unfold wtWrS at hw
     omega
    have HS := copied_step' d (0, []) _ j hdj
    generalize d[j]'(by omega) = x at hdj hlen HS
    rw [hl] at HS
    have HS' : Hid _ := HS
    obtain ⟨v0, v1, hv0, hv1, hrv⟩ := hcs j x hdj
    obtain ⟨rfl, hrw⟩ := wr_rd hrv
    obtain ⟨av, cv, rfl⟩ := row_shape hrw
    have hw0 := (hb.cell (p := ⟨b, off + j * 2, none⟩) hbl).trans hv0
    have hw1 := (hb.cell (p := ⟨b, off + j * 2 + 1, none⟩) hbl).trans hv1
    have hrr := hrw.below hb
    obtain ⟨x0, x1⟩ := x
    simp only at hw0 hw1 hlen hrr
    clear hcs hdj HS hv0 hv1 hrv hrw
    go_wp2_with fail
    refine (toEnt_any _ _ _ _ _ x1 hrr (by omega)).mono ?_
    rintro e w2 ⟨g2, rfl, ho2, hb2⟩
    have s2 := hb2.size
    obtain ⟨⟨old0, hcy0⟩, ⟨old1, hcy1⟩, hfy0, hfy1, hst, hbt⟩ := row_store2 rfl (ho.below hb2) hjn ho2 (Nat.le_refl _) s2
    rw [HS'.out] at hst
    have HST := hidden hst
    have HB := Below.andThen hb hb2
    clear ho ho2 hb2 hst hbt hb
    go_wp2
    go_roundw
    case rel => exact ⟨j + 1, by omega, by go_num, by first | exact HST.out | (simp only [World.size_setCell]; exact HST.out), (HB.setCell (p := ⟨w.heap.size, j * 2, none⟩) (Nat.le_refl _) _).setCell (p := ⟨w.heap.size, j * 2 + 1, none⟩) (Nat.le_refl _) _⟩
    case measure => simp [intOf]; omega
  . go_wp2
    go_ret
    have e : j = n := by omega
    subst e
    rw [Nat.sub_self, List.replicate_zero, List.append_nil, List.take_of_length_le (by omega)] at ho
    exact ⟨rfl, ho, hb⟩

theorem eqEnt_any (w : World) (x y : Int) (a b : Option Addr) (la lb ca cb : Nat) (zs us : List Int) (h : tIntS.Rd w [.slice a la ca] zs) (h' : tIntS.Rd w [.slice b lb cb] us) (hla : la <= 2097152) :
 Calls Tryz.prog 67 #[.agg #[.int .i64 x, .slice a la ca], .agg #[.int .i64 y, .slice b lb cb]] w fun e w' => e = .returned (.bool (sameB (x, zs) (y, us))) /\ Below w.heap.size w w' := by
 have hA : Below w.heap.size w ((w.alloc (.cells #[.int .i64 x, .slice a la ca] 65)).alloc (.cells #[.int .i64 y, .slice b lb cb] 65)) := ((Below.refl _ _).alloc (Nat.le_refl _) _).alloc (by simp) _
 obtain ⟨r1, hl, _, _⟩ := ints_rd (h.below hA)
 obtain ⟨r2, hl', _, _⟩ := ints_rd (h'.below hA)
 by_cases hxy : x = y
 . subst hxy
   go_enter Tryz.func67, Tryz.ntmps67
   go_wp2_with fail
   refine (eqIntS_any _ _ _ _ _ _ _ zs us hl hl' r1 r2 hla).mono ?_
   rintro e w1 ⟨rfl, hs1⟩
   have hB := Below.andSame hA hs1
   by_cases hz : zs = us
   . have hde : decide (zs = us) = true := by simpa using hz
     have HZ := hidden hz
     clear hz
     go_wp2
     go_ret
     exact ⟨ret_bool (by rw [HZ.out, sameB_self]), hB⟩
   . have hde : decide (zs = us) = false := by simpa using hz
     go_wp2
     go_ret
     exact ⟨ret_bool (sameB_not (by simpa using hz)).symm, hB⟩
 . have hne : (x == y) = false := by simpa using hxy
   go_enter Tryz.func67, Tryz.ntmps67
   go_wp2
   go_ret
   exact ⟨ret_bool (sameB_not (by simp [hxy])).symm, hA⟩

theorem eqEntS_any (w : World) (E E' : TypeId) (a b : Option Addr) (la lb ca cb : Nat) (d d' : List (Int × List Int)) (h : (tWrS E).Rd w [.slice a la ca] d) (h' : (tWrS E').Rd w [.slice b lb cb] d') (hw : wtWrS d <= 2097152) :
 Calls Tryz.prog 35 #[.slice a la ca, .slice b lb cb] w fun e w' => e = .returned (.bool (decide (d = d'))) /\ Below w.heap.size w w' := by
 obtain ⟨hl, hc, hm⟩ := row_length h
 obtain ⟨hl', hc', hm'⟩ := row_length h'
 have hla : la <= 2097152 := by unfold wtWrS at hw; omega
 by_cases hlen : la = lb
 . subst hlen
   go_enter Tryz.func35, Tryz.ntmps35
   go_wp2
   go_loopw [5] (fun i wr => ∃ j : Nat, j <= la /\ i = .int .i64 j /\ d.take j = d'.take j /\ Below w.heap.size w wr) (fun i _ => la - (intOf i).toNat)
   case atStart => exact ⟨0, Nat.zero_le _, rfl, rfl, Below.refl _ _⟩
   case round =>
    obtain ⟨j, hj, rfl, ht, hb⟩ := hrel
    by_cases hjn : j < la
    . rcases pairs_at rfl h with h0' | ⟨bx, ox, rfl, hbx, hcx⟩
      . omega
      rcases pairs_at rfl h' with h0' | ⟨bY, oy, rfl, hby, hcy⟩
      . omega
      have hdj : d[j]? = some (d[j]'(by omega)) := List.getElem?_eq_getElem (by omega)
      have hdj' : d'[j]? = some (d'[j]'(by omega)) := List.getElem?_eq_getElem (by omega)
      generalize d[j]'(by omega) = x at hdj
      generalize d'[j]'(by omega) = y at hdj'
      have hal := heads_alike' hdj hdj'
      have hil := inner_le' hdj
      obtain ⟨v0, v1, hv0, hv1, hrv⟩ := hcx j x hdj
      obtain ⟨rfl, hrv'⟩ := wr_rd hrv
      obtain ⟨av, cv, rfl⟩ := row_shape hrv'
      obtain ⟨u0, u1, hu0, hu1, hru⟩ := hcy j y hdj'
      obtain ⟨rfl, hru'⟩ := wr_rd hru
      obtain ⟨au, cu, rfl⟩ := row_shape hru'
      have hw0 := (hb.cell (p := ⟨bx, ox + j * 2, none⟩) hbx).trans hv0
      have hw1 := (hb.cell (p := ⟨bx, ox + j * 2 + 1, none⟩) hbx).trans hv1
      have hw2 := (hb.cell (p := ⟨bY, oy + j * 2, none⟩) hby).trans hu0
      have hw3 := (hb.cell (p := ⟨bY, oy + j * 2 + 1, none⟩) hby).trans hu1
      have r1 := hrv'.below hb
      have r2 := hru'.below hb
      have zx : bx < wr.heap.size := Nat.lt_of_lt_of_le hbx hb.size
      have zy : bY < wr.heap.size := Nat.lt_of_lt_of_le hby hb.size
      have i1 : (0 : Int) <= (j : Int) := by omega
      have i2 : (j : Int) < (la : Int) := by omega
      have HT := hidden ht
      obtain ⟨x0, x1⟩ := x
      obtain ⟨y0, y1⟩ := y
      simp only at hw0 hw1 hw2 hw3 r1 r2 hil
      clear hcx hcy hdj hdj' hv0 hv1 hu0 hu1 hrv hru hrv' hru' ht
      by_cases hxy : (x0, x1) = (y0, y1)
      . obtain ⟨rfl, rfl⟩ : x0 = y0 /\ x1 = y1 := by simpa using hxy
        have HD := hidden (hal.1 rfl HT.out)
        have hde := sameB_self (x0, x1)
        clear hal hxy
        go_wp2_with fail
        go_region_held3 (fun w' => w'.cell? ⟨bx, ox + j * 2, none⟩ = some (.int .i64 x0) /\ w'.cell? ⟨bx, ox + j * 2 + 1, none⟩ = some (.slice av x1.length cv) /\ w'.cell? ⟨bY, oy + j * 2, none⟩ = some (.int .i64 x0) /\ w'.cell? ⟨bY, oy + j * 2 + 1, none⟩ = some (.slice au x1.length cu))
         (first | (exact ⟨(hbC.cell (p := ⟨bx, ox + j * 2, none⟩) zx).trans hw0, (hbC.cell (p := ⟨bx, ox + j * 2 + 1, none⟩) zx).trans hw1, (hbC.cell (p := ⟨bY, oy + j * 2, none⟩) zy).trans hw2, (hbC.cell (p := ⟨bY, oy + j * 2 + 1, none⟩) zy).trans hw3⟩) | (exact ⟨hw0, hw1, hw2, hw3⟩) | go_keep)
         (first | (go_at_call 67; refine (eqEnt_any _ _ _ _ _ _ _ _ _ x1 x1 (by exact r1.drew) (by exact r2.drew) (by omega)).mono ?_; rintro e wC ⟨rfl, hbC0⟩; have hbC : Below wr.heap.size wr wC := (Below.refl wr.heap.size wr).drew.trans hbC0))
        go_wp2
        go_roundw
        case rel => exact ⟨j + 1, by omega, by go_num, HD.out, Below.andThen hb hbC⟩
        case measure => simp [intOf]; omega
      . have HN := hidden (hal.2 hxy)
        have hde := sameB_not hxy
        clear hal hxy
        go_wp2_with fail
        go_region_held3 (fun w' => w'.cell? ⟨bx, ox + j * 2, none⟩ = some (.int .i64 x0) /\ w'.cell? ⟨bx, ox + j * 2 + 1, none⟩ = some (.slice av x1.length cv) /\ w'.cell? ⟨bY, oy + j * 2, none⟩ = some (.int .i64 y0) /\ w'.cell? ⟨bY, oy + j * 2 + 1, none⟩ = some (.slice au y1.length cu))
         (first | (exact ⟨(hbC.cell (p := ⟨bx, ox + j * 2, none⟩) zx).trans hw0, (hbC.cell (p := ⟨bx, ox + j * 2 + 1, none⟩) zx).trans hw1, (hbC.cell (p := ⟨bY, oy + j * 2, none⟩) zy).trans hw2, (hbC.cell (p := ⟨bY, oy + j * 2 + 1, none⟩) zy).trans hw3⟩) | (exact ⟨hw0, hw1, hw2, hw3⟩) | go_keep)
         (first | (go_at_call 67; refine (eqEnt_any _ _ _ _ _ _ _ _ _ x1 y1 (by exact r1.drew) (by exact r2.drew) (by omega)).mono ?_; rintro e wC ⟨rfl, hbC0⟩; have hbC : Below wr.heap.size wr wC := (Below.refl wr.heap.size wr).drew.trans hbC0))
        go_wp2
        go_ret
        exact ⟨ret_bool (by have := HN.out; simpa using this), Below.andThen hb hbC⟩
    . go_wp2
      go_ret
      have e : j = la := by omega
      subst e
      rw [List.take_of_length_le (by omega), List.take_of_length_le (by omega)] at ht
      exact ⟨ret_bool (by simp [ht]), hb⟩
 . have hne : ((la : Int) == (lb : Int)) = false := by simp; omega
   go_enter Tryz.func35, Tryz.ntmps35
   go_wp2
   go_ret
   exact ⟨ret_bool (by simp; intro e; apply hlen; rw [← hl, ← hl', e]), Below.refl _ _⟩

theorem markEntS_fp (w : World) (a : Option Addr) (n cap : Nat) (d : List (Int × List Int)) (k0 : Int) (fp : List Nat) (h : (tWrS 65).Mine w [.slice a n cap] d fp) (hw : wtWrS d <= 2097152) (hk : 0 <= k0) (hk' : k0 + (wtWrS d : Int) <= 2097153) :
 Calls Tryz.prog 43 #[.slice a n cap, .int .i64 k0] w fun e w' => e = .returned (.int .i64 (k0 + (cntWS d : Int))) /\ (tWrS 65).Mine w' [.slice a n cap] (markW k0 d) fp /\ Turned fp w w' := by
 obtain ⟨hl, hc, hm⟩ := row_length h.rd
 have hmL : (markW k0 d).length = d.length := markL_length _ _ _ _
 have hnn : n <= 2097152 := by unfold wtWrS at hw; omega
 have hwt := cntWS_wt d
 go_enter Tryz.func43, Tryz.ntmps43
 go_wp2
 go_loopw [1, 5] (fun kk i wr => ∃ j : Nat, j <= n /\ i = .int .i64 j /\ kk = .int .i64 (k0 + (sumL ((d.map cntW).take j) : Int)) /\ (tWrS 65).Mine wr [.slice a n cap] ((markW k0 d).take j ++ d.drop j) fp /\ Turned fp w wr) (fun _ i _ => n - (intOf i).toNat)
 case atStart => exact ⟨0, Nat.zero_le _, rfl, by simp [sumL], by simpa using h, Turned.refl _ _⟩
 case round =>
  obtain ⟨j, hj, rfl, rfl, ho, hb⟩ := hrel
  by_cases hjn : j < n
  . have hdj : d[j]? = some (d[j]'(by omega)) := List.getElem?_eq_getElem (by omega)
    generalize d[j]'(by omega) = x at hdj
    have hst := sumL_take (l := d.map cntW) (j := j) (x := cntW x) (by rw [List.getElem?_map, hdj]; rfl)
    have hle := sumL_le (l := d.map cntW) (j + 1)
    unfold cntWS at hwt
    have HM := hidden (turn_step hmL (markL_at (c := cntW) (mk := markW1) (k := k0) hdj))
    have hat := turn_at (m := markW k0 d) hmL hdj
    have HW := hidden hst
    generalize sumL ((d.map cntW).take j) = S at hst HM HW
    have hcx : cntW x = 1 + x.2.length := rfl
    have hS : S + 1 + x.2.length <= 2097152 := by omega
    have hS2 : k0 + (S : Int) <= 2097153 := by omega
    rcases row_ow_shape ho with h0' | ⟨g, rfl⟩
    . omega
    obtain ⟨cs1, f1, ow1, hgf, hgp, hf1, hcc, hfz, _, back⟩ := row_open ho hat
    have hcl := tWr.rdLen (tWr.owRd ow1.1)
    obtain ⟨v0, v1, rfl⟩ : ∃ v0 v1, cs1 = [v0, v1] := by
     match cs1, hcl with
     | [v0, v1], _ => exact ⟨v0, v1, rfl⟩
    obtain ⟨x0, x1⟩ := x
    obtain ⟨fa, fb, hfe, ⟨⟨hv0, hfa⟩, _⟩, hmv, _⟩ := pair_mine (t := intTy) (u := tIntS) (vs := [v0]) (us := [v1]) rfl ow1
    simp at hv0
    subst hv0
    subst hfa
    rw [List.nil_append] at hfe
    subst hfe
    have hc0 : wr.cell? ⟨g, j * 2, none⟩ = some (.int .i64 x0) := hcc 0 (by show 0 < 2; omega)
    have hc1 : wr.cell? ⟨g, j * 2 + 1, none⟩ = some v1 := hcc 1 (by show 1 < 2; omega)
    obtain ⟨av, cv, rfl⟩ := row_shape hmv.rd
    have hlt := ho.lt
    have hf0 := hfz (j * 2)
    have hT1 : Turned [g] wr (wr.setCell ⟨g, j * 2, none⟩ (.int .i64 (k0 + (S : Int)))) := Turned.setCell _ (by simp)
    have hmv1 := hmv.kept hT1 (fun b hb hb' => hgf (by simp at hb'; exact hb' ▸ hb))
    have HBK := hidden back
    have HOW := hidden hmv1
    have HT1 := hidden hT1
    have HLT := hidden hlt
    have HCL := hidden hc1
    simp only at hS
    clear hcc back hcl ow1 hat hdj ho hst hmv hmv1 hT1 hlt hfz
    go_wp2_with fail
    refine (markIntS_fp _ _ _ _ x1 _ f1 HOW.out (by omega) (by omega) (by omega)).mono ?_
    rintro e w2 ⟨rfl, o2, hb2⟩
    have hsz : (wr.setCell ⟨g, j * 2, none⟩ (.int .i64 (k0 + (S : Int)))).heap.size = wr.heap.size := World.size_setCell _ _ _
    have hglt : g < wr.heap.size := HLT.out g hgp
    have hO := HBK.out w2 [.int .i64 (k0 + (S : Int)), .slice av x1.length cv] (k0 + (S : Int), marks id (k0 + (S : Int) + 1) x1.length)
     (pair_mine_of (t := intTy) (u := tIntS) (vs := [_]) (us := [_]) (f1 := []) ⟨⟨rfl, rfl⟩, by simp⟩ o2 (by simp))
     (fun b hb hbf hbg => (hb2.block b (by rw [hsz]; exact HLT.out b hb) hbf).trans (HT1.out.block b (HLT.out b hb) (by simpa using hbg)))
     (Nat.le_trans HT1.out.size hb2.size)
     (fun cur hcur hcs hnc => by
      refine ⟨cur.setIfInBounds (j * 2) (.int .i64 (k0 + (S : Int))), ?_, by simp, fun k => ?_⟩
      . rw [hb2.block g (by rw [hsz]; exact hglt) hgf]
        exact heap_setCell_same wr g _ cur _ _ hcur
      . rw [Array.toList_setIfInBounds]
        have hcs' : cur.size = cap * 2 := hcs
        by_cases h0 : k = j * 2
        . subst h0
          rw [if_pos (by omega), List.getElem?_set_self (by simp; omega), Nat.sub_self]
          rfl
        . rw [List.getElem?_set_ne (by omega)]
          by_cases h1 : k = j * 2 + 1
          . subst h1
            rw [if_pos (by omega), Nat.add_sub_cancel_left]
            have := HCL.out
            rw [cell_of_row wr g _ cur _ (0, 0) hcur] at this
            rw [Array.getElem?_toList, this]
            rfl
          . rw [if_neg (by omega)])
    have e2 : markW1 (k0 + (S : Int)) (x0, x1) = (k0 + (S : Int), marks id (k0 + (S : Int) + 1) x1.length) := rfl
    rw [← e2, HM.out] at hO
    have HO := hidden hO
    have HB := (hb.trans (HT1.out.mono (by simpa using hgp))).trans (hb2.mono hf1)
    clear hO o2 hb2 HBK hb e2 hsz HT1 HLT HCL
    go_wp2
    go_roundw
    case rel => exact ⟨j + 1, by omega, by go_num, by rw [HW.out, hcx]; go_num, HO.out, HB⟩
    case measure => simp [intOf]; omega
  . go_wp2
    go_ret
    have e : j = n := by omega
    subst e
    have ht : (d.map cntW).take j = d.map cntW := List.take_of_length_le (by simp; omega)
    rw [List.take_of_length_le (by omega), List.drop_of_length_le (by omega), List.append_nil] at ho
    exact ⟨ret_int (by rw [ht]; rfl), ho, hb⟩

theorem heldEntS_any (w : World) (E : TypeId) (a : Option Addr) (n cap : Nat) (d : List (Int × List Int)) (k0 : Int) (h : (tWrS E).Rd w [.slice a n cap] (markW k0 d)) (hw : wtWrS d <= 2097152) (hk : 0 <= k0) (hk' : k0 + (wtWrS d : Int) <= 2097153) :
 Calls Tryz.prog 45 #[.slice a n cap, .int .i64 k0] w fun e w' => e = .returned (.int .i64 (k0 + (cntWS d : Int))) /\ Same w w' := by
 obtain ⟨hl, hc, hm⟩ := row_length h
 have hmL : (markW k0 d).length = d.length := markL_length _ _ _ _
 rw [hmL] at hl
 have hn : n <= 2097152 := by unfold wtWrS at hw; omega
 have hwt := cntWS_wt d
 go_enter Tryz.func45, Tryz.ntmps45
 go_wp2
 go_loopw [1, 5] (fun kk i wr => ∃ j : Nat, j <= n /\ i = .int .i64 j /\ kk = .int .i64 (k0 + (sumL ((d.map cntW).take j) : Int)) /\ Same w wr) (fun _ i _ => n - (intOf i).toNat)
 case atStart => exact ⟨0, Nat.zero_le _, rfl, by simp [sumL], Same.refl _⟩
 case round =>
  obtain ⟨j, hj, rfl, rfl, hs⟩ := hrel
  by_cases hjn : j < n
  . have hdj : d[j]? = some (d[j]'(by omega)) := List.getElem?_eq_getElem (by omega)
    generalize d[j]'(by omega) = x at hdj
    have hst := sumL_take (l := d.map cntW) (j := j) (x := cntW x) (by rw [List.getElem?_map, hdj]; rfl)
    have hle := sumL_le (l := d.map cntW) (j + 1)
    unfold cntWS at hwt
    have hcx : cntW x = 1 + x.2.length := rfl
    rcases pairs_at rfl h with h0' | ⟨b, off, rfl, hbl, hcs⟩
    . omega
    obtain ⟨v0, v1, hv0, hv1, hrv⟩ := hcs j _ (markL_at (c := cntW) (mk := markW1) (k := k0) hdj)
    obtain ⟨rfl, hrv'⟩ := wr_rd hrv
    obtain ⟨av, cv, rfl⟩ := row_shape hrv'
    have e1 : (markW1 (k0 + (sumL ((d.map cntW).take j) : Int)) x).2.length = x.2.length := marks_length _ _ _
    rw [e1] at hv1 hrv'
    have hw0 := (hs.cell ⟨b, off + j * 2, none⟩).trans hv0
    have hw1 := (hs.cell ⟨b, off + j * 2 + 1, none⟩).trans hv1
    obtain ⟨hrr, _, _, _⟩ := ints_rd (hrv'.same hs)
    have HW := hidden hst
    clear e1
    unfold markW1 at hrr hw0
    simp only at hrr hw0
    generalize sumL ((d.map cntW).take j) = S at hst HW hrr hw0
    clear hcs hdj hv0 hv1 hrv hrv'
    go_wp2_with fail
    refine (heldIntS_any _ _ _ _ _ hrr (by omega) (by omega) (by omega)).mono ?_
    rintro e w2 ⟨rfl, hs2⟩
    go_wp2
    go_roundw
    case rel => exact ⟨j + 1, by omega, by go_num, by rw [HW.out, hcx]; go_num, hs.trans hs2⟩
    case measure => simp [intOf]; omega
  . go_wp2
    go_ret
    have e : j = n := by omega
    subst e
    have ht : (d.map cntW).take j = d.map cntW := List.take_of_length_le (by simp; omega)
    exact ⟨ret_int (by rw [ht]; rfl), hs⟩

def inB (x least most : Int) : Bool := decide (least <= x) && decide (x <= most)
theorem l1In_any (x least most : Int) (w : World) : Calls Tryz.prog 47 #[.int .i64 x, .int .i64 least, .int .i64 most] w fun e w' => e = .returned (.bool (inB x least most)) /\ w' = w := by
 unfold inB
 by_cases h0 : least <= x
 . by_cases h1 : x <= most
   . go_enter Tryz.func47, Tryz.ntmps47
     go_wp2
     go_ret
     exact ⟨ret_bool (by simp [h0, h1]), rfl⟩
   . go_enter Tryz.func47, Tryz.ntmps47
     go_wp2
     go_ret
     exact ⟨ret_bool (by symm; simp; omega), rfl⟩
 . go_enter Tryz.func47, Tryz.ntmps47
   go_wp2
   go_ret
   exact ⟨ret_bool (by symm; simp; omega), rfl⟩

theorem within_any (x least most : Int) (w : World) : Calls Tryz.prog 124 #[.int .i64 x, .int .i64 least, .int .i64 most] w fun e w' => e = .returned (.bool (inB x least most)) /\ w' = w := by
 unfold inB
 by_cases h0 : least <= x
 . by_cases h1 : x <= most
   . go_enter Tryz.func124, Tryz.ntmps124
     go_wp2
     go_ret
     exact ⟨ret_bool (by simp [h0, h1]), rfl⟩
   . go_enter Tryz.func124, Tryz.ntmps124
     go_wp2
     go_ret
     exact ⟨ret_bool (by symm; simp; omega), rfl⟩
 . go_enter Tryz.func124, Tryz.ntmps124
   go_wp2
   go_ret
   exact ⟨ret_bool (by symm; simp; omega), rfl⟩

def geoB (n s : Int) : Bool := inB n 3 5 && inB s 1 8
def blocksN (n s : Int) : Int := if geoB n s = true then s * (n - 1) else 0
def stripeB (n s t : Int) : Bool := geoB n s && inB t 0 (s - 1)
def parN (n s t : Int) : Int := if stripeB n s t = true then n - 1 - t % n else -1
def spotB (n s t i : Int) : Bool := stripeB n s t && inB i 0 (n - 2)
def diskN (n s t i : Int) : Int := if spotB n s t i = true then (n - 1 - t % n + 1 + i) % n else -1
def blockB (n s b : Int) : Bool := inB b 0 (blocksN n s - 1)
def stripeN (n s b : Int) : Int := if blockB n s b = true then b / (n - 1) else -1
def indexN (n s b : Int) : Int := if blockB n s b = true then b % (n - 1) else -1
def blockN (n s t i : Int) : Int := if spotB n s t i = true then t * (n - 1) + i else -1

theorem inB_iff {x l m : Int} : inB x l m = true ↔ l <= x /\ x <= m := by unfold inB; simp
theorem inB_not {x l m : Int} : inB x l m = false ↔ ¬ (l <= x /\ x <= m) := by rw [← inB_iff]; simp
theorem geoB_iff {n s : Int} : geoB n s = true ↔ 3 <= n /\ n <= 5 /\ 1 <= s /\ s <= 8 := by unfold geoB; rw [Bool.and_eq_true, inB_iff, inB_iff, and_assoc]
theorem geoB_blocks {n s : Int} (h : geoB n s = true) : 2 <= s * (n - 1) /\ s * (n - 1) <= 32 := by
 obtain ⟨h1, h2, h3, h4⟩ := geoB_iff.1 h
 have : n = 3 ∨ n = 4 ∨ n = 5 := by omega
 rcases this with rfl | rfl | rfl <;> omega
theorem blocksN_of {n s : Int} (h : geoB n s = true) : blocksN n s = s * (n - 1) := by unfold blocksN; rw [if_pos h]
theorem blocksN_not {n s : Int} (h : geoB n s = false) : blocksN n s = 0 := by unfold blocksN; rw [if_neg (by simp [h])]
theorem blocksN_range (n s : Int) : 0 <= blocksN n s /\ blocksN n s <= 32 := by
 by_cases h : geoB n s = true
 . rw [blocksN_of h]
   have := geoB_blocks h
   omega
 . rw [blocksN_not (by simpa using h)]
   omega

def Gbox (w : World) (B : Nat) (T : TypeId) (n s : Int) : Prop := w.heap[B]? = some (.cells #[.int .i64 n, .int .i64 s] T (0, 0))
theorem Gbox.cells {w : World} {B : Nat} {T : TypeId} {n s : Int} (h : Gbox w B T n s) : w.cell? ⟨B, 0, none⟩ = some (.int .i64 n) /\ w.cell? ⟨B, 1, none⟩ = some (.int .i64 s) :=
 ⟨cell_of_row w B 0 _ T (0, 0) h, cell_of_row w B 1 _ T (0, 0) h⟩
theorem Gbox.frozen {w : World} {B : Nat} {T : TypeId} {n s : Int} (h : Gbox w B T n s) (j : Nat) : w.frozen? ⟨B, j, none⟩ = false := frozen_of_row w B j _ T h
theorem Gbox.new (w : World) (T : TypeId) (n s : Int) : Gbox (w.alloc (.cells #[.int .i64 n, .int .i64 s] T)) w.heap.size T n s := heap_alloc_new w _
theorem Gbox.lt {w : World} {B : Nat} {T : TypeId} {n s : Int} (h : Gbox w B T n s) : B < w.heap.size := (Array.getElem?_eq_some_iff.1 h).1
theorem Gbox.below {w w' : World} {B N : Nat} {T : TypeId} {n s : Int} (h : Gbox w B T n s) (hb : Below N w w') (hN : B < N) : Gbox w' B T n s := (hb.block B hN).trans h
theorem Gbox.drew {w : World} {B : Nat} {T : TypeId} {n s : Int} (h : Gbox w B T n s) : Gbox w.drew B T n s := h
theorem Gbox.set2 {w : World} {B : Nat} {T : TypeId} {n s : Int} (h : Gbox w B T n s) (a c : Int) : Gbox ((w.setCell ⟨B, 0, none⟩ (.int .i64 a)).setCell ⟨B, 1, none⟩ (.int .i64 c)) B T a c := by
 have h1 : (w.setCell ⟨B, 0, none⟩ (.int .i64 a)).heap[B]? = some (.cells #[.int .i64 a, .int .i64 s] T (0, 0)) := heap_setCell_same w B 0 _ _ _ h
 exact heap_setCell_same _ B 1 _ _ _ h1

theorem implGeoOk_any (w : World) (n s : Int) : Calls Tryz.prog 102 #[.agg #[.int .i64 n, .int .i64 s]] w fun e w' => e = .returned (.bool (geoB n s)) /\ Below w.heap.size w w' := by
 have hA := new_below w (.cells #[.int .i64 n, .int .i64 s] 31)
 obtain ⟨k0, k1⟩ := (Gbox.new w 31 n s).cells
 by_cases h1 : 3 <= n
 . by_cases h2 : n <= 5
   . by_cases h3 : 1 <= s
     . by_cases h4 : s <= 8
       . go_enter Tryz.func102, Tryz.ntmps102
         go_wp2
         go_ret
         exact ⟨ret_bool (by symm; rw [geoB_iff]; omega), hA⟩
       . go_enter Tryz.func102, Tryz.ntmps102
         go_wp2
         go_ret
         exact ⟨ret_bool (by symm; rw [← Bool.not_eq_true, geoB_iff]; omega), hA⟩
     . go_enter Tryz.func102, Tryz.ntmps102
       go_wp2
       go_ret
       exact ⟨ret_bool (by symm; rw [← Bool.not_eq_true, geoB_iff]; omega), hA⟩
   . go_enter Tryz.func102, Tryz.ntmps102
     go_wp2
     go_ret
     exact ⟨ret_bool (by symm; rw [← Bool.not_eq_true, geoB_iff]; omega), hA⟩
 . go_enter Tryz.func102, Tryz.ntmps102
   go_wp2
   go_ret
   exact ⟨ret_bool (by symm; rw [← Bool.not_eq_true, geoB_iff]; omega), hA⟩

theorem specGeoOk_any (w : World) (n s : Int) : Calls Tryz.prog 92 #[.agg #[.int .i64 n, .int .i64 s]] w fun e w' => e = .returned (.bool (geoB n s)) /\ Below w.heap.size w w' := by
 have hA := new_below w (.cells #[.int .i64 n, .int .i64 s] 31)
 obtain ⟨k0, k1⟩ := (Gbox.new w 31 n s).cells
 by_cases h1 : inB n 3 5 = true
 . go_enter Tryz.func92, Tryz.ntmps92
   go_wp2_with fail
   refine (l1In_any _ _ _ _).mono ?_
   rintro e w1 ⟨rfl, rfl⟩
   go_wp2_with fail
   refine (l1In_any _ _ _ _).mono ?_
   rintro e w1 ⟨rfl, rfl⟩
   go_wp2
   go_ret
   exact ⟨ret_bool (by unfold geoB; rw [h1]; rfl), hA⟩
 . have h1 : inB n 3 5 = false := by simpa using h1
   go_enter Tryz.func92, Tryz.ntmps92
   go_wp2_with fail
   refine (l1In_any _ _ _ _).mono ?_
   rintro e w1 ⟨rfl, rfl⟩
   go_wp2
   go_ret
   exact ⟨ret_bool (by unfold geoB; rw [h1]; rfl), hA⟩

theorem toGeo_any (w : World) (n s : Int) : Calls Tryz.prog 26 #[.agg #[.int .i64 n, .int .i64 s]] w fun e w' => e = .returned (.agg #[.int .i64 n, .int .i64 s]) /\ Below w.heap.size w w' := by
 go_enter Tryz.func26, Tryz.ntmps26
 go_wp2
 refine bodyPost_ret (v := .agg #[.int .i64 n, .int .i64 s]) (by simp [results, Tryz.results26, go_sem]) rfl ?_
 refine ⟨rfl, ?_⟩
 exact ((new_below w _).alloc (by simp) _).alloc (by simp; omega) _

structure ArrN where
 id : Int
 n : Int
 s : Int
 lost : Int
 built : Int
 seq : Int
 tail : Int
 gen : Int
 fuse : Int
 down : Bool
 broken : Bool

def wtArr (ms : List MemD) (ds : List (Int × List Int)) : Nat := wtMemS ms + wtWrS ds
theorem Box.cells13 {w : World} {B : Nat} {T : TypeId} {v0 v1 v2 v3 v4 v5 v6 v7 v8 v9 v10 v11 v12 : Value} (h : Box w B T #[v0, v1, v2, v3, v4, v5, v6, v7, v8, v9, v10, v11, v12]) : w.cell? ⟨B, 0, none⟩ = some v0 /\ w.cell? ⟨B, 1, none⟩ = some v1 /\ w.cell? ⟨B, 2, none⟩ = some v2 /\ w.cell? ⟨B, 3, none⟩ = some v3 /\ w.cell? ⟨B, 4, none⟩ = some v4 /\ w.cell? ⟨B, 5, none⟩ = some v5 /\ w.cell? ⟨B, 6, none⟩ = some v6 /\ w.cell? ⟨B, 7, none⟩ = some v7 /\ w.cell? ⟨B, 8, none⟩ = some v8 /\ w.cell? ⟨B, 9, none⟩ = some v9 /\ w.cell? ⟨B, 10, none⟩ = some v10 /\ w.cell? ⟨B, 11, none⟩ = some v11 /\ w.cell? ⟨B, 12, none⟩ = some v12 := ⟨h.cell 0, h.cell 1, h.cell 2, h.cell 3, h.cell 4, h.cell 5, h.cell 6, h.cell 7, h.cell 8, h.cell 9, h.cell 10, h.cell 11, h.cell 12⟩

def puts (w : World) (B : Nat) : List (Nat × Value) -> World
 | [] => w
 | x :: r => puts (w.setCell ⟨B, x.1, none⟩ x.2) B r
theorem puts_but (B : Nat) : ∀ (l : List (Nat × Value)) (w : World), But B (B + 1) w (puts w B l)
 | [], _ => But.refl _ _ _
 | _ :: r, _ => (But.setCell (Nat.le_refl _) (Nat.lt_succ_self _) _).trans (puts_but B r _)
theorem puts_box {B : Nat} {T : TypeId} : ∀ (l : List (Nat × Value)) {w : World} {cs : Array Value}, Box w B T cs -> Box (puts w B l) B T (l.foldl (fun a x => a.setIfInBounds x.1 x.2) cs)
 | [], _, _, h => h
 | x :: r, _, _, h => puts_box r (h.set x.1 x.2)

theorem szArr_any (w : World) (E F G : TypeId) (x : ArrN) (am ad : Option Addr) (nm cm nd cd : Nat) (ms : List MemD) (ds : List (Int × List Int)) (left : Int) (h0 : (tMemS E F).Rd w [.slice am nm cm] ms) (h1 : (tWrS G).Rd w [.slice ad nd cd] ds) (hl0 : 0 <= left) (hl1 : left <= 1048576) :
 Calls Tryz.prog 7 #[.agg #[.int .i64 x.id, .int .i64 x.n, .int .i64 x.s, .slice am nm cm, .int .i64 x.lost, .int .i64 x.built, .int .i64 x.seq, .int .i64 x.tail, .int .i64 x.gen, .slice ad nd cd, .int .i64 x.fuse, .bool x.down, .bool x.broken], .int .i64 left] w fun e w' => e = .returned (.int .i64 (leftOf left (wtArr ms ds))) /\ Below w.heap.size w w' := by
 have hA := new_below w (.cells #[.int .i64 x.id, .int .i64 x.n, .int .i64 x.s, .slice am nm cm, .int .i64 x.lost, .int .i64 x.built, .int .i64 x.seq, .int .i64 x.tail, .int .i64 x.gen, .slice ad nd cd, .int .i64 x.fuse, .bool x.down, .bool x.broken] 27)
 have X := Box.new w 27 #[.int .i64 x.id, .int .i64 x.n, .int .i64 x.s, .slice am nm cm, .int .i64 x.lost, .int .i64 x.built, .int .i64 x.seq, .int .i64 x.tail, .int .i64 x.gen, .slice ad nd cd, .int .i64 x.fuse, .bool x.down, .bool x.broken]
 obtain ⟨k0, k1, k2, k3, k4, k5, k6, k7, k8, k9, k10, k11, k12⟩ := X.cells13
 have zA := X.lt
 go_enter Tryz.func7, Tryz.ntmps7
 go_wp2_with fail
 generalize w.alloc (.cells #[.int .i64 x.id, .int .i64 x.n, .int .i64 x.s, .slice am nm cm, .int .i64 x.lost, .int .i64 x.built, .int .i64 x.seq, .int .i64 x.tail, .int .i64 x.gen, .slice ad nd cd, .int .i64 x.fuse, .bool x.down, .bool x.broken] 27) = W at hA X zA k0 k1 k2 k3 k4 k5 k6 k7 k8 k9 k10 k11 k12 ⊢
 refine (szMemS_any _ E F _ _ _ ms left (h0.below hA) hl0 hl1).mono ?_
 rintro e w1 ⟨rfl, b1⟩
 have X1 := X.below b1 zA
 have B1 := Below.andThen hA b1
 clear k0 k1 k2 k3 k4 k5 k6 k7 k8 k9 k10 k11 k12 X b1 hA zA
 obtain ⟨k0, k1, k2, k3, k4, k5, k6, k7, k8, k9, k10, k11, k12⟩ := X1.cells13
 have HT : Hid (wtArr ms ds = wtMemS ms + wtWrS ds) := rfl
 by_cases hx : (wtMemS ms : Int) <= left
 . have hq := leftOf_pos hx
   have hq' : ¬ leftOf left (wtMemS ms) < 0 := by rw [hq]; omega
   rw [hq] at hq' ⊢
   clear hq
   generalize hM : wtMemS ms = M at hx HT hq' ⊢
   clear hM
   go_wp2_with fail
   refine (szEntS_any _ G _ _ _ ds (left - M) (h1.below B1) (by omega) (by omega)).mono ?_
   rintro e w2 ⟨rfl, b2⟩
   have B2 := Below.andThen B1 b2
   clear k0 k1 k2 k3 k4 k5 k6 k7 k8 k9 k10 k11 k12 X1 b2 B1
   by_cases hy : (wtWrS ds : Int) <= left - M
   . have hq2 := leftOf_pos hy
     have HF : Hid (leftOf left (wtArr ms ds) = left - M - wtWrS ds) := by unfold Hid; rw [HT.out, leftOf_pos (by omega)]; omega
     go_wp2
     go_ret
     exact ⟨ret_int HF.out.symm, B2⟩
   . have hq2 := leftOf_neg (left := left - (M : Int)) (wt := wtWrS ds) (by omega)
     have HF : Hid (leftOf left (wtArr ms ds) = -1) := by unfold Hid; rw [HT.out, leftOf_neg (by omega)]
     go_wp2
     go_ret
     exact ⟨ret_int HF.out.symm, B2⟩
 . have hq := leftOf_neg (left := left) (wt := wtMemS ms) (by omega)
   have HF : Hid (leftOf left (wtArr ms ds) = -1) := by unfold Hid; rw [HT.out, leftOf_neg (by omega)]
   go_wp2
   go_ret
   exact ⟨ret_int HF.out.symm, B1⟩

theorem toArr_any (w : World) (E F G : TypeId) (x : ArrN) (am ad : Option Addr) (nm cm nd cd : Nat) (ms : List MemD) (ds : List (Int × List Int)) (h0 : (tMemS E F).Rd w [.slice am nm cm] ms) (h1 : (tWrS G).Rd w [.slice ad nd cd] ds) (hw : wtArr ms ds <= 1048576) :
 Calls Tryz.prog 9 #[.agg #[.int .i64 x.id, .int .i64 x.n, .int .i64 x.s, .slice am nm cm, .int .i64 x.lost, .int .i64 x.built, .int .i64 x.seq, .int .i64 x.tail, .int .i64 x.gen, .slice ad nd cd, .int .i64 x.fuse, .bool x.down, .bool x.broken]] w fun e w' => ∃ bm bd, e = .returned (.agg #[.int .i64 x.id, .int .i64 x.n, .int .i64 x.s, .slice (some ⟨bm, 0, none⟩) nm nm, .int .i64 x.lost, .int .i64 x.built, .int .i64 x.seq, .int .i64 x.tail, .int .i64 x.gen, .slice (some ⟨bd, 0, none⟩) nd nd, .int .i64 x.fuse, .bool x.down, .bool x.broken]) /\ (tMemS 123 87).Own w' w.heap.size bd [.slice (some ⟨bm, 0, none⟩) nm nm] ms /\ (tWrS 65).Own w' bd w'.heap.size [.slice (some ⟨bd, 0, none⟩) nd nd] ds /\ w.heap.size <= bd /\ bd <= w'.heap.size /\ Below w.heap.size w w' := by
 have hw0 : wtMemS ms <= 1048576 := by unfold wtArr at hw; omega
 have hw1 : wtWrS ds <= 1048576 := by unfold wtArr at hw; omega
 have hA := ((new_below w (.cells #[.int .i64 x.id, .int .i64 x.n, .int .i64 x.s, .slice am nm cm, .int .i64 x.lost, .int .i64 x.built, .int .i64 x.seq, .int .i64 x.tail, .int .i64 x.gen, .slice ad nd cd, .int .i64 x.fuse, .bool x.down, .bool x.broken] 27)).alloc (by simp) (.cells #[.int .i64 0, .int .i64 0, .int .i64 0, .slice none 0 0, .int .i64 0, .int .i64 0, .int .i64 0, .int .i64 0, .int .i64 0, .slice none 0 0, .int .i64 0, .bool false, .bool false] 35)).alloc (by simp; omega) (.cells #[.int .i64 x.id, .int .i64 0, .int .i64 0, .slice none 0 0, .int .i64 0, .int .i64 0, .int .i64 0, .int .i64 0, .int .i64 0, .slice none 0 0, .int .i64 0, .bool false, .bool false] 35)
 have A := ((Box.new w 27 #[.int .i64 x.id, .int .i64 x.n, .int .i64 x.s, .slice am nm cm, .int .i64 x.lost, .int .i64 x.built, .int .i64 x.seq, .int .i64 x.tail, .int .i64 x.gen, .slice ad nd cd, .int .i64 x.fuse, .bool x.down, .bool x.broken]).alloc (.cells #[.int .i64 0, .int .i64 0, .int .i64 0, .slice none 0 0, .int .i64 0, .int .i64 0, .int .i64 0, .int .i64 0, .int .i64 0, .slice none 0 0, .int .i64 0, .bool false, .bool false] 35)).alloc (.cells #[.int .i64 x.id, .int .i64 0, .int .i64 0, .slice none 0 0, .int .i64 0, .int .i64 0, .int .i64 0, .int .i64 0, .int .i64 0, .slice none 0 0, .int .i64 0, .bool false, .bool false] 35)
 have R := (Box.new (w.alloc (.cells #[.int .i64 x.id, .int .i64 x.n, .int .i64 x.s, .slice am nm cm, .int .i64 x.lost, .int .i64 x.built, .int .i64 x.seq, .int .i64 x.tail, .int .i64 x.gen, .slice ad nd cd, .int .i64 x.fuse, .bool x.down, .bool x.broken] 27)) 35 #[.int .i64 0, .int .i64 0, .int .i64 0, .slice none 0 0, .int .i64 0, .int .i64 0, .int .i64 0, .int .i64 0, .int .i64 0, .slice none 0 0, .int .i64 0, .bool false, .bool false]).alloc (.cells #[.int .i64 x.id, .int .i64 0, .int .i64 0, .slice none 0 0, .int .i64 0, .int .i64 0, .int .i64 0, .int .i64 0, .int .i64 0, .slice none 0 0, .int .i64 0, .bool false, .bool false] 35)
 have O := Box.new ((w.alloc (.cells #[.int .i64 x.id, .int .i64 x.n, .int .i64 x.s, .slice am nm cm, .int .i64 x.lost, .int .i64 x.built, .int .i64 x.seq, .int .i64 x.tail, .int .i64 x.gen, .slice ad nd cd, .int .i64 x.fuse, .bool x.down, .bool x.broken] 27)).alloc (.cells #[.int .i64 0, .int .i64 0, .int .i64 0, .slice none 0 0, .int .i64 0, .int .i64 0, .int .i64 0, .int .i64 0, .int .i64 0, .slice none 0 0, .int .i64 0, .bool false, .bool false] 35)) 35 #[.int .i64 x.id, .int .i64 0, .int .i64 0, .slice none 0 0, .int .i64 0, .int .i64 0, .int .i64 0, .int .i64 0, .int .i64 0, .slice none 0 0, .int .i64 0, .bool false, .bool false]
 rw [World.size_alloc] at R
 rw [World.size_alloc, World.size_alloc] at O
 obtain ⟨k0, k1, k2, k3, k4, k5, k6, k7, k8, k9, k10, k11, k12⟩ := A.cells13
 go_enter Tryz.func9, Tryz.ntmps9
 go_wp2_with fail
 generalize ((w.alloc (.cells #[.int .i64 x.id, .int .i64 x.n, .int .i64 x.s, .slice am nm cm, .int .i64 x.lost, .int .i64 x.built, .int .i64 x.seq, .int .i64 x.tail, .int .i64 x.gen, .slice ad nd cd, .int .i64 x.fuse, .bool x.down, .bool x.broken] 27)).alloc (.cells #[.int .i64 0, .int .i64 0, .int .i64 0, .slice none 0 0, .int .i64 0, .int .i64 0, .int .i64 0, .int .i64 0, .int .i64 0, .slice none 0 0, .int .i64 0, .bool false, .bool false] 35)).alloc (.cells #[.int .i64 x.id, .int .i64 0, .int .i64 0, .slice none 0 0, .int .i64 0, .int .i64 0, .int .i64 0, .int .i64 0, .int .i64 0, .slice none 0 0, .int .i64 0, .bool false, .bool false] 35) = W at hA A R O k0 k1 k2 k3 k4 k5 k6 k7 k8 k9 k10 k11 k12 ⊢
 have B := hA
 clear hA
 refine (toGeo_any _ _ _).mono ?_
 rintro e w0 ⟨rfl, b⟩
 have A' := A.below b A.lt
 have R' := R.below b R.lt
 have O' := O.below b O.lt
 have B' := Below.andThen B b
 have z_ := b.size
 clear k0 k1 k2 k3 k4 k5 k6 k7 k8 k9 k10 k11 k12 A R O B
 have A := A'
 have R := R'
 have O := O'
 have B := B'
 clear A' R' O' B'
 clear b
 have hb := puts_but (w.heap.size + 1 + 1) [(1, .int .i64 x.n), (2, .int .i64 x.s)] w0
 have O' : Box (((w0).setCell ⟨(w.heap.size + 1 + 1), 1, none⟩ (.int .i64 x.n)).setCell ⟨(w.heap.size + 1 + 1), 2, none⟩ (.int .i64 x.s)) (w.heap.size + 1 + 1) 35 #[.int .i64 x.id, .int .i64 x.n, .int .i64 x.s, .slice none 0 0, .int .i64 0, .int .i64 0, .int .i64 0, .int .i64 0, .int .i64 0, .slice none 0 0, .int .i64 0, .bool false, .bool false] := by
  have := puts_box [(1, .int .i64 x.n), (2, .int .i64 x.s)] O
  simpa [puts] using this
 have A' : Box (((w0).setCell ⟨(w.heap.size + 1 + 1), 1, none⟩ (.int .i64 x.n)).setCell ⟨(w.heap.size + 1 + 1), 2, none⟩ (.int .i64 x.s)) w.heap.size 27 #[.int .i64 x.id, .int .i64 x.n, .int .i64 x.s, .slice am nm cm, .int .i64 x.lost, .int .i64 x.built, .int .i64 x.seq, .int .i64 x.tail, .int .i64 x.gen, .slice ad nd cd, .int .i64 x.fuse, .bool x.down, .bool x.broken] := A.kept (hb.block _ A.lt (.inl (by omega)))
 have R' : Box (((w0).setCell ⟨(w.heap.size + 1 + 1), 1, none⟩ (.int .i64 x.n)).setCell ⟨(w.heap.size + 1 + 1), 2, none⟩ (.int .i64 x.s)) (w.heap.size + 1) 35 #[.int .i64 0, .int .i64 0, .int .i64 0, .slice none 0 0, .int .i64 0, .int .i64 0, .int .i64 0, .int .i64 0, .int .i64 0, .slice none 0 0, .int .i64 0, .bool false, .bool false] := R.kept (hb.block _ R.lt (.inl (by omega)))
 have B' : Below w.heap.size w (((w0).setCell ⟨(w.heap.size + 1 + 1), 1, none⟩ (.int .i64 x.n)).setCell ⟨(w.heap.size + 1 + 1), 2, none⟩ (.int .i64 x.s)) := Below.andBut B hb (by omega)
 have z9 : w0.heap.size <= (((w0).setCell ⟨(w.heap.size + 1 + 1), 1, none⟩ (.int .i64 x.n)).setCell ⟨(w.heap.size + 1 + 1), 2, none⟩ (.int .i64 x.s)).heap.size := hb.size
 obtain ⟨o0, o1, o2, o3, o4, o5, o6, o7, o8, o9, o10, o11, o12⟩ := O.cells13
 have fo := O.frozen
 obtain ⟨k0, k1, k2, k3, k4, k5, k6, k7, k8, k9, k10, k11, k12⟩ := A.cells13
 obtain ⟨j0, j1, j2, j3, j4, j5, j6, j7, j8, j9, j10, j11, j12⟩ := A'.cells13
 clear hb A R O B
 go_wp2_with fail
 generalize ((w0).setCell ⟨(w.heap.size + 1 + 1), 1, none⟩ (.int .i64 x.n)).setCell ⟨(w.heap.size + 1 + 1), 2, none⟩ (.int .i64 x.s) = V1 at O' A' R' B' z9 j0 j1 j2 j3 j4 j5 j6 j7 j8 j9 j10 j11 j12 ⊢
 clear k0 k1 k2 k3 k4 k5 k6 k7 k8 k9 k10 k11 k12 o0 o1 o2 o3 o4 o5 o6 o7 o8 o9 o10 o11 o12 fo
 have A := A'
 have R := R'
 have O := O'
 have B := B'
 clear A' R' O' B'
 refine (toMemS_any _ E F _ _ _ ms (h0.below B) hw0).mono ?_
 rintro e w2 ⟨rfl, om, b⟩
 have A' := A.below b A.lt
 have R' := R.below b R.lt
 have O' := O.below b O.lt
 have B' := Below.andThen B b
 have z2 := b.size
 have zO := O.lt
 clear j0 j1 j2 j3 j4 j5 j6 j7 j8 j9 j10 j11 j12 A R O B b
 have A := A'
 have R := R'
 have O := O'
 have B := B'
 clear A' R' O' B'
 have hb := puts_but (w.heap.size + 1 + 1) [(3, .slice (some ⟨V1.heap.size, 0, none⟩) nm nm), (4, .int .i64 x.lost), (5, .int .i64 x.built), (6, .int .i64 x.seq), (7, .int .i64 x.tail), (8, .int .i64 x.gen)] w2
 have O' : Box (((((((w2).setCell ⟨(w.heap.size + 1 + 1), 3, none⟩ (.slice (some ⟨V1.heap.size, 0, none⟩) nm nm)).setCell ⟨(w.heap.size + 1 + 1), 4, none⟩ (.int .i64 x.lost)).setCell ⟨(w.heap.size + 1 + 1), 5, none⟩ (.int .i64 x.built)).setCell ⟨(w.heap.size + 1 + 1), 6, none⟩ (.int .i64 x.seq)).setCell ⟨(w.heap.size + 1 + 1), 7, none⟩ (.int .i64 x.tail)).setCell ⟨(w.heap.size + 1 + 1), 8, none⟩ (.int .i64 x.gen)) (w.heap.size + 1 + 1) 35 #[.int .i64 x.id, .int .i64 x.n, .int .i64 x.s, .slice (some ⟨V1.heap.size, 0, none⟩) nm nm, .int .i64 x.lost, .int .i64 x.built, .int .i64 x.seq, .int .i64 x.tail, .int .i64 x.gen, .slice none 0 0, .int .i64 0, .bool false, .bool false] := by
  have := puts_box [(3, .slice (some ⟨V1.heap.size, 0, none⟩) nm nm), (4, .int .i64 x.lost), (5, .int .i64 x.built), (6, .int .i64 x.seq), (7, .int .i64 x.tail), (8, .int .i64 x.gen)] O
  simpa [puts] using this
 have A' : Box (((((((w2).setCell ⟨(w.heap.size + 1 + 1), 3, none⟩ (.slice (some ⟨V1.heap.size, 0, none⟩) nm nm)).setCell ⟨(w.heap.size + 1 + 1), 4, none⟩ (.int .i64 x.lost)).setCell ⟨(w.heap.size + 1 + 1), 5, none⟩ (.int .i64 x.built)).setCell ⟨(w.heap.size + 1 + 1), 6, none⟩ (.int .i64 x.seq)).setCell ⟨(w.heap.size + 1 + 1), 7, none⟩ (.int .i64 x.tail)).setCell ⟨(w.heap.size + 1 + 1), 8, none⟩ (.int .i64 x.gen)) w.heap.size 27 #[.int .i64 x.id, .int .i64 x.n, .int .i64 x.s, .slice am nm cm, .int .i64 x.lost, .int .i64 x.built, .int .i64 x.seq, .int .i64 x.tail, .int .i64 x.gen, .slice ad nd cd, .int .i64 x.fuse, .bool x.down, .bool x.broken] := A.kept (hb.block _ A.lt (.inl (by omega)))
 have R' : Box (((((((w2).setCell ⟨(w.heap.size + 1 + 1), 3, none⟩ (.slice (some ⟨V1.heap.size, 0, none⟩) nm nm)).setCell ⟨(w.heap.size + 1 + 1), 4, none⟩ (.int .i64 x.lost)).setCell ⟨(w.heap.size + 1 + 1), 5, none⟩ (.int .i64 x.built)).setCell ⟨(w.heap.size + 1 + 1), 6, none⟩ (.int .i64 x.seq)).setCell ⟨(w.heap.size + 1 + 1), 7, none⟩ (.int .i64 x.tail)).setCell ⟨(w.heap.size + 1 + 1), 8, none⟩ (.int .i64 x.gen)) (w.heap.size + 1) 35 #[.int .i64 0, .int .i64 0, .int .i64 0, .slice none 0 0, .int .i64 0, .int .i64 0, .int .i64 0, .int .i64 0, .int .i64 0, .slice none 0 0, .int .i64 0, .bool false, .bool false] := R.kept (hb.block _ R.lt (.inl (by omega)))
 have B' : Below w.heap.size w (((((((w2).setCell ⟨(w.heap.size + 1 + 1), 3, none⟩ (.slice (some ⟨V1.heap.size, 0, none⟩) nm nm)).setCell ⟨(w.heap.size + 1 + 1), 4, none⟩ (.int .i64 x.lost)).setCell ⟨(w.heap.size + 1 + 1), 5, none⟩ (.int .i64 x.built)).setCell ⟨(w.heap.size + 1 + 1), 6, none⟩ (.int .i64 x.seq)).setCell ⟨(w.heap.size + 1 + 1), 7, none⟩ (.int .i64 x.tail)).setCell ⟨(w.heap.size + 1 + 1), 8, none⟩ (.int .i64 x.gen)) := Below.andBut B hb (by omega)
 have om' : (tMemS 123 87).Own (((((((w2).setCell ⟨(w.heap.size + 1 + 1), 3, none⟩ (.slice (some ⟨V1.heap.size, 0, none⟩) nm nm)).setCell ⟨(w.heap.size + 1 + 1), 4, none⟩ (.int .i64 x.lost)).setCell ⟨(w.heap.size + 1 + 1), 5, none⟩ (.int .i64 x.built)).setCell ⟨(w.heap.size + 1 + 1), 6, none⟩ (.int .i64 x.seq)).setCell ⟨(w.heap.size + 1 + 1), 7, none⟩ (.int .i64 x.tail)).setCell ⟨(w.heap.size + 1 + 1), 8, none⟩ (.int .i64 x.gen)) V1.heap.size w2.heap.size [.slice (some ⟨V1.heap.size, 0, none⟩) nm nm] ms := om.but hb (.inr (by omega))
 have z9 : w2.heap.size <= (((((((w2).setCell ⟨(w.heap.size + 1 + 1), 3, none⟩ (.slice (some ⟨V1.heap.size, 0, none⟩) nm nm)).setCell ⟨(w.heap.size + 1 + 1), 4, none⟩ (.int .i64 x.lost)).setCell ⟨(w.heap.size + 1 + 1), 5, none⟩ (.int .i64 x.built)).setCell ⟨(w.heap.size + 1 + 1), 6, none⟩ (.int .i64 x.seq)).setCell ⟨(w.heap.size + 1 + 1), 7, none⟩ (.int .i64 x.tail)).setCell ⟨(w.heap.size + 1 + 1), 8, none⟩ (.int .i64 x.gen)).heap.size := hb.size
 obtain ⟨o0, o1, o2, o3, o4, o5, o6, o7, o8, o9, o10, o11, o12⟩ := O.cells13
 have fo := O.frozen
 obtain ⟨k0, k1, k2, k3, k4, k5, k6, k7, k8, k9, k10, k11, k12⟩ := A.cells13
 obtain ⟨j0, j1, j2, j3, j4, j5, j6, j7, j8, j9, j10, j11, j12⟩ := A'.cells13
 clear hb A R O B om
 go_wp2_with fail
 generalize ((((((w2).setCell ⟨(w.heap.size + 1 + 1), 3, none⟩ (.slice (some ⟨V1.heap.size, 0, none⟩) nm nm)).setCell ⟨(w.heap.size + 1 + 1), 4, none⟩ (.int .i64 x.lost)).setCell ⟨(w.heap.size + 1 + 1), 5, none⟩ (.int .i64 x.built)).setCell ⟨(w.heap.size + 1 + 1), 6, none⟩ (.int .i64 x.seq)).setCell ⟨(w.heap.size + 1 + 1), 7, none⟩ (.int .i64 x.tail)).setCell ⟨(w.heap.size + 1 + 1), 8, none⟩ (.int .i64 x.gen) = V2 at O' A' R' B' om' z9 j0 j1 j2 j3 j4 j5 j6 j7 j8 j9 j10 j11 j12 ⊢
 clear k0 k1 k2 k3 k4 k5 k6 k7 k8 k9 k10 k11 k12 o0 o1 o2 o3 o4 o5 o6 o7 o8 o9 o10 o11 o12 fo
 have A := A'
 have R := R'
 have O := O'
 have B := B'
 have om := om'
 clear A' R' O' B' om'
 have z8 := z9
 clear z9
 refine (toEntS_any _ G _ _ _ ds (h1.below B) hw1).mono ?_
 rintro e w3 ⟨rfl, od, b⟩
 have A' := A.below b A.lt
 have R' := R.below b R.lt
 have O' := O.below b O.lt
 have B' := Below.andThen B b
 have om' := om.below b
 have z3 := b.size
 clear j0 j1 j2 j3 j4 j5 j6 j7 j8 j9 j10 j11 j12 A R O B b om
 have A := A'
 have R := R'
 have O := O'
 have B := B'
 have om := om'
 clear A' R' O' B' om'
 have hb := puts_but (w.heap.size + 1 + 1) [(9, .slice (some ⟨V2.heap.size, 0, none⟩) nd nd), (10, .int .i64 x.fuse), (11, .bool x.down), (12, .bool x.broken)] w3
 have O' : Box (((((w3).setCell ⟨(w.heap.size + 1 + 1), 9, none⟩ (.slice (some ⟨V2.heap.size, 0, none⟩) nd nd)).setCell ⟨(w.heap.size + 1 + 1), 10, none⟩ (.int .i64 x.fuse)).setCell ⟨(w.heap.size + 1 + 1), 11, none⟩ (.bool x.down)).setCell ⟨(w.heap.size + 1 + 1), 12, none⟩ (.bool x.broken)) (w.heap.size + 1 + 1) 35 #[.int .i64 x.id, .int .i64 x.n, .int .i64 x.s, .slice (some ⟨V1.heap.size, 0, none⟩) nm nm, .int .i64 x.lost, .int .i64 x.built, .int .i64 x.seq, .int .i64 x.tail, .int .i64 x.gen, .slice (some ⟨V2.heap.size, 0, none⟩) nd nd, .int .i64 x.fuse, .bool x.down, .bool x.broken] := by
  have := puts_box [(9, .slice (some ⟨V2.heap.size, 0, none⟩) nd nd), (10, .int .i64 x.fuse), (11, .bool x.down), (12, .bool x.broken)] O
  simpa [puts] using this
 have A' : Box (((((w3).setCell ⟨(w.heap.size + 1 + 1), 9, none⟩ (.slice (some ⟨V2.heap.size, 0, none⟩) nd nd)).setCell ⟨(w.heap.size + 1 + 1), 10, none⟩ (.int .i64 x.fuse)).setCell ⟨(w.heap.size + 1 + 1), 11, none⟩ (.bool x.down)).setCell ⟨(w.heap.size + 1 + 1), 12, none⟩ (.bool x.broken)) w.heap.size 27 #[.int .i64 x.id, .int .i64 x.n, .int .i64 x.s, .slice am nm cm, .int .i64 x.lost, .int .i64 x.built, .int .i64 x.seq, .int .i64 x.tail, .int .i64 x.gen, .slice ad nd cd, .int .i64 x.fuse, .bool x.down, .bool x.broken] := A.kept (hb.block _ A.lt (.inl (by omega)))
 have R' : Box (((((w3).setCell ⟨(w.heap.size + 1 + 1), 9, none⟩ (.slice (some ⟨V2.heap.size, 0, none⟩) nd nd)).setCell ⟨(w.heap.size + 1 + 1), 10, none⟩ (.int .i64 x.fuse)).setCell ⟨(w.heap.size + 1 + 1), 11, none⟩ (.bool x.down)).setCell ⟨(w.heap.size + 1 + 1), 12, none⟩ (.bool x.broken)) (w.heap.size + 1) 35 #[.int .i64 0, .int .i64 0, .int .i64 0, .slice none 0 0, .int .i64 0, .int .i64 0, .int .i64 0, .int .i64 0, .int .i64 0, .slice none 0 0, .int .i64 0, .bool false, .bool false] := R.kept (hb.block _ R.lt (.inl (by omega)))
 have B' : Below w.heap.size w (((((w3).setCell ⟨(w.heap.size + 1 + 1), 9, none⟩ (.slice (some ⟨V2.heap.size, 0, none⟩) nd nd)).setCell ⟨(w.heap.size + 1 + 1), 10, none⟩ (.int .i64 x.fuse)).setCell ⟨(w.heap.size + 1 + 1), 11, none⟩ (.bool x.down)).setCell ⟨(w.heap.size + 1 + 1), 12, none⟩ (.bool x.broken)) := Below.andBut B hb (by omega)
 have om' : (tMemS 123 87).Own (((((w3).setCell ⟨(w.heap.size + 1 + 1), 9, none⟩ (.slice (some ⟨V2.heap.size, 0, none⟩) nd nd)).setCell ⟨(w.heap.size + 1 + 1), 10, none⟩ (.int .i64 x.fuse)).setCell ⟨(w.heap.size + 1 + 1), 11, none⟩ (.bool x.down)).setCell ⟨(w.heap.size + 1 + 1), 12, none⟩ (.bool x.broken)) V1.heap.size w2.heap.size [.slice (some ⟨V1.heap.size, 0, none⟩) nm nm] ms := om.but hb (.inr (by omega))
 have od' : (tWrS 65).Own (((((w3).setCell ⟨(w.heap.size + 1 + 1), 9, none⟩ (.slice (some ⟨V2.heap.size, 0, none⟩) nd nd)).setCell ⟨(w.heap.size + 1 + 1), 10, none⟩ (.int .i64 x.fuse)).setCell ⟨(w.heap.size + 1 + 1), 11, none⟩ (.bool x.down)).setCell ⟨(w.heap.size + 1 + 1), 12, none⟩ (.bool x.broken)) V2.heap.size w3.heap.size [.slice (some ⟨V2.heap.size, 0, none⟩) nd nd] ds := od.but hb (.inr (by omega))
 have z9 : w3.heap.size <= (((((w3).setCell ⟨(w.heap.size + 1 + 1), 9, none⟩ (.slice (some ⟨V2.heap.size, 0, none⟩) nd nd)).setCell ⟨(w.heap.size + 1 + 1), 10, none⟩ (.int .i64 x.fuse)).setCell ⟨(w.heap.size + 1 + 1), 11, none⟩ (.bool x.down)).setCell ⟨(w.heap.size + 1 + 1), 12, none⟩ (.bool x.broken)).heap.size := hb.size
 obtain ⟨o0, o1, o2, o3, o4, o5, o6, o7, o8, o9, o10, o11, o12⟩ := O.cells13
 have fo := O.frozen
 obtain ⟨k0, k1, k2, k3, k4, k5, k6, k7, k8, k9, k10, k11, k12⟩ := A.cells13
 obtain ⟨j0, j1, j2, j3, j4, j5, j6, j7, j8, j9, j10, j11, j12⟩ := A'.cells13
 obtain ⟨y0, y1, y2, y3, y4, y5, y6, y7, y8, y9, y10, y11, y12⟩ := O'.cells13
 obtain ⟨r0, r1, r2, r3, r4, r5, r6, r7, r8, r9, r10, r11, r12⟩ := R'.cells13
 have fr := R'.frozen
 have hb4 := puts_but (w.heap.size + 1) [(0, .int .i64 x.id), (1, .int .i64 x.n), (2, .int .i64 x.s), (3, .slice (some ⟨V1.heap.size, 0, none⟩) nm nm), (4, .int .i64 x.lost), (5, .int .i64 x.built), (6, .int .i64 x.seq), (7, .int .i64 x.tail), (8, .int .i64 x.gen), (9, .slice (some ⟨V2.heap.size, 0, none⟩) nd nd), (10, .int .i64 x.fuse), (11, .bool x.down), (12, .bool x.broken)] (((((w3).setCell ⟨(w.heap.size + 1 + 1), 9, none⟩ (.slice (some ⟨V2.heap.size, 0, none⟩) nd nd)).setCell ⟨(w.heap.size + 1 + 1), 10, none⟩ (.int .i64 x.fuse)).setCell ⟨(w.heap.size + 1 + 1), 11, none⟩ (.bool x.down)).setCell ⟨(w.heap.size + 1 + 1), 12, none⟩ (.bool x.broken))
 have FM : Hid ((tMemS 123 87).Own (((((((((((((((((((w3).setCell ⟨(w.heap.size + 1 + 1), 9, none⟩ (.slice (some ⟨V2.heap.size, 0, none⟩) nd nd)).setCell ⟨(w.heap.size + 1 + 1), 10, none⟩ (.int .i64 x.fuse)).setCell ⟨(w.heap.size + 1 + 1), 11, none⟩ (.bool x.down)).setCell ⟨(w.heap.size + 1 + 1), 12, none⟩ (.bool x.broken))).setCell ⟨(w.heap.size + 1), 0, none⟩ (.int .i64 x.id)).setCell ⟨(w.heap.size + 1), 1, none⟩ (.int .i64 x.n)).setCell ⟨(w.heap.size + 1), 2, none⟩ (.int .i64 x.s)).setCell ⟨(w.heap.size + 1), 3, none⟩ (.slice (some ⟨V1.heap.size, 0, none⟩) nm nm)).setCell ⟨(w.heap.size + 1), 4, none⟩ (.int .i64 x.lost)).setCell ⟨(w.heap.size + 1), 5, none⟩ (.int .i64 x.built)).setCell ⟨(w.heap.size + 1), 6, none⟩ (.int .i64 x.seq)).setCell ⟨(w.heap.size + 1), 7, none⟩ (.int .i64 x.tail)).setCell ⟨(w.heap.size + 1), 8, none⟩ (.int .i64 x.gen)).setCell ⟨(w.heap.size + 1), 9, none⟩ (.slice (some ⟨V2.heap.size, 0, none⟩) nd nd)).setCell ⟨(w.heap.size + 1), 10, none⟩ (.int .i64 x.fuse)).setCell ⟨(w.heap.size + 1), 11, none⟩ (.bool x.down)).setCell ⟨(w.heap.size + 1), 12, none⟩ (.bool x.broken)) V1.heap.size w2.heap.size [.slice (some ⟨V1.heap.size, 0, none⟩) nm nm] ms) := (om'.but hb4 (.inr (by omega)))
 have FD : Hid ((tWrS 65).Own (((((((((((((((((((w3).setCell ⟨(w.heap.size + 1 + 1), 9, none⟩ (.slice (some ⟨V2.heap.size, 0, none⟩) nd nd)).setCell ⟨(w.heap.size + 1 + 1), 10, none⟩ (.int .i64 x.fuse)).setCell ⟨(w.heap.size + 1 + 1), 11, none⟩ (.bool x.down)).setCell ⟨(w.heap.size + 1 + 1), 12, none⟩ (.bool x.broken))).setCell ⟨(w.heap.size + 1), 0, none⟩ (.int .i64 x.id)).setCell ⟨(w.heap.size + 1), 1, none⟩ (.int .i64 x.n)).setCell ⟨(w.heap.size + 1), 2, none⟩ (.int .i64 x.s)).setCell ⟨(w.heap.size + 1), 3, none⟩ (.slice (some ⟨V1.heap.size, 0, none⟩) nm nm)).setCell ⟨(w.heap.size + 1), 4, none⟩ (.int .i64 x.lost)).setCell ⟨(w.heap.size + 1), 5, none⟩ (.int .i64 x.built)).setCell ⟨(w.heap.size + 1), 6, none⟩ (.int .i64 x.seq)).setCell ⟨(w.heap.size + 1), 7, none⟩ (.int .i64 x.tail)).setCell ⟨(w.heap.size + 1), 8, none⟩ (.int .i64 x.gen)).setCell ⟨(w.heap.size + 1), 9, none⟩ (.slice (some ⟨V2.heap.size, 0, none⟩) nd nd)).setCell ⟨(w.heap.size + 1), 10, none⟩ (.int .i64 x.fuse)).setCell ⟨(w.heap.size + 1), 11, none⟩ (.bool x.down)).setCell ⟨(w.heap.size + 1), 12, none⟩ (.bool x.broken)) V2.heap.size w3.heap.size [.slice (some ⟨V2.heap.size, 0, none⟩) nd nd] ds) := (od'.but hb4 (.inr (by omega)))
 have FB : Hid (Below w.heap.size w (((((((((((((((((((w3).setCell ⟨(w.heap.size + 1 + 1), 9, none⟩ (.slice (some ⟨V2.heap.size, 0, none⟩) nd nd)).setCell ⟨(w.heap.size + 1 + 1), 10, none⟩ (.int .i64 x.fuse)).setCell ⟨(w.heap.size + 1 + 1), 11, none⟩ (.bool x.down)).setCell ⟨(w.heap.size + 1 + 1), 12, none⟩ (.bool x.broken))).setCell ⟨(w.heap.size + 1), 0, none⟩ (.int .i64 x.id)).setCell ⟨(w.heap.size + 1), 1, none⟩ (.int .i64 x.n)).setCell ⟨(w.heap.size + 1), 2, none⟩ (.int .i64 x.s)).setCell ⟨(w.heap.size + 1), 3, none⟩ (.slice (some ⟨V1.heap.size, 0, none⟩) nm nm)).setCell ⟨(w.heap.size + 1), 4, none⟩ (.int .i64 x.lost)).setCell ⟨(w.heap.size + 1), 5, none⟩ (.int .i64 x.built)).setCell ⟨(w.heap.size + 1), 6, none⟩ (.int .i64 x.seq)).setCell ⟨(w.heap.size + 1), 7, none⟩ (.int .i64 x.tail)).setCell ⟨(w.heap.size + 1), 8, none⟩ (.int .i64 x.gen)).setCell ⟨(w.heap.size + 1), 9, none⟩ (.slice (some ⟨V2.heap.size, 0, none⟩) nd nd)).setCell ⟨(w.heap.size + 1), 10, none⟩ (.int .i64 x.fuse)).setCell ⟨(w.heap.size + 1), 11, none⟩ (.bool x.down)).setCell ⟨(w.heap.size + 1), 12, none⟩ (.bool x.broken))) := Below.andBut B' hb4 (by omega)
 have FZ : Hid ((((((w3).setCell ⟨(w.heap.size + 1 + 1), 9, none⟩ (.slice (some ⟨V2.heap.size, 0, none⟩) nd nd)).setCell ⟨(w.heap.size + 1 + 1), 10, none⟩ (.int .i64 x.fuse)).setCell ⟨(w.heap.size + 1 + 1), 11, none⟩ (.bool x.down)).setCell ⟨(w.heap.size + 1 + 1), 12, none⟩ (.bool x.broken)).heap.size <= (((((((((((((((((((w3).setCell ⟨(w.heap.size + 1 + 1), 9, none⟩ (.slice (some ⟨V2.heap.size, 0, none⟩) nd nd)).setCell ⟨(w.heap.size + 1 + 1), 10, none⟩ (.int .i64 x.fuse)).setCell ⟨(w.heap.size + 1 + 1), 11, none⟩ (.bool x.down)).setCell ⟨(w.heap.size + 1 + 1), 12, none⟩ (.bool x.broken))).setCell ⟨(w.heap.size + 1), 0, none⟩ (.int .i64 x.id)).setCell ⟨(w.heap.size + 1), 1, none⟩ (.int .i64 x.n)).setCell ⟨(w.heap.size + 1), 2, none⟩ (.int .i64 x.s)).setCell ⟨(w.heap.size + 1), 3, none⟩ (.slice (some ⟨V1.heap.size, 0, none⟩) nm nm)).setCell ⟨(w.heap.size + 1), 4, none⟩ (.int .i64 x.lost)).setCell ⟨(w.heap.size + 1), 5, none⟩ (.int .i64 x.built)).setCell ⟨(w.heap.size + 1), 6, none⟩ (.int .i64 x.seq)).setCell ⟨(w.heap.size + 1), 7, none⟩ (.int .i64 x.tail)).setCell ⟨(w.heap.size + 1), 8, none⟩ (.int .i64 x.gen)).setCell ⟨(w.heap.size + 1), 9, none⟩ (.slice (some ⟨V2.heap.size, 0, none⟩) nd nd)).setCell ⟨(w.heap.size + 1), 10, none⟩ (.int .i64 x.fuse)).setCell ⟨(w.heap.size + 1), 11, none⟩ (.bool x.down)).setCell ⟨(w.heap.size + 1), 12, none⟩ (.bool x.broken)).heap.size) := hb4.size
 have z10 := z9
 clear hb hb4 A R O B om od A' R' O' B' om' od'
 go_wp2
 refine bodyPost_ret (v := .agg #[.int .i64 x.id, .int .i64 x.n, .int .i64 x.s, .slice (some ⟨V1.heap.size, 0, none⟩) nm nm, .int .i64 x.lost, .int .i64 x.built, .int .i64 x.seq, .int .i64 x.tail, .int .i64 x.gen, .slice (some ⟨V2.heap.size, 0, none⟩) nd nd, .int .i64 x.fuse, .bool x.down, .bool x.broken]) (by simp [results, Tryz.results9, go_sem, r0, r1, r2, r3, r4, r5, r6, r7, r8, r9, r10, r11, r12]) rfl ?_
 have fz := FZ.out
 exact ⟨_, V2.heap.size, rfl, FM.out.widen (by omega) (by omega), FD.out.widen (Nat.le_refl _) (by omega), by omega, by omega, FB.out⟩

theorem eqGeo_refl (w : World) (n s : Int) : Calls Tryz.prog 33 #[.agg #[.int .i64 n, .int .i64 s], .agg #[.int .i64 n, .int .i64 s]] w fun e w' => e = .returned (.bool true) /\ Below w.heap.size w w' := by
 go_enter Tryz.func33, Tryz.ntmps33
 go_wp2
 go_ret
 exact ⟨rfl, (new_below w _).alloc (by simp) _⟩

theorem eqArr_same (w : World) (E E' F F' G G' : TypeId) (x : ArrN) (am ad bm bd : Option Addr) (nm cm nd cd pm em pd ed : Nat) (ms : List MemD) (ds : List (Int × List Int)) (h0 : (tMemS E F).Rd w [.slice am nm cm] ms) (h1 : (tWrS G).Rd w [.slice ad nd cd] ds) (g0 : (tMemS E' F').Rd w [.slice bm pm em] ms) (g1 : (tWrS G').Rd w [.slice bd pd ed] ds) (hw : wtArr ms ds <= 2097152) :
 Calls Tryz.prog 11 #[.agg #[.int .i64 x.id, .int .i64 x.n, .int .i64 x.s, .slice am nm cm, .int .i64 x.lost, .int .i64 x.built, .int .i64 x.seq, .int .i64 x.tail, .int .i64 x.gen, .slice ad nd cd, .int .i64 x.fuse, .bool x.down, .bool x.broken], .agg #[.int .i64 x.id, .int .i64 x.n, .int .i64 x.s, .slice bm pm em, .int .i64 x.lost, .int .i64 x.built, .int .i64 x.seq, .int .i64 x.tail, .int .i64 x.gen, .slice bd pd ed, .int .i64 x.fuse, .bool x.down, .bool x.broken]] w fun e w' => e = .returned (.bool true) /\ Below w.heap.size w w' := by
 have hw0 : wtMemS ms <= 2097152 := by unfold wtArr at hw; omega
 have hw1 : wtWrS ds <= 2097152 := by unfold wtArr at hw; omega
 have hd : decide (ds = ds) = true := by simp
 have hb : ∀ b : Bool, (b != b) = false := by simp
 have hA := (new_below w (.cells #[.int .i64 x.id, .int .i64 x.n, .int .i64 x.s, .slice am nm cm, .int .i64 x.lost, .int .i64 x.built, .int .i64 x.seq, .int .i64 x.tail, .int .i64 x.gen, .slice ad nd cd, .int .i64 x.fuse, .bool x.down, .bool x.broken] 35)).alloc (by simp) (.cells #[.int .i64 x.id, .int .i64 x.n, .int .i64 x.s, .slice bm pm em, .int .i64 x.lost, .int .i64 x.built, .int .i64 x.seq, .int .i64 x.tail, .int .i64 x.gen, .slice bd pd ed, .int .i64 x.fuse, .bool x.down, .bool x.broken] 35)
 have A := (Box.new w 35 #[.int .i64 x.id, .int .i64 x.n, .int .i64 x.s, .slice am nm cm, .int .i64 x.lost, .int .i64 x.built, .int .i64 x.seq, .int .i64 x.tail, .int .i64 x.gen, .slice ad nd cd, .int .i64 x.fuse, .bool x.down, .bool x.broken]).alloc (.cells #[.int .i64 x.id, .int .i64 x.n, .int .i64 x.s, .slice bm pm em, .int .i64 x.lost, .int .i64 x.built, .int .i64 x.seq, .int .i64 x.tail, .int .i64 x.gen, .slice bd pd ed, .int .i64 x.fuse, .bool x.down, .bool x.broken] 35)
 have C := Box.new (w.alloc (.cells #[.int .i64 x.id, .int .i64 x.n, .int .i64 x.s, .slice am nm cm, .int .i64 x.lost, .int .i64 x.built, .int .i64 x.seq, .int .i64 x.tail, .int .i64 x.gen, .slice ad nd cd, .int .i64 x.fuse, .bool x.down, .bool x.broken] 35)) 35 #[.int .i64 x.id, .int .i64 x.n, .int .i64 x.s, .slice bm pm em, .int .i64 x.lost, .int .i64 x.built, .int .i64 x.seq, .int .i64 x.tail, .int .i64 x.gen, .slice bd pd ed, .int .i64 x.fuse, .bool x.down, .bool x.broken]
 rw [World.size_alloc] at C
 obtain ⟨k0, k1, k2, k3, k4, k5, k6, k7, k8, k9, k10, k11, k12⟩ := A.cells13
 obtain ⟨j0, j1, j2, j3, j4, j5, j6, j7, j8, j9, j10, j11, j12⟩ := C.cells13
 go_enter Tryz.func11, Tryz.ntmps11
 go_wp2_with fail
 generalize (w.alloc (.cells #[.int .i64 x.id, .int .i64 x.n, .int .i64 x.s, .slice am nm cm, .int .i64 x.lost, .int .i64 x.built, .int .i64 x.seq, .int .i64 x.tail, .int .i64 x.gen, .slice ad nd cd, .int .i64 x.fuse, .bool x.down, .bool x.broken] 35)).alloc (.cells #[.int .i64 x.id, .int .i64 x.n, .int .i64 x.s, .slice bm pm em, .int .i64 x.lost, .int .i64 x.built, .int .i64 x.seq, .int .i64 x.tail, .int .i64 x.gen, .slice bd pd ed, .int .i64 x.fuse, .bool x.down, .bool x.broken] 35) = W at hA A C k0 k1 k2 k3 k4 k5 k6 k7 k8 k9 k10 k11 k12 j0 j1 j2 j3 j4 j5 j6 j7 j8 j9 j10 j11 j12 ⊢
 refine (eqGeo_refl _ _ _).mono ?_
 rintro e w1 ⟨rfl, b⟩
 have A1 := A.below b A.lt
 have C1 := C.below b C.lt
 have B1 := Below.andThen hA b
 clear k0 k1 k2 k3 k4 k5 k6 k7 k8 k9 k10 k11 k12 j0 j1 j2 j3 j4 j5 j6 j7 j8 j9 j10 j11 j12 A C b hA
 obtain ⟨k0, k1, k2, k3, k4, k5, k6, k7, k8, k9, k10, k11, k12⟩ := A1.cells13
 obtain ⟨j0, j1, j2, j3, j4, j5, j6, j7, j8, j9, j10, j11, j12⟩ := C1.cells13
 go_wp2_with fail
 refine (eqMemS_same _ E E' F F' _ _ _ _ _ _ ms (h0.below B1) (g0.below B1) hw0).mono ?_
 rintro e w2 ⟨rfl, b⟩
 have A2 := A1.below b A1.lt
 have C2 := C1.below b C1.lt
 have B2 := Below.andThen B1 b
 clear k0 k1 k2 k3 k4 k5 k6 k7 k8 k9 k10 k11 k12 j0 j1 j2 j3 j4 j5 j6 j7 j8 j9 j10 j11 j12 A1 C1 b B1
 obtain ⟨k0, k1, k2, k3, k4, k5, k6, k7, k8, k9, k10, k11, k12⟩ := A2.cells13
 obtain ⟨j0, j1, j2, j3, j4, j5, j6, j7, j8, j9, j10, j11, j12⟩ := C2.cells13
 go_wp2_with fail
 refine (eqEntS_any _ G G' _ _ _ _ _ _ ds ds (h1.below B2) (g1.below B2) hw1).mono ?_
 rintro e w3 ⟨rfl, b⟩
 have A3 := A2.below b A2.lt
 have C3 := C2.below b C2.lt
 have B3 := Below.andThen B2 b
 clear k0 k1 k2 k3 k4 k5 k6 k7 k8 k9 k10 k11 k12 j0 j1 j2 j3 j4 j5 j6 j7 j8 j9 j10 j11 j12 A2 C2 b B2
 obtain ⟨k0, k1, k2, k3, k4, k5, k6, k7, k8, k9, k10, k11, k12⟩ := A3.cells13
 obtain ⟨j0, j1, j2, j3, j4, j5, j6, j7, j8, j9, j10, j11, j12⟩ := C3.cells13
 have q1 := hb x.down
 have q2 := hb x.broken
 go_wp2
 go_ret
 exact ⟨rfl, B3⟩

structure Fr (N B : Nat) (w w' : World) : Prop where
 os : w'.os = w.os
 tape : w'.tape = w.tape
 output : w'.output = w.output
 size : w.heap.size <= w'.heap.size
 block : ∀ k, k < N -> k ≠ B -> w'.heap[k]? = w.heap[k]?
theorem Fr.refl (N B : Nat) (w : World) : Fr N B w w := ⟨rfl, rfl, rfl, Nat.le_refl _, fun _ _ _ => rfl⟩
theorem Fr.trans {N B : Nat} {a b c : World} (h : Fr N B a b) (k : Fr N B b c) : Fr N B a c :=
 ⟨k.os.trans h.os, k.tape.trans h.tape, k.output.trans h.output, Nat.le_trans h.size k.size, fun i hi ho => (k.block i hi ho).trans (h.block i hi ho)⟩
theorem Fr.box {N B C : Nat} {w w' : World} {T : TypeId} {cs : Array Value} (h : Fr N B w w') (x : Box w C T cs) (hC : C < N) (hne : C ≠ B) : Box w' C T cs := x.kept (h.block C hC hne)
theorem Fr.below {N B M : Nat} {w w' : World} (h : Fr N B w w') (h1 : M <= N) (h2 : M <= B) : Below M w w' := ⟨h.os, h.tape, h.output, h.size, fun k hk => h.block k (by omega) (by omega)⟩
theorem Fr.own {t : Ty} {N B lo hi : Nat} {w w' : World} {vs : List Value} {d : t.D} (h : Fr N B w w') (o : t.Own w lo hi vs d) (h1 : hi <= N) (h2 : hi <= B ∨ B < lo) : t.Own w' lo hi vs d := by
 obtain ⟨fp, k1, k2, k3⟩ := o
 exact ⟨fp, t.owKept k1 (fun b hb => h.block b (by have := k3 b hb; omega) (by have := k3 b hb; omega)) h.size, k2, k3⟩
theorem Fr.ofBelow {N B : Nat} {w w' : World} (h : Below w.heap.size w w') (hN : N <= w.heap.size) : Fr N B w w' := ⟨h.os, h.tape, h.output, h.size, fun k hk _ => h.block k (by omega)⟩
theorem Fr.ofTurned {N B : Nat} {w w' : World} {fp : List Nat} (h : Turned fp w w') (hN : N <= w.heap.size) (hf : ∀ b ∈ fp, N <= b) : Fr N B w w' :=
 ⟨h.os, h.tape, h.output, h.size, fun k hk _ => h.block k (by omega) (fun hm => by have := hf k hm; omega)⟩
theorem Fr.ofSet {N B : Nat} (w : World) (j : Nat) (v : Value) : Fr N B w (w.setCell ⟨B, j, none⟩ v) := ⟨rfl, rfl, rfl, by simp [World.setCell], fun k _ hk => Below.heap_setCell _ _ _ _ (by simpa using hk)⟩
theorem Fr.mine {t : Ty} {N B : Nat} {w w' : World} {vs : List Value} {d : t.D} {fp : List Nat} (h : Fr N B w w') (o : t.Mine w vs d fp) (h1 : ∀ b ∈ fp, b < N /\ b ≠ B) : t.Mine w' vs d fp := ⟨t.owKept o.1 (fun b hb => h.block b (h1 b hb).1 (h1 b hb).2) h.size, o.2⟩
theorem Ty.Mine.but {t : Ty} {w w' : World} {lo hi : Nat} {vs : List Value} {d : t.D} {fp : List Nat} (h : t.Mine w vs d fp) (hb : But lo hi w w') (hd : ∀ b ∈ fp, b < lo ∨ hi <= b) : t.Mine w' vs d fp := ⟨t.owKept h.1 (fun b hm => hb.block b (h.lt b hm) (by have := hd b hm; omega)) hb.size, h.2⟩
theorem Fr.round {N B : Nat} {w wr wc wA : World} {fp : List Nat} (h : Fr N B w wr) (hN : N <= wr.heap.size) (hc : Below wr.heap.size wr wc) (o : Obj) (ht : Turned fp (wc.alloc o) wA) (hf : ∀ b ∈ fp, N <= b) (j : Nat) (v : Value) : Fr N B w (wA.setCell ⟨B, j, none⟩ v) := by
 have h1 := hc.size
 have h2 : (wc.alloc o).heap.size = wc.heap.size + 1 := by simp
 exact ((h.trans (Fr.ofBelow (Below.andThen hc ((Below.refl _ _).alloc (Nat.le_refl _) o)) hN)).trans (Fr.ofTurned ht (by omega) hf)).trans (Fr.ofSet _ _ _)
theorem round_fp {N : Nat} {wr wc wA : World} {fp fpx fpA : List Nat} {o : Obj} (hN : N <= wr.heap.size) (hc : Below wr.heap.size wr wc) (hf : ∀ b ∈ fp, N <= b) (hx : ∀ b ∈ fpx, wr.heap.size <= b /\ b < wc.heap.size) (h2 : ∀ b ∈ fpA, b ∈ fp ∨ b ∈ fpx ∨ (b = (wc.alloc o).heap.size /\ b < wA.heap.size)) : ∀ b ∈ fpA, N <= b := by
 have h1 := hc.size
 intro b hb
 rcases h2 b hb with h | h | h
 . exact hf b h
 . have := hx b h
   omega
 . have := h.1
   simp at this
   omega

theorem wr_mine {w : World} {v : Value} {zs : List Int} {fp : List Nat} (x : Int) (h : tIntS.Mine w [v] zs fp) : tWr.Mine w [.int .i64 x, v] (x, zs) fp := by
 have h1 : intTy.Mine w [.int .i64 x] x [] := ⟨⟨rfl, rfl⟩, by simp⟩
 exact pair_mine_of (t := intTy) (u := tIntS) (vs := [_]) (us := [_]) h1 h (by simp)

theorem Turned.undrew {fp : List Nat} {w w' : World} (h : Turned fp w.drew w') : Turned fp w w' := ⟨h.os, h.tape, h.output, h.size, h.block⟩

theorem mem_own3 {w : World} {E : TypeId} {lo hi l0 u0 l1 u1 l3 u3 : Nat} {v0 v1 v3 : Value} {f : Bool} {ss : List (List Int)} {cs : List (Int × List Int)} {bs : List Int} (h0 : tIntSS.Own w l0 u0 [v0] ss) (h1 : (tWrS E).Own w l1 u1 [v1] cs) (h3 : tIntS.Own w l3 u3 [v3] bs)
 (d01 : u0 <= l1 ∨ u1 <= l0) (d03 : u0 <= l3 ∨ u3 <= l0) (d13 : u1 <= l3 ∨ u3 <= l1) (r0 : lo <= l0 /\ u0 <= hi) (r1 : lo <= l1 /\ u1 <= hi) (r3 : lo <= l3 /\ u3 <= hi) : (tMem E).Own w lo hi [v0, v1, .bool f, v3] (ss, cs, f, bs) := by
 obtain ⟨f0, m0, k0⟩ := h0.mine
 obtain ⟨f1, m1, k1⟩ := h1.mine
 obtain ⟨f3, m3, k3⟩ := h3.mine
 have mb : boolTy.Mine w [.bool f] f [] := ⟨⟨rfl, rfl⟩, by simp⟩
 have p1 := pair_mine_of (t := boolTy) (u := tIntS) (vs := [_]) (us := [_]) mb m3 (by simp)
 have p2 := pair_mine_of (t := tWrS E) (u := pairTy boolTy tIntS) (vs := [_]) (us := [_, _]) m1 p1 (fun b hb hb' => by
  have e1 := k1 b hb
  have e2 := k3 b (by simpa using hb')
  omega)
 have p3 := pair_mine_of (t := tIntSS) (u := pairTy (tWrS E) (pairTy boolTy tIntS)) (vs := [_]) (us := [_, _, _]) m0 p2 (fun b hb hb' => by
  have e0 := k0 b hb
  simp at hb'
  rcases hb' with h | h
  . have e1 := k1 b h
    omega
  . have e3 := k3 b h
    omega)
 refine Ty.Mine.own (t := tMem E) p3 (fun b hb => ?_)
 simp at hb
 rcases hb with h | h | h
 . have := k0 b h
   omega
 . have := k1 b h
   omega
 . have := k3 b h
   omega

theorem with_key {G : Nat -> Nat -> World -> Option Addr -> Nat -> Prop} {A : Nat -> Nat -> World -> Option Addr -> Nat -> List Nat -> Prop} {C : Prop} (main : ∀ BO g w6 a5 c5 fp3, A BO g w6 a5 c5 fp3 -> G BO g w6 a5 c5) (use : Hid (∀ BO g w6 a5 c5 fp3, A BO g w6 a5 c5 fp3 -> G BO g w6 a5 c5) -> C) : C := use main

theorem mine_ints {w : World} {lo : Nat} {v : Value} {zs : List Int} (h : Owns .i64 3 w lo v zs) : ∃ fp, tIntS.Mine w [v] zs fp /\ ∀ b ∈ fp, v.ownBlock = some b /\ b < w.heap.size := by
 rcases h.2 with ⟨hv, hn⟩ | ⟨g, cap, cur, hv, hb, hg, hnc, hcm, hcs, ht⟩
 . exact ⟨[], ⟨.inl ⟨by rw [hv], List.eq_nil_of_length_eq_zero hn, rfl⟩, by simp⟩, by simp⟩
 . have hgl : g < w.heap.size := (Array.getElem?_eq_some_iff.1 hg).1
   refine ⟨[g], ⟨.inr ⟨g, cap, cur, zs.map fun _ => [], by rw [hv], hnc, hcm, hg, hcs, by simp, by simp, fun i x hx => ?_⟩, by simp⟩, by intro b hb; simp at hb; subst hb; exact ⟨by rw [hv]; rfl, hgl⟩⟩
   have hi : i < zs.length := (List.getElem?_eq_some_iff.1 hx).1
   refine ⟨[], by rw [List.getElem?_map, hx]; rfl, ?_, rfl⟩
   have e : cur.toList[i]? = some (.int .i64 x) := by
    have : (cur.toList.take (zs.length * 1))[i]? = (zs.map (Value.int .i64))[i]? := by rw [ht]
    rw [List.getElem?_take, if_pos (by omega), List.getElem?_map, hx] at this
    exact this
   have hic : i < cur.toList.length := (List.getElem?_eq_some_iff.1 e).1
   show (cur.toList.drop (i * 1)).take 1 = _
   rw [Nat.mul_one, List.drop_eq_getElem_cons hic, List.take_succ_cons, List.take_zero]
   rw [List.getElem?_eq_getElem hic] at e
   simp at e
   rw [Array.getElem_toList, e]

theorem step_copy {P : Program} {w : World} {ops : Array Oper} {o : Oper} {a : Act} {K : Act -> World -> Prop} {Q : Exit -> Act -> World -> Prop} {G : Prop} (hgd : o.guard = none) (s x : Operand) (t : TypeId)
 (ho : o.op = .call { callee := .builtin .append, args := #[s, x], argTypes := #[t, t] })
 (i : TypeInfo) (ht : P.underlying t = some (.slice 3)) (hi : P.info? 3 = some i) (hz : i.zero = some (.int .i64 0)) (hsize : i.size = 1) (hby : i.bytes = 8)
 (g : Nat) (hs : a.eval s = .slice (some ⟨g, 0, none⟩) 0 0) (hg : w.heap[g]? = some (.cells #[] 3 (0, 0)))
 (src : Option Addr) (n cap : Nat) (zs : List Int) (hx : a.eval x = .slice src n cap) (hr : tIntS.Rd w [.slice src n cap] zs) (hn : n <= 2097152)
 (h : ∀ a' c' w' fp, tIntS.Mine w' [.slice a' n c'] zs fp -> (∀ b ∈ fp, (b = g ∨ b = w.heap.size) /\ b < w'.heap.size) -> Turned [g] w w' -> K (a.put o.dst (.slice a' n c')) w') :
 if Region.wanted o (yielded ops a.tmps) = true then Oper.wp P o a w K Q else G := by
 have hw : Region.wanted o (yielded ops a.tmps) = true := by simp [Region.wanted, hgd]
 rw [if_pos hw]
 have hgl : g < w.heap.size := (Array.getElem?_eq_some_iff.1 hg).1
 have hown : w.ownsRow 0 3 1 (.slice (some ⟨g, 0, none⟩) 0 0) 0 [] := ⟨rfl, .inr ⟨g, 0, #[], rfl, Nat.zero_le _, hg, Nat.le_refl _, Nat.zero_le _, rfl, rfl⟩⟩
 obtain ⟨hrd, hl, _, _⟩ := ints_rd hr
 match src, hx, hr, hrd with
 | none, hx, hr, _ =>
  obtain ⟨rfl, rfl, rfl⟩ := row_nil hr
  have hrun := run_append_owned_none (P := P) (w := w) 0 t o.type 3 i 1 ht hi _ 0 [] hown
  unfold Oper.wp
  simp [execOp, ho, resolve, invoke, builtin, hs, hx, hrun, Result.andThen]
  exact h _ _ w [g] ⟨.inr ⟨g, 0, #[], [], rfl, Nat.le_refl _, by omega, hg, rfl, rfl, rfl, fun i x hx => by simp at hx⟩, by simp⟩ (by simp; exact hgl) (Turned.refl _ _)
 | some ad, hx, _, hrd =>
  obtain ⟨v', w', hrun, k1, k2, _, k4⟩ := run_append_own_at (P := P) w 0 t o.type 3 i (.int .i64 0) 1 8 ht hi hz hsize hby rfl (by decide) _ 0 [] hown ad n cap (zs.map (Value.int .i64)) (by simp [hl]) hrd.cells (ints_plain zs) (by unfold maxLen; omega) (by omega) (Nat.zero_le _)
  have ko : Owns .i64 3 w' 0 v' zs := by
   unfold Owns
   rw [hl]
   simpa using k1
  obtain ⟨fp, m1, m2⟩ := mine_ints ko
  obtain ⟨a', c', hv⟩ := row_shape m1.rd
  rw [hl] at hv
  subst hv
  unfold Oper.wp
  simp [execOp, ho, resolve, invoke, builtin, hs, hx, hrun, Result.andThen]
  refine h _ _ w' fp m1 (fun b hb => ⟨?_, (m2 b hb).2⟩) ⟨k2.os, k2.tape, k2.output, k2.size, fun k hk hf => k2.block k hk (by simp [Value.ownBlock]; exact fun e => hf (by simp [e]))⟩
  have h1 := (m2 b hb).1
  rw [h1] at k4
  rcases k4 with k4 | k4
  . left
    simpa [Value.ownBlock] using k4
  . right
    simpa using k4

theorem row_set1 {t : Ty} {E : TypeId} {w : World} {g n cap j : Nat} {d : List t.D} {v : Value} {x : t.D} {fp f : List Nat} (ht : t.n = 1) (h : (rowTy t E).Mine w [.slice (some ⟨g, 0, none⟩) n cap] d fp)
 (hj : j < n) (hx : t.Mine w [v] x f) (hdis : ∀ b ∈ f, b ∉ fp) :
 (∃ old, w.cell? ⟨g, j, none⟩ = some old) /\ w.frozen? ⟨g, j, none⟩ = false /\ g ∈ fp /\ ∃ fp', (rowTy t E).Mine (w.setCell ⟨g, j, none⟩ v) [.slice (some ⟨g, 0, none⟩) n cap] (d.set j x) fp' /\ ∀ b ∈ fp', b ∈ fp ∨ b ∈ f := by
 obtain ⟨h, hn⟩ := h
 obtain ⟨hx, hn'⟩ := hx
 rcases h with ⟨h1, _⟩ | ⟨b, cap', cur, fps, h1, h2, h3, h4, h5, h6, h7, h8⟩
 . simp at h1
 . simp only [List.cons.injEq, Value.slice.injEq, Option.some.injEq, Addr.mk.injEq, and_true] at h1
   obtain ⟨rfl, rfl, rfl⟩ := h1
   have hgp : g ∈ fp := by rw [h6]; exact List.mem_cons_self
   have hjc : j < cur.size := by rw [h5, ht]; omega
   have hgf' : g ∉ f := fun hm => hdis g hm hgp
   rw [h6, List.nodup_cons] at hn
   obtain ⟨hgf, hnf⟩ := hn
   have hd2 : ∀ b ∈ f, b ∉ fps.flatten := fun b hb hbl => hdis b hb (by rw [h6]; exact List.mem_cons_of_mem _ hbl)
   obtain ⟨hsn, hsm⟩ := flatten_set_nodup fps j f hnf hn' hd2
   have hoth : ∀ b, b ≠ g -> (w.setCell ⟨g, j, none⟩ v).heap[b]? = w.heap[b]? := fun b hb => Below.heap_setCell _ _ _ _ hb
   have hsz : w.heap.size <= (w.setCell ⟨g, j, none⟩ v).heap.size := by simp
   refine ⟨⟨cur[j], ?_⟩, frozen_of_row w g j cur E h4, hgp, g :: (fps.set j f).flatten, ⟨.inr ⟨g, cap, cur.setIfInBounds j v, fps.set j f, by rw [List.length_set], by rw [List.length_set]; exact h2, h3, heap_setCell_same w g j cur E v h4, by simpa using h5, rfl, by rw [List.length_set, List.length_set]; exact h7, fun i y hy => ?_⟩, ?_⟩, ?_⟩
   . rw [cell_of_row w g j cur E (0, 0) h4, Array.getElem?_eq_getElem hjc]
   . by_cases hij : i = j
     . subst hij
       have hyx : y = x := by
        rw [List.getElem?_set_self (by omega)] at hy
        simpa using hy.symm
       subst hyx
       refine ⟨f, List.getElem?_set_self (by rw [h7]; omega), ?_⟩
       have e : ((cur.setIfInBounds i v).toList.drop (i * t.n)).take t.n = [v] := by
        rw [ht, Nat.mul_one, Array.toList_setIfInBounds, List.drop_set, if_neg (by omega), Nat.sub_self, List.drop_eq_getElem_cons (by simpa using hjc), List.set_cons_zero]
        simp
       rw [e]
       exact t.owKept hx (fun b hb => hoth b (fun e => hgf' (e ▸ hb))) hsz
     . rw [List.getElem?_set_ne (fun e => hij e.symm)] at hy
       obtain ⟨f2, hf, ho⟩ := h8 i y hy
       refine ⟨f2, by rw [List.getElem?_set_ne (fun e => hij e.symm)]; exact hf, ?_⟩
       have e : ((cur.setIfInBounds j v).toList.drop (i * t.n)).take t.n = (cur.toList.drop (i * t.n)).take t.n := by
        rw [ht, Nat.mul_one, Array.toList_setIfInBounds]
        apply List.ext_getElem?
        intro k
        rw [List.getElem?_take, List.getElem?_take, List.getElem?_drop, List.getElem?_drop]
        by_cases hk : k < 1
        . rw [if_pos hk, if_pos hk, List.getElem?_set_ne (by omega)]
        . rw [if_neg hk, if_neg hk]
       rw [e]
       exact t.owKept ho (fun b hb => hoth b (fun e' => hgf (by rw [← e']; exact List.mem_flatten.2 ⟨f2, List.mem_of_getElem? hf, hb⟩))) hsz
   . rw [List.nodup_cons]
     refine ⟨fun hm => ?_, hsn⟩
     rcases hsm g hm with hm | hm
     . exact hgf' hm
     . exact hgf hm
   . intro b hb
     rcases List.mem_cons.1 hb with rfl | hb
     . exact .inl hgp
     . rcases hsm b hb with hb | hb
       . exact .inr hb
       . exact .inl (by rw [h6]; exact List.mem_cons_of_mem _ hb)

theorem flatten_apart : ∀ (fs : List (List Nat)) (i j : Nat) (f f' : List Nat), fs.flatten.Nodup -> fs[i]? = some f -> fs[j]? = some f' -> i < j -> ∀ b ∈ f, b ∉ f'
 | [], i, _, _, _, _, h, _, _ => by simp at h
 | g :: fs, 0, j + 1, f, f', hn, hi, hj, _ => by
  simp at hi
  subst hi
  rw [List.flatten_cons, List.nodup_append] at hn
  intro b hb hb'
  refine hn.2.2 b hb b (List.mem_flatten.2 ⟨f', List.mem_of_getElem? (i := j) (by simpa using hj), hb'⟩) rfl
 | g :: fs, i + 1, j + 1, f, f', hn, hi, hj, hij => by
  rw [List.flatten_cons, List.nodup_append] at hn
  exact flatten_apart fs i j f f' hn.2.1 (by simpa using hi) (by simpa using hj) (by omega)
 | g :: fs, i, 0, f, f', _, _, _, hij => by omega

theorem row_parts {t : Ty} {E : TypeId} {w : World} {g n cap : Nat} {d : List t.D} {fp : List Nat} (h : (rowTy t E).Mine w [.slice (some ⟨g, 0, none⟩) n cap] d fp) :
 g ∈ fp /\ ∃ F : Nat -> List Nat, (∀ i x, d[i]? = some x -> ∃ cs, t.Mine w cs x (F i) /\ g ∉ F i /\ (∀ b ∈ F i, b ∈ fp) /\ ∀ k, k < t.n -> w.cell? ⟨g, i * t.n + k, none⟩ = cs[k]?) /\ ∀ i j, i < j -> j < d.length -> ∀ b ∈ F i, b ∉ F j := by
 obtain ⟨h, hn⟩ := h
 rcases h with ⟨h1, _⟩ | ⟨b, cap', cur, fps, h1, h2, h3, h4, h5, h6, h7, h8⟩
 . simp at h1
 . simp only [List.cons.injEq, Value.slice.injEq, Option.some.injEq, Addr.mk.injEq, and_true] at h1
   obtain ⟨rfl, rfl, rfl⟩ := h1
   rw [h6, List.nodup_cons] at hn
   obtain ⟨hgf, hnf⟩ := hn
   refine ⟨by rw [h6]; exact List.mem_cons_self, fun i => fps.getD i [], fun i x hx => ?_, fun i j hij hj b hb hb' => ?_⟩
   . obtain ⟨f, hf, ho⟩ := h8 i x hx
     obtain ⟨k1, k2, _⟩ := flatten_part hnf hf
     have hgd : fps.getD i [] = f := by rw [List.getD_eq_getElem?_getD, hf]; rfl
     simp only [hgd]
     refine ⟨_, ⟨ho, k1⟩, fun hm => hgf (k2 g hm), fun b hb => by rw [h6]; exact List.mem_cons_of_mem _ (k2 b hb), fun k hk => ?_⟩
     rw [cell_of_row w g _ cur E (0, 0) h4, List.getElem?_take, if_pos hk, List.getElem?_drop]
     simp
   . have e1 : fps[i]? = some (fps.getD i []) := by rw [List.getD_eq_getElem?_getD, List.getElem?_eq_getElem (by omega)]; rfl
     have e2 : fps[j]? = some (fps.getD j []) := by rw [List.getD_eq_getElem?_getD, List.getElem?_eq_getElem (by omega)]; rfl
     exact flatten_apart fps i j _ _ hnf e1 e2 hij b hb hb'

def put4 (w : World) (g q : Nat) (v0 v1 v2 v3 : Value) : World := (((w.setCell ⟨g, q, none⟩ v0).setCell ⟨g, q + 1, none⟩ v1).setCell ⟨g, q + 2, none⟩ v2).setCell ⟨g, q + 3, none⟩ v3
theorem put4_other {w : World} {g q b : Nat} {v0 v1 v2 v3 : Value} (hb : b ≠ g) : (put4 w g q v0 v1 v2 v3).heap[b]? = w.heap[b]? := by
 unfold put4
 rw [Below.heap_setCell _ _ _ _ hb, Below.heap_setCell _ _ _ _ hb, Below.heap_setCell _ _ _ _ hb, Below.heap_setCell _ _ _ _ hb]
theorem put4_size (w : World) (g q : Nat) (v0 v1 v2 v3 : Value) : (put4 w g q v0 v1 v2 v3).heap.size = w.heap.size := by unfold put4; simp
theorem put4_turned (w : World) (g q : Nat) (v0 v1 v2 v3 : Value) : Turned [g] w (put4 w g q v0 v1 v2 v3) :=
 ⟨rfl, rfl, rfl, by rw [put4_size]; exact Nat.le_refl _, fun k _ hk => put4_other (by simpa using hk)⟩

theorem row_set4 {t : Ty} {E : TypeId} {w : World} {g n cap j : Nat} {d : List t.D} {v0 v1 v2 v3 : Value} {x : t.D} {fp f : List Nat} (ht : t.n = 4) (h : (rowTy t E).Mine w [.slice (some ⟨g, 0, none⟩) n cap] d fp)
 (hj : j < n) (hx : t.Mine w [v0, v1, v2, v3] x f) (hdis : ∀ b ∈ f, b ∉ fp) :
 (∀ q, q < 4 -> ∃ old, w.cell? ⟨g, j * 4 + q, none⟩ = some old) /\ (∀ q, w.frozen? ⟨g, q, none⟩ = false) /\ g ∈ fp /\ ∃ fp', (rowTy t E).Mine (put4 w g (j * 4) v0 v1 v2 v3) [.slice (some ⟨g, 0, none⟩) n cap] (d.set j x) fp' /\ ∀ b ∈ fp', b ∈ fp ∨ b ∈ f := by
 obtain ⟨h, hn⟩ := h
 obtain ⟨hx, hn'⟩ := hx
 rcases h with ⟨h1, _⟩ | ⟨b, cap', cur, fps, h1, h2, h3, h4, h5, h6, h7, h8⟩
 . simp at h1
 . simp only [List.cons.injEq, Value.slice.injEq, Option.some.injEq, Addr.mk.injEq, and_true] at h1
   obtain ⟨rfl, rfl, rfl⟩ := h1
   have hgp : g ∈ fp := by rw [h6]; exact List.mem_cons_self
   rw [ht] at h5
   have hjc : j * 4 + 3 < cur.size := by rw [h5]; omega
   have hgf' : g ∉ f := fun hm => hdis g hm hgp
   rw [h6, List.nodup_cons] at hn
   obtain ⟨hgf, hnf⟩ := hn
   have hd2 : ∀ b ∈ f, b ∉ fps.flatten := fun b hb hbl => hdis b hb (by rw [h6]; exact List.mem_cons_of_mem _ hbl)
   obtain ⟨hsn, hsm⟩ := flatten_set_nodup fps j f hnf hn' hd2
   have hoth : ∀ b, b ≠ g -> (put4 w g (j * 4) v0 v1 v2 v3).heap[b]? = w.heap[b]? := fun b hb => put4_other hb
   have hsz : w.heap.size <= (put4 w g (j * 4) v0 v1 v2 v3).heap.size := by rw [put4_size]; exact Nat.le_refl _
   have hcell : ∀ k, ((((cur.setIfInBounds (j * 4) v0).setIfInBounds (j * 4 + 1) v1).setIfInBounds (j * 4 + 2) v2).setIfInBounds (j * 4 + 3) v3).toList[k]? = if j * 4 <= k /\ k < j * 4 + 4 then [v0, v1, v2, v3][k - j * 4]? else cur.toList[k]? := fun k => by
    rw [Array.toList_setIfInBounds, Array.toList_setIfInBounds, Array.toList_setIfInBounds, Array.toList_setIfInBounds]
    by_cases h0 : k = j * 4
    . subst h0
      rw [if_pos (by omega), List.getElem?_set_ne (by omega), List.getElem?_set_ne (by omega), List.getElem?_set_ne (by omega), List.getElem?_set_self (by simp; omega), Nat.sub_self]
      rfl
    . by_cases h1 : k = j * 4 + 1
      . subst h1
        rw [if_pos (by omega), List.getElem?_set_ne (by omega), List.getElem?_set_ne (by omega), List.getElem?_set_self (by simp; omega), Nat.add_sub_cancel_left]
        rfl
      . by_cases h2 : k = j * 4 + 2
        . subst h2
          rw [if_pos (by omega), List.getElem?_set_ne (by omega), List.getElem?_set_self (by simp; omega), Nat.add_sub_cancel_left]
          rfl
        . by_cases h3 : k = j * 4 + 3
          . subst h3
            rw [if_pos (by omega), List.getElem?_set_self (by simp; omega), Nat.add_sub_cancel_left]
            rfl
          . rw [if_neg (by omega), List.getElem?_set_ne (by omega), List.getElem?_set_ne (by omega), List.getElem?_set_ne (by omega), List.getElem?_set_ne (by omega)]
   refine ⟨fun q hq => ⟨cur[j * 4 + q]'(by omega), ?_⟩, fun q => frozen_of_row w g q cur E h4, hgp, g :: (fps.set j f).flatten, ⟨.inr ⟨g, cap, (((cur.setIfInBounds (j * 4) v0).setIfInBounds (j * 4 + 1) v1).setIfInBounds (j * 4 + 2) v2).setIfInBounds (j * 4 + 3) v3, fps.set j f, by rw [List.length_set], by rw [List.length_set]; exact h2, h3, heap_setCell_same _ g _ _ E v3 (heap_setCell_same _ g _ _ E v2 (heap_setCell_same _ g _ _ E v1 (heap_setCell_same w g _ cur E v0 h4))), by rw [ht]; simpa using h5, rfl, by rw [List.length_set, List.length_set]; exact h7, fun i y hy => ?_⟩, ?_⟩, ?_⟩
   . rw [cell_of_row w g _ cur E (0, 0) h4, Array.getElem?_eq_getElem]
   . by_cases hij : i = j
     . subst hij
       have hyx : y = x := by
        rw [List.getElem?_set_self (by omega)] at hy
        simpa using hy.symm
       subst hyx
       refine ⟨f, List.getElem?_set_self (by rw [h7]; omega), ?_⟩
       have e : (((((cur.setIfInBounds (i * 4) v0).setIfInBounds (i * 4 + 1) v1).setIfInBounds (i * 4 + 2) v2).setIfInBounds (i * 4 + 3) v3).toList.drop (i * t.n)).take t.n = [v0, v1, v2, v3] := by
        rw [ht]
        apply List.ext_getElem?
        intro k
        rw [List.getElem?_take, List.getElem?_drop, hcell]
        by_cases hk : k < 4
        . rw [if_pos hk, if_pos (by omega), Nat.add_sub_cancel_left]
        . rw [if_neg hk, List.getElem?_eq_none (by simp; omega)]
       rw [e]
       exact t.owKept hx (fun b hb => hoth b (fun e => hgf' (e ▸ hb))) hsz
     . rw [List.getElem?_set_ne (fun e => hij e.symm)] at hy
       obtain ⟨f2, hf, ho⟩ := h8 i y hy
       refine ⟨f2, by rw [List.getElem?_set_ne (fun e => hij e.symm)]; exact hf, ?_⟩
       have e : (((((cur.setIfInBounds (j * 4) v0).setIfInBounds (j * 4 + 1) v1).setIfInBounds (j * 4 + 2) v2).setIfInBounds (j * 4 + 3) v3).toList.drop (i * t.n)).take t.n = (cur.toList.drop (i * t.n)).take t.n := by
        rw [ht]
        apply List.ext_getElem?
        intro k
        rw [List.getElem?_take, List.getElem?_take, List.getElem?_drop, List.getElem?_drop]
        by_cases hk : k < 4
        . rw [if_pos hk, if_pos hk, hcell, if_neg (by omega)]
        . rw [if_neg hk, if_neg hk]
       rw [e]
       exact t.owKept ho (fun b hb => hoth b (fun e' => hgf (by rw [← e']; exact List.mem_flatten.2 ⟨f2, List.mem_of_getElem? hf, hb⟩))) hsz
   . rw [List.nodup_cons]
     refine ⟨fun hm => ?_, hsn⟩
     rcases hsm g hm with hm | hm
     . exact hgf' hm
     . exact hgf hm
   . intro b hb
     rcases List.mem_cons.1 hb with rfl | hb
     . exact .inl hgp
     . rcases hsm b hb with hb | hb
       . exact .inr hb
       . exact .inl (by rw [h6]; exact List.mem_cons_of_mem _ hb)

def arrC (x : ArrN) (vm vd : Value) : Array Value := #[.int .i64 x.id, .int .i64 x.n, .int .i64 x.s, vm, .int .i64 x.lost, .int .i64 x.built, .int .i64 x.seq, .int .i64 x.tail, .int .i64 x.gen, vd, .int .i64 x.fuse, .bool x.down, .bool x.broken]
def ArrAt (w : World) (B : Nat) (x : ArrN) (ms : List MemD) (ds : List (Int × List Int)) (fm fd : List Nat) : Prop :=
 ∃ (bm bd : Option Addr) (cm cd : Nat), Box w B 35 (arrC x (.slice bm ms.length cm) (.slice bd ds.length cd)) /\ (tMemS 123 87).Mine w [.slice bm ms.length cm] ms fm /\ (tWrS 65).Mine w [.slice bd ds.length cd] ds fd /\ (∀ b ∈ fm, b ∉ fd) /\ B ∉ fm /\ B ∉ fd
def Moved (B : Nat) (fm : List Nat) (w : World) (fm' : List Nat) (w' : World) : Prop := Turned (B :: fm) w w' /\ ∀ b ∈ fm', b ∈ fm ∨ w.heap.size <= b

theorem Moved.refl (B : Nat) (fm : List Nat) (w : World) : Moved B fm w fm w := ⟨Turned.refl _ _, fun _ h => .inl h⟩
theorem Moved.trans {B : Nat} {f1 f2 f3 : List Nat} {w1 w2 w3 : World} (h : Moved B f1 w1 f2 w2) (k : Moved B f2 w2 f3 w3) : Moved B f1 w1 f3 w3 := by
 have hs := h.1.size
 refine ⟨⟨k.1.os.trans h.1.os, k.1.tape.trans h.1.tape, k.1.output.trans h.1.output, Nat.le_trans h.1.size k.1.size, fun b hb hn => ?_⟩, fun b hb => ?_⟩
 . rw [k.1.block b (by omega) (fun hm => ?_), h.1.block b hb hn]
   rcases List.mem_cons.1 hm with e | hm
   . exact hn (by rw [e]; exact List.mem_cons_self)
   . rcases h.2 b hm with h1 | h1
     . exact hn (List.mem_cons_of_mem _ h1)
     . omega
 . rcases k.2 b hb with h1 | h1
   . exact h.2 b h1
   . exact .inr (by omega)
theorem Moved.below {B : Nat} {f1 f2 : List Nat} {w1 w2 w3 : World} (h : Moved B f1 w1 f2 w2) (k : Below w2.heap.size w2 w3) : Moved B f1 w1 f2 w3 :=
 h.trans ⟨⟨k.os, k.tape, k.output, k.size, fun b hb _ => k.block b hb⟩, fun _ hb => .inl hb⟩
theorem Moved.drew {B : Nat} {f1 f2 : List Nat} {w1 w2 : World} (h : Moved B f1 w1 f2 w2) : Moved B f1 w1 f2 w2.drew := h.below ((Below.refl _ _).drew)
theorem Moved.size {B : Nat} {f1 f2 : List Nat} {w1 w2 : World} (h : Moved B f1 w1 f2 w2) : w1.heap.size <= w2.heap.size := h.1.size
theorem Moved.box {B C : Nat} {f1 f2 : List Nat} {w1 w2 : World} {T : TypeId} {cs : Array Value} (h : Moved B f1 w1 f2 w2) (x : Box w1 C T cs) (hne : C ≠ B) (hf : C ∉ f1) : Box w2 C T cs := x.kept (h.1.block C x.lt (by simp [hne, hf]))
theorem Moved.mine {t : Ty} {B : Nat} {f1 f2 fp : List Nat} {w1 w2 : World} {vs : List Value} {d : t.D} (h : Moved B f1 w1 f2 w2) (o : t.Mine w1 vs d fp) (hB : B ∉ fp) (hd : ∀ b ∈ fp, b ∉ f1) : t.Mine w2 vs d fp :=
 o.kept h.1 (fun b hb hm => by
  rcases List.mem_cons.1 hm with e | hm
  . exact hB (e ▸ hb)
  . exact hd b hb hm)
theorem Moved.set {B j : Nat} {fm : List Nat} {w : World} (v : Value) : Moved B fm w fm (w.setCell ⟨B, j, none⟩ v) := ⟨Turned.setCell v List.mem_cons_self, fun _ h => .inl h⟩

theorem ArrAt.lt {w : World} {B : Nat} {x : ArrN} {ms : List MemD} {ds : List (Int × List Int)} {fm fd : List Nat} (h : ArrAt w B x ms ds fm fd) : B < w.heap.size := by
 obtain ⟨_, _, _, _, hx, _⟩ := h
 exact hx.lt
theorem ArrAt.ltm {w : World} {B : Nat} {x : ArrN} {ms : List MemD} {ds : List (Int × List Int)} {fm fd : List Nat} (h : ArrAt w B x ms ds fm fd) : (∀ b ∈ fm, b < w.heap.size) /\ ∀ b ∈ fd, b < w.heap.size := by
 obtain ⟨_, _, _, _, _, hm, hd, _⟩ := h
 exact ⟨hm.lt, hd.lt⟩
theorem ArrAt.below {w w' : World} {B : Nat} {x : ArrN} {ms : List MemD} {ds : List (Int × List Int)} {fm fd : List Nat} (h : ArrAt w B x ms ds fm fd) (hb : Below w.heap.size w w') : ArrAt w' B x ms ds fm fd := by
 obtain ⟨bm, bd, cm, cd, hx, hm, hd, r⟩ := h
 exact ⟨bm, bd, cm, cd, hx.below hb hx.lt, hm.below hb, hd.below hb, r⟩
theorem ArrAt.drew {w : World} {B : Nat} {x : ArrN} {ms : List MemD} {ds : List (Int × List Int)} {fm fd : List Nat} (h : ArrAt w B x ms ds fm fd) : ArrAt w.drew B x ms ds fm fd := h.below ((Below.refl _ _).drew)
theorem ArrAt.alloc {w : World} {B : Nat} {x : ArrN} {ms : List MemD} {ds : List (Int × List Int)} {fm fd : List Nat} (h : ArrAt w B x ms ds fm fd) (o : Obj) : ArrAt (w.alloc o) B x ms ds fm fd := h.below (new_below w o)
theorem ArrAt.kept {w w' : World} {B : Nat} {fq : List Nat} {x : ArrN} {ms : List MemD} {ds : List (Int × List Int)} {fm fd : List Nat} (h : ArrAt w B x ms ds fm fd) (ht : Turned fq w w') (h0 : B ∉ fq) (h1 : ∀ b ∈ fm, b ∉ fq) (h2 : ∀ b ∈ fd, b ∉ fq) : ArrAt w' B x ms ds fm fd := by
 obtain ⟨bm, bd, cm, cd, hx, hm, hd, r⟩ := h
 exact ⟨bm, bd, cm, cd, hx.kept (ht.block B hx.lt h0), hm.kept ht h1, hd.kept ht h2, r⟩

theorem row_head {t : Ty} {E : TypeId} {w : World} {a : Option Addr} {n cap : Nat} {d : List t.D} {fp : List Nat} (h : (rowTy t E).Mine w [.slice a n cap] d fp) (hn : 0 < n) : ∃ g, a = some ⟨g, 0, none⟩ := by
 obtain ⟨h, _⟩ := h
 rcases h with ⟨h1, _⟩ | ⟨b, cap', cur, fps, h1, _⟩
 . simp at h1
   omega
 . simp at h1
   exact ⟨b, h1.1⟩
theorem disk_at {w : World} {E F : TypeId} {g n cap j : Nat} {ms : List MemD} {d : MemD} {fp : List Nat} (h : (tMemS E F).Mine w [.slice (some ⟨g, 0, none⟩) n cap] ms fp) (hj : ms[j]? = some d) :
 g < w.heap.size /\ ∃ (a0 a1 a3 : Option Addr) (c0 c1 c3 : Nat) (ss : List (List Int)) (cs : List (Int × List Int)) (f : Bool) (bs : List Int), d = (ss, cs, f, bs) /\ w.cell? ⟨g, j * 4, none⟩ = some (.slice a0 ss.length c0) /\ w.cell? ⟨g, j * 4 + 1, none⟩ = some (.slice a1 cs.length c1) /\ w.cell? ⟨g, j * 4 + 2, none⟩ = some (.bool f) /\ w.cell? ⟨g, j * 4 + 3, none⟩ = some (.slice a3 bs.length c3) /\
  tIntSS.Rd w [.slice a0 ss.length c0] ss /\ (tWrS E).Rd w [.slice a1 cs.length c1] cs /\ tIntS.Rd w [.slice a3 bs.length c3] bs := by
 have hjl := (List.getElem?_eq_some_iff.1 hj).1
 have hl := (row_length h.rd).1
 rcases quads_at rfl h.rd with h0 | ⟨b, off, hbo, hbl, hcs⟩
 . omega
 . simp at hbo
   obtain ⟨rfl, rfl⟩ := hbo
   obtain ⟨v0, v1, v2, v3, hv0, hv1, hv2, hv3, hrv⟩ := hcs j d hj
   obtain ⟨a0, c0, a1, c1, a3, c3, ss, cs, f, bs, rfl, rfl, rfl, rfl, rfl, r0, r1, r3⟩ := mem_at hrv
   rw [Nat.zero_add] at hv0 hv1 hv2 hv3
   exact ⟨hbl, a0, a1, a3, c0, c1, c3, ss, cs, f, bs, rfl, hv0, hv1, hv2, hv3, r0, r1, r3⟩
theorem arr_store {w1 w3 : World} {B g cm cd m : Nat} {bd : Option Addr} {x : ArrN} {ms : List MemD} {ds : List (Int × List Int)} {fm fd fpx : List Nat} {d : MemD} {u0 u1 u2 u3 : Value} (X : Box w1 B 35 (arrC x (.slice (some ⟨g, 0, none⟩) ms.length cm) (.slice bd ds.length cd))) (hm : (tMemS 123 87).Mine w1 [.slice (some ⟨g, 0, none⟩) ms.length cm] ms fm) (hd : (tWrS 65).Mine w1 [.slice bd ds.length cd] ds fd) (hr : ∀ b ∈ fm, b ∉ fd) (r1 : B ∉ fm) (r2 : B ∉ fd)
 (hb : Below w1.heap.size w1 w3) (hj : m < ms.length) (hx : (tMem 123).Mine w3 [u0, u1, u2, u3] d fpx) (hx2 : ∀ b ∈ fpx, w1.heap.size <= b) :
 (∀ q, q < 4 -> ∃ old, w3.cell? ⟨g, m * 4 + q, none⟩ = some old) /\ (∀ q, w3.frozen? ⟨g, q, none⟩ = false) /\ g ∈ fm /\ ∃ fm', ArrAt (put4 w3 g (m * 4) u0 u1 u2 u3) B x (ms.set m d) ds fm' fd /\ Moved B fm w1 fm' (put4 w3 g (m * 4) u0 u1 u2 u3) := by
 have hlm := hm.lt
 have hld := hd.lt
 have hlB := X.lt
 obtain ⟨c, z, hg, fm', mA, rA⟩ := row_set4 (j := m) rfl (hm.below hb) hj hx (fun b hb' hm' => by have h1 := hx2 b hb'; have h2 := hlm b hm'; omega)
 have ht := put4_turned w3 g (m * 4) u0 u1 u2 u3
 have hgB : B ≠ g := fun e => r1 (e ▸ hg)
 have hgd : ∀ b ∈ fd, b ∉ [g] := fun b hb' hm' => by simp at hm'; exact hr g hg (hm' ▸ hb')
 refine ⟨c, z, hg, fm', ⟨some ⟨g, 0, none⟩, bd, cm, cd, ?_, ?_, (hd.below hb).kept ht hgd, ?_, ?_, r2⟩, ⟨⟨hb.os, hb.tape, hb.output, by rw [put4_size]; exact hb.size, fun b hb' hn => ?_⟩, fun b hb' => ?_⟩⟩
 . rw [List.length_set]
   exact (X.below hb hlB).kept (ht.block B (Nat.lt_of_lt_of_le hlB hb.size) (by simpa using hgB))
 . rw [List.length_set]
   exact mA
 . intro b hb' hm'
   rcases rA b hb' with h | h
   . exact hr b h hm'
   . have h1 := hx2 b h
     have h2 := hld b hm'
     omega
 . intro hm'
   rcases rA B hm' with h | h
   . exact r1 h
   . have := hx2 B h
     omega
 . rw [put4_other (fun e => hn (by rw [e]; exact List.mem_cons_of_mem _ hg)), hb.block b hb']
 . rcases rA b hb' with h | h
   . exact .inl h
   . exact .inr (hx2 b h)

def at8 (ds : List (Int × List Int)) (s : Int) : Int :=
 match ds.findIdx? (fun e => decide (e.1 = s)) with
 | some i => (i : Int)
 | none => -1
theorem at8_hit {ds : List (Int × List Int)} {s : Int} {j : Nat} {e : Int × List Int} (hj : ds[j]? = some e) (he : e.1 = s) (hb : ∀ i e', i < j -> ds[i]? = some e' -> ¬ e'.1 = s) : at8 ds s = (j : Int) := by
 have hl := (List.getElem?_eq_some_iff.1 hj).1
 have : ds.findIdx? (fun e => decide (e.1 = s)) = some j := by
  rw [List.findIdx?_eq_some_iff_getElem]
  refine ⟨hl, ?_, fun i hi => ?_⟩
  . have : ds[j] = e := by rw [List.getElem?_eq_getElem hl] at hj; simpa using hj
    rw [this]; simpa using he
  . have := hb i ds[i] hi (List.getElem?_eq_getElem (by omega))
    simpa using this
 unfold at8
 rw [this]
theorem at8_none {ds : List (Int × List Int)} {s : Int} (hb : ∀ i e', i < ds.length -> ds[i]? = some e' -> ¬ e'.1 = s) : at8 ds s = -1 := by
 have : ds.findIdx? (fun e => decide (e.1 = s)) = none := by
  rw [List.findIdx?_eq_none_iff]
  intro e he
  obtain ⟨i, hi⟩ := List.mem_iff_getElem?.1 he
  have := hb i e (List.getElem?_eq_some_iff.1 hi).1 hi
  simpa using this
 unfold at8
 rw [this]
theorem at8_cases (ds : List (Int × List Int)) (s : Int) : at8 ds s = -1 ∨ ∃ (j : Nat) (e : Int × List Int), at8 ds s = (j : Int) /\ ds[j]? = some e /\ e.1 = s := by
 unfold at8
 cases h : ds.findIdx? (fun e => decide (e.1 = s)) with
 | none => exact .inl rfl
 | some i =>
  rw [List.findIdx?_eq_some_iff_getElem] at h
  obtain ⟨hl, hp, _⟩ := h
  exact .inr ⟨i, ds[i], rfl, List.getElem?_eq_getElem hl, by simpa using hp⟩

theorem l8At_any (w : World) (G : TypeId) (x : ArrN) (am ad : Option Addr) (nm cm nd cd : Nat) (ds : List (Int × List Int)) (s : Int) (h1 : (tWrS G).Rd w [.slice ad nd cd] ds) (hn : nd <= 2097152) :
 Calls Tryz.prog 58 #[.agg #[.int .i64 x.id, .int .i64 x.n, .int .i64 x.s, .slice am nm cm, .int .i64 x.lost, .int .i64 x.built, .int .i64 x.seq, .int .i64 x.tail, .int .i64 x.gen, .slice ad nd cd, .int .i64 x.fuse, .bool x.down, .bool x.broken], .int .i64 s] w fun e w' => e = .returned (.int .i64 (at8 ds s)) /\ Below w.heap.size w w' := by
 obtain ⟨hl, _, _⟩ := row_length h1
 have hA := new_below w (.cells #[.int .i64 x.id, .int .i64 x.n, .int .i64 x.s, .slice am nm cm, .int .i64 x.lost, .int .i64 x.built, .int .i64 x.seq, .int .i64 x.tail, .int .i64 x.gen, .slice ad nd cd, .int .i64 x.fuse, .bool x.down, .bool x.broken] 35)
 have X := Box.new w 35 #[.int .i64 x.id, .int .i64 x.n, .int .i64 x.s, .slice am nm cm, .int .i64 x.lost, .int .i64 x.built, .int .i64 x.seq, .int .i64 x.tail, .int .i64 x.gen, .slice ad nd cd, .int .i64 x.fuse, .bool x.down, .bool x.broken]
 have zX := X.lt
 have c9 : (w.alloc (.cells #[.int .i64 x.id, .int .i64 x.n, .int .i64 x.s, .slice am nm cm, .int .i64 x.lost, .int .i64 x.built, .int .i64 x.seq, .int .i64 x.tail, .int .i64 x.gen, .slice ad nd cd, .int .i64 x.fuse, .bool x.down, .bool x.broken] 35)).cell? ⟨w.heap.size, 9, none⟩ = some (.slice ad nd cd) := X.cell 9
 have HA := hidden hA
 go_enter Tryz.func58, Tryz.ntmps58
 go_wp2
 generalize w.alloc (.cells #[.int .i64 x.id, .int .i64 x.n, .int .i64 x.s, .slice am nm cm, .int .i64 x.lost, .int .i64 x.built, .int .i64 x.seq, .int .i64 x.tail, .int .i64 x.gen, .slice ad nd cd, .int .i64 x.fuse, .bool x.down, .bool x.broken] 35) = W at hA X zX c9 HA ⊢
 go_loopw [5] (fun i wr => ∃ j : Nat, j <= nd /\ i = .int .i64 j /\ (∀ i e', i < j -> ds[i]? = some e' -> ¬ e'.1 = s) /\ wr = W) (fun i _ => nd - (intOf i).toNat)
 case atStart => exact ⟨0, Nat.zero_le _, rfl, fun i _ h => absurd h (by omega), rfl⟩
 case round =>
  obtain ⟨j, hj, rfl, hb, hw⟩ := hrel
  subst hw
  by_cases hjn : j < nd
  . rcases pairs_at rfl (h1.below hA) with h0 | ⟨b, off, rfl, hbl, hcs⟩
    . omega
    have hdj : ds[j]? = some (ds[j]'(by omega)) := List.getElem?_eq_getElem (by omega)
    generalize ds[j]'(by omega) = d at hdj
    obtain ⟨u0, u1, hv0, hv1, hrv⟩ := hcs j d hdj
    obtain ⟨rfl, _⟩ := wr_rd hrv
    have k1 : (0 : Int) <= (j : Int) := by omega
    have k2 : (j : Int) < (nd : Int) := by omega
    have HBB := hidden hb
    have HDJ := hidden hdj
    obtain ⟨y, ys⟩ := d
    simp only at hv0
    clear hcs hrv hv1 hb hdj
    by_cases he : y = s
    . have HV := hidden (at8_hit (s := s) HDJ.out he HBB.out)
      have e1 : (y == s) = true := by simpa using he
      clear he
      go_wp2
      go_ret
      exact ⟨ret_int HV.out.symm, HA.out⟩
    . have e1 : (y == s) = false := by simpa using he
      have HN : Hid (∀ i e', i < j + 1 -> ds[i]? = some e' -> ¬ e'.1 = s) := fun i e' hi h' => by
       by_cases hij : i = j
       . subst hij
         rw [HDJ.out] at h'
         simp at h'
         rw [← h']
         exact he
       . exact HBB.out i e' (by omega) h'
      clear he
      go_wp2
      go_roundw
      case rel => exact ⟨j + 1, by omega, by go_num, HN.out, by first | rfl | trivial⟩
      case measure => simp [intOf]; omega
  . have ej : j = nd := by omega
    subst ej
    have HV := hidden (at8_none (s := s) (fun i e' h h' => hb i e' (by omega) h'))
    have k2 : ¬ (j : Int) < (j : Int) := by omega
    go_wp2
    go_ret
    exact ⟨ret_int HV.out.symm, HA.out⟩

abbrev EntD := Int × List Int
theorem ents_open {w : World} {E : TypeId} {bd : Option Addr} {n cap : Nat} {ds : List EntD} {fd : List Nat} (h : (tWrS E).Mine w [.slice bd n cap] ds fd) :
 ∃ fps : List (List Nat), fps.length = ds.length /\ fps.flatten.Nodup /\ (∀ b ∈ fps.flatten, b ∈ fd) /\ ∀ (i : Nat) (d : EntD), ds[i]? = some d -> ∃ (f : List Nat) (g : Nat) (a : Option Addr) (c : Nat), fps[i]? = some f /\ bd = some ⟨g, 0, none⟩ /\ g < w.heap.size /\ g ∈ fd /\ g ∉ f /\ w.cell? ⟨g, i * 2, none⟩ = some (.int .i64 d.1) /\ w.cell? ⟨g, i * 2 + 1, none⟩ = some (.slice a d.2.length c) /\ tWr.Mine w [.int .i64 d.1, .slice a d.2.length c] d f := by
 obtain ⟨h, hn⟩ := h
 rcases h with ⟨_, h2, _⟩ | ⟨b, cap', cur, fps, h1, h2, h3, h4, h5, h6, h7, h8⟩
 . subst h2
   exact ⟨[], rfl, by simp, by simp, fun i d hd => by simp at hd⟩
 . simp only [List.cons.injEq, Value.slice.injEq, and_true] at h1
   rw [h6, List.nodup_cons] at hn
   refine ⟨fps, h7, hn.2, fun c hc => by rw [h6]; exact List.mem_cons_of_mem _ hc, fun i d hd => ?_⟩
   obtain ⟨f, hf, ho⟩ := h8 i d hd
   have hfn := (flatten_part hn.2 hf).1
   have hgf : b ∉ f := fun hm => hn.1 (List.mem_flatten.2 ⟨f, List.mem_of_getElem? hf, hm⟩)
   have hil := (List.getElem?_eq_some_iff.1 hd).1
   have h5' : cur.size = cap' * 2 := h5
   have hlen : ((cur.toList.drop (i * 2)).take 2).length = 2 := by
    rw [List.length_take, List.length_drop, Array.length_toList, h5']
    omega
   have ho' : tWr.ow w ((cur.toList.drop (i * 2)).take 2) d f := ho
   obtain ⟨v0, v1, hv⟩ : ∃ v0 v1, (cur.toList.drop (i * 2)).take 2 = [v0, v1] := by
    match hq : (cur.toList.drop (i * 2)).take 2, hlen with
    | [v0, v1], _ => exact ⟨v0, v1, rfl⟩
   rw [hv] at ho'
   have hM : tWr.Mine w [v0, v1] d f := ⟨ho', hfn⟩
   obtain ⟨hv0, hr⟩ := wr_rd hM.rd
   obtain ⟨a, c, hv1⟩ := row_shape hr
   have c0 : cur.toList[i * 2]? = some v0 := by
    have : ((cur.toList.drop (i * 2)).take 2)[0]? = some v0 := by rw [hv]; rfl
    rw [List.getElem?_take, if_pos (by omega), List.getElem?_drop] at this
    simpa using this
   have c1 : cur.toList[i * 2 + 1]? = some v1 := by
    have : ((cur.toList.drop (i * 2)).take 2)[1]? = some v1 := by rw [hv]; rfl
    rw [List.getElem?_take, if_pos (by omega), List.getElem?_drop] at this
    simpa using this
   subst hv0 hv1
   refine ⟨f, b, a, c, hf, h1.1, (Array.getElem?_eq_some_iff.1 h4).1, by rw [h6]; exact List.mem_cons_self, hgf, ?_, ?_, hM⟩
   . rw [cell_of_row w b _ cur E (0, 0) h4]; simpa using c0
   . rw [cell_of_row w b _ cur E (0, 0) h4]; simpa using c1

def cntMD (x : MemD) : Nat := cntSS x.1 + cntWS x.2.1 + 1 + x.2.2.2.length
def markMD (k : Int) (x : MemD) : MemD := (markSS k x.1, markW (k + (cntSS x.1 : Int)) x.2.1, decide ((k + (cntSS x.1 : Int) + (cntWS x.2.1 : Int)) % 3 = 0), marks id (k + (cntSS x.1 : Int) + (cntWS x.2.1 : Int) + 1) x.2.2.2.length)
def markMS (k0 : Int) (d : List MemD) : List MemD := markL cntMD markMD k0 d
def cntMS (d : List MemD) : Nat := sumL (d.map cntMD)
theorem cntMS_le (d : List MemD) : cntMS d <= wtMemS d := by
 unfold cntMS wtMemS
 induction d with
 | nil => simp [sumL]
 | cons x d ih =>
  have h1 : cntMD x <= wtMem x + 1 := by
   have := Nat.le_of_eq (cntWS_wt x.2.1)
   unfold cntMD wtMem wtIntSS cntSS
   omega
  have e1 : sumL ((x :: d).map cntMD) = cntMD x + sumL (d.map cntMD) := by simp [sumL]
  have e2 : sumL ((x :: d).map wtMem) = wtMem x + sumL (d.map wtMem) := by simp [sumL]
  rw [e1, e2, List.length_cons]
  omega

theorem markMemS_fp (w : World) (a : Option Addr) (n cap : Nat) (d : List MemD) (k0 : Int) (fp : List Nat) (h : (tMemS 123 87).Mine w [.slice a n cap] d fp) (hw : wtMemS d <= 2097152) (hk : 0 <= k0) (hk' : k0 + (wtMemS d : Int) <= 2097153) :
 Calls Tryz.prog 42 #[.slice a n cap, .int .i64 k0] w fun e w' => e = .returned (.int .i64 (k0 + (cntMS d : Int))) /\ (tMemS 123 87).Mine w' [.slice a n cap] (markMS k0 d) fp /\ Turned fp w w' := by
 obtain ⟨hl, hc, hm⟩ := row_length h.rd
 have hmL : (markMS k0 d).length = d.length := markL_length _ _ _ _
 have hnn : n <= 2097152 := by unfold wtMemS at hw; omega
 have hwt := cntMS_le d
 go_enter Tryz.func42, Tryz.ntmps42
 go_wp2
 go_loopw [1, 5] (fun kk i wr => ∃ j : Nat, j <= n /\ i = .int .i64 j /\ kk = .int .i64 (k0 + (sumL ((d.map cntMD).take j) : Int)) /\ (tMemS 123 87).Mine wr [.slice a n cap] ((markMS k0 d).take j ++ d.drop j) fp /\ Turned fp w wr) (fun _ i _ => n - (intOf i).toNat)
 case atStart => exact ⟨0, Nat.zero_le _, rfl, by simp [sumL], by simpa using h, Turned.refl _ _⟩
 case round =>
  obtain ⟨j, hj, rfl, rfl, ho, hb⟩ := hrel
  by_cases hjn : j < n
  . have hdj : d[j]? = some (d[j]'(by omega)) := List.getElem?_eq_getElem (by omega)
    generalize d[j]'(by omega) = x at hdj
    have hst := sumL_take (l := d.map cntMD) (j := j) (x := cntMD x) (by rw [List.getElem?_map, hdj]; rfl)
    have hle := sumL_le (l := d.map cntMD) (j + 1)
    have hin := Nat.le_trans (inner_leM hdj) hw
    unfold cntMS at hwt
    have HM := hidden (turn_step hmL (markL_at (c := cntMD) (mk := markMD) (k := k0) hdj))
    have hat := turn_at (m := markMS k0 d) hmL hdj
    have HW := hidden hst
    generalize sumL ((d.map cntMD).take j) = S at hst HM HW
    obtain ⟨ss, cs, f, bs⟩ := x
    have hcx : cntMD (ss, cs, f, bs) = cntSS ss + cntWS cs + 1 + bs.length := rfl
    have hin0 : wtIntSS ss <= 2097152 := by unfold wtMem at hin; simp only at hin; omega
    have hin1 : wtWrS cs <= 2097152 := by unfold wtMem at hin; simp only at hin; omega
    have hin3 : bs.length <= 2097152 := by unfold wtMem at hin; simp only at hin; omega
    have hcw := Nat.le_of_eq (cntWS_wt cs)
    have hcw' := Nat.le_of_eq (cntWS_wt cs).symm
    have hS : k0 + (S : Int) + (cntSS ss : Int) + (cntWS cs : Int) + 1 + (bs.length : Int) <= 2097153 := by omega
    rcases row_ow_shape ho with h0' | ⟨g, rfl⟩
    . omega
    obtain ⟨cs1, f1, ow1, hgf, hgp, hf1, hcc, hfz, _, back⟩ := row_open ho hat
    have hcl := (tMem 123).rdLen ((tMem 123).owRd ow1.1)
    obtain ⟨v0, v1, v2, v3, rfl⟩ : ∃ v0 v1 v2 v3, cs1 = [v0, v1, v2, v3] := by
     match cs1, hcl with
     | [v0, v1, v2, v3], _ => exact ⟨v0, v1, v2, v3, rfl⟩
    obtain ⟨f0, g1, rfl, m0, ow2, d0⟩ := pair_mine (t := tIntSS) (u := pairTy (tWrS 123) (pairTy boolTy tIntS)) (vs := [v0]) (us := [v1, v2, v3]) rfl ow1
    obtain ⟨fc, g2, rfl, m1, ow3, d1⟩ := pair_mine (t := tWrS 123) (u := pairTy boolTy tIntS) (vs := [v1]) (us := [v2, v3]) rfl ow2
    obtain ⟨fb, f3, rfl, ⟨⟨hv2, hfb⟩, _⟩, m3, _⟩ := pair_mine (t := boolTy) (u := tIntS) (vs := [v2]) (us := [v3]) rfl ow3
    simp at hv2
    subst hv2
    subst hfb
    rw [List.nil_append] at *
    have hc0 : wr.cell? ⟨g, j * 4, none⟩ = some v0 := hcc 0 (by show 0 < 4; omega)
    have hc1 : wr.cell? ⟨g, j * 4 + 1, none⟩ = some v1 := hcc 1 (by show 1 < 4; omega)
    have hc2 : wr.cell? ⟨g, j * 4 + 2, none⟩ = some (.bool f) := hcc 2 (by show 2 < 4; omega)
    have hc3 : wr.cell? ⟨g, j * 4 + 3, none⟩ = some v3 := hcc 3 (by show 3 < 4; omega)
    obtain ⟨a0, e0, rfl⟩ := row_shape m0.rd
    obtain ⟨a1, e1', rfl⟩ := row_shape m1.rd
    obtain ⟨a3, e3, rfl⟩ := row_shape m3.rd
    have hlt := ho.lt
    have ng0 : g ∉ f0 := fun hm => hgf (List.mem_append_left _ hm)
    have ngc : g ∉ fc := fun hm => hgf (List.mem_append_right _ (List.mem_append_left _ hm))
    have ng3 : g ∉ f3 := fun hm => hgf (List.mem_append_right _ (List.mem_append_right _ hm))
    have d0c : ∀ b ∈ fc, b ∉ f0 := fun b hb hb' => d0 b hb' (List.mem_append_left _ hb)
    have d03 : ∀ b ∈ f3, b ∉ f0 := fun b hb hb' => d0 b hb' (List.mem_append_right _ hb)
    have dc3 : ∀ b ∈ f3, b ∉ fc := fun b hb hb' => d1 b hb' hb
    have hgl : g < wr.heap.size := hlt g hgp
    obtain ⟨cur, hcur, hcsz, hncap, _⟩ := row_block (ho.own (lo := 0) (hi := wr.heap.size) (fun b hb => ⟨Nat.zero_le _, ho.lt b hb⟩))
    have XB : Box wr g 87 cur := hcur
    have HBK := hidden back
    have HLT := hidden hlt
    have HF1 := hidden hf1
    have HFZ := hidden hfz
    have M0 := hidden m0
    have M1 := hidden m1
    have M3 := hidden m3
    have DD := hidden (And.intro d0 d1)
    have HG := hidden hgf
    have i1 : (0 : Int) <= (j : Int) := by omega
    have i2 : (j : Int) < (n : Int) := by omega
    clear hcc back hcl ow1 ow2 ow3 hat hdj ho hst hlt hfz hf1 m0 m1 m3 d0 d1 hgf
    have e1 : (k0 + (S : Int) + (cntSS ss : Int) + (cntWS cs : Int)).tmod 3 = (k0 + (S : Int) + (cntSS ss : Int) + (cntWS cs : Int)) % 3 := Int.tmod_eq_emod_of_nonneg (by omega)
    have HXB := hidden XB
    have HC := hidden (And.intro hc0 (And.intro hc1 hc3))
    clear XB hcur
    go_wp2_with fail
    refine (markIntSS_fp _ _ _ _ ss _ f0 M0.out hin0 (by omega) (by omega)).mono ?_
    rintro e w1 ⟨rfl, o1, t1⟩
    have b1 := t1.block g hgl ng0
    have kc1 := (cell_kept b1 (j * 4 + 1)).trans hc1
    have kc2 := (cell_kept b1 (j * 4 + 2)).trans hc2
    have kc3 := (cell_kept b1 (j * 4 + 3)).trans hc3
    have X1 := hidden (HXB.out.kept b1)
    have z1 := t1.size
    have M1' := hidden (M1.out.kept t1 d0c)
    have M3' := hidden (M3.out.kept t1 d03)
    have O1 := hidden o1
    have T1 := hidden t1
    clear hc0 hc1 hc2 hc3 b1 o1 t1 M0 M1 M3 HXB
    have hg1 : g < w1.heap.size := Nat.lt_of_lt_of_le hgl z1
    go_wp2_with fail
    refine (markWrS_fp _ _ _ _ cs _ fc M1'.out hin1 (by omega) (by omega)).mono ?_
    rintro e w2 ⟨rfl, o2, t2⟩
    have b2 := t2.block g hg1 ngc
    have lc2 := (cell_kept b2 (j * 4 + 2)).trans kc2
    have lc3 := (cell_kept b2 (j * 4 + 3)).trans kc3
    have x2 := X1.out.kept b2
    have X2 := hidden x2
    have ff := x2.frozen (j * 4 + 2)
    have z2 := t2.size
    have M3'' := hidden (M3'.out.kept t2 dc3)
    have O1' := hidden (O1.out.kept t2 (fun b hb hb' => d0c b hb' hb))
    have O2 := hidden o2
    have T2 := hidden t2
    have T3 : Hid (Turned [g] w2 (w2.setCell ⟨g, j * 4 + 2, none⟩ (.bool (decide ((k0 + (S : Int) + (cntSS ss : Int) + (cntWS cs : Int)) % 3 = 0))))) := Turned.setCell _ (by simp)
    have M3t := hidden (M3''.out.kept T3.out (fun b hb hb' => ng3 (by simp at hb'; exact hb' ▸ hb)))
    have O1t := hidden (O1'.out.kept T3.out (fun b hb hb' => ng0 (by simp at hb'; exact hb' ▸ hb)))
    have O2t := hidden (O2.out.kept T3.out (fun b hb hb' => ngc (by simp at hb'; exact hb' ▸ hb)))
    have X3 := hidden (x2.set (j * 4 + 2) (.bool (decide ((k0 + (S : Int) + (cntSS ss : Int) + (cntWS cs : Int)) % 3 = 0))))
    clear kc1 kc2 kc3 b2 o2 t2 X1 M1' M3' M3'' O1 O1' O2 x2
    have hg2 : g < w2.heap.size := Nat.lt_of_lt_of_le hg1 z2
    go_wp2_with fail
    generalize hw3 : w2.setCell ⟨g, j * 4 + 2, none⟩ (.bool (decide ((k0 + (S : Int) + (cntSS ss : Int) + (cntWS cs : Int)) % 3 = 0))) = w3 at T3 M3t O1t O2t X3 ⊢
    clear hw3
    refine (markIntS_fp _ _ _ _ bs _ f3 M3t.out (by omega) (by omega) (by omega)).mono ?_
    rintro e w4 ⟨rfl, o3, t4⟩
    have z3 := T3.out.size
    have z4 := t4.size
    have hg3 : g < w3.heap.size := Nat.lt_of_lt_of_le hg2 z3
    have hO := HBK.out w4 [.slice a0 ss.length e0, .slice a1 cs.length e1', .bool (decide ((k0 + (S : Int) + (cntSS ss : Int) + (cntWS cs : Int)) % 3 = 0)), .slice a3 bs.length e3] (markMD (k0 + (S : Int)) (ss, cs, f, bs))
     (pair_mine_of (t := tIntSS) (vs := [_]) (us := [_, _, _]) (O1t.out.kept t4 (fun b hb hb' => d03 b hb' hb)) (pair_mine_of (t := tWrS 123) (vs := [_]) (us := [_, _]) (O2t.out.kept t4 (fun b hb hb' => dc3 b hb' hb)) (pair_mine_of (t := boolTy) (u := tIntS) (vs := [_]) (us := [_]) (f1 := []) ⟨⟨rfl, rfl⟩, by simp⟩ o3 (by simp)) DD.out.2) DD.out.1)
     (fun b hb hbf hbg => by
      have n0 : b ∉ f0 := fun hm => hbf (List.mem_append_left _ hm)
      have nc : b ∉ fc := fun hm => hbf (List.mem_append_right _ (List.mem_append_left _ hm))
      have n3 : b ∉ f3 := fun hm => hbf (List.mem_append_right _ (List.mem_append_right _ hm))
      have l0 := HLT.out b hb
      rw [t4.block b (by omega) n3, T3.out.block b (by omega) (by simpa using hbg), T2.out.block b (by omega) nc, T1.out.block b l0 n0])
     (by omega)
     (fun cur2 hcur2 hcs2 hnc2 => by
      have hX := X3.out
      have e2 : cur2 = cur := by
       have h1 := X2.out
       have h2 : w2.heap[g]? = wr.heap[g]? := by rw [T2.out.block g hg1 ngc, T1.out.block g hgl ng0]
       unfold Box at h1
       rw [h2, hcur2] at h1
       simpa using h1
      subst e2
      refine ⟨_, (t4.block g hg3 ng3).trans hX, by simp, fun k => ?_⟩
      have hcs' : cur2.size = cap * 4 := hcs2
      rw [Array.toList_setIfInBounds]
      obtain ⟨p0, p1, p3⟩ := HC.out
      rw [cell_of_row wr g _ cur2 _ (0, 0) hcur2] at p0 p1 p3
      simp only [show (1 + (1 + (1 + 1)) : Nat) = 4 from rfl]
      by_cases k0' : k = j * 4
      . subst k0'
        rw [List.getElem?_set_ne (by omega), if_pos (by omega), Nat.sub_self, Array.getElem?_toList, p0]
        rfl
      . by_cases k1 : k = j * 4 + 1
        . subst k1
          rw [List.getElem?_set_ne (by omega), if_pos (by omega), Nat.add_sub_cancel_left, Array.getElem?_toList, p1]
          rfl
        . by_cases k2 : k = j * 4 + 2
          . subst k2
            rw [List.getElem?_set_self (by simp; omega), if_pos (by omega), Nat.add_sub_cancel_left]
            rfl
          . by_cases k3 : k = j * 4 + 3
            . subst k3
              rw [List.getElem?_set_ne (by omega), if_pos (by omega), Nat.add_sub_cancel_left, Array.getElem?_toList, p3]
              rfl
            . rw [List.getElem?_set_ne (by omega), if_neg (by omega)])
    rw [HM.out] at hO
    have HO := hidden hO
    have HB := hidden ((((hb.trans (T1.out.mono (fun b hm => HF1.out b (List.mem_append_left _ hm)))).trans (T2.out.mono (fun b hm => HF1.out b (List.mem_append_right _ (List.mem_append_left _ hm))))).trans (T3.out.mono (by simpa using hgp))).trans (t4.mono (fun b hm => HF1.out b (List.mem_append_right _ (List.mem_append_right _ hm)))))
    clear hO o3 t4 HBK hb T1 T2 T3 X2 X3 O1t O2t M3t HLT HC
    go_wp2
    go_roundw
    case rel => exact ⟨j + 1, by omega, by go_num, by rw [HW.out, hcx]; go_num, HO.out, HB.out⟩
    case measure => simp [intOf]; omega
  . go_wp2
    go_ret
    have e : j = n := by omega
    subst e
    have ht : (d.map cntMD).take j = d.map cntMD := List.take_of_length_le (by simp; omega)
    rw [List.take_of_length_le (by omega), List.drop_of_length_le (by omega), List.append_nil] at ho
    exact ⟨ret_int (by rw [ht]; rfl), ho, hb⟩

theorem markArr_own (w : World) (lo m hi : Nat) (x : ArrN) (bm bd : Option Addr) (nm cm nd cd : Nat) (ms : List MemD) (ds : List (Int × List Int)) (h0 : (tMemS 123 87).Own w lo m [.slice bm nm cm] ms) (h1 : (tWrS 65).Own w m hi [.slice bd nd cd] ds) (hlm : lo <= m) (hmh : m <= hi) (hhi : hi <= w.heap.size) (hw : wtArr ms ds <= 2097152) :
 Calls Tryz.prog 14 #[.agg #[.int .i64 x.id, .int .i64 x.n, .int .i64 x.s, .slice bm nm cm, .int .i64 x.lost, .int .i64 x.built, .int .i64 x.seq, .int .i64 x.tail, .int .i64 x.gen, .slice bd nd cd, .int .i64 x.fuse, .bool x.down, .bool x.broken], .int .i64 1] w fun e w' => e = .returned (.int .i64 (1 + (cntMS ms : Int) + (cntWS ds : Int))) /\ (tMemS 123 87).Own w' lo m [.slice bm nm cm] (markMS 1 ms) /\ (tWrS 65).Own w' m hi [.slice bd nd cd] (markW (1 + (cntMS ms : Int)) ds) /\ But lo hi w w' := by
 have hw0 : wtMemS ms <= 2097152 := by unfold wtArr at hw; omega
 have hw1 : wtWrS ds <= 2097152 := by unfold wtArr at hw; omega
 have hcm := cntMS_le ms
 have hA := new_below w (.cells #[.int .i64 x.id, .int .i64 x.n, .int .i64 x.s, .slice bm nm cm, .int .i64 x.lost, .int .i64 x.built, .int .i64 x.seq, .int .i64 x.tail, .int .i64 x.gen, .slice bd nd cd, .int .i64 x.fuse, .bool x.down, .bool x.broken] 35)
 have A := Box.new w 35 #[.int .i64 x.id, .int .i64 x.n, .int .i64 x.s, .slice bm nm cm, .int .i64 x.lost, .int .i64 x.built, .int .i64 x.seq, .int .i64 x.tail, .int .i64 x.gen, .slice bd nd cd, .int .i64 x.fuse, .bool x.down, .bool x.broken]
 obtain ⟨k0, k1, k2, k3, k4, k5, k6, k7, k8, k9, k10, k11, k12⟩ := A.cells13
 have o0 := h0.below hA
 have o1 := h1.below hA
 have zA := A.lt
 go_enter Tryz.func14, Tryz.ntmps14
 go_wp2_with fail
 generalize w.alloc (.cells #[.int .i64 x.id, .int .i64 x.n, .int .i64 x.s, .slice bm nm cm, .int .i64 x.lost, .int .i64 x.built, .int .i64 x.seq, .int .i64 x.tail, .int .i64 x.gen, .slice bd nd cd, .int .i64 x.fuse, .bool x.down, .bool x.broken] 35) = W at hA A o0 o1 zA k0 k1 k2 k3 k4 k5 k6 k7 k8 k9 k10 k11 k12 ⊢
 obtain ⟨f0, m0, r0⟩ := o0.mine
 refine (markMemS_fp _ _ _ _ ms 1 f0 m0 hw0 (by omega) (by omega)).mono ?_
 rintro e w1 ⟨rfl, p0, t1⟩
 have hb1 := t1.but (lo := lo) (hi := m) r0
 have q0 := p0.own r0
 have q1 := o1.but hb1 (.inr (Nat.le_refl _))
 have A1 := A.kept (hb1.block _ zA (by omega))
 have B1 := (But.of_below (lo := lo) (hi := hi) hA).trans ⟨hb1.os, hb1.tape, hb1.output, hb1.size, fun k hk ho => hb1.block k hk (by omega)⟩
 clear k0 k1 k2 k3 k4 k5 k6 k7 k8 k9 k10 k11 k12 A hb1 t1 p0 m0 o0 o1 hA
 obtain ⟨k0, k1, k2, k3, k4, k5, k6, k7, k8, k9, k10, k11, k12⟩ := A1.cells13
 obtain ⟨f1, m1, r1⟩ := q1.mine
 have hwa : (wtMemS ms : Int) + (wtWrS ds : Int) <= 2097152 := by unfold wtArr at hw; omega
 go_wp2_with fail
 refine (markEntS_fp _ _ _ _ ds (1 + (cntMS ms : Int)) f1 m1 hw1 (by omega) (by omega)).mono ?_
 rintro e w2 ⟨rfl, p1, t2⟩
 have hb2 := t2.but (lo := m) (hi := hi) r1
 have s1 := hidden (p1.own r1)
 have s0 := hidden (q0.but hb2 (.inl (Nat.le_refl _)))
 have B2 := hidden (B1.trans ⟨hb2.os, hb2.tape, hb2.output, hb2.size, fun k hk ho => hb2.block k hk (by omega)⟩)
 clear k0 k1 k2 k3 k4 k5 k6 k7 k8 k9 k10 k11 k12 A1 hb2 t2 p1 m1 q0 q1 B1
 go_wp2
 go_ret
 exact ⟨rfl, s0.out, s1.out, B2.out⟩

theorem heldMemS_any (w : World) (E F : TypeId) (a : Option Addr) (n cap : Nat) (d : List MemD) (k0 : Int) (h : (tMemS E F).Rd w [.slice a n cap] (markMS k0 d)) (hw : wtMemS d <= 2097152) (hk : 0 <= k0) (hk' : k0 + (wtMemS d : Int) <= 2097153) :
 Calls Tryz.prog 44 #[.slice a n cap, .int .i64 k0] w fun e w' => e = .returned (.int .i64 (k0 + (cntMS d : Int))) /\ Same w w' := by
 obtain ⟨hl, hc, hm⟩ := row_length h
 have hmL : (markMS k0 d).length = d.length := markL_length _ _ _ _
 rw [hmL] at hl
 have hnn : n <= 2097152 := by unfold wtMemS at hw; omega
 have hwt := cntMS_le d
 go_enter Tryz.func44, Tryz.ntmps44
 go_wp2
 go_loopw [1, 5] (fun kk i wr => ∃ j : Nat, j <= n /\ i = .int .i64 j /\ kk = .int .i64 (k0 + (sumL ((d.map cntMD).take j) : Int)) /\ Same w wr) (fun _ i _ => n - (intOf i).toNat)
 case atStart => exact ⟨0, Nat.zero_le _, rfl, by simp [sumL], Same.refl _⟩
 case round =>
  obtain ⟨j, hj, rfl, rfl, hs⟩ := hrel
  by_cases hjn : j < n
  . have hdj : d[j]? = some (d[j]'(by omega)) := List.getElem?_eq_getElem (by omega)
    generalize d[j]'(by omega) = x at hdj
    have hst := sumL_take (l := d.map cntMD) (j := j) (x := cntMD x) (by rw [List.getElem?_map, hdj]; rfl)
    have hle := sumL_le (l := d.map cntMD) (j + 1)
    have hin := Nat.le_trans (inner_leM hdj) hw
    unfold cntMS at hwt
    have hmj := markL_at (c := cntMD) (mk := markMD) (k := k0) hdj
    have HW := hidden hst
    generalize sumL ((d.map cntMD).take j) = S at hst hmj HW
    rcases quads_at rfl h with h0' | ⟨b, off, rfl, hbl, hcs⟩
    . omega
    obtain ⟨v0, v1, v2, v3, hv0, hv1, hv2, hv3, hrv⟩ := hcs j _ hmj
    obtain ⟨ss, cs, f, bs⟩ := x
    obtain ⟨a0, c0, a1, c1, a3, c3, ss', cs', f', bs', hx, rfl, rfl, rfl, rfl, r0, r1, r3⟩ := mem_at hrv
    have hcx : cntMD (ss, cs, f, bs) = cntSS ss + cntWS cs + 1 + bs.length := rfl
    have hin0 : wtIntSS ss <= 2097152 := by unfold wtMem at hin; simp only at hin; omega
    have hin1 : wtWrS cs <= 2097152 := by unfold wtMem at hin; simp only at hin; omega
    have hin3 : bs.length <= 2097152 := by unfold wtMem at hin; simp only at hin; omega
    have hcw := Nat.le_of_eq (cntWS_wt cs)
    have hcw' := Nat.le_of_eq (cntWS_wt cs).symm
    have hS : k0 + (S : Int) + (cntSS ss : Int) + (cntWS cs : Int) + 1 + (bs.length : Int) <= 2097153 := by omega
    unfold markMD at hx
    simp only [Prod.mk.injEq] at hx
    obtain ⟨e0, e1, e2, e3⟩ := hx
    subst e0
    subst e1
    subst e3
    rw [marks_length] at hv3 r3
    have w0 := (hs.cell _).trans hv0
    have w1 := (hs.cell _).trans hv1
    have w2 := (hs.cell _).trans hv2
    have w3 := (hs.cell _).trans hv3
    have HE2 := hidden e2
    have i1 : (0 : Int) <= (j : Int) := by omega
    have i2 : (j : Int) < (n : Int) := by omega
    have R0 := r0.same hs
    have R1 := r1.same hs
    have R3 := r3.same hs
    clear hcs hst hdj hv0 hv1 hv2 hv3 hrv hmj e2 r0 r1 r3
    go_wp2_with fail
    refine (heldIntSS_any _ _ _ _ ss _ R0 hin0 (by omega) (by omega)).mono ?_
    rintro e u1 ⟨rfl, s1⟩
    have w1' := (s1.cell _).trans w1
    have w2' := (s1.cell _).trans w2
    have w3' := (s1.cell _).trans w3
    have R1' := R1.same s1
    have R3' := R3.same s1
    clear w0 w1 w2 w3 R0 R1 R3
    have p1 : ¬ k0 + (S : Int) + (cntSS ss : Int) < 0 := by omega
    go_wp2_with fail
    refine (heldWrS_any _ E _ _ _ cs _ R1' hin1 (by omega) (by omega)).mono ?_
    rintro e u2 ⟨rfl, s2⟩
    have w2 := (s2.cell _).trans w2'
    have w3 := (s2.cell _).trans w3'
    have R3 := ints_rd (R3'.same s2)
    clear w1' w2' w3' R1' R3'
    have hK : 0 <= k0 + (S : Int) + (cntSS ss : Int) + (cntWS cs : Int) /\ k0 + (S : Int) + (cntSS ss : Int) + (cntWS cs : Int) <= 2097153 := by omega
    have HKK : Hid (k0 + (S : Int) + (cntSS ss : Int) + (cntWS cs : Int) + 1 + (bs.length : Int) = k0 + ((S + cntMD (ss, cs, f, bs) : Nat) : Int)) := by unfold Hid; rw [hcx]; omega
    generalize hKd : k0 + (S : Int) + (cntSS ss : Int) + (cntWS cs : Int) = K at hK HKK HE2 R3 hS ⊢
    clear hKd
    have p2 : ¬ K < 0 := by omega
    have t1 : K.tmod 3 = K % 3 := Int.tmod_eq_emod_of_nonneg hK.1
    have t2 : IntKind.i64.wrap (K % 3) = K % 3 := IntWalk.i64_in _ (by omega)
    have t3 : IntKind.i64.wrap (K + 1) = K + 1 := IntWalk.i64_in _ (by omega)
    have p3 : ¬ K + 1 + (bs.length : Int) < 0 := by omega
    have t4 : f' = (K % 3 == 0) := by rw [← HE2.out]; rfl
    have t5 : ((K % 3 == 0) != (K % 3 == 0)) = false := by simp
    have t6 : ((K % 3 == 0) == (K % 3 == 0)) = true := by simp
    subst t4
    clear HE2
    go_wp2_with fail
    refine (heldIntS_any _ _ _ _ _ R3.1 (by omega) (by omega) (by omega)).mono ?_
    rintro e u3 ⟨rfl, s3⟩
    have HS := hidden (((hs.trans s1).trans s2).trans s3)
    clear s1 s2 s3 hs R3 w2 w3
    go_wp2
    go_roundw
    case rel => exact ⟨j + 1, by omega, by go_num, by rw [HW.out, HKK.out], HS.out⟩
    case measure => simp [intOf]; omega
  . have ej : j = n := by omega
    subst ej
    have ht : (d.map cntMD).take j = d.map cntMD := List.take_of_length_le (by simp; omega)
    have HT : Hid (k0 + (sumL ((d.map cntMD).take j) : Int) = k0 + (cntMS d : Int)) := by unfold Hid cntMS; rw [ht]
    clear ht
    go_wp2
    go_ret
    exact ⟨ret_int HT.out, hs⟩

theorem heldArr_any (w : World) (E F G : TypeId) (x : ArrN) (bm bd : Option Addr) (nm cm nd cd : Nat) (ms : List MemD) (ds : List (Int × List Int)) (h0 : (tMemS E F).Rd w [.slice bm nm cm] (markMS 1 ms)) (h1 : (tWrS G).Rd w [.slice bd nd cd] (markW (1 + (cntMS ms : Int)) ds)) (hw : wtArr ms ds <= 2097152) :
 Calls Tryz.prog 15 #[.agg #[.int .i64 x.id, .int .i64 x.n, .int .i64 x.s, .slice bm nm cm, .int .i64 x.lost, .int .i64 x.built, .int .i64 x.seq, .int .i64 x.tail, .int .i64 x.gen, .slice bd nd cd, .int .i64 x.fuse, .bool x.down, .bool x.broken], .int .i64 1] w fun e w' => e = .returned (.int .i64 (1 + (cntMS ms : Int) + (cntWS ds : Int))) /\ Below w.heap.size w w' := by
 have hw0 : wtMemS ms <= 2097152 := by unfold wtArr at hw; omega
 have hw1 : wtWrS ds <= 2097152 := by unfold wtArr at hw; omega
 have hws : wtMemS ms + wtWrS ds <= 2097152 := by unfold wtArr at hw; omega
 have hcm := cntMS_le ms
 have hA := new_below w (.cells #[.int .i64 x.id, .int .i64 x.n, .int .i64 x.s, .slice bm nm cm, .int .i64 x.lost, .int .i64 x.built, .int .i64 x.seq, .int .i64 x.tail, .int .i64 x.gen, .slice bd nd cd, .int .i64 x.fuse, .bool x.down, .bool x.broken] 35)
 have X := Box.new w 35 #[.int .i64 x.id, .int .i64 x.n, .int .i64 x.s, .slice bm nm cm, .int .i64 x.lost, .int .i64 x.built, .int .i64 x.seq, .int .i64 x.tail, .int .i64 x.gen, .slice bd nd cd, .int .i64 x.fuse, .bool x.down, .bool x.broken]
 obtain ⟨k0, k1, k2, k3, k4, k5, k6, k7, k8, k9, k10, k11, k12⟩ := X.cells13
 have r0 := h0.below hA
 have r1 := h1.below hA
 go_enter Tryz.func15, Tryz.ntmps15
 go_wp2_with fail
 generalize w.alloc (.cells #[.int .i64 x.id, .int .i64 x.n, .int .i64 x.s, .slice bm nm cm, .int .i64 x.lost, .int .i64 x.built, .int .i64 x.seq, .int .i64 x.tail, .int .i64 x.gen, .slice bd nd cd, .int .i64 x.fuse, .bool x.down, .bool x.broken] 35) = W at hA X r0 r1 k0 k1 k2 k3 k4 k5 k6 k7 k8 k9 k10 k11 k12 ⊢
 refine (heldMemS_any _ E F _ _ _ ms _ r0 hw0 (by omega) (by omega)).mono ?_
 rintro e w1 ⟨rfl, s1⟩
 have X1 := X.same s1
 have r2 := r1.same s1
 have B1 := Below.andSame hA s1
 clear k0 k1 k2 k3 k4 k5 k6 k7 k8 k9 k10 k11 k12 X r0 r1 s1 hA
 obtain ⟨k0, k1, k2, k3, k4, k5, k6, k7, k8, k9, k10, k11, k12⟩ := X1.cells13
 have p1 : ¬ 1 + (cntMS ms : Int) < 0 := by omega
 go_wp2_with fail
 refine (heldEntS_any _ G _ _ _ ds _ r2 hw1 (by omega) (by omega)).mono ?_
 rintro e w2 ⟨rfl, s2⟩
 have B2 := Below.andSame B1 s2
 have p2 : ¬ 1 + (cntMS ms : Int) + (cntWS ds : Int) < 0 := by omega
 clear k0 k1 k2 k3 k4 k5 k6 k7 k8 k9 k10 k11 k12 X1 r2 s2 B1
 go_wp2
 go_ret
 exact ⟨rfl, B2⟩

theorem cntA_le {ms : List MemD} {ds : List (Int × List Int)} (h : wtArr ms ds <= 1048576) : cntMS ms + cntWS ds <= 1048576 := by
 have h1 := cntMS_le ms
 have h2 := Nat.le_of_eq (cntWS_wt ds)
 unfold wtArr at h
 omega
theorem sumL_append (a b : List Nat) : sumL (a ++ b) = sumL a + sumL b := by
 induction a with
 | nil => simp [sumL]
 | cons x a ih =>
  simp only [List.cons_append, sumL, List.foldr_cons] at *
  omega
theorem wtWrS_append (a b : List EntD) : wtWrS (a ++ b) = wtWrS a + wtWrS b := by
 unfold wtWrS
 rw [List.map_append, sumL_append, List.length_append]
 omega
theorem wtWrS_drop (l : List EntD) (k : Nat) : wtWrS (l.take k) + wtWrS (l.drop k) = wtWrS l := by
 rw [← wtWrS_append, List.take_append_drop]
theorem wtWrS_drop1 (l : List EntD) (k : Nat) : wtWrS (l.drop (k + 1)) <= wtWrS (l.drop k) := by
 have := wtWrS_drop (l.drop k) 1
 rw [List.drop_drop] at this
 omega

def Asc8 (ds : List (Int × List Int)) : Prop := (∀ (i j : Nat) (e e' : Int × List Int), i < j -> ds[i]? = some e -> ds[j]? = some e' -> e.1 < e'.1) /\ ∀ (i : Nat) (e : Int × List Int), ds[i]? = some e -> 0 <= e.1 /\ e.1 <= 100
def Spot (ds : List (Int × List Int)) (t : Int) (k : Nat) (b : Bool) : Prop :=
 k <= ds.length /\ (∀ (i : Nat) (e : Int × List Int), i < k -> ds[i]? = some e -> e.1 < t) /\ (∀ (i : Nat) (e : Int × List Int), k <= i -> ds[i]? = some e -> t <= e.1) /\ ((b = true /\ ∃ e, ds[k]? = some e /\ e.1 = t) ∨ (b = false /\ ∀ e, ds[k]? = some e -> ¬ e.1 = t))
theorem Spot.hit {ds : List (Int × List Int)} {t : Int} {k : Nat} (h : Spot ds t k true) : at8 ds t = (k : Int) /\ ∃ e, ds[k]? = some e /\ e.1 = t := by
 obtain ⟨h1, h2, h3, h4⟩ := h
 rcases h4 with ⟨_, e, he, ht⟩ | ⟨h4, _⟩
 . exact ⟨at8_hit he ht (fun i e' hi he' h' => by have := h2 i e' hi he'; omega), e, he, ht⟩
 . cases h4
theorem Spot.miss {ds : List (Int × List Int)} {t : Int} {k : Nat} (ha : Asc8 ds) (h : Spot ds t k false) : at8 ds t = -1 := by
 obtain ⟨h1, h2, h3, h4⟩ := h
 rcases h4 with ⟨h4, _⟩ | ⟨_, h4⟩
 . cases h4
 . refine at8_none (fun i e hi he h' => ?_)
   rcases Nat.lt_trichotomy i k with h | h | h
   . have := h2 i e h he; omega
   . subst h; exact h4 e he h'
   . have hk : k < ds.length := by omega
     have hkk := List.getElem?_eq_getElem hk
     have h5 := h3 k _ (Nat.le_refl _) hkk
     have h6 := ha.1 k i _ e h hkk he
     omega

def Found (ds : List (Int × List Int)) (t : Int) (w : World) (e : Ending) (w' : World) : Prop := ∃ (k : Nat) (r : Bool), e = .returned (.tuple #[.int .i64 k, .bool r]) /\ Spot ds t k r /\ Below w.heap.size w w'

theorem stripe_any (w : World) (y : Int) (a : Option Addr) (n c : Nat) : Calls Tryz.prog 219 #[.agg #[.int .i64 y, .slice a n c]] w fun e w' => e = .returned (.int .i64 y) /\ Below w.heap.size w w' := by
 have hA := new_below w (.cells #[.int .i64 y, .slice a n c] 65)
 have xm := Box.new w 65 #[.int .i64 y, .slice a n c]
 have c0 : (w.alloc (.cells #[.int .i64 y, .slice a n c] 65)).cell? ⟨w.heap.size, 0, none⟩ = some (.int .i64 y) := xm.cell 0
 have HA := hidden hA
 clear hA xm
 go_enter Tryz.func219, Tryz.ntmps219
 go_wp2
 go_ret
 exact ⟨rfl, HA.out⟩

theorem find1_any (w : World) (y t : Int) (a : Option Addr) (n c : Nat) (hy : 0 <= y /\ y <= 100) (ht : 0 <= t /\ t <= 100) : Calls Tryz.prog 109 #[.agg #[.int .i64 y, .slice a n c], .int .i64 t] w fun e w' => e = .returned (.int .i64 (y - t)) /\ Below w.heap.size w w' := by
 have hA := new_below w (.cells #[.int .i64 y, .slice a n c] 65)
 have xm := Box.new w 65 #[.int .i64 y, .slice a n c]
 have c0 : (w.alloc (.cells #[.int .i64 y, .slice a n c] 65)).cell? ⟨w.heap.size, 0, none⟩ = some (.int .i64 y) := xm.cell 0
 have c1 : (w.alloc (.cells #[.int .i64 y, .slice a n c] 65)).cell? ⟨w.heap.size, 1, none⟩ = some (.slice a n c) := xm.cell 1
 have HA := hidden hA
 have gw : IntKind.i64.wrap (y - t) = y - t := IntWalk.i64_in _ (by omega)
 have na : ∀ w, Sem.run Tryz.prog (nilAhead (311 + 1) 65 (.agg #[.int .i64 y, .slice a n c]) "loop.example/g00398/impl.stripe") w = .ok (some false) w := fun w => by kernel_rfl
 clear hA xm
 go_enter Tryz.func109, Tryz.ntmps109
 go_wp2_with fail
 refine (stripe_any _ _ _ _ _).mono ?_
 rintro e w1 ⟨rfl, b1⟩
 have HB := hidden (Below.andThen HA.out b1)
 clear b1 HA c0 c1
 go_wp2
 go_ret
 exact ⟨rfl, HB.out⟩

theorem bsearch_any (w : World) (G : TypeId) (a : Option Addr) (len cap : Nat) (ds : List (Int × List Int)) (t : Int) (h1 : (tWrS G).Rd w [.slice a len cap] ds) (hlen : len <= 2097152) (ha : Asc8 ds) (ht : 0 <= t /\ t <= 100) :
 Calls Tryz.prog 108 #[.slice a len cap, .int .i64 t, .func (Fn.func 109) #[] #[]] w fun e w' => Found ds t w e w' := by
 obtain ⟨hz, _, _⟩ := row_length h1
 have HT := hidden ht
 have HASC := hidden ha
 clear ht ha
 go_enter Tryz.func108, Tryz.ntmps108
 go_wp2
 go_loopw [9, 10] (fun iv jv wr => ∃ (i j : Nat), i <= j /\ j <= len /\ iv = .int .i64 i /\ jv = .int .i64 j /\ (∀ q e, q < i -> ds[q]? = some e -> e.1 < t) /\ (∀ q e, j <= q -> ds[q]? = some e -> t <= e.1) /\ Below w.heap.size w wr) (fun iv jv _ => (intOf jv).toNat - (intOf iv).toNat)
 case atStart => exact ⟨0, len, Nat.zero_le _, Nat.le_refl _, rfl, rfl, fun q e h => absurd h (by omega), fun q e h he => absurd (List.getElem?_eq_some_iff.1 he).1 (by omega), Below.refl _ _⟩
 case round =>
  obtain ⟨i, j, hij, hj, rfl, rfl, hlo, hhi, hs⟩ := hrel
  by_cases hlt : i < j
  . have k1 : (i : Int) < (j : Int) := by omega
    rcases pairs_at rfl h1 with h0 | ⟨b, off, rfl, hbl, hcs⟩
    . omega
    obtain ⟨m, hm⟩ : ∃ m : Nat, ((i : Int) + (j : Int)) / 2 = (m : Int) := ⟨(i + j) / 2, by omega⟩
    have hm1 : i <= m := by omega
    have hm2 : m < j := by omega
    have hdj : ds[m]? = some (ds[m]'(by omega)) := List.getElem?_eq_getElem (by omega)
    generalize ds[m]'(by omega) = d at hdj
    obtain ⟨u0, u1, hv0, hv1, hrv⟩ := hcs m d hdj
    obtain ⟨rfl, hr1⟩ := wr_rd hrv
    obtain ⟨y, ys⟩ := d
    simp only at hv0 hr1
    obtain ⟨a1, c1, rfl⟩ := row_shape hr1
    have hc0 := (hs.cell (p := ⟨b, off + m * 2, none⟩) hbl).trans hv0
    have hc1 := (hs.cell (p := ⟨b, off + m * 2 + 1, none⟩) hbl).trans hv1
    have gw1 : IntKind.i64.wrap ((i : Int) + (j : Int)) = (i : Int) + (j : Int) := IntWalk.i64_in _ (by omega)
    have gw3 : IntKind.i64.wrap (m : Int) = (m : Int) := IntWalk.i64_in _ (by omega)
    have k2 : (0 : Int) <= (m : Int) := by omega
    have k3 : (m : Int) < (len : Int) := by omega
    have HLO := hidden hlo
    have HHI := hidden hhi
    have HDJ := hidden hdj
    have HS := hidden hs
    have HY : Hid (0 <= y /\ y <= 100) := HASC.out.2 m _ hdj
    clear hlo hhi hcs hv0 hv1 hrv hr1 hdj hs
    go_wp2_with fail
    refine (find1_any _ _ _ _ _ _ HY.out HT.out).mono ?_
    rintro e w1 ⟨rfl, b1⟩
    have HB := hidden (Below.andThen HS.out b1)
    clear b1 HS hc0 hc1
    by_cases hx : y - t < 0
    . go_wp2
      go_roundw
      case rel => exact ⟨m + 1, j, by omega, hj, by go_num, rfl, fun q e hq he => by
       by_cases hqm : q = m
       . subst hqm
         rw [HDJ.out] at he
         simp at he
         subst he
         show y < t
         omega
       . have := HASC.out.1 q m e _ (by omega) he HDJ.out
         have : e.1 < y := this
         omega, HHI.out, HB.out⟩
      case measure => simp [intOf]; omega
    . go_wp2
      go_roundw
      case rel => exact ⟨i, m, hm1, by omega, rfl, rfl, HLO.out, fun q e hq he => by
       by_cases hqm : q = m
       . subst hqm
         rw [HDJ.out] at he
         simp at he
         subst he
         show t <= y
         omega
       . have := HASC.out.1 m q _ e (by omega) HDJ.out he
         have : y < e.1 := this
         omega, HB.out⟩
      case measure => simp [intOf]; omega
  . have e : i = j := by omega
    subst e
    by_cases hil : i < len
    . rcases pairs_at rfl h1 with h0 | ⟨b, off, rfl, hbl, hcs⟩
      . omega
      have hdj : ds[i]? = some (ds[i]'(by omega)) := List.getElem?_eq_getElem (by omega)
      generalize ds[i]'(by omega) = d at hdj
      obtain ⟨u0, u1, hv0, hv1, hrv⟩ := hcs i d hdj
      obtain ⟨rfl, hr1⟩ := wr_rd hrv
      obtain ⟨y, ys⟩ := d
      simp only at hv0 hr1
      obtain ⟨a1, c1, rfl⟩ := row_shape hr1
      have hc0 := (hs.cell (p := ⟨b, off + i * 2, none⟩) hbl).trans hv0
      have hc1 := (hs.cell (p := ⟨b, off + i * 2 + 1, none⟩) hbl).trans hv1
      have k2 : (0 : Int) <= (i : Int) := by omega
      have k3 : (i : Int) < (len : Int) := by omega
      have HLO := hidden hlo
      have HHI := hidden hhi
      have HDJ := hidden hdj
      have HS := hidden hs
      have HY : Hid (0 <= y /\ y <= 100) := HASC.out.2 i _ hdj
      clear hlo hhi hcs hv0 hv1 hrv hr1 hdj hs
      go_wp2_with fail
      refine (find1_any _ _ _ _ _ _ HY.out HT.out).mono ?_
      rintro e w1 ⟨rfl, b1⟩
      have HB := hidden (Below.andThen HS.out b1)
      clear b1 HS hc0 hc1
      by_cases hx : y - t = 0
      . have HP : Hid (Spot ds t i true) := ⟨by omega, HLO.out, HHI.out, .inl ⟨rfl, _, HDJ.out, by show y = t; omega⟩⟩
        go_wp2
        go_ret2
        exact ⟨i, true, by first | rfl | simp [hx], HP.out, HB.out⟩
      . have HP : Hid (Spot ds t i false) := ⟨by omega, HLO.out, HHI.out, .inr ⟨rfl, fun e he h' => by
         rw [HDJ.out] at he
         simp at he
         subst he
         have : y = t := h'
         omega⟩⟩
        have e1 : (y - t == 0) = false := by simpa using hx
        go_wp2
        go_ret2
        exact ⟨i, false, by first | rfl | simp [hx], HP.out, HB.out⟩
    . have HP : Hid (Spot ds t i false) := ⟨by omega, hlo, hhi, .inr ⟨rfl, fun e he => by have := (List.getElem?_eq_some_iff.1 he).1; omega⟩⟩
      have k3 : ¬ (i : Int) < (len : Int) := by omega
      have HS := hidden hs
      clear hlo hhi hs
      go_wp2
      go_ret2
      exact ⟨i, false, by first | rfl | simp, HP.out, HS.out⟩

theorem find_any (w : World) (G : TypeId) (a : Option Addr) (len cap : Nat) (ds : List (Int × List Int)) (t : Int) (h1 : (tWrS G).Rd w [.slice a len cap] ds) (hlen : len <= 2097152) (ha : Asc8 ds) (ht : 0 <= t /\ t <= 100) :
 Calls Tryz.prog 71 #[.slice a len cap, .int .i64 t] w fun e w' => Found ds t w e w' := by
 go_enter Tryz.func71, Tryz.ntmps71
 go_wp2_with fail
 refine (bsearch_any _ G _ _ _ ds t h1 hlen ha ht).mono ?_
 rintro e w1 ⟨k, r, rfl, hp, b1⟩
 have HP := hidden hp
 have HB := hidden b1
 clear hp b1 h1 ha ht
 go_wp2
 go_ret2
 exact ⟨k, r, rfl, HP.out, HB.out⟩

def Asked (ds : List (Int × List Int)) (t : Int) (Q : Nat -> List Int -> Option Addr -> Nat -> Prop) (w : World) (e : Ending) (w' : World) : Prop :=
 ((at8 ds t = -1 /\ e = .returned (.tuple #[.agg #[.int .i64 0, .slice none 0 0], .bool false])) ∨ ∃ (k : Nat) (ys : List Int) (a' : Option Addr) (c' : Nat), at8 ds t = (k : Int) /\ ds[k]? = some (t, ys) /\ e = .returned (.tuple #[.agg #[.int .i64 t, .slice a' ys.length c'], .bool true]) /\ Q k ys a' c') /\ Below w.heap.size w w'
def EntsSo (w : World) (a : Option Addr) (ds : List (Int × List Int)) (Q : Nat -> List Int -> Option Addr -> Nat -> Prop) : Prop :=
 ∀ (i : Nat) (d : Int × List Int), ds[i]? = some d -> ∃ (b off : Nat) (a' : Option Addr) (c' : Nat), a = some ⟨b, off, none⟩ /\ b < w.heap.size /\ w.cell? ⟨b, off + i * 2, none⟩ = some (.int .i64 d.1) /\ w.cell? ⟨b, off + i * 2 + 1, none⟩ = some (.slice a' d.2.length c') /\ Q i d.2 a' c'
theorem ents_so {w : World} {G : TypeId} {a : Option Addr} {n cap : Nat} {ds : List (Int × List Int)} (h : (tWrS G).Rd w [.slice a n cap] ds) : EntsSo w a ds fun _ ys a' c' => tIntS.Rd w [.slice a' ys.length c'] ys := fun i d hd => by
 have hl := (row_length h).1
 have hi := (List.getElem?_eq_some_iff.1 hd).1
 rcases pairs_at rfl h with h0 | ⟨b, off, rfl, hbl, hcs⟩
 . omega
 obtain ⟨u0, u1, hv0, hv1, hrv⟩ := hcs i d hd
 obtain ⟨rfl, hr1⟩ := wr_rd hrv
 obtain ⟨a1, c1, rfl⟩ := row_shape hr1
 exact ⟨b, off, a1, c1, rfl, hbl, hv0, hv1, hr1⟩

theorem of_any (w : World) (G : TypeId) (a : Option Addr) (len cap : Nat) (ds : List (Int × List Int)) (t : Int) (h1 : (tWrS G).Rd w [.slice a len cap] ds) (hlen : len <= 2097152) (ha : Asc8 ds) (ht : 0 <= t /\ t <= 100) (Q : Nat -> List Int -> Option Addr -> Nat -> Prop) (hQ : EntsSo w a ds Q) :
 Calls Tryz.prog 49 #[.slice a len cap, .int .i64 t] w fun e w' => Asked ds t Q w e w' := by
 have hA := new_below w (.cells #[.int .i64 0, .slice none 0 0] 65)
 have R0 := Box.new w 65 #[.int .i64 0, .slice none 0 0]
 have zR := R0.lt
 have r1 := h1.below hA
 have HA := hidden hA
 have hl := (row_length h1).1
 clear h1
 go_enter Tryz.func49, Tryz.ntmps49
 go_wp2_with fail
 generalize w.alloc (.cells #[.int .i64 0, .slice none 0 0] 65) = W at hA R0 zR r1 HA ⊢
 refine (find_any _ G _ _ _ ds t r1 hlen ha ht).mono ?_
 rintro e w1 ⟨k, r, rfl, hp, b1⟩
 have R1 := R0.below b1 zR
 have B1 := Below.andThen hA b1
 have z1 := b1.size
 clear R0 r1 b1 hA HA
 cases r
 . have HM := hidden (hp.miss ha)
   have BN := new_below w1 (.cells #[.int .i64 0, .slice none 0 0] 65)
   have N1 := Box.new w1 65 #[.int .i64 0, .slice none 0 0]
   have R2 := R1.below BN R1.lt
   have B2 := Below.andThen B1 BN
   have n0 := N1.cell 0
   have n1 := N1.cell 1
   have s0 := R2.cell 0
   have s1 := R2.cell 1
   have fz := R2.frozen
   have HB : Hid (Below w.heap.size w (((w1.alloc (.cells #[.int .i64 0, .slice none 0 0] 65)).setCell ⟨w.heap.size, 0, none⟩ (.int .i64 0)).setCell ⟨w.heap.size, 1, none⟩ (.slice none 0 0))) := (B2.setCell (Nat.le_refl _) _).setCell (Nat.le_refl _) _
   clear R1 B1 BN N1 R2 B2 hp hQ ha ht
   go_wp2
   refine bodyPost_ret (v := .tuple #[.agg #[.int .i64 0, .slice none 0 0], .bool false]) (by simp [results, Tryz.results49, go_sem, s0, s1]) rfl ?_
   exact ⟨.inl ⟨HM.out, rfl⟩, HB.out⟩
 . obtain ⟨hat, d, hdk, hdt⟩ := hp.hit
   obtain ⟨y, ys⟩ := d
   simp only at hdt
   subst hdt
   obtain ⟨b, off, a1, c1, rfl, hbl, hv0, hv1, hq⟩ := hQ k _ hdk
   have hc0 := (B1.cell (p := ⟨b, off + k * 2, none⟩) hbl).trans hv0
   have hc1 := (B1.cell (p := ⟨b, off + k * 2 + 1, none⟩) hbl).trans hv1
   have hkl := (List.getElem?_eq_some_iff.1 hdk).1
   have k2 : (0 : Int) <= (k : Int) := by omega
   have k3 : (k : Int) < (len : Int) := by omega
   have s0 := R1.cell 0
   have s1 := R1.cell 1
   have fz := R1.frozen
   have HH := hidden hat
   have HK := hidden hdk
   have HQ := hidden hq
   have HB : Hid (Below w.heap.size w ((w1.setCell ⟨w.heap.size, 0, none⟩ (.int .i64 y)).setCell ⟨w.heap.size, 1, none⟩ (.slice a1 ys.length c1))) := (B1.setCell (Nat.le_refl _) _).setCell (Nat.le_refl _) _
   clear R1 B1 hp hQ ha ht hat hdk hq hv0 hv1
   go_wp2
   refine bodyPost_ret (v := .tuple #[.agg #[.int .i64 y, .slice a1 ys.length c1], .bool true]) (by simp [results, Tryz.results49, go_sem, s0, s1]) rfl ?_
   exact ⟨.inr ⟨k, ys, a1, c1, HH.out, HK.out, rfl, HQ.out⟩, HB.out⟩

def Upto (P : Program) (ops : Array Oper) (Q : Exit -> Act -> World -> Prop) (S : World -> Prop) (k : Nat) : Nat -> Array Bool -> Act -> World -> Prop
 | 0, l, a, w => Region.ready .any ops l = [] /\ Q .normal a w
 | n + 1, l, a, w => (Region.ready .any ops l = [] -> Q .normal a w) /\ ∀ j ∈ Region.ready .any ops l, wpOp P ops Q j (fun a' w' => (j ≠ k -> S w') /\ Upto P ops Q S k n (l.setIfInBounds j true) a' w') a w

section
variable {P : Program} {ops : Array Oper} {Q : Exit -> Act -> World -> Prop} {S : World -> Prop} {k : Nat}

theorem Upto.any : ∀ (n : Nat) (l : Array Bool) (a : Act) (w : World), Upto P ops Q S k n l a w -> wpAny P .any ops Q n l a w
 | 0, _, _, _, h => h
 | n + 1, _, _, _, h => ⟨h.1, fun j hj => wpOp_mono (fun a' w' h' => Upto.any n _ a' w' h'.2) (h.2 j hj)⟩

theorem Upto.start {id : Nat} {a : Act} {w : World} (hm : P.follows .mixedOrders = true) (h : Upto P ops Q S k ops.size (Array.replicate ops.size false) a w.drew) : (Code.region id ops true).wp P Q a w :=
 wp_region_any hm (Upto.any _ _ _ _ h)

theorem unlisted {l : Array Bool} {i : Nat} (h0 : l.getD i true = false) (h1 : l.getD i false = true) : False := by
 by_cases hi : i < l.size
 . simp [hi] at h0 h1
   rw [h0] at h1
   cases h1
 . simp [Array.getElem?_eq_none (Nat.le_of_not_lt hi)] at h1

theorem Upto.first {i : Nat} {oi ok : Oper} {v : Value} (hi : ops[i]? = some oi) (hk : ops[k]? = some ok) (hki : ∃ e ∈ ok.after, Region.binds .any e = true /\ e.on = i)
 (hsel : ∀ (j : Nat) (o : Oper) cs b, ops[j]? = some o -> o.op ≠ .select cs b) (hQ : ∀ c a w, Q (.panic c) (a.put oi.dst v) w -> Q (.panic c) a w) (n : Nat) :
 ∀ (l : Array Bool) (a : Act) (w : World),
  (∀ j oj, ops[j]? = some oj -> j ≠ i -> l.getD j true = false -> (∀ e ∈ oj.after, Region.binds .any e = true -> e.on ≠ i) -> oi.apart ops oj = true) ->
  i ∈ Region.ready .any ops l -> YieldsIf P ops S oi v a -> S w -> Upto P ops Q S k n (l.setIfInBounds i true) (a.put oi.dst v) w -> Upto P ops Q S k (n + 1) l a w := by
 induction n with
 | zero =>
  intro l a w _ hr hy hS H
  constructor
  . intro h
    rw [h] at hr
    simp at hr
  . intro j hj
    by_cases hji : j = i
    . rw [hji]
      exact hy.wpOp hi hS ⟨fun _ => hS, H⟩
    . have h2 := ready_mono (i := i) hj hji
      rw [H.1] at h2
      simp at h2
 | succ n ih =>
  intro l a w hfree hr hy hS H
  constructor
  . intro h
    rw [h] at hr
    simp at hr
  . intro j hj
    by_cases hji : j = i
    . rw [hji]
      exact hy.wpOp hi hS ⟨fun _ => hS, H⟩
    . obtain ⟨hju, oj, hoj, hall⟩ := mem_ready.1 hj
      have hiu := (mem_ready.1 hr).1
      have hno : ∀ e ∈ oj.after, Region.binds .any e = true -> e.on ≠ i := fun e he hb hon => unlisted hiu (hon ▸ hall e he hb)
      have hjk : j ≠ k := by
       intro hjk
       rw [hjk, hk] at hoj
       obtain ⟨e, he, hb, hon⟩ := hki
       cases hoj
       exact hno e he hb hon
      have h1 := H.2 j (ready_mono hj hji)
      have h2 := wpOp_putIf hoj (hfree j oj hoj hji hju hno) (fun cs b => hsel i oi cs b hi) (fun cs b => hsel j oj cs b hoj) hQ hy h1
      refine wpOp_mono ?_ h2
      intro a' w' h3
      have hS' := h3.2.1 hjk
      refine ⟨fun _ => hS', ih _ a' w' ?_ (ready_mono hr (Ne.symm hji)) h3.1 hS' ?_⟩
      . intro m om hm hmi hun hnm
        refine hfree m om hm hmi ?_ hnm
        by_cases hjm : j = m
        . rw [← hjm]
          exact hju
        . rw [getD_set_ne true hjm] at hun
          exact hun
      . rw [Array.setIfInBounds_comm _ _ hji]
        exact h3.2.2

theorem op_at {i : Nat} {o : Oper} {tl : List Oper} (h : ops.toList.drop i = o :: tl) : ops[i]? = some o := by
 have h1 : (ops.toList.drop i)[0]? = some o := by rw [h]; rfl
 rw [List.getElem?_drop] at h1
 simpa using h1

theorem Upto.take {i : Nat} {oi : Oper} {v : Value} {n : Nat} {l : Array Bool} {a : Act} {w : World} {tl : List Oper} (hi' : ops.toList.drop i = oi :: tl)
 (hki : ((ops[k]?).map fun o => o.after.any fun e => Region.binds .any e && e.on == i) = some true) (hs : Region.noSelect ops = true) (hf : Region.free .any ops l i = true) (hr : (Region.ready .any ops l).contains i = true)
 (hQ : ∀ c a w, Q (.panic c) (a.put oi.dst v) w -> Q (.panic c) a w) (hy : YieldsIf P ops S oi v a) (hS : S w) (h : Upto P ops Q S k n (l.setIfInBounds i true) (a.put oi.dst v) w) : Upto P ops Q S k (n + 1) l a w := by
 have hi := op_at hi'
 cases hk : ops[k]? with
 | none => rw [hk] at hki; cases hki
 | some ok =>
  rw [hk] at hki
  simp only [Option.map_some, Option.some.injEq, Array.any_eq_true', Bool.and_eq_true, beq_iff_eq] at hki
  exact Upto.first hi hk hki (Region.noSelect_spec hs) hQ n l a w (Region.free_spec hi hf) (by simpa using hr) hy hS h

theorem Upto.one {i : Nat} {o : Oper} {n : Nat} {l : Array Bool} {a : Act} {w : World} {tl : List Oper} (hr : Region.ready .any ops l = [i]) (ho : ops.toList.drop i = o :: tl)
 (h : ∀ K' : Act -> World -> Prop, Shut (∀ a w, (i ≠ k -> S w) -> Upto P ops Q S k n (l.setIfInBounds i true) a w -> K' a w) -> if Region.wanted o (yielded ops a.tmps) = true then Oper.wp P o a w K' Q else K' (a.put o.dst undef) w) : Upto P ops Q S k (n + 1) l a w := by
 constructor
 . intro h0
   rw [hr] at h0
   simp at h0
 . intro j hj
   rw [hr] at hj
   simp at hj
   rw [hj]
   exact wpOp_step (op_at ho) (fun K' hK => h K' (fun a w hS hW => hK a w ⟨hS, hW⟩))

theorem Upto.done {l : Array Bool} {a : Act} {w : World} (hr : Region.ready .any ops l = []) (h : Q .normal a w) : ∀ n, Upto P ops Q S k n l a w
 | 0 => ⟨hr, h⟩
 | _ + 1 => ⟨fun _ => h, by rw [hr]; simp⟩

end

variable {P : Program} {ops : Array Oper} {Q : Exit -> Act -> World -> Prop} {S : World -> Prop}

theorem held_take {i : Nat} {oi : Oper} {v : Value} {fuel : Nat} {l : Array Bool} {a : Act} {w : World} {tl : List Oper} (hi : ops.toList.drop i = oi :: tl)
 (hs : Region.noSelect ops = true) (hf : Region.free .any ops l i = true) (hr : (Region.ready .any ops l).contains i = true)
 (hQ : ∀ c a w, Q (.panic c) (a.put oi.dst v) w -> Q (.panic c) a w) (hw : Region.wanted oi (yielded ops a.tmps) = true) (hy : ∀ w, S w -> (execOp a.eval oi).run P w = .ok (.value v) w) (hS : S w)
 (h : wpAnyH P .any ops Q S fuel (l.setIfInBounds i true) (a.put oi.dst v) w) : wpAnyH P .any ops Q S (fuel + 1) l a w :=
 wpAnyH_take (op_at hi) hs hf hr hQ (Or.inl ⟨hw, hy⟩) hS h
theorem held_pass {i : Nat} {oi : Oper} {fuel : Nat} {l : Array Bool} {a : Act} {w : World} {tl : List Oper} (hi : ops.toList.drop i = oi :: tl)
 (hs : Region.noSelect ops = true) (hf : Region.free .any ops l i = true) (hr : (Region.ready .any ops l).contains i = true)
 (hQ : ∀ c a w, Q (.panic c) (a.put oi.dst undef) w -> Q (.panic c) a w) (hw : Region.wanted oi (yielded ops a.tmps) = false) (hS : S w)
 (h : wpAnyH P .any ops Q S fuel (l.setIfInBounds i true) (a.put oi.dst undef) w) : wpAnyH P .any ops Q S (fuel + 1) l a w :=
 wpAnyH_take (op_at hi) hs hf hr hQ (Or.inr ⟨hw, rfl⟩) hS h
theorem held_one {i : Nat} {o : Oper} {fuel : Nat} {l : Array Bool} {a : Act} {w : World} {tl : List Oper} (hr : Region.ready .any ops l = [i]) (ho : ops.toList.drop i = o :: tl) (hw : Region.wanted o (yielded ops a.tmps) = true)
 (h : ∀ K' : Act -> World -> Prop, Shut (∀ a w, S w -> (S w -> wpAnyH P .any ops Q S fuel (l.setIfInBounds i true) a w) -> K' a w) -> Oper.wp P o a w K' Q) : wpAnyH P .any ops Q S (fuel + 1) l a w :=
 wpAnyH_ready hr (by simp) (AllReadyH.cons (op_at ho) (fun K' hK => by rw [if_pos hw]; exact h K' hK) AllReadyH.nil)
theorem held_t (i : Nat) {oi : Oper} {v : Value} {fuel : Nat} {l : Array Bool} {a a' : Act} {w : World} {tl : List Oper} (hS : S w) (h : wpAnyH P .any ops Q S fuel (l.setIfInBounds i true) a' w) (hi : ops.toList.drop i = oi :: tl := by rfl)
 (hs : Region.noSelect ops = true := by kernel_rfl) (hf : Region.free .any ops l i = true := by kernel_rfl) (hr : (Region.ready .any ops l).contains i = true := by kernel_rfl)
 (hQ : ∀ c a w, Q (.panic c) (a.put oi.dst v) w -> Q (.panic c) a w := by exact fun _ _ _ h => h) (hw : Region.wanted oi (yielded ops a.tmps) = true := by kernel_rfl)
 (hy : ∀ w, S w -> (execOp a.eval oi).run P w = .ok (.value v) w := by (intro w hSw; (try dsimp only at hSw); go_split_ands; go_simp; first | done | with_reducible rfl))
 (ha : a.put oi.dst v = a' := by (simp only [Act.put, List.setIfInBounds_toArray, List.set_cons_zero, List.set_cons_succ]; first | done | rfl)) : wpAnyH P .any ops Q S (fuel + 1) l a w := held_take hi hs hf hr hQ hw hy hS (ha ▸ h)
theorem held_none {i : Nat} {o : Oper} {fuel : Nat} {l : Array Bool} {a : Act} {w : World} {tl : List Oper} (hr : Region.ready .any ops l = [i]) (ho : ops.toList.drop i = o :: tl) (hw : Region.wanted o (yielded ops a.tmps) = false) (hS : S w)
 (h : wpAnyH P .any ops Q S fuel (l.setIfInBounds i true) (a.put o.dst undef) w) : wpAnyH P .any ops Q S (fuel + 1) l a w :=
 wpAnyH_ready hr (by simp) (AllReadyH.cons (op_at ho) (fun K' hK => by rw [if_neg (by rw [hw]; simp)]; exact hK _ _ hS (fun _ => h)) AllReadyH.nil)

theorem Upto.t {k : Nat} (i : Nat) {oi : Oper} {v : Value} {n : Nat} {l : Array Bool} {a a' : Act} {w : World} {tl : List Oper} (hS : S w) (h : Upto P ops Q S k n (l.setIfInBounds i true) a' w) (hi : ops.toList.drop i = oi :: tl := by rfl)
 (hki : ((ops[k]?).map fun o => o.after.any fun e => Region.binds .any e && e.on == i) = some true := by kernel_rfl) (hs : Region.noSelect ops = true := by kernel_rfl) (hf : Region.free .any ops l i = true := by kernel_rfl) (hr : (Region.ready .any ops l).contains i = true := by kernel_rfl)
 (hQ : ∀ c a w, Q (.panic c) (a.put oi.dst v) w -> Q (.panic c) a w := by exact fun _ _ _ h => h) (hw : Region.wanted oi (yielded ops a.tmps) = true := by rfl) (hy : ∀ w, S w -> (execOp a.eval oi).run P w = .ok (.value v) w := by (intro w hSw; (try dsimp only at hSw); go_split_ands; go_simp; first | done | with_reducible rfl)) (ha : a.put oi.dst v = a' := by (simp only [Act.put, List.setIfInBounds_toArray, List.set_cons_zero, List.set_cons_succ]; first | done | rfl)) : Upto P ops Q S k (n + 1) l a w :=
 Upto.take hi hki hs hf hr hQ (Or.inl ⟨hw, hy⟩) hS (ha ▸ h)
theorem held_p (i : Nat) {oi : Oper} {fuel : Nat} {l : Array Bool} {a a' : Act} {w : World} {tl : List Oper} (hS : S w) (h : wpAnyH P .any ops Q S fuel (l.setIfInBounds i true) a' w) (hi : ops.toList.drop i = oi :: tl := by rfl)
 (hs : Region.noSelect ops = true := by kernel_rfl) (hf : Region.free .any ops l i = true := by kernel_rfl) (hr : (Region.ready .any ops l).contains i = true := by kernel_rfl)
 (hQ : ∀ c a w, Q (.panic c) (a.put oi.dst undef) w -> Q (.panic c) a w := by exact fun _ _ _ h => h) (hw : Region.wanted oi (yielded ops a.tmps) = false := by kernel_rfl)
 (ha : a.put oi.dst undef = a' := by (simp only [Act.put, List.setIfInBounds_toArray, List.set_cons_zero, List.set_cons_succ]; first | done | rfl)) : wpAnyH P .any ops Q S (fuel + 1) l a w := held_pass hi hs hf hr hQ hw hS (ha ▸ h)

def isW (n : Int) : Bool := decide (0 <= n) && decide (n <= 65535)
def allW (l : List Int) : Bool := l.all isW
def secB (l : List Int) : Bool := decide (l.length <= 12) && allW l

theorem allW_step {zs : List Int} {j : Nat} {x : Int} (h : j < zs.length) (hx : zs.getD j 0 = x) :
 (isW x = true -> allW (zs.take j) = true -> allW (zs.take (j + 1)) = true) /\ (isW x = false -> allW zs = false) := by
 have e : zs[j] = x := by rw [← hx]; simp [List.getElem?_eq_getElem h]
 refine ⟨fun h1 h2 => ?_, fun h1 => ?_⟩
 . unfold allW at *
   rw [List.take_succ_eq_append_getElem h, List.all_append, h2, e]
   simp [h1]
 . unfold allW
   rw [List.all_eq_false]
   exact ⟨x, by rw [← e]; exact List.getElem_mem h, by simp [h1]⟩

theorem isWord_any (n : Int) (w : World) : Calls Tryz.prog 40 #[.int .i64 n] w fun e w' => e = .returned (.bool (isW n)) /\ w' = w := by
 unfold isW
 by_cases h0 : 0 <= n
 . by_cases h1 : n <= 65535
   . go_enter Tryz.func40, Tryz.ntmps40
     go_wp2
     go_ret
     exact ⟨ret_bool (by simp [h0, h1]), rfl⟩
   . go_enter Tryz.func40, Tryz.ntmps40
     go_wp2
     go_ret
     exact ⟨ret_bool (by symm; simp; omega), rfl⟩
 . go_enter Tryz.func40, Tryz.ntmps40
   go_wp2
   go_ret
   exact ⟨ret_bool (by symm; simp; omega), rfl⟩

theorem l1Word_any (n : Int) (w : World) : Calls Tryz.prog 37 #[.int .i64 n] w fun e w' => e = .returned (.bool (isW n)) /\ w' = w := by
 go_enter Tryz.func37, Tryz.ntmps37
 go_wp2_with (go_at_call 47; refine (l1In_any _ _ _ _).mono ?_; rintro e w' ⟨rfl, rfl⟩)
 go_ret
 exact ⟨rfl, rfl⟩

theorem l1Words_any (w : World) (a : Option Addr) (len cap : Nat) (zs : List Int) (hz : zs.length = len) (hr : Reads .i64 w a zs) (hlen : len <= 2097152) :
 Calls Tryz.prog 111 #[.slice a len cap] w fun e w' => e = .returned (.bool (allW zs)) /\ w' = w := by
 go_enter Tryz.func111, Tryz.ntmps111
 go_wp2
 go_loop [3] (fun i => ∃ j : Nat, j <= len /\ i = .int .i64 j /\ allW (zs.take j) = true) (fun i => len - (intOf i).toNat)
 case atStart => exact ⟨0, Nat.zero_le _, rfl, rfl⟩
 case round =>
  obtain ⟨j, hj, rfl, ht⟩ := hrel
  by_cases hlt : j < len
  . rcases hr.cases with h0 | ⟨b, off, rfl, hbl, hc⟩
    . omega
    have hc1 := hc j (by omega)
    have hd := allW_step (zs := zs) (j := j) (by omega) rfl
    generalize zs.getD j 0 = x at hc1 hd
    have HT : Hid (allW (zs.take j) = true) := ht
    clear hc ht
    by_cases hx : isW x = true
    . have HD := hd.1 hx HT.out
      clear hd
      go_wp2_with (go_at_call 37; refine (l1Word_any _ _).mono ?_; rintro e w' ⟨rfl, rfl⟩)
      go_round
      case rel => exact ⟨j + 1, by omega, by go_num, HD⟩
      case measure => simp [intOf]; omega
    . have hx : isW x = false := by simpa using hx
      have HD := hd.2 hx
      clear hd
      go_wp2_with (go_at_call 37; refine (l1Word_any _ _).mono ?_; rintro e w' ⟨rfl, rfl⟩)
      go_ret
      exact ⟨ret_bool (by rw [HD]), rfl⟩
  . go_wp2
    go_ret
    have e : j = len := by omega
    subst e
    rw [List.take_of_length_le (by omega)] at ht
    exact ⟨ret_bool ht.symm, rfl⟩

theorem specSecOk_any (w : World) (a : Option Addr) (len cap : Nat) (zs : List Int) (hz : zs.length = len) (hr : Reads .i64 w a zs) (hlen : len <= 2097152) :
 Calls Tryz.prog 164 #[.slice a len cap] w fun e w' => e = .returned (.bool (secB zs)) /\ Same w w' := by
 by_cases h : len <= 12
 . go_enter Tryz.func164, Tryz.ntmps164
   go_wp2_with (go_at_call 111; refine (l1Words_any _ _ _ _ zs hz hr hlen).mono ?_; rintro e w' ⟨rfl, rfl⟩)
   go_ret
   exact ⟨ret_bool (by simp [secB, hz, h]), Same.refl _⟩
 . go_enter Tryz.func164, Tryz.ntmps164
   go_wp2
   go_ret
   exact ⟨ret_bool (by simp [secB, hz, h]), Same.refl _⟩

theorem implSecOk_any (w : World) (a : Option Addr) (len cap : Nat) (zs : List Int) (hz : zs.length = len) (hr : Reads .i64 w a zs) (hlen : len <= 2097152) :
 Calls Tryz.prog 115 #[.slice a len cap] w fun e w' => e = .returned (.bool (secB zs)) /\ Same w w' := by
 by_cases h : len <= 12
 . go_enter Tryz.func115, Tryz.ntmps115
   go_wp2
   go_loop [10] (fun i => ∃ j : Nat, j <= len /\ i = .int .i64 j /\ allW (zs.take j) = true) (fun i => len - (intOf i).toNat)
   case atStart => exact ⟨0, Nat.zero_le _, rfl, rfl⟩
   case round =>
    obtain ⟨j, hj, rfl, ht⟩ := hrel
    by_cases hlt : j < len
    . rcases hr.cases with h0 | ⟨b, off, rfl, hbl, hc⟩
      . omega
      have hc1 := hc j (by omega)
      have hd := allW_step (zs := zs) (j := j) (by omega) rfl
      generalize zs.getD j 0 = x at hc1 hd
      have HT : Hid (allW (zs.take j) = true) := ht
      clear hc ht
      by_cases hx : isW x = true
      . have HD := hd.1 hx HT.out
        clear hd
        go_wp2_with (go_at_call 40; refine (isWord_any _ _).mono ?_; rintro e w' ⟨rfl, rfl⟩)
        go_round
        case rel => exact ⟨j + 1, by omega, by go_num, HD⟩
        case measure => simp [intOf]; omega
      . have hx : isW x = false := by simpa using hx
        have HD := hd.2 hx
        clear hd
        go_wp2_with (go_at_call 40; refine (isWord_any _ _).mono ?_; rintro e w' ⟨rfl, rfl⟩)
        go_ret
        exact ⟨ret_bool (by simp [secB, HD]), Same.refl _⟩
    . go_wp2
      go_ret
      have e : j = len := by omega
      subst e
      rw [List.take_of_length_le (by omega)] at ht
      exact ⟨ret_bool (by simp [secB, hz, h, ht]), Same.refl _⟩
 . go_enter Tryz.func115, Tryz.ntmps115
   go_wp2
   go_ret
   exact ⟨ret_bool (by simp [secB, hz, h]), Same.refl _⟩

def wrB (n : Int) (x : Int × List Int) : Bool := inB x.1 0 (n - 1) && secB x.2
def badAt (n : Int) (bs : List Int) (i : Nat) : Bool := inB (bs.getD i 0) 0 (n - 1) && (decide (i = 0) || decide (bs.getD (i - 1) 0 < bs.getD i 0))
def badB (n : Int) (bs : List Int) : Bool := (List.range bs.length).all (badAt n bs)
def memB (ss : List (List Int)) (cs : List (Int × List Int)) (bs : List Int) : Bool :=
 ss.all secB && (cs.all (wrB ss.length) && (badB ss.length bs && (inB ss.length 1 20 && decide (cs.length <= 60))))

theorem all_step {α : Type} {p : α -> Bool} {l : List α} {j : Nat} {x : α} (h : l[j]? = some x) : (p x = true -> (l.take j).all p = true -> (l.take (j + 1)).all p = true) /\ (p x = false -> l.all p = false) := by
 have hj : j < l.length := (List.getElem?_eq_some_iff.1 h).1
 have e : l[j] = x := by rw [List.getElem?_eq_getElem hj] at h; simpa using h
 refine ⟨fun h1 h2 => ?_, fun h1 => ?_⟩
 . rw [List.take_succ_eq_append_getElem hj, List.all_append, h2, e]
   simp [h1]
 . rw [List.all_eq_false]
   exact ⟨x, by rw [← e]; exact List.getElem_mem hj, by simp [h1]⟩

theorem specMemOk_any (w : World) (E : TypeId) (a0 a1 a3 : Option Addr) (n0 c0 n1 c1 n3 c3 : Nat) (ss : List (List Int)) (cs : List (Int × List Int)) (f : Bool) (bs : List Int) (h0 : tIntSS.Rd w [.slice a0 n0 c0] ss) (h1 : (tWrS E).Rd w [.slice a1 n1 c1] cs) (h3 : tIntS.Rd w [.slice a3 n3 c3] bs) (hw : wtMem (ss, cs, f, bs) <= 2097152) :
 Calls Tryz.prog 130 #[.agg #[.slice a0 n0 c0, .slice a1 n1 c1, .bool f, .slice a3 n3 c3]] w fun e w' => e = .returned (.bool (memB ss cs bs)) /\ Below w.heap.size w w' := by
 obtain ⟨hl0, _, hm0⟩ := row_length h0
 obtain ⟨hl1, _, hm1⟩ := row_length h1
 obtain ⟨hl3, _, hm3⟩ := row_length h3
 have hw0 : wtIntSS ss <= 2097152 := by unfold wtMem at hw; simp only at hw; omega
 have hw1 : wtWrS cs <= 2097152 := by unfold wtMem at hw; simp only at hw; omega
 have hw3 : n3 <= 2097152 := by unfold wtMem at hw; simp only at hw; omega
 have hn0 : n0 <= 2097152 := by unfold wtIntSS at hw0; omega
 have hn1 : n1 <= 2097152 := by unfold wtWrS at hw1; omega
 have hA : Below w.heap.size w (w.alloc (.cells #[.slice a0 n0 c0, .slice a1 n1 c1, .bool f, .slice a3 n3 c3] 87)) := (Below.refl _ _).alloc (Nat.le_refl _) _
 have hcell : ∀ j v, (#[Value.slice a0 n0 c0, .slice a1 n1 c1, .bool f, .slice a3 n3 c3])[j]? = some v -> (w.alloc (.cells #[.slice a0 n0 c0, .slice a1 n1 c1, .bool f, .slice a3 n3 c3] 87)).cell? ⟨w.heap.size, j, none⟩ = some v := by
  intro j v hv
  rw [cell_of_row _ w.heap.size j _ _ (0, 0) (heap_alloc_new w _)]
  exact hv
 have k0 := hcell 0 _ rfl
 have k1 := hcell 1 _ rfl
 have k3 := hcell 3 _ rfl
 have g0 := h0.below hA
 have g1 := h1.below hA
 have g3 := h3.below hA
 have hz : w.heap.size < (w.alloc (.cells #[.slice a0 n0 c0, .slice a1 n1 c1, .bool f, .slice a3 n3 c3] 87)).heap.size := by simp
 go_enter Tryz.func130, Tryz.ntmps130
 go_wp2
 generalize hW : w.alloc (.cells #[.slice a0 n0 c0, .slice a1 n1 c1, .bool f, .slice a3 n3 c3] 87) = W at hA k0 k1 k3 g0 g1 g3 hz ⊢
 clear hW hcell h0 h1 h3
 go_loopw [4] (fun i wr => ∃ j : Nat, j <= n0 /\ i = .int .i64 j /\ (ss.take j).all secB = true /\ Same W wr) (fun i _ => n0 - (intOf i).toNat)
 case atStart => exact ⟨0, Nat.zero_le _, rfl, rfl, Same.refl _⟩
 case round =>
  obtain ⟨j, hj, rfl, ht, hs⟩ := hrel
  have q0 := (hs.cell _).trans k0
  by_cases hjn : j < n0
  . rcases rows_at rfl g0 with h0' | ⟨b, off, rfl, hbl, hcs⟩
    . omega
    have hdj : ss[j]? = some (ss[j]'(by omega)) := List.getElem?_eq_getElem (by omega)
    generalize ss[j]'(by omega) = x at hdj
    have hal := all_step (p := secB) hdj
    have hil := inner_le hdj
    obtain ⟨v, hv, hrv⟩ := hcs j x hdj
    obtain ⟨av, cv, rfl⟩ := row_shape hrv
    have q1 := (hs.cell ⟨b, off + j, none⟩).trans hv
    obtain ⟨r1, _, _, _⟩ := ints_rd (hrv.same hs)
    have HT := hidden ht
    clear hcs hdj hv hrv ht
    by_cases hx : secB x = true
    . have HD := hidden (hal.1 hx HT.out)
      clear hal
      go_wp2_with fail
      refine (specSecOk_any _ _ _ _ x rfl r1 (by omega)).mono ?_
      rintro e w1 ⟨rfl, hs1⟩
      go_wp2
      go_roundw
      case rel => exact ⟨j + 1, by omega, by go_num, HD.out, hs.trans hs1⟩
      case measure => simp [intOf]; omega
    . have hx : secB x = false := by simpa using hx
      have HN := hidden (hal.2 hx)
      clear hal
      go_wp2_with fail
      refine (specSecOk_any _ _ _ _ x rfl r1 (by omega)).mono ?_
      rintro e w1 ⟨rfl, hs1⟩
      go_wp2
      go_ret
      exact ⟨ret_bool (by unfold memB; rw [HN.out]; rfl), Below.andSame (Below.andSame hA hs) hs1⟩
  . have e : j = n0 := by omega
    subst e
    rw [List.take_of_length_le (by omega)] at ht
    have HS0 := hidden ht
    have hss : ss.length = j := hl0
    clear ht hj hjn q0
    go_wp2
    go_loopw [5] (fun i wr => ∃ i2 : Nat, i2 <= n1 /\ i = .int .i64 i2 /\ (cs.take i2).all (wrB j) = true /\ Same W wr) (fun i _ => n1 - (intOf i).toNat)
    case atStart => exact ⟨0, Nat.zero_le _, rfl, rfl, hs⟩
    case round =>
     clear hs
     obtain ⟨i2, hi2, rfl, ht, hs⟩ := hrel
     have q1 := (hs.cell _).trans k1
     by_cases hin : i2 < n1
     . rcases pairs_at rfl g1 with h0' | ⟨b, off, rfl, hbl, hcs⟩
       . omega
       have hdj : cs[i2]? = some (cs[i2]'(by omega)) := List.getElem?_eq_getElem (by omega)
       generalize cs[i2]'(by omega) = x at hdj
       have hal := all_step (p := wrB j) hdj
       have hil := inner_le' hdj
       obtain ⟨v0, v1, hv0, hv1, hrv⟩ := hcs i2 x hdj
       obtain ⟨rfl, hrv'⟩ := wr_rd hrv
       obtain ⟨av, cv, rfl⟩ := row_shape hrv'
       have p0 := (hs.cell ⟨b, off + i2 * 2, none⟩).trans hv0
       have p1 := (hs.cell ⟨b, off + i2 * 2 + 1, none⟩).trans hv1
       obtain ⟨r1, _, _, _⟩ := ints_rd (hrv'.same hs)
       obtain ⟨x0, x1⟩ := x
       simp only at p0 p1 r1 hil
       have HT := hidden ht
       clear hcs hdj hv0 hv1 hrv hrv' ht
       by_cases hI : inB x0 0 ((j : Int) - 1) = true
       . by_cases hx : secB x1 = true
         . have HD := hidden (hal.1 (by unfold wrB; simp only; rw [hI, hx]; rfl) HT.out)
           clear hal
           go_wp2_with fail
           refine (l1In_any _ _ _ _).mono ?_
           rintro e w1 ⟨rfl, hw1'⟩
           subst w1
           go_wp2_with fail
           refine (specSecOk_any _ _ _ _ x1 rfl r1 (by omega)).mono ?_
           rintro e w2 ⟨rfl, hs2⟩
           go_wp2
           go_roundw
           case rel => exact ⟨i2 + 1, by omega, by go_num, HD.out, hs.trans hs2⟩
           case measure => simp [intOf]; omega
         . have hx : secB x1 = false := by simpa using hx
           have HN := hidden (hal.2 (by unfold wrB; simp only; rw [hI, hx]; rfl))
           clear hal
           go_wp2_with fail
           refine (l1In_any _ _ _ _).mono ?_
           rintro e w1 ⟨rfl, hw1'⟩
           subst w1
           go_wp2_with fail
           refine (specSecOk_any _ _ _ _ x1 rfl r1 (by omega)).mono ?_
           rintro e w2 ⟨rfl, hs2⟩
           go_wp2
           go_ret
           exact ⟨ret_bool (by unfold memB; rw [hss, HN.out, HS0.out]; rfl), Below.andSame (Below.andSame hA hs) hs2⟩
       . have hI : inB x0 0 ((j : Int) - 1) = false := by simpa using hI
         have HN := hidden (hal.2 (by unfold wrB; simp only; rw [hI]; rfl))
         clear hal
         go_wp2_with fail
         refine (l1In_any _ _ _ _).mono ?_
         rintro e w1 ⟨rfl, hw1'⟩
         subst w1
         go_wp2
         go_ret
         exact ⟨ret_bool (by unfold memB; rw [hss, HN.out, HS0.out]; rfl), Below.andSame hA hs⟩
     . have e2 : i2 = n1 := by omega
       subst e2
       rw [List.take_of_length_le (by omega)] at ht
       have HS1 := hidden ht
       have hcsl : cs.length = i2 := hl1
       clear ht hi2 hin
       go_wp2
       go_loopw [6] (fun i wr => ∃ i3 : Nat, i3 <= n3 /\ i = .int .i64 i3 /\ (List.range i3).all (badAt j bs) = true /\ Same W wr) (fun i _ => n3 - (intOf i).toNat)
       case atStart => exact ⟨0, Nat.zero_le _, rfl, rfl, hs⟩
       case round =>
        clear hs
        obtain ⟨i3, hi3, rfl, ht, hs⟩ := hrel
        have q3 := (hs.cell _).trans k3
        by_cases hi3n : i3 < n3
        . obtain ⟨R3, _, _, _⟩ := ints_rd g3
          rcases R3.cases with h0' | ⟨b, off, rfl, hbl, hcs⟩
          . omega
          have p0 := (hs.cell ⟨b, off + i3, none⟩).trans (hcs i3 (by omega))
          have HT := hidden ht
          have hrs : (List.range (i3 + 1)).all (badAt j bs) = ((List.range i3).all (badAt j bs) && badAt j bs i3) := by rw [List.range_succ, List.all_append]; simp
          have hrn : badAt j bs i3 = false -> badB j bs = false := by
           intro h
           unfold badB
           rw [List.all_eq_false]
           exact ⟨i3, by simp; omega, by simp [h]⟩
          have hbd : badAt j bs i3 = (inB (bs.getD i3 0) 0 ((j : Int) - 1) && (decide (i3 = 0) || decide (bs.getD (i3 - 1) 0 < bs.getD i3 0))) := rfl
          have i1 : (0 : Int) <= (i3 : Int) := by omega
          have i2' : (i3 : Int) < (n3 : Int) := by omega
          have gw : IntKind.i64.wrap ((j : Int) - 1) = (j : Int) - 1 := IntWalk.i64_in _ (by omega)
          by_cases hI : inB (bs.getD i3 0) 0 ((j : Int) - 1) = true
          . by_cases hz3 : i3 = 0
            . have HD : Hid ((List.range (i3 + 1)).all (badAt j bs) = true) := by unfold Hid; rw [hrs, HT.out, hbd, hI, decide_eq_true hz3]; rfl
              generalize bs.getD i3 0 = y at p0 hI
              have d0 : decide ((0 : Int) < (i3 : Int)) = false := decide_eq_false (by omega)
              have d0b : decide (0 < i3) = false := decide_eq_false (by omega)
              have HZ := hidden hz3
              clear hcs ht hrs hrn hbd hz3 R3
              go_wp2_with fail
              go_quiet ((go_at_call 47; exact Calls.quiet_of_same (l1In_any _ _ _ _)))
              go_wp2
              go_roundw
              case rel => exact ⟨i3 + 1, by omega, by go_num, HD.out, hs.drewN _⟩
              case measure => simp [intOf]; omega
            . have p1 := (hs.cell ⟨b, off + (i3 - 1), none⟩).trans (hcs (i3 - 1) (by omega))
              have d0 : decide ((0 : Int) < (i3 : Int)) = true := decide_eq_true (by omega)
              have d0b : decide (0 < i3) = true := decide_eq_true (by omega)
              have gv : IntKind.i64.wrap ((i3 : Int) - 1) = (i3 : Int) - 1 := IntWalk.i64_in _ (by omega)
              have gt : ((i3 : Int) - 1).toNat = i3 - 1 := by omega
              have i3a : (0 : Int) <= (i3 : Int) - 1 := by omega
              have i3b : (i3 : Int) - 1 < (n3 : Int) := by omega
              by_cases hlt : bs.getD (i3 - 1) 0 < bs.getD i3 0
              . have HD : Hid ((List.range (i3 + 1)).all (badAt j bs) = true) := by unfold Hid; rw [hrs, HT.out, hbd, hI, decide_eq_true hlt]; simp
                generalize bs.getD i3 0 = y at p0 hI hlt
                generalize bs.getD (i3 - 1) 0 = z at p1 hlt
                have d1 : ¬ y <= z := by omega
                clear hcs ht hrs hrn hbd hz3 R3
                go_wp2_with fail
                go_quiet ((go_at_call 47; exact Calls.quiet_of_same (l1In_any _ _ _ _)))
                go_wp2
                go_roundw
                case rel => exact ⟨i3 + 1, by omega, by go_num, HD.out, hs.drewN _⟩
                case measure => simp [intOf]; omega
              . have HN := hidden (hrn (by rw [hbd, hI, decide_eq_false hz3, decide_eq_false hlt]; rfl))
                generalize bs.getD i3 0 = y at p0 hI hlt
                generalize bs.getD (i3 - 1) 0 = z at p1 hlt
                have d1 : y <= z := by omega
                clear hcs ht hrs hrn hbd hz3 R3
                go_wp2_with fail
                go_quiet ((go_at_call 47; exact Calls.quiet_of_same (l1In_any _ _ _ _)))
                go_wp2
                go_ret
                exact ⟨ret_bool (by unfold memB; rw [hss, HN.out, HS1.out, HS0.out]; rfl), Below.andSame hA (hs.drewN _)⟩
          . have hI : inB (bs.getD i3 0) 0 ((j : Int) - 1) = false := by simpa using hI
            have HN := hidden (hrn (by rw [hbd, hI]; rfl))
            generalize bs.getD i3 0 = y at p0 hI
            clear hcs ht hrs hrn hbd R3
            go_wp2_with fail
            go_quiet ((go_at_call 47; exact Calls.quiet_of_same (l1In_any _ _ _ _)))
            go_wp2
            go_ret
            exact ⟨ret_bool (by unfold memB; rw [hss, HN.out, HS1.out, HS0.out]; rfl), Below.andSame hA (hs.drewN _)⟩
        . have e3 : i3 = n3 := by omega
          have HB : Hid (badB j bs = true) := by unfold Hid badB; rw [hl3, ← e3]; exact ht
          clear ht hi3
          have q1 := (hs.cell _).trans k1
          by_cases hI : inB (j : Int) 1 20 = true
          . by_cases h60 : (i2 : Int) <= 60
            . have h60' : i2 <= 60 := by omega
              have H60 := hidden (decide_eq_true h60')
              clear h60'
              go_wp2_with fail
              refine (l1In_any _ _ _ _).mono ?_
              rintro e w1 ⟨rfl, hw1'⟩
              subst w1
              go_wp2
              go_ret
              exact ⟨ret_bool (by unfold memB; rw [hss, hcsl, HB.out, HS1.out, HS0.out, hI, H60.out]; rfl), Below.andSame hA hs⟩
            . have h60' : ¬ i2 <= 60 := by omega
              have H60 := hidden (decide_eq_false h60')
              clear h60'
              go_wp2_with fail
              refine (l1In_any _ _ _ _).mono ?_
              rintro e w1 ⟨rfl, hw1'⟩
              subst w1
              go_wp2
              go_ret
              exact ⟨ret_bool (by unfold memB; rw [hss, hcsl, HB.out, HS1.out, HS0.out, hI, H60.out, decide_eq_false (by omega)]; rfl), Below.andSame hA hs⟩
          . have hI : inB (j : Int) 1 20 = false := by simpa using hI
            go_wp2_with fail
            refine (l1In_any _ _ _ _).mono ?_
            rintro e w1 ⟨rfl, hw1'⟩
            subst w1
            go_wp2
            go_ret
            exact ⟨ret_bool (by unfold memB; rw [hss, HB.out, HS1.out, HS0.out, hI]; rfl), Below.andSame hA hs⟩

def allIx {α : Type} (p : Nat -> α -> Bool) (l : List α) : Bool := (List.range l.length).all fun i => (l[i]?.map (p i)).getD true
theorem allIx_iff {α : Type} {p : Nat -> α -> Bool} {l : List α} : allIx p l = true ↔ ∀ (i : Nat) (x : α), l[i]? = some x -> p i x = true := by
 unfold allIx
 rw [List.all_eq_true]
 constructor
 . intro h i x hx
   have := h i (by rw [List.mem_range]; exact (List.getElem?_eq_some_iff.1 hx).1)
   rw [hx] at this
   simpa using this
 . intro h i hi
   cases hx : l[i]? with
   | none => rfl
   | some x => simpa using h i x hx
theorem allIx_no {α : Type} {p : Nat -> α -> Bool} {l : List α} {i : Nat} {x : α} (hx : l[i]? = some x) (h : p i x = false) : allIx p l = false := by
 cases hb : allIx p l with
 | false => rfl
 | true => rw [allIx_iff.1 hb i x hx] at h; cases h

def memAt (x : ArrN) (i : Nat) (m : MemD) : Bool := memB m.1 m.2.1 m.2.2.2 && (decide ((m.1.length : Int) = 6 + x.s) && (!m.2.2.1 || (decide ((i : Int) = x.lost) || x.broken)))
def memsB (x : ArrN) (ms : List MemD) : Bool := allIx (memAt x) ms && decide ((ms.length : Int) = x.n)
def entAt (x : ArrN) (ds : List (Int × List Int)) (i : Nat) (e : Int × List Int) : Bool := inB e.1 0 (x.s - 1) && (decide ((e.2.length : Int) = x.n - 1) && (allW e.2 && (decide (i = 0) || decide ((ds.getD (i - 1) (0, [])).1 < e.1))))
def entsB (x : ArrN) (ds : List (Int × List Int)) : Bool := allIx (entAt x ds) ds
def lostB6 (x : ArrN) : Bool := inB x.lost (-1) (x.n - 1) && (inB x.built 0 x.s && (!decide (x.lost = -1) || decide (x.built = 0)))
def seqB6 (x : ArrN) : Bool := inB x.tail 0 60000 && (inB x.seq x.tail 60000 && (decide (x.seq <= x.tail + 4) && (inB x.gen 0 60000 && inB x.fuse (-1) 1000)))
def arrB (x : ArrN) (ms : List MemD) (ds : List (Int × List Int)) : Bool := geoB x.n x.s && (inB x.id 1 60000 && (memsB x ms && (entsB x ds && (lostB6 x && seqB6 x))))

theorem l6Secs_any (w : World) (n s : Int) (hs : 1 <= s /\ s <= 8) : Calls Tryz.prog 131 #[.agg #[.int .i64 n, .int .i64 s]] w fun e w' => e = .returned (.int .i64 (6 + s)) /\ Below w.heap.size w w' := by
 have hA := new_below w (.cells #[.int .i64 n, .int .i64 s] 31)
 obtain ⟨k0, k1⟩ := (Gbox.new w 31 n s).cells
 have hw : IntKind.i64.wrap (6 + s) = 6 + s := IntWalk.i64_in _ (by omega)
 go_enter Tryz.func131, Tryz.ntmps131
 go_wp2
 go_ret
 exact ⟨rfl, hA⟩

theorem l6Mems_any (w : World) (E F : TypeId) (x : ArrN) (am ad : Option Addr) (nm cm nd cd : Nat) (ms : List MemD) (h0 : (tMemS E F).Rd w [.slice am nm cm] ms) (hw : wtMemS ms <= 2097152) (hg : geoB x.n x.s = true) :
 Calls Tryz.prog 93 #[.agg #[.int .i64 x.id, .int .i64 x.n, .int .i64 x.s, .slice am nm cm, .int .i64 x.lost, .int .i64 x.built, .int .i64 x.seq, .int .i64 x.tail, .int .i64 x.gen, .slice ad nd cd, .int .i64 x.fuse, .bool x.down, .bool x.broken]] w fun e w' => e = .returned (.bool (memsB x ms)) /\ Below w.heap.size w w' := by
 obtain ⟨hl, hc, hm⟩ := row_length h0
 obtain ⟨g1, g2, g3, g4⟩ := geoB_iff.1 hg
 have hA := new_below w (.cells #[.int .i64 x.id, .int .i64 x.n, .int .i64 x.s, .slice am nm cm, .int .i64 x.lost, .int .i64 x.built, .int .i64 x.seq, .int .i64 x.tail, .int .i64 x.gen, .slice ad nd cd, .int .i64 x.fuse, .bool x.down, .bool x.broken] 35)
 have X := Box.new w 35 #[.int .i64 x.id, .int .i64 x.n, .int .i64 x.s, .slice am nm cm, .int .i64 x.lost, .int .i64 x.built, .int .i64 x.seq, .int .i64 x.tail, .int .i64 x.gen, .slice ad nd cd, .int .i64 x.fuse, .bool x.down, .bool x.broken]
 have zA := X.lt
 have hnm : nm <= 2097152 := by unfold wtMemS at hw; omega
 have h1 := h0.below hA
 go_enter Tryz.func93, Tryz.ntmps93
 go_wp2
 generalize w.alloc (.cells #[.int .i64 x.id, .int .i64 x.n, .int .i64 x.s, .slice am nm cm, .int .i64 x.lost, .int .i64 x.built, .int .i64 x.seq, .int .i64 x.tail, .int .i64 x.gen, .slice ad nd cd, .int .i64 x.fuse, .bool x.down, .bool x.broken] 35) = W at hA X zA h1 ⊢
 go_loopw [3] (fun i wr => ∃ j : Nat, j <= nm /\ i = .int .i64 j /\ (∀ (q : Nat) (m : MemD), q < j -> ms[q]? = some m -> memAt x q m = true) /\ Below W.heap.size W wr) (fun i _ => nm - (intOf i).toNat)
 case atStart => exact ⟨0, Nat.zero_le _, rfl, fun q m hq => by omega, Below.refl _ _⟩
 case round =>
  obtain ⟨j, hj, rfl, hall, hb⟩ := hrel
  have Xr := X.below hb zA
  obtain ⟨k0, k1, k2, k3, k4, k5, k6, k7, k8, k9, k10, k11, k12⟩ := Xr.cells13
  by_cases hjn : j < nm
  . rcases quads_at rfl h1 with h0' | ⟨b, off, rfl, hbl, hcs⟩
    . omega
    have hdj : ms[j]? = some (ms[j]'(by omega)) := List.getElem?_eq_getElem (by omega)
    generalize ms[j]'(by omega) = m at hdj
    obtain ⟨v0, v1, v2, v3, hv0, hv1, hv2, hv3, hrv⟩ := hcs j m hdj
    obtain ⟨a0, c0, a1, c1, a3, c3, ss, cs, f, bs, rfl, rfl, rfl, rfl, rfl, r0, r1, r3⟩ := mem_at hrv
    have u0 := (hb.cell (p := ⟨b, off + j * 4, none⟩) hbl).trans hv0
    have u1 := (hb.cell (p := ⟨b, off + j * 4 + 1, none⟩) hbl).trans hv1
    have u2 := (hb.cell (p := ⟨b, off + j * 4 + 2, none⟩) hbl).trans hv2
    have u3 := (hb.cell (p := ⟨b, off + j * 4 + 3, none⟩) hbl).trans hv3
    have i1 : (0 : Int) <= (j : Int) := by omega
    have i2 : (j : Int) < (nm : Int) := by omega
    have hwm := Nat.le_trans (inner_leM hdj) hw
    have HDJ := hidden hdj
    clear hcs hv0 hv1 hv2 hv3 hrv hdj
    have b1 := new_below wr (.cells #[.slice a0 ss.length c0, .slice a1 cs.length c1, .bool f, .slice a3 bs.length c3] 87)
    have Y1 := Box.new wr 87 #[.slice a0 ss.length c0, .slice a1 cs.length c1, .bool f, .slice a3 bs.length c3]
    have X1 := Xr.below b1 Xr.lt
    have R0 := (r0.below hb).below b1
    have R1 := (r1.below hb).below b1
    have R3 := (r3.below hb).below b1
    have B1 := hb.trans (b1.mono hb.size)
    clear r0 r1 r3 b1
    obtain ⟨y0, y1, y2, y3⟩ := Y1.cells4
    obtain ⟨e0, e1, e2, e3, e4, e5, e6, e7, e8, e9, e10, e11, e12⟩ := X1.cells13
    have zy := Y1.lt
    have zx := X1.lt
    clear e0 e3 e5 e6 e7 e8 e9 e10 e11
    cases hM : memB ss cs bs
    . skip
      go_wp2_with fail
      generalize wr.alloc (.cells #[.slice a0 ss.length c0, .slice a1 cs.length c1, .bool f, .slice a3 bs.length c3] 87) = w1 at X1 Y1 R0 R1 R3 B1 y0 y1 y2 y3 e1 e2 e4 e12 zy zx ⊢
      refine wp_region_held_drew (S := fun w' => w'.cell? ⟨wr.heap.size, 0, none⟩ = some (.slice a0 ss.length c0) /\ w'.cell? ⟨wr.heap.size, 1, none⟩ = some (.slice a1 cs.length c1) /\ w'.cell? ⟨wr.heap.size, 2, none⟩ = some (.bool f) /\ w'.cell? ⟨wr.heap.size, 3, none⟩ = some (.slice a3 bs.length c3) /\ w'.cell? ⟨w.heap.size, 1, none⟩ = some (.int .i64 x.n) /\ w'.cell? ⟨w.heap.size, 2, none⟩ = some (.int .i64 x.s) /\ w'.cell? ⟨w.heap.size, 4, none⟩ = some (.int .i64 x.lost) /\ w'.cell? ⟨w.heap.size, 12, none⟩ = some (.bool x.broken)) (by kernel_rfl) ?_ (fun hHeld => ?_)
      . exact ⟨y0, y1, y2, y3, e1, e2, e4, e12⟩
      refine held_t 0 hHeld ?_
      refine held_one (i := 1) (by kernel_rfl) rfl (by kernel_rfl) (fun K hK => ?_)
      go_simp
      refine (specMemOk_any _ E _ _ _ _ _ _ _ _ _ ss cs f bs R0.drew R1.drew R3.drew hwm).mono ?_
      rintro e w2 ⟨rfl, b2⟩
      rw [hM]
      have b2' : Below w1.heap.size w1 w2 := (Below.refl w1.heap.size w1).drew.trans b2
      clear b2
      go_wp2_with fail
      clear hHeld
      refine hK.out _ _ ?_ (fun hHeld => ?_)
      . exact ⟨(b2'.cell (p := ⟨wr.heap.size, 0, none⟩) zy).trans y0, (b2'.cell (p := ⟨wr.heap.size, 1, none⟩) zy).trans y1, (b2'.cell (p := ⟨wr.heap.size, 2, none⟩) zy).trans y2, (b2'.cell (p := ⟨wr.heap.size, 3, none⟩) zy).trans y3, (b2'.cell (p := ⟨w.heap.size, 1, none⟩) zx).trans e1, (b2'.cell (p := ⟨w.heap.size, 2, none⟩) zx).trans e2, (b2'.cell (p := ⟨w.heap.size, 4, none⟩) zx).trans e4, (b2'.cell (p := ⟨w.heap.size, 12, none⟩) zx).trans e12⟩
      clear hK K
      refine held_t 2 hHeld ?_
      refine held_t 3 hHeld ?_
      refine held_p 4 hHeld ?_
      refine held_p 5 hHeld ?_
      refine held_p 6 hHeld ?_
      refine held_p 7 hHeld ?_
      refine held_p 8 hHeld ?_
      refine held_none (i := 9) (by kernel_rfl) rfl (by kernel_rfl) hHeld ?_
      simp only [Act.put, List.setIfInBounds_toArray, List.set_cons_zero, List.set_cons_succ]
      refine held_p 10 hHeld ?_
      refine held_t 11 hHeld ?_
      refine held_t 12 hHeld ?_
      refine held_p 13 hHeld ?_
      refine held_p 14 hHeld ?_
      refine held_p 15 hHeld ?_
      refine held_p 16 hHeld ?_
      refine held_p 17 hHeld ?_
      refine held_p 18 hHeld ?_
      refine held_p 19 hHeld ?_
      refine held_p 20 hHeld ?_
      refine held_p 21 hHeld ?_
      refine held_p 22 hHeld ?_
      refine held_p 23 hHeld ?_
      refine held_p 24 hHeld ?_
      refine held_p 25 hHeld ?_
      refine held_t 26 hHeld ?_
      refine wpAnyH_done (by kernel_rfl) ?_ _
      clear hHeld
      have HB := hidden (hA.trans ((B1.trans (b2'.mono B1.size)).mono hA.size))
      go_wp2
      go_ret
      exact ⟨ret_bool (by rw [show memsB x ms = false from (by unfold memsB; rw [allIx_no HDJ.out (by unfold memAt; simp [hM])]; rfl)]), HB.out⟩
    . by_cases hS : (ss.length : Int) = 6 + x.s
      . have hS1 : ((ss.length : Int) == 6 + x.s) = true := by simpa using hS
        have hS2 : ((ss.length : Int) != 6 + x.s) = false := by simpa using hS
        have HS := hidden hS
        clear hS
        cases f
        . skip
          go_wp2_with fail
          generalize wr.alloc (.cells #[.slice a0 ss.length c0, .slice a1 cs.length c1, .bool false, .slice a3 bs.length c3] 87) = w1 at X1 Y1 R0 R1 R3 B1 y0 y1 y2 y3 e1 e2 e4 e12 zy zx ⊢
          refine wp_region_held_drew (S := fun w' => w'.cell? ⟨wr.heap.size, 0, none⟩ = some (.slice a0 ss.length c0) /\ w'.cell? ⟨wr.heap.size, 1, none⟩ = some (.slice a1 cs.length c1) /\ w'.cell? ⟨wr.heap.size, 2, none⟩ = some (.bool false) /\ w'.cell? ⟨wr.heap.size, 3, none⟩ = some (.slice a3 bs.length c3) /\ w'.cell? ⟨w.heap.size, 1, none⟩ = some (.int .i64 x.n) /\ w'.cell? ⟨w.heap.size, 2, none⟩ = some (.int .i64 x.s) /\ w'.cell? ⟨w.heap.size, 4, none⟩ = some (.int .i64 x.lost) /\ w'.cell? ⟨w.heap.size, 12, none⟩ = some (.bool x.broken)) (by kernel_rfl) ?_ (fun hHeld => ?_)
          . exact ⟨y0, y1, y2, y3, e1, e2, e4, e12⟩
          refine held_t 0 hHeld ?_
          refine held_one (i := 1) (by kernel_rfl) rfl (by kernel_rfl) (fun K hK => ?_)
          go_simp
          refine (specMemOk_any _ E _ _ _ _ _ _ _ _ _ ss cs false bs R0.drew R1.drew R3.drew hwm).mono ?_
          rintro e w2 ⟨rfl, b2⟩
          rw [hM]
          have b2' : Below w1.heap.size w1 w2 := (Below.refl w1.heap.size w1).drew.trans b2
          clear b2
          go_wp2_with fail
          clear hHeld
          refine hK.out _ _ ?_ (fun hHeld => ?_)
          . exact ⟨(b2'.cell (p := ⟨wr.heap.size, 0, none⟩) zy).trans y0, (b2'.cell (p := ⟨wr.heap.size, 1, none⟩) zy).trans y1, (b2'.cell (p := ⟨wr.heap.size, 2, none⟩) zy).trans y2, (b2'.cell (p := ⟨wr.heap.size, 3, none⟩) zy).trans y3, (b2'.cell (p := ⟨w.heap.size, 1, none⟩) zx).trans e1, (b2'.cell (p := ⟨w.heap.size, 2, none⟩) zx).trans e2, (b2'.cell (p := ⟨w.heap.size, 4, none⟩) zx).trans e4, (b2'.cell (p := ⟨w.heap.size, 12, none⟩) zx).trans e12⟩
          clear hK K
          refine held_t 2 hHeld ?_
          refine held_t 3 hHeld ?_
          refine held_t 4 hHeld ?_
          refine held_t 5 hHeld ?_
          refine held_t 6 hHeld ?_
          refine held_t 7 hHeld ?_
          refine held_t 8 hHeld ?_
          refine held_one (i := 9) (by kernel_rfl) rfl (by kernel_rfl) (fun K hK => ?_)
          go_simp
          refine (l6Secs_any _ x.n x.s ⟨g3, g4⟩).mono ?_
          rintro e w3 ⟨rfl, b3⟩
          have b3' : Below w1.heap.size w1 w3 := Below.andThen b2' b3
          clear b3
          go_wp2_with fail
          clear hHeld
          refine hK.out _ _ ?_ (fun hHeld => ?_)
          . exact ⟨(b3'.cell (p := ⟨wr.heap.size, 0, none⟩) zy).trans y0, (b3'.cell (p := ⟨wr.heap.size, 1, none⟩) zy).trans y1, (b3'.cell (p := ⟨wr.heap.size, 2, none⟩) zy).trans y2, (b3'.cell (p := ⟨wr.heap.size, 3, none⟩) zy).trans y3, (b3'.cell (p := ⟨w.heap.size, 1, none⟩) zx).trans e1, (b3'.cell (p := ⟨w.heap.size, 2, none⟩) zx).trans e2, (b3'.cell (p := ⟨w.heap.size, 4, none⟩) zx).trans e4, (b3'.cell (p := ⟨w.heap.size, 12, none⟩) zx).trans e12⟩
          clear hK K
          refine held_t 10 hHeld ?_
          refine held_t 11 hHeld ?_
          refine held_t 12 hHeld ?_
          refine held_t 13 hHeld ?_
          refine held_t 14 hHeld ?_
          refine held_t 15 hHeld ?_
          refine held_p 16 hHeld ?_
          refine held_p 17 hHeld ?_
          refine held_p 18 hHeld ?_
          refine held_p 19 hHeld ?_
          refine held_t 20 hHeld ?_
          refine held_t 21 hHeld ?_
          refine held_p 22 hHeld ?_
          refine held_p 23 hHeld ?_
          refine held_p 24 hHeld ?_
          refine held_t 25 hHeld ?_
          refine held_t 26 hHeld ?_
          refine wpAnyH_done (by kernel_rfl) ?_ _
          clear hHeld
          have HB := hidden (B1.trans (b3'.mono B1.size))
          have hat : memAt x j (ss, cs, false, bs) = true := (by unfold memAt; simp [hM, HS.out])
          go_wp2
          go_roundw
          case rel => exact ⟨j + 1, by omega, by go_num, fun q m hq hm' => by
           rcases Nat.lt_or_ge q j with h | h
           . exact hall q m h hm'
           . obtain rfl : q = j := by omega
             rw [HDJ.out] at hm'
             cases hm'
             exact hat, HB.out⟩
          case measure => simp [intOf]; omega
        . by_cases hL : (j : Int) = x.lost
          . have hL1 : ((j : Int) == x.lost) = true := by simpa using hL
            have hL2 : ((j : Int) != x.lost) = false := by simpa using hL
            have HL := hidden hL
            clear hL
            go_wp2_with fail
            generalize wr.alloc (.cells #[.slice a0 ss.length c0, .slice a1 cs.length c1, .bool true, .slice a3 bs.length c3] 87) = w1 at X1 Y1 R0 R1 R3 B1 y0 y1 y2 y3 e1 e2 e4 e12 zy zx ⊢
            refine wp_region_held_drew (S := fun w' => w'.cell? ⟨wr.heap.size, 0, none⟩ = some (.slice a0 ss.length c0) /\ w'.cell? ⟨wr.heap.size, 1, none⟩ = some (.slice a1 cs.length c1) /\ w'.cell? ⟨wr.heap.size, 2, none⟩ = some (.bool true) /\ w'.cell? ⟨wr.heap.size, 3, none⟩ = some (.slice a3 bs.length c3) /\ w'.cell? ⟨w.heap.size, 1, none⟩ = some (.int .i64 x.n) /\ w'.cell? ⟨w.heap.size, 2, none⟩ = some (.int .i64 x.s) /\ w'.cell? ⟨w.heap.size, 4, none⟩ = some (.int .i64 x.lost) /\ w'.cell? ⟨w.heap.size, 12, none⟩ = some (.bool x.broken)) (by kernel_rfl) ?_ (fun hHeld => ?_)
            . exact ⟨y0, y1, y2, y3, e1, e2, e4, e12⟩
            refine held_t 0 hHeld ?_
            refine held_one (i := 1) (by kernel_rfl) rfl (by kernel_rfl) (fun K hK => ?_)
            go_simp
            refine (specMemOk_any _ E _ _ _ _ _ _ _ _ _ ss cs true bs R0.drew R1.drew R3.drew hwm).mono ?_
            rintro e w2 ⟨rfl, b2⟩
            rw [hM]
            have b2' : Below w1.heap.size w1 w2 := (Below.refl w1.heap.size w1).drew.trans b2
            clear b2
            go_wp2_with fail
            clear hHeld
            refine hK.out _ _ ?_ (fun hHeld => ?_)
            . exact ⟨(b2'.cell (p := ⟨wr.heap.size, 0, none⟩) zy).trans y0, (b2'.cell (p := ⟨wr.heap.size, 1, none⟩) zy).trans y1, (b2'.cell (p := ⟨wr.heap.size, 2, none⟩) zy).trans y2, (b2'.cell (p := ⟨wr.heap.size, 3, none⟩) zy).trans y3, (b2'.cell (p := ⟨w.heap.size, 1, none⟩) zx).trans e1, (b2'.cell (p := ⟨w.heap.size, 2, none⟩) zx).trans e2, (b2'.cell (p := ⟨w.heap.size, 4, none⟩) zx).trans e4, (b2'.cell (p := ⟨w.heap.size, 12, none⟩) zx).trans e12⟩
            clear hK K
            refine held_t 2 hHeld ?_
            refine held_t 3 hHeld ?_
            refine held_t 4 hHeld ?_
            refine held_t 5 hHeld ?_
            refine held_t 6 hHeld ?_
            refine held_t 7 hHeld ?_
            refine held_t 8 hHeld ?_
            refine held_one (i := 9) (by kernel_rfl) rfl (by kernel_rfl) (fun K hK => ?_)
            go_simp
            refine (l6Secs_any _ x.n x.s ⟨g3, g4⟩).mono ?_
            rintro e w3 ⟨rfl, b3⟩
            have b3' : Below w1.heap.size w1 w3 := Below.andThen b2' b3
            clear b3
            go_wp2_with fail
            clear hHeld
            refine hK.out _ _ ?_ (fun hHeld => ?_)
            . exact ⟨(b3'.cell (p := ⟨wr.heap.size, 0, none⟩) zy).trans y0, (b3'.cell (p := ⟨wr.heap.size, 1, none⟩) zy).trans y1, (b3'.cell (p := ⟨wr.heap.size, 2, none⟩) zy).trans y2, (b3'.cell (p := ⟨wr.heap.size, 3, none⟩) zy).trans y3, (b3'.cell (p := ⟨w.heap.size, 1, none⟩) zx).trans e1, (b3'.cell (p := ⟨w.heap.size, 2, none⟩) zx).trans e2, (b3'.cell (p := ⟨w.heap.size, 4, none⟩) zx).trans e4, (b3'.cell (p := ⟨w.heap.size, 12, none⟩) zx).trans e12⟩
            clear hK K
            refine held_t 10 hHeld ?_
            refine held_t 11 hHeld ?_
            refine held_t 12 hHeld ?_
            refine held_t 13 hHeld ?_
            refine held_t 14 hHeld ?_
            refine held_t 15 hHeld ?_
            refine held_t 16 hHeld ?_
            refine held_t 17 hHeld ?_
            refine held_t 18 hHeld ?_
            refine held_t 19 hHeld ?_
            refine held_t 20 hHeld ?_
            refine held_t 21 hHeld ?_
            refine held_p 22 hHeld ?_
            refine held_p 23 hHeld ?_
            refine held_p 24 hHeld ?_
            refine held_t 25 hHeld ?_
            refine held_t 26 hHeld ?_
            refine wpAnyH_done (by kernel_rfl) ?_ _
            clear hHeld
            have HB := hidden (B1.trans (b3'.mono B1.size))
            have hat : memAt x j (ss, cs, true, bs) = true := (by unfold memAt; simp [hM, HS.out, HL.out])
            go_wp2
            go_roundw
            case rel => exact ⟨j + 1, by omega, by go_num, fun q m hq hm' => by
             rcases Nat.lt_or_ge q j with h | h
             . exact hall q m h hm'
             . obtain rfl : q = j := by omega
               rw [HDJ.out] at hm'
               cases hm'
               exact hat, HB.out⟩
            case measure => simp [intOf]; omega
          . have hL1 : ((j : Int) == x.lost) = false := by simpa using hL
            have hL2 : ((j : Int) != x.lost) = true := by simpa using hL
            have HL := hidden hL
            clear hL
            cases hBr : x.broken
            . rw [hBr] at e12
              go_wp2_with fail
              generalize wr.alloc (.cells #[.slice a0 ss.length c0, .slice a1 cs.length c1, .bool true, .slice a3 bs.length c3] 87) = w1 at X1 Y1 R0 R1 R3 B1 y0 y1 y2 y3 e1 e2 e4 e12 zy zx ⊢
              refine wp_region_held_drew (S := fun w' => w'.cell? ⟨wr.heap.size, 0, none⟩ = some (.slice a0 ss.length c0) /\ w'.cell? ⟨wr.heap.size, 1, none⟩ = some (.slice a1 cs.length c1) /\ w'.cell? ⟨wr.heap.size, 2, none⟩ = some (.bool true) /\ w'.cell? ⟨wr.heap.size, 3, none⟩ = some (.slice a3 bs.length c3) /\ w'.cell? ⟨w.heap.size, 1, none⟩ = some (.int .i64 x.n) /\ w'.cell? ⟨w.heap.size, 2, none⟩ = some (.int .i64 x.s) /\ w'.cell? ⟨w.heap.size, 4, none⟩ = some (.int .i64 x.lost) /\ w'.cell? ⟨w.heap.size, 12, none⟩ = some (.bool false)) (by kernel_rfl) ?_ (fun hHeld => ?_)
              . exact ⟨y0, y1, y2, y3, e1, e2, e4, e12⟩
              refine held_t 0 hHeld ?_
              refine held_one (i := 1) (by kernel_rfl) rfl (by kernel_rfl) (fun K hK => ?_)
              go_simp
              refine (specMemOk_any _ E _ _ _ _ _ _ _ _ _ ss cs true bs R0.drew R1.drew R3.drew hwm).mono ?_
              rintro e w2 ⟨rfl, b2⟩
              rw [hM]
              have b2' : Below w1.heap.size w1 w2 := (Below.refl w1.heap.size w1).drew.trans b2
              clear b2
              go_wp2_with fail
              clear hHeld
              refine hK.out _ _ ?_ (fun hHeld => ?_)
              . exact ⟨(b2'.cell (p := ⟨wr.heap.size, 0, none⟩) zy).trans y0, (b2'.cell (p := ⟨wr.heap.size, 1, none⟩) zy).trans y1, (b2'.cell (p := ⟨wr.heap.size, 2, none⟩) zy).trans y2, (b2'.cell (p := ⟨wr.heap.size, 3, none⟩) zy).trans y3, (b2'.cell (p := ⟨w.heap.size, 1, none⟩) zx).trans e1, (b2'.cell (p := ⟨w.heap.size, 2, none⟩) zx).trans e2, (b2'.cell (p := ⟨w.heap.size, 4, none⟩) zx).trans e4, (b2'.cell (p := ⟨w.heap.size, 12, none⟩) zx).trans e12⟩
              clear hK K
              refine held_t 2 hHeld ?_
              refine held_t 3 hHeld ?_
              refine held_t 4 hHeld ?_
              refine held_t 5 hHeld ?_
              refine held_t 6 hHeld ?_
              refine held_t 7 hHeld ?_
              refine held_t 8 hHeld ?_
              refine held_one (i := 9) (by kernel_rfl) rfl (by kernel_rfl) (fun K hK => ?_)
              go_simp
              refine (l6Secs_any _ x.n x.s ⟨g3, g4⟩).mono ?_
              rintro e w3 ⟨rfl, b3⟩
              have b3' : Below w1.heap.size w1 w3 := Below.andThen b2' b3
              clear b3
              go_wp2_with fail
              clear hHeld
              refine hK.out _ _ ?_ (fun hHeld => ?_)
              . exact ⟨(b3'.cell (p := ⟨wr.heap.size, 0, none⟩) zy).trans y0, (b3'.cell (p := ⟨wr.heap.size, 1, none⟩) zy).trans y1, (b3'.cell (p := ⟨wr.heap.size, 2, none⟩) zy).trans y2, (b3'.cell (p := ⟨wr.heap.size, 3, none⟩) zy).trans y3, (b3'.cell (p := ⟨w.heap.size, 1, none⟩) zx).trans e1, (b3'.cell (p := ⟨w.heap.size, 2, none⟩) zx).trans e2, (b3'.cell (p := ⟨w.heap.size, 4, none⟩) zx).trans e4, (b3'.cell (p := ⟨w.heap.size, 12, none⟩) zx).trans e12⟩
              clear hK K
              refine held_t 10 hHeld ?_
              refine held_t 11 hHeld ?_
              refine held_t 12 hHeld ?_
              refine held_t 13 hHeld ?_
              refine held_t 14 hHeld ?_
              refine held_t 15 hHeld ?_
              refine held_t 16 hHeld ?_
              refine held_t 17 hHeld ?_
              refine held_t 18 hHeld ?_
              refine held_t 19 hHeld ?_
              refine held_t 20 hHeld ?_
              refine held_t 21 hHeld ?_
              refine held_t 22 hHeld ?_
              refine held_t 23 hHeld ?_
              refine held_t 24 hHeld ?_
              refine held_t 25 hHeld ?_
              refine held_t 26 hHeld ?_
              refine wpAnyH_done (by kernel_rfl) ?_ _
              clear hHeld
              have HB := hidden (hA.trans ((B1.trans (b3'.mono B1.size)).mono hA.size))
              go_wp2
              go_ret
              exact ⟨ret_bool (by rw [show memsB x ms = false from (by unfold memsB; rw [allIx_no HDJ.out (by unfold memAt; simp [HL.out, hBr])]; rfl)]), HB.out⟩
            . rw [hBr] at e12
              go_wp2_with fail
              generalize wr.alloc (.cells #[.slice a0 ss.length c0, .slice a1 cs.length c1, .bool true, .slice a3 bs.length c3] 87) = w1 at X1 Y1 R0 R1 R3 B1 y0 y1 y2 y3 e1 e2 e4 e12 zy zx ⊢
              refine wp_region_held_drew (S := fun w' => w'.cell? ⟨wr.heap.size, 0, none⟩ = some (.slice a0 ss.length c0) /\ w'.cell? ⟨wr.heap.size, 1, none⟩ = some (.slice a1 cs.length c1) /\ w'.cell? ⟨wr.heap.size, 2, none⟩ = some (.bool true) /\ w'.cell? ⟨wr.heap.size, 3, none⟩ = some (.slice a3 bs.length c3) /\ w'.cell? ⟨w.heap.size, 1, none⟩ = some (.int .i64 x.n) /\ w'.cell? ⟨w.heap.size, 2, none⟩ = some (.int .i64 x.s) /\ w'.cell? ⟨w.heap.size, 4, none⟩ = some (.int .i64 x.lost) /\ w'.cell? ⟨w.heap.size, 12, none⟩ = some (.bool true)) (by kernel_rfl) ?_ (fun hHeld => ?_)
              . exact ⟨y0, y1, y2, y3, e1, e2, e4, e12⟩
              refine held_t 0 hHeld ?_
              refine held_one (i := 1) (by kernel_rfl) rfl (by kernel_rfl) (fun K hK => ?_)
              go_simp
              refine (specMemOk_any _ E _ _ _ _ _ _ _ _ _ ss cs true bs R0.drew R1.drew R3.drew hwm).mono ?_
              rintro e w2 ⟨rfl, b2⟩
              rw [hM]
              have b2' : Below w1.heap.size w1 w2 := (Below.refl w1.heap.size w1).drew.trans b2
              clear b2
              go_wp2_with fail
              clear hHeld
              refine hK.out _ _ ?_ (fun hHeld => ?_)
              . exact ⟨(b2'.cell (p := ⟨wr.heap.size, 0, none⟩) zy).trans y0, (b2'.cell (p := ⟨wr.heap.size, 1, none⟩) zy).trans y1, (b2'.cell (p := ⟨wr.heap.size, 2, none⟩) zy).trans y2, (b2'.cell (p := ⟨wr.heap.size, 3, none⟩) zy).trans y3, (b2'.cell (p := ⟨w.heap.size, 1, none⟩) zx).trans e1, (b2'.cell (p := ⟨w.heap.size, 2, none⟩) zx).trans e2, (b2'.cell (p := ⟨w.heap.size, 4, none⟩) zx).trans e4, (b2'.cell (p := ⟨w.heap.size, 12, none⟩) zx).trans e12⟩
              clear hK K
              refine held_t 2 hHeld ?_
              refine held_t 3 hHeld ?_
              refine held_t 4 hHeld ?_
              refine held_t 5 hHeld ?_
              refine held_t 6 hHeld ?_
              refine held_t 7 hHeld ?_
              refine held_t 8 hHeld ?_
              refine held_one (i := 9) (by kernel_rfl) rfl (by kernel_rfl) (fun K hK => ?_)
              go_simp
              refine (l6Secs_any _ x.n x.s ⟨g3, g4⟩).mono ?_
              rintro e w3 ⟨rfl, b3⟩
              have b3' : Below w1.heap.size w1 w3 := Below.andThen b2' b3
              clear b3
              go_wp2_with fail
              clear hHeld
              refine hK.out _ _ ?_ (fun hHeld => ?_)
              . exact ⟨(b3'.cell (p := ⟨wr.heap.size, 0, none⟩) zy).trans y0, (b3'.cell (p := ⟨wr.heap.size, 1, none⟩) zy).trans y1, (b3'.cell (p := ⟨wr.heap.size, 2, none⟩) zy).trans y2, (b3'.cell (p := ⟨wr.heap.size, 3, none⟩) zy).trans y3, (b3'.cell (p := ⟨w.heap.size, 1, none⟩) zx).trans e1, (b3'.cell (p := ⟨w.heap.size, 2, none⟩) zx).trans e2, (b3'.cell (p := ⟨w.heap.size, 4, none⟩) zx).trans e4, (b3'.cell (p := ⟨w.heap.size, 12, none⟩) zx).trans e12⟩
              clear hK K
              refine held_t 10 hHeld ?_
              refine held_t 11 hHeld ?_
              refine held_t 12 hHeld ?_
              refine held_t 13 hHeld ?_
              refine held_t 14 hHeld ?_
              refine held_t 15 hHeld ?_
              refine held_t 16 hHeld ?_
              refine held_t 17 hHeld ?_
              refine held_t 18 hHeld ?_
              refine held_t 19 hHeld ?_
              refine held_t 20 hHeld ?_
              refine held_t 21 hHeld ?_
              refine held_t 22 hHeld ?_
              refine held_t 23 hHeld ?_
              refine held_t 24 hHeld ?_
              refine held_t 25 hHeld ?_
              refine held_t 26 hHeld ?_
              refine wpAnyH_done (by kernel_rfl) ?_ _
              clear hHeld
              have HB := hidden (B1.trans (b3'.mono B1.size))
              have hat : memAt x j (ss, cs, true, bs) = true := (by unfold memAt; simp [hM, HS.out, hBr])
              go_wp2
              go_roundw
              case rel => exact ⟨j + 1, by omega, by go_num, fun q m hq hm' => by
               rcases Nat.lt_or_ge q j with h | h
               . exact hall q m h hm'
               . obtain rfl : q = j := by omega
                 rw [HDJ.out] at hm'
                 cases hm'
                 exact hat, HB.out⟩
              case measure => simp [intOf]; omega
      . have hS1 : ((ss.length : Int) == 6 + x.s) = false := by simpa using hS
        have hS2 : ((ss.length : Int) != 6 + x.s) = true := by simpa using hS
        have HS := hidden hS
        clear hS
        go_wp2_with fail
        generalize wr.alloc (.cells #[.slice a0 ss.length c0, .slice a1 cs.length c1, .bool f, .slice a3 bs.length c3] 87) = w1 at X1 Y1 R0 R1 R3 B1 y0 y1 y2 y3 e1 e2 e4 e12 zy zx ⊢
        refine wp_region_held_drew (S := fun w' => w'.cell? ⟨wr.heap.size, 0, none⟩ = some (.slice a0 ss.length c0) /\ w'.cell? ⟨wr.heap.size, 1, none⟩ = some (.slice a1 cs.length c1) /\ w'.cell? ⟨wr.heap.size, 2, none⟩ = some (.bool f) /\ w'.cell? ⟨wr.heap.size, 3, none⟩ = some (.slice a3 bs.length c3) /\ w'.cell? ⟨w.heap.size, 1, none⟩ = some (.int .i64 x.n) /\ w'.cell? ⟨w.heap.size, 2, none⟩ = some (.int .i64 x.s) /\ w'.cell? ⟨w.heap.size, 4, none⟩ = some (.int .i64 x.lost) /\ w'.cell? ⟨w.heap.size, 12, none⟩ = some (.bool x.broken)) (by kernel_rfl) ?_ (fun hHeld => ?_)
        . exact ⟨y0, y1, y2, y3, e1, e2, e4, e12⟩
        refine held_t 0 hHeld ?_
        refine held_one (i := 1) (by kernel_rfl) rfl (by kernel_rfl) (fun K hK => ?_)
        go_simp
        refine (specMemOk_any _ E _ _ _ _ _ _ _ _ _ ss cs f bs R0.drew R1.drew R3.drew hwm).mono ?_
        rintro e w2 ⟨rfl, b2⟩
        rw [hM]
        have b2' : Below w1.heap.size w1 w2 := (Below.refl w1.heap.size w1).drew.trans b2
        clear b2
        go_wp2_with fail
        clear hHeld
        refine hK.out _ _ ?_ (fun hHeld => ?_)
        . exact ⟨(b2'.cell (p := ⟨wr.heap.size, 0, none⟩) zy).trans y0, (b2'.cell (p := ⟨wr.heap.size, 1, none⟩) zy).trans y1, (b2'.cell (p := ⟨wr.heap.size, 2, none⟩) zy).trans y2, (b2'.cell (p := ⟨wr.heap.size, 3, none⟩) zy).trans y3, (b2'.cell (p := ⟨w.heap.size, 1, none⟩) zx).trans e1, (b2'.cell (p := ⟨w.heap.size, 2, none⟩) zx).trans e2, (b2'.cell (p := ⟨w.heap.size, 4, none⟩) zx).trans e4, (b2'.cell (p := ⟨w.heap.size, 12, none⟩) zx).trans e12⟩
        clear hK K
        refine held_t 2 hHeld ?_
        refine held_t 3 hHeld ?_
        refine held_t 4 hHeld ?_
        refine held_t 5 hHeld ?_
        refine held_t 6 hHeld ?_
        refine held_t 7 hHeld ?_
        refine held_t 8 hHeld ?_
        refine held_one (i := 9) (by kernel_rfl) rfl (by kernel_rfl) (fun K hK => ?_)
        go_simp
        refine (l6Secs_any _ x.n x.s ⟨g3, g4⟩).mono ?_
        rintro e w3 ⟨rfl, b3⟩
        have b3' : Below w1.heap.size w1 w3 := Below.andThen b2' b3
        clear b3
        go_wp2_with fail
        clear hHeld
        refine hK.out _ _ ?_ (fun hHeld => ?_)
        . exact ⟨(b3'.cell (p := ⟨wr.heap.size, 0, none⟩) zy).trans y0, (b3'.cell (p := ⟨wr.heap.size, 1, none⟩) zy).trans y1, (b3'.cell (p := ⟨wr.heap.size, 2, none⟩) zy).trans y2, (b3'.cell (p := ⟨wr.heap.size, 3, none⟩) zy).trans y3, (b3'.cell (p := ⟨w.heap.size, 1, none⟩) zx).trans e1, (b3'.cell (p := ⟨w.heap.size, 2, none⟩) zx).trans e2, (b3'.cell (p := ⟨w.heap.size, 4, none⟩) zx).trans e4, (b3'.cell (p := ⟨w.heap.size, 12, none⟩) zx).trans e12⟩
        clear hK K
        refine held_t 10 hHeld ?_
        refine held_t 11 hHeld ?_
        refine held_t 12 hHeld ?_
        refine held_p 13 hHeld ?_
        refine held_p 14 hHeld ?_
        refine held_p 15 hHeld ?_
        refine held_p 16 hHeld ?_
        refine held_p 17 hHeld ?_
        refine held_p 18 hHeld ?_
        refine held_p 19 hHeld ?_
        refine held_p 20 hHeld ?_
        refine held_p 21 hHeld ?_
        refine held_p 22 hHeld ?_
        refine held_p 23 hHeld ?_
        refine held_p 24 hHeld ?_
        refine held_p 25 hHeld ?_
        refine held_t 26 hHeld ?_
        refine wpAnyH_done (by kernel_rfl) ?_ _
        clear hHeld
        have HB := hidden (hA.trans ((B1.trans (b3'.mono B1.size)).mono hA.size))
        go_wp2
        go_ret
        exact ⟨ret_bool (by rw [show memsB x ms = false from (by unfold memsB; rw [allIx_no HDJ.out (by unfold memAt; simp [HS.out])]; rfl)]), HB.out⟩
  . have e : j = nm := by omega
    subst e
    have hAll : allIx (memAt x) ms = true := allIx_iff.2 (fun q m hq => hall q m (by have := (List.getElem?_eq_some_iff.1 hq).1; omega) hq)
    have HB := hidden (hA.trans (hb.mono hA.size))
    have hR : memsB x ms = ((j : Int) == x.n) := by unfold memsB; rw [hAll, hl]; simp [BEq.beq]
    go_wp2
    go_ret
    exact ⟨ret_bool hR.symm, HB.out⟩

theorem entsB_no {x : ArrN} {ds : List (Int × List Int)} {i : Nat} {d : Int × List Int} (hx : ds[i]? = some d) (h : entAt x ds i d = false) : entsB x ds = false := allIx_no hx h
theorem entAt_1 {x : ArrN} {ds : List (Int × List Int)} {i : Nat} {y : Int} {zs : List Int} (h : inB y 0 (x.s - 1) = false) : entAt x ds i (y, zs) = false := by unfold entAt; rw [h]; rfl
theorem entAt_2 {x : ArrN} {ds : List (Int × List Int)} {i : Nat} {y : Int} {zs : List Int} (h : ¬ (zs.length : Int) = x.n - 1) : entAt x ds i (y, zs) = false := by unfold entAt; simp [h]
theorem entAt_3 {x : ArrN} {ds : List (Int × List Int)} {i : Nat} {y : Int} {zs : List Int} (h : allW zs = false) : entAt x ds i (y, zs) = false := by unfold entAt; simp [h]
theorem entAt_4 {x : ArrN} {ds : List (Int × List Int)} {y : Int} {zs : List Int} (h1 : inB y 0 (x.s - 1) = true) (h2 : (zs.length : Int) = x.n - 1) (h3 : allW zs = true) : entAt x ds 0 (y, zs) = true := by unfold entAt; simp [h1, h2, h3]
theorem entAt_5 {x : ArrN} {ds : List (Int × List Int)} {p : Nat} {y : Int} {zs : List Int} {q : Int × List Int} (h1 : inB y 0 (x.s - 1) = true) (h2 : (zs.length : Int) = x.n - 1) (h3 : allW zs = true) (hq : ds[p]? = some q) : entAt x ds (p + 1) (y, zs) = decide (q.1 < y) := by
 unfold entAt
 rw [h1, h3]
 have : ds.getD (p + 1 - 1) (0, []) = q := by rw [Nat.add_sub_cancel, List.getD_eq_getElem?_getD, hq]; rfl
 simp only [h2, decide_true, Bool.true_and, this]
 simp

theorem l6Dirty_any (w : World) (G : TypeId) (x : ArrN) (am ad : Option Addr) (nm cm nd cd : Nat) (ds : List (Int × List Int)) (h0 : (tWrS G).Rd w [.slice ad nd cd] ds) (hw : wtWrS ds <= 2097152) (hg : geoB x.n x.s = true) :
 Calls Tryz.prog 94 #[.agg #[.int .i64 x.id, .int .i64 x.n, .int .i64 x.s, .slice am nm cm, .int .i64 x.lost, .int .i64 x.built, .int .i64 x.seq, .int .i64 x.tail, .int .i64 x.gen, .slice ad nd cd, .int .i64 x.fuse, .bool x.down, .bool x.broken]] w fun e w' => e = .returned (.bool (entsB x ds)) /\ Below w.heap.size w w' := by
 obtain ⟨hl, hc, hm⟩ := row_length h0
 obtain ⟨g1, g2, g3, g4⟩ := geoB_iff.1 hg
 have hA := new_below w (.cells #[.int .i64 x.id, .int .i64 x.n, .int .i64 x.s, .slice am nm cm, .int .i64 x.lost, .int .i64 x.built, .int .i64 x.seq, .int .i64 x.tail, .int .i64 x.gen, .slice ad nd cd, .int .i64 x.fuse, .bool x.down, .bool x.broken] 35)
 have X := Box.new w 35 #[.int .i64 x.id, .int .i64 x.n, .int .i64 x.s, .slice am nm cm, .int .i64 x.lost, .int .i64 x.built, .int .i64 x.seq, .int .i64 x.tail, .int .i64 x.gen, .slice ad nd cd, .int .i64 x.fuse, .bool x.down, .bool x.broken]
 have zA := X.lt
 have hnd : nd <= 2097152 := by unfold wtWrS at hw; omega
 have h1 := h0.below hA
 have hws : IntKind.i64.wrap (x.s - 1) = x.s - 1 := IntWalk.i64_in _ (by omega)
 have hwn : IntKind.i64.wrap (x.n - 1) = x.n - 1 := IntWalk.i64_in _ (by omega)
 go_enter Tryz.func94, Tryz.ntmps94
 go_wp2
 generalize w.alloc (.cells #[.int .i64 x.id, .int .i64 x.n, .int .i64 x.s, .slice am nm cm, .int .i64 x.lost, .int .i64 x.built, .int .i64 x.seq, .int .i64 x.tail, .int .i64 x.gen, .slice ad nd cd, .int .i64 x.fuse, .bool x.down, .bool x.broken] 35) = W at hA X zA h1 ⊢
 go_loopw [3] (fun i wr => ∃ j : Nat, j <= nd /\ i = .int .i64 j /\ (∀ (q : Nat) (d : Int × List Int), q < j -> ds[q]? = some d -> entAt x ds q d = true) /\ Below W.heap.size W wr) (fun i _ => nd - (intOf i).toNat)
 case atStart => exact ⟨0, Nat.zero_le _, rfl, fun q d hq => by omega, Below.refl _ _⟩
 case round =>
  obtain ⟨j, hj, rfl, hall, hb⟩ := hrel
  have Xr := X.below hb zA
  obtain ⟨k0, k1, k2, k3, k4, k5, k6, k7, k8, k9, k10, k11, k12⟩ := Xr.cells13
  by_cases hjn : j < nd
  . rcases pairs_at rfl h1 with h0' | ⟨b, off, rfl, hbl, hcs⟩
    . omega
    have hdj : ds[j]? = some (ds[j]'(by omega)) := List.getElem?_eq_getElem (by omega)
    generalize ds[j]'(by omega) = d at hdj
    obtain ⟨v0, v1, hv0, hv1, hrv⟩ := hcs j d hdj
    obtain ⟨rfl, hrw⟩ := wr_rd hrv
    obtain ⟨av, cv, rfl⟩ := row_shape hrw
    obtain ⟨y, zs⟩ := d
    simp only at hv0 hv1 hrw hrv
    have u0 := (hb.cell (p := ⟨b, off + j * 2, none⟩) hbl).trans hv0
    have u1 := (hb.cell (p := ⟨b, off + j * 2 + 1, none⟩) hbl).trans hv1
    have i1 : (0 : Int) <= (j : Int) := by omega
    have i2 : (j : Int) < (nd : Int) := by omega
    have hwz : zs.length <= 2097152 := Nat.le_trans (inner_le' hdj) hw
    have HDJ := hidden hdj
    have b1 := new_below wr (.cells #[.int .i64 y, .slice av zs.length cv] 65)
    have Y1 := Box.new wr 65 #[.int .i64 y, .slice av zs.length cv]
    have X1 := Xr.below b1 Xr.lt
    have RZ := (ints_rd ((hrw.below hb).below b1)).1
    have B1 := hb.trans (b1.mono hb.size)
    obtain ⟨y0, y1⟩ := Y1.cells2
    obtain ⟨e0, e1, e2, e3, e4, e5, e6, e7, e8, e9, e10, e11, e12⟩ := X1.cells13
    have hq : ∀ (p : Nat) (q : Int × List Int), ds[p]? = some q -> (wr.alloc (.cells #[.int .i64 y, .slice av zs.length cv] 65)).cell? ⟨b, off + p * 2, none⟩ = some (.int .i64 q.1) := fun p q hpq => by
     obtain ⟨c0, c1, hc0, hc1, hrc⟩ := hcs p q hpq
     obtain ⟨rfl, _⟩ := wr_rd hrc
     exact (B1.cell (p := ⟨b, off + p * 2, none⟩) hbl).trans hc0
    have HQ := hidden hq
    clear hcs hv0 hv1 hrv hrw hdj hq b1 e0 e3 e4 e5 e6 e7 e8 e10 e11 e12
    cases hI : inB y 0 (x.s - 1)
    . skip
      go_wp2_with fail
      generalize wr.alloc (.cells #[.int .i64 y, .slice av zs.length cv] 65) = w1 at X1 Y1 RZ B1 y0 y1 e1 e2 e9 HQ ⊢
      refine wp_region_held_drew (S := fun w' => w'.cell? ⟨wr.heap.size, 0, none⟩ = some (.int .i64 y) /\ w'.cell? ⟨wr.heap.size, 1, none⟩ = some (.slice av zs.length cv) /\ w'.cell? ⟨w.heap.size, 1, none⟩ = some (.int .i64 x.n) /\ w'.cell? ⟨w.heap.size, 2, none⟩ = some (.int .i64 x.s) /\ w'.cell? ⟨w.heap.size, 9, none⟩ = some (.slice (some ⟨b, off, none⟩) nd cd)) (by kernel_rfl) ?_ (fun hHeld => ?_)
      . exact ⟨y0, y1, e1, e2, e9⟩
      refine held_t 0 hHeld ?_
      refine held_t 1 hHeld ?_
      refine held_t 2 hHeld ?_
      refine held_t 3 hHeld ?_
      refine held_t 4 hHeld ?_
      refine held_t 5 hHeld ?_
      refine held_one (i := 6) (by kernel_rfl) rfl (by kernel_rfl) (fun K hK => ?_)
      go_simp
      refine (l1In_any _ _ _ _).mono ?_
      rintro e w2 ⟨rfl, hw2⟩
      subst hw2
      rw [hI]
      go_wp2_with fail
      clear hHeld
      refine hK.out _ _ ?_ (fun hHeld => ?_)
      . exact ⟨y0, y1, e1, e2, e9⟩
      clear hK K
      refine held_t 7 hHeld ?_
      refine held_t 8 hHeld ?_
      refine held_p 9 hHeld ?_
      refine held_p 10 hHeld ?_
      refine held_p 11 hHeld ?_
      refine held_p 12 hHeld ?_
      refine held_p 13 hHeld ?_
      refine held_p 14 hHeld ?_
      refine held_p 15 hHeld ?_
      refine held_p 16 hHeld ?_
      refine held_t 17 hHeld ?_
      refine held_t 18 hHeld ?_
      refine held_p 19 hHeld ?_
      refine held_p 20 hHeld ?_
      refine held_none (i := 21) (by kernel_rfl) rfl (by kernel_rfl) hHeld ?_
      simp only [Act.put, List.setIfInBounds_toArray, List.set_cons_zero, List.set_cons_succ]
      refine held_p 22 hHeld ?_
      refine held_t 23 hHeld ?_
      refine held_t 24 hHeld ?_
      refine held_p 25 hHeld ?_
      refine held_p 26 hHeld ?_
      refine held_p 27 hHeld ?_
      refine held_p 28 hHeld ?_
      refine held_p 29 hHeld ?_
      refine held_p 30 hHeld ?_
      refine held_p 31 hHeld ?_
      refine held_p 32 hHeld ?_
      refine held_p 33 hHeld ?_
      refine held_p 34 hHeld ?_
      refine held_p 35 hHeld ?_
      refine held_p 36 hHeld ?_
      refine held_p 37 hHeld ?_
      refine held_p 38 hHeld ?_
      refine held_t 39 hHeld ?_
      refine wpAnyH_done (by kernel_rfl) ?_ _
      clear hHeld
      have HB := hidden (hA.trans (B1.drew.mono hA.size))
      have HE := hidden (entsB_no (x := x) HDJ.out (entAt_1 hI))
      go_wp2
      go_ret
      exact ⟨ret_bool HE.out.symm, HB.out⟩
    . by_cases hL : (zs.length : Int) = x.n - 1
      . have hL1 : ((zs.length : Int) == x.n - 1) = true := by simpa using hL
        have hL2 : ((zs.length : Int) != x.n - 1) = false := by simpa using hL
        have HL := hidden hL
        clear hL
        cases hZ : allW zs
        . skip
          go_wp2_with fail
          generalize wr.alloc (.cells #[.int .i64 y, .slice av zs.length cv] 65) = w1 at X1 Y1 RZ B1 y0 y1 e1 e2 e9 HQ ⊢
          refine wp_region_held_drew (S := fun w' => w'.cell? ⟨wr.heap.size, 0, none⟩ = some (.int .i64 y) /\ w'.cell? ⟨wr.heap.size, 1, none⟩ = some (.slice av zs.length cv) /\ w'.cell? ⟨w.heap.size, 1, none⟩ = some (.int .i64 x.n) /\ w'.cell? ⟨w.heap.size, 2, none⟩ = some (.int .i64 x.s) /\ w'.cell? ⟨w.heap.size, 9, none⟩ = some (.slice (some ⟨b, off, none⟩) nd cd)) (by kernel_rfl) ?_ (fun hHeld => ?_)
          . exact ⟨y0, y1, e1, e2, e9⟩
          refine held_t 0 hHeld ?_
          refine held_t 1 hHeld ?_
          refine held_t 2 hHeld ?_
          refine held_t 3 hHeld ?_
          refine held_t 4 hHeld ?_
          refine held_t 5 hHeld ?_
          refine held_one (i := 6) (by kernel_rfl) rfl (by kernel_rfl) (fun K hK => ?_)
          go_simp
          refine (l1In_any _ _ _ _).mono ?_
          rintro e w2 ⟨rfl, hw2⟩
          subst hw2
          rw [hI]
          go_wp2_with fail
          clear hHeld
          refine hK.out _ _ ?_ (fun hHeld => ?_)
          . exact ⟨y0, y1, e1, e2, e9⟩
          clear hK K
          refine held_t 7 hHeld ?_
          refine held_t 8 hHeld ?_
          refine held_t 9 hHeld ?_
          refine held_t 10 hHeld ?_
          refine held_t 11 hHeld ?_
          refine held_t 12 hHeld ?_
          refine held_t 13 hHeld ?_
          refine held_t 14 hHeld ?_
          refine held_t 15 hHeld ?_
          refine held_t 16 hHeld ?_
          refine held_t 17 hHeld ?_
          refine held_t 18 hHeld ?_
          refine held_t 19 hHeld ?_
          refine held_t 20 hHeld ?_
          refine held_one (i := 21) (by kernel_rfl) rfl (by kernel_rfl) (fun K hK => ?_)
          go_simp
          refine (l1Words_any _ _ _ _ zs rfl RZ.draw hwz).mono ?_
          rintro e w2 ⟨rfl, hw2⟩
          subst hw2
          rw [hZ]
          go_wp2_with fail
          clear hHeld
          refine hK.out _ _ ?_ (fun hHeld => ?_)
          . exact ⟨y0, y1, e1, e2, e9⟩
          clear hK K
          refine held_t 22 hHeld ?_
          refine held_t 23 hHeld ?_
          refine held_t 24 hHeld ?_
          refine held_p 25 hHeld ?_
          refine held_p 26 hHeld ?_
          refine held_p 27 hHeld ?_
          refine held_p 28 hHeld ?_
          refine held_p 29 hHeld ?_
          refine held_p 30 hHeld ?_
          refine held_p 31 hHeld ?_
          refine held_p 32 hHeld ?_
          refine held_p 33 hHeld ?_
          refine held_p 34 hHeld ?_
          refine held_p 35 hHeld ?_
          refine held_p 36 hHeld ?_
          refine held_p 37 hHeld ?_
          refine held_p 38 hHeld ?_
          refine held_t 39 hHeld ?_
          refine wpAnyH_done (by kernel_rfl) ?_ _
          clear hHeld
          have HB := hidden (hA.trans (B1.drew.mono hA.size))
          have HE := hidden (entsB_no (x := x) HDJ.out (entAt_3 hZ))
          go_wp2
          go_ret
          exact ⟨ret_bool HE.out.symm, HB.out⟩
        . by_cases hj0 : j = 0
          . subst hj0
            simp only [Nat.zero_mul, Nat.add_zero] at u0 u1
            go_wp2_with fail
            generalize wr.alloc (.cells #[.int .i64 y, .slice av zs.length cv] 65) = w1 at X1 Y1 RZ B1 y0 y1 e1 e2 e9 HQ ⊢
            refine wp_region_held_drew (S := fun w' => w'.cell? ⟨wr.heap.size, 0, none⟩ = some (.int .i64 y) /\ w'.cell? ⟨wr.heap.size, 1, none⟩ = some (.slice av zs.length cv) /\ w'.cell? ⟨w.heap.size, 1, none⟩ = some (.int .i64 x.n) /\ w'.cell? ⟨w.heap.size, 2, none⟩ = some (.int .i64 x.s) /\ w'.cell? ⟨w.heap.size, 9, none⟩ = some (.slice (some ⟨b, off, none⟩) nd cd)) (by kernel_rfl) ?_ (fun hHeld => ?_)
            . exact ⟨y0, y1, e1, e2, e9⟩
            refine held_t 0 hHeld ?_
            refine held_t 1 hHeld ?_
            refine held_t 2 hHeld ?_
            refine held_t 3 hHeld ?_
            refine held_t 4 hHeld ?_
            refine held_t 5 hHeld ?_
            refine held_one (i := 6) (by kernel_rfl) rfl (by kernel_rfl) (fun K hK => ?_)
            go_simp
            refine (l1In_any _ _ _ _).mono ?_
            rintro e w2 ⟨rfl, hw2⟩
            subst hw2
            rw [hI]
            go_wp2_with fail
            clear hHeld
            refine hK.out _ _ ?_ (fun hHeld => ?_)
            . exact ⟨y0, y1, e1, e2, e9⟩
            clear hK K
            refine held_t 7 hHeld ?_
            refine held_t 8 hHeld ?_
            refine held_t 9 hHeld ?_
            refine held_t 10 hHeld ?_
            refine held_t 11 hHeld ?_
            refine held_t 12 hHeld ?_
            refine held_t 13 hHeld ?_
            refine held_t 14 hHeld ?_
            refine held_t 15 hHeld ?_
            refine held_t 16 hHeld ?_
            refine held_t 17 hHeld ?_
            refine held_t 18 hHeld ?_
            refine held_t 19 hHeld ?_
            refine held_t 20 hHeld ?_
            refine held_one (i := 21) (by kernel_rfl) rfl (by kernel_rfl) (fun K hK => ?_)
            go_simp
            refine (l1Words_any _ _ _ _ zs rfl RZ.draw hwz).mono ?_
            rintro e w2 ⟨rfl, hw2⟩
            subst hw2
            rw [hZ]
            go_wp2_with fail
            clear hHeld
            refine hK.out _ _ ?_ (fun hHeld => ?_)
            . exact ⟨y0, y1, e1, e2, e9⟩
            clear hK K
            refine held_t 22 hHeld ?_
            refine held_t 23 hHeld ?_
            refine held_t 24 hHeld ?_
            refine held_t 25 hHeld ?_
            refine held_t 26 hHeld ?_
            refine held_t 27 hHeld ?_
            refine held_p 28 hHeld ?_
            refine held_p 29 hHeld ?_
            refine held_p 30 hHeld ?_
            refine held_p 31 hHeld ?_
            refine held_p 32 hHeld ?_
            refine held_p 33 hHeld ?_
            refine held_p 34 hHeld ?_
            refine held_p 35 hHeld ?_
            refine held_p 36 hHeld ?_
            refine held_p 37 hHeld ?_
            refine held_t 38 hHeld ?_
            refine held_t 39 hHeld ?_
            refine wpAnyH_done (by kernel_rfl) ?_ _
            clear hHeld
            have HB := hidden B1.drew
            have hat : entAt x ds (0) (y, zs) = true := entAt_4 hI HL.out hZ
            go_wp2
            go_roundw
            case rel => exact ⟨0 + 1, by omega, by go_num, fun q d hq hm' => by
             rcases Nat.lt_or_ge q (0) with h | h
             . exact hall q d h hm'
             . obtain rfl : q = 0 := by omega
               rw [HDJ.out] at hm'
               cases hm'
               exact hat, HB.out⟩
            case measure => simp [intOf]; omega
          . obtain ⟨p, rfl⟩ : ∃ p, j = p + 1 := ⟨j - 1, by omega⟩
            have hpq : ds[p]? = some (ds[p]'(by omega)) := List.getElem?_eq_getElem (by omega)
            generalize ds[p]'(by omega) = q at hpq
            have hE := entAt_5 hI HL.out hZ hpq
            have qc := HQ.out p q hpq
            obtain ⟨s, zq⟩ := q
            simp only at qc hE
            have HE5 := hidden hE
            clear hpq hE
            have j1 : IntKind.i64.wrap (((p + 1 : Nat) : Int) - 1) = (p : Int) := by rw [IntWalk.i64_in _ (by omega)]; omega
            have j2 : IntKind.i64.wrap ((p : Int) + 1 - 1) = (p : Int) := by rw [IntWalk.i64_in _ (by omega)]; omega
            have j3 : IntKind.i64.wrap (p : Int) = (p : Int) := IntWalk.i64_in _ (by omega)
            have j4 : (0 : Int) <= (p : Int) := by omega
            have j5 : (p : Int) < (nd : Int) := by omega
            have j6 : (0 : Int) < ((p + 1 : Nat) : Int) := by omega
            by_cases hlt : s < y
            . have hd1 : decide (s < y) = true := by simpa using hlt
              have hge : ¬ y <= s := by omega
              go_wp2_with fail
              generalize wr.alloc (.cells #[.int .i64 y, .slice av zs.length cv] 65) = w1 at X1 Y1 RZ B1 y0 y1 e1 e2 e9 HQ qc ⊢
              refine wp_region_held_drew (S := fun w' => w'.cell? ⟨wr.heap.size, 0, none⟩ = some (.int .i64 y) /\ w'.cell? ⟨wr.heap.size, 1, none⟩ = some (.slice av zs.length cv) /\ w'.cell? ⟨w.heap.size, 1, none⟩ = some (.int .i64 x.n) /\ w'.cell? ⟨w.heap.size, 2, none⟩ = some (.int .i64 x.s) /\ w'.cell? ⟨w.heap.size, 9, none⟩ = some (.slice (some ⟨b, off, none⟩) nd cd) /\ w'.cell? ⟨b, off + p * 2, none⟩ = some (.int .i64 s)) (by kernel_rfl) ?_ (fun hHeld => ?_)
              . exact ⟨y0, y1, e1, e2, e9, qc⟩
              refine held_t 0 hHeld ?_
              refine held_t 1 hHeld ?_
              refine held_t 2 hHeld ?_
              refine held_t 3 hHeld ?_
              refine held_t 4 hHeld ?_
              refine held_t 5 hHeld ?_
              refine held_one (i := 6) (by kernel_rfl) rfl (by kernel_rfl) (fun K hK => ?_)
              go_simp
              refine (l1In_any _ _ _ _).mono ?_
              rintro e w2 ⟨rfl, hw2⟩
              subst hw2
              rw [hI]
              go_wp2_with fail
              clear hHeld
              refine hK.out _ _ ?_ (fun hHeld => ?_)
              . exact ⟨y0, y1, e1, e2, e9, qc⟩
              clear hK K
              refine held_t 7 hHeld ?_
              refine held_t 8 hHeld ?_
              refine held_t 9 hHeld ?_
              refine held_t 10 hHeld ?_
              refine held_t 11 hHeld ?_
              refine held_t 12 hHeld ?_
              refine held_t 13 hHeld ?_
              refine held_t 14 hHeld ?_
              refine held_t 15 hHeld ?_
              refine held_t 16 hHeld ?_
              refine held_t 17 hHeld ?_
              refine held_t 18 hHeld ?_
              refine held_t 19 hHeld ?_
              refine held_t 20 hHeld ?_
              refine held_one (i := 21) (by kernel_rfl) rfl (by kernel_rfl) (fun K hK => ?_)
              go_simp
              refine (l1Words_any _ _ _ _ zs rfl RZ.draw hwz).mono ?_
              rintro e w2 ⟨rfl, hw2⟩
              subst hw2
              rw [hZ]
              go_wp2_with fail
              clear hHeld
              refine hK.out _ _ ?_ (fun hHeld => ?_)
              . exact ⟨y0, y1, e1, e2, e9, qc⟩
              clear hK K
              refine held_t 22 hHeld ?_
              refine held_t 23 hHeld ?_
              refine held_t 24 hHeld ?_
              refine held_t 25 hHeld ?_
              refine held_t 26 hHeld ?_
              refine held_t 27 hHeld ?_
              refine held_t 28 hHeld ?_
              refine held_t 29 hHeld ?_
              refine held_t 30 hHeld ?_
              refine held_t 31 hHeld ?_
              refine held_t 32 hHeld ?_
              refine held_t 33 hHeld ?_
              refine held_t 34 hHeld ?_
              refine held_t 35 hHeld ?_
              refine held_t 36 hHeld ?_
              refine held_t 37 hHeld ?_
              refine held_t 38 hHeld ?_
              refine held_t 39 hHeld ?_
              refine wpAnyH_done (by kernel_rfl) ?_ _
              clear hHeld
              have HB := hidden B1.drew
              have hat : entAt x ds (p + 1) (y, zs) = true := HE5.out.trans hd1
              go_wp2
              go_roundw
              case rel => exact ⟨p + 1 + 1, by omega, by go_num, fun q d hq hm' => by
               rcases Nat.lt_or_ge q (p + 1) with h | h
               . exact hall q d h hm'
               . obtain rfl : q = p + 1 := by omega
                 rw [HDJ.out] at hm'
                 cases hm'
                 exact hat, HB.out⟩
              case measure => simp [intOf]; omega
            . have hd1 : decide (s < y) = false := by simpa using hlt
              have hge : y <= s := by omega
              go_wp2_with fail
              generalize wr.alloc (.cells #[.int .i64 y, .slice av zs.length cv] 65) = w1 at X1 Y1 RZ B1 y0 y1 e1 e2 e9 HQ qc ⊢
              refine wp_region_held_drew (S := fun w' => w'.cell? ⟨wr.heap.size, 0, none⟩ = some (.int .i64 y) /\ w'.cell? ⟨wr.heap.size, 1, none⟩ = some (.slice av zs.length cv) /\ w'.cell? ⟨w.heap.size, 1, none⟩ = some (.int .i64 x.n) /\ w'.cell? ⟨w.heap.size, 2, none⟩ = some (.int .i64 x.s) /\ w'.cell? ⟨w.heap.size, 9, none⟩ = some (.slice (some ⟨b, off, none⟩) nd cd) /\ w'.cell? ⟨b, off + p * 2, none⟩ = some (.int .i64 s)) (by kernel_rfl) ?_ (fun hHeld => ?_)
              . exact ⟨y0, y1, e1, e2, e9, qc⟩
              refine held_t 0 hHeld ?_
              refine held_t 1 hHeld ?_
              refine held_t 2 hHeld ?_
              refine held_t 3 hHeld ?_
              refine held_t 4 hHeld ?_
              refine held_t 5 hHeld ?_
              refine held_one (i := 6) (by kernel_rfl) rfl (by kernel_rfl) (fun K hK => ?_)
              go_simp
              refine (l1In_any _ _ _ _).mono ?_
              rintro e w2 ⟨rfl, hw2⟩
              subst hw2
              rw [hI]
              go_wp2_with fail
              clear hHeld
              refine hK.out _ _ ?_ (fun hHeld => ?_)
              . exact ⟨y0, y1, e1, e2, e9, qc⟩
              clear hK K
              refine held_t 7 hHeld ?_
              refine held_t 8 hHeld ?_
              refine held_t 9 hHeld ?_
              refine held_t 10 hHeld ?_
              refine held_t 11 hHeld ?_
              refine held_t 12 hHeld ?_
              refine held_t 13 hHeld ?_
              refine held_t 14 hHeld ?_
              refine held_t 15 hHeld ?_
              refine held_t 16 hHeld ?_
              refine held_t 17 hHeld ?_
              refine held_t 18 hHeld ?_
              refine held_t 19 hHeld ?_
              refine held_t 20 hHeld ?_
              refine held_one (i := 21) (by kernel_rfl) rfl (by kernel_rfl) (fun K hK => ?_)
              go_simp
              refine (l1Words_any _ _ _ _ zs rfl RZ.draw hwz).mono ?_
              rintro e w2 ⟨rfl, hw2⟩
              subst hw2
              rw [hZ]
              go_wp2_with fail
              clear hHeld
              refine hK.out _ _ ?_ (fun hHeld => ?_)
              . exact ⟨y0, y1, e1, e2, e9, qc⟩
              clear hK K
              refine held_t 22 hHeld ?_
              refine held_t 23 hHeld ?_
              refine held_t 24 hHeld ?_
              refine held_t 25 hHeld ?_
              refine held_t 26 hHeld ?_
              refine held_t 27 hHeld ?_
              refine held_t 28 hHeld ?_
              refine held_t 29 hHeld ?_
              refine held_t 30 hHeld ?_
              refine held_t 31 hHeld ?_
              refine held_t 32 hHeld ?_
              refine held_t 33 hHeld ?_
              refine held_t 34 hHeld ?_
              refine held_t 35 hHeld ?_
              refine held_t 36 hHeld ?_
              refine held_t 37 hHeld ?_
              refine held_t 38 hHeld ?_
              refine held_t 39 hHeld ?_
              refine wpAnyH_done (by kernel_rfl) ?_ _
              clear hHeld
              have HB := hidden (hA.trans (B1.drew.mono hA.size))
              have HE := hidden (entsB_no (x := x) HDJ.out (HE5.out.trans hd1))
              go_wp2
              go_ret
              exact ⟨ret_bool HE.out.symm, HB.out⟩
      . have hL1 : ((zs.length : Int) == x.n - 1) = false := by simpa using hL
        have hL2 : ((zs.length : Int) != x.n - 1) = true := by simpa using hL
        have HL := hidden hL
        clear hL
        go_wp2_with fail
        generalize wr.alloc (.cells #[.int .i64 y, .slice av zs.length cv] 65) = w1 at X1 Y1 RZ B1 y0 y1 e1 e2 e9 HQ ⊢
        refine wp_region_held_drew (S := fun w' => w'.cell? ⟨wr.heap.size, 0, none⟩ = some (.int .i64 y) /\ w'.cell? ⟨wr.heap.size, 1, none⟩ = some (.slice av zs.length cv) /\ w'.cell? ⟨w.heap.size, 1, none⟩ = some (.int .i64 x.n) /\ w'.cell? ⟨w.heap.size, 2, none⟩ = some (.int .i64 x.s) /\ w'.cell? ⟨w.heap.size, 9, none⟩ = some (.slice (some ⟨b, off, none⟩) nd cd)) (by kernel_rfl) ?_ (fun hHeld => ?_)
        . exact ⟨y0, y1, e1, e2, e9⟩
        refine held_t 0 hHeld ?_
        refine held_t 1 hHeld ?_
        refine held_t 2 hHeld ?_
        refine held_t 3 hHeld ?_
        refine held_t 4 hHeld ?_
        refine held_t 5 hHeld ?_
        refine held_one (i := 6) (by kernel_rfl) rfl (by kernel_rfl) (fun K hK => ?_)
        go_simp
        refine (l1In_any _ _ _ _).mono ?_
        rintro e w2 ⟨rfl, hw2⟩
        subst hw2
        rw [hI]
        go_wp2_with fail
        clear hHeld
        refine hK.out _ _ ?_ (fun hHeld => ?_)
        . exact ⟨y0, y1, e1, e2, e9⟩
        clear hK K
        refine held_t 7 hHeld ?_
        refine held_t 8 hHeld ?_
        refine held_t 9 hHeld ?_
        refine held_t 10 hHeld ?_
        refine held_t 11 hHeld ?_
        refine held_t 12 hHeld ?_
        refine held_t 13 hHeld ?_
        refine held_t 14 hHeld ?_
        refine held_t 15 hHeld ?_
        refine held_t 16 hHeld ?_
        refine held_t 17 hHeld ?_
        refine held_t 18 hHeld ?_
        refine held_p 19 hHeld ?_
        refine held_p 20 hHeld ?_
        refine held_none (i := 21) (by kernel_rfl) rfl (by kernel_rfl) hHeld ?_
        simp only [Act.put, List.setIfInBounds_toArray, List.set_cons_zero, List.set_cons_succ]
        refine held_p 22 hHeld ?_
        refine held_t 23 hHeld ?_
        refine held_t 24 hHeld ?_
        refine held_p 25 hHeld ?_
        refine held_p 26 hHeld ?_
        refine held_p 27 hHeld ?_
        refine held_p 28 hHeld ?_
        refine held_p 29 hHeld ?_
        refine held_p 30 hHeld ?_
        refine held_p 31 hHeld ?_
        refine held_p 32 hHeld ?_
        refine held_p 33 hHeld ?_
        refine held_p 34 hHeld ?_
        refine held_p 35 hHeld ?_
        refine held_p 36 hHeld ?_
        refine held_p 37 hHeld ?_
        refine held_p 38 hHeld ?_
        refine held_t 39 hHeld ?_
        refine wpAnyH_done (by kernel_rfl) ?_ _
        clear hHeld
        have HB := hidden (hA.trans (B1.drew.mono hA.size))
        have HE := hidden (entsB_no (x := x) HDJ.out (entAt_2 HL.out))
        go_wp2
        go_ret
        exact ⟨ret_bool HE.out.symm, HB.out⟩
  . have ej : j = nd := by omega
    subst ej
    have hAll : entsB x ds = true := allIx_iff.2 (fun q d hq => hall q d (by have := (List.getElem?_eq_some_iff.1 hq).1; omega) hq)
    have HB := hidden (hA.trans (hb.mono hA.size))
    go_wp2
    go_ret
    exact ⟨ret_bool hAll.symm, HB.out⟩

end Go.Proofs.YtjmjianlcoleaaaGreat

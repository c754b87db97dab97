/-
  Plain lemmas on 'append' to a row of a call's own, of whatever data: one element more, itself of the call's own. No condition; nothing of the program is named here.
-/
import Derived.Test.YtbkkjfgjlapadaaGreatTurn
import Derived.Maps.AppendAt
namespace Go.Proofs.YtbkkjfgjlapadaaGreat
open Go.RowKit

/-- A row's cells, and the row with one element more. -/
theorem row_cells {t : Ty} {E : TypeId} {w : World} {lo : Nat} {v : Value} {d : List t.D} {fp : List Nat} (h : (rowTy t E).Mine w [v] d fp) (hlo : ∀ b ∈ fp, lo ≤ b) :
    ∃ xs, w.ownsRow lo E t.n v d.length xs ∧ ∀ w' v' vs x f, t.Mine w vs x f → (∀ b ∈ fp, b ∉ f) → w'.ownsRow lo E t.n v' (d.length + 1) (xs ++ vs) → w.grownBy w' v.ownBlock → (v'.ownBlock = v.ownBlock ∨ v'.ownBlock = some w.heap.size) →
      ∃ fp', (rowTy t E).Mine w' [v'] (d ++ [x]) fp' ∧ (∀ b ∈ fp', b ∈ fp ∨ b ∈ f ∨ (b = w.heap.size ∧ b < w'.heap.size)) ∧ Turned fp w w' := by
  obtain ⟨h, hn⟩ := h
  rcases h with ⟨h1, rfl, rfl⟩ | ⟨b, cap, cur, fps, h1, h2, h3, h4, h5, rfl, h7, h8⟩
  · simp at h1
    subst h1
    refine ⟨[], World.ownsRow_nil _ _ _ _, fun w' v' vs x f hx _ ho hg hat => ?_⟩
    rcases ho.2 with ⟨_, h0⟩ | ⟨g, cap', cur', hv, hb, hg', hnc, hcm, hcs, htake⟩
    · simp at h0
    · have hgs : g = w.heap.size := by
        rw [hv] at hat
        simpa [Value.ownBlock] using hat
      have hgl : g < w'.heap.size := (Array.getElem?_eq_some_iff.1 hg').1
      subst hv
      have hfl : [f].flatten = f := by simp
      have hxlt := hx.lt
      refine ⟨g :: [f].flatten, ⟨.inr ⟨g, cap', cur', [f], rfl, hnc, hcm, hg', hcs, rfl, rfl, fun i y hy => ?_⟩, ?_⟩, ?_, hg.os, hg.tape, hg.output, hg.size, fun k hk _ => hg.block k hk (by simp [Value.ownBlock])⟩
      · match i, hy with
        | 0, hy =>
          simp at hy
          subst hy
          refine ⟨f, rfl, ?_⟩
          rw [Nat.zero_mul, List.drop_zero]
          simp only [List.length_nil, Nat.zero_add, Nat.one_mul, List.nil_append] at htake
          rw [htake]
          exact t.owKept hx.1 (fun b hb => hg.block b (hxlt b hb) (by simp [Value.ownBlock])) hg.size
      · rw [hfl, List.nodup_cons]
        refine ⟨fun hm => ?_, hx.2⟩
        have := hxlt g hm
        omega
      · intro b hb
        rw [hfl] at hb
        rcases List.mem_cons.1 hb with rfl | hb
        · exact .inr (.inr ⟨hgs, hgl⟩)
        · exact .inr (.inl hb)
  · have hv : v = .slice (some ⟨b, 0, none⟩) d.length cap := by simpa using h1
    have hbl : b < w.heap.size := (Array.getElem?_eq_some_iff.1 h4).1
    have hle : d.length * t.n ≤ cap * t.n := Nat.mul_le_mul_right _ h2
    have hxl : (cur.toList.take (d.length * t.n)).length = d.length * t.n := by
      have hcl : cur.toList.length = cap * t.n := by rw [Array.length_toList]; exact h5
      rw [List.length_take, hcl]
      omega
    refine ⟨cur.toList.take (d.length * t.n), ⟨hxl, .inr ⟨b, cap, cur, hv, hlo b List.mem_cons_self, h4, h2, h3, h5, rfl⟩⟩, fun w' v' vs x f hx hdis ho hg hat => ?_⟩
    rw [List.nodup_cons] at hn
    obtain ⟨hbf, hnf⟩ := hn
    have hfplt : ∀ c ∈ fps.flatten, c < w.heap.size := by
      intro c hc
      obtain ⟨f', hf', hcf⟩ := List.mem_flatten.1 hc
      obtain ⟨i, hi⟩ := List.mem_iff_getElem?.1 hf'
      have hil : i < d.length := by rw [← h7]; exact (List.getElem?_eq_some_iff.1 hi).1
      obtain ⟨f2, hf2, ho2⟩ := h8 i _ (List.getElem?_eq_getElem hil)
      rw [hi] at hf2
      simp at hf2
      subst hf2
      exact t.rdLt (t.owRd ho2) c hcf
    have hxlt := hx.lt
    have hbx : b ∉ f := hdis b List.mem_cons_self
    have hvl := t.rdLen (t.owRd hx.1)
    have hkeep : ∀ c, c < w.heap.size → c ≠ b → w'.heap[c]? = w.heap[c]? := fun c hc hne => hg.block c hc (by rw [hv]; simpa [Value.ownBlock] using hne)
    rcases ho.2 with ⟨_, h0⟩ | ⟨g, cap', cur', hv', hb, hg', hnc, hcm, hcs, htake⟩
    · omega
    · have hgs : g = b ∨ g = w.heap.size := by
        rw [hv', hv] at hat
        simpa [Value.ownBlock] using hat
      have hgl : g < w'.heap.size := (Array.getElem?_eq_some_iff.1 hg').1
      subst hv'
      have hfl : (fps ++ [f]).flatten = fps.flatten ++ f := by simp
      have hseg : ∀ i, i < d.length → (cur'.toList.drop (i * t.n)).take t.n = (cur.toList.drop (i * t.n)).take t.n := by
        intro i hi
        have hmul : (i + 1) * t.n ≤ d.length * t.n := Nat.mul_le_mul_right _ hi
        rw [Nat.add_mul, Nat.one_mul] at hmul
        apply List.ext_getElem?
        intro k
        rw [List.getElem?_take, List.getElem?_take]
        by_cases hk : k < t.n
        · rw [if_pos hk, if_pos hk, List.getElem?_drop, List.getElem?_drop]
          have := congrArg (fun l => l[i * t.n + k]?) htake
          simp only [List.getElem?_take] at this
          rw [if_pos (by rw [Nat.add_mul, Nat.one_mul]; omega), List.getElem?_append_left (by rw [hxl]; omega), List.getElem?_take, if_pos (by omega)] at this
          exact this
        · rw [if_neg hk, if_neg hk]
      have hlast : (cur'.toList.drop (d.length * t.n)).take t.n = vs := by
        apply List.ext_getElem?
        intro k
        rw [List.getElem?_take]
        by_cases hk : k < t.n
        · rw [if_pos hk, List.getElem?_drop]
          have := congrArg (fun l => l[d.length * t.n + k]?) htake
          simp only [List.getElem?_take] at this
          rw [if_pos (by rw [Nat.add_mul, Nat.one_mul]; omega), List.getElem?_append_right (by rw [hxl]; omega), hxl, Nat.add_sub_cancel_left] at this
          exact this
        · rw [if_neg hk, List.getElem?_eq_none (by omega)]
      refine ⟨g :: (fps ++ [f]).flatten, ⟨.inr ⟨g, cap', cur', fps ++ [f], by simp, by simpa using hnc, hcm, hg', hcs, rfl, by simp [h7], fun i y hy => ?_⟩, ?_⟩, ?_, hg.os, hg.tape, hg.output, hg.size, fun k hk hf => hkeep k hk (fun e => hf (by rw [e]; exact List.mem_cons_self))⟩
      · by_cases hi : i < d.length
        · rw [List.getElem?_append_left hi] at hy
          obtain ⟨f2, hf2, ho2⟩ := h8 i y hy
          refine ⟨f2, by rw [List.getElem?_append_left (by omega)]; exact hf2, ?_⟩
          rw [hseg i hi]
          refine t.owKept ho2 (fun c hc => hkeep c (t.rdLt (t.owRd ho2) c hc) (fun e => hbf ?_)) hg.size
          rw [← e]
          exact List.mem_flatten.2 ⟨f2, List.mem_of_getElem? hf2, hc⟩
        · have hil : i = d.length := by
            have := (List.getElem?_eq_some_iff.1 hy).1
            simp at this
            omega
          subst hil
          rw [List.getElem?_append_right (Nat.le_refl _), Nat.sub_self] at hy
          simp at hy
          subst hy
          refine ⟨f, by rw [List.getElem?_append_right (by omega), h7, Nat.sub_self]; rfl, ?_⟩
          rw [hlast]
          exact t.owKept hx.1 (fun c hc => hkeep c (hxlt c hc) (fun e => hbx (e ▸ hc))) hg.size
      · rw [hfl, List.nodup_cons]
        refine ⟨fun hm => ?_, ?_⟩
        · rcases List.mem_append.1 hm with hm | hm
          · rcases hgs with rfl | rfl
            · exact hbf hm
            · have := hfplt _ hm
              omega
          · rcases hgs with rfl | rfl
            · exact hbx hm
            · have := hxlt _ hm
              omega
        · rw [List.nodup_append]
          exact ⟨hnf, hx.2, fun a ha c hc e => hdis a (List.mem_cons_of_mem _ ha) (e ▸ hc)⟩
      · intro c hc
        rw [hfl] at hc
        rcases List.mem_cons.1 hc with rfl | hc
        · rcases hgs with rfl | hgs
          · exact .inl List.mem_cons_self
          · exact .inr (.inr ⟨hgs, hgl⟩)
        · rcases List.mem_append.1 hc with hc | hc
          · exact .inl (List.mem_cons_of_mem _ hc)
          · exact .inr (.inl hc)

/-- 'append' of one element to a row of the call's own, at a list of operations. -/
theorem wpList_appT {P : Program} {w : World} {ops : Array Oper} {rest : List Oper} {o : Oper} {a : Act} {Q : Exit → Act → World → Prop} (t : Ty) (hgd : o.guard = none) (s x : Operand) (T : TypeId)
    (ho : o.op = .call { callee := .builtin .append, args := #[s, x], argTypes := #[T, T] })
    (E : TypeId) (i : TypeInfo) (z : Value) (bytes : Nat) (ht : P.underlying T = some (.slice E)) (hi : P.info? E = some i) (hz : i.zero = some z)
    (hsize : i.size = t.n) (hby : i.bytes = bytes) (hzs : z.cells.size = t.n) (hsz : 0 < t.n)
    (v : Value) (d : List t.D) (fp : List Nat) (hs : a.eval s = v) (hown : (rowTy t E).Mine w [v] d fp)
    (ad : Addr) (c : Nat) (vs : List Value) (y : t.D) (f : List Nat) (hx : a.eval x = .slice (some ad) 1 c) (hy : t.Mine w vs y f) (hdis : ∀ b ∈ fp, b ∉ f) (hr : ∀ j u, vs[j]? = some u → w.cell? (ad.add j) = some u) (h1 : ∀ u ∈ vs, u.oneCell' = true)
    (h63 : d.length + 1 ≤ maxLen) (hbytes : (d.length + 1) * bytes ≤ 140737488355328)
    (h : ∀ v' w' fp', (rowTy t E).Mine w' [v'] (d ++ [y]) fp' → (∀ b ∈ fp', b ∈ fp ∨ b ∈ f ∨ (b = w.heap.size ∧ b < w'.heap.size)) → Turned fp w w' → wpList P ops Q rest (a.put o.dst v') w') : wpList P ops Q (o :: rest) a w := by
  obtain ⟨xs, hrow, hback⟩ := row_cells (lo := 0) hown (fun _ _ => Nat.zero_le _)
  have hvl := t.rdLen (t.owRd hy.1)
  refine wpList_append_own_at w hgd s x T ho 0 E i z t.n bytes ht hi hz hsize hby hzs hsz v d.length xs hs hrow ad 1 c vs hx (by omega) hr h1 h63 hbytes (Nat.zero_le _) ?_
  intro v' w' k1 k2 _ k4
  obtain ⟨fp', m1, m2, m3⟩ := hback w' v' vs y f hy hdis k1 k2 k4
  exact h v' w' fp' m1 m2 m3

/-- 'append' of one element to a row of the call's own, at a step of a region that draws its order. -/
theorem step_appT {P : Program} {w : World} {ops : Array Oper} {o : Oper} {a : Act} {K : Act → World → Prop} {Q : Exit → Act → World → Prop} {G : Prop} (t : Ty) (hgd : o.guard = none) (s x : Operand) (T : TypeId)
    (ho : o.op = .call { callee := .builtin .append, args := #[s, x], argTypes := #[T, T] })
    (E : TypeId) (i : TypeInfo) (z : Value) (bytes : Nat) (ht : P.underlying T = some (.slice E)) (hi : P.info? E = some i) (hz : i.zero = some z)
    (hsize : i.size = t.n) (hby : i.bytes = bytes) (hzs : z.cells.size = t.n) (hsz : 0 < t.n)
    (v : Value) (d : List t.D) (fp : List Nat) (hs : a.eval s = v) (hown : (rowTy t E).Mine w [v] d fp)
    (ad : Addr) (c : Nat) (vs : List Value) (y : t.D) (f : List Nat) (hx : a.eval x = .slice (some ad) 1 c) (hy : t.Mine w vs y f) (hdis : ∀ b ∈ fp, b ∉ f) (hr : ∀ j u, vs[j]? = some u → w.cell? (ad.add j) = some u) (h1 : ∀ u ∈ vs, u.oneCell' = true)
    (h63 : d.length + 1 ≤ maxLen) (hbytes : (d.length + 1) * bytes ≤ 140737488355328)
    (h : ∀ g cap w' fp', (rowTy t E).Mine w' [.slice (some ⟨g, 0, none⟩) (d.length + 1) cap] (d ++ [y]) fp' → (∀ b ∈ fp', b ∈ fp ∨ b ∈ f ∨ (b = w.heap.size ∧ b < w'.heap.size)) → Turned fp w w' → K (a.put o.dst (.slice (some ⟨g, 0, none⟩) (d.length + 1) cap)) w') :
    if Region.wanted o (yielded ops a.tmps) = true then Oper.wp P o a w K Q else G := by
  obtain ⟨xs, hrow, hback⟩ := row_cells (lo := 0) hown (fun _ _ => Nat.zero_le _)
  have hvl := t.rdLen (t.owRd hy.1)
  refine step_append_lies w hgd s x T ho 0 E i z t.n bytes ht hi hz hsize hby hzs hsz v d.length xs hs hrow ad 1 c vs hx (by omega) hr h1 Nat.zero_lt_one h63 hbytes (Nat.zero_le _) w.heap.size rfl ?_
  intro g cap w' k1 k2 k3 _
  obtain ⟨fp', m1, m2, m3⟩ := hback w' _ vs y f hy hdis k1 k2 (by
    rcases k3 with k3 | k3
    · exact .inl k3.symm
    · exact .inr (by rw [k3]; rfl))
  exact h g cap w' fp' m1 m2 m3

end Go.Proofs.YtbkkjfgjlapadaaGreat

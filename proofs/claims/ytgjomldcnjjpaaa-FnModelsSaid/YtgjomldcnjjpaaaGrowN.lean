/-
  Plain lemmas: a row of a call's own with several elements more, at once ('append(a, b...)' of elements that are anything). No condition; nothing of the program is named here.
-/
import Derived.Test.YtgjomldcnjjpaaaGrow
namespace Go.Proofs.Ytgjomldcnjjpaaa
open Go.RowKit

/-- Elements one behind the other, in cells: each with the blocks of its own. -/
def Elems (t : Ty) (w : World) (vs : List Value) (ys : List t.D) (fs : List (List Nat)) : Prop :=
  vs.length = ys.length * t.n ∧ fs.length = ys.length ∧ fs.flatten.Nodup ∧ ∀ i y, ys[i]? = some y → ∃ f, fs[i]? = some f ∧ t.ow w ((vs.drop (i * t.n)).take t.n) y f
theorem Elems.lt {t : Ty} {w : World} {vs : List Value} {ys : List t.D} {fs : List (List Nat)} (h : Elems t w vs ys fs) : ∀ c ∈ fs.flatten, c < w.heap.size := by
  intro c hc
  obtain ⟨_, h7, _, h8⟩ := h
  obtain ⟨f', hf', hcf⟩ := List.mem_flatten.1 hc
  obtain ⟨i, hi⟩ := List.mem_iff_getElem?.1 hf'
  have hil : i < ys.length := by rw [← h7]; exact (List.getElem?_eq_some_iff.1 hi).1
  obtain ⟨f2, hf2, ho2⟩ := h8 i _ (List.getElem?_eq_getElem hil)
  rw [hi] at hf2
  simp at hf2
  subst hf2
  exact t.rdLt (t.owRd ho2) c hcf

/-- A row's cells (it has a block), and the row with several elements more. -/
theorem row_cellsN {t : Ty} {E : TypeId} {w : World} {lo b cap : Nat} {d : List t.D} {fp : List Nat} (h : (rowTy t E).Mine w [.slice (some ⟨b, 0, none⟩) d.length cap] d fp) (hlo : ∀ b ∈ fp, lo ≤ b) :
    ∃ xs, w.ownsRow lo E t.n (.slice (some ⟨b, 0, none⟩) d.length cap) d.length xs ∧ ∀ w' v' vs ys fs, Elems t w vs ys fs → (∀ b ∈ fp, b ∉ fs.flatten) → w'.ownsRow lo E t.n v' (d.length + ys.length) (xs ++ vs) → w.grownBy w' (some b) → (v'.ownBlock = some b ∨ v'.ownBlock = some w.heap.size) →
      ∃ fp', (rowTy t E).Mine w' [v'] (d ++ ys) fp' ∧ (∀ c ∈ fp', c ∈ fp ∨ c ∈ fs.flatten ∨ (c = w.heap.size ∧ c < w'.heap.size)) ∧ Turned fp w w' := by
  obtain ⟨h, hn⟩ := h
  rcases h with ⟨h1, _⟩ | ⟨b', cap', cur, fps, h1, h2, h3, h4, h5, rfl, h7, h8⟩
  · simp at h1
  · simp only [List.cons.injEq, Value.slice.injEq, Option.some.injEq, Addr.mk.injEq, and_true] at h1
    obtain ⟨rfl, _, rfl⟩ := h1
    have hle : d.length * t.n ≤ cap * t.n := Nat.mul_le_mul_right _ h2
    have hxl : (cur.toList.take (d.length * t.n)).length = d.length * t.n := by
      have hcl : cur.toList.length = cap * t.n := by rw [Array.length_toList]; exact h5
      rw [List.length_take, hcl]
      omega
    refine ⟨cur.toList.take (d.length * t.n), ⟨hxl, .inr ⟨b, cap, cur, rfl, hlo b List.mem_cons_self, h4, h2, h3, h5, rfl⟩⟩, fun w' v' vs ys fs hx hdis ho hg hat => ?_⟩
    have hel := hx.lt
    obtain ⟨e1, e2, e3, e4⟩ := hx
    rw [List.nodup_cons] at hn
    obtain ⟨hbf, hnf⟩ := hn
    have hfplt : ∀ c ∈ fps.flatten, c < w.heap.size := by
      intro c hc
      obtain ⟨f', hf', hcf⟩ := List.mem_flatten.1 hc
      obtain ⟨i, hi⟩ := List.mem_iff_getElem?.1 hf'
      have hil : i < d.length := by rw [← h7]; exact (List.getElem?_eq_some_iff.1 hi).1
      obtain ⟨f2, hf2, ho2⟩ := h8 i _ (List.getElem?_eq_getElem hil)
      rw [hi] at hf2
      simp at hf2
      subst hf2
      exact t.rdLt (t.owRd ho2) c hcf
    have hbx : b ∉ fs.flatten := hdis b List.mem_cons_self
    have hkeep : ∀ c, c < w.heap.size → c ≠ b → w'.heap[c]? = w.heap[c]? := fun c hc hne => hg.block c hc (by simpa using hne)
    rcases ho.2 with ⟨hv0, h0⟩ | ⟨g, cap', cur', hv', hb, hg', hnc, hcm, hcs, htake⟩
    · have hd0 : d = [] := List.eq_nil_of_length_eq_zero (by omega)
      have hy0 : ys = [] := List.eq_nil_of_length_eq_zero (by omega)
      subst hd0 hy0 hv0
      exact ⟨[], ⟨.inl ⟨rfl, rfl, rfl⟩, List.nodup_nil⟩, by simp, hg.os, hg.tape, hg.output, hg.size, fun k hk hf => hkeep k hk (fun e => hf (by rw [e]; exact List.mem_cons_self))⟩
    · have hgs : g = b ∨ g = w.heap.size := by
        rw [hv'] at hat
        simpa [Value.ownBlock] using hat
      have hgl : g < w'.heap.size := (Array.getElem?_eq_some_iff.1 hg').1
      subst hv'
      have hfl : (fps ++ fs).flatten = fps.flatten ++ fs.flatten := by simp
      have hcell : ∀ k, k < d.length * t.n + ys.length * t.n → cur'.toList[k]? = (cur.toList.take (d.length * t.n) ++ vs)[k]? := fun k hk => by
        have := congrArg (fun l => l[k]?) htake
        simp only [List.getElem?_take] at this
        rw [if_pos (by rw [Nat.add_mul]; omega)] at this
        exact this
      have hseg : ∀ i, i < d.length → (cur'.toList.drop (i * t.n)).take t.n = (cur.toList.drop (i * t.n)).take t.n := by
        intro i hi
        have hmul : (i + 1) * t.n ≤ d.length * t.n := Nat.mul_le_mul_right _ hi
        rw [Nat.add_mul, Nat.one_mul] at hmul
        apply List.ext_getElem?
        intro k
        rw [List.getElem?_take, List.getElem?_take]
        by_cases hk : k < t.n
        · rw [if_pos hk, if_pos hk, List.getElem?_drop, List.getElem?_drop, hcell _ (by omega), List.getElem?_append_left (by rw [hxl]; omega), List.getElem?_take, if_pos (by omega)]
        · rw [if_neg hk, if_neg hk]
      have hnew : ∀ i, i < ys.length → (cur'.toList.drop ((d.length + i) * t.n)).take t.n = (vs.drop (i * t.n)).take t.n := by
        intro i hi
        have hmul : (i + 1) * t.n ≤ ys.length * t.n := Nat.mul_le_mul_right _ hi
        rw [Nat.add_mul, Nat.one_mul] at hmul
        apply List.ext_getElem?
        intro k
        rw [List.getElem?_take, List.getElem?_take]
        by_cases hk : k < t.n
        · rw [if_pos hk, if_pos hk, List.getElem?_drop, List.getElem?_drop, Nat.add_mul, hcell _ (by omega), List.getElem?_append_right (by rw [hxl]; omega), hxl]
          congr 1
          omega
        · rw [if_neg hk, if_neg hk]
      refine ⟨g :: (fps ++ fs).flatten, ⟨.inr ⟨g, cap', cur', fps ++ fs, by simp, by simpa using hnc, hcm, hg', hcs, rfl, by simp [h7, e2], fun i y hy => ?_⟩, ?_⟩, ?_, hg.os, hg.tape, hg.output, hg.size, fun k hk hf => hkeep k hk (fun e => hf (by rw [e]; exact List.mem_cons_self))⟩
      · by_cases hi : i < d.length
        · rw [List.getElem?_append_left hi] at hy
          obtain ⟨f2, hf2, ho2⟩ := h8 i y hy
          refine ⟨f2, by rw [List.getElem?_append_left (by omega)]; exact hf2, ?_⟩
          rw [hseg i hi]
          refine t.owKept ho2 (fun c hc => hkeep c (t.rdLt (t.owRd ho2) c hc) (fun e => hbf ?_)) hg.size
          rw [← e]
          exact List.mem_flatten.2 ⟨f2, List.mem_of_getElem? hf2, hc⟩
        · rw [List.getElem?_append_right (by omega)] at hy
          have hil := (List.getElem?_eq_some_iff.1 hy).1
          obtain ⟨f2, hf2, ho2⟩ := e4 (i - d.length) y hy
          refine ⟨f2, by rw [List.getElem?_append_right (by omega), h7]; exact hf2, ?_⟩
          have := hnew (i - d.length) hil
          rw [show d.length + (i - d.length) = i by omega] at this
          rw [this]
          refine t.owKept ho2 (fun c hc => ?_) hg.size
          have hcm' : c ∈ fs.flatten := List.mem_flatten.2 ⟨f2, List.mem_of_getElem? hf2, hc⟩
          exact hkeep c (hel c hcm') (fun e => hbx (e ▸ hcm'))
      · rw [hfl, List.nodup_cons]
        refine ⟨fun hm => ?_, ?_⟩
        · rcases List.mem_append.1 hm with hm | hm
          · rcases hgs with rfl | rfl
            · exact hbf hm
            · have := hfplt _ hm
              omega
          · rcases hgs with rfl | rfl
            · exact hbx hm
            · have := hel _ hm
              omega
        · rw [List.nodup_append]
          exact ⟨hnf, e3, fun a ha c hc e => hdis a (List.mem_cons_of_mem _ ha) (e ▸ hc)⟩
      · intro c hc
        rw [hfl] at hc
        rcases List.mem_cons.1 hc with rfl | hc
        · rcases hgs with rfl | hgs
          · exact .inl List.mem_cons_self
          · exact .inr (.inr ⟨hgs, hgl⟩)
        · rcases List.mem_append.1 hc with hc | hc
          · exact .inl (List.mem_cons_of_mem _ hc)
          · exact .inr (.inl hc)

/-- 'append' of several elements to a row of the call's own, at a list of operations. -/
theorem wpList_appN {P : Program} {w : World} {ops : Array Oper} {rest : List Oper} {o : Oper} {a : Act} {Q : Exit → Act → World → Prop} (t : Ty) (hgd : o.guard = none) (s x : Operand) (T : TypeId)
    (ho : o.op = .call { callee := .builtin .append, args := #[s, x], argTypes := #[T, T] })
    (E : TypeId) (i : TypeInfo) (z : Value) (bytes : Nat) (ht : P.underlying T = some (.slice E)) (hi : P.info? E = some i) (hz : i.zero = some z)
    (hsize : i.size = t.n) (hby : i.bytes = bytes) (hzs : z.cells.size = t.n) (hsz : 0 < t.n)
    (b cap : Nat) (d : List t.D) (fp : List Nat) (hs : a.eval s = .slice (some ⟨b, 0, none⟩) d.length cap) (hown : (rowTy t E).Mine w [.slice (some ⟨b, 0, none⟩) d.length cap] d fp)
    (ad : Addr) (c : Nat) (vs : List Value) (ys : List t.D) (fs : List (List Nat)) (hx : a.eval x = .slice (some ad) ys.length c) (hy : Elems t w vs ys fs) (hdis : ∀ b ∈ fp, b ∉ fs.flatten) (hr : ∀ j u, vs[j]? = some u → w.cell? (ad.add j) = some u) (h1 : ∀ u ∈ vs, u.oneCell' = true)
    (h63 : d.length + ys.length ≤ maxLen) (hbytes : (d.length + ys.length) * bytes ≤ 140737488355328)
    (h : ∀ v' w' fp', (rowTy t E).Mine w' [v'] (d ++ ys) fp' → (∀ b ∈ fp', b ∈ fp ∨ b ∈ fs.flatten ∨ (b = w.heap.size ∧ b < w'.heap.size)) → Turned fp w w' → wpList P ops Q rest (a.put o.dst v') w') : wpList P ops Q (o :: rest) a w := by
  obtain ⟨xs, hrow, hback⟩ := row_cellsN (lo := 0) hown (fun _ _ => Nat.zero_le _)
  refine wpList_append_own_at w hgd s x T ho 0 E i z t.n bytes ht hi hz hsize hby hzs hsz _ d.length xs hs hrow ad ys.length c vs hx hy.1 hr h1 h63 hbytes (Nat.zero_le _) ?_
  intro v' w' k1 k2 _ k4
  obtain ⟨fp', m1, m2, m3⟩ := hback w' v' vs ys fs hy hdis k1 k2 k4
  exact h v' w' fp' m1 m2 m3

/-- 'append' of several elements to a row of the call's own, at a step of a region that draws its order. -/
theorem step_appN {P : Program} {w : World} {ops : Array Oper} {o : Oper} {a : Act} {K : Act → World → Prop} {Q : Exit → Act → World → Prop} {G : Prop} (t : Ty) (hgd : o.guard = none) (s x : Operand) (T : TypeId)
    (ho : o.op = .call { callee := .builtin .append, args := #[s, x], argTypes := #[T, T] })
    (E : TypeId) (i : TypeInfo) (z : Value) (bytes : Nat) (ht : P.underlying T = some (.slice E)) (hi : P.info? E = some i) (hz : i.zero = some z)
    (hsize : i.size = t.n) (hby : i.bytes = bytes) (hzs : z.cells.size = t.n) (hsz : 0 < t.n)
    (b cap : Nat) (d : List t.D) (fp : List Nat) (hs : a.eval s = .slice (some ⟨b, 0, none⟩) d.length cap) (hown : (rowTy t E).Mine w [.slice (some ⟨b, 0, none⟩) d.length cap] d fp)
    (ad : Addr) (c : Nat) (vs : List Value) (ys : List t.D) (fs : List (List Nat)) (hx : a.eval x = .slice (some ad) ys.length c) (hy : Elems t w vs ys fs) (hdis : ∀ b ∈ fp, b ∉ fs.flatten) (hr : ∀ j u, vs[j]? = some u → w.cell? (ad.add j) = some u) (h1 : ∀ u ∈ vs, u.oneCell' = true)
    (h63 : d.length + ys.length ≤ maxLen) (hbytes : (d.length + ys.length) * bytes ≤ 140737488355328)
    (h : ∀ g cap' w' fp', (rowTy t E).Mine w' [.slice (some ⟨g, 0, none⟩) (d.length + ys.length) cap'] (d ++ ys) fp' → (∀ b ∈ fp', b ∈ fp ∨ b ∈ fs.flatten ∨ (b = w.heap.size ∧ b < w'.heap.size)) → Turned fp w w' → K (a.put o.dst (.slice (some ⟨g, 0, none⟩) (d.length + ys.length) cap')) w') :
    if Region.wanted o (yielded ops a.tmps) = true then Oper.wp P o a w K Q else G := by
  obtain ⟨xs, hrow, hback⟩ := row_cellsN (lo := 0) hown (fun _ _ => Nat.zero_le _)
  have hw : Region.wanted o (yielded ops a.tmps) = true := by simp [Region.wanted, hgd]
  rw [if_pos hw]
  obtain ⟨v', w', hr, k1, k2, k3, k4⟩ := run_append_own_at (P := P) w 0 T o.type E i z t.n bytes ht hi hz hsize hby hzs hsz _ d.length xs hrow ad ys.length c vs hy.1 hr h1 h63 hbytes (Nat.zero_le _)
  obtain ⟨fp', m1, m2, m3⟩ := hback w' v' vs ys fs hy hdis k1 k2 k4
  rcases k1.2 with ⟨hv0, _⟩ | ⟨g, cap', _, hv', _⟩
  · simp at k3
    exact absurd hv0 k3
  · subst hv'
    unfold Oper.wp execOp
    simp only [ho, resolve, invoke, builtin, Sem.run_bind, Sem.run_pure, Result.andThen_ok, List.map_toArray, List.map_cons, List.map_nil, hs, hx, hr]
    exact h g cap' w' fp' m1 m2 m3

theorem runs_sub {l m : List (List Nat)} (h : l.Sublist m) : l.flatten.Sublist m.flatten := by
  induction h with
  | slnil => exact .slnil
  | cons a _ ih => rw [List.flatten_cons]; exact ih.trans (List.sublist_append_right _ _)
  | cons_cons a _ ih => rw [List.flatten_cons, List.flatten_cons]; exact (List.Sublist.refl a).append ih
/-- Two runs, one behind the other, have no block in common. -/
theorem runs_apart {l : List (List Nat)} {k : Nat} (h : l.flatten.Nodup) : ∀ b ∈ (l.take k).flatten, b ∉ (l.drop (k + 1)).flatten := by
  intro b hb hc
  have h1 : (l.take k ++ l.drop k).flatten.Nodup := by rw [List.take_append_drop]; exact h
  rw [List.flatten_append, List.nodup_append] at h1
  refine h1.2.2 b hb b ?_ rfl
  have : (l.drop (k + 1)).Sublist (l.drop k) := by rw [← List.drop_drop]; exact List.drop_sublist _ _
  exact (runs_sub this).subset hc

/-- A row of one's own, in its parts: the cells lie in its block, and each run of elements is one behind the other in them. -/
theorem row_seg {t : Ty} {E : TypeId} {w : World} {b cap : Nat} {d : List t.D} {fp : List Nat} (h : (rowTy t E).Mine w [.slice (some ⟨b, 0, none⟩) d.length cap] d fp) :
    ∃ (cs : List Value) (fps : List (List Nat)), fps.length = d.length ∧ fp = b :: fps.flatten ∧ cs.length = d.length * t.n ∧ (∀ j u, cs[j]? = some u → w.cell? ⟨b, j, none⟩ = some u) ∧
      (∀ i y, d[i]? = some y → ∃ f, fps[i]? = some f ∧ t.ow w ((cs.drop (i * t.n)).take t.n) y f) ∧ ∀ lo m, lo + m ≤ d.length → Elems t w ((cs.drop (lo * t.n)).take (m * t.n)) ((d.drop lo).take m) ((fps.drop lo).take m) := by
  obtain ⟨h, hn⟩ := h
  rcases h with ⟨h1, _⟩ | ⟨b', cap', cur, fps, h1, h2, h3, h4, h5, rfl, h7, h8⟩
  · simp at h1
  · simp only [List.cons.injEq, Value.slice.injEq, Option.some.injEq, Addr.mk.injEq, and_true] at h1
    obtain ⟨rfl, _, rfl⟩ := h1
    rw [List.nodup_cons] at hn
    have hle : d.length * t.n ≤ cap * t.n := Nat.mul_le_mul_right _ h2
    have hcl : cur.toList.length = cap * t.n := by rw [Array.length_toList]; exact h5
    have hxl : (cur.toList.take (d.length * t.n)).length = d.length * t.n := by
      rw [List.length_take, hcl]
      omega
    have hel : ∀ i y, d[i]? = some y → ∃ f, fps[i]? = some f ∧ t.ow w (((cur.toList.take (d.length * t.n)).drop (i * t.n)).take t.n) y f := by
      intro i y hy
      obtain ⟨f, hf, ho⟩ := h8 i y hy
      have hi := (List.getElem?_eq_some_iff.1 hy).1
      have hmul : (i + 1) * t.n ≤ d.length * t.n := Nat.mul_le_mul_right _ hi
      rw [Nat.add_mul, Nat.one_mul] at hmul
      refine ⟨f, hf, ?_⟩
      rw [List.drop_take, List.take_take, Nat.min_eq_left (by omega)]
      exact ho
    refine ⟨cur.toList.take (d.length * t.n), fps, h7, rfl, hxl, fun j u hu => ?_, hel, fun lo m hlm => ⟨?_, ?_, ?_, fun i y hy => ?_⟩⟩
    · rw [List.getElem?_take] at hu
      split at hu
      · rw [cell_of_row w b _ cur E (0, 0) h4]
        simpa using hu
      · simp at hu
    · have hmul : (lo + m) * t.n ≤ d.length * t.n := Nat.mul_le_mul_right _ hlm
      rw [Nat.add_mul] at hmul
      rw [List.length_take, List.length_drop, hxl, List.length_take, List.length_drop, Nat.min_eq_left (show m ≤ d.length - lo by omega)]
      omega
    · simp only [List.length_take, List.length_drop, h7]
    · refine hn.2.sublist ?_
      exact runs_sub ((List.take_sublist _ _).trans (List.drop_sublist _ _))
    · rw [List.getElem?_take] at hy
      split at hy
      case isTrue him =>
        rw [List.getElem?_drop] at hy
        obtain ⟨f, hf, ho⟩ := hel (lo + i) y hy
        have hmul : (i + 1) * t.n ≤ m * t.n := Nat.mul_le_mul_right _ him
        rw [Nat.add_mul, Nat.one_mul] at hmul
        refine ⟨f, by rw [List.getElem?_take, if_pos him, List.getElem?_drop]; exact hf, ?_⟩
        rw [List.drop_take, List.take_take, Nat.min_eq_left (by omega), List.drop_drop, ← Nat.add_mul]
        exact ho
      case isFalse => simp at hy

end Go.Proofs.Ytgjomldcnjjpaaa
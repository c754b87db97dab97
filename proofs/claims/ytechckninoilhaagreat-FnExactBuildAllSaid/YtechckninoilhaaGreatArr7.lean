/-
  An array that a pointer leads to, in memory of its own: its box, its disks and its entries by their blocks; how it moves from call to call. Plain lemmas. No condition.
-/
import Derived.Test.YtechckninoilhaaGreatWalkArr
import Derived.Test.YtechckninoilhaaGreatStore
import Derived.Test.YtechckninoilhaaGreatBox
import Derived.Test.YtechckninoilhaaGreatFrame
import Derived.Test.YtechckninoilhaaGreatRow4
namespace Go.Proofs.YtechckninoilhaaGreat
open Go.RowKit

/-- Four cells of a block, one behind the other. -/
def put4 (w : World) (g q : Nat) (v0 v1 v2 v3 : Value) : World := (((w.setCell ⟨g, q, none⟩ v0).setCell ⟨g, q + 1, none⟩ v1).setCell ⟨g, q + 2, none⟩ v2).setCell ⟨g, q + 3, none⟩ v3
theorem put4_other {w : World} {g q b : Nat} {v0 v1 v2 v3 : Value} (hb : b ≠ g) : (put4 w g q v0 v1 v2 v3).heap[b]? = w.heap[b]? := by
  unfold put4
  rw [Below.heap_setCell _ _ _ _ hb, Below.heap_setCell _ _ _ _ hb, Below.heap_setCell _ _ _ _ hb, Below.heap_setCell _ _ _ _ hb]
theorem put4_size (w : World) (g q : Nat) (v0 v1 v2 v3 : Value) : (put4 w g q v0 v1 v2 v3).heap.size = w.heap.size := by unfold put4; simp
theorem put4_turned (w : World) (g q : Nat) (v0 v1 v2 v3 : Value) : Turned [g] w (put4 w g q v0 v1 v2 v3) :=
  ⟨rfl, rfl, rfl, by rw [put4_size]; exact Nat.le_refl _, fun k _ hk => put4_other (by simpa using hk)⟩

/-- One element of a row of one's own is put in another's place. -/
theorem row_set4 {t : Ty} {E : TypeId} {w : World} {g n cap j : Nat} {d : List t.D} {v0 v1 v2 v3 : Value} {x : t.D} {fp f : List Nat} (ht : t.n = 4) (h : (rowTy t E).Mine w [.slice (some ⟨g, 0, none⟩) n cap] d fp)
    (hj : j < n) (hx : t.Mine w [v0, v1, v2, v3] x f) (hdis : ∀ b ∈ f, b ∉ fp) :
    (∀ q, q < 4 → ∃ old, w.cell? ⟨g, j * 4 + q, none⟩ = some old) ∧ (∀ q, w.frozen? ⟨g, q, none⟩ = false) ∧ g ∈ fp ∧ ∃ fp', (rowTy t E).Mine (put4 w g (j * 4) v0 v1 v2 v3) [.slice (some ⟨g, 0, none⟩) n cap] (d.set j x) fp' ∧ ∀ b ∈ fp', b ∈ fp ∨ b ∈ f := by
  obtain ⟨h, hn⟩ := h
  obtain ⟨hx, hn'⟩ := hx
  rcases h with ⟨h1, _⟩ | ⟨b, cap', cur, fps, h1, h2, h3, h4, h5, h6, h7, h8⟩
  · simp at h1
  · simp only [List.cons.injEq, Value.slice.injEq, Option.some.injEq, Addr.mk.injEq, and_true] at h1
    obtain ⟨rfl, rfl, rfl⟩ := h1
    have hgp : g ∈ fp := by rw [h6]; exact List.mem_cons_self
    rw [ht] at h5
    have hjc : j * 4 + 3 < cur.size := by rw [h5]; omega
    have hgf' : g ∉ f := fun hm => hdis g hm hgp
    rw [h6, List.nodup_cons] at hn
    obtain ⟨hgf, hnf⟩ := hn
    have hd2 : ∀ b ∈ f, b ∉ fps.flatten := fun b hb hbl => hdis b hb (by rw [h6]; exact List.mem_cons_of_mem _ hbl)
    obtain ⟨hsn, hsm⟩ := flatten_set_nodup fps j f hnf hn' hd2
    have hoth : ∀ b, b ≠ g → (put4 w g (j * 4) v0 v1 v2 v3).heap[b]? = w.heap[b]? := fun b hb => put4_other hb
    have hsz : w.heap.size ≤ (put4 w g (j * 4) v0 v1 v2 v3).heap.size := by rw [put4_size]; exact Nat.le_refl _
    have hcell : ∀ k, ((((cur.setIfInBounds (j * 4) v0).setIfInBounds (j * 4 + 1) v1).setIfInBounds (j * 4 + 2) v2).setIfInBounds (j * 4 + 3) v3).toList[k]? = if j * 4 ≤ k ∧ k < j * 4 + 4 then [v0, v1, v2, v3][k - j * 4]? else cur.toList[k]? := fun k => by
      rw [Array.toList_setIfInBounds, Array.toList_setIfInBounds, Array.toList_setIfInBounds, Array.toList_setIfInBounds]
      by_cases h0 : k = j * 4
      · subst h0
        rw [if_pos (by omega), List.getElem?_set_ne (by omega), List.getElem?_set_ne (by omega), List.getElem?_set_ne (by omega), List.getElem?_set_self (by simp; omega), Nat.sub_self]
        rfl
      · by_cases h1 : k = j * 4 + 1
        · subst h1
          rw [if_pos (by omega), List.getElem?_set_ne (by omega), List.getElem?_set_ne (by omega), List.getElem?_set_self (by simp; omega), Nat.add_sub_cancel_left]
          rfl
        · by_cases h2 : k = j * 4 + 2
          · subst h2
            rw [if_pos (by omega), List.getElem?_set_ne (by omega), List.getElem?_set_self (by simp; omega), Nat.add_sub_cancel_left]
            rfl
          · by_cases h3 : k = j * 4 + 3
            · subst h3
              rw [if_pos (by omega), List.getElem?_set_self (by simp; omega), Nat.add_sub_cancel_left]
              rfl
            · rw [if_neg (by omega), List.getElem?_set_ne (by omega), List.getElem?_set_ne (by omega), List.getElem?_set_ne (by omega), List.getElem?_set_ne (by omega)]
    refine ⟨fun q hq => ⟨cur[j * 4 + q]'(by omega), ?_⟩, fun q => frozen_of_row w g q cur E h4, hgp, g :: (fps.set j f).flatten, ⟨.inr ⟨g, cap, (((cur.setIfInBounds (j * 4) v0).setIfInBounds (j * 4 + 1) v1).setIfInBounds (j * 4 + 2) v2).setIfInBounds (j * 4 + 3) v3, fps.set j f, by rw [List.length_set], by rw [List.length_set]; exact h2, h3, heap_setCell_same _ g _ _ E v3 (heap_setCell_same _ g _ _ E v2 (heap_setCell_same _ g _ _ E v1 (heap_setCell_same w g _ cur E v0 h4))), by rw [ht]; simpa using h5, rfl, by rw [List.length_set, List.length_set]; exact h7, fun i y hy => ?_⟩, ?_⟩, ?_⟩
    · rw [cell_of_row w g _ cur E (0, 0) h4, Array.getElem?_eq_getElem]
    · by_cases hij : i = j
      · subst hij
        have hyx : y = x := by
          rw [List.getElem?_set_self (by omega)] at hy
          simpa using hy.symm
        subst hyx
        refine ⟨f, List.getElem?_set_self (by rw [h7]; omega), ?_⟩
        have e : (((((cur.setIfInBounds (i * 4) v0).setIfInBounds (i * 4 + 1) v1).setIfInBounds (i * 4 + 2) v2).setIfInBounds (i * 4 + 3) v3).toList.drop (i * t.n)).take t.n = [v0, v1, v2, v3] := by
          rw [ht]
          apply List.ext_getElem?
          intro k
          rw [List.getElem?_take, List.getElem?_drop, hcell]
          by_cases hk : k < 4
          · rw [if_pos hk, if_pos (by omega), Nat.add_sub_cancel_left]
          · rw [if_neg hk, List.getElem?_eq_none (by simp; omega)]
        rw [e]
        exact t.owKept hx (fun b hb => hoth b (fun e => hgf' (e ▸ hb))) hsz
      · rw [List.getElem?_set_ne (fun e => hij e.symm)] at hy
        obtain ⟨f2, hf, ho⟩ := h8 i y hy
        refine ⟨f2, by rw [List.getElem?_set_ne (fun e => hij e.symm)]; exact hf, ?_⟩
        have e : (((((cur.setIfInBounds (j * 4) v0).setIfInBounds (j * 4 + 1) v1).setIfInBounds (j * 4 + 2) v2).setIfInBounds (j * 4 + 3) v3).toList.drop (i * t.n)).take t.n = (cur.toList.drop (i * t.n)).take t.n := by
          rw [ht]
          apply List.ext_getElem?
          intro k
          rw [List.getElem?_take, List.getElem?_take, List.getElem?_drop, List.getElem?_drop]
          by_cases hk : k < 4
          · rw [if_pos hk, if_pos hk, hcell, if_neg (by omega)]
          · rw [if_neg hk, if_neg hk]
        rw [e]
        exact t.owKept ho (fun b hb => hoth b (fun e' => hgf (by rw [← e']; exact List.mem_flatten.2 ⟨f2, List.mem_of_getElem? hf, hb⟩))) hsz
    · rw [List.nodup_cons]
      refine ⟨fun hm => ?_, hsn⟩
      rcases hsm g hm with hm | hm
      · exact hgf' hm
      · exact hgf hm
    · intro b hb
      rcases List.mem_cons.1 hb with rfl | hb
      · exact .inl hgp
      · rcases hsm b hb with hb | hb
        · exact .inr hb
        · exact .inl (by rw [h6]; exact List.mem_cons_of_mem _ hb)

/-- An array's cells. -/
def arrC (x : ArrN) (vm vd : Value) : Array Value := #[.int .i64 x.id, .int .i64 x.n, .int .i64 x.s, vm, .int .i64 x.lost, .int .i64 x.built, .int .i64 x.seq, .int .i64 x.tail, .int .i64 x.gen, vd, .int .i64 x.fuse, .bool x.down, .bool x.broken]
/-- An array in its box B, its disks in the blocks fm, its entries in fd. -/
def ArrAt (w : World) (B : Nat) (x : ArrN) (ms : List MemD) (ds : List (Int × List Int)) (fm fd : List Nat) : Prop :=
  ∃ (bm bd : Option Addr) (cm cd : Nat), Box w B 33 (arrC x (.slice bm ms.length cm) (.slice bd ds.length cd)) ∧ (tMemS 109 51).Mine w [.slice bm ms.length cm] ms fm ∧ (tWrS 82).Mine w [.slice bd ds.length cd] ds fd ∧ (∀ b ∈ fm, b ∉ fd) ∧ B ∉ fm ∧ B ∉ fd
/-- It has moved: what is not its own has not turned. -/
def Moved (B : Nat) (fm : List Nat) (w : World) (fm' : List Nat) (w' : World) : Prop := Turned (B :: fm) w w' ∧ ∀ b ∈ fm', b ∈ fm ∨ w.heap.size ≤ b

theorem Moved.refl (B : Nat) (fm : List Nat) (w : World) : Moved B fm w fm w := ⟨Turned.refl _ _, fun _ h => .inl h⟩
theorem Moved.trans {B : Nat} {f1 f2 f3 : List Nat} {w1 w2 w3 : World} (h : Moved B f1 w1 f2 w2) (k : Moved B f2 w2 f3 w3) : Moved B f1 w1 f3 w3 := by
  have hs := h.1.size
  refine ⟨⟨k.1.os.trans h.1.os, k.1.tape.trans h.1.tape, k.1.output.trans h.1.output, Nat.le_trans h.1.size k.1.size, fun b hb hn => ?_⟩, fun b hb => ?_⟩
  · rw [k.1.block b (by omega) (fun hm => ?_), h.1.block b hb hn]
    rcases List.mem_cons.1 hm with e | hm
    · exact hn (by rw [e]; exact List.mem_cons_self)
    · rcases h.2 b hm with h1 | h1
      · exact hn (List.mem_cons_of_mem _ h1)
      · omega
  · rcases k.2 b hb with h1 | h1
    · exact h.2 b h1
    · exact .inr (by omega)
theorem Moved.below {B : Nat} {f1 f2 : List Nat} {w1 w2 w3 : World} (h : Moved B f1 w1 f2 w2) (k : Below w2.heap.size w2 w3) : Moved B f1 w1 f2 w3 :=
  h.trans ⟨⟨k.os, k.tape, k.output, k.size, fun b hb _ => k.block b hb⟩, fun _ hb => .inl hb⟩
theorem Moved.drew {B : Nat} {f1 f2 : List Nat} {w1 w2 : World} (h : Moved B f1 w1 f2 w2) : Moved B f1 w1 f2 w2.drew := h.below ((Below.refl _ _).drew)
theorem Moved.size {B : Nat} {f1 f2 : List Nat} {w1 w2 : World} (h : Moved B f1 w1 f2 w2) : w1.heap.size ≤ w2.heap.size := h.1.size
/-- A box beside it. -/
theorem Moved.box {B C : Nat} {f1 f2 : List Nat} {w1 w2 : World} {T : TypeId} {cs : Array Value} (h : Moved B f1 w1 f2 w2) (x : Box w1 C T cs) (hne : C ≠ B) (hf : C ∉ f1) : Box w2 C T cs := x.kept (h.1.block C x.lt (by simp [hne, hf]))
theorem Moved.mine {t : Ty} {B : Nat} {f1 f2 fp : List Nat} {w1 w2 : World} {vs : List Value} {d : t.D} (h : Moved B f1 w1 f2 w2) (o : t.Mine w1 vs d fp) (hB : B ∉ fp) (hd : ∀ b ∈ fp, b ∉ f1) : t.Mine w2 vs d fp :=
  o.kept h.1 (fun b hb hm => by
    rcases List.mem_cons.1 hm with e | hm
    · exact hB (e ▸ hb)
    · exact hd b hb hm)
theorem Moved.set {B j : Nat} {fm : List Nat} {w : World} (v : Value) : Moved B fm w fm (w.setCell ⟨B, j, none⟩ v) := ⟨Turned.setCell v List.mem_cons_self, fun _ h => .inl h⟩

theorem ArrAt.lt {w : World} {B : Nat} {x : ArrN} {ms : List MemD} {ds : List (Int × List Int)} {fm fd : List Nat} (h : ArrAt w B x ms ds fm fd) : B < w.heap.size := by
  obtain ⟨_, _, _, _, hx, _⟩ := h
  exact hx.lt
theorem ArrAt.ltm {w : World} {B : Nat} {x : ArrN} {ms : List MemD} {ds : List (Int × List Int)} {fm fd : List Nat} (h : ArrAt w B x ms ds fm fd) : (∀ b ∈ fm, b < w.heap.size) ∧ ∀ b ∈ fd, b < w.heap.size := by
  obtain ⟨_, _, _, _, _, hm, hd, _⟩ := h
  exact ⟨hm.lt, hd.lt⟩
theorem ArrAt.below {w w' : World} {B : Nat} {x : ArrN} {ms : List MemD} {ds : List (Int × List Int)} {fm fd : List Nat} (h : ArrAt w B x ms ds fm fd) (hb : Below w.heap.size w w') : ArrAt w' B x ms ds fm fd := by
  obtain ⟨bm, bd, cm, cd, hx, hm, hd, r⟩ := h
  exact ⟨bm, bd, cm, cd, hx.below hb hx.lt, hm.below hb, hd.below hb, r⟩
theorem ArrAt.drew {w : World} {B : Nat} {x : ArrN} {ms : List MemD} {ds : List (Int × List Int)} {fm fd : List Nat} (h : ArrAt w B x ms ds fm fd) : ArrAt w.drew B x ms ds fm fd := h.below ((Below.refl _ _).drew)
theorem ArrAt.alloc {w : World} {B : Nat} {x : ArrN} {ms : List MemD} {ds : List (Int × List Int)} {fm fd : List Nat} (h : ArrAt w B x ms ds fm fd) (o : Obj) : ArrAt (w.alloc o) B x ms ds fm fd := h.below (new_below w o)
/-- Another box is made anew. -/
theorem ArrAt.kept {w w' : World} {B : Nat} {fq : List Nat} {x : ArrN} {ms : List MemD} {ds : List (Int × List Int)} {fm fd : List Nat} (h : ArrAt w B x ms ds fm fd) (ht : Turned fq w w') (h0 : B ∉ fq) (h1 : ∀ b ∈ fm, b ∉ fq) (h2 : ∀ b ∈ fd, b ∉ fq) : ArrAt w' B x ms ds fm fd := by
  obtain ⟨bm, bd, cm, cd, hx, hm, hd, r⟩ := h
  exact ⟨bm, bd, cm, cd, hx.kept (ht.block B hx.lt h0), hm.kept ht h1, hd.kept ht h2, r⟩

theorem row_head {t : Ty} {E : TypeId} {w : World} {a : Option Addr} {n cap : Nat} {d : List t.D} {fp : List Nat} (h : (rowTy t E).Mine w [.slice a n cap] d fp) (hn : 0 < n) : ∃ g, a = some ⟨g, 0, none⟩ := by
  obtain ⟨h, _⟩ := h
  rcases h with ⟨h1, _⟩ | ⟨b, cap', cur, fps, h1, _⟩
  · simp at h1
    omega
  · simp at h1
    exact ⟨b, h1.1⟩
/-- The disk j of a row of one's own: its cells, and what they hold. -/
theorem disk_at {w : World} {E F : TypeId} {g n cap j : Nat} {ms : List MemD} {d : MemD} {fp : List Nat} (h : (tMemS E F).Mine w [.slice (some ⟨g, 0, none⟩) n cap] ms fp) (hj : ms[j]? = some d) :
    g < w.heap.size ∧ ∃ (a0 a1 a3 : Option Addr) (c0 c1 c3 : Nat) (ss : List (List Int)) (cs : List (Int × List Int)) (f : Bool) (bs : List Int), d = (ss, cs, f, bs) ∧ w.cell? ⟨g, j * 4, none⟩ = some (.slice a0 ss.length c0) ∧ w.cell? ⟨g, j * 4 + 1, none⟩ = some (.slice a1 cs.length c1) ∧ w.cell? ⟨g, j * 4 + 2, none⟩ = some (.bool f) ∧ w.cell? ⟨g, j * 4 + 3, none⟩ = some (.slice a3 bs.length c3) ∧
      tIntSS.Rd w [.slice a0 ss.length c0] ss ∧ (tWrS E).Rd w [.slice a1 cs.length c1] cs ∧ tIntS.Rd w [.slice a3 bs.length c3] bs := by
  have hjl := (List.getElem?_eq_some_iff.1 hj).1
  have hl := (row_length h.rd).1
  rcases quads_at rfl h.rd with h0 | ⟨b, off, hbo, hbl, hcs⟩
  · omega
  · simp at hbo
    obtain ⟨rfl, rfl⟩ := hbo
    obtain ⟨v0, v1, v2, v3, hv0, hv1, hv2, hv3, hrv⟩ := hcs j d hj
    obtain ⟨a0, c0, a1, c1, a3, c3, ss, cs, f, bs, rfl, rfl, rfl, rfl, rfl, r0, r1, r3⟩ := mem_at hrv
    rw [Nat.zero_add] at hv0 hv1 hv2 hv3
    exact ⟨hbl, a0, a1, a3, c0, c1, c3, ss, cs, f, bs, rfl, hv0, hv1, hv2, hv3, r0, r1, r3⟩
/-- A disk is put back into its place. -/
theorem arr_store {w1 w3 : World} {B g cm cd m : Nat} {bd : Option Addr} {x : ArrN} {ms : List MemD} {ds : List (Int × List Int)} {fm fd fpx : List Nat} {d : MemD} {u0 u1 u2 u3 : Value} (X : Box w1 B 33 (arrC x (.slice (some ⟨g, 0, none⟩) ms.length cm) (.slice bd ds.length cd))) (hm : (tMemS 109 51).Mine w1 [.slice (some ⟨g, 0, none⟩) ms.length cm] ms fm) (hd : (tWrS 82).Mine w1 [.slice bd ds.length cd] ds fd) (hr : ∀ b ∈ fm, b ∉ fd) (r1 : B ∉ fm) (r2 : B ∉ fd)
    (hb : Below w1.heap.size w1 w3) (hj : m < ms.length) (hx : (tMem 109).Mine w3 [u0, u1, u2, u3] d fpx) (hx2 : ∀ b ∈ fpx, w1.heap.size ≤ b) :
    (∀ q, q < 4 → ∃ old, w3.cell? ⟨g, m * 4 + q, none⟩ = some old) ∧ (∀ q, w3.frozen? ⟨g, q, none⟩ = false) ∧ g ∈ fm ∧ ∃ fm', ArrAt (put4 w3 g (m * 4) u0 u1 u2 u3) B x (ms.set m d) ds fm' fd ∧ Moved B fm w1 fm' (put4 w3 g (m * 4) u0 u1 u2 u3) := by
  have hlm := hm.lt
  have hld := hd.lt
  have hlB := X.lt
  obtain ⟨c, z, hg, fm', mA, rA⟩ := row_set4 (j := m) rfl (hm.below hb) hj hx (fun b hb' hm' => by have h1 := hx2 b hb'; have h2 := hlm b hm'; omega)
  have ht := put4_turned w3 g (m * 4) u0 u1 u2 u3
  have hgB : B ≠ g := fun e => r1 (e ▸ hg)
  have hgd : ∀ b ∈ fd, b ∉ [g] := fun b hb' hm' => by simp at hm'; exact hr g hg (hm' ▸ hb')
  refine ⟨c, z, hg, fm', ⟨some ⟨g, 0, none⟩, bd, cm, cd, ?_, ?_, (hd.below hb).kept ht hgd, ?_, ?_, r2⟩, ⟨⟨hb.os, hb.tape, hb.output, by rw [put4_size]; exact hb.size, fun b hb' hn => ?_⟩, fun b hb' => ?_⟩⟩
  · rw [List.length_set]
    exact (X.below hb hlB).kept (ht.block B (Nat.lt_of_lt_of_le hlB hb.size) (by simpa using hgB))
  · rw [List.length_set]
    exact mA
  · intro b hb' hm'
    rcases rA b hb' with h | h
    · exact hr b h hm'
    · have h1 := hx2 b h
      have h2 := hld b hm'
      omega
  · intro hm'
    rcases rA B hm' with h | h
    · exact r1 h
    · have := hx2 B h
      omega
  · rw [put4_other (fun e => hn (by rw [e]; exact List.mem_cons_of_mem _ hg)), hb.block b hb']
  · rcases rA b hb' with h | h
    · exact .inl h
    · exact .inr (hx2 b h)

end Go.Proofs.YtechckninoilhaaGreat

/-
  Plain lemmas on a struct that lies in a block of its own: its cells, and how they outlast later steps. No condition; nothing of the program is named here.
-/
import Derived.Test.YtbkkjfgjlapadaaGreatGrow
namespace Go.Proofs.YtbkkjfgjlapadaaGreat
open Go.RowKit

/-- The block B holds these cells. -/
def Box (w : World) (B : Nat) (T : TypeId) (cs : Array Value) : Prop := w.heap[B]? = some (.cells cs T (0, 0))

theorem Box.cell {w : World} {B : Nat} {T : TypeId} {cs : Array Value} (h : Box w B T cs) (j : Nat) : w.cell? ⟨B, j, none⟩ = cs[j]? := cell_of_row w B j cs T (0, 0) h
theorem Box.cells4 {w : World} {B : Nat} {T : TypeId} {v0 v1 v2 v3 : Value} (h : Box w B T #[v0, v1, v2, v3]) : w.cell? ⟨B, 0, none⟩ = some v0 ∧ w.cell? ⟨B, 1, none⟩ = some v1 ∧ w.cell? ⟨B, 2, none⟩ = some v2 ∧ w.cell? ⟨B, 3, none⟩ = some v3 :=
  ⟨h.cell 0, h.cell 1, h.cell 2, h.cell 3⟩
theorem Box.cells2 {w : World} {B : Nat} {T : TypeId} {v0 v1 : Value} (h : Box w B T #[v0, v1]) : w.cell? ⟨B, 0, none⟩ = some v0 ∧ w.cell? ⟨B, 1, none⟩ = some v1 := ⟨h.cell 0, h.cell 1⟩
theorem Box.frozen {w : World} {B : Nat} {T : TypeId} {cs : Array Value} (h : Box w B T cs) (j : Nat) : w.frozen? ⟨B, j, none⟩ = false := frozen_of_row w B j cs T h
theorem Box.lt {w : World} {B : Nat} {T : TypeId} {cs : Array Value} (h : Box w B T cs) : B < w.heap.size := (Array.getElem?_eq_some_iff.1 h).1
theorem Box.kept {w w' : World} {B : Nat} {T : TypeId} {cs : Array Value} (h : Box w B T cs) (hk : w'.heap[B]? = w.heap[B]?) : Box w' B T cs := hk.trans h
theorem Box.below {w w' : World} {B N : Nat} {T : TypeId} {cs : Array Value} (h : Box w B T cs) (hb : Below N w w') (hN : B < N) : Box w' B T cs := h.kept (hb.block B hN)
theorem Box.turned {w w' : World} {B : Nat} {T : TypeId} {cs : Array Value} {fp : List Nat} (h : Box w B T cs) (ht : Turned fp w w') (hB : B ∉ fp) : Box w' B T cs := h.kept (ht.block B h.lt hB)
theorem Box.same {w w' : World} {B : Nat} {T : TypeId} {cs : Array Value} (h : Box w B T cs) (hs : Same w w') : Box w' B T cs := h.kept (by rw [hs.heap])
theorem Box.set {w : World} {B : Nat} {T : TypeId} {cs : Array Value} (h : Box w B T cs) (j : Nat) (v : Value) : Box (w.setCell ⟨B, j, none⟩ v) B T (cs.setIfInBounds j v) := heap_setCell_same w B j cs T v h
theorem Box.other {w : World} {B g : Nat} {T : TypeId} {cs : Array Value} (h : Box w B T cs) (hne : B ≠ g) (j : Nat) (v : Value) : Box (w.setCell ⟨g, j, none⟩ v) B T cs := h.kept (Below.heap_setCell _ _ _ _ hne)
theorem Box.alloc {w : World} {B : Nat} {T : TypeId} {cs : Array Value} (h : Box w B T cs) (o : Obj) : Box (w.alloc o) B T cs := h.kept (((Below.refl (B + 1) w).alloc h.lt o).block B (Nat.lt_succ_self _))
theorem Box.new (w : World) (T : TypeId) (cs : Array Value) : Box (w.alloc (.cells cs T)) w.heap.size T cs := heap_alloc_new w _

theorem Turned.alloc {fp : List Nat} {w w' : World} (h : Turned fp w w') (o : Obj) : Turned fp w (w'.alloc o) :=
  ⟨h.os, h.tape, h.output, Nat.le_trans h.size (by simp), fun k hk hf => (((Below.refl (k + 1) w').alloc (Nat.lt_of_lt_of_le hk h.size) o).block k (Nat.lt_succ_self _)).trans (h.block k hk hf)⟩
theorem Turned.below {fp : List Nat} {w w' : World} {N : Nat} (h : Turned fp w w') (hN : N ≤ w.heap.size) (hf : ∀ b ∈ fp, N ≤ b) : Below N w w' :=
  ⟨h.os, h.tape, h.output, h.size, fun k hk => h.block k (by omega) (fun hm => by have := hf k hm; omega)⟩
theorem Turned.ofBelow {w w' : World} (h : Below w.heap.size w w') (fp : List Nat) : Turned fp w w' := ⟨h.os, h.tape, h.output, h.size, fun k hk _ => h.block k hk⟩
theorem Ty.Mine.below {t : Ty} {w w' : World} {vs : List Value} {d : t.D} {fp : List Nat} (h : t.Mine w vs d fp) (hb : Below w.heap.size w w') : t.Mine w' vs d fp := h.kept (Turned.ofBelow hb []) (by simp)
theorem Ty.Mine.alloc {t : Ty} {w : World} {vs : List Value} {d : t.D} {fp : List Nat} (h : t.Mine w vs d fp) (o : Obj) : t.Mine (w.alloc o) vs d fp := h.kept ((Turned.refl [] w).alloc o) (by simp)
theorem Ty.Mine.setCell {t : Ty} {w : World} {vs : List Value} {d : t.D} {fp : List Nat} {g j : Nat} (h : t.Mine w vs d fp) (hg : g ∉ fp) (v : Value) : t.Mine (w.setCell ⟨g, j, none⟩ v) vs d fp :=
  h.kept (Turned.setCell (fp := [g]) v (by simp)) (fun b hb hb' => hg (by simp at hb'; exact hb' ▸ hb))
theorem Ty.Rd.turned {t : Ty} {w w' : World} {vs : List Value} {d : t.D} {fp fq : List Nat} (h : t.rd w vs d fp) (ht : Turned fq w w') (hd : ∀ b ∈ fp, b ∉ fq) : t.rd w' vs d fp := t.rdKept h (fun b hb => ht.block b (t.rdLt h b hb) (hd b hb)) ht.size
theorem nil_mine {t : Ty} {E : TypeId} (w : World) : (rowTy t E).Mine w [.slice none 0 0] [] [] := ⟨.inl ⟨rfl, rfl, rfl⟩, by simp⟩
/-- An empty literal. -/
theorem lit0_mine {t : Ty} {E : TypeId} (w : World) : (rowTy t E).Mine (w.alloc (.cells #[] E)) [.slice (some ⟨w.heap.size, 0, none⟩) 0 0] [] [w.heap.size] :=
  ⟨.inr ⟨w.heap.size, 0, #[], [], rfl, Nat.le_refl _, by omega, heap_alloc_new w _, by simp, rfl, rfl, fun i x hx => by simp at hx⟩, by simp⟩
theorem news_new (w : World) (cs : Array Value) (T : TypeId) : ∀ j u, cs.toList[j]? = some u → (w.alloc (.cells cs T)).cell? ((⟨w.heap.size, 0, none⟩ : Addr).add j) = some u := World.news_of_block (heap_alloc_new w _)

end Go.Proofs.YtbkkjfgjlapadaaGreat

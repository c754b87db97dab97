/-
  Disks in memory of their own: plain lemmas. No condition.
-/
import Derived.Test.YtlcjfgmmjkandaaWalkMems
import Derived.Test.YtlcjfgmmjkandaaFrame
namespace Go.Proofs.Ytlcjfgmmjkandaa
open Go.RowKit

theorem mem_shape {E : TypeId} {w : World} {v0 v1 v3 : Value} {f : Bool} {x : MemD} (h : (tMem E).Rd w [v0, v1, .bool f, v3] x) : ∃ (e0 : Option Addr) (l0 g0 : Nat) (e1 : Option Addr) (l1 g1 : Nat) (e3 : Option Addr) (l3 g3 : Nat), v0 = .slice e0 l0 g0 ∧ v1 = .slice e1 l1 g1 ∧ v3 = .slice e3 l3 g3 := by
  obtain ⟨a0, c0, a1, c1, a3, c3, ss, cs, g, bs, _, h0, h1, _, h3, _⟩ := mem_at h
  first
    | exact ⟨_, _, _, _, _, _, _, _, _, h0, h1, h3⟩
    | (subst_vars; exact ⟨_, _, _, _, _, _, _, _, _, rfl, rfl, rfl⟩)
theorem Turned.belowN {N : Nat} {fp : List Nat} {w w' : World} (h : Turned fp w w') (hN : N ≤ w.heap.size) (hf : ∀ b ∈ fp, N ≤ b) : Below N w w' :=
  ⟨h.os, h.tape, h.output, h.size, fun k hk => h.block k (by omega) (fun hm => by have := hf k hm; omega)⟩
/-- A round that makes one element, appends it. -/
theorem round_below {w wr wc wA : World} {o : Obj} {fp : List Nat} (h : Below w.heap.size w wr) (hc : Below wr.heap.size wr wc) (ht : Turned fp (wc.alloc o) wA) (hf : ∀ b ∈ fp, w.heap.size ≤ b) : Below w.heap.size w wA := by
  have z1 := h.size
  have z2 := hc.size
  exact ((Below.andThen h hc).alloc (by omega) o).trans (ht.belowN (by simp; omega) hf)

end Go.Proofs.Ytlcjfgmmjkandaa

/-
  The walk of the specification's FlushMem: what is written is in its sector, the cache empty, in memory of its own; what is not MemOk, or failed, as it was. Condition: the disk weighs at most 2097152.
-/
import Derived.Test.YtlcjfgmmjkandaaWalkFlush
namespace Go.Proofs.Ytlcjfgmmjkandaa
open Go.RowKit

theorem wr_mine_inv {w : World} {vs : List Value} {x : Int × List Int} {fp : List Nat} (h : tWr.Mine w vs x fp) : ∃ a cap, vs = [.int .i64 x.1, .slice a x.2.length cap] ∧ tIntS.Mine w [.slice a x.2.length cap] x.2 fp := by
  have hl : vs.length = 2 := tWr.rdLen (tWr.owRd h.1)
  match vs, hl, h with
  | [u0, u1], _, h =>
    obtain ⟨f1, f2, hf, m1, m2, _⟩ := pair_mine (t := intTy) (u := tIntS) (vs := [u0]) (us := [u1]) rfl h
    obtain ⟨e1, e2⟩ := m1.1
    subst e2
    obtain ⟨a, cap, rfl⟩ := row_shape m2.rd
    refine ⟨a, cap, by simpa using e1, ?_⟩
    rw [hf]
    exact m2
theorem Turned.adrew {fp : List Nat} {w w' : World} (h : Turned fp w w') : Turned fp w w'.drew := ⟨h.os, h.tape, h.output, h.size, h.block⟩
theorem Ty.Mine.adrew {t : Ty} {w : World} {vs : List Value} {d : t.D} {fp : List Nat} (h : t.Mine w vs d fp) : t.Mine w.drew vs d fp := h.kept (Turned.adrew (Turned.refl [] w)) (by simp)
/-- The writes of a cache, each with its blocks. -/
theorem cache_parts {w : World} {E : TypeId} {lo hi n cap : Nat} {b : Option Addr} {cs : List (Int × List Int)} (h : (tWrS E).Own w lo hi [.slice b n cap] cs) :
    ∃ (gC : Nat) (F : Nat → List Nat), (n = 0 ∨ (b = some ⟨gC, 0, none⟩ ∧ lo ≤ gC ∧ gC < hi)) ∧ (∀ i x, cs[i]? = some x → ∃ a c, tIntS.Mine w [.slice a x.2.length c] x.2 (F i) ∧ (∀ b ∈ F i, lo ≤ b ∧ b < hi) ∧ w.cell? ⟨gC, i * 2, none⟩ = some (.int .i64 x.1) ∧ w.cell? ⟨gC, i * 2 + 1, none⟩ = some (.slice a x.2.length c)) ∧ ∀ i j, i < j → j < cs.length → ∀ b ∈ F i, b ∉ F j := by
  have hl := (row_length h.rd).1
  rcases h.rowShape with h0 | ⟨g, rfl⟩
  · refine ⟨0, fun _ => [], .inl h0, fun i x hx => ?_, by simp⟩
    have := (List.getElem?_eq_some_iff.1 hx).1
    omega
  · obtain ⟨fp, m, r⟩ := h.mine
    obtain ⟨hg, F, h1, h2⟩ := row_parts m
    refine ⟨g, F, .inr ⟨rfl, r g hg⟩, fun i x hx => ?_, h2⟩
    obtain ⟨vs, m1, _, m3, m4⟩ := h1 i x hx
    obtain ⟨a, c, rfl, m5⟩ := wr_mine_inv m1
    exact ⟨a, c, m5, fun b hb => r b (m3 b hb), m4 0 (by decide), m4 1 (by decide)⟩

end Go.Proofs.Ytlcjfgmmjkandaa

/-
  Plain lemmas on data that reads so through blocks from lo on below hi (nothing is said of whose they are). No condition; nothing of the program is named here.
-/
import Derived.Test.YtljkjbfkekihjaaFrame
namespace Go.Proofs.Ytljkjbfkekihjaa
open Go.RowKit

/-- It reads so, through blocks from lo on below hi. -/
def Ty.In (t : Ty) (w : World) (lo hi : Nat) (vs : List Value) (d : t.D) : Prop := ∃ fp, t.rd w vs d fp ∧ ∀ b ∈ fp, lo ≤ b ∧ b < hi

theorem Ty.In.rd {t : Ty} {w : World} {lo hi : Nat} {vs : List Value} {d : t.D} (h : t.In w lo hi vs d) : t.Rd w vs d := by
  obtain ⟨fp, h, _⟩ := h
  exact ⟨fp, h⟩
theorem Ty.Own.toIn {t : Ty} {w : World} {lo hi : Nat} {vs : List Value} {d : t.D} (h : t.Own w lo hi vs d) : t.In w lo hi vs d := by
  obtain ⟨fp, h, _, hr⟩ := h
  exact ⟨fp, t.owRd h, hr⟩
theorem Ty.Mine.toIn {t : Ty} {w : World} {lo hi : Nat} {vs : List Value} {d : t.D} {fp : List Nat} (h : t.Mine w vs d fp) (hr : ∀ b ∈ fp, lo ≤ b ∧ b < hi) : t.In w lo hi vs d := ⟨fp, t.owRd h.1, hr⟩
theorem Ty.In.but {t : Ty} {w w' : World} {lo hi l h' : Nat} {vs : List Value} {d : t.D} (h : t.In w lo hi vs d) (hb : But l h' w w') (hd : hi ≤ l ∨ h' ≤ lo) : t.In w' lo hi vs d := by
  obtain ⟨fp, h, hr⟩ := h
  exact ⟨fp, t.rdKept h (fun b hb' => hb.block b (t.rdLt h b hb') (by have := hr b hb'; omega)) hb.size, hr⟩
theorem Ty.In.below {t : Ty} {w w' : World} {lo hi : Nat} {vs : List Value} {d : t.D} (h : t.In w lo hi vs d) (hb : Below w.heap.size w w') : t.In w' lo hi vs d := by
  obtain ⟨fp, h, hr⟩ := h
  exact ⟨fp, t.rdKept h (fun b hb' => hb.block b (t.rdLt h b hb')) hb.size, hr⟩
theorem Ty.In.under {t : Ty} {w w' : World} {lo hi N : Nat} {vs : List Value} {d : t.D} (h : t.In w lo hi vs d) (hb : Below N w w') (hN : hi ≤ N) : t.In w' lo hi vs d := by
  obtain ⟨fp, h, hr⟩ := h
  exact ⟨fp, t.rdKept h (fun b hb' => hb.block b (by have := hr b hb'; omega)) hb.size, hr⟩
theorem Ty.In.turned {t : Ty} {w w' : World} {lo hi : Nat} {vs : List Value} {d : t.D} {fq : List Nat} (h : t.In w lo hi vs d) (ht : Turned fq w w') (hd : ∀ b ∈ fq, b < lo ∨ hi ≤ b) : t.In w' lo hi vs d := by
  obtain ⟨fp, h, hr⟩ := h
  exact ⟨fp, t.rdKept h (fun b hb' => ht.block b (t.rdLt h b hb') (fun hm => by have h1 := hr b hb'; have h2 := hd b hm; omega)) ht.size, hr⟩
theorem Ty.In.widen {t : Ty} {w : World} {lo hi lo' hi' : Nat} {vs : List Value} {d : t.D} (h : t.In w lo hi vs d) (h1 : lo' ≤ lo) (h2 : hi ≤ hi') : t.In w lo' hi' vs d := by
  obtain ⟨fp, h, hr⟩ := h
  exact ⟨fp, h, fun b hb => by have := hr b hb; omega⟩
/-- No element. -/
theorem nil_in {t : Ty} {E : TypeId} (w : World) (lo hi : Nat) (a : Addr) : (rowTy t E).In w lo hi [.slice (some a) 0 0] [] := ⟨[], ⟨some a, 0, rfl, Nat.le_refl _, by omega, .inl ⟨rfl, rfl, fun h => by cases h⟩⟩, by simp⟩

/-- A disk's three lists, each with its blocks. -/
theorem mem_mines {w : World} {E : TypeId} {lo hi : Nat} {v0 v1 v3 : Value} {f : Bool} {ss : List (List Int)} {cs : List (Int × List Int)} {bs : List Int} (h : (tMem E).Own w lo hi [v0, v1, .bool f, v3] (ss, cs, f, bs)) :
    ∃ f0 f1 f3, tIntSS.Mine w [v0] ss f0 ∧ (tWrS E).Mine w [v1] cs f1 ∧ tIntS.Mine w [v3] bs f3 ∧ (∀ b ∈ f0, lo ≤ b ∧ b < hi ∧ b ∉ f1 ∧ b ∉ f3) ∧ (∀ b ∈ f1, lo ≤ b ∧ b < hi ∧ b ∉ f0 ∧ b ∉ f3) ∧ ∀ b ∈ f3, lo ≤ b ∧ b < hi ∧ b ∉ f0 ∧ b ∉ f1 := by
  obtain ⟨fp, h, hr⟩ := h.mine
  obtain ⟨f0, g1, rfl, m0, h, d0⟩ := pair_mine (t := tIntSS) (u := pairTy (tWrS E) (pairTy boolTy tIntS)) (vs := [_]) (us := [_, _, _]) rfl h
  obtain ⟨f1, g2, rfl, m1, h, d1⟩ := pair_mine (t := tWrS E) (u := pairTy boolTy tIntS) (vs := [_]) (us := [_, _]) rfl h
  obtain ⟨fb, f3, rfl, _, m3, _⟩ := pair_mine (t := boolTy) (u := tIntS) (vs := [_]) (us := [_]) rfl h
  refine ⟨f0, f1, f3, m0, m1, m3, fun b hb => ?_, fun b hb => ?_, fun b hb => ?_⟩
  · have h1 := hr b (by simp [hb])
    have h2 := d0 b hb
    simp at h2
    exact ⟨h1.1, h1.2, h2.1, h2.2.2⟩
  · have h1 := hr b (by simp [hb])
    have h2 := d1 b hb
    simp at h2
    refine ⟨h1.1, h1.2, fun hm => ?_, h2.2⟩
    have := d0 b hm
    simp [hb] at this
  · have h1 := hr b (by simp [hb])
    refine ⟨h1.1, h1.2, fun hm => ?_, fun hm => ?_⟩
    · have := d0 b hm
      simp [hb] at this
    · have := d1 b hm
      simp [hb] at this

end Go.Proofs.Ytljkjbfkekihjaa

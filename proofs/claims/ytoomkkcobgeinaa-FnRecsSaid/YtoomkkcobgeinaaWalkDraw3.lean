/-
  The walk of the specification's draw of what is got, for the law of sectors. Condition: at most 2097152 bytes to draw from.
-/
import Derived.Test.YtoomkkcobgeinaaWalkDraw2
import Derived.Test.YtoomkkcobgeinaaWalkSpecPut
namespace Go.Proofs.Ytoomkkcobgeinaa
open Go.RowKit

theorem secB_few {xs : List Int} (h : xs.length ≤ 4) (hw : allW xs = true) : secB xs = true := by
  unfold secB
  rw [hw]
  simp
  omega

theorem wordsL_bytes {xs : List Int} (h : allW xs = true) : ∀ y ∈ wordsL xs, 0 ≤ y ∧ y ≤ 255 := by
  intro y hy
  unfold wordsL at hy
  rw [List.mem_flatMap] at hy
  obtain ⟨n, hn, hy⟩ := hy
  unfold allW at h
  rw [List.all_eq_true] at h
  have := h n hn
  simp [isW] at this
  simp at hy
  omega

theorem putL_few {xs : List Int} (h : xs.length ≤ 4) (hw : allW xs = true) : (putL [] xs).length = 1 + 2 * xs.length ∧ ∀ y ∈ putL [] xs, 0 ≤ y ∧ y ≤ 255 := by
  unfold putL
  rw [if_pos (secB_few h hw)]
  refine ⟨?_, ?_⟩
  · simp [wordsL_length]
    omega
  · intro y hy
    simp at hy
    rcases hy with rfl | hy
    · omega
    · exact wordsL_bytes hw y hy

theorem set_bytes {bs : List Int} (h : ∀ y ∈ bs, 0 ≤ y ∧ y ≤ 255) (k : Nat) (x : Int) (h0 : 0 ≤ x) (h1 : x ≤ 255) : ∀ y ∈ bs.set k x, 0 ≤ y ∧ y ≤ 255 := by
  intro y hy
  rcases List.mem_or_eq_of_mem_set hy with hy | rfl
  · exact h y hy
  · exact ⟨h0, h1⟩

theorem Reads.take {k : IntKind} {w : World} {a : Option Addr} {zs : List Int} (h : Reads k w a zs) (n : Nat) : Reads k w a (zs.take n) := by
  rcases h with rfl | ⟨b, off, ha, hlt, hc⟩
  · exact .inl (by simp)
  · refine .inr ⟨b, off, ha, hlt, fun i hi => ?_⟩
    have hl : i < n ∧ i < zs.length := by simp at hi; omega
    rw [hc i hl.2, List.getD_eq_getElem?_getD, List.getD_eq_getElem?_getD, List.getElem?_take, if_pos hl.1]

theorem Draws.but {w w' : World} {g lb cb l h' : Nat} {a : Option Addr} {zs : List Int} (h : Draws w g a lb cb zs) (hb : But l h' w w') (hd : g < l) : Draws w' g a lb cb zs :=
  ⟨h.cur.but hb (.inl hd), h.len, h.reads.but hb (by rw [h.len]; exact fun h0 x hx => Nat.lt_trans (h.ahead h0 x hx) hd), h.bytes, h.few, h.ahead⟩
theorem Own.alloc {k : IntKind} {E : TypeId} {w : World} {lo hi : Nat} {v : Value} {zs : List Int} (h : Own k E w lo hi v zs) (o : Obj) : Own k E (w.alloc o) lo hi v zs := h.below ((Below.refl _ _).alloc (Nat.le_refl _) o)
theorem place_bounds {n : Nat} {p : Int} (hn : n ≤ 9) (h : p ∈ [(0 : Int), 0, 0, 1, (n : Int), -1, 9223372036854775807]) : -9223372036854775808 ≤ p ∧ p ≤ 9223372036854775807 := by
  simp at h
  omega

end Go.Proofs.Ytoomkkcobgeinaa

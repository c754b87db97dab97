/-
  What the program answers of a command: how many blocks it has, its code, its span, and whether two clash. Condition: at most 2097152 words each.
-/
import Derived.Test.YtplieehocceplabWalkCmd
namespace Go.Proofs.Ytplieehocceplab
open Go.RowKit

theorem opOk_any (w : World) (o : Int) : Calls Try.prog 20 #[.int .i64 o] w fun e w' => e = .returned (.bool (inB o 1 6)) ∧ w' = w := by
  go_enter Try.func20, Try.ntmps20
  go_wp2_with fail
  refine (within_any _ _ _ _).mono ?_
  rintro e w1 ⟨rfl, rfl⟩
  go_wp2
  go_ret
  exact ⟨rfl, rfl⟩

theorem sec_bad {o k : Int} {zs : List Int} (h : o = 2 ∨ o = 3) (hq : secB zs = false) : sizeC o k zs = false := by
  rw [size2 h]
  cases hl : inB (zs.length : Int) 1 6
  · rfl
  · rw [← secB_six hl, hq]
    rfl
theorem sec_good {o k : Int} {zs : List Int} (h : o = 2 ∨ o = 3) (hq : secB zs = true) (hl : inB (lenC o k zs) 1 6 = true) : sizeC o k zs = true := by
  rw [len2 h] at hl
  rw [size2 h, hl, ← secB_six hl, hq]
  rfl
theorem size_long {o k : Int} {zs : List Int} (h : o = 2 ∨ o = 3) (hl : inB (lenC o k zs) 1 6 = false) : sizeC o k zs = false := by
  rw [len2 h] at hl
  rw [size2 h, hl]
  rfl
theorem five_never {k : Int} {zs : List Int} (h : inB (lenC 5 k zs) 1 6 = false) : sizeC 5 k zs = false := by
  rw [len5] at h
  exact absurd h (by decide)
theorem two_bad {k : Int} {zs : List Int} (hq : secB zs = false) : sizeC 5 k zs = false := by
  rw [size5]
  by_cases hl : zs.length = 2
  · rw [← secB_two hl, hq]
    simp
  · simp [hl]
theorem two_not {k : Int} {zs : List Int} (hl : ¬ zs.length = 2) : sizeC 5 k zs = false := by
  rw [size5]
  simp [hl]
theorem two_good {k : Int} {zs : List Int} (hl : zs.length = 2) (hq : secB zs = true) : sizeC 5 k zs = true := by
  rw [size5, ← secB_two hl, hq]
  simp [hl]

end Go.Proofs.Ytplieehocceplab

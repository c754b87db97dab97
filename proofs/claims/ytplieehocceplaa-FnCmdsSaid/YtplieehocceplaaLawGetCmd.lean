/-
  The walk of the exact law of GetCmd: at every slice of int it answers true, and nothing that was there has turned. No condition.
-/
import Derived.Test.YtplieehocceplaaWalkGetCmd2
namespace Go.Proofs.Ytplieehocceplaa
open Go.RowKit

theorem getCv_le (zs : List Int) : (getCv zs).2.2.2.2.length ≤ 6 := by
  unfold getCv
  split
  · rename_i h
    match zs, h with
    | z0 :: z1 :: z2 :: z3 :: z4 :: ds, h =>
      unfold getCB putB at h
      simp only [Bool.and_eq_true, decide_eq_true_eq] at h
      simpa using h.2.2.1
  · simp
theorem specGetCmd_v (w : World) (a : Option Addr) (n cap : Nat) (zs : List Int) {r0 r1 r2 r3 : Int} {rz : List Int} {rn : Nat} {rb : Bool} (h : tIntS.Rd w [.slice a n cap] zs) (hn : n ≤ 1500000) (hv : getCv zs = (r0, r1, r2, r3, rz)) (hb : getCB zs = rb) (hl : rz.length = rn) :
    Calls Try.prog 14 #[.slice a n cap] w fun e w' => ∃ a' c', e = .returned (.tuple #[.agg #[.int .i64 r0, .int .i64 r1, .int .i64 r2, .int .i64 r3, .slice a' rn c'], .bool rb]) ∧ tIntS.Own w' w.heap.size w'.heap.size [.slice a' rn c'] rz ∧ Below w.heap.size w w' := by
  refine (specGetCmd_any w a n cap zs h hn).mono ?_
  rintro e w' ⟨a', l', c', rfl, o, hb'⟩
  rw [hv] at o ⊢
  rw [hb]
  obtain ⟨rfl, o'⟩ := own_len2 o rfl hl
  exact ⟨a', c', rfl, o', hb'⟩
theorem implGetCmd_v (w : World) (a : Option Addr) (n cap : Nat) (zs : List Int) {r0 r1 r2 r3 : Int} {rz : List Int} {rn : Nat} {rb : Bool} (h : tIntS.Rd w [.slice a n cap] zs) (hn : n ≤ 1500000) (hv : getCv zs = (r0, r1, r2, r3, rz)) (hb : getCB zs = rb) (hl : rz.length = rn) :
    Calls Try.prog 13 #[.slice a n cap] w fun e w' => ∃ a' c', e = .returned (.tuple #[.agg #[.int .i64 r0, .int .i64 r1, .int .i64 r2, .int .i64 r3, .slice a' rn c'], .bool rb]) ∧ tIntS.Own w' w.heap.size w'.heap.size [.slice a' rn c'] rz ∧ Below w.heap.size w w' := by
  refine (implGetCmd_any w a n cap zs h hn).mono ?_
  rintro e w' ⟨a', l', c', rfl, o, hb'⟩
  rw [hv] at o ⊢
  rw [hb]
  obtain ⟨rfl, o'⟩ := own_len2 o rfl hl
  exact ⟨a', c', rfl, o', hb'⟩

end Go.Proofs.Ytplieehocceplaa

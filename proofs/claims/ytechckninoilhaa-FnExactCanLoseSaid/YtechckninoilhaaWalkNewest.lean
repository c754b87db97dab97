/-
  The walk of the program's newest: a map that holds, by its number, what was last written to each sector. Conditions: at most 2097152 writes, each of a sector 0 .. 20.
-/
import Derived.Test.YtechckninoilhaaWalkMemOk
import Derived.Test.YtechckninoilhaaBox
import Derived.Maps.Own
import Derived.Maps.OwnSet
import Derived.Maps.OwnOps
import Derived.Maps.Views
namespace Go.Proofs.Ytechckninoilhaa
open Go.RowKit Go.Maps

/-- An element of the map is held as it is. -/
def heldV (v : Value) : Option (DataW Value × List MemPlace) := some (.held v, [])
/-- What was last written to a sector. -/
def lastW (l : List (Int × List Int)) (q : Int) : Option (List Int) := l.foldl (fun acc x => if x.1 = q then some x.2 else acc) none
theorem lastW_snoc (l : List (Int × List Int)) (x : Int × List Int) (q : Int) : lastW (l ++ [x]) q = if x.1 = q then some x.2 else lastW l q := by
  unfold lastW
  rw [List.foldl_append]
  rfl

/-- The map's datum is as these writes. -/
def LastOk (w : World) (l : List (Int × List Int)) (D : DataW Value) : Prop :=
  ∀ q : Int, (lastW l q = none → Maps.has D (.int .i64 q) = false) ∧ ∀ zs, lastW l q = some zs → Maps.has D (.int .i64 q) = true ∧ ∃ a n cap, (∀ z, D.atKey (.int .i64 q) z = .held (.agg #[.int .i64 q, .slice a n cap])) ∧ tIntS.Rd w [.slice a n cap] zs

theorem LastOk.nil (w : World) : LastOk w [] (.map []) := fun q => ⟨fun _ => rfl, fun zs h => by simp [lastW] at h⟩
theorem LastOk.step {w : World} {l : List (Int × List Int)} {D : DataW Value} (h : LastOk w l D) (hD : IsMap D) (x0 : Int) (x1 : List Int) (a : Option Addr) (n cap : Nat) (hr : tIntS.Rd w [.slice a n cap] x1) :
    LastOk w (l ++ [(x0, x1)]) (D.put (.int .i64 x0) (.held (.agg #[.int .i64 x0, .slice a n cap]))) := by
  intro q
  rw [lastW_snoc]
  by_cases hq : x0 = q
  · subst hq
    simp only [if_true]
    refine ⟨fun e => by simp at e, fun zs e => ?_⟩
    simp at e
    subst e
    have hk : WideAt.IsKeyLit (.int .i64 x0) := trivial
    exact ⟨has_put_same hD hk _, a, n, cap, fun z => atKey_put_same hD hk _ _, hr⟩
  · simp only [hq, if_false]
    have hne : (Lit.int .i64 q) ≠ Lit.int .i64 x0 := fun e => by simp at e; exact hq e.symm
    refine ⟨fun e => ?_, fun zs e => ?_⟩
    · rw [has_put_other hne]
      exact (h q).1 e
    · obtain ⟨h1, a', n', c', h2, h3⟩ := (h q).2 zs e
      exact ⟨by rw [has_put_other hne]; exact h1, a', n', c', fun z => by rw [atKey_put_other hne]; exact h2 z, h3⟩

theorem lawInt : Keyed Try.prog 3 := int_keyed Try.underlying3

theorem key_int {q : Int} (h0 : 0 ≤ q) (h1 : q ≤ 2097152) : keyOf Try.prog 3 (.int .i64 q) = some (.int .i64 q) := keyOf_int_mk Try.underlying3 (WalkArith.wf_i64 (by omega))
theorem zeroWr (w : World) : (zeroValue 91).run Try.prog w = .ok (.agg #[.int .i64 0, .slice none 0 0]) w := by kernel_rfl

end Go.Proofs.Ytechckninoilhaa

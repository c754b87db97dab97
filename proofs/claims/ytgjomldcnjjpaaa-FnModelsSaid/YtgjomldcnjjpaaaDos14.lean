/-
  Several commands, one behind the other, as plain definitions. No condition.
-/
import Derived.Test.YtgjomldcnjjpaaaDone14
import Derived.Test.YtgjomldcnjjpaaaRows14
namespace Go.Proofs.Ytgjomldcnjjpaaa
open Go.RowKit

/-- One command on blocks: the blocks behind it, and its answer. -/
def do1 (gn gs : Int) (ls : List Int) (c : CmdD) : List Int × AnsD := ((doC gn gs ls c.1 c.2.1 c.2.2.1 c.2.2.2.1 c.2.2.2.2).1, c.2.1, (doC gn gs ls c.1 c.2.1 c.2.2.1 c.2.2.2.1 c.2.2.2.2).2)
def doL (gn gs : Int) : List Int → List CmdD → List Int × List AnsD
  | ls, [] => (ls, [])
  | ls, c :: cs => ((doL gn gs (do1 gn gs ls c).1 cs).1, (do1 gn gs ls c).2 :: (doL gn gs (do1 gn gs ls c).1 cs).2)
def doS (gn gs : Int) (ls : List Int) (cs : List CmdD) : List Int × List AnsD := doL gn gs ls (cs.take 400)

theorem do1_len (gn gs : Int) (ls : List Int) (c : CmdD) : (do1 gn gs ls c).1.length = ls.length := doC_len _ _ _ _ _ _ _ _
theorem do1_vals (gn gs : Int) (ls : List Int) (c : CmdD) : (do1 gn gs ls c).2.2.2.length ≤ 6 := doC_vals _ _ _ _ _ _ _ _
theorem doL_app (gn gs : Int) (ls : List Int) (cs ds : List CmdD) : doL gn gs ls (cs ++ ds) = ((doL gn gs (doL gn gs ls cs).1 ds).1, (doL gn gs ls cs).2 ++ (doL gn gs (doL gn gs ls cs).1 ds).2) := by
  induction cs generalizing ls with
  | nil => rfl
  | cons c cs ih => simp only [List.cons_append, doL, ih]
theorem doL_len (gn gs : Int) (ls : List Int) (cs : List CmdD) : (doL gn gs ls cs).1.length = ls.length ∧ (doL gn gs ls cs).2.length = cs.length := by
  induction cs generalizing ls with
  | nil => exact ⟨rfl, rfl⟩
  | cons c cs ih =>
    obtain ⟨h1, h2⟩ := ih (do1 gn gs ls c).1
    exact ⟨h1.trans (do1_len gn gs ls c), by simp only [doL, List.length_cons, h2]⟩
theorem doL_snoc {gn gs : Int} {ls : List Int} {cs : List CmdD} {j : Nat} {c : CmdD} (h : cs[j]? = some c) : doL gn gs ls (cs.take (j + 1)) = ((do1 gn gs (doL gn gs ls (cs.take j)).1 c).1, (doL gn gs ls (cs.take j)).2 ++ [(do1 gn gs (doL gn gs ls (cs.take j)).1 c).2]) := by
  have hj : j < cs.length := (List.getElem?_eq_some_iff.1 h).1
  rw [List.take_succ_eq_append_getElem hj, doL_app]
  rw [List.getElem?_eq_getElem hj] at h
  simp at h
  rw [h]
  rfl
theorem doS_len (gn gs : Int) (ls : List Int) (cs : List CmdD) : (doS gn gs ls cs).1.length = ls.length ∧ (doS gn gs ls cs).2.length = min 400 cs.length := by
  obtain ⟨h1, h2⟩ := doL_len gn gs ls (cs.take 400)
  exact ⟨h1, by unfold doS; rw [h2, List.length_take]⟩
theorem doL_wt (gn gs : Int) (ls : List Int) (cs : List CmdD) : sumL ((doL gn gs ls cs).2.map fun x => x.2.2.length) ≤ 6 * cs.length := by
  induction cs generalizing ls with
  | nil => simp [doL, sumL]
  | cons c cs ih =>
    have h1 := do1_vals gn gs ls c
    have h2 := ih (do1 gn gs ls c).1
    simp only [doL, List.map_cons, sumL, List.foldr_cons, List.length_cons] at *
    omega

end Go.Proofs.Ytgjomldcnjjpaaa

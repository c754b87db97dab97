/-
  What DoCmds answers, by its parts, each a letter. Conditions: at most 2097152 blocks, at most 1048576 commands and words of them in all.
-/
import Derived.Test.YtgjomldcnjjpaaaWalkDosI
import Derived.Test.YtgjomldcnjjpaaaAnsS14
import Derived.Test.YtgjomldcnjjpaaaDoCmdV14
namespace Go.Proofs.Ytgjomldcnjjpaaa
open Go.RowKit

theorem doS_wt (gn gs : Int) (ls : List Int) (cs : List CmdD) : wttAnsS (doS gn gs ls cs).2 ≤ 2800 := by
  have h1 := (doS_len gn gs ls cs).2
  have h2 := doL_wt gn gs ls (cs.take 400)
  rw [List.length_take] at h2
  unfold wttAnsS
  unfold doS at h1 ⊢
  omega
theorem implDoCmds_v (w : World) (E : TypeId) (gn gs : Int) (al : Option Addr) (nl cl : Nat) (ls : List Int) (hls : tIntS.Rd w [.slice al nl cl] ls) (hnl : nl ≤ 2097152) (ac : Option Addr) (nc cc : Nat) (cs : List CmdD) (hcs : (tCmdS E).Rd w [.slice ac nc cc] cs) (hw : wttCmdS cs ≤ 1048576) {xs : List Int} {ys : List AnsD} {yn : Nat} (hx : doS gn gs ls cs = (xs, ys)) (hy : ys.length = yn) :
    Calls Try.prog 9 #[.agg #[.int .i64 gn, .int .i64 gs], .slice al nl cl, .slice ac nc cc] w fun e w' => ∃ mid a1 c1 b2 c2, e = .returned (.tuple #[.slice a1 nl c1, .slice (some ⟨b2, 0, none⟩) yn c2]) ∧ tIntS.Own w' w.heap.size mid [.slice a1 nl c1] xs ∧ (tAnsS 44).Own w' mid w'.heap.size [.slice (some ⟨b2, 0, none⟩) yn c2] ys ∧ w.heap.size ≤ mid ∧ mid ≤ w'.heap.size ∧ Below w.heap.size w w' := by
  refine (implDoCmds_any w E gn gs al nl cl ls hls hnl ac nc cc cs hcs hw).mono ?_
  rintro e w' ⟨mid, a1, c1, b2, c2, rfl, o1, o2, h1, h2, hb⟩
  rw [hx] at o1 o2 ⊢
  dsimp only at o1 o2 ⊢
  rw [hy] at o2 ⊢
  exact ⟨mid, a1, c1, _, c2, rfl, o1, o2, h1, h2, hb⟩

end Go.Proofs.Ytgjomldcnjjpaaa

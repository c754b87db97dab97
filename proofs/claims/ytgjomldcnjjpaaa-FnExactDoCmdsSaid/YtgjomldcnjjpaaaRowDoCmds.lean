/-
  The exact law of DoCmds holds: for every Geo, every slice of int and every slice of commands the law returns true. No condition.
-/
import Derived.Test.YtgjomldcnjjpaaaRows
import Derived.Lib.SmallJoins
import Derived.Test.YtgjomldcnjjpaaaLawDoCmds
import Derived.Test.YtgjomldcnjjpaaaOpenCmds
import Derived.WalkKit
import Derived.ProofKit
import Derived.OpenShut
import Derived.ShutString
import Derived.ChangeOld
import Derived.Below
namespace Go.Proofs.Ytgjomldcnjjpaaa.fnExactDoCmds
open Go.ChangeShapes Go.WideShapes Go.ChangeAt Go.RowKit Go.Joins
open Go.ChangeMaps (open_string shut_string)
set_option linter.unusedVariables false

theorem own : ownKnob Try.prog.godebug = none := by kernel_rfl
theorem laidOut : laidOutB Try.prog = true := by kernel_rfl

set_option maxRecDepth 100000 in
theorem lifted (os : Os) (started : os.Started) (H : Type) (enc : TypeId × Value → H) :
    ReturnsInHanded {} Try.checked os 6 .any (Rows.fnExactDoCmdsSpec.pre6 enc Try.prog Try.f6 Rows.fnExactDoCmdsRow.domain false) (Rows.fnExactDoCmdsSpec.post enc Try.prog Try.f6 false true false false) := by
  refine returnsInHanded_of_change (C := Try.checked) own started (by kernel_rfl) Try.func6
    (ChangeSpec.witness6 (enc := enc) (C := Try.checked) false ⟨#[], #[.agg #[.int .i64 0, .int .i64 0], .slice none 0 0, .slice none 0 0], []⟩ 8 (by kernel_rfl) (by kernel_rfl) (by kernel_rfl) (by kernel_rfl)) ?_
  intro W base args ds gs before hval0 hW hcnd _
  have hval : ∀ (j : Nat) t v, Try.f6.params[j]? = some t → args[j]? = some v → Value.okWide Try.prog W .any base t v := hval0
  have hW' := hW
  obtain ⟨p, q, hA0, hV, rfl, hfz, hnd⟩ := hW
  have hA : DataW.TrodAll enc Try.prog W 0 (fun _ => true) true Try.f6.params.toList args.toList ds p := hA0
  rw [Try.params6] at hA hval
  obtain ⟨v0, vs0, d0, ds0, p0, q0, hargs0, rfl, rfl, h0, r0⟩ := trodAll_cons hA
  obtain ⟨v1, vs1, d1, ds1, p1, q1, hargs1, rfl, rfl, h1, r1⟩ := trodAll_cons r0
  obtain ⟨v2, vs2, d2, ds2, p2, q2, hargs2, rfl, rfl, h2, r2⟩ := trodAll_cons r1
  obtain ⟨rfl, rfl, rfl⟩ := trodAll_nil r2
  obtain rfl : args = #[v0, v1, v2] := by cases args; simp_all
  obtain ⟨rfl, rfl⟩ := trodVars_none hV
  have k0 := h0
  have lt0 : ∀ x ∈ p0, x.block < W.heap.size := by obtain ⟨m, hm⟩ := k0; exact DataW.trod_lt m _ _ _ hm
  obtain ⟨u0_0, u0_1, y0_0, y0_1, nn0, rfl, _, _, t0_0, t0_1⟩ := open_agg2 Try.underlying45 (by kernel_rfl) (by kernel_rfl) (hval 0 45 v0 rfl rfl) h0
  obtain ⟨x0_0, hx0_0, _, _⟩ := DataW.trod_int Try.underlying3 t0_0
  simp at hx0_0
  subst hx0_0
  obtain ⟨x0_1, hx0_1, _, _⟩ := DataW.trod_int Try.underlying3 t0_1
  simp at hx0_1
  subst hx0_1
  have k1 := h1
  have lt1 : ∀ x ∈ p1, x.block < W.heap.size := by obtain ⟨m, hm⟩ := k1; exact DataW.trod_lt m _ _ _ hm
  obtain ⟨a1, l1, c1, hv1⟩ := okWide_slice Try.underlying26 (hval 1 26 v1 rfl rfl)
  subst hv1
  obtain ⟨zs1, g1⟩ : ∃ zs, tIntS.Rd W [.slice a1 l1 c1] zs := by
    obtain ⟨fuel, hf⟩ := h1
    exact rdInts_of Try.underlying26 Try.underlying3 (by kernel_rfl) hf
  have k2 := h2
  have lt2 : ∀ x ∈ p2, x.block < W.heap.size := by obtain ⟨m, hm⟩ := k2; exact DataW.trod_lt m _ _ _ hm
  obtain ⟨a2, l2, c2, hv2⟩ := okWide_slice Try.underlying59 (hval 2 59 v2 rfl rfl)
  subst hv2
  obtain ⟨cs2, g2⟩ : ∃ d, (tCmdS 49).Rd W [.slice a2 l2 c2] d := by
    obtain ⟨fuel, hf⟩ := h2
    exact rdCmdS_of hf
  clear hA0 hval0
  refine (fnExactDoCmds_walk x0_0 x0_1 a1 l1 c1 zs1 a2 l2 c2 cs2 W g1 g2).mono fun e W' ⟨he, bel⟩ => ?_
  subst he
  exact ⟨_, rfl, _, _, _, [], _, [], hW', trodAll_mk1 (shut_bool Try.underlying4 _), (trodAll_cons_mk (Below.trod laidOut (by kernel_rfl) (of_decide_eq_true (by kernel_rfl)) k0 bel lt0) (trodAll_cons_mk (Below.trod laidOut (by kernel_rfl) (of_decide_eq_true (by kernel_rfl)) k1 bel lt1) (trodAll_cons_mk (Below.trod laidOut (by kernel_rfl) (of_decide_eq_true (by kernel_rfl)) k2 bel lt2) trodAll_mk0))), rfl, bel.frame _, fun h => by cases h⟩

theorem over : Rows.fnExactDoCmdsRow.holds Try.pinned (OpenSpec.ofChange Rows.fnExactDoCmdsSpec) :=
  OpenClaim.holds_of_wide 6 Try.f6 rfl rfl rfl rfl rfl rfl rfl ⟨rfl, rfl, rfl, rfl, rfl⟩ rfl rfl rfl rfl rfl (by kernel_rfl) Try.func6 (by kernel_rfl)
    (of_decide_eq_true (by kernel_rfl)) (by unfold Func.isWrapper; first | (rw [if_pos (by decide +kernel)]; kernel_rfl) | (rw [if_neg (by decide +kernel)]; exact ⟨rfl, rfl⟩))
    (fun os started H enc _ => lifted os started H enc)
end Go.Proofs.Ytgjomldcnjjpaaa.fnExactDoCmds

namespace Go.Proofs.Ytgjomldcnjjpaaa
/-- The given statement. -/
theorem fnExactDoCmds_holds : Rows.FnExactDoCmdsSaid := fnExactDoCmds.over
#print axioms fnExactDoCmds_holds
end Go.Proofs.Ytgjomldcnjjpaaa

/-
  The exact law of BestSuper holds: for every disk and every number the law returns true. No condition.
-/
import Derived.Test.YtljkjbfkekihjaaRows
import Derived.Test.YtljkjbfkekihjaaArgs
import Derived.Test.YtljkjbfkekihjaaLawBestSuper
import Derived.WalkKit
import Derived.ProofKit
import Derived.OpenShut
import Derived.ShutString
import Derived.ChangeOld
import Derived.Below
namespace Go.Proofs.Ytljkjbfkekihjaa.fnExactBestSuper
open Go.ChangeShapes Go.WideShapes Go.ChangeAt Go.RowKit Go.Joins
open Go.ChangeMaps (open_string shut_string)
set_option linter.unusedVariables false

theorem own : ownKnob Try.prog.godebug = none := by kernel_rfl
theorem laidOut : laidOutB Try.prog = true := by kernel_rfl

set_option maxRecDepth 100000 in
theorem lifted (os : Os) (started : os.Started) (H : Type) (enc : TypeId × Value → H) :
    ReturnsInHanded {} Try.checked os 8 .any (Rows.fnExactBestSuperSpec.pre6 enc Try.prog Try.f8 Rows.fnExactBestSuperRow.domain false) (Rows.fnExactBestSuperSpec.post enc Try.prog Try.f8 false true false false) := by
  refine returnsInHanded_of_change (C := Try.checked) own started (by kernel_rfl) Try.func8
    (ChangeSpec.witness6 (enc := enc) (C := Try.checked) false ⟨#[], #[.agg #[.slice none 0 0, .slice none 0 0, .bool false, .slice none 0 0], .int .i64 0], []⟩ 8 (by kernel_rfl) (by kernel_rfl) (by kernel_rfl) (by kernel_rfl)) ?_
  intro W base args ds gs before hval0 hW hcnd _
  have hval : ∀ (j : Nat) t v, Try.f8.params[j]? = some t → args[j]? = some v → Value.okWide Try.prog W .any base t v := hval0
  have hW' := hW
  obtain ⟨p, q, hA0, hV, rfl, hfz, hnd⟩ := hW
  have hA : DataW.TrodAll enc Try.prog W 0 (fun _ => true) true Try.f8.params.toList args.toList ds p := hA0
  rw [Try.params8] at hA hval
  obtain ⟨v0, vs0, d0, ds0, p0, q0, hargs, rfl, rfl, h0, r0⟩ := trodAll_cons hA
  obtain ⟨vn, vs1, dn, ds1, pn, qn, hargs1, rfl, rfl, hn0, r1⟩ := trodAll_cons r0
  obtain ⟨rfl, rfl, rfl⟩ := trodAll_nil r1
  obtain rfl : args = #[v0, vn] := by cases args; simp_all
  obtain ⟨rfl, rfl⟩ := trodVars_none hV
  have k0 := h0
  have kn := hn0
  have ltn : ∀ x ∈ pn, x.block < W.heap.size := by obtain ⟨m, hm⟩ := kn; exact DataW.trod_lt m _ _ _ hm
  obtain ⟨xn, hvn, _, _, wn⟩ := open_int Try.underlying3 (hval 1 3 vn rfl rfl) hn0
  subst hvn
  have lt0 : ∀ x ∈ p0, x.block < W.heap.size := by obtain ⟨m, hm⟩ := k0; exact DataW.trod_lt m _ _ _ hm
  obtain ⟨u0, u1, u2, u3, y0, y1, y2, y3, nn, rfl, _, _, t0, t1, t2, t3⟩ := open_agg4 Try.underlying54 (by kernel_rfl) (by kernel_rfl) (hval 0 54 v0 rfl rfl) h0
  obtain ⟨ss, g0⟩ := rdIntSS_of Try.underlying32 Try.underlying27 Try.underlying3 (by kernel_rfl) (by kernel_rfl) t0
  obtain ⟨cs, g1⟩ := rdWrS_of (E := 100) Try.underlying52 Try.underlying100 (by kernel_rfl) rfl rfl (by kernel_rfl) (by kernel_rfl) Try.underlying3 Try.underlying27 Try.underlying3 (by kernel_rfl) t1
  obtain ⟨f, hf, _⟩ := DataW.trod_bool Try.underlying4 t2
  obtain ⟨bs, g3⟩ := rdInts_of Try.underlying27 Try.underlying3 (by kernel_rfl) t3
  simp at hf
  subst hf
  obtain ⟨a0, c0, rfl⟩ := row_shape g0
  obtain ⟨a1, c1, rfl⟩ := row_shape g1
  obtain ⟨a3, c3, rfl⟩ := row_shape g3
  clear hA0 hval0
  refine (fnExactBestSuper_walk a0 a1 a3 _ c0 _ c1 _ c3 ss cs f bs xn W g0 g1 g3).mono fun e W' ⟨he, bel⟩ => ?_
  subst he
  exact ⟨_, rfl, _, _, _, [], _, [], hW', trodAll_mk1 (shut_bool Try.underlying4 _), (trodAll_cons_mk (Below.trod laidOut (by kernel_rfl) (of_decide_eq_true (by kernel_rfl)) k0 bel lt0) (trodAll_cons_mk (Below.trod laidOut (by kernel_rfl) (of_decide_eq_true (by kernel_rfl)) kn bel ltn) trodAll_mk0)), rfl, bel.frame _, fun h => by cases h⟩

theorem over : Rows.fnExactBestSuperRow.holds Try.pinned (OpenSpec.ofChange Rows.fnExactBestSuperSpec) :=
  OpenClaim.holds_of_wide 8 Try.f8 rfl rfl rfl rfl rfl rfl rfl ⟨rfl, rfl, rfl, rfl, rfl⟩ rfl rfl rfl rfl rfl (by kernel_rfl) Try.func8 (by kernel_rfl)
    (of_decide_eq_true (by kernel_rfl)) (by unfold Func.isWrapper; first | (rw [if_pos (by decide +kernel)]; kernel_rfl) | (rw [if_neg (by decide +kernel)]; exact ⟨rfl, rfl⟩))
    (fun os started H enc _ => lifted os started H enc)
end Go.Proofs.Ytljkjbfkekihjaa.fnExactBestSuper

namespace Go.Proofs.Ytljkjbfkekihjaa
/-- The given statement. -/
theorem fnExactBestSuper_holds : Rows.FnExactBestSuperSaid := fnExactBestSuper.over
#print axioms fnExactBestSuper_holds
end Go.Proofs.Ytljkjbfkekihjaa

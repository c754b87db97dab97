/-
  The exact law of WriteSuper holds: for every disk and every Super the law returns true, and its arguments read afterwards as they read before. No condition.
-/
import Derived.Test.YtljkjbfkekihjabRows
import Derived.Test.YtljkjbfkekihjabArgs
import Derived.Test.YtljkjbfkekihjabOpen8
import Derived.Test.YtljkjbfkekihjabLawWriteSuper
import Derived.WalkKit
import Derived.ProofKit
import Derived.OpenShut
import Derived.ShutString
import Derived.ChangeOld
import Derived.Below
namespace Go.Proofs.Ytljkjbfkekihjab.fnExactWriteSuper
open Go.ChangeShapes Go.WideShapes Go.ChangeAt Go.RowKit Go.Joins
open Go.ChangeMaps (open_string shut_string)
set_option linter.unusedVariables false

theorem own : ownKnob Try.prog.godebug = none := by kernel_rfl
theorem laidOut : laidOutB Try.prog = true := by kernel_rfl

set_option maxRecDepth 100000 in
theorem lifted (os : Os) (started : os.Started) (H : Type) (enc : TypeId × Value → H) :
    ReturnsInHanded {} Try.checked os 3 .any (Rows.fnExactWriteSuperSpec.pre6 enc Try.prog Try.f3 Rows.fnExactWriteSuperRow.domain false) (Rows.fnExactWriteSuperSpec.post enc Try.prog Try.f3 false true false false) := by
  refine returnsInHanded_of_change (C := Try.checked) own started (by kernel_rfl) Try.func3
    (ChangeSpec.witness6 (enc := enc) (C := Try.checked) false ⟨#[], #[.agg #[.slice none 0 0, .slice none 0 0, .bool false, .slice none 0 0], .agg #[.int .i64 0, .int .i64 0, .int .i64 0, .int .i64 0, .int .i64 0, .int .i64 0, .int .i64 0, .int .i64 0]], []⟩ 8 (by kernel_rfl) (by kernel_rfl) (by kernel_rfl) (by kernel_rfl)) ?_
  intro W base args ds gs before hval0 hW hcnd _
  have hval : ∀ (j : Nat) t v, Try.f3.params[j]? = some t → args[j]? = some v → Value.okWide Try.prog W .any base t v := hval0
  have hW' := hW
  obtain ⟨p, q, hA0, hV, rfl, hfz, hnd⟩ := hW
  have hA : DataW.TrodAll enc Try.prog W 0 (fun _ => true) true Try.f3.params.toList args.toList ds p := hA0
  rw [Try.params3] at hA hval
  obtain ⟨v0, vs0, d0, ds0, p0, q0, hargs, rfl, rfl, h0, r0⟩ := trodAll_cons hA
  obtain ⟨vn, vs1, dn, ds1, pn, qn, hargs1, rfl, rfl, hn0, r1⟩ := trodAll_cons r0
  obtain ⟨rfl, rfl, rfl⟩ := trodAll_nil r1
  obtain rfl : args = #[v0, vn] := by cases args; simp_all
  obtain ⟨rfl, rfl⟩ := trodVars_none hV
  have k0 := h0
  have kn := hn0
  have ltn : ∀ x ∈ pn, x.block < W.heap.size := by obtain ⟨m, hm⟩ := kn; exact DataW.trod_lt m _ _ _ hm
  obtain ⟨xa, xb, xc, xd, xe, xf, xg, xh, hvn⟩ := open_agg8 Try.underlying28 (by kernel_rfl) (by kernel_rfl) (by intro i f hf; have : i < 8 := by { have := (Array.getElem?_eq_some_iff.1 hf).1; exact this }; match i, this with | 0, _ => cases hf; rfl | 1, _ => cases hf; rfl | 2, _ => cases hf; rfl | 3, _ => cases hf; rfl | 4, _ => cases hf; rfl | 5, _ => cases hf; rfl | 6, _ => cases hf; rfl | 7, _ => cases hf; rfl) rfl Try.underlying3 (hval 1 28 vn rfl rfl) hn0
  subst hvn
  have lt0 : ∀ x ∈ p0, x.block < W.heap.size := by obtain ⟨m, hm⟩ := k0; exact DataW.trod_lt m _ _ _ hm
  obtain ⟨u0, u1, u2, u3, y0, y1, y2, y3, nn, rfl, _, _, t0, t1, t2, t3⟩ := open_agg4 Try.underlying26 (by kernel_rfl) (by kernel_rfl) (hval 0 26 v0 rfl rfl) h0
  obtain ⟨ss, g0⟩ := rdIntSS_of Try.underlying22 Try.underlying24 Try.underlying3 (by kernel_rfl) (by kernel_rfl) t0
  obtain ⟨cs, g1⟩ := rdWrS_of (E := 58) Try.underlying23 Try.underlying58 (by kernel_rfl) rfl rfl (by kernel_rfl) (by kernel_rfl) Try.underlying3 Try.underlying24 Try.underlying3 (by kernel_rfl) t1
  obtain ⟨f, hf, _⟩ := DataW.trod_bool Try.underlying4 t2
  obtain ⟨bs, g3⟩ := rdInts_of Try.underlying24 Try.underlying3 (by kernel_rfl) t3
  simp at hf
  subst hf
  obtain ⟨a0, c0, rfl⟩ := row_shape g0
  obtain ⟨a1, c1, rfl⟩ := row_shape g1
  obtain ⟨a3, c3, rfl⟩ := row_shape g3
  clear hA0 hval0
  refine (fnExactWriteSuper_walk a0 a1 a3 _ c0 _ c1 _ c3 ss cs f bs ⟨xa, xb, xc, xd, xe, xf, xg, xh⟩ W g0 g1 g3).mono fun e W' ⟨he, bel⟩ => ?_
  subst he
  exact ⟨_, rfl, _, _, _, [], _, [], hW', trodAll_mk1 (shut_bool Try.underlying4 _), (trodAll_cons_mk (Below.trod laidOut (by kernel_rfl) (of_decide_eq_true (by kernel_rfl)) k0 bel lt0) (trodAll_cons_mk (Below.trod laidOut (by kernel_rfl) (of_decide_eq_true (by kernel_rfl)) kn bel ltn) trodAll_mk0)), rfl, bel.frame _, fun h => by cases h⟩

theorem over : Rows.fnExactWriteSuperRow.holds Try.pinned (OpenSpec.ofChange Rows.fnExactWriteSuperSpec) :=
  OpenClaim.holds_of_wide 3 Try.f3 rfl rfl rfl rfl rfl rfl rfl ⟨rfl, rfl, rfl, rfl, rfl⟩ rfl rfl rfl rfl rfl (by kernel_rfl) Try.func3 (by kernel_rfl)
    (of_decide_eq_true (by kernel_rfl)) (by unfold Func.isWrapper; first | (rw [if_pos (by decide +kernel)]; kernel_rfl) | (rw [if_neg (by decide +kernel)]; exact ⟨rfl, rfl⟩))
    (fun os started H enc _ => lifted os started H enc)
end Go.Proofs.Ytljkjbfkekihjab.fnExactWriteSuper

namespace Go.Proofs.Ytljkjbfkekihjab
/-- The given statement. -/
theorem fnExactWriteSuper_holds : Rows.FnExactWriteSuperSaid := fnExactWriteSuper.over
#print axioms fnExactWriteSuper_holds
end Go.Proofs.Ytljkjbfkekihjab

/-
  What the row's reading says of a slice of commands that came in, in these texts' own words. No condition.
-/
import Derived.Test.YtgjomldcnjjpaaaOpenCmd
import Derived.Test.YtgjomldcnjjpaaaRdRow
import Derived.Test.YtgjomldcnjjpaaaRows14
namespace Go.Proofs.Ytgjomldcnjjpaaa
open Go.RowKit Go.ChangeShapes Go.WideShapes Go.ChangeAt Go.Joins Go.Deep

section
variable {H : Type} {enc : TypeId × Value → H} {w : World} {held : Bool}
theorem rdCmdS_of {fuel : Nat} {v : Value} {x : DataW H × List MemPlace} (h : DataW.trod enc Try.prog w 0 (fun _ => true) held fuel 59 [v] = some x) : ∃ d, (tCmdS 49).Rd w [v] d := by
  refine rdRow_of (e := 49) Try.underlying59 (by kernel_rfl) (by decide) (fun n cs y hl hy => ?_) h
  match cs, hl with
  | [v0, v1, v2, v3, v4], _ =>
    obtain ⟨xs, k, _, _, _, hxl, hf⟩ := DataW.trod_struct Try.underlying49 hy
    have k3 : Try.prog.cellsOf 3 = 1 := by kernel_rfl
    have kS : Try.prog.cellsOf 26 = 1 := by kernel_rfl
    match xs, hxl with
    | [y0, y1, y2, y3, y4], _ =>
      have g0 := hf 0 _ rfl
      have g1 := hf 1 _ rfl
      have g2 := hf 2 _ rfl
      have g3 := hf 3 _ rfl
      have g4 := hf 4 _ rfl
      simp [k3] at g0
      simp [k3] at g1
      simp [k3] at g2
      simp [k3] at g3
      simp [kS] at g4
      obtain ⟨n0, e0, _, _⟩ := DataW.trod_int Try.underlying3 g0
      obtain ⟨n1, e1, _, _⟩ := DataW.trod_int Try.underlying3 g1
      obtain ⟨n2, e2, _, _⟩ := DataW.trod_int Try.underlying3 g2
      obtain ⟨n3, e3, _, _⟩ := DataW.trod_int Try.underlying3 g3
      simp at e0 e1 e2 e3
      subst e0 e1 e2 e3
      obtain ⟨zs, r4⟩ := rdInts_of Try.underlying26 Try.underlying3 (by kernel_rfl) g4
      exact ⟨(n0, n1, n2, n3, zs), int_rd_of (int_rd_of (int_rd_of (int_rd_of r4)))⟩

end
end Go.Proofs.Ytgjomldcnjjpaaa

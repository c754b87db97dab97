/-
  What the row's reading says of a command that came in, in these texts' own words: four numbers, and what its slice reads. No condition.
-/
import Derived.Test.YtbkkjfgjlapadaaArgs
import Derived.Test.YtbkkjfgjlapadaaWalkCmd
namespace Go.Proofs.Ytbkkjfgjlapadaa
open Go.RowKit Go.ChangeShapes Go.WideShapes Go.ChangeAt Go.Joins Go.Deep

section
variable {H : Type} {enc : TypeId × Value → H} {w : World} {held : Bool}

theorem array5 {cs : Array Value} (h : cs.size = 5) : ∃ c0 c1 c2 c3 c4, cs = #[c0, c1, c2, c3, c4] := by
  obtain ⟨l⟩ := cs
  match l, h with
  | [c0, c1, c2, c3, c4], _ => exact ⟨c0, c1, c2, c3, c4, rfl⟩

set_option maxRecDepth 20000 in
theorem open_cmd {r : Reach} {b0 : Nat} {v : Value} {d : DataW H} {p : List MemPlace} (hv : Value.okWide Try.prog w r b0 38 v) (h : DataW.Trod enc Try.prog w 0 (fun _ => true) held 38 v d p) :
    ∃ (o i b k : Int) (a : Option Addr) (c : Nat) (zs : List Int), v = .agg #[.int .i64 o, .int .i64 i, .int .i64 b, .int .i64 k, .slice a zs.length c] ∧ tIntS.Rd w [.slice a zs.length c] zs := by
  obtain ⟨cs, rfl, hsz⟩ := okWide_struct Try.underlying38 hv
  obtain ⟨c0, c1, c2, c3, c4, rfl⟩ := array5 (hsz.trans (by kernel_rfl))
  obtain ⟨fuel, hf⟩ := h
  obtain ⟨xs, n, _, _, _, hxl, hx⟩ := DataW.trod_struct Try.underlying38 hf
  have k3 : Try.prog.cellsOf 3 = 1 := by kernel_rfl
  have kS : Try.prog.cellsOf 26 = 1 := by kernel_rfl
  match xs, hxl with
  | [y0, y1, y2, y3, y4], _ =>
    have g0 := hx 0 _ rfl
    have g1 := hx 1 _ rfl
    have g2 := hx 2 _ rfl
    have g3 := hx 3 _ rfl
    have g4 := hx 4 _ rfl
    simp [Value.cells, k3] at g0
    simp [Value.cells, k3] at g1
    simp [Value.cells, k3] at g2
    simp [Value.cells, k3] at g3
    simp [Value.cells, kS] at g4
    obtain ⟨n0, e0, _, _⟩ := DataW.trod_int Try.underlying3 g0
    simp at e0
    subst e0
    obtain ⟨n1, e1, _, _⟩ := DataW.trod_int Try.underlying3 g1
    simp at e1
    subst e1
    obtain ⟨n2, e2, _, _⟩ := DataW.trod_int Try.underlying3 g2
    simp at e2
    subst e2
    obtain ⟨n3, e3, _, _⟩ := DataW.trod_int Try.underlying3 g3
    simp at e3
    subst e3
    obtain ⟨zs, r4⟩ := rdInts_of Try.underlying26 Try.underlying3 (by kernel_rfl) g4
    obtain ⟨a4, c4, rfl⟩ := row_shape r4
    exact ⟨n0, n1, n2, n3, a4, c4, zs, rfl, r4⟩

end
end Go.Proofs.Ytbkkjfgjlapadaa

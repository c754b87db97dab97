/-
  A struct of eight whole numbers, by value, opened: the value written out. No condition.
-/
import Derived.Lib.SmallJoins
import Derived.Test.YtljkjbfkekihjabKit
namespace Go.Proofs.Ytljkjbfkekihjab
open Go.ChangeShapes Go.WideShapes Go.ChangeAt Go.RowKit Go.Joins Go.Deep
variable {H : Type} {enc : TypeId × Value → H} {P : Program} {w : World} {base : Nat} {spare : Nat → Bool} {held : Bool}

theorem open_nums {r : Reach} {b0 : Nat} {t ti : TypeId} {fs : Array Field} {v : Value} {d : DataW H} {p : List MemPlace} (hs : P.underlying t = some (.struct fs)) (hone : oneCellFields P fs = true) (hC : P.cellsOf t = fs.size)
    (ht : ∀ (i : Nat) (f : Field), fs[i]? = some f → f.type = ti) (hi : P.underlying ti = some (.int .i64))
    (hv : Value.okWide P w r b0 t v) (h : DataW.Trod enc P w base spare held t v d p) : ∃ zs : List Int, zs.length = fs.size ∧ v = .agg (zs.map (Value.int .i64)).toArray := by
  obtain ⟨cs, rfl, hsz⟩ := okWide_struct hs hv
  obtain ⟨fuel, hf⟩ := h
  obtain ⟨xs, n, _, _, hl, hlen, hx⟩ := DataW.trod_struct hs hf
  have hsz' : cs.size = fs.size := hsz.trans hC
  have key : ∀ i : Nat, i < fs.size → ∃ m : Int, cs[i]? = some (.int .i64 m) := by
    intro i hi'
    have hfi : fs[i]? = some fs[i] := Array.getElem?_eq_getElem hi'
    obtain ⟨o1, k1⟩ := hone_of hone i fs[i] hfi
    have h1 := hx i fs[i] hfi
    have hxi : xs[i]? = some (xs[i]'(by omega)) := List.getElem?_eq_getElem (by omega)
    rw [hxi] at h1
    rw [ht i fs[i] hfi] at h1
    obtain ⟨m, hm, _, _⟩ := DataW.trod_int hi h1
    refine ⟨m, ?_⟩
    have kk : P.cellsOf ti = 1 := by rw [← ht i fs[i] hfi]; exact k1
    rw [o1, kk] at hm
    have hc : (Value.cells (.agg cs)).toList = cs.toList := rfl
    have hd : ((Value.cells (.agg cs)).toList.drop i).take 1 = [cs[i]'(by omega)] := by
      rw [hc, List.drop_eq_getElem_cons (by simp; omega)]
      simp
    rw [hd] at hm
    simp at hm
    rw [Array.getElem?_eq_getElem (by omega), hm]
  refine ⟨cs.toList.map intOf, by simp [hsz'], ?_⟩
  congr 1
  apply Array.ext
  · simp
  · intro i h1 h2
    obtain ⟨m, hm⟩ := key i (by omega)
    rw [Array.getElem?_eq_getElem h1] at hm
    simp at hm
    simp [hm, intOf]

theorem list8 {l : List Int} (h : l.length = 8) : ∃ a b c d e f g i : Int, l = [a, b, c, d, e, f, g, i] := by
  match l, h with
  | [a, b, c, d, e, f, g, i], _ => exact ⟨a, b, c, d, e, f, g, i, rfl⟩
theorem list9 {l : List Int} (h : l.length = 9) : ∃ a b c d e f g i j : Int, l = [a, b, c, d, e, f, g, i, j] := by
  match l, h with
  | [a, b, c, d, e, f, g, i, j], _ => exact ⟨a, b, c, d, e, f, g, i, j, rfl⟩

theorem open_agg8 {r : Reach} {b0 : Nat} {t ti : TypeId} {fs : Array Field} {v : Value} {d : DataW H} {p : List MemPlace} (hs : P.underlying t = some (.struct fs)) (hone : oneCellFields P fs = true) (hC : P.cellsOf t = fs.size)
    (ht : ∀ (i : Nat) (f : Field), fs[i]? = some f → f.type = ti) (h8 : fs.size = 8) (hi : P.underlying ti = some (.int .i64))
    (hv : Value.okWide P w r b0 t v) (h : DataW.Trod enc P w base spare held t v d p) : ∃ a b c d e f g i : Int, v = .agg #[.int .i64 a, .int .i64 b, .int .i64 c, .int .i64 d, .int .i64 e, .int .i64 f, .int .i64 g, .int .i64 i] := by
  obtain ⟨zs, hl, rfl⟩ := open_nums hs hone hC ht hi hv h
  obtain ⟨a, b, c, d, e, f, g, i, rfl⟩ := list8 (hl.trans h8)
  exact ⟨a, b, c, d, e, f, g, i, rfl⟩

end Go.Proofs.Ytljkjbfkekihjab

/-
  A plain lemma: the length of a slice of one's own is that of its numbers. No condition.
-/
import Derived.Test.YtbkkjfgjlapadaaData
namespace Go.Proofs.Ytbkkjfgjlapadaa
open Go.RowKit

theorem own_len2 {w : World} {lo hi l : Nat} {a : Option Addr} {c : Nat} {zs ps : List Int} {pl : Nat} (h : tIntS.Own w lo hi [.slice a l c] zs) (hp : zs = ps) (hl : ps.length = pl) : l = pl ∧ tIntS.Own w lo hi [.slice a pl c] ps := by
  subst hp
  have h2 := (row_length h.rd).1
  have : l = pl := by omega
  subst this
  exact ⟨rfl, h⟩

end Go.Proofs.Ytbkkjfgjlapadaa

/-
  The walk of the program's settle: the disk with the last write of each sector put there, its cache empty, in memory of its own. Conditions: the disk and the writes weigh at most 2097152 each, the disk has at most 20 sectors, each write is of a sector 0 .. 20.
-/
import Derived.Test.YtialakmmifhliaaWalkFail
import Derived.Test.YtialakmmifhliaaStore
import Derived.Test.YtialakmmifhliaaFlush
import Derived.WideLaws
namespace Go.Proofs.Ytialakmmifhliaa
open Go.RowKit Go.Maps

/-- What is still in the map: the writes of the sectors from j on. -/
def RestOk (w : World) (ks : List (Int × List Int)) (j : Nat) (D : DataW Value) : Prop :=
  ∀ q : Nat, j ≤ q → (lastW ks (q : Int) = none → Maps.has D (.int .i64 q) = false) ∧ ∀ zs, lastW ks (q : Int) = some zs → Maps.has D (.int .i64 q) = true ∧ ∃ a cap, (∀ z, D.atKey (.int .i64 q) z = .held (.agg #[.int .i64 q, .slice a zs.length cap])) ∧ tIntS.Rd w [.slice a zs.length cap] zs
theorem LastOk.rest {w : World} {ks : List (Int × List Int)} {D : DataW Value} (h : LastOk w ks D) : RestOk w ks 0 D := fun q _ => ⟨(h q).1, fun zs hz => by
  obtain ⟨h1, a, n, cap, h2, h3⟩ := (h q).2 zs hz
  obtain ⟨hl, _, _⟩ := row_length h3
  subst hl
  exact ⟨h1, a, cap, h2, h3⟩⟩
theorem RestOk.next {w : World} {ks : List (Int × List Int)} {j : Nat} {D : DataW Value} (h : RestOk w ks j D) : RestOk w ks (j + 1) D := fun q hq => h q (by omega)
theorem RestOk.del {w : World} {ks : List (Int × List Int)} {j : Nat} {D : DataW Value} (h : RestOk w ks j D) : RestOk w ks (j + 1) (D.del (.int .i64 j)) := by
  intro q hq
  have hne : (Lit.int .i64 (q : Int)) ≠ Lit.int .i64 (j : Int) := fun e => by simp at e; omega
  obtain ⟨h1, h2⟩ := h q (by omega)
  refine ⟨fun e => by rw [has_del_other hne]; exact h1 e, fun zs e => ?_⟩
  obtain ⟨h3, a, cap, h4, h5⟩ := h2 zs e
  exact ⟨by rw [has_del_other hne]; exact h3, a, cap, fun z => by rw [atKey_del_other hne]; exact h4 z, h5⟩
theorem RestOk.empty {w : World} {ks : List (Int × List Int)} {j : Nat} {D : DataW Value} (h : RestOk w ks j D) (hD : IsMap D) (hz : Maps.size D = 0) : ∀ q : Nat, j ≤ q → lastW ks (q : Int) = none := by
  intro q hq
  cases hl : lastW ks (q : Int) with
  | none => rfl
  | some zs =>
    have h1 := ((h q hq).2 zs hl).1
    obtain ⟨es, rfl⟩ := hD
    have h2 : es = [] := List.eq_nil_of_length_eq_zero hz
    subst h2
    simp [Maps.has] at h1
theorem look_here {w : World} {ops : Array Oper} {rest : List Oper} {o : Oper} {a : Act} {Q : Exit → Act → World → Prop} (hg : o.guard = none) (m x : Operand) (hop : o.op = Op.lookup 150 m x true) (b n : Nat) (D : DataW Value) (q : Int) (v : Value)
    (hm : a.eval m = .map (some b)) (hown : w.ownsMap Try.prog 3 heldV b n D) (hx : a.eval x = .int .i64 q) (hkey : keyOf Try.prog 3 (.int .i64 q) = some (.int .i64 q)) (h1 : Maps.has D (.int .i64 q) = true) (h2 : ∀ z, D.atKey (.int .i64 q) z = .held v)
    (hK : wpList Try.prog ops Q rest (a.put o.dst (.tuple #[v, .bool true])) w) : wpList Try.prog ops Q (o :: rest) a w := by
  refine wpList_lookup_own_ok w hg m x _ hop 3 115 lawInt Try.underlying150 heldV (zeroWr w) (.held (.agg #[.int .i64 0, .slice none 0 0])) [] rfl b n D hm hown _ _ hx hkey ?_
  intro v' ps hv
  rw [h2] at hv
  have hv' : v' = v := by simp [heldV] at hv; exact hv.1
  subst hv'
  rw [h1]
  exact hK
theorem look_away {w : World} {ops : Array Oper} {rest : List Oper} {o : Oper} {a : Act} {Q : Exit → Act → World → Prop} (hg : o.guard = none) (m x : Operand) (hop : o.op = Op.lookup 150 m x true) (b n : Nat) (D : DataW Value) (q : Int)
    (hm : a.eval m = .map (some b)) (hown : w.ownsMap Try.prog 3 heldV b n D) (hx : a.eval x = .int .i64 q) (hkey : keyOf Try.prog 3 (.int .i64 q) = some (.int .i64 q)) (h1 : Maps.has D (.int .i64 q) = false)
    (hK : wpList Try.prog ops Q rest (a.put o.dst (.tuple #[.agg #[.int .i64 0, .slice none 0 0], .bool false])) w) : wpList Try.prog ops Q (o :: rest) a w := by
  refine wpList_lookup_own_ok w hg m x _ hop 3 115 lawInt Try.underlying150 heldV (zeroWr w) (.held (.agg #[.int .i64 0, .slice none 0 0])) [] rfl b n D hm hown _ _ hx hkey ?_
  intro v ps hv
  rw [Maps.atKey_of_not_has h1] at hv
  have hv' : v = .agg #[.int .i64 0, .slice none 0 0] := by simp [heldV] at hv; exact hv.1
  subst hv'
  rw [h1]
  exact hK
theorem Below.grows {w w' : World} (h : Below w.heap.size w w') : w.grownBy w' none := ⟨h.os, h.tape, h.output, h.size, fun k hk _ => h.block k hk⟩

end Go.Proofs.Ytialakmmifhliaa

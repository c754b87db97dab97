/-
  Plain lemmas: a struct is loaded whole out of its block, and stored whole into one, whatever its cells are. No condition; nothing of the program is named here.
-/
import Derived.Test.YtbkkjfgjlapadaaGreatSeal15
import Derived.Deep.MidRow
namespace Go.Proofs.YtbkkjfgjlapadaaGreat
open Go.RowKit

theorem But.widen {lo hi lo' hi' : Nat} {w w' : World} (h : But lo hi w w') (h1 : lo' ≤ lo) (h2 : hi ≤ hi') : But lo' hi' w w' := ⟨h.os, h.tape, h.output, h.size, fun k hk ho => h.block k hk (by omega)⟩
theorem Box.range {w : World} {B : Nat} {T : TypeId} {cs : Array Value} (h : Box w B T cs) : w.rangeAt B 0 cs.toList := fun j v hv => by
  rw [Nat.zero_add, h.cell j, ← Array.getElem?_toList]
  exact hv
/-- A struct that is stored whole. -/
theorem Box.stored {w : World} {B : Nat} {T : TypeId} {cs cs' : Array Value} (h : Box w B T cs) (hs : cs.size = cs'.size) : Box (w.setCells B 0 cs'.toList) B T cs' := by
  obtain ⟨cur', k1, k2, k3⟩ := setCells_row (E := T) cs'.toList 0 w cs h (by simp; omega)
  have e : cur' = cs' := by
    apply Array.ext_getElem?
    intro k
    rw [← Array.getElem?_toList, k3 k, ← Array.getElem?_toList]
    by_cases hk : k < cs'.size
    · rw [if_pos (by simp; omega), Nat.sub_zero]
    · rw [if_neg (by simp; omega), List.getElem?_eq_none (by simp; omega), List.getElem?_eq_none (by simp; omega)]
  rw [e] at k1
  exact k1
section
variable {P : Program} {ops : Array Oper} {rest : List Oper} {op : Oper} {a : Act} {w : World} {Q : Exit → Act → World → Prop} {B : Nat} {T : TypeId} {cs cs' : Array Value}
theorem run_load_box (T' : TypeId) (d : TypeDesc) (X : Box w B T cs) (hu : P.underlying T' = some d) (hd : d.isRow = true) (hi : (P.info? T').map (·.size) = some cs.size) : (Instr.loadAt T' (.pointer (some ⟨B, 0, none⟩))).run P w = .ok (.agg cs) w := by
  have := run_loadAt_mid w B 0 T' cs.toList d X.range hu hd (by rw [hi, Array.length_toList])
  simpa using this
theorem wpList_load_box (hgd : op.guard = none) (T' : TypeId) (x : Operand) (ho : op.op = .load T' x) (hx : a.eval x = .pointer (some ⟨B, 0, none⟩)) (X : Box w B T cs) (d : TypeDesc) (hu : P.underlying T' = some d) (hd : d.isRow = true) (hi : (P.info? T').map (·.size) = some cs.size)
    (h : wpList P ops Q rest (a.put op.dst (.agg cs)) w) : wpList P ops Q (op :: rest) a w :=
  wpList_load_mid hgd T' x ho B 0 hx cs.toList d X.range hu hd (by rw [hi, Array.length_toList]) (by simpa using h)
theorem wpList_store_box (hgd : op.guard = none) (T' : TypeId) (x y : Operand) (ho : op.op = .store T' x y) (hx : a.eval x = .pointer (some ⟨B, 0, none⟩)) (hy : a.eval y = .agg cs') (X : Box w B T cs) (hs : cs.size = cs'.size) (hi : (P.info? T').map (·.size) = some cs'.size) (h1 : cs'.toList.all (·.oneCell') = true)
    (h : ∀ V, Box V B T cs' → But B (B + 1) w V → V.heap.size = w.heap.size → wpList P ops Q rest (a.put op.dst undef) V) : wpList P ops Q (op :: rest) a w :=
  wpList_store_mid hgd T' x y ho B 0 cs' hx hy (fun j hj => ⟨by rw [Nat.zero_add, X.cell j, Array.getElem?_eq_getElem (by omega)]; rfl, X.frozen _⟩) hi (by rw [← Array.all_toList]; exact h1)
    (h _ (X.stored hs) (But.cells (Nat.le_refl _) (Nat.lt_succ_self _) _ _ _) (setCells_size _ _ _))
end

end Go.Proofs.YtbkkjfgjlapadaaGreat

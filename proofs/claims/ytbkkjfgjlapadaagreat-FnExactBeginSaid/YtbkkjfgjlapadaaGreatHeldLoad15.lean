/-
  Plain lemmas: a struct is loaded whole in a region that draws its order; one is stored whole into the block that was made last. No condition; nothing of the program is named here.
-/
import Derived.Test.YtbkkjfgjlapadaaGreatLoad15
import Derived.Test.YtbkkjfgjlapadaaGreatHeld
namespace Go.Proofs.YtbkkjfgjlapadaaGreat
open Go.RowKit

section
variable {P : Program} {ops : Array Oper} {rest : List Oper} {op : Oper} {a : Act} {w : World} {Q : Exit → Act → World → Prop} {S : World → Prop} {B : Nat} {T : TypeId} {cs cs' z : Array Value}
theorem wpList_store_new (hgd : op.guard = none) (T' : TypeId) (x y : Operand) (ho : op.op = .store T' x y) (hx : a.eval x = .pointer (some ⟨w.heap.size, 0, none⟩)) (hy : a.eval y = .agg cs') (hs : z.size = cs'.size) (hi : (P.info? T').map (·.size) = some cs'.size) (h1 : cs'.toList.all (·.oneCell') = true)
    (h : ∀ V, Box V w.heap.size T cs' → Below w.heap.size w V → wpList P ops Q rest (a.put op.dst undef) V) : wpList P ops Q (op :: rest) a (w.alloc (.cells z T)) :=
  wpList_store_box hgd T' x y ho hx hy (Box.new w T z) hs hi h1 (fun V X hb _ => h V X (Below.andBut (new_below w _) hb (Nat.le_refl _)))
theorem held_load (i : Nat) {oi : Oper} {fuel : Nat} {l : Array Bool} {tl : List Oper} {T' : TypeId} {x : Operand} {d : TypeDesc} (hSb : ∀ w, S w → Box w B T cs) (hu : P.underlying T' = some d) (hsz : (P.info? T').map (·.size) = some cs.size) (hS : S w) (h : wpAnyH P .any ops Q S fuel (l.setIfInBounds i true) (a.put oi.dst (.agg cs)) w)
    (hi : ops.toList.drop i = oi :: tl := by rfl) (ho : oi.op = .load T' x := by rfl) (hx : a.eval x = .pointer (some ⟨B, 0, none⟩) := by rfl) (hd : d.isRow = true := by rfl) (hs : Region.noSelect ops = true := by kernel_rfl) (hf : Region.free .any ops l i = true := by kernel_rfl) (hr : (Region.ready .any ops l).contains i = true := by kernel_rfl)
    (hQ : ∀ c a w, Q (.panic c) (a.put oi.dst (.agg cs)) w → Q (.panic c) a w := by exact fun _ _ _ h => h) (hw : Region.wanted oi (yielded ops a.tmps) = true := by kernel_rfl) : wpAnyH P .any ops Q S (fuel + 1) l a w :=
  wpAnyH_take (op_at hi) hs hf hr hQ (Or.inl ⟨hw, fun w' hw' => by
    unfold execOp
    simp only [ho, hx, Sem.run_bind, run_load_box T' d (hSb w' hw') hu hd hsz, Result.andThen_ok, Sem.run_pure]⟩) hS h
theorem wp_store_box {K : Act → World → Prop} (T' : TypeId) (x y : Operand) (ho : op.op = .store T' x y) (hx : a.eval x = .pointer (some ⟨B, 0, none⟩)) (hy : a.eval y = .agg cs') (X : Box w B T cs) (hs : cs.size = cs'.size) (hi : (P.info? T').map (·.size) = some cs'.size) (h1 : cs'.toList.all (·.oneCell') = true)
    (h : ∀ V, Box V B T cs' → But B (B + 1) w V → V.heap.size = w.heap.size → K (a.put op.dst undef) V) : Oper.wp P op a w K Q :=
  wp_store_mid T' x y ho B 0 cs' hx hy (fun j hj => ⟨by rw [Nat.zero_add, X.cell j, Array.getElem?_eq_getElem (by omega)]; rfl, X.frozen _⟩) hi (by rw [← Array.all_toList]; exact h1)
    (h _ (X.stored hs) (But.cells (Nat.le_refl _) (Nat.lt_succ_self _) _ _ _) (setCells_size _ _ _))
end

end Go.Proofs.YtbkkjfgjlapadaaGreat

/-
  Plain lemmas by which a walk goes on in a world of which only what was said is known: behind a new block, behind stores into one. No condition.
-/
import Derived.Test.YtbkkjfgjlapadaaGreatEd15
import Derived.Test.YtbkkjfgjlapadaaGreatWalkInts
namespace Go.Proofs.YtbkkjfgjlapadaaGreat
open Go.RowKit

section
variable {P : Program} {F : FuncId} {args : Array Value} {w W : World} {T T2 T3 : TypeId} {cs cs2 cs3 : Array Value} {R : Ending → World → Prop} {c : Code} {Q : Exit → Act → World → Prop} {a : Act}
/-- Behind what a callee's parameters and variables lie in. -/
theorem seal_new (h : ∀ V, Box V w.heap.size T cs → Below w.heap.size w V → Calls P F args V R) : Calls P F args (w.alloc (.cells cs T)) R := h _ (Box.new _ _ _) (new_below _ _)
theorem seal_new2 (h : ∀ V, Box V w.heap.size T cs → Box V (w.heap.size + 1) T2 cs2 → Below w.heap.size w V → Calls P F args V R) : Calls P F args ((w.alloc (.cells cs T)).alloc (.cells cs2 T2)) R :=
  h _ ((Box.new _ _ _).alloc _) (by have := Box.new (w.alloc (.cells cs T)) T2 cs2; rwa [World.size_alloc] at this) ((new_below _ _).alloc (by simp) _)
theorem seal_new3 (h : ∀ V, Box V w.heap.size T cs → Box V (w.heap.size + 1) T2 cs2 → Box V (w.heap.size + 1 + 1) T3 cs3 → Below w.heap.size w V → Calls P F args V R) : Calls P F args (((w.alloc (.cells cs T)).alloc (.cells cs2 T2)).alloc (.cells cs3 T3)) R :=
  h _ (((Box.new _ _ _).alloc _).alloc _) (by have := (Box.new (w.alloc (.cells cs T)) T2 cs2).alloc (.cells cs3 T3); rwa [World.size_alloc] at this) (by have := Box.new ((w.alloc (.cells cs T)).alloc (.cells cs2 T2)) T3 cs3; rwa [World.size_alloc, World.size_alloc] at this) (((new_below _ _).alloc (by simp) _).alloc (by simp; omega) _)

/-- A block that holds these cells; since w0 nothing else has turned. -/
structure BoxAt (w0 w : World) (B : Nat) (T : TypeId) (l : List Value) : Prop where
  box : Box w B T l.toArray
  but : But B (B + 1) w0 w
  size : w.heap.size = w0.heap.size
theorem Box.at {w : World} {B : Nat} {T : TypeId} {l : List Value} (h : Box w B T l.toArray) : BoxAt w w B T l := ⟨h, But.refl _ _ _, rfl⟩
theorem BoxAt.set {w0 w : World} {B : Nat} {T : TypeId} {l : List Value} (h : BoxAt w0 w B T l) (j : Nat) (v : Value) : BoxAt w0 (w.setCell ⟨B, j, none⟩ v) B T (l.set j v) :=
  ⟨by have := h.box.set j v; simpa using this, h.but.trans (But.setCell (Nat.le_refl _) (Nat.lt_succ_self _) v), by simp [h.size]⟩
theorem BoxAt.other {w0 w : World} {B C : Nat} {T U : TypeId} {l : List Value} {cs : Array Value} (h : BoxAt w0 w B T l) (x : Box w0 C U cs) (hne : C ≠ B) : Box w C U cs := x.kept (h.but.block C x.lt (by omega))
theorem BoxAt.own {w0 w : World} {B lo hi : Nat} {T : TypeId} {l : List Value} {t : Ty} {vs : List Value} {d : t.D} (h : BoxAt w0 w B T l) (o : t.Own w0 lo hi vs d) (hB : B < lo ∨ hi ≤ B) : t.Own w lo hi vs d := o.but h.but (by omega)
theorem BoxAt.below {w0 w w1 : World} {B : Nat} {T : TypeId} {l : List Value} (h : BoxAt w0 w B T l) (b : Below w1.heap.size w1 w0) (hB : w1.heap.size ≤ B) : Below w1.heap.size w1 w := Below.andBut b h.but hB
/-- .. and the walk goes on. -/
theorem seal_at {w0 : World} {B : Nat} {l : List Value} (E : BoxAt w0 W B T l) (h : ∀ V, BoxAt w0 V B T l → Calls P F args V R) : Calls P F args W R := h W E
theorem seal_atC {w0 : World} {B : Nat} {l : List Value} (E : BoxAt w0 W B T l) (h : ∀ V, BoxAt w0 V B T l → Code.wp P c Q a V) : Code.wp P c Q a W := h W E
end
theorem But.set {lo hi : Nat} {a w : World} {g j : Nat} (h : But lo hi a w) (h1 : lo ≤ g) (h2 : g < hi) (v : Value) : But lo hi a (w.setCell ⟨g, j, none⟩ v) := h.trans (But.setCell h1 h2 v)
theorem But.cells {lo hi : Nat} {g : Nat} (h1 : lo ≤ g) (h2 : g < hi) : ∀ (vs : List Value) (o : Nat) (w0 : World), But lo hi w0 (w0.setCells g o vs)
  | [], _, _ => But.refl _ _ _
  | v :: vs, o, _ => (But.setCell h1 h2 v).trans (But.cells h1 h2 vs (o + 1) _)
theorem Box.cells8e {w : World} {B : Nat} {T : TypeId} {v0 v1 v2 v3 v4 v5 v6 v7 : Value} (h : Box w B T #[v0, v1, v2, v3, v4, v5, v6, v7]) : w.cell? ⟨B, 0, none⟩ = some v0 ∧ w.cell? ⟨B, 1, none⟩ = some v1 ∧ w.cell? ⟨B, 2, none⟩ = some v2 ∧ w.cell? ⟨B, 3, none⟩ = some v3 ∧ w.cell? ⟨B, 4, none⟩ = some v4 ∧ w.cell? ⟨B, 5, none⟩ = some v5 ∧ w.cell? ⟨B, 6, none⟩ = some v6 ∧ w.cell? ⟨B, 7, none⟩ = some v7 := ⟨h.cell 0, h.cell 1, h.cell 2, h.cell 3, h.cell 4, h.cell 5, h.cell 6, h.cell 7⟩
theorem toIntS_new (w : World) (a : Option Addr) (cap : Nat) (zs : List Int) (hr : tIntS.Rd w [.slice a zs.length cap] zs) (hlen : zs.length ≤ 2097152) :
    Calls Tryz.prog 93 #[.slice a zs.length cap] w fun e w' => ∃ g, e = .returned (.slice (some ⟨g, 0, none⟩) zs.length zs.length) ∧ tIntS.Own w' w.heap.size w'.heap.size [.slice (some ⟨g, 0, none⟩) zs.length zs.length] zs ∧ Below w.heap.size w w' := by
  refine (toIntS_any w a _ cap zs rfl (ints_rd hr).1 hlen).mono ?_
  rintro e w' ⟨rfl, h1, h2⟩
  exact ⟨_, rfl, own_ints h1, h2⟩

end Go.Proofs.YtbkkjfgjlapadaaGreat

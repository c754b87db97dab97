/-
  Plain lemmas by which a walk goes on behind new blocks, at a region. No condition.
-/
import Derived.Test.YtbkkjfgjlapadaaGreatSeal15
namespace Go.Proofs.YtbkkjfgjlapadaaGreat
open Go.RowKit

section
variable {P : Program} {c : Code} {Q : Exit → Act → World → Prop} {a : Act} {w : World} {T T2 : TypeId} {cs cs2 : Array Value}
theorem seal_newC (h : ∀ V, Box V w.heap.size T cs → Below w.heap.size w V → Code.wp P c Q a V) : Code.wp P c Q a (w.alloc (.cells cs T)) := h _ (Box.new _ _ _) (new_below _ _)
theorem seal_new2C (h : ∀ V, Box V w.heap.size T cs → Box V (w.heap.size + 1) T2 cs2 → Below w.heap.size w V → Code.wp P c Q a V) : Code.wp P c Q a ((w.alloc (.cells cs T)).alloc (.cells cs2 T2)) :=
  h _ ((Box.new _ _ _).alloc _) (by have := Box.new (w.alloc (.cells cs T)) T2 cs2; rwa [World.size_alloc] at this) ((new_below _ _).alloc (by simp) _)
end

end Go.Proofs.YtbkkjfgjlapadaaGreat

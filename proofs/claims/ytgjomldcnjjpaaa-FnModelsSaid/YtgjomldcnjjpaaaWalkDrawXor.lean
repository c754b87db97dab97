/-
  The walks of the specification's DrawXorOf and DrawSameSec: some numbers, at most thirteen of them, in memory of their own. Condition: at most 2097152 bytes to draw from.
-/
import Derived.Test.YtgjomldcnjjpaaaWalkDraw2
namespace Go.Proofs.Ytgjomldcnjjpaaa
open Go.RowKit

theorem Own.under {k : IntKind} {E : TypeId} {w w' : World} {lo hi N : Nat} {v : Value} {zs : List Int} (h : Own k E w lo hi v zs) (hb : Below N w w') (hN : hi ≤ N) : Own k E w' lo hi v zs := by
  refine ⟨⟨h.1.1, ?_⟩, h.2⟩
  rcases h.1.2 with h2 | ⟨g, cap, cur, hv, hbg, hg, r⟩
  · exact .inl h2
  · have hhi : g < hi := h.2 g (by rw [hv]; rfl)
    exact .inr ⟨g, cap, cur, hv, hbg, by rw [hb.block g (by omega)]; exact hg, r⟩

theorem l1Once_any {w : World} {g lb cb : Nat} {a : Option Addr} {zs : List Int} (h : Draws w g a lb cb zs) (n : Int) (hn : 0 ≤ n) (hn' : n ≤ 256) :
    Calls Try.prog 58 #[.pointer (some ⟨g, 0, none⟩), .int .i64 n] w fun e w' => ∃ b : Bool, e = .returned (.bool b) ∧ Draws w' g a lb cb zs ∧ But g (g + 1) w w' := by
  go_enter Try.func58, Try.ntmps58
  go_wp2_with fail
  refine (dBelow h n hn hn').mono ?_
  rintro e w1 ⟨x, rfl, _, _, D1, b1⟩
  go_wp2
  go_ret
  exact ⟨_, rfl, D1, b1⟩

end Go.Proofs.Ytgjomldcnjjpaaa

/-
  What 'x, y := DoCmd(..)' leaves, wherever the new variable's box was made: plain lemmas. No condition.
-/
import Derived.Test.YtgjomldcnjjpaaaWalkDo14
import Derived.Test.YtgjomldcnjjpaaaWalkInts
namespace Go.Proofs.Ytgjomldcnjjpaaa
open Go.RowKit

theorem box_of {w wn : World} {N : Nat} (_ : Below N w wn) : Box (wn.alloc (.cells #[.int .i64 0, .int .i64 0, .slice none 0 0] 44)) wn.heap.size 44 #[.int .i64 0, .int .i64 0, .slice none 0 0] := Box.new _ _ _
theorem below_put {w wn : World} (h : Below w.heap.size w wn) (N : Nat) (hN : w.heap.size ≤ N) (v0 v1 v2 : Value) : Below w.heap.size w (((wn.setCell ⟨N, 0, none⟩ v0).setCell ⟨N, 1, none⟩ v1).setCell ⟨N, 2, none⟩ v2) :=
  ((h.setCell (p := ⟨N, 0, none⟩) hN v0).setCell (p := ⟨N, 1, none⟩) hN v1).setCell (p := ⟨N, 2, none⟩) hN v2
theorem toIntS_ex (w : World) (a : Option Addr) (len cap : Nat) (zs : List Int) (hz : zs.length = len) (hr : Reads .i64 w a zs) (hlen : len ≤ 2097152) :
    Calls Try.prog 25 #[.slice a len cap] w fun e w' => ∃ a', e = .returned (.slice a' len len) ∧ tIntS.Own w' w.heap.size w'.heap.size [.slice a' len len] zs ∧ Below w.heap.size w w' := by
  refine (toIntS_any w a len cap zs hz hr hlen).mono ?_
  rintro e w' ⟨rfl, h1, h2⟩
  exact ⟨_, rfl, own_ints h1, h2⟩
theorem chk_at {P : Program} {F : FuncId} {args : Array Value} {w wn : World} {N : Nat} (_ : Below N w wn) {Q : Ending → World → Prop} (h : Calls P F args wn Q) : Calls P F args wn Q := h
def Got14 (w : World) (nl vn : Nat) (d cc : Int) (xs vs : List Int) (v8 v9 : Value) (wx : World) : Prop :=
  ∃ N lo mid hi a1 c1 a2 c2, v8 = .slice a1 nl c1 ∧ v9 = .pointer (some ⟨N, 0, none⟩) ∧ Box wx N 44 #[.int .i64 d, .int .i64 cc, .slice a2 vn c2] ∧ tIntS.Own wx lo mid [.slice a1 nl c1] xs ∧ tIntS.Own wx mid hi [.slice a2 vn c2] vs ∧ Below w.heap.size w wx ∧ w.heap.size ≤ N ∧ w.heap.size ≤ lo ∧ lo ≤ mid ∧ mid ≤ hi ∧ hi ≤ wx.heap.size ∧ (N < lo ∨ hi ≤ N)
theorem got_new {w wn : World} {nl vn lo mid c1 c2 : Nat} {d cc : Int} {xs vs : List Int} {a1 a2 : Option Addr} (qc : Below w.heap.size w wn) (oX : tIntS.Own wn lo mid [.slice a1 nl c1] xs) (oV : tIntS.Own wn mid wn.heap.size [.slice a2 vn c2] vs) (h0 : w.heap.size ≤ lo) (h1 : lo ≤ mid) (h2 : mid ≤ wn.heap.size) :
    Got14 w nl vn d cc xs vs (.slice a1 nl c1) (.pointer (some ⟨wn.heap.size, 0, none⟩)) (wn.alloc (.cells #[.int .i64 d, .int .i64 cc, .slice a2 vn c2] 44)) := by
  have b := new_below wn (.cells #[.int .i64 d, .int .i64 cc, .slice a2 vn c2] 44)
  exact ⟨_, _, _, wn.heap.size, _, _, _, _, rfl, rfl, Box.new _ _ _, oX.below b, oV.below b, qc.alloc qc.size _, qc.size, h0, h1, h2, b.size, .inr (Nat.le_refl _)⟩
theorem got_old {w wn : World} {nl vn lo mid hi c1 c2 N : Nat} {d cc : Int} {xs vs : List Int} {a1 a2 : Option Addr} {u0 u1 u2 : Value} (qc : Below w.heap.size w wn) (xa : Box wn N 44 #[u0, u1, u2]) (oX : tIntS.Own wn lo mid [.slice a1 nl c1] xs) (oV : tIntS.Own wn mid hi [.slice a2 vn c2] vs) (hN : w.heap.size ≤ N) (hN2 : N < lo ∨ hi ≤ N) (h0 : w.heap.size ≤ lo) (h1 : lo ≤ mid) (h2 : mid ≤ hi) (h3 : hi ≤ wn.heap.size) :
    Got14 w nl vn d cc xs vs (.slice a1 nl c1) (.pointer (some ⟨N, 0, none⟩)) (((wn.setCell ⟨N, 0, none⟩ (.int .i64 d)).setCell ⟨N, 1, none⟩ (.int .i64 cc)).setCell ⟨N, 2, none⟩ (.slice a2 vn c2)) := by
  obtain ⟨Y, T⟩ := ans_put xa (.int .i64 d) (.int .i64 cc) (.slice a2 vn c2)
  have hb := T.but (lo := N) (hi := N + 1) (by intro b hb; simp at hb; omega)
  exact ⟨N, lo, mid, hi, _, _, _, _, rfl, rfl, Y, oX.but hb (by omega), oV.but hb (by omega), ⟨T.os.trans qc.os, T.tape.trans qc.tape, T.output.trans qc.output, Nat.le_trans qc.size T.size, fun k hk => (T.block k (Nat.lt_of_lt_of_le hk qc.size) (by simp; omega)).trans (qc.block k hk)⟩, hN, h0, h1, h2, Nat.le_trans h3 T.size, hN2⟩
theorem Got14.drew {w wx : World} {nl vn : Nat} {d cc : Int} {xs vs : List Int} {v8 v9 : Value} (h : Got14 w nl vn d cc xs vs v8 v9 wx) : Got14 w nl vn d cc xs vs v8 v9 wx.drew := by
  obtain ⟨N, lo, mid, hi, a1, c1, a2, c2, h1, h2, h3, h4, h5, h6, h7⟩ := h
  exact ⟨N, lo, mid, hi, a1, c1, a2, c2, h1, h2, h3, h4, h5, h6.drew, h7⟩

end Go.Proofs.Ytgjomldcnjjpaaa

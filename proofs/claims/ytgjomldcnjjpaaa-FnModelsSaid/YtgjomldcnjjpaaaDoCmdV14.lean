/-
  What DoCmd answers, by its parts, each a letter. Conditions: at most 2097152 blocks and words.
-/
import Derived.Test.YtgjomldcnjjpaaaWalkDo14
namespace Go.Proofs.Ytgjomldcnjjpaaa
open Go.RowKit

theorem slice_len {t : Ty} {E : TypeId} {w : World} {lo hi n m cap : Nat} {a : Option Addr} {d : List t.D} (h : (rowTy t E).Own w lo hi [.slice a n cap] d) (hl : d.length = m) : n = m := (row_length h.rd).1.symm.trans hl
/-- What DoCmd answers, by its parts. -/
theorem specDoCmd_v (w : World) (gn gs : Int) (al : Option Addr) (nl cl : Nat) (ls : List Int) (hls : tIntS.Rd w [.slice al nl cl] ls) (hnl : nl ≤ 2097152) (o d b k : Int) (a : Option Addr) (n cap : Nat) (zs : List Int) (h : tIntS.Rd w [.slice a n cap] zs) (hn : n ≤ 2097152) {xs vs : List Int} {cc : Int} {vn : Nat} (hx : doC gn gs ls o d b k zs = (xs, cc, vs)) (hv : vs.length = vn) :
    Calls Try.prog 24 #[.agg #[.int .i64 gn, .int .i64 gs], .slice al nl cl, .agg #[.int .i64 o, .int .i64 d, .int .i64 b, .int .i64 k, .slice a n cap]] w fun e w' => ∃ mid a1 c1 a2 c2, e = .returned (.tuple #[.slice a1 nl c1, .agg #[.int .i64 d, .int .i64 cc, .slice a2 vn c2]]) ∧ tIntS.Own w' w.heap.size mid [.slice a1 nl c1] xs ∧ tIntS.Own w' mid w'.heap.size [.slice a2 vn c2] vs ∧ w.heap.size ≤ mid ∧ mid ≤ w'.heap.size ∧ Below w.heap.size w w' := by
  refine (specDoCmd_any w gn gs al nl cl ls hls hnl o d b k a n cap zs h hn).mono ?_
  rintro e w' ⟨mid, a1, c1, a2, m2, c2, rfl, o1, o2, h1, h2, hb⟩
  rw [hx] at o1 o2 ⊢
  obtain rfl : m2 = vn := slice_len o2 hv
  exact ⟨mid, a1, c1, a2, c2, rfl, o1, o2, h1, h2, hb⟩
/-- What DoCmd answers, by its parts. -/
theorem implDoCmd_v (w : World) (gn gs : Int) (al : Option Addr) (nl cl : Nat) (ls : List Int) (hls : tIntS.Rd w [.slice al nl cl] ls) (hnl : nl ≤ 2097152) (o d b k : Int) (a : Option Addr) (n cap : Nat) (zs : List Int) (h : tIntS.Rd w [.slice a n cap] zs) (hn : n ≤ 2097152) {xs vs : List Int} {cc : Int} {vn : Nat} (hx : doC gn gs ls o d b k zs = (xs, cc, vs)) (hv : vs.length = vn) :
    Calls Try.prog 27 #[.agg #[.int .i64 gn, .int .i64 gs], .slice al nl cl, .agg #[.int .i64 o, .int .i64 d, .int .i64 b, .int .i64 k, .slice a n cap]] w fun e w' => ∃ mid a1 c1 a2 c2, e = .returned (.tuple #[.slice a1 nl c1, .agg #[.int .i64 d, .int .i64 cc, .slice a2 vn c2]]) ∧ tIntS.Own w' w.heap.size mid [.slice a1 nl c1] xs ∧ tIntS.Own w' mid w'.heap.size [.slice a2 vn c2] vs ∧ w.heap.size ≤ mid ∧ mid ≤ w'.heap.size ∧ Below w.heap.size w w' := by
  refine (implDoCmd_any w gn gs al nl cl ls hls hnl o d b k a n cap zs h hn).mono ?_
  rintro e w' ⟨mid, a1, c1, a2, m2, c2, rfl, o1, o2, h1, h2, hb⟩
  rw [hx] at o1 o2 ⊢
  obtain rfl : m2 = vn := slice_len o2 hv
  exact ⟨mid, a1, c1, a2, c2, rfl, o1, o2, h1, h2, hb⟩

end Go.Proofs.Ytgjomldcnjjpaaa

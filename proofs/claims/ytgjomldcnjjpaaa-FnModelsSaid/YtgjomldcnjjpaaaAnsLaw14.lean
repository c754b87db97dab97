/-
  The laws' helpers over one answer: whether two are the same, its marks. Conditions: at most 2097152 words, marks between 0 and 16777216.
-/
import Derived.Test.YtgjomldcnjjpaaaWalkEq
import Derived.Test.YtgjomldcnjjpaaaWalkMark
import Derived.Test.YtgjomldcnjjpaaaBox
namespace Go.Proofs.Ytgjomldcnjjpaaa
open Go.RowKit

set_option maxHeartbeats 1600000 in
theorem eqAns_same (w : World) (d c : Int) (a a' : Option Addr) (la ca cb : Nat) (zs : List Int) (h : tIntS.Rd w [.slice a la ca] zs) (h' : tIntS.Rd w [.slice a' la cb] zs) (hla : la ≤ 2097152) :
    Calls Try.prog 28 #[.agg #[.int .i64 d, .int .i64 c, .slice a la ca], .agg #[.int .i64 d, .int .i64 c, .slice a' la cb]] w fun e w' => e = .returned (.bool true) ∧ Below w.heap.size w w' := by
  have hA : Below w.heap.size w ((w.alloc (.cells #[.int .i64 d, .int .i64 c, .slice a la ca] 44)).alloc (.cells #[.int .i64 d, .int .i64 c, .slice a' la cb] 44)) := ((Below.refl _ _).alloc (Nat.le_refl _) _).alloc (by simp) _
  obtain ⟨r1, hl, _, _⟩ := ints_rd (h.below hA)
  obtain ⟨r2, _, _, _⟩ := ints_rd (h'.below hA)
  have hd : decide (zs = zs) = true := by simp
  go_enter Try.func28, Try.ntmps28
  go_wp2_with fail
  refine (eqIntS_any _ _ _ _ _ _ _ zs zs hl hl r1 r2 hla).mono ?_
  rintro e w1 ⟨rfl, hs1⟩
  go_wp2
  go_ret
  exact ⟨rfl, Below.andSame hA hs1⟩

theorem markAns_fp (w : World) (d c : Int) (a : Option Addr) (n cap : Nat) (zs : List Int) (k0 : Int) (fp : List Nat) (h : tIntS.Mine w [.slice a n cap] zs fp) (hlen : n ≤ 2097152) (hk : 0 ≤ k0) (hk' : k0 ≤ 16777216) :
    Calls Try.prog 31 #[.agg #[.int .i64 d, .int .i64 c, .slice a n cap], .int .i64 k0] w fun e w' => e = .returned (.int .i64 (k0 + (n : Int))) ∧ tIntS.Mine w' [.slice a n cap] (marks id k0 n) fp ∧ Turned fp w w' := by
  have h1 := h.alloc (.cells #[.int .i64 d, .int .i64 c, .slice a n cap] 44)
  go_enter Try.func31, Try.ntmps31
  go_wp2_with fail
  refine (markIntS_fp _ _ _ _ zs _ fp h1 hlen hk hk').mono ?_
  rintro e w1 ⟨rfl, m1, t1⟩
  go_wp2
  go_ret
  exact ⟨rfl, m1, ((Turned.refl fp w).alloc _).trans t1⟩

theorem heldAns_any (w : World) (d c : Int) (a : Option Addr) (n cap : Nat) (k0 : Int) (h : Reads .i64 w a (marks id k0 n)) (hlen : n ≤ 2097152) (hk : 0 ≤ k0) (hk' : k0 ≤ 16777216) :
    Calls Try.prog 32 #[.agg #[.int .i64 d, .int .i64 c, .slice a n cap], .int .i64 k0] w fun e w' => e = .returned (.int .i64 (k0 + (n : Int))) ∧ Below w.heap.size w w' := by
  have hA := new_below w (.cells #[.int .i64 d, .int .i64 c, .slice a n cap] 44)
  have h1 := h.below hA
  go_enter Try.func32, Try.ntmps32
  go_wp2_with fail
  refine (heldIntS_any _ _ _ _ _ h1 hlen hk hk').mono ?_
  rintro e w1 ⟨rfl, hs1⟩
  have hB := Below.andSame hA hs1
  have hq : ¬ k0 + (n : Int) < 0 := by omega
  go_wp2
  go_ret
  exact ⟨rfl, hB⟩

end Go.Proofs.Ytgjomldcnjjpaaa

/-
  The program's copies of a command and of an answer. Conditions: at most 2097152 words.
-/
import Derived.Test.YtbkkjfgjlapadaaGreatLoad15
import Derived.Test.YtbkkjfgjlapadaaGreatElem15
import Derived.Test.YtbkkjfgjlapadaaGreatWalkCopyWords
namespace Go.Proofs.YtbkkjfgjlapadaaGreat
open Go.RowKit

theorem Tryz.szCmd15 : (Tryz.prog.info? 38).map (·.size) = some 5 := by kernel_rfl
set_option maxHeartbeats 1600000 in
theorem copyCmd_any (w : World) (o d1 b1 k : Int) (a0 : Option Addr) (c0 : Nat) (zs : List Int) (r0 : tIntS.Rd w [.slice a0 zs.length c0] zs) (hz : zs.length ≤ 2097152) :
    Calls Tryz.prog 49 #[.agg #[.int .i64 o, .int .i64 d1, .int .i64 b1, .int .i64 k, .slice a0 zs.length c0]] w fun e w' => ∃ b0 e0, e = .returned (.agg #[.int .i64 o, .int .i64 d1, .int .i64 b1, .int .i64 k, .slice b0 zs.length e0]) ∧ tCmd.Own w' w.heap.size w'.heap.size [.int .i64 o, .int .i64 d1, .int .i64 b1, .int .i64 k, .slice b0 zs.length e0] (o, d1, b1, k, zs) ∧ Below w.heap.size w w' := by
  go_enter Tryz.func49, Tryz.ntmps49
  go_wp2_with fail
  refine seal_new2 ?_
  intro V A R B
  refine (copyWords_any _ _ _ _ zs (r0.below B) hz).mono ?_
  rintro e w1 ⟨b0, e0, rfl, y, b⟩
  have zR := R.lt
  have A := A.below b A.lt
  have R := R.below b R.lt
  have B := Below.andThen B b
  have z := b.size
  have ne : w.heap.size + 1 ≠ w.heap.size := by omega
  obtain ⟨k0, k1, k2, k3, k4⟩ := A.cells5
  have fo := A.frozen
  go_wp2_with (first | (refine wpList_load_box rfl _ _ rfl rfl (A.at.set _ _).box _ Tryz.underlying38 rfl Tryz.szCmd15 ?_) | (refine wpList_store_box rfl _ _ _ rfl rfl rfl (R.other ne _ _) rfl Tryz.szCmd15 (by rfl) ?_; intro W X hb hs) | fail)
  have hbt := ((But.refl w.heap.size (w.heap.size + 1 + 1) w1).set (g := w.heap.size) (j := 4) (by omega) (by omega) (.slice b0 zs.length e0)).trans (hb.widen (by omega) (Nat.le_refl _))
  have y := y.but hbt (by omega)
  have K := hidden (y.widen (show w.heap.size ≤ V.heap.size by omega) hbt.size)
  have KB := hidden (Below.andBut B hbt (Nat.le_refl _))
  clear y hbt hb B b
  obtain ⟨x0, x1, x2, x3, x4⟩ := X.cells5
  go_wp2
  refine bodyPost_ret (v := .agg #[.int .i64 o, .int .i64 d1, .int .i64 b1, .int .i64 k, .slice b0 zs.length e0]) (by simp [results, Tryz.results49, go_sem, x0, x1, x2, x3, x4]) rfl ⟨_, _, rfl, ?_, KB.out⟩
  have y := K.out
  exact (int_own_of (int_own_of (int_own_of (int_own_of y))))

theorem Tryz.szAns15 : (Tryz.prog.info? 55).map (·.size) = some 3 := by kernel_rfl
set_option maxHeartbeats 1600000 in
theorem copyAns_any (w : World) (d1 q1 : Int) (a0 : Option Addr) (c0 : Nat) (zs : List Int) (r0 : tIntS.Rd w [.slice a0 zs.length c0] zs) (hz : zs.length ≤ 2097152) :
    Calls Tryz.prog 122 #[.agg #[.int .i64 d1, .int .i64 q1, .slice a0 zs.length c0]] w fun e w' => ∃ b0 e0, e = .returned (.agg #[.int .i64 d1, .int .i64 q1, .slice b0 zs.length e0]) ∧ tAns.Own w' w.heap.size w'.heap.size [.int .i64 d1, .int .i64 q1, .slice b0 zs.length e0] (d1, q1, zs) ∧ Below w.heap.size w w' := by
  go_enter Tryz.func122, Tryz.ntmps122
  go_wp2_with fail
  refine seal_new2 ?_
  intro V A R B
  refine (copyWords_any _ _ _ _ zs (r0.below B) hz).mono ?_
  rintro e w1 ⟨b0, e0, rfl, y, b⟩
  have zR := R.lt
  have A := A.below b A.lt
  have R := R.below b R.lt
  have B := Below.andThen B b
  have z := b.size
  have ne : w.heap.size + 1 ≠ w.heap.size := by omega
  obtain ⟨k0, k1, k2⟩ := A.cells3e
  have fo := A.frozen
  go_wp2_with (first | (refine wpList_load_box rfl _ _ rfl rfl (A.at.set _ _).box _ Tryz.underlying55 rfl Tryz.szAns15 ?_) | (refine wpList_store_box rfl _ _ _ rfl rfl rfl (R.other ne _ _) rfl Tryz.szAns15 (by rfl) ?_; intro W X hb hs) | fail)
  have hbt := ((But.refl w.heap.size (w.heap.size + 1 + 1) w1).set (g := w.heap.size) (j := 2) (by omega) (by omega) (.slice b0 zs.length e0)).trans (hb.widen (by omega) (Nat.le_refl _))
  have y := y.but hbt (by omega)
  have K := hidden (y.widen (show w.heap.size ≤ V.heap.size by omega) hbt.size)
  have KB := hidden (Below.andBut B hbt (Nat.le_refl _))
  clear y hbt hb B b
  obtain ⟨x0, x1, x2⟩ := X.cells3e
  go_wp2
  refine bodyPost_ret (v := .agg #[.int .i64 d1, .int .i64 q1, .slice b0 zs.length e0]) (by simp [results, Tryz.results122, go_sem, x0, x1, x2]) rfl ⟨_, _, rfl, ?_, KB.out⟩
  have y := K.out
  exact (int_own_of (int_own_of y))

end Go.Proofs.YtbkkjfgjlapadaaGreat

/-
  The walks of the laws' helpers that weigh slices of int and slices of those: what is left of a bound, or -1. Condition: the bound is between 0 and 1048576.
-/
import Derived.Test.YtbkkjfgjlapadaaGreatData
namespace Go.Proofs.YtbkkjfgjlapadaaGreat
open Go.RowKit

theorem szIntS_any (w : World) (a : Option Addr) (n cap : Nat) (left : Int) (hn : n ≤ 9223372036854775807) (h0 : 0 ≤ left) (h1 : left ≤ 1048576) :
    Calls Tryz.prog 87 #[.slice a n cap, .int .i64 left] w fun e w' => e = .returned (.int .i64 (leftOf left n)) ∧ w = w' := by
  by_cases h : (n : Int) ≤ left
  · go_enter Tryz.func87, Tryz.ntmps87
    go_wp2
    go_ret
    exact ⟨ret_int ((leftOf_pos (by omega)).symm), rfl⟩
  · go_enter Tryz.func87, Tryz.ntmps87
    go_wp2
    go_ret
    exact ⟨ret_int ((leftOf_neg (by omega)).symm), rfl⟩

set_option maxHeartbeats 800000 in
theorem szIntSS_any (w : World) (a : Option Addr) (n cap : Nat) (d : List (List Int)) (left : Int) (h : tIntSS.Rd w [.slice a n cap] d) (h0 : 0 ≤ left) (h1 : left ≤ 1048576) :
    Calls Tryz.prog 268 #[.slice a n cap, .int .i64 left] w fun e w' => e = .returned (.int .i64 (leftOf left (wtIntSS d))) ∧ Same w w' := by
  obtain ⟨hl, hc, hm⟩ := row_length h
  by_cases hlt : (n : Int) ≤ left
  · go_enter Tryz.func268, Tryz.ntmps268
    go_wp2
    go_loop [1, 5] (fun l i => ∃ j : Nat, j ≤ n ∧ i = .int .i64 j ∧ l = .int .i64 (left - n - (sumL ((d.map List.length).take j) : Int)) ∧ (sumL ((d.map List.length).take j) : Int) ≤ left - n) (fun _ i => n - (intOf i).toNat)
    case atStart => exact ⟨0, Nat.zero_le _, rfl, by simp [sumL], by simp [sumL]; omega⟩
    case round =>
      obtain ⟨j, hj, rfl, rfl, hs⟩ := hrel
      by_cases hjn : j < n
      · rcases rows_at rfl h with h0' | ⟨b, off, rfl, hbl, hcs⟩
        · omega
        have hdj : d[j]? = some (d[j]'(by omega)) := List.getElem?_eq_getElem (by omega)
        generalize d[j]'(by omega) = x at hdj
        obtain ⟨v, hv, hrv⟩ := hcs j x hdj
        obtain ⟨av, cv, rfl⟩ := row_shape hrv
        obtain ⟨_, hxc, hxm⟩ := row_length hrv
        have hst := sumL_take (l := d.map List.length) (j := j) (x := x.length) (by rw [List.getElem?_map, hdj]; rfl)
        have HW : Hid (sumL ((d.map List.length).take (j + 1)) = sumL ((d.map List.length).take j) + x.length) := hst
        have hle := sumL_le (l := d.map List.length) (j + 1)
        have HE : Hid (wtIntSS d = n + sumL (d.map List.length)) := by unfold Hid wtIntSS; rw [hl]
        generalize hS : sumL ((d.map List.length).take j) = S at hs HW
        generalize hT : sumL (d.map List.length) = T at hle HE
        clear hcs hst hS hT hdj
        by_cases hx : (x.length : Int) ≤ left - n - S
        · have hq : leftOf (left - n - (S : Int)) x.length = left - n - S - x.length := leftOf_pos hx
          go_wp2_with fail
          refine (szIntS_any _ _ _ _ _ (by omega) (by omega) (by omega)).mono ?_
          rintro e w1 ⟨rfl, rfl⟩
          go_wp2
          go_round
          case rel => exact ⟨j + 1, by omega, by go_num, by rw [HW.out]; go_num, by rw [HW.out]; omega⟩
          case measure => simp [intOf]; omega
        · have hq : leftOf (left - n - (S : Int)) x.length = -1 := leftOf_neg (by omega)
          have hgt : ¬ ((wtIntSS d : Nat) : Int) ≤ left := by rw [HE.out]; have := HW.out; omega
          go_wp2_with fail
          refine (szIntS_any _ _ _ _ _ (by omega) (by omega) (by omega)).mono ?_
          rintro e w1 ⟨rfl, rfl⟩
          go_wp2
          go_ret
          exact ⟨ret_int ((leftOf_neg (by omega)).symm), Same.refl _⟩
      · go_wp2
        go_ret
        have e : j = n := by omega
        subst e
        have ht : (d.map List.length).take j = d.map List.length := List.take_of_length_le (by simp; omega)
        rw [ht] at hs
        refine ⟨ret_int ?_, Same.refl _⟩
        rw [ht]
        rw [leftOf_pos (by unfold wtIntSS; omega)]
        unfold wtIntSS
        omega
  · have hgt : ¬ ((wtIntSS d : Nat) : Int) ≤ left := by unfold wtIntSS; omega
    go_enter Tryz.func268, Tryz.ntmps268
    go_wp2
    go_ret
    exact ⟨ret_int ((leftOf_neg (by omega)).symm), Same.refl _⟩

theorem szWr_any (w : World) (x : Int) (a : Option Addr) (n cap : Nat) (left : Int) (hn : n ≤ 9223372036854775807) (h0 : 0 ≤ left) (h1 : left ≤ 1048576) :
    Calls Tryz.prog 298 #[.agg #[.int .i64 x, .slice a n cap], .int .i64 left] w fun e w' => e = .returned (.int .i64 (leftOf left n)) ∧ Below w.heap.size w w' := by
  by_cases h : (n : Int) ≤ left
  · have hq := leftOf_pos h
    go_enter Tryz.func298, Tryz.ntmps298
    go_wp2_with fail
    refine (szIntS_any _ _ _ _ _ hn h0 h1).mono ?_
    rintro e w1 ⟨rfl, rfl⟩
    go_wp2
    go_ret
    exact ⟨ret_int (by omega), (Below.refl _ _).alloc (Nat.le_refl _) _⟩
  · have hq := leftOf_neg (left := left) (wt := n) (by omega)
    go_enter Tryz.func298, Tryz.ntmps298
    go_wp2_with fail
    refine (szIntS_any _ _ _ _ _ hn h0 h1).mono ?_
    rintro e w1 ⟨rfl, rfl⟩
    go_wp2
    go_ret
    exact ⟨ret_int (by omega), (Below.refl _ _).alloc (Nat.le_refl _) _⟩

set_option maxHeartbeats 800000 in
theorem szWrS_any (w : World) (E : TypeId) (a : Option Addr) (n cap : Nat) (d : List (Int × List Int)) (left : Int) (h : (tWrS E).Rd w [.slice a n cap] d) (h0 : 0 ≤ left) (h1 : left ≤ 1048576) :
    Calls Tryz.prog 269 #[.slice a n cap, .int .i64 left] w fun e w' => e = .returned (.int .i64 (leftOf left (wtWrS d))) ∧ Below w.heap.size w w' := by
  obtain ⟨hl, hc, hm⟩ := row_length h
  by_cases hlt : (n : Int) ≤ left
  · go_enter Tryz.func269, Tryz.ntmps269
    go_wp2
    go_loopw [1, 5] (fun l i wr => ∃ j : Nat, j ≤ n ∧ i = .int .i64 j ∧ l = .int .i64 (left - n - (sumL ((d.map fun x => x.2.length).take j) : Int)) ∧ (sumL ((d.map fun x => x.2.length).take j) : Int) ≤ left - n ∧ Below w.heap.size w wr) (fun _ i _ => n - (intOf i).toNat)
    case atStart => exact ⟨0, Nat.zero_le _, rfl, by simp [sumL], by simp [sumL]; omega, Below.refl _ _⟩
    case round =>
      obtain ⟨j, hj, rfl, rfl, hs, hb⟩ := hrel
      by_cases hjn : j < n
      · rcases pairs_at rfl h with h0' | ⟨b, off, rfl, hbl, hcs⟩
        · omega
        have hdj : d[j]? = some (d[j]'(by omega)) := List.getElem?_eq_getElem (by omega)
        generalize d[j]'(by omega) = x at hdj
        obtain ⟨v0, v1, hv0, hv1, hrv⟩ := hcs j x hdj
        obtain ⟨rfl, hrw⟩ := wr_rd hrv
        obtain ⟨av, cv, rfl⟩ := row_shape hrw
        obtain ⟨_, hxc, hxm⟩ := row_length hrw
        have hw0 := (hb.cell (p := ⟨b, off + j * 2, none⟩) hbl).trans hv0
        have hw1 := (hb.cell (p := ⟨b, off + j * 2 + 1, none⟩) hbl).trans hv1
        have hst := sumL_take (l := d.map fun x => x.2.length) (j := j) (x := x.2.length) (by rw [List.getElem?_map, hdj]; rfl)
        obtain ⟨x0, x1⟩ := x
        simp only at hw0 hw1 hxc hxm hst
        have HW : Hid (sumL ((d.map fun x => x.2.length).take (j + 1)) = sumL ((d.map fun x => x.2.length).take j) + x1.length) := hst
        have hle := sumL_le (l := d.map fun x => x.2.length) (j + 1)
        have HE : Hid (wtWrS d = n + sumL (d.map fun x => x.2.length)) := by unfold Hid wtWrS; rw [hl]
        generalize hS : sumL ((d.map fun x => x.2.length).take j) = S at hs HW
        generalize hT : sumL (d.map fun x => x.2.length) = T at hle HE
        clear hcs hst hS hT hdj hv0 hv1 hrv hrw
        by_cases hx : (x1.length : Int) ≤ left - n - S
        · have hq := leftOf_pos hx
          go_wp2_with fail
          refine (szWr_any _ _ _ _ _ _ (by omega) (by omega) (by omega)).mono ?_
          rintro e w1 ⟨rfl, hb1⟩
          have hB := Below.andThen hb hb1
          go_wp2
          go_roundw
          case rel => exact ⟨j + 1, by omega, by go_num, by rw [HW.out]; go_num, by rw [HW.out]; omega, hB⟩
          case measure => simp [intOf]; omega
        · have hq := leftOf_neg (left := left - n - (S : Int)) (wt := x1.length) (by omega)
          have hgt : left < ((wtWrS d : Nat) : Int) := by rw [HE.out]; have := HW.out; omega
          go_wp2_with fail
          refine (szWr_any _ _ _ _ _ _ (by omega) (by omega) (by omega)).mono ?_
          rintro e w1 ⟨rfl, hb1⟩
          have hB := Below.andThen hb hb1
          go_wp2
          go_ret
          exact ⟨ret_int (leftOf_neg (by omega)).symm, hB⟩
      · go_wp2
        go_ret
        have e : j = n := by omega
        subst e
        have ht : (d.map fun x => x.2.length).take j = d.map fun x => x.2.length := List.take_of_length_le (by simp; omega)
        rw [ht] at hs
        refine ⟨ret_int ?_, hb⟩
        rw [ht, leftOf_pos (by unfold wtWrS; omega)]
        unfold wtWrS
        omega
  · have hgt : left < ((wtWrS d : Nat) : Int) := by unfold wtWrS; omega
    go_enter Tryz.func269, Tryz.ntmps269
    go_wp2
    go_ret
    exact ⟨ret_int (leftOf_neg (by omega)).symm, Below.refl _ _⟩

set_option maxHeartbeats 800000 in
theorem szMem_any (w : World) (E : TypeId) (a0 a1 a3 : Option Addr) (n0 c0 n1 c1 n3 c3 : Nat) (ss : List (List Int)) (cs : List (Int × List Int)) (f : Bool) (bs : List Int) (left : Int) (h0 : tIntSS.Rd w [.slice a0 n0 c0] ss) (h1 : (tWrS E).Rd w [.slice a1 n1 c1] cs) (h3 : tIntS.Rd w [.slice a3 n3 c3] bs) (hl0 : 0 ≤ left) (hl1 : left ≤ 1048576) :
    Calls Tryz.prog 227 #[.agg #[.slice a0 n0 c0, .slice a1 n1 c1, .bool f, .slice a3 n3 c3], .int .i64 left] w fun e w' => e = .returned (.int .i64 (leftOf left (wtMem (ss, cs, f, bs)))) ∧ Below w.heap.size w w' := by
  obtain ⟨hn3, hc3, hm3⟩ := row_length h3
  have HT : Hid (wtMem (ss, cs, f, bs) = wtIntSS ss + wtWrS cs + n3) := by unfold Hid wtMem; rw [← hn3]
  generalize wtMem (ss, cs, f, bs) = T at HT
  have hA : Below w.heap.size w (w.alloc (.cells #[.slice a0 n0 c0, .slice a1 n1 c1, .bool f, .slice a3 n3 c3] 228)) := (Below.refl _ _).alloc (Nat.le_refl _) _
  have hcell : ∀ j v, (#[Value.slice a0 n0 c0, .slice a1 n1 c1, .bool f, .slice a3 n3 c3])[j]? = some v → (w.alloc (.cells #[.slice a0 n0 c0, .slice a1 n1 c1, .bool f, .slice a3 n3 c3] 228)).cell? ⟨w.heap.size, j, none⟩ = some v := by
    intro j v hv
    rw [cell_of_row _ w.heap.size j _ _ (0, 0) (heap_alloc_new w _)]
    exact hv
  have k1 := hcell 1 _ rfl
  have k3 := hcell 3 _ rfl
  clear hcell
  go_enter Tryz.func227, Tryz.ntmps227
  go_wp2_with fail
  refine (szIntSS_any _ _ _ _ ss _ (h0.below hA) hl0 hl1).mono ?_
  rintro e w1 ⟨rfl, hs1⟩
  have B1 := Below.andSame hA hs1
  have k1' := (hs1.cell _).trans k1
  have k3' := (hs1.cell _).trans k3
  have z1 : w.heap.size < w1.heap.size := by rw [hs1.size]; simp
  clear hs1 k1 k3 hA
  by_cases q0 : (wtIntSS ss : Int) ≤ left
  · have e0 := leftOf_pos q0
    go_wp2_with fail
    refine (szWrS_any _ E _ _ _ cs _ (h1.below B1) (by omega) (by omega)).mono ?_
    rintro e w2 ⟨rfl, hb2⟩
    have B2 := Below.andThen B1 hb2
    have k3'' := (hb2.cell (p := ⟨w.heap.size, 3, none⟩) z1).trans k3'
    clear hb2 k1' k3'
    by_cases q1 : (wtWrS cs : Int) ≤ left - wtIntSS ss
    · have e1 := leftOf_pos q1
      go_wp2_with fail
      refine (szIntS_any _ _ _ _ _ (by omega) (by omega) (by omega)).mono ?_
      rintro e w3 ⟨rfl, rfl⟩
      by_cases q2 : (n3 : Int) ≤ left - wtIntSS ss - wtWrS cs
      · have e2 := leftOf_pos q2
        go_wp2
        go_ret
        exact ⟨ret_int (by rw [leftOf_pos (by rw [HT.out]; omega), HT.out]; omega), B2⟩
      · have e2 := leftOf_neg (left := left - wtIntSS ss - wtWrS cs) (wt := n3) (by omega)
        go_wp2
        go_ret
        exact ⟨ret_int (by rw [leftOf_neg (by rw [HT.out]; omega)]), B2⟩
    · have e1 := leftOf_neg (left := left - wtIntSS ss) (wt := wtWrS cs) (by omega)
      go_wp2
      go_ret
      exact ⟨ret_int (by rw [leftOf_neg (by rw [HT.out]; omega)]), B2⟩
  · have e0 := leftOf_neg (left := left) (wt := wtIntSS ss) (by omega)
    go_wp2
    go_ret
    exact ⟨ret_int (by rw [leftOf_neg (by rw [HT.out]; omega)]), B1⟩

end Go.Proofs.YtbkkjfgjlapadaaGreat

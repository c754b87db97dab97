/-
  The walk of slices.BinarySearch over an ascending slice of int: where a number stands or would stand, and whether it is there. Condition: at most 2097152 elements.
-/
import Derived.Test.YtmkiljflkndmoaaWalkSpoilSpec
namespace Go.Proofs.Ytmkiljflkndmoaa
open Go.RowKit

theorem less_any (w : World) (x y : Int) : Calls Try.prog 87 #[.int .i64 x, .int .i64 y] w fun e w' => e = .returned (.bool (decide (x < y))) ∧ Same w w' := by
  go_enter Try.func87, Try.ntmps87
  go_wp2
  go_ret
  exact ⟨ret_bool (by simp), Same.refl _⟩

set_option maxHeartbeats 800000 in
theorem search_any (w : World) (a : Option Addr) (len cap : Nat) (zs : List Int) (t : Int) (hz : zs.length = len) (hr : Reads .i64 w a zs) (hlen : len ≤ 2097152) (ha : ∀ i, i + 1 < zs.length → zs.getD i 0 < zs.getD (i + 1) 0) :
    Calls Try.prog 79 #[.slice a len cap, .int .i64 t] w fun e w' => ∃ k : Nat, e = .returned (.tuple #[.int .i64 k, .bool (inL zs t)]) ∧ k ≤ len ∧ (∀ x ∈ zs.take k, x < t) ∧ (∀ x ∈ zs.drop k, t ≤ x) ∧ Same w w' := by
  go_enter Try.func79, Try.ntmps79
  go_wp2
  go_loopw [7, 8] (fun iv jv wr => ∃ (i j : Nat), i ≤ j ∧ j ≤ len ∧ iv = .int .i64 i ∧ jv = .int .i64 j ∧ (∀ x ∈ zs.take i, x < t) ∧ (∀ x ∈ zs.drop j, t ≤ x) ∧ Same w wr) (fun iv jv _ => (intOf jv).toNat - (intOf iv).toNat)
  case atStart => exact ⟨0, len, Nat.zero_le _, Nat.le_refl _, rfl, rfl, by simp, by rw [← hz]; simp, Same.refl _⟩
  case round =>
    obtain ⟨i, j, hij, hj, rfl, rfl, hlo, hhi, hs⟩ := hrel
    by_cases hlt : i < j
    · have k1 : (i : Int) < (j : Int) := by omega
      rcases hr.cases with h0 | ⟨b, off, rfl, hbl, hcz⟩
      · omega
      obtain ⟨m, hm⟩ : ∃ m : Nat, ((i : Int) + (j : Int)) / 2 = (m : Int) := ⟨(i + j) / 2, by omega⟩
      have hm1 : i ≤ m := by omega
      have hm2 : m < j := by omega
      have hc1 := (hs.cell _).trans (hcz m (by omega))
      have gw1 : IntKind.i64.wrap ((i : Int) + (j : Int)) = (i : Int) + (j : Int) := IntWalk.i64_in _ (by omega)
      have gw3 : IntKind.i64.wrap (m : Int) = (m : Int) := IntWalk.i64_in _ (by omega)
      have k2 : (0 : Int) ≤ (m : Int) := by omega
      have k3 : (m : Int) < (len : Int) := by omega
      have HA := hidden (fun (n : Int) (hle : zs.getD m 0 ≤ n) => take_le (k := m + 1) (n := n) ha (by omega) (.inr (by simpa using hle)))
      have HD : Hid (t ≤ zs.getD m 0 → ∀ x ∈ zs.drop m, t ≤ x) := fun hle x hx => by
        by_cases hxt : t ≤ x
        · exact hxt
        · exfalso
          obtain ⟨q, hq⟩ := List.mem_iff_getElem?.1 hx
          rw [List.getElem?_drop] at hq
          have hql : m + q < zs.length := (List.getElem?_eq_some_iff.1 hq).1
          have h1 := take_le (k := m + q + 1) (n := x) ha (by omega) (.inr (by rw [Nat.add_sub_cancel, List.getD_eq_getElem?_getD, hq]; exact Int.le_refl _)) (zs.getD m 0) (List.mem_iff_getElem?.2 ⟨m, by rw [List.getElem?_take, if_pos (by omega), List.getD_eq_getElem?_getD, List.getElem?_eq_getElem (by omega)]; rfl⟩)
          omega
      generalize zs.getD m 0 = x at hc1 HA HD
      have HLO := hidden hlo
      have HHI := hidden hhi
      clear hlo hhi hcz
      go_wp2_with fail
      refine (less_any _ _ _).mono ?_
      rintro e w1 ⟨rfl, hs1⟩
      by_cases hx : x < t
      · have hd : decide (x < t) = true := by simp [hx]
        go_wp2
        go_roundw
        case rel => exact ⟨m + 1, j, by omega, hj, by go_num, rfl, fun y hy => by
          have := HA.out x (Int.le_refl _) y hy
          omega, HHI.out, hs.trans hs1⟩
        case measure => simp [intOf]; omega
      · have hd : decide (x < t) = false := by simp [hx]
        go_wp2
        go_roundw
        case rel => exact ⟨i, m, hm1, by omega, rfl, rfl, HLO.out, HD.out (by omega), hs.trans hs1⟩
        case measure => simp [intOf]; omega
    · have e : i = j := by omega
      subst e
      by_cases hil : i < len
      · rcases hr.cases with h0 | ⟨b, off, rfl, hbl, hcz⟩
        · omega
        have hc1 := (hs.cell _).trans (hcz i (by omega))
        have k2 : (0 : Int) ≤ (i : Int) := by omega
        have k3 : (i : Int) < (len : Int) := by omega
        have HIN : Hid (inL zs t = decide (zs.getD i 0 = t)) := by
          unfold Hid inL
          by_cases he : zs.getD i 0 = t
          · rw [decide_eq_true he, List.any_eq_true]
            exact ⟨zs.getD i 0, List.mem_iff_getElem?.2 ⟨i, by rw [List.getD_eq_getElem?_getD, List.getElem?_eq_getElem (by omega)]; rfl⟩, decide_eq_true he⟩
          · rw [decide_eq_false he, List.any_eq_false]
            intro y hy
            simp only [decide_eq_true_eq]
            intro hyt
            obtain ⟨q, hq⟩ := List.mem_iff_getElem?.1 hy
            have hql : q < zs.length := (List.getElem?_eq_some_iff.1 hq).1
            by_cases hqi : q < i
            · have := hlo y (List.mem_iff_getElem?.2 ⟨q, by rw [List.getElem?_take, if_pos hqi]; exact hq⟩)
              omega
            · have h1 := take_le (k := q + 1) (n := y) ha (by omega) (.inr (by rw [Nat.add_sub_cancel, List.getD_eq_getElem?_getD, hq]; exact Int.le_refl _)) (zs.getD i 0) (List.mem_iff_getElem?.2 ⟨i, by rw [List.getElem?_take, if_pos (by omega), List.getD_eq_getElem?_getD, List.getElem?_eq_getElem (by omega)]; rfl⟩)
              have h2 := hhi (zs.getD i 0) (List.mem_iff_getElem?.2 ⟨0, by rw [List.getElem?_drop, List.getD_eq_getElem?_getD, Nat.add_zero, List.getElem?_eq_getElem (by omega)]; rfl⟩)
              omega
        generalize zs.getD i 0 = x at hc1 HIN
        have HLO := hidden hlo
        have HHI := hidden hhi
        clear hlo hhi hcz
        by_cases hx : x = t
        · subst hx
          go_wp2
          go_ret2
          exact ⟨i, by rw [HIN.out]; simp, hj, HLO.out, HHI.out, hs⟩
        · go_wp2
          go_ret2
          exact ⟨i, by rw [HIN.out]; simp [hx], hj, HLO.out, HHI.out, hs⟩
      · have HIN : Hid (inL zs t = false) := by
          unfold Hid inL
          rw [List.any_eq_false]
          intro y hy
          have := hlo y (by rw [List.take_of_length_le (by omega)]; exact hy)
          simp
          omega
        have k3 : ¬ (i : Int) < (len : Int) := by omega
        have HLO := hidden hlo
        have HHI := hidden hhi
        clear hlo hhi
        go_wp2
        go_ret2
        exact ⟨i, by rw [HIN.out]; rfl, hj, HLO.out, HHI.out, hs⟩

end Go.Proofs.Ytmkiljflkndmoaa

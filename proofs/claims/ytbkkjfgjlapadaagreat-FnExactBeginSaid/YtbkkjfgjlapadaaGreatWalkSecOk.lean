/-
  The walks of both SecOk (the program's and the specification's) and of what they call: each answers whether there are at most twelve numbers and each of them is a word. Condition: at most 2097152 elements.
-/
import Derived.Test.YtbkkjfgjlapadaaGreatWalkInts
import Derived.Test.YtbkkjfgjlapadaaGreatWalkIn
import Derived.Test.YtbkkjfgjlapadaaGreatWords
namespace Go.Proofs.YtbkkjfgjlapadaaGreat
open Go.RowKit

theorem isWord_any (n : Int) (w : World) : Calls Tryz.prog 249 #[.int .i64 n] w fun e w' => e = .returned (.bool (isW n)) ∧ w' = w := by
  unfold isW
  by_cases h0 : 0 ≤ n
  · by_cases h1 : n ≤ 65535
    · go_enter Tryz.func249, Tryz.ntmps249
      go_wp2
      go_ret
      exact ⟨ret_bool (by simp [h0, h1]), rfl⟩
    · go_enter Tryz.func249, Tryz.ntmps249
      go_wp2
      go_ret
      exact ⟨ret_bool (by symm; simp; omega), rfl⟩
  · go_enter Tryz.func249, Tryz.ntmps249
    go_wp2
    go_ret
    exact ⟨ret_bool (by symm; simp; omega), rfl⟩

theorem l1Word_any (n : Int) (w : World) : Calls Tryz.prog 222 #[.int .i64 n] w fun e w' => e = .returned (.bool (isW n)) ∧ w' = w := by
  go_enter Tryz.func222, Tryz.ntmps222
  go_wp2_with (go_at_call 71; refine (l1In_any _ _ _ _).mono ?_; rintro e w' ⟨rfl, rfl⟩)
  go_ret
  exact ⟨rfl, rfl⟩

theorem l1Words_any (w : World) (a : Option Addr) (len cap : Nat) (zs : List Int) (hz : zs.length = len) (hr : Reads .i64 w a zs) (hlen : len ≤ 2097152) :
    Calls Tryz.prog 155 #[.slice a len cap] w fun e w' => e = .returned (.bool (allW zs)) ∧ w' = w := by
  go_enter Tryz.func155, Tryz.ntmps155
  go_wp2
  go_loop [3] (fun i => ∃ j : Nat, j ≤ len ∧ i = .int .i64 j ∧ allW (zs.take j) = true) (fun i => len - (intOf i).toNat)
  case atStart => exact ⟨0, Nat.zero_le _, rfl, rfl⟩
  case round =>
    obtain ⟨j, hj, rfl, ht⟩ := hrel
    by_cases hlt : j < len
    · rcases hr.cases with h0 | ⟨b, off, rfl, hbl, hc⟩
      · omega
      have hc1 := hc j (by omega)
      have hd := allW_step (zs := zs) (j := j) (by omega) rfl
      generalize zs.getD j 0 = x at hc1 hd
      have HT : Hid (allW (zs.take j) = true) := ht
      clear hc ht
      by_cases hx : isW x = true
      · have HD := hd.1 hx HT.out
        clear hd
        go_wp2_with (go_at_call 222; refine (l1Word_any _ _).mono ?_; rintro e w' ⟨rfl, rfl⟩)
        go_round
        case rel => exact ⟨j + 1, by omega, by go_num, HD⟩
        case measure => simp [intOf]; omega
      · have hx : isW x = false := by simpa using hx
        have HD := hd.2 hx
        clear hd
        go_wp2_with (go_at_call 222; refine (l1Word_any _ _).mono ?_; rintro e w' ⟨rfl, rfl⟩)
        go_ret
        exact ⟨ret_bool (by rw [HD]), rfl⟩
    · go_wp2
      go_ret
      have e : j = len := by omega
      subst e
      rw [List.take_of_length_le (by omega)] at ht
      exact ⟨ret_bool ht.symm, rfl⟩

theorem specSecOk_any (w : World) (a : Option Addr) (len cap : Nat) (zs : List Int) (hz : zs.length = len) (hr : Reads .i64 w a zs) (hlen : len ≤ 2097152) :
    Calls Tryz.prog 267 #[.slice a len cap] w fun e w' => e = .returned (.bool (secB zs)) ∧ Same w w' := by
  by_cases h : len ≤ 12
  · go_enter Tryz.func267, Tryz.ntmps267
    go_wp2_with (go_at_call 155; refine (l1Words_any _ _ _ _ zs hz hr hlen).mono ?_; rintro e w' ⟨rfl, rfl⟩)
    go_ret
    exact ⟨ret_bool (by simp [secB, hz, h]), Same.refl _⟩
  · go_enter Tryz.func267, Tryz.ntmps267
    go_wp2
    go_ret
    exact ⟨ret_bool (by simp [secB, hz, h]), Same.refl _⟩

theorem implSecOk_any (w : World) (a : Option Addr) (len cap : Nat) (zs : List Int) (hz : zs.length = len) (hr : Reads .i64 w a zs) (hlen : len ≤ 2097152) :
    Calls Tryz.prog 202 #[.slice a len cap] w fun e w' => e = .returned (.bool (secB zs)) ∧ Same w w' := by
  by_cases h : len ≤ 12
  · go_enter Tryz.func202, Tryz.ntmps202
    go_wp2
    go_loop [10] (fun i => ∃ j : Nat, j ≤ len ∧ i = .int .i64 j ∧ allW (zs.take j) = true) (fun i => len - (intOf i).toNat)
    case atStart => exact ⟨0, Nat.zero_le _, rfl, rfl⟩
    case round =>
      obtain ⟨j, hj, rfl, ht⟩ := hrel
      by_cases hlt : j < len
      · rcases hr.cases with h0 | ⟨b, off, rfl, hbl, hc⟩
        · omega
        have hc1 := hc j (by omega)
        have hd := allW_step (zs := zs) (j := j) (by omega) rfl
        generalize zs.getD j 0 = x at hc1 hd
        have HT : Hid (allW (zs.take j) = true) := ht
        clear hc ht
        by_cases hx : isW x = true
        · have HD := hd.1 hx HT.out
          clear hd
          go_wp2_with (go_at_call 249; refine (isWord_any _ _).mono ?_; rintro e w' ⟨rfl, rfl⟩)
          go_round
          case rel => exact ⟨j + 1, by omega, by go_num, HD⟩
          case measure => simp [intOf]; omega
        · have hx : isW x = false := by simpa using hx
          have HD := hd.2 hx
          clear hd
          go_wp2_with (go_at_call 249; refine (isWord_any _ _).mono ?_; rintro e w' ⟨rfl, rfl⟩)
          go_ret
          exact ⟨ret_bool (by simp [secB, HD]), Same.refl _⟩
      · go_wp2
        go_ret
        have e : j = len := by omega
        subst e
        rw [List.take_of_length_le (by omega)] at ht
        exact ⟨ret_bool (by simp [secB, hz, h, ht]), Same.refl _⟩
  · go_enter Tryz.func202, Tryz.ntmps202
    go_wp2
    go_ret
    exact ⟨ret_bool (by simp [secB, hz, h]), Same.refl _⟩

end Go.Proofs.YtbkkjfgjlapadaaGreat

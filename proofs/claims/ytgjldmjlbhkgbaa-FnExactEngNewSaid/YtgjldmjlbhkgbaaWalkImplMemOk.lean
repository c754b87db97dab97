/-
  The walk of the program's MemOk: whether a disk is right. Condition: it weighs at most 2097152.
-/
import Derived.Test.YtgjldmjlbhkgbaaWalkMemOk
namespace Go.Proofs.Ytgjldmjlbhkgbaa
open Go.RowKit

theorem hasSec_any (w : World) (a0 : Option Addr) (n0 c0 : Nat) (v1 v2 v3 : Value) (x : Int) :
    Calls Try.prog 68 #[.agg #[.slice a0 n0 c0, v1, v2, v3], .int .i64 x] w fun e w' => e = .returned (.bool (inB x 0 ((n0 : Int) - 1))) ∧ Below w.heap.size w w' := by
  have hA : Below w.heap.size w (w.alloc (.cells #[.slice a0 n0 c0, v1, v2, v3] 57)) := (Below.refl _ _).alloc (Nat.le_refl _) _
  have hcell : (w.alloc (.cells #[.slice a0 n0 c0, v1, v2, v3] 57)).cell? ⟨w.heap.size, 0, none⟩ = some (.slice a0 n0 c0) := by
    rw [cell_of_row _ w.heap.size 0 _ _ (0, 0) (heap_alloc_new w _)]
    rfl
  by_cases h0 : 0 ≤ x
  · by_cases h1 : x < (n0 : Int)
    · go_enter Try.func68, Try.ntmps68
      go_wp2
      go_ret
      exact ⟨ret_bool (by symm; unfold inB; simp; omega), hA⟩
    · go_enter Try.func68, Try.ntmps68
      go_wp2
      go_ret
      exact ⟨ret_bool (by symm; unfold inB; simp; omega), hA⟩
  · go_enter Try.func68, Try.ntmps68
    go_wp2
    go_ret
    exact ⟨ret_bool (by symm; unfold inB; simp; omega), hA⟩

set_option maxHeartbeats 1600000 in
theorem badOk_any (w : World) (a0 : Option Addr) (n0 c0 : Nat) (v1 v2 : Value) (a3 : Option Addr) (n3 c3 : Nat) (bs : List Int) (h3 : tIntS.Rd w [.slice a3 n3 c3] bs) :
    Calls Try.prog 78 #[.agg #[.slice a0 n0 c0, v1, v2, .slice a3 n3 c3]] w fun e w' => e = .returned (.bool (badB n0 bs)) ∧ Below w.heap.size w w' := by
  obtain ⟨hl3, _, hm3⟩ := row_length h3
  have hA : Below w.heap.size w (w.alloc (.cells #[.slice a0 n0 c0, v1, v2, .slice a3 n3 c3] 57)) := (Below.refl _ _).alloc (Nat.le_refl _) _
  have hcell : ∀ j v, (#[Value.slice a0 n0 c0, v1, v2, .slice a3 n3 c3])[j]? = some v → (w.alloc (.cells #[.slice a0 n0 c0, v1, v2, .slice a3 n3 c3] 57)).cell? ⟨w.heap.size, j, none⟩ = some v := by
    intro j v hv
    rw [cell_of_row _ w.heap.size j _ _ (0, 0) (heap_alloc_new w _)]
    exact hv
  have k0 := hcell 0 _ rfl
  have k1 := hcell 1 _ rfl
  have k2 := hcell 2 _ rfl
  have k3 := hcell 3 _ rfl
  have g3 := h3.below hA
  have hz : w.heap.size < (w.alloc (.cells #[.slice a0 n0 c0, v1, v2, .slice a3 n3 c3] 57)).heap.size := by simp
  go_enter Try.func78, Try.ntmps78
  go_wp2
  generalize hW : w.alloc (.cells #[.slice a0 n0 c0, v1, v2, .slice a3 n3 c3] 57) = W at hA k0 k1 k2 k3 g3 hz ⊢
  clear hW hcell h3
  go_loopw [8] (fun i wr => ∃ i3 : Nat, i3 ≤ n3 ∧ i = .int .i64 i3 ∧ (List.range i3).all (badAt n0 bs) = true ∧ Below W.heap.size W wr) (fun i _ => n3 - (intOf i).toNat)
  case atStart => exact ⟨0, Nat.zero_le _, rfl, rfl, Below.refl _ _⟩
  case round =>
    obtain ⟨i3, hi3, rfl, ht, hs⟩ := hrel
    have q0 := (hs.cell (p := ⟨w.heap.size, 0, none⟩) hz).trans k0
    have q1 := (hs.cell (p := ⟨w.heap.size, 1, none⟩) hz).trans k1
    have q2 := (hs.cell (p := ⟨w.heap.size, 2, none⟩) hz).trans k2
    have q3 := (hs.cell (p := ⟨w.heap.size, 3, none⟩) hz).trans k3
    have hzr : w.heap.size < wr.heap.size := Nat.lt_of_lt_of_le hz hs.size
    by_cases hi3n : i3 < n3
    · obtain ⟨R3, _, _, _⟩ := ints_rd g3
      rcases R3.cases with h0' | ⟨b, off, rfl, hbl, hcs⟩
      · omega
      have hbr : b < wr.heap.size := Nat.lt_of_lt_of_le hbl hs.size
      have p0 := (hs.cell (p := ⟨b, off + i3, none⟩) hbl).trans (hcs i3 (by omega))
      have HT := hidden ht
      have hrs : (List.range (i3 + 1)).all (badAt n0 bs) = ((List.range i3).all (badAt n0 bs) && badAt n0 bs i3) := by rw [List.range_succ, List.all_append]; simp
      have hrn : badAt n0 bs i3 = false → badB n0 bs = false := by
        intro h
        unfold badB
        rw [List.all_eq_false]
        exact ⟨i3, by simp; omega, by simp [h]⟩
      have hbd : badAt n0 bs i3 = (inB (bs.getD i3 0) 0 ((n0 : Int) - 1) && (decide (i3 = 0) || decide (bs.getD (i3 - 1) 0 < bs.getD i3 0))) := rfl
      have i1 : (0 : Int) ≤ (i3 : Int) := by omega
      have i2' : (i3 : Int) < (n3 : Int) := by omega
      by_cases hI : inB (bs.getD i3 0) 0 ((n0 : Int) - 1) = true
      · by_cases hz3 : i3 = 0
        · have HD : Hid ((List.range (i3 + 1)).all (badAt n0 bs) = true) := by unfold Hid; rw [hrs, HT.out, hbd, hI, decide_eq_true hz3]; rfl
          generalize bs.getD i3 0 = y at p0 hI
          have d0 : decide ((0 : Int) < (i3 : Int)) = false := decide_eq_false (by omega)
          have d0b : decide (0 < i3) = false := decide_eq_false (by omega)
          have HZ := hidden hz3
          clear hcs ht hrs hrn hbd hz3 R3
          go_wp2_with fail
          refine (hasSec_any _ _ _ _ _ _ _ _).mono ?_
          rintro e w5 ⟨rfl, hb5'⟩
          have r0 := (hb5'.cell (p := ⟨w.heap.size, 0, none⟩) hzr).trans q0
          have r1 := (hb5'.cell (p := ⟨w.heap.size, 1, none⟩) hzr).trans q1
          have r2 := (hb5'.cell (p := ⟨w.heap.size, 2, none⟩) hzr).trans q2
          have r3 := (hb5'.cell (p := ⟨w.heap.size, 3, none⟩) hzr).trans q3
          have hs5 := hs.trans (hb5'.mono hs.size)
          clear q0 q1 q2 q3 hb5'
          go_wp2
          go_roundw
          case rel => exact ⟨i3 + 1, by omega, by go_num, HD.out, hs5⟩
          case measure => simp [intOf]; omega
        · have p1 := (hs.cell (p := ⟨b, off + (i3 - 1), none⟩) hbl).trans (hcs (i3 - 1) (by omega))
          have d0 : decide ((0 : Int) < (i3 : Int)) = true := decide_eq_true (by omega)
          have d0b : decide (0 < i3) = true := decide_eq_true (by omega)
          have gv : IntKind.i64.wrap ((i3 : Int) - 1) = (i3 : Int) - 1 := IntWalk.i64_in _ (by omega)
          have gt : ((i3 : Int) - 1).toNat = i3 - 1 := by omega
          have i3a : (0 : Int) ≤ (i3 : Int) - 1 := by omega
          have i3b : (i3 : Int) - 1 < (n3 : Int) := by omega
          by_cases hlt : bs.getD (i3 - 1) 0 < bs.getD i3 0
          · have HD : Hid ((List.range (i3 + 1)).all (badAt n0 bs) = true) := by unfold Hid; rw [hrs, HT.out, hbd, hI, decide_eq_true hlt]; simp
            generalize bs.getD i3 0 = y at p0 hI hlt
            generalize bs.getD (i3 - 1) 0 = z at p1 hlt
            have d1 : ¬ y ≤ z := by omega
            clear hcs ht hrs hrn hbd hz3 R3
            go_wp2_with fail
            refine (hasSec_any _ _ _ _ _ _ _ _).mono ?_
            rintro e w5 ⟨rfl, hb5'⟩
            have r0 := (hb5'.cell (p := ⟨w.heap.size, 0, none⟩) hzr).trans q0
            have r1 := (hb5'.cell (p := ⟨w.heap.size, 1, none⟩) hzr).trans q1
            have r2 := (hb5'.cell (p := ⟨w.heap.size, 2, none⟩) hzr).trans q2
            have r3 := (hb5'.cell (p := ⟨w.heap.size, 3, none⟩) hzr).trans q3
            have p2 := (hb5'.cell (p := ⟨b, off + (i3 - 1), none⟩) hbr).trans p1
            have hs5 := hs.trans (hb5'.mono hs.size)
            clear q0 q1 q2 q3 hb5'
            go_wp2
            go_roundw
            case rel => exact ⟨i3 + 1, by omega, by go_num, HD.out, hs5⟩
            case measure => simp [intOf]; omega
          · have HN := hidden (hrn (by rw [hbd, hI, decide_eq_false hz3, decide_eq_false hlt]; rfl))
            generalize bs.getD i3 0 = y at p0 hI hlt
            generalize bs.getD (i3 - 1) 0 = z at p1 hlt
            have d1 : y ≤ z := by omega
            clear hcs ht hrs hrn hbd hz3 R3
            go_wp2_with fail
            refine (hasSec_any _ _ _ _ _ _ _ _).mono ?_
            rintro e w5 ⟨rfl, hb5'⟩
            have r0 := (hb5'.cell (p := ⟨w.heap.size, 0, none⟩) hzr).trans q0
            have r1 := (hb5'.cell (p := ⟨w.heap.size, 1, none⟩) hzr).trans q1
            have r2 := (hb5'.cell (p := ⟨w.heap.size, 2, none⟩) hzr).trans q2
            have r3 := (hb5'.cell (p := ⟨w.heap.size, 3, none⟩) hzr).trans q3
            have p2 := (hb5'.cell (p := ⟨b, off + (i3 - 1), none⟩) hbr).trans p1
            have hs5 := hs.trans (hb5'.mono hs.size)
            clear q0 q1 q2 q3 hb5'
            go_wp2
            go_ret
            exact ⟨ret_bool HN.out.symm, Below.andThen hA hs5⟩
      · have hI : inB (bs.getD i3 0) 0 ((n0 : Int) - 1) = false := by simpa using hI
        have HN := hidden (hrn (by rw [hbd, hI]; rfl))
        generalize bs.getD i3 0 = y at p0 hI
        clear hcs ht hrs hrn hbd R3
        go_wp2_with fail
        refine (hasSec_any _ _ _ _ _ _ _ _).mono ?_
        rintro e w5 ⟨rfl, hb5'⟩
        have r0 := (hb5'.cell (p := ⟨w.heap.size, 0, none⟩) hzr).trans q0
        have r1 := (hb5'.cell (p := ⟨w.heap.size, 1, none⟩) hzr).trans q1
        have r2 := (hb5'.cell (p := ⟨w.heap.size, 2, none⟩) hzr).trans q2
        have r3 := (hb5'.cell (p := ⟨w.heap.size, 3, none⟩) hzr).trans q3
        have hs5 := hs.trans (hb5'.mono hs.size)
        clear q0 q1 q2 q3 hb5'
        go_wp2
        go_ret
        exact ⟨ret_bool HN.out.symm, Below.andThen hA hs5⟩
    · have e3 : i3 = n3 := by omega
      have HB : Hid (badB n0 bs = true) := by unfold Hid badB; rw [hl3, ← e3]; exact ht
      clear ht hi3
      go_wp2
      go_ret
      exact ⟨ret_bool HB.out.symm, Below.andThen hA hs⟩

set_option maxHeartbeats 3200000 in
theorem implMemOk_any (w : World) (E : TypeId) (a0 a1 a3 : Option Addr) (n0 c0 n1 c1 n3 c3 : Nat) (ss : List (List Int)) (cs : List (Int × List Int)) (f : Bool) (bs : List Int) (h0 : tIntSS.Rd w [.slice a0 n0 c0] ss) (h1 : (tWrS E).Rd w [.slice a1 n1 c1] cs) (h3 : tIntS.Rd w [.slice a3 n3 c3] bs) (hw : wtMem (ss, cs, f, bs) ≤ 2097152) :
    Calls Try.prog 67 #[.agg #[.slice a0 n0 c0, .slice a1 n1 c1, .bool f, .slice a3 n3 c3]] w fun e w' => e = .returned (.bool (memB ss cs bs)) ∧ Below w.heap.size w w' := by
  obtain ⟨hl0, _, hm0⟩ := row_length h0
  obtain ⟨hl1, _, hm1⟩ := row_length h1
  obtain ⟨hl3, _, hm3⟩ := row_length h3
  have hw0 : wtIntSS ss ≤ 2097152 := by unfold wtMem at hw; simp only at hw; omega
  have hw1 : wtWrS cs ≤ 2097152 := by unfold wtMem at hw; simp only at hw; omega
  have hA : Below w.heap.size w (w.alloc (.cells #[.slice a0 n0 c0, .slice a1 n1 c1, .bool f, .slice a3 n3 c3] 57)) := (Below.refl _ _).alloc (Nat.le_refl _) _
  have hcell : ∀ j v, (#[Value.slice a0 n0 c0, .slice a1 n1 c1, .bool f, .slice a3 n3 c3])[j]? = some v → (w.alloc (.cells #[.slice a0 n0 c0, .slice a1 n1 c1, .bool f, .slice a3 n3 c3] 57)).cell? ⟨w.heap.size, j, none⟩ = some v := by
    intro j v hv
    rw [cell_of_row _ w.heap.size j _ _ (0, 0) (heap_alloc_new w _)]
    exact hv
  have k0 := hcell 0 _ rfl
  have k1 := hcell 1 _ rfl
  have k2 := hcell 2 _ rfl
  have k3 := hcell 3 _ rfl
  have g0 := h0.below hA
  have g1 := h1.below hA
  have g3 := h3.below hA
  have hz : w.heap.size < (w.alloc (.cells #[.slice a0 n0 c0, .slice a1 n1 c1, .bool f, .slice a3 n3 c3] 57)).heap.size := by simp
  by_cases c1' : (1 : Int) ≤ (n0 : Int)
  · by_cases c2' : (n0 : Int) ≤ 20
    · by_cases c3' : (n1 : Int) ≤ 60
      · have hI0 : inB (ss.length : Int) 1 20 = true := by unfold inB; rw [hl0]; simp; omega
        have hI1 : decide (cs.length ≤ 60) = true := decide_eq_true (by omega)
        have HI0 := hidden hI0
        have HI1 := hidden hI1
        clear hI0 hI1
        go_enter Try.func67, Try.ntmps67
        go_wp2
        generalize hW : w.alloc (.cells #[.slice a0 n0 c0, .slice a1 n1 c1, .bool f, .slice a3 n3 c3] 57) = W at hA k0 k1 k2 k3 g0 g1 g3 hz ⊢
        clear hW hcell h0 h1 h3
        go_loopw [26] (fun i wr => ∃ j : Nat, j ≤ n0 ∧ i = .int .i64 j ∧ (ss.take j).all secB = true ∧ Same W wr) (fun i _ => n0 - (intOf i).toNat)
        case atStart => exact ⟨0, Nat.zero_le _, rfl, rfl, Same.refl _⟩
        case round =>
          obtain ⟨j, hj, rfl, ht, hs⟩ := hrel
          by_cases hjn : j < n0
          · rcases rows_at rfl g0 with h0' | ⟨b, off, rfl, hbl, hcs⟩
            · omega
            have hdj : ss[j]? = some (ss[j]'(by omega)) := List.getElem?_eq_getElem (by omega)
            generalize ss[j]'(by omega) = x at hdj
            have hal := all_step (p := secB) hdj
            have hil := inner_le hdj
            obtain ⟨v, hv, hrv⟩ := hcs j x hdj
            obtain ⟨av, cv, rfl⟩ := row_shape hrv
            have q1 := (hs.cell ⟨b, off + j, none⟩).trans hv
            obtain ⟨r1, _, _, _⟩ := ints_rd (hrv.same hs)
            have HT := hidden ht
            clear hcs hdj hv hrv ht
            by_cases hx : secB x = true
            · have HD := hidden (hal.1 hx HT.out)
              clear hal
              go_wp2_with fail
              refine (implSecOk_any _ _ _ _ x rfl r1 (by omega)).mono ?_
              rintro e w1 ⟨rfl, hs1⟩
              go_wp2
              go_roundw
              case rel => exact ⟨j + 1, by omega, by go_num, HD.out, hs.trans hs1⟩
              case measure => simp [intOf]; omega
            · have hx : secB x = false := by simpa using hx
              have HN := hidden (hal.2 hx)
              clear hal
              go_wp2_with fail
              refine (implSecOk_any _ _ _ _ x rfl r1 (by omega)).mono ?_
              rintro e w1 ⟨rfl, hs1⟩
              go_wp2
              go_ret
              exact ⟨ret_bool (by unfold memB; rw [HN.out]; rfl), Below.andSame (Below.andSame hA hs) hs1⟩
          · have e : j = n0 := by omega
            subst e
            rw [List.take_of_length_le (by omega)] at ht
            have HS0 := hidden ht
            have hss : ss.length = j := hl0
            have q1 := (hs.cell _).trans k1
            clear ht hj hjn
            go_wp2
            clear q1
            go_loopw [37] (fun i wr => ∃ i2 : Nat, i2 ≤ n1 ∧ i = .int .i64 i2 ∧ (cs.take i2).all (wrB j) = true ∧ Below W.heap.size W wr) (fun i _ => n1 - (intOf i).toNat)
            case atStart => exact ⟨0, Nat.zero_le _, rfl, rfl, hs.below _⟩
            case round =>
              clear hs
              obtain ⟨i2, hi2, rfl, ht, hs⟩ := hrel
              have hzr : w.heap.size < wr.heap.size := Nat.lt_of_lt_of_le hz hs.size
              have q0 := (hs.cell (p := ⟨w.heap.size, 0, none⟩) hz).trans k0
              have q1 := (hs.cell (p := ⟨w.heap.size, 1, none⟩) hz).trans k1
              have q2 := (hs.cell (p := ⟨w.heap.size, 2, none⟩) hz).trans k2
              have q3 := (hs.cell (p := ⟨w.heap.size, 3, none⟩) hz).trans k3
              by_cases hin : i2 < n1
              · rcases pairs_at rfl g1 with h0' | ⟨b, off, rfl, hbl, hcs⟩
                · omega
                have hdj : cs[i2]? = some (cs[i2]'(by omega)) := List.getElem?_eq_getElem (by omega)
                generalize cs[i2]'(by omega) = x at hdj
                have hal := all_step (p := wrB j) hdj
                have hil := inner_le' hdj
                obtain ⟨v0, v1, hv0, hv1, hrv⟩ := hcs i2 x hdj
                obtain ⟨rfl, hrv'⟩ := wr_rd hrv
                obtain ⟨av, cv, rfl⟩ := row_shape hrv'
                have p0 := (hs.cell (p := ⟨b, off + i2 * 2, none⟩) hbl).trans hv0
                have p1 := (hs.cell (p := ⟨b, off + i2 * 2 + 1, none⟩) hbl).trans hv1
                have r0 := hrv'.below hs
                obtain ⟨x0, x1⟩ := x
                simp only at p0 p1 r0 hil
                have HT := hidden ht
                clear hcs hdj hv0 hv1 hrv hrv' ht
                have hB : Below wr.heap.size wr (wr.alloc (.cells #[.int .i64 x0, .slice av x1.length cv] 100)) := (Below.refl _ _).alloc (Nat.le_refl _) _
                have s0 : (wr.alloc (.cells #[.int .i64 x0, .slice av x1.length cv] 100)).cell? ⟨wr.heap.size, 1, none⟩ = some (.slice av x1.length cv) := by
                  rw [cell_of_row _ wr.heap.size 1 _ _ (0, 0) (heap_alloc_new wr _)]
                  rfl
                have zb : wr.heap.size < (wr.alloc (.cells #[.int .i64 x0, .slice av x1.length cv] 100)).heap.size := by simp
                have HB := hidden hB
                have S0 := hidden s0
                have ZB := hidden zb
                clear hB s0 zb
                by_cases hI : inB x0 0 ((j : Int) - 1) = true
                · by_cases hx : secB x1 = true
                  · have HD := hidden (hal.1 (by unfold wrB; simp only; rw [hI, hx]; rfl) HT.out)
                    clear hal
                    go_wp2_with fail
                    refine (hasSec_any _ _ _ _ _ _ _ _).mono ?_
                    rintro e w5 ⟨rfl, hb5⟩
                    have HB6 := hidden (Below.andThen HB.out hb5)
                    have s1 := (hb5.cell (p := ⟨wr.heap.size, 1, none⟩) ZB.out).trans S0.out
                    clear hb5
                    go_wp2_with fail
                    refine (implSecOk_any _ _ _ _ x1 rfl (ints_rd (r0.below HB6.out)).1 (by omega)).mono ?_
                    rintro e w6 ⟨rfl, hs6⟩
                    go_wp2
                    go_roundw
                    case rel => exact ⟨i2 + 1, by omega, by go_num, HD.out, (hs.trans (HB6.out.mono hs.size)).trans (hs6.below _)⟩
                    case measure => simp [intOf]; omega
                  · have hx : secB x1 = false := by simpa using hx
                    have HN := hidden (hal.2 (by unfold wrB; simp only; rw [hI, hx]; rfl))
                    clear hal
                    go_wp2_with fail
                    refine (hasSec_any _ _ _ _ _ _ _ _).mono ?_
                    rintro e w5 ⟨rfl, hb5⟩
                    have HB6 := hidden (Below.andThen HB.out hb5)
                    have s1 := (hb5.cell (p := ⟨wr.heap.size, 1, none⟩) ZB.out).trans S0.out
                    clear hb5
                    go_wp2_with fail
                    refine (implSecOk_any _ _ _ _ x1 rfl (ints_rd (r0.below HB6.out)).1 (by omega)).mono ?_
                    rintro e w6 ⟨rfl, hs6⟩
                    go_wp2
                    go_ret
                    exact ⟨ret_bool (by unfold memB; rw [hss, HN.out, HS0.out]; rfl), Below.andSame (Below.andThen hA (hs.trans (HB6.out.mono hs.size))) hs6⟩
                · have hI : inB x0 0 ((j : Int) - 1) = false := by simpa using hI
                  have HN := hidden (hal.2 (by unfold wrB; simp only; rw [hI]; rfl))
                  clear hal
                  go_wp2_with fail
                  refine (hasSec_any _ _ _ _ _ _ _ _).mono ?_
                  rintro e w5 ⟨rfl, hb5⟩
                  have HB6 := hidden (Below.andThen HB.out hb5)
                  clear hb5
                  go_wp2
                  go_ret
                  exact ⟨ret_bool (by unfold memB; rw [hss, HN.out, HS0.out]; rfl), Below.andThen hA (hs.trans (HB6.out.mono hs.size))⟩
              · have e2 : i2 = n1 := by omega
                subst e2
                rw [List.take_of_length_le (by omega)] at ht
                have HS1 := hidden ht
                clear ht hi2 hin
                have g3' := g3.below hs
                go_wp2_with fail
                refine (badOk_any _ _ _ _ _ _ _ _ _ bs g3').mono ?_
                rintro e w5 ⟨rfl, hb5⟩
                go_wp2
                go_ret
                exact ⟨ret_bool (by unfold memB; rw [HI0.out, HI1.out, hss, HS1.out, HS0.out]; simp), Below.andThen (Below.andThen hA hs) hb5⟩
      · have hI1 : decide (cs.length ≤ 60) = false := decide_eq_false (by omega)
        have HI1 := hidden hI1
        clear hI1
        go_enter Try.func67, Try.ntmps67
        go_wp2
        go_ret
        exact ⟨ret_bool (by unfold memB; rw [HI1.out]; simp), hA⟩
    · have hI0 : inB (ss.length : Int) 1 20 = false := by unfold inB; rw [hl0]; simp; omega
      have HI0 := hidden hI0
      clear hI0
      go_enter Try.func67, Try.ntmps67
      go_wp2
      go_ret
      exact ⟨ret_bool (by unfold memB; rw [HI0.out]; simp), hA⟩
  · have hI0 : inB (ss.length : Int) 1 20 = false := by unfold inB; rw [hl0]; simp; omega
    have HI0 := hidden hI0
    clear hI0
    go_enter Try.func67, Try.ntmps67
    go_wp2
    go_ret
    exact ⟨ret_bool (by unfold memB; rw [HI0.out]; simp), hA⟩

end Go.Proofs.Ytgjldmjlbhkgbaa

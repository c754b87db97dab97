/-
  The walk of the specification's MemOk: whether a disk is right. Condition: it weighs at most 2097152.
-/
import Derived.Test.YtbkkjfgjlapadaaGreatData
import Derived.Test.YtbkkjfgjlapadaaGreatWalkSecOk
namespace Go.Proofs.YtbkkjfgjlapadaaGreat
open Go.RowKit

/-- A write is right on a disk of n sectors. -/
def wrB (n : Int) (x : Int × List Int) : Bool := inB x.1 0 (n - 1) && secB x.2
/-- Bad sectors are there, and ascend. -/
def badAt (n : Int) (bs : List Int) (i : Nat) : Bool := inB (bs.getD i 0) 0 (n - 1) && (decide (i = 0) || decide (bs.getD (i - 1) 0 < bs.getD i 0))
def badB (n : Int) (bs : List Int) : Bool := (List.range bs.length).all (badAt n bs)
def memB (ss : List (List Int)) (cs : List (Int × List Int)) (bs : List Int) : Bool :=
  ss.all secB && (cs.all (wrB ss.length) && (badB ss.length bs && (inB ss.length 1 20 && decide (cs.length ≤ 60))))

theorem all_step {α : Type} {p : α → Bool} {l : List α} {j : Nat} {x : α} (h : l[j]? = some x) : (p x = true → (l.take j).all p = true → (l.take (j + 1)).all p = true) ∧ (p x = false → l.all p = false) := by
  have hj : j < l.length := (List.getElem?_eq_some_iff.1 h).1
  have e : l[j] = x := by rw [List.getElem?_eq_getElem hj] at h; simpa using h
  refine ⟨fun h1 h2 => ?_, fun h1 => ?_⟩
  · rw [List.take_succ_eq_append_getElem hj, List.all_append, h2, e]
    simp [h1]
  · rw [List.all_eq_false]
    exact ⟨x, by rw [← e]; exact List.getElem_mem hj, by simp [h1]⟩

set_option maxHeartbeats 3200000 in
theorem specMemOk_any (w : World) (E : TypeId) (a0 a1 a3 : Option Addr) (n0 c0 n1 c1 n3 c3 : Nat) (ss : List (List Int)) (cs : List (Int × List Int)) (f : Bool) (bs : List Int) (h0 : tIntSS.Rd w [.slice a0 n0 c0] ss) (h1 : (tWrS E).Rd w [.slice a1 n1 c1] cs) (h3 : tIntS.Rd w [.slice a3 n3 c3] bs) (hw : wtMem (ss, cs, f, bs) ≤ 2097152) :
    Calls Tryz.prog 224 #[.agg #[.slice a0 n0 c0, .slice a1 n1 c1, .bool f, .slice a3 n3 c3]] w fun e w' => e = .returned (.bool (memB ss cs bs)) ∧ Below w.heap.size w w' := by
  obtain ⟨hl0, _, hm0⟩ := row_length h0
  obtain ⟨hl1, _, hm1⟩ := row_length h1
  obtain ⟨hl3, _, hm3⟩ := row_length h3
  have hw0 : wtIntSS ss ≤ 2097152 := by unfold wtMem at hw; simp only at hw; omega
  have hw1 : wtWrS cs ≤ 2097152 := by unfold wtMem at hw; simp only at hw; omega
  have hw3 : n3 ≤ 2097152 := by unfold wtMem at hw; simp only at hw; omega
  have hn0 : n0 ≤ 2097152 := by unfold wtIntSS at hw0; omega
  have hn1 : n1 ≤ 2097152 := by unfold wtWrS at hw1; omega
  have hA : Below w.heap.size w (w.alloc (.cells #[.slice a0 n0 c0, .slice a1 n1 c1, .bool f, .slice a3 n3 c3] 147)) := (Below.refl _ _).alloc (Nat.le_refl _) _
  have hcell : ∀ j v, (#[Value.slice a0 n0 c0, .slice a1 n1 c1, .bool f, .slice a3 n3 c3])[j]? = some v → (w.alloc (.cells #[.slice a0 n0 c0, .slice a1 n1 c1, .bool f, .slice a3 n3 c3] 147)).cell? ⟨w.heap.size, j, none⟩ = some v := by
    intro j v hv
    rw [cell_of_row _ w.heap.size j _ _ (0, 0) (heap_alloc_new w _)]
    exact hv
  have k0 := hcell 0 _ rfl
  have k1 := hcell 1 _ rfl
  have k3 := hcell 3 _ rfl
  have g0 := h0.below hA
  have g1 := h1.below hA
  have g3 := h3.below hA
  have hz : w.heap.size < (w.alloc (.cells #[.slice a0 n0 c0, .slice a1 n1 c1, .bool f, .slice a3 n3 c3] 147)).heap.size := by simp
  go_enter Tryz.func224, Tryz.ntmps224
  go_wp2
  generalize hW : w.alloc (.cells #[.slice a0 n0 c0, .slice a1 n1 c1, .bool f, .slice a3 n3 c3] 147) = W at hA k0 k1 k3 g0 g1 g3 hz ⊢
  clear hW hcell h0 h1 h3
  go_loopw [4] (fun i wr => ∃ j : Nat, j ≤ n0 ∧ i = .int .i64 j ∧ (ss.take j).all secB = true ∧ Same W wr) (fun i _ => n0 - (intOf i).toNat)
  case atStart => exact ⟨0, Nat.zero_le _, rfl, rfl, Same.refl _⟩
  case round =>
    obtain ⟨j, hj, rfl, ht, hs⟩ := hrel
    have q0 := (hs.cell _).trans k0
    by_cases hjn : j < n0
    · rcases rows_at rfl g0 with h0' | ⟨b, off, rfl, hbl, hcs⟩
      · omega
      have hdj : ss[j]? = some (ss[j]'(by omega)) := List.getElem?_eq_getElem (by omega)
      generalize ss[j]'(by omega) = x at hdj
      have hal := all_step (p := secB) hdj
      have hil := inner_le hdj
      obtain ⟨v, hv, hrv⟩ := hcs j x hdj
      obtain ⟨av, cv, rfl⟩ := row_shape hrv
      have q1 := (hs.cell ⟨b, off + j, none⟩).trans hv
      obtain ⟨r1, _, _, _⟩ := ints_rd (hrv.same hs)
      have HT := hidden ht
      clear hcs hdj hv hrv ht
      by_cases hx : secB x = true
      · have HD := hidden (hal.1 hx HT.out)
        clear hal
        go_wp2_with fail
        refine (specSecOk_any _ _ _ _ x rfl r1 (by omega)).mono ?_
        rintro e w1 ⟨rfl, hs1⟩
        go_wp2
        go_roundw
        case rel => exact ⟨j + 1, by omega, by go_num, HD.out, hs.trans hs1⟩
        case measure => simp [intOf]; omega
      · have hx : secB x = false := by simpa using hx
        have HN := hidden (hal.2 hx)
        clear hal
        go_wp2_with fail
        refine (specSecOk_any _ _ _ _ x rfl r1 (by omega)).mono ?_
        rintro e w1 ⟨rfl, hs1⟩
        go_wp2
        go_ret
        exact ⟨ret_bool (by unfold memB; rw [HN.out]; rfl), Below.andSame (Below.andSame hA hs) hs1⟩
    · have e : j = n0 := by omega
      subst e
      rw [List.take_of_length_le (by omega)] at ht
      have HS0 := hidden ht
      have hss : ss.length = j := hl0
      clear ht hj hjn q0
      go_wp2
      go_loopw [5] (fun i wr => ∃ i2 : Nat, i2 ≤ n1 ∧ i = .int .i64 i2 ∧ (cs.take i2).all (wrB j) = true ∧ Same W wr) (fun i _ => n1 - (intOf i).toNat)
      case atStart => exact ⟨0, Nat.zero_le _, rfl, rfl, hs⟩
      case round =>
        clear hs
        obtain ⟨i2, hi2, rfl, ht, hs⟩ := hrel
        have q1 := (hs.cell _).trans k1
        by_cases hin : i2 < n1
        · rcases pairs_at rfl g1 with h0' | ⟨b, off, rfl, hbl, hcs⟩
          · omega
          have hdj : cs[i2]? = some (cs[i2]'(by omega)) := List.getElem?_eq_getElem (by omega)
          generalize cs[i2]'(by omega) = x at hdj
          have hal := all_step (p := wrB j) hdj
          have hil := inner_le' hdj
          obtain ⟨v0, v1, hv0, hv1, hrv⟩ := hcs i2 x hdj
          obtain ⟨rfl, hrv'⟩ := wr_rd hrv
          obtain ⟨av, cv, rfl⟩ := row_shape hrv'
          have p0 := (hs.cell ⟨b, off + i2 * 2, none⟩).trans hv0
          have p1 := (hs.cell ⟨b, off + i2 * 2 + 1, none⟩).trans hv1
          obtain ⟨r1, _, _, _⟩ := ints_rd (hrv'.same hs)
          obtain ⟨x0, x1⟩ := x
          simp only at p0 p1 r1 hil
          have HT := hidden ht
          clear hcs hdj hv0 hv1 hrv hrv' ht
          by_cases hI : inB x0 0 ((j : Int) - 1) = true
          · by_cases hx : secB x1 = true
            · have HD := hidden (hal.1 (by unfold wrB; simp only; rw [hI, hx]; rfl) HT.out)
              clear hal
              go_wp2_with fail
              refine (l1In_any _ _ _ _).mono ?_
              rintro e w1 ⟨rfl, hw1'⟩
              subst w1
              go_wp2_with fail
              refine (specSecOk_any _ _ _ _ x1 rfl r1 (by omega)).mono ?_
              rintro e w2 ⟨rfl, hs2⟩
              go_wp2
              go_roundw
              case rel => exact ⟨i2 + 1, by omega, by go_num, HD.out, hs.trans hs2⟩
              case measure => simp [intOf]; omega
            · have hx : secB x1 = false := by simpa using hx
              have HN := hidden (hal.2 (by unfold wrB; simp only; rw [hI, hx]; rfl))
              clear hal
              go_wp2_with fail
              refine (l1In_any _ _ _ _).mono ?_
              rintro e w1 ⟨rfl, hw1'⟩
              subst w1
              go_wp2_with fail
              refine (specSecOk_any _ _ _ _ x1 rfl r1 (by omega)).mono ?_
              rintro e w2 ⟨rfl, hs2⟩
              go_wp2
              go_ret
              exact ⟨ret_bool (by unfold memB; rw [hss, HN.out, HS0.out]; rfl), Below.andSame (Below.andSame hA hs) hs2⟩
          · have hI : inB x0 0 ((j : Int) - 1) = false := by simpa using hI
            have HN := hidden (hal.2 (by unfold wrB; simp only; rw [hI]; rfl))
            clear hal
            go_wp2_with fail
            refine (l1In_any _ _ _ _).mono ?_
            rintro e w1 ⟨rfl, hw1'⟩
            subst w1
            go_wp2
            go_ret
            exact ⟨ret_bool (by unfold memB; rw [hss, HN.out, HS0.out]; rfl), Below.andSame hA hs⟩
        · have e2 : i2 = n1 := by omega
          subst e2
          rw [List.take_of_length_le (by omega)] at ht
          have HS1 := hidden ht
          have hcsl : cs.length = i2 := hl1
          clear ht hi2 hin
          go_wp2
          go_loopw [6] (fun i wr => ∃ i3 : Nat, i3 ≤ n3 ∧ i = .int .i64 i3 ∧ (List.range i3).all (badAt j bs) = true ∧ Same W wr) (fun i _ => n3 - (intOf i).toNat)
          case atStart => exact ⟨0, Nat.zero_le _, rfl, rfl, hs⟩
          case round =>
            clear hs
            obtain ⟨i3, hi3, rfl, ht, hs⟩ := hrel
            have q3 := (hs.cell _).trans k3
            by_cases hi3n : i3 < n3
            · obtain ⟨R3, _, _, _⟩ := ints_rd g3
              rcases R3.cases with h0' | ⟨b, off, rfl, hbl, hcs⟩
              · omega
              have p0 := (hs.cell ⟨b, off + i3, none⟩).trans (hcs i3 (by omega))
              have HT := hidden ht
              have hrs : (List.range (i3 + 1)).all (badAt j bs) = ((List.range i3).all (badAt j bs) && badAt j bs i3) := by rw [List.range_succ, List.all_append]; simp
              have hrn : badAt j bs i3 = false → badB j bs = false := by
                intro h
                unfold badB
                rw [List.all_eq_false]
                exact ⟨i3, by simp; omega, by simp [h]⟩
              have hbd : badAt j bs i3 = (inB (bs.getD i3 0) 0 ((j : Int) - 1) && (decide (i3 = 0) || decide (bs.getD (i3 - 1) 0 < bs.getD i3 0))) := rfl
              have i1 : (0 : Int) ≤ (i3 : Int) := by omega
              have i2' : (i3 : Int) < (n3 : Int) := by omega
              have gw : IntKind.i64.wrap ((j : Int) - 1) = (j : Int) - 1 := IntWalk.i64_in _ (by omega)
              by_cases hI : inB (bs.getD i3 0) 0 ((j : Int) - 1) = true
              · by_cases hz3 : i3 = 0
                · have HD : Hid ((List.range (i3 + 1)).all (badAt j bs) = true) := by unfold Hid; rw [hrs, HT.out, hbd, hI, decide_eq_true hz3]; rfl
                  generalize bs.getD i3 0 = y at p0 hI
                  have d0 : decide ((0 : Int) < (i3 : Int)) = false := decide_eq_false (by omega)
                  have d0b : decide (0 < i3) = false := decide_eq_false (by omega)
                  have HZ := hidden hz3
                  clear hcs ht hrs hrn hbd hz3 R3
                  go_wp2_with fail
                  go_quiet ((go_at_call 71; exact Calls.quiet_of_same (l1In_any _ _ _ _)))
                  go_wp2
                  go_roundw
                  case rel => exact ⟨i3 + 1, by omega, by go_num, HD.out, hs.drewN _⟩
                  case measure => simp [intOf]; omega
                · have p1 := (hs.cell ⟨b, off + (i3 - 1), none⟩).trans (hcs (i3 - 1) (by omega))
                  have d0 : decide ((0 : Int) < (i3 : Int)) = true := decide_eq_true (by omega)
                  have d0b : decide (0 < i3) = true := decide_eq_true (by omega)
                  have gv : IntKind.i64.wrap ((i3 : Int) - 1) = (i3 : Int) - 1 := IntWalk.i64_in _ (by omega)
                  have gt : ((i3 : Int) - 1).toNat = i3 - 1 := by omega
                  have i3a : (0 : Int) ≤ (i3 : Int) - 1 := by omega
                  have i3b : (i3 : Int) - 1 < (n3 : Int) := by omega
                  by_cases hlt : bs.getD (i3 - 1) 0 < bs.getD i3 0
                  · have HD : Hid ((List.range (i3 + 1)).all (badAt j bs) = true) := by unfold Hid; rw [hrs, HT.out, hbd, hI, decide_eq_true hlt]; simp
                    generalize bs.getD i3 0 = y at p0 hI hlt
                    generalize bs.getD (i3 - 1) 0 = z at p1 hlt
                    have d1 : ¬ y ≤ z := by omega
                    clear hcs ht hrs hrn hbd hz3 R3
                    go_wp2_with fail
                    go_quiet ((go_at_call 71; exact Calls.quiet_of_same (l1In_any _ _ _ _)))
                    go_wp2
                    go_roundw
                    case rel => exact ⟨i3 + 1, by omega, by go_num, HD.out, hs.drewN _⟩
                    case measure => simp [intOf]; omega
                  · have HN := hidden (hrn (by rw [hbd, hI, decide_eq_false hz3, decide_eq_false hlt]; rfl))
                    generalize bs.getD i3 0 = y at p0 hI hlt
                    generalize bs.getD (i3 - 1) 0 = z at p1 hlt
                    have d1 : y ≤ z := by omega
                    clear hcs ht hrs hrn hbd hz3 R3
                    go_wp2_with fail
                    go_quiet ((go_at_call 71; exact Calls.quiet_of_same (l1In_any _ _ _ _)))
                    go_wp2
                    go_ret
                    exact ⟨ret_bool (by unfold memB; rw [hss, HN.out, HS1.out, HS0.out]; rfl), Below.andSame hA (hs.drewN _)⟩
              · have hI : inB (bs.getD i3 0) 0 ((j : Int) - 1) = false := by simpa using hI
                have HN := hidden (hrn (by rw [hbd, hI]; rfl))
                generalize bs.getD i3 0 = y at p0 hI
                clear hcs ht hrs hrn hbd R3
                go_wp2_with fail
                go_quiet ((go_at_call 71; exact Calls.quiet_of_same (l1In_any _ _ _ _)))
                go_wp2
                go_ret
                exact ⟨ret_bool (by unfold memB; rw [hss, HN.out, HS1.out, HS0.out]; rfl), Below.andSame hA (hs.drewN _)⟩
            · have e3 : i3 = n3 := by omega
              have HB : Hid (badB j bs = true) := by unfold Hid badB; rw [hl3, ← e3]; exact ht
              clear ht hi3
              have q1 := (hs.cell _).trans k1
              by_cases hI : inB (j : Int) 1 20 = true
              · by_cases h60 : (i2 : Int) ≤ 60
                · have h60' : i2 ≤ 60 := by omega
                  have H60 := hidden (decide_eq_true h60')
                  clear h60'
                  go_wp2_with fail
                  refine (l1In_any _ _ _ _).mono ?_
                  rintro e w1 ⟨rfl, hw1'⟩
                  subst w1
                  go_wp2
                  go_ret
                  exact ⟨ret_bool (by unfold memB; rw [hss, hcsl, HB.out, HS1.out, HS0.out, hI, H60.out]; rfl), Below.andSame hA hs⟩
                · have h60' : ¬ i2 ≤ 60 := by omega
                  have H60 := hidden (decide_eq_false h60')
                  clear h60'
                  go_wp2_with fail
                  refine (l1In_any _ _ _ _).mono ?_
                  rintro e w1 ⟨rfl, hw1'⟩
                  subst w1
                  go_wp2
                  go_ret
                  exact ⟨ret_bool (by unfold memB; rw [hss, hcsl, HB.out, HS1.out, HS0.out, hI, H60.out, decide_eq_false (by omega)]; rfl), Below.andSame hA hs⟩
              · have hI : inB (j : Int) 1 20 = false := by simpa using hI
                go_wp2_with fail
                refine (l1In_any _ _ _ _).mono ?_
                rintro e w1 ⟨rfl, hw1'⟩
                subst w1
                go_wp2
                go_ret
                exact ⟨ret_bool (by unfold memB; rw [hss, HB.out, HS1.out, HS0.out, hI]; rfl), Below.andSame hA hs⟩

end Go.Proofs.YtbkkjfgjlapadaaGreat

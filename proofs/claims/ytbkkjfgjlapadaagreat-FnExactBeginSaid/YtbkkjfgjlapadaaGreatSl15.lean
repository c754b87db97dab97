/-
  The laws' helpers over slices of answers, of jobs, of turns: what is left of a bound, the copy, the comparison of two that read alike. Conditions: they weigh at most 1048576 (2097152 for the comparison).
-/
import Derived.Test.YtbkkjfgjlapadaaGreatElem15
import Derived.Test.YtbkkjfgjlapadaaGreatAnsS14
namespace Go.Proofs.YtbkkjfgjlapadaaGreat
open Go.RowKit

set_option maxHeartbeats 1600000 in
theorem szAnsS_any (w : World) (E : TypeId) (a : Option Addr) (n cap : Nat) (d : List AnsD) (left : Int) (h : (tAnsS E).Rd w [.slice a n cap] d) (h0 : 0 ≤ left) (h1 : left ≤ 1048576) :
    Calls Tryz.prog 85 #[.slice a n cap, .int .i64 left] w fun e w' => e = .returned (.int .i64 (leftOf left (wttAnsS d))) ∧ Below w.heap.size w w' := by
  obtain ⟨hl, hc, hm⟩ := row_length h
  have HE : Hid (wttAnsS d = n + sumL (d.map fun x => x.2.2.length)) := by unfold Hid wttAnsS; rw [hl]
  by_cases hlt : (n : Int) ≤ left
  · go_enter Tryz.func85, Tryz.ntmps85
    go_wp2
    go_loopw [1, 5] (fun l i wr => ∃ j : Nat, j ≤ n ∧ i = .int .i64 j ∧ l = .int .i64 (left - n - (sumL ((d.map fun x => x.2.2.length).take j) : Int)) ∧ (sumL ((d.map fun x => x.2.2.length).take j) : Int) ≤ left - n ∧ Below w.heap.size w wr) (fun _ i _ => n - (intOf i).toNat)
    case atStart => exact ⟨0, Nat.zero_le _, rfl, by simp [sumL], by simp [sumL]; omega, Below.refl _ _⟩
    case round =>
      obtain ⟨j, hj, rfl, rfl, hs, hb⟩ := hrel
      by_cases hjn : j < n
      · rcases ansS_at (h.below hb) with h0' | ⟨b, off, rfl, hbl, hcs⟩
        · omega
        obtain ⟨d1, q1, zs, hdj⟩ : ∃ d1 q1 zs, d[j]? = some (d1, q1, zs) := ⟨_, _, _, List.getElem?_eq_getElem (by omega)⟩
        obtain ⟨av0, cv0, hc0, hc1, hc2, hr0⟩ := hcs j d1 q1 zs hdj
        obtain ⟨_, hxc0, hxm0⟩ := row_length hr0
        have hst := sumL_take (l := d.map fun x => x.2.2.length) (j := j) (x := zs.length) (by rw [List.getElem?_map, hdj]; rfl)
        have HW := hidden hst
        have hle := sumL_le (l := d.map fun x => x.2.2.length) (j + 1)
        generalize sumL ((d.map fun x => x.2.2.length).take j) = S at hs hst HW
        generalize sumL (d.map fun x => x.2.2.length) = T at hle HE
        have hle2 : S + (zs.length) ≤ T := by omega
        clear hcs hst hdj hr0 hle
        by_cases hx : ((zs.length : Nat) : Int) ≤ left - n - S
        · have hq := leftOf_pos hx
          have hq2 : ¬ left - n - S - ((zs.length : Nat) : Int) < 0 := by omega
          go_wp2_with fail
          refine (szAns_any _ d1 q1 _ _ _ _ (by omega) (by omega) (by omega)).mono ?_
          rintro e w1 ⟨rfl, hb1⟩
          have hB := Below.andThen hb hb1
          go_wp2
          go_roundw
          case rel => exact ⟨j + 1, by omega, by go_num, by rw [HW.out]; go_num, by rw [HW.out]; omega, hB⟩
          case measure => simp [intOf]; omega
        · have hq := leftOf_neg (left := left - n - (S : Int)) (wt := zs.length) (by omega)
          have hgt : left < ((wttAnsS d : Nat) : Int) := by rw [HE.out]; omega
          go_wp2_with fail
          refine (szAns_any _ d1 q1 _ _ _ _ (by omega) (by omega) (by omega)).mono ?_
          rintro e w1 ⟨rfl, hb1⟩
          have hB := Below.andThen hb hb1
          go_wp2
          go_ret
          exact ⟨ret_int (leftOf_neg (by omega)).symm, hB⟩
      · go_wp2
        go_ret
        obtain rfl : j = n := by omega
        have ht : (d.map fun x => x.2.2.length).take j = d.map fun x => x.2.2.length := List.take_of_length_le (by simp; omega)
        rw [ht] at hs
        refine ⟨ret_int ?_, hb⟩
        rw [ht, leftOf_pos (by rw [HE.out]; omega), HE.out]
        omega
  · have hgt : left < ((wttAnsS d : Nat) : Int) := by rw [HE.out]; omega
    go_enter Tryz.func85, Tryz.ntmps85
    go_wp2
    go_ret
    exact ⟨ret_int (leftOf_neg (by omega)).symm, Below.refl _ _⟩

theorem Tryz.infoAns15 : (Tryz.prog.info? 55).map (fun i => (i.zero, i.size, i.bytes)) = some (some (.agg #[.int .i64 0, .int .i64 0, .slice none 0 0]), 3, 40) := by kernel_rfl
set_option maxHeartbeats 1600000 in
theorem toAnsS_any (w : World) (E : TypeId) (a : Option Addr) (n cap : Nat) (d : List AnsD) (h : (tAnsS E).Rd w [.slice a n cap] d) (hw : wttAnsS d ≤ 1048576) :
    Calls Tryz.prog 91 #[.slice a n cap] w fun e w' => ∃ a', e = .returned (.slice a' n n) ∧ (tAnsS 55).Own w' w.heap.size w'.heap.size [.slice a' n n] d ∧ Below w.heap.size w w' := by
  obtain ⟨hl, hc, hm⟩ := row_length h
  obtain ⟨i0, hi, hz0, hz1, hz2⟩ := info_parts Tryz.infoAns15
  have hn : n ≤ 1048576 := by unfold wttAnsS at hw; omega
  have hb3 : i0.bytes * n ≤ 281474976710656 := by rw [hz2]; omega
  have hm3 : n ≤ maxLen := by unfold maxLen; omega
  go_enter Tryz.func91, Tryz.ntmps91
  go_wp2_with (at_make; refine wpList_make_full _ rfl _ _ 32 rfl w.heap.size 55 i0 (.agg #[.int .i64 0, .int .i64 0, .slice none 0 0]) 3 Tryz.underlying32 hi hz0 hz1 _ _ _ _ n rfl rfl rfl rfl hb3 hm3 (Nat.le_refl _) ?_; intro w1 hown hgrow)
  have hO := row_made (t := tAns) (z := (0, 0, [])) hown (by omega) rfl (fun _ => ⟨[], [], rfl, ⟨rfl, rfl⟩, ⟨[], [], rfl, ⟨rfl, rfl⟩, .inl ⟨rfl, rfl, rfl⟩, rfl⟩, rfl⟩)
  have hB1 : Below w.heap.size w w1 := (Below.refl _ _).grown hgrow (Nat.le_refl _) (by simp)
  clear hown hgrow
  go_loopw [4] (fun i wr => ∃ j : Nat, j ≤ n ∧ i = .int .i64 j ∧ (tAnsS 55).Own wr w.heap.size wr.heap.size [.slice (some ⟨w.heap.size, 0, none⟩) n n] (d.take j ++ List.replicate (n - j) (0, 0, [])) ∧ Below w.heap.size w wr) (fun i _ => n - (intOf i).toNat)
  case atStart => exact ⟨0, Nat.zero_le _, rfl, by simpa using hO, hB1⟩
  case round =>
    clear hO hB1
    obtain ⟨j, hj, rfl, ho, hb⟩ := hrel
    by_cases hjn : j < n
    · rcases ansS_at (h.below hb) with h0' | ⟨b, off, rfl, hbl, hcs⟩
      · omega
      obtain ⟨d1, q1, zs, hdj⟩ : ∃ d1 q1 zs, d[j]? = some (d1, q1, zs) := ⟨_, _, _, List.getElem?_eq_getElem (by omega)⟩
      have hin := ans_inner hdj
      have hlen : zs.length ≤ 1048576 := by unfold wttAnsS at hw; simp only at hin; omega
      have HS := hidden (copied_step' d (0, 0, []) _ j hdj)
      rw [hl] at HS
      obtain ⟨av0, cv0, hc0, hc1, hc2, hr0⟩ := hcs j d1 q1 zs hdj
      clear hcs hdj hin
      go_wp2_with fail
      refine (toAns_any _ d1 q1 _ _ zs hr0 (by omega)).mono ?_
      rintro e w2 ⟨g0, rfl, o2, hb2⟩
      have s2 := hb2.size
      obtain ⟨hold, hf, hst, hbt⟩ := row_storeN (ho.below hb2) hjn o2 (Nat.le_refl _) s2
      obtain ⟨old0, hy0⟩ : ∃ v, w2.cell? ⟨w.heap.size, j * 3, none⟩ = some v := hold 0 (by show 0 < 3; omega)
      obtain ⟨old1, hy1⟩ : ∃ v, w2.cell? ⟨w.heap.size, j * 3 + 1, none⟩ = some v := hold 1 (by show 1 < 3; omega)
      obtain ⟨old2, hy2⟩ : ∃ v, w2.cell? ⟨w.heap.size, j * 3 + 2, none⟩ = some v := hold 2 (by show 2 < 3; omega)
      rw [HS.out] at hst
      have hst8 : (tAnsS 55).Own (w2.setCells w.heap.size (j * 3) [_, _, _]) _ _ [_] _ := hst
      have HST := hidden hst8
      have HB := hidden (Below.andBut (Below.andThen hb hb2) hbt (Nat.le_refl _))
      clear ho o2 hb2 hst hst8 hbt hb hold hr0 hc0 hc1 hc2 HS
      go_wp2
      go_roundw
      case rel => exact ⟨j + 1, by omega, by go_num, by (simp only [World.size_setCell]; exact HST.out), HB.out⟩
      case measure => simp [intOf]; omega
    · go_wp2
      go_ret
      obtain rfl : j = n := by omega
      rw [Nat.sub_self, List.replicate_zero, List.append_nil, List.take_of_length_le (by omega)] at ho
      exact ⟨_, rfl, ho, hb⟩

def wJob (x : JobD) : Nat := x.2.2.2.2.1.length + x.2.2.2.2.2.2.1.length
def wttJobS (d : List JobD) : Nat := d.length + sumL (d.map wJob)
theorem job_inner {d : List JobD} {j : Nat} {x : JobD} (h : d[j]? = some x) : wJob x + sumL ((d.map wJob).take j) ≤ sumL (d.map wJob) := by
  have h1 := sumL_take (l := d.map wJob) (j := j) (x := wJob x) (by rw [List.getElem?_map, h]; rfl)
  have h2 := sumL_le (l := d.map wJob) (j + 1)
  omega
/-- A slice of such, at an index. -/
theorem jobS_at {E : TypeId} {w : World} {a : Option Addr} {n cap : Nat} {d : List JobD} (h : (tJobS E).Rd w [.slice a n cap] d) :
    n = 0 ∨ ∃ b off, a = some ⟨b, off, none⟩ ∧ b < w.heap.size ∧ ∀ (i : Nat) (o : Int) (d1 : Int) (b1 : Int) (k : Int) (zs : List Int) (t1 : Int) (gs : List Int) (q1 : Int), d[i]? = some (o, d1, b1, k, zs, t1, gs, q1) → ∃ av0 cv0 av1 cv1, w.cell? ⟨b, off + i * 8, none⟩ = some (.int .i64 o) ∧ w.cell? ⟨b, off + i * 8 + 1, none⟩ = some (.int .i64 d1) ∧ w.cell? ⟨b, off + i * 8 + 2, none⟩ = some (.int .i64 b1) ∧ w.cell? ⟨b, off + i * 8 + 3, none⟩ = some (.int .i64 k) ∧ w.cell? ⟨b, off + i * 8 + 4, none⟩ = some (.slice av0 zs.length cv0) ∧ w.cell? ⟨b, off + i * 8 + 5, none⟩ = some (.int .i64 t1) ∧ w.cell? ⟨b, off + i * 8 + 6, none⟩ = some (.slice av1 gs.length cv1) ∧ w.cell? ⟨b, off + i * 8 + 7, none⟩ = some (.int .i64 q1) ∧ tIntS.Rd w [.slice av0 zs.length cv0] zs ∧ tIntS.Rd w [.slice av1 gs.length cv1] gs := by
  rcases rowN_at h with h0 | ⟨b, off, ha, hlt, hc⟩
  · exact .inl h0
  · refine .inr ⟨b, off, ha, hlt, fun i o d1 b1 k zs t1 gs q1 hi => ?_⟩
    obtain ⟨cs, hl, hr, hcc⟩ := hc i _ hi
    obtain ⟨v0, v1, v2, v3, v4, v5, v6, v7, rfl⟩ : ∃ v0 v1 v2 v3 v4 v5 v6 v7, cs = [v0, v1, v2, v3, v4, v5, v6, v7] := by
      match cs, hl with
      | [v0, v1, v2, v3, v4, v5, v6, v7], _ => exact ⟨v0, v1, v2, v3, v4, v5, v6, v7, rfl⟩
    obtain ⟨rfl, hr0⟩ := int_rd hr
    obtain ⟨rfl, hr1⟩ := int_rd hr0
    obtain ⟨rfl, hr2⟩ := int_rd hr1
    obtain ⟨rfl, hr3⟩ := int_rd hr2
    obtain ⟨av0, cv0, rfl, hs0, hr4⟩ := ints_rd_p hr3
    obtain ⟨rfl, hr5⟩ := int_rd hr4
    obtain ⟨av1, cv1, rfl, hs1, hr6⟩ := ints_rd_p hr5
    obtain rfl := int_rd1 hr6
    exact ⟨av0, cv0, av1, cv1, hcc 0 (by show 0 < 8; omega), hcc 1 (by show 1 < 8; omega), hcc 2 (by show 2 < 8; omega), hcc 3 (by show 3 < 8; omega), hcc 4 (by show 4 < 8; omega), hcc 5 (by show 5 < 8; omega), hcc 6 (by show 6 < 8; omega), hcc 7 (by show 7 < 8; omega), hs0, hs1⟩

set_option maxHeartbeats 1600000 in
theorem szJobS_any (w : World) (E : TypeId) (a : Option Addr) (n cap : Nat) (d : List JobD) (left : Int) (h : (tJobS E).Rd w [.slice a n cap] d) (h0 : 0 ≤ left) (h1 : left ≤ 1048576) :
    Calls Tryz.prog 84 #[.slice a n cap, .int .i64 left] w fun e w' => e = .returned (.int .i64 (leftOf left (wttJobS d))) ∧ Below w.heap.size w w' := by
  obtain ⟨hl, hc, hm⟩ := row_length h
  have HE : Hid (wttJobS d = n + sumL (d.map wJob)) := by unfold Hid wttJobS; rw [hl]
  by_cases hlt : (n : Int) ≤ left
  · go_enter Tryz.func84, Tryz.ntmps84
    go_wp2
    go_loopw [1, 5] (fun l i wr => ∃ j : Nat, j ≤ n ∧ i = .int .i64 j ∧ l = .int .i64 (left - n - (sumL ((d.map wJob).take j) : Int)) ∧ (sumL ((d.map wJob).take j) : Int) ≤ left - n ∧ Below w.heap.size w wr) (fun _ i _ => n - (intOf i).toNat)
    case atStart => exact ⟨0, Nat.zero_le _, rfl, by simp [sumL], by simp [sumL]; omega, Below.refl _ _⟩
    case round =>
      obtain ⟨j, hj, rfl, rfl, hs, hb⟩ := hrel
      by_cases hjn : j < n
      · rcases jobS_at (h.below hb) with h0' | ⟨b, off, rfl, hbl, hcs⟩
        · omega
        obtain ⟨o, d1, b1, k, zs, t1, gs, q1, hdj⟩ : ∃ o d1 b1 k zs t1 gs q1, d[j]? = some (o, d1, b1, k, zs, t1, gs, q1) := ⟨_, _, _, _, _, _, _, _, List.getElem?_eq_getElem (by omega)⟩
        obtain ⟨av0, cv0, av1, cv1, hc0, hc1, hc2, hc3, hc4, hc5, hc6, hc7, hr0, hr1⟩ := hcs j o d1 b1 k zs t1 gs q1 hdj
        obtain ⟨_, hxc0, hxm0⟩ := row_length hr0
        obtain ⟨_, hxc1, hxm1⟩ := row_length hr1
        have hst := sumL_take (l := d.map wJob) (j := j) (x := zs.length + gs.length) (by rw [List.getElem?_map, hdj]; rfl)
        have HW := hidden hst
        have hle := sumL_le (l := d.map wJob) (j + 1)
        generalize sumL ((d.map wJob).take j) = S at hs hst HW
        generalize sumL (d.map wJob) = T at hle HE
        have hle2 : S + (zs.length + gs.length) ≤ T := by omega
        clear hcs hst hdj hr0 hr1 hle
        by_cases hx : ((zs.length + gs.length : Nat) : Int) ≤ left - n - S
        · have hq := leftOf_pos hx
          have hq2 : ¬ left - n - S - ((zs.length + gs.length : Nat) : Int) < 0 := by omega
          go_wp2_with fail
          refine (szJob_any _ o d1 b1 k t1 q1 _ _ _ _ _ _ _ (by omega) (by omega) (by omega) (by omega)).mono ?_
          rintro e w1 ⟨rfl, hb1⟩
          have hB := Below.andThen hb hb1
          go_wp2
          go_roundw
          case rel => exact ⟨j + 1, by omega, by go_num, by rw [HW.out]; go_num, by rw [HW.out]; omega, hB⟩
          case measure => simp [intOf]; omega
        · have hq := leftOf_neg (left := left - n - (S : Int)) (wt := zs.length + gs.length) (by omega)
          have hgt : left < ((wttJobS d : Nat) : Int) := by rw [HE.out]; omega
          go_wp2_with fail
          refine (szJob_any _ o d1 b1 k t1 q1 _ _ _ _ _ _ _ (by omega) (by omega) (by omega) (by omega)).mono ?_
          rintro e w1 ⟨rfl, hb1⟩
          have hB := Below.andThen hb hb1
          go_wp2
          go_ret
          exact ⟨ret_int (leftOf_neg (by omega)).symm, hB⟩
      · go_wp2
        go_ret
        obtain rfl : j = n := by omega
        have ht : (d.map wJob).take j = d.map wJob := List.take_of_length_le (by simp; omega)
        rw [ht] at hs
        refine ⟨ret_int ?_, hb⟩
        rw [ht, leftOf_pos (by rw [HE.out]; omega), HE.out]
        omega
  · have hgt : left < ((wttJobS d : Nat) : Int) := by rw [HE.out]; omega
    go_enter Tryz.func84, Tryz.ntmps84
    go_wp2
    go_ret
    exact ⟨ret_int (leftOf_neg (by omega)).symm, Below.refl _ _⟩

theorem Tryz.infoJob15 : (Tryz.prog.info? 92).map (fun i => (i.zero, i.size, i.bytes)) = some (some (.agg #[.int .i64 0, .int .i64 0, .int .i64 0, .int .i64 0, .slice none 0 0, .int .i64 0, .slice none 0 0, .int .i64 0]), 8, 96) := by kernel_rfl
set_option maxHeartbeats 1600000 in
theorem toJobS_any (w : World) (E : TypeId) (a : Option Addr) (n cap : Nat) (d : List JobD) (h : (tJobS E).Rd w [.slice a n cap] d) (hw : wttJobS d ≤ 1048576) :
    Calls Tryz.prog 90 #[.slice a n cap] w fun e w' => ∃ a', e = .returned (.slice a' n n) ∧ (tJobS 92).Own w' w.heap.size w'.heap.size [.slice a' n n] d ∧ Below w.heap.size w w' := by
  obtain ⟨hl, hc, hm⟩ := row_length h
  obtain ⟨i0, hi, hz0, hz1, hz2⟩ := info_parts Tryz.infoJob15
  have hn : n ≤ 1048576 := by unfold wttJobS at hw; omega
  have hb3 : i0.bytes * n ≤ 281474976710656 := by rw [hz2]; omega
  have hm3 : n ≤ maxLen := by unfold maxLen; omega
  go_enter Tryz.func90, Tryz.ntmps90
  go_wp2_with (at_make; refine wpList_make_full _ rfl _ _ 31 rfl w.heap.size 92 i0 (.agg #[.int .i64 0, .int .i64 0, .int .i64 0, .int .i64 0, .slice none 0 0, .int .i64 0, .slice none 0 0, .int .i64 0]) 8 Tryz.underlying31 hi hz0 hz1 _ _ _ _ n rfl rfl rfl rfl hb3 hm3 (Nat.le_refl _) ?_; intro w1 hown hgrow)
  have hO := row_made (t := tJob) (z := (0, 0, 0, 0, [], 0, [], 0)) hown (by omega) rfl (fun _ => ⟨[], [], rfl, ⟨rfl, rfl⟩, ⟨[], [], rfl, ⟨rfl, rfl⟩, ⟨[], [], rfl, ⟨rfl, rfl⟩, ⟨[], [], rfl, ⟨rfl, rfl⟩, ⟨[], [], rfl, .inl ⟨rfl, rfl, rfl⟩, ⟨[], [], rfl, ⟨rfl, rfl⟩, ⟨[], [], rfl, .inl ⟨rfl, rfl, rfl⟩, ⟨rfl, rfl⟩, rfl⟩, rfl⟩, rfl⟩, rfl⟩, rfl⟩, rfl⟩, rfl⟩)
  have hB1 : Below w.heap.size w w1 := (Below.refl _ _).grown hgrow (Nat.le_refl _) (by simp)
  clear hown hgrow
  go_loopw [4] (fun i wr => ∃ j : Nat, j ≤ n ∧ i = .int .i64 j ∧ (tJobS 92).Own wr w.heap.size wr.heap.size [.slice (some ⟨w.heap.size, 0, none⟩) n n] (d.take j ++ List.replicate (n - j) (0, 0, 0, 0, [], 0, [], 0)) ∧ Below w.heap.size w wr) (fun i _ => n - (intOf i).toNat)
  case atStart => exact ⟨0, Nat.zero_le _, rfl, by simpa using hO, hB1⟩
  case round =>
    clear hO hB1
    obtain ⟨j, hj, rfl, ho, hb⟩ := hrel
    by_cases hjn : j < n
    · rcases jobS_at (h.below hb) with h0' | ⟨b, off, rfl, hbl, hcs⟩
      · omega
      obtain ⟨o, d1, b1, k, zs, t1, gs, q1, hdj⟩ : ∃ o d1 b1 k zs t1 gs q1, d[j]? = some (o, d1, b1, k, zs, t1, gs, q1) := ⟨_, _, _, _, _, _, _, _, List.getElem?_eq_getElem (by omega)⟩
      have hin := job_inner hdj
      have hlen : zs.length + gs.length ≤ 1048576 := by unfold wttJobS at hw; simp only [wJob] at hin; omega
      have HS := hidden (copied_step' d (0, 0, 0, 0, [], 0, [], 0) _ j hdj)
      rw [hl] at HS
      obtain ⟨av0, cv0, av1, cv1, hc0, hc1, hc2, hc3, hc4, hc5, hc6, hc7, hr0, hr1⟩ := hcs j o d1 b1 k zs t1 gs q1 hdj
      clear hcs hdj hin
      go_wp2_with fail
      refine (toJob_any _ o d1 b1 k t1 q1 _ _ _ _ zs gs hr0 hr1 (by omega)).mono ?_
      rintro e w2 ⟨g0, g1, rfl, o2, hb2⟩
      have s2 := hb2.size
      obtain ⟨hold, hf, hst, hbt⟩ := row_storeN (ho.below hb2) hjn o2 (Nat.le_refl _) s2
      obtain ⟨old0, hy0⟩ : ∃ v, w2.cell? ⟨w.heap.size, j * 8, none⟩ = some v := hold 0 (by show 0 < 8; omega)
      obtain ⟨old1, hy1⟩ : ∃ v, w2.cell? ⟨w.heap.size, j * 8 + 1, none⟩ = some v := hold 1 (by show 1 < 8; omega)
      obtain ⟨old2, hy2⟩ : ∃ v, w2.cell? ⟨w.heap.size, j * 8 + 2, none⟩ = some v := hold 2 (by show 2 < 8; omega)
      obtain ⟨old3, hy3⟩ : ∃ v, w2.cell? ⟨w.heap.size, j * 8 + 3, none⟩ = some v := hold 3 (by show 3 < 8; omega)
      obtain ⟨old4, hy4⟩ : ∃ v, w2.cell? ⟨w.heap.size, j * 8 + 4, none⟩ = some v := hold 4 (by show 4 < 8; omega)
      obtain ⟨old5, hy5⟩ : ∃ v, w2.cell? ⟨w.heap.size, j * 8 + 5, none⟩ = some v := hold 5 (by show 5 < 8; omega)
      obtain ⟨old6, hy6⟩ : ∃ v, w2.cell? ⟨w.heap.size, j * 8 + 6, none⟩ = some v := hold 6 (by show 6 < 8; omega)
      obtain ⟨old7, hy7⟩ : ∃ v, w2.cell? ⟨w.heap.size, j * 8 + 7, none⟩ = some v := hold 7 (by show 7 < 8; omega)
      rw [HS.out] at hst
      have hst8 : (tJobS 92).Own (w2.setCells w.heap.size (j * 8) [_, _, _, _, _, _, _, _]) _ _ [_] _ := hst
      have HST := hidden hst8
      have HB := hidden (Below.andBut (Below.andThen hb hb2) hbt (Nat.le_refl _))
      clear ho o2 hb2 hst hst8 hbt hb hold hr0 hr1 hc0 hc1 hc2 hc3 hc4 hc5 hc6 hc7 HS
      go_wp2
      go_roundw
      case rel => exact ⟨j + 1, by omega, by go_num, by (simp only [World.size_setCell]; exact HST.out), HB.out⟩
      case measure => simp [intOf]; omega
    · go_wp2
      go_ret
      obtain rfl : j = n := by omega
      rw [Nat.sub_self, List.replicate_zero, List.append_nil, List.take_of_length_le (by omega)] at ho
      exact ⟨_, rfl, ho, hb⟩

set_option maxHeartbeats 1600000 in
theorem eqJobS_same (w : World) (E E' : TypeId) (a a' : Option Addr) (n ca cb : Nat) (d : List JobD) (h : (tJobS E).Rd w [.slice a n ca] d) (h' : (tJobS E').Rd w [.slice a' n cb] d) (hw : wttJobS d ≤ 2097152) :
    Calls Tryz.prog 96 #[.slice a n ca, .slice a' n cb] w fun e w' => e = .returned (.bool true) ∧ Below w.heap.size w w' := by
  obtain ⟨hl, hc, hm⟩ := row_length h
  have hn : n ≤ 2097152 := by unfold wttJobS at hw; omega
  go_enter Tryz.func96, Tryz.ntmps96
  go_wp2
  go_loopw [5] (fun i wr => ∃ j : Nat, j ≤ n ∧ i = .int .i64 j ∧ Below w.heap.size w wr) (fun i _ => n - (intOf i).toNat)
  case atStart => exact ⟨0, Nat.zero_le _, rfl, Below.refl _ _⟩
  case round =>
    obtain ⟨j, hj, rfl, hb⟩ := hrel
    by_cases hjn : j < n
    · rcases jobS_at (h.below hb) with h0' | ⟨b, off, rfl, hbl, hcs⟩
      · omega
      rcases jobS_at (h'.below hb) with h0' | ⟨b2, off2, rfl, hbl2, hcs2⟩
      · omega
      obtain ⟨o, d1, b1, k, zs, t1, gs, q1, hdj⟩ : ∃ o d1 b1 k zs t1 gs q1, d[j]? = some (o, d1, b1, k, zs, t1, gs, q1) := ⟨_, _, _, _, _, _, _, _, List.getElem?_eq_getElem (by omega)⟩
      have hin := job_inner hdj
      have hlen : zs.length + gs.length ≤ 2097152 := by unfold wttJobS at hw; simp only [wJob] at hin; omega
      obtain ⟨av0, cv0, av1, cv1, hc0, hc1, hc2, hc3, hc4, hc5, hc6, hc7, hr0, hr1⟩ := hcs j o d1 b1 k zs t1 gs q1 hdj
      obtain ⟨bv0, dv0, bv1, dv1, hd0, hd1, hd2, hd3, hd4, hd5, hd6, hd7, hu0, hu1⟩ := hcs2 j o d1 b1 k zs t1 gs q1 hdj
      have i1 : (0 : Int) ≤ (j : Int) := by omega
      have i2 : (j : Int) < (n : Int) := by omega
      clear hcs hcs2 hdj hin
      go_wp2_with fail
      go_region_held3 (fun w' => (∀ o, w'.cell? ⟨b, o, none⟩ = wr.cell? ⟨b, o, none⟩) ∧ (∀ o, w'.cell? ⟨b2, o, none⟩ = wr.cell? ⟨b2, o, none⟩))
        (first | (exact ⟨fun o => hbC.cell (p := ⟨b, o, none⟩) hbl, fun o => hbC.cell (p := ⟨b2, o, none⟩) hbl2⟩) | (exact ⟨fun _ => rfl, fun _ => rfl⟩) | go_keep)
        (first | (go_at_call 176; have qb := (Below.refl wr.heap.size wr).drew; refine (eqJob_same _ o d1 b1 k t1 q1 _ _ _ _ _ _ _ _ zs gs (hr0.below qb) (hu0.below qb) (hr1.below qb) (hu1.below qb) (by omega)).mono ?_; rintro e wC ⟨rfl, hbC0⟩; have hbC : Below wr.heap.size wr wC := qb.trans hbC0))
      go_wp2
      go_roundw
      case rel => exact ⟨j + 1, by omega, by go_num, Below.andThen hb hbC⟩
      case measure => simp [intOf]; omega
    · go_wp2
      go_ret
      exact ⟨rfl, hb⟩

def wTurn (x : TurnD) : Nat := x.2.2.2.2.1.length + x.2.2.2.2.2.2.2.length
def wttTurnS (d : List TurnD) : Nat := d.length + sumL (d.map wTurn)
theorem turn_inner {d : List TurnD} {j : Nat} {x : TurnD} (h : d[j]? = some x) : wTurn x + sumL ((d.map wTurn).take j) ≤ sumL (d.map wTurn) := by
  have h1 := sumL_take (l := d.map wTurn) (j := j) (x := wTurn x) (by rw [List.getElem?_map, h]; rfl)
  have h2 := sumL_le (l := d.map wTurn) (j + 1)
  omega
/-- A slice of such, at an index. -/
theorem turnS_at {E : TypeId} {w : World} {a : Option Addr} {n cap : Nat} {d : List TurnD} (h : (tTurnS E).Rd w [.slice a n cap] d) :
    n = 0 ∨ ∃ b off, a = some ⟨b, off, none⟩ ∧ b < w.heap.size ∧ ∀ (i : Nat) (o : Int) (d1 : Int) (b1 : Int) (k : Int) (zs : List Int) (d2 : Int) (q1 : Int) (ys : List Int), d[i]? = some (o, d1, b1, k, zs, d2, q1, ys) → ∃ av0 cv0 av1 cv1, w.cell? ⟨b, off + i * 8, none⟩ = some (.int .i64 o) ∧ w.cell? ⟨b, off + i * 8 + 1, none⟩ = some (.int .i64 d1) ∧ w.cell? ⟨b, off + i * 8 + 2, none⟩ = some (.int .i64 b1) ∧ w.cell? ⟨b, off + i * 8 + 3, none⟩ = some (.int .i64 k) ∧ w.cell? ⟨b, off + i * 8 + 4, none⟩ = some (.slice av0 zs.length cv0) ∧ w.cell? ⟨b, off + i * 8 + 5, none⟩ = some (.int .i64 d2) ∧ w.cell? ⟨b, off + i * 8 + 6, none⟩ = some (.int .i64 q1) ∧ w.cell? ⟨b, off + i * 8 + 7, none⟩ = some (.slice av1 ys.length cv1) ∧ tIntS.Rd w [.slice av0 zs.length cv0] zs ∧ tIntS.Rd w [.slice av1 ys.length cv1] ys := by
  rcases rowN_at h with h0 | ⟨b, off, ha, hlt, hc⟩
  · exact .inl h0
  · refine .inr ⟨b, off, ha, hlt, fun i o d1 b1 k zs d2 q1 ys hi => ?_⟩
    obtain ⟨cs, hl, hr, hcc⟩ := hc i _ hi
    obtain ⟨v0, v1, v2, v3, v4, v5, v6, v7, rfl⟩ : ∃ v0 v1 v2 v3 v4 v5 v6 v7, cs = [v0, v1, v2, v3, v4, v5, v6, v7] := by
      match cs, hl with
      | [v0, v1, v2, v3, v4, v5, v6, v7], _ => exact ⟨v0, v1, v2, v3, v4, v5, v6, v7, rfl⟩
    obtain ⟨rfl, hr0⟩ := int_rd hr
    obtain ⟨rfl, hr1⟩ := int_rd hr0
    obtain ⟨rfl, hr2⟩ := int_rd hr1
    obtain ⟨rfl, hr3⟩ := int_rd hr2
    obtain ⟨av0, cv0, rfl, hs0, hr4⟩ := ints_rd_p hr3
    obtain ⟨rfl, hr5⟩ := int_rd hr4
    obtain ⟨rfl, hr6⟩ := int_rd hr5
    obtain ⟨av1, cv1, rfl⟩ := row_shape hr6
    exact ⟨av0, cv0, av1, cv1, hcc 0 (by show 0 < 8; omega), hcc 1 (by show 1 < 8; omega), hcc 2 (by show 2 < 8; omega), hcc 3 (by show 3 < 8; omega), hcc 4 (by show 4 < 8; omega), hcc 5 (by show 5 < 8; omega), hcc 6 (by show 6 < 8; omega), hcc 7 (by show 7 < 8; omega), hs0, hr6⟩

set_option maxHeartbeats 1600000 in
theorem szTurnS_any (w : World) (E : TypeId) (a : Option Addr) (n cap : Nat) (d : List TurnD) (left : Int) (h : (tTurnS E).Rd w [.slice a n cap] d) (h0 : 0 ≤ left) (h1 : left ≤ 1048576) :
    Calls Tryz.prog 86 #[.slice a n cap, .int .i64 left] w fun e w' => e = .returned (.int .i64 (leftOf left (wttTurnS d))) ∧ Below w.heap.size w w' := by
  obtain ⟨hl, hc, hm⟩ := row_length h
  have HE : Hid (wttTurnS d = n + sumL (d.map wTurn)) := by unfold Hid wttTurnS; rw [hl]
  by_cases hlt : (n : Int) ≤ left
  · go_enter Tryz.func86, Tryz.ntmps86
    go_wp2
    go_loopw [1, 5] (fun l i wr => ∃ j : Nat, j ≤ n ∧ i = .int .i64 j ∧ l = .int .i64 (left - n - (sumL ((d.map wTurn).take j) : Int)) ∧ (sumL ((d.map wTurn).take j) : Int) ≤ left - n ∧ Below w.heap.size w wr) (fun _ i _ => n - (intOf i).toNat)
    case atStart => exact ⟨0, Nat.zero_le _, rfl, by simp [sumL], by simp [sumL]; omega, Below.refl _ _⟩
    case round =>
      obtain ⟨j, hj, rfl, rfl, hs, hb⟩ := hrel
      by_cases hjn : j < n
      · rcases turnS_at (h.below hb) with h0' | ⟨b, off, rfl, hbl, hcs⟩
        · omega
        obtain ⟨o, d1, b1, k, zs, d2, q1, ys, hdj⟩ : ∃ o d1 b1 k zs d2 q1 ys, d[j]? = some (o, d1, b1, k, zs, d2, q1, ys) := ⟨_, _, _, _, _, _, _, _, List.getElem?_eq_getElem (by omega)⟩
        obtain ⟨av0, cv0, av1, cv1, hc0, hc1, hc2, hc3, hc4, hc5, hc6, hc7, hr0, hr1⟩ := hcs j o d1 b1 k zs d2 q1 ys hdj
        obtain ⟨_, hxc0, hxm0⟩ := row_length hr0
        obtain ⟨_, hxc1, hxm1⟩ := row_length hr1
        have hst := sumL_take (l := d.map wTurn) (j := j) (x := zs.length + ys.length) (by rw [List.getElem?_map, hdj]; rfl)
        have HW := hidden hst
        have hle := sumL_le (l := d.map wTurn) (j + 1)
        generalize sumL ((d.map wTurn).take j) = S at hs hst HW
        generalize sumL (d.map wTurn) = T at hle HE
        have hle2 : S + (zs.length + ys.length) ≤ T := by omega
        clear hcs hst hdj hr0 hr1 hle
        by_cases hx : ((zs.length + ys.length : Nat) : Int) ≤ left - n - S
        · have hq := leftOf_pos hx
          have hq2 : ¬ left - n - S - ((zs.length + ys.length : Nat) : Int) < 0 := by omega
          go_wp2_with fail
          refine (szTurn_any _ o d1 b1 k d2 q1 _ _ _ _ _ _ _ (by omega) (by omega) (by omega) (by omega)).mono ?_
          rintro e w1 ⟨rfl, hb1⟩
          have hB := Below.andThen hb hb1
          go_wp2
          go_roundw
          case rel => exact ⟨j + 1, by omega, by go_num, by rw [HW.out]; go_num, by rw [HW.out]; omega, hB⟩
          case measure => simp [intOf]; omega
        · have hq := leftOf_neg (left := left - n - (S : Int)) (wt := zs.length + ys.length) (by omega)
          have hgt : left < ((wttTurnS d : Nat) : Int) := by rw [HE.out]; omega
          go_wp2_with fail
          refine (szTurn_any _ o d1 b1 k d2 q1 _ _ _ _ _ _ _ (by omega) (by omega) (by omega) (by omega)).mono ?_
          rintro e w1 ⟨rfl, hb1⟩
          have hB := Below.andThen hb hb1
          go_wp2
          go_ret
          exact ⟨ret_int (leftOf_neg (by omega)).symm, hB⟩
      · go_wp2
        go_ret
        obtain rfl : j = n := by omega
        have ht : (d.map wTurn).take j = d.map wTurn := List.take_of_length_le (by simp; omega)
        rw [ht] at hs
        refine ⟨ret_int ?_, hb⟩
        rw [ht, leftOf_pos (by rw [HE.out]; omega), HE.out]
        omega
  · have hgt : left < ((wttTurnS d : Nat) : Int) := by rw [HE.out]; omega
    go_enter Tryz.func86, Tryz.ntmps86
    go_wp2
    go_ret
    exact ⟨ret_int (leftOf_neg (by omega)).symm, Below.refl _ _⟩

theorem Tryz.infoTurn15 : (Tryz.prog.info? 95).map (fun i => (i.zero, i.size, i.bytes)) = some (some (.agg #[.int .i64 0, .int .i64 0, .int .i64 0, .int .i64 0, .slice none 0 0, .int .i64 0, .int .i64 0, .slice none 0 0]), 8, 96) := by kernel_rfl
set_option maxHeartbeats 1600000 in
theorem toTurnS_any (w : World) (E : TypeId) (a : Option Addr) (n cap : Nat) (d : List TurnD) (h : (tTurnS E).Rd w [.slice a n cap] d) (hw : wttTurnS d ≤ 1048576) :
    Calls Tryz.prog 92 #[.slice a n cap] w fun e w' => ∃ a', e = .returned (.slice a' n n) ∧ (tTurnS 95).Own w' w.heap.size w'.heap.size [.slice a' n n] d ∧ Below w.heap.size w w' := by
  obtain ⟨hl, hc, hm⟩ := row_length h
  obtain ⟨i0, hi, hz0, hz1, hz2⟩ := info_parts Tryz.infoTurn15
  have hn : n ≤ 1048576 := by unfold wttTurnS at hw; omega
  have hb3 : i0.bytes * n ≤ 281474976710656 := by rw [hz2]; omega
  have hm3 : n ≤ maxLen := by unfold maxLen; omega
  go_enter Tryz.func92, Tryz.ntmps92
  go_wp2_with (at_make; refine wpList_make_full _ rfl _ _ 33 rfl w.heap.size 95 i0 (.agg #[.int .i64 0, .int .i64 0, .int .i64 0, .int .i64 0, .slice none 0 0, .int .i64 0, .int .i64 0, .slice none 0 0]) 8 Tryz.underlying33 hi hz0 hz1 _ _ _ _ n rfl rfl rfl rfl hb3 hm3 (Nat.le_refl _) ?_; intro w1 hown hgrow)
  have hO := row_made (t := tTurn) (z := (0, 0, 0, 0, [], 0, 0, [])) hown (by omega) rfl (fun _ => ⟨[], [], rfl, ⟨rfl, rfl⟩, ⟨[], [], rfl, ⟨rfl, rfl⟩, ⟨[], [], rfl, ⟨rfl, rfl⟩, ⟨[], [], rfl, ⟨rfl, rfl⟩, ⟨[], [], rfl, .inl ⟨rfl, rfl, rfl⟩, ⟨[], [], rfl, ⟨rfl, rfl⟩, ⟨[], [], rfl, ⟨rfl, rfl⟩, .inl ⟨rfl, rfl, rfl⟩, rfl⟩, rfl⟩, rfl⟩, rfl⟩, rfl⟩, rfl⟩, rfl⟩)
  have hB1 : Below w.heap.size w w1 := (Below.refl _ _).grown hgrow (Nat.le_refl _) (by simp)
  clear hown hgrow
  go_loopw [4] (fun i wr => ∃ j : Nat, j ≤ n ∧ i = .int .i64 j ∧ (tTurnS 95).Own wr w.heap.size wr.heap.size [.slice (some ⟨w.heap.size, 0, none⟩) n n] (d.take j ++ List.replicate (n - j) (0, 0, 0, 0, [], 0, 0, [])) ∧ Below w.heap.size w wr) (fun i _ => n - (intOf i).toNat)
  case atStart => exact ⟨0, Nat.zero_le _, rfl, by simpa using hO, hB1⟩
  case round =>
    clear hO hB1
    obtain ⟨j, hj, rfl, ho, hb⟩ := hrel
    by_cases hjn : j < n
    · rcases turnS_at (h.below hb) with h0' | ⟨b, off, rfl, hbl, hcs⟩
      · omega
      obtain ⟨o, d1, b1, k, zs, d2, q1, ys, hdj⟩ : ∃ o d1 b1 k zs d2 q1 ys, d[j]? = some (o, d1, b1, k, zs, d2, q1, ys) := ⟨_, _, _, _, _, _, _, _, List.getElem?_eq_getElem (by omega)⟩
      have hin := turn_inner hdj
      have hlen : zs.length + ys.length ≤ 1048576 := by unfold wttTurnS at hw; simp only [wTurn] at hin; omega
      have HS := hidden (copied_step' d (0, 0, 0, 0, [], 0, 0, []) _ j hdj)
      rw [hl] at HS
      obtain ⟨av0, cv0, av1, cv1, hc0, hc1, hc2, hc3, hc4, hc5, hc6, hc7, hr0, hr1⟩ := hcs j o d1 b1 k zs d2 q1 ys hdj
      clear hcs hdj hin
      go_wp2_with fail
      refine (toTurn_any _ o d1 b1 k d2 q1 _ _ _ _ zs ys hr0 hr1 (by omega)).mono ?_
      rintro e w2 ⟨g0, g1, rfl, o2, hb2⟩
      have s2 := hb2.size
      obtain ⟨hold, hf, hst, hbt⟩ := row_storeN (ho.below hb2) hjn o2 (Nat.le_refl _) s2
      obtain ⟨old0, hy0⟩ : ∃ v, w2.cell? ⟨w.heap.size, j * 8, none⟩ = some v := hold 0 (by show 0 < 8; omega)
      obtain ⟨old1, hy1⟩ : ∃ v, w2.cell? ⟨w.heap.size, j * 8 + 1, none⟩ = some v := hold 1 (by show 1 < 8; omega)
      obtain ⟨old2, hy2⟩ : ∃ v, w2.cell? ⟨w.heap.size, j * 8 + 2, none⟩ = some v := hold 2 (by show 2 < 8; omega)
      obtain ⟨old3, hy3⟩ : ∃ v, w2.cell? ⟨w.heap.size, j * 8 + 3, none⟩ = some v := hold 3 (by show 3 < 8; omega)
      obtain ⟨old4, hy4⟩ : ∃ v, w2.cell? ⟨w.heap.size, j * 8 + 4, none⟩ = some v := hold 4 (by show 4 < 8; omega)
      obtain ⟨old5, hy5⟩ : ∃ v, w2.cell? ⟨w.heap.size, j * 8 + 5, none⟩ = some v := hold 5 (by show 5 < 8; omega)
      obtain ⟨old6, hy6⟩ : ∃ v, w2.cell? ⟨w.heap.size, j * 8 + 6, none⟩ = some v := hold 6 (by show 6 < 8; omega)
      obtain ⟨old7, hy7⟩ : ∃ v, w2.cell? ⟨w.heap.size, j * 8 + 7, none⟩ = some v := hold 7 (by show 7 < 8; omega)
      rw [HS.out] at hst
      have hst8 : (tTurnS 95).Own (w2.setCells w.heap.size (j * 8) [_, _, _, _, _, _, _, _]) _ _ [_] _ := hst
      have HST := hidden hst8
      have HB := hidden (Below.andBut (Below.andThen hb hb2) hbt (Nat.le_refl _))
      clear ho o2 hb2 hst hst8 hbt hb hold hr0 hr1 hc0 hc1 hc2 hc3 hc4 hc5 hc6 hc7 HS
      go_wp2
      go_roundw
      case rel => exact ⟨j + 1, by omega, by go_num, by (simp only [World.size_setCell]; exact HST.out), HB.out⟩
      case measure => simp [intOf]; omega
    · go_wp2
      go_ret
      obtain rfl : j = n := by omega
      rw [Nat.sub_self, List.replicate_zero, List.append_nil, List.take_of_length_le (by omega)] at ho
      exact ⟨_, rfl, ho, hb⟩

set_option maxHeartbeats 1600000 in
theorem eqTurnS_same (w : World) (E E' : TypeId) (a a' : Option Addr) (n ca cb : Nat) (d : List TurnD) (h : (tTurnS E).Rd w [.slice a n ca] d) (h' : (tTurnS E').Rd w [.slice a' n cb] d) (hw : wttTurnS d ≤ 2097152) :
    Calls Tryz.prog 98 #[.slice a n ca, .slice a' n cb] w fun e w' => e = .returned (.bool true) ∧ Below w.heap.size w w' := by
  obtain ⟨hl, hc, hm⟩ := row_length h
  have hn : n ≤ 2097152 := by unfold wttTurnS at hw; omega
  go_enter Tryz.func98, Tryz.ntmps98
  go_wp2
  go_loopw [5] (fun i wr => ∃ j : Nat, j ≤ n ∧ i = .int .i64 j ∧ Below w.heap.size w wr) (fun i _ => n - (intOf i).toNat)
  case atStart => exact ⟨0, Nat.zero_le _, rfl, Below.refl _ _⟩
  case round =>
    obtain ⟨j, hj, rfl, hb⟩ := hrel
    by_cases hjn : j < n
    · rcases turnS_at (h.below hb) with h0' | ⟨b, off, rfl, hbl, hcs⟩
      · omega
      rcases turnS_at (h'.below hb) with h0' | ⟨b2, off2, rfl, hbl2, hcs2⟩
      · omega
      obtain ⟨o, d1, b1, k, zs, d2, q1, ys, hdj⟩ : ∃ o d1 b1 k zs d2 q1 ys, d[j]? = some (o, d1, b1, k, zs, d2, q1, ys) := ⟨_, _, _, _, _, _, _, _, List.getElem?_eq_getElem (by omega)⟩
      have hin := turn_inner hdj
      have hlen : zs.length + ys.length ≤ 2097152 := by unfold wttTurnS at hw; simp only [wTurn] at hin; omega
      obtain ⟨av0, cv0, av1, cv1, hc0, hc1, hc2, hc3, hc4, hc5, hc6, hc7, hr0, hr1⟩ := hcs j o d1 b1 k zs d2 q1 ys hdj
      obtain ⟨bv0, dv0, bv1, dv1, hd0, hd1, hd2, hd3, hd4, hd5, hd6, hd7, hu0, hu1⟩ := hcs2 j o d1 b1 k zs d2 q1 ys hdj
      have i1 : (0 : Int) ≤ (j : Int) := by omega
      have i2 : (j : Int) < (n : Int) := by omega
      clear hcs hcs2 hdj hin
      go_wp2_with fail
      go_region_held3 (fun w' => (∀ o, w'.cell? ⟨b, o, none⟩ = wr.cell? ⟨b, o, none⟩) ∧ (∀ o, w'.cell? ⟨b2, o, none⟩ = wr.cell? ⟨b2, o, none⟩))
        (first | (exact ⟨fun o => hbC.cell (p := ⟨b, o, none⟩) hbl, fun o => hbC.cell (p := ⟨b2, o, none⟩) hbl2⟩) | (exact ⟨fun _ => rfl, fun _ => rfl⟩) | go_keep)
        (first | (go_at_call 178; have qb := (Below.refl wr.heap.size wr).drew; refine (eqTurn_same _ o d1 b1 k d2 q1 _ _ _ _ _ _ _ _ zs ys (hr0.below qb) (hu0.below qb) (hr1.below qb) (hu1.below qb) (by omega)).mono ?_; rintro e wC ⟨rfl, hbC0⟩; have hbC : Below wr.heap.size wr wC := qb.trans hbC0))
      go_wp2
      go_roundw
      case rel => exact ⟨j + 1, by omega, by go_num, Below.andThen hb hbC⟩
      case measure => simp [intOf]; omega
    · go_wp2
      go_ret
      exact ⟨rfl, hb⟩

end Go.Proofs.YtbkkjfgjlapadaaGreat

/-
  The laws' helpers over slices of commands. Conditions: at most 1048576 in all (marks up to 16777216).
-/
import Derived.Test.YtbkkjfgjlapadaaGreatRows14
import Derived.Test.YtbkkjfgjlapadaaGreatWalkCmd
import Derived.Test.YtbkkjfgjlapadaaGreatWalkMark
namespace Go.Proofs.YtbkkjfgjlapadaaGreat
open Go.RowKit

def wttCmdS (d : List CmdD) : Nat := d.length + sumL (d.map fun x => x.2.2.2.2.length)
theorem cmd_inner {d : List CmdD} {j : Nat} {x : CmdD} (h : d[j]? = some x) : x.2.2.2.2.length + sumL ((d.map fun x => x.2.2.2.2.length).take j) ≤ sumL (d.map fun x => x.2.2.2.2.length) := by
  have h1 := sumL_take (l := d.map fun x => x.2.2.2.2.length) (j := j) (x := x.2.2.2.2.length) (by rw [List.getElem?_map, h]; rfl)
  have h2 := sumL_le (l := d.map fun x => x.2.2.2.2.length) (j + 1)
  omega
/-- A slice of such, at an index. -/
theorem cmdS_at {E : TypeId} {w : World} {a : Option Addr} {n cap : Nat} {d : List CmdD} (h : (tCmdS E).Rd w [.slice a n cap] d) :
    n = 0 ∨ ∃ b off, a = some ⟨b, off, none⟩ ∧ b < w.heap.size ∧ ∀ (i : Nat) (o d1 b1 k : Int) (zs : List Int), d[i]? = some (o, d1, b1, k, zs) → ∃ av cv, w.cell? ⟨b, off + i * 5, none⟩ = some (.int .i64 o) ∧ w.cell? ⟨b, off + i * 5 + 1, none⟩ = some (.int .i64 d1) ∧ w.cell? ⟨b, off + i * 5 + 2, none⟩ = some (.int .i64 b1) ∧ w.cell? ⟨b, off + i * 5 + 3, none⟩ = some (.int .i64 k) ∧ w.cell? ⟨b, off + i * 5 + 4, none⟩ = some (.slice av zs.length cv) ∧ tIntS.Rd w [.slice av zs.length cv] zs := by
  rcases rowN_at h with h0 | ⟨b, off, ha, hlt, hc⟩
  · exact .inl h0
  · refine .inr ⟨b, off, ha, hlt, fun i o d1 b1 k zs hi => ?_⟩
    obtain ⟨cs, hl, hr, hcc⟩ := hc i _ hi
    obtain ⟨v0, v1, v2, v3, v4, rfl⟩ : ∃ v0 v1 v2 v3 v4, cs = [v0, v1, v2, v3, v4] := by
      match cs, hl with
      | [v0, v1, v2, v3, v4], _ => exact ⟨v0, v1, v2, v3, v4, rfl⟩
    obtain ⟨rfl, hr0⟩ := int_rd hr
    obtain ⟨rfl, hr1⟩ := int_rd hr0
    obtain ⟨rfl, hr2⟩ := int_rd hr1
    obtain ⟨rfl, hr3⟩ := int_rd hr2
    obtain ⟨av, cv, rfl⟩ := row_shape hr3
    exact ⟨av, cv, hcc 0 (by show 0 < 5; omega), hcc 1 (by show 1 < 5; omega), hcc 2 (by show 2 < 5; omega), hcc 3 (by show 3 < 5; omega), hcc 4 (by show 4 < 5; omega), hr3⟩

set_option maxHeartbeats 1600000 in
theorem szCmdS_any (w : World) (E : TypeId) (a : Option Addr) (n cap : Nat) (d : List CmdD) (left : Int) (h : (tCmdS E).Rd w [.slice a n cap] d) (h0 : 0 ≤ left) (h1 : left ≤ 1048576) :
    Calls Tryz.prog 83 #[.slice a n cap, .int .i64 left] w fun e w' => e = .returned (.int .i64 (leftOf left (wttCmdS d))) ∧ Below w.heap.size w w' := by
  obtain ⟨hl, hc, hm⟩ := row_length h
  have HE : Hid (wttCmdS d = n + sumL (d.map fun x => x.2.2.2.2.length)) := by unfold Hid wttCmdS; rw [hl]
  by_cases hlt : (n : Int) ≤ left
  · go_enter Tryz.func83, Tryz.ntmps83
    go_wp2
    go_loopw [1, 5] (fun l i wr => ∃ j : Nat, j ≤ n ∧ i = .int .i64 j ∧ l = .int .i64 (left - n - (sumL ((d.map fun x => x.2.2.2.2.length).take j) : Int)) ∧ (sumL ((d.map fun x => x.2.2.2.2.length).take j) : Int) ≤ left - n ∧ Below w.heap.size w wr) (fun _ i _ => n - (intOf i).toNat)
    case atStart => exact ⟨0, Nat.zero_le _, rfl, by simp [sumL], by simp [sumL]; omega, Below.refl _ _⟩
    case round =>
      obtain ⟨j, hj, rfl, rfl, hs, hb⟩ := hrel
      by_cases hjn : j < n
      · rcases cmdS_at h with h0' | ⟨b, off, rfl, hbl, hcs⟩
        · omega
        obtain ⟨o, d1, b1, k, zs, hdj⟩ : ∃ o d1 b1 k zs, d[j]? = some (o, d1, b1, k, zs) := ⟨_, _, _, _, _, List.getElem?_eq_getElem (by omega)⟩
        obtain ⟨av, cv, hc0, hc1, hc2, hc3, hc4, hrv⟩ := hcs j o d1 b1 k zs hdj
        have hw0 := (hb.cell (p := ⟨b, off + j * 5, none⟩) hbl).trans hc0
        have hw1 := (hb.cell (p := ⟨b, off + j * 5 + 1, none⟩) hbl).trans hc1
        have hw2 := (hb.cell (p := ⟨b, off + j * 5 + 2, none⟩) hbl).trans hc2
        have hw3 := (hb.cell (p := ⟨b, off + j * 5 + 3, none⟩) hbl).trans hc3
        have hw4 := (hb.cell (p := ⟨b, off + j * 5 + 4, none⟩) hbl).trans hc4
        obtain ⟨_, hxc, hxm⟩ := row_length hrv
        have hst := sumL_take (l := d.map fun x => x.2.2.2.2.length) (j := j) (x := zs.length) (by rw [List.getElem?_map, hdj]; rfl)
        have HW := hidden hst
        have hle := sumL_le (l := d.map fun x => x.2.2.2.2.length) (j + 1)
        generalize sumL ((d.map fun x => x.2.2.2.2.length).take j) = S at hs hst HW
        generalize sumL (d.map fun x => x.2.2.2.2.length) = T at hle HE
        have hle2 : S + zs.length ≤ T := by omega
        clear hcs hst hdj hc0 hc1 hc2 hc3 hc4 hrv hle
        by_cases hx : (zs.length : Int) ≤ left - n - S
        · have hq := leftOf_pos hx
          go_wp2_with fail
          refine (szCmd_any _ o d1 b1 k _ _ _ _ (by omega) (by omega) (by omega)).mono ?_
          rintro e w1 ⟨rfl, hb1⟩
          have hB := Below.andThen hb hb1
          go_wp2
          go_roundw
          case rel => exact ⟨j + 1, by omega, by go_num, by rw [HW.out]; go_num, by rw [HW.out]; omega, hB⟩
          case measure => simp [intOf]; omega
        · have hq := leftOf_neg (left := left - n - (S : Int)) (wt := zs.length) (by omega)
          have hgt : left < ((wttCmdS d : Nat) : Int) := by rw [HE.out]; omega
          go_wp2_with fail
          refine (szCmd_any _ o d1 b1 k _ _ _ _ (by omega) (by omega) (by omega)).mono ?_
          rintro e w1 ⟨rfl, hb1⟩
          have hB := Below.andThen hb hb1
          go_wp2
          go_ret
          exact ⟨ret_int (leftOf_neg (by omega)).symm, hB⟩
      · go_wp2
        go_ret
        have e : j = n := by omega
        subst e
        have ht : (d.map fun x => x.2.2.2.2.length).take j = d.map fun x => x.2.2.2.2.length := List.take_of_length_le (by simp; omega)
        rw [ht] at hs
        refine ⟨ret_int ?_, hb⟩
        rw [ht, leftOf_pos (by rw [HE.out]; omega), HE.out]
        omega
  · have hgt : left < ((wttCmdS d : Nat) : Int) := by rw [HE.out]; omega
    go_enter Tryz.func83, Tryz.ntmps83
    go_wp2
    go_ret
    exact ⟨ret_int (leftOf_neg (by omega)).symm, Below.refl _ _⟩

theorem Tryz.infoCmd14 : (Tryz.prog.info? 38).map (fun i => (i.zero, i.size, i.bytes)) = some (some (.agg #[.int .i64 0, .int .i64 0, .int .i64 0, .int .i64 0, .slice none 0 0]), 5, 56) := by kernel_rfl
set_option maxHeartbeats 1600000 in
theorem toCmdS_any (w : World) (E : TypeId) (a : Option Addr) (n cap : Nat) (d : List CmdD) (h : (tCmdS E).Rd w [.slice a n cap] d) (hw : wttCmdS d ≤ 1048576) :
    Calls Tryz.prog 89 #[.slice a n cap] w fun e w' => ∃ a', e = .returned (.slice a' n n) ∧ (tCmdS 38).Own w' w.heap.size w'.heap.size [.slice a' n n] d ∧ Below w.heap.size w w' := by
  obtain ⟨hl, hc, hm⟩ := row_length h
  obtain ⟨i0, hi, hz0, hz1, hz2⟩ := info_parts Tryz.infoCmd14
  have hn : n ≤ 1048576 := by unfold wttCmdS at hw; omega
  have hb3 : i0.bytes * n ≤ 281474976710656 := by rw [hz2]; omega
  have hm3 : n ≤ maxLen := by unfold maxLen; omega
  go_enter Tryz.func89, Tryz.ntmps89
  go_wp2_with (at_make; refine wpList_make_full _ rfl _ _ 30 rfl w.heap.size 38 i0 (.agg #[.int .i64 0, .int .i64 0, .int .i64 0, .int .i64 0, .slice none 0 0]) 5 Tryz.underlying30 hi hz0 hz1 _ _ _ _ n rfl rfl rfl rfl hb3 hm3 (Nat.le_refl _) ?_; intro w1 hown hgrow)
  have hO := row_made (t := tCmd) (z := (0, 0, 0, 0, [])) hown (by omega) rfl (fun _ => ⟨[], [], rfl, ⟨rfl, rfl⟩, ⟨[], [], rfl, ⟨rfl, rfl⟩, ⟨[], [], rfl, ⟨rfl, rfl⟩, ⟨[], [], rfl, ⟨rfl, rfl⟩, .inl ⟨rfl, rfl, rfl⟩, rfl⟩, rfl⟩, rfl⟩, rfl⟩)
  have hB1 : Below w.heap.size w w1 := (Below.refl _ _).grown hgrow (Nat.le_refl _) (by simp)
  clear hown hgrow
  go_loopw [4] (fun i wr => ∃ j : Nat, j ≤ n ∧ i = .int .i64 j ∧ (tCmdS 38).Own wr w.heap.size wr.heap.size [.slice (some ⟨w.heap.size, 0, none⟩) n n] (d.take j ++ List.replicate (n - j) (0, 0, 0, 0, [])) ∧ Below w.heap.size w wr) (fun i _ => n - (intOf i).toNat)
  case atStart => exact ⟨0, Nat.zero_le _, rfl, by simpa using hO, hB1⟩
  case round =>
    clear hO hB1
    obtain ⟨j, hj, rfl, ho, hb⟩ := hrel
    by_cases hjn : j < n
    · rcases cmdS_at h with h0' | ⟨b, off, rfl, hbl, hcs⟩
      · omega
      obtain ⟨o, d1, b1, k, zs, hdj⟩ : ∃ o d1 b1 k zs, d[j]? = some (o, d1, b1, k, zs) := ⟨_, _, _, _, _, List.getElem?_eq_getElem (by omega)⟩
      have hin := cmd_inner hdj
      have hlen : zs.length ≤ 1048576 := by unfold wttCmdS at hw; simp only at hin; omega
      have HS := hidden (copied_step' d (0, 0, 0, 0, []) _ j hdj)
      rw [hl] at HS
      obtain ⟨av, cv, hc0, hc1, hc2, hc3, hc4, hrv⟩ := hcs j o d1 b1 k zs hdj
      have hw0 := (hb.cell (p := ⟨b, off + j * 5, none⟩) hbl).trans hc0
      have hw1 := (hb.cell (p := ⟨b, off + j * 5 + 1, none⟩) hbl).trans hc1
      have hw2 := (hb.cell (p := ⟨b, off + j * 5 + 2, none⟩) hbl).trans hc2
      have hw3 := (hb.cell (p := ⟨b, off + j * 5 + 3, none⟩) hbl).trans hc3
      have hw4 := (hb.cell (p := ⟨b, off + j * 5 + 4, none⟩) hbl).trans hc4
      obtain ⟨hrr, _, _, _⟩ := ints_rd (hrv.below hb)
      clear hcs hdj hc0 hc1 hc2 hc3 hc4 hrv hin
      go_wp2_with fail
      refine (toCmd_any _ o d1 b1 k _ _ _ zs rfl hrr hlen).mono ?_
      rintro e w2 ⟨g2, rfl, ho2, hb2⟩
      have s2 := hb2.size
      have ho2i : tCmd.Own w2 wr.heap.size w2.heap.size [.int .i64 o, .int .i64 d1, .int .i64 b1, .int .i64 k, .slice (some ⟨g2, 0, none⟩) zs.length zs.length] (o, d1, b1, k, zs) := int_own_of (int_own_of (int_own_of (int_own_of (ho2))))
      obtain ⟨hold, hfy, hst, hbt⟩ := row_storeN (ho.below hb2) hjn (ho2i) (Nat.le_refl _) s2
      obtain ⟨old0, hy0⟩ := hold 0 (by show 0 < 5; omega)
      have hy0' : w2.cell? ⟨w.heap.size, j * 5, none⟩ = some old0 := hy0
      obtain ⟨old1, hy1⟩ := hold 1 (by show 1 < 5; omega)
      have hy1' : w2.cell? ⟨w.heap.size, j * 5 + 1, none⟩ = some old1 := hy1
      obtain ⟨old2, hy2⟩ := hold 2 (by show 2 < 5; omega)
      have hy2' : w2.cell? ⟨w.heap.size, j * 5 + 2, none⟩ = some old2 := hy2
      obtain ⟨old3, hy3⟩ := hold 3 (by show 3 < 5; omega)
      have hy3' : w2.cell? ⟨w.heap.size, j * 5 + 3, none⟩ = some old3 := hy3
      obtain ⟨old4, hy4⟩ := hold 4 (by show 4 < 5; omega)
      have hy4' : w2.cell? ⟨w.heap.size, j * 5 + 4, none⟩ = some old4 := hy4
      have hf := fun q => hfy q
      rw [HS.out] at hst
      have HST : Hid ((tCmdS 38).Own (((((w2.setCell ⟨w.heap.size, j * 5, none⟩ (.int .i64 o)).setCell ⟨w.heap.size, j * 5 + 1, none⟩ (.int .i64 d1)).setCell ⟨w.heap.size, j * 5 + 2, none⟩ (.int .i64 b1)).setCell ⟨w.heap.size, j * 5 + 3, none⟩ (.int .i64 k)).setCell ⟨w.heap.size, j * 5 + 4, none⟩ (.slice (some ⟨g2, 0, none⟩) zs.length zs.length)) w.heap.size w2.heap.size [.slice (some ⟨w.heap.size, 0, none⟩) n n] (d.take (j + 1) ++ List.replicate (n - (j + 1)) (0, 0, 0, 0, []))) := hst
      have HB := Below.andThen hb hb2
      clear ho ho2 ho2i hb2 hst hbt hb hold hfy hy0 hy1 hy2 hy3 hy4
      go_wp2
      go_roundw
      case rel => exact ⟨j + 1, by omega, by go_num, by first | exact HST.out | (simp only [World.size_setCell]; exact HST.out), (((((HB.setCell (p := ⟨w.heap.size, j * 5, none⟩) (Nat.le_refl _) _).setCell (p := ⟨w.heap.size, j * 5 + 1, none⟩) (Nat.le_refl _) _).setCell (p := ⟨w.heap.size, j * 5 + 2, none⟩) (Nat.le_refl _) _).setCell (p := ⟨w.heap.size, j * 5 + 3, none⟩) (Nat.le_refl _) _).setCell (p := ⟨w.heap.size, j * 5 + 4, none⟩) (Nat.le_refl _) _)⟩
      case measure => simp [intOf]; omega
    · go_wp2
      go_ret
      have e : j = n := by omega
      subst e
      rw [Nat.sub_self, List.replicate_zero, List.append_nil, List.take_of_length_le (by omega)] at ho
      exact ⟨_, rfl, ho, hb⟩

set_option maxHeartbeats 1600000 in
theorem eqCmdS_same (w : World) (E E' : TypeId) (a a' : Option Addr) (n ca cb : Nat) (d : List CmdD) (h : (tCmdS E).Rd w [.slice a n ca] d) (h' : (tCmdS E').Rd w [.slice a' n cb] d) (hw : wttCmdS d ≤ 2097152) :
    Calls Tryz.prog 95 #[.slice a n ca, .slice a' n cb] w fun e w' => e = .returned (.bool true) ∧ Below w.heap.size w w' := by
  obtain ⟨hl, hc, hm⟩ := row_length h
  have hn : n ≤ 2097152 := by unfold wttCmdS at hw; omega
  go_enter Tryz.func95, Tryz.ntmps95
  go_wp2
  go_loopw [5] (fun i wr => ∃ j : Nat, j ≤ n ∧ i = .int .i64 j ∧ Below w.heap.size w wr) (fun i _ => n - (intOf i).toNat)
  case atStart => exact ⟨0, Nat.zero_le _, rfl, Below.refl _ _⟩
  case round =>
    obtain ⟨j, hj, rfl, hb⟩ := hrel
    by_cases hjn : j < n
    · rcases cmdS_at h with h0' | ⟨b, off, rfl, hbl, hcs⟩
      · omega
      rcases cmdS_at h' with h0' | ⟨b2, off2, rfl, hbl2, hcs2⟩
      · omega
      obtain ⟨o, d1, b1, k, zs, hdj⟩ : ∃ o d1 b1 k zs, d[j]? = some (o, d1, b1, k, zs) := ⟨_, _, _, _, _, List.getElem?_eq_getElem (by omega)⟩
      have hin := cmd_inner hdj
      have hlen : zs.length ≤ 2097152 := by unfold wttCmdS at hw; simp only at hin; omega
      obtain ⟨av, cv, hc0, hc1, hc2, hc3, hc4, hrv⟩ := hcs j o d1 b1 k zs hdj
      obtain ⟨av2, cv2, hd0, hd1, hd2, hd3, hd4, hrv2⟩ := hcs2 j o d1 b1 k zs hdj
      have hw0 := (hb.cell (p := ⟨b, off + j * 5, none⟩) hbl).trans hc0
      have hw1 := (hb.cell (p := ⟨b, off + j * 5 + 1, none⟩) hbl).trans hc1
      have hw2 := (hb.cell (p := ⟨b, off + j * 5 + 2, none⟩) hbl).trans hc2
      have hw3 := (hb.cell (p := ⟨b, off + j * 5 + 3, none⟩) hbl).trans hc3
      have hw4 := (hb.cell (p := ⟨b, off + j * 5 + 4, none⟩) hbl).trans hc4
      have hu0 := (hb.cell (p := ⟨b2, off2 + j * 5, none⟩) hbl2).trans hd0
      have hu1 := (hb.cell (p := ⟨b2, off2 + j * 5 + 1, none⟩) hbl2).trans hd1
      have hu2 := (hb.cell (p := ⟨b2, off2 + j * 5 + 2, none⟩) hbl2).trans hd2
      have hu3 := (hb.cell (p := ⟨b2, off2 + j * 5 + 3, none⟩) hbl2).trans hd3
      have hu4 := (hb.cell (p := ⟨b2, off2 + j * 5 + 4, none⟩) hbl2).trans hd4
      have r1 := hrv.below hb
      have r2 := hrv2.below hb
      have zx : b < wr.heap.size := Nat.lt_of_lt_of_le hbl hb.size
      have zy : b2 < wr.heap.size := Nat.lt_of_lt_of_le hbl2 hb.size
      have i1 : (0 : Int) ≤ (j : Int) := by omega
      have i2 : (j : Int) < (n : Int) := by omega
      clear hcs hcs2 hdj hc0 hc1 hc2 hc3 hc4 hd0 hd1 hd2 hd3 hd4 hrv hrv2 hin
      go_wp2_with fail
      go_region_held3 (fun w' => w'.cell? ⟨b, off + j * 5, none⟩ = some (.int .i64 o) ∧ w'.cell? ⟨b, off + j * 5 + 1, none⟩ = some (.int .i64 d1) ∧ w'.cell? ⟨b, off + j * 5 + 2, none⟩ = some (.int .i64 b1) ∧ w'.cell? ⟨b, off + j * 5 + 3, none⟩ = some (.int .i64 k) ∧ w'.cell? ⟨b, off + j * 5 + 4, none⟩ = some (.slice av zs.length cv) ∧ w'.cell? ⟨b2, off2 + j * 5, none⟩ = some (.int .i64 o) ∧ w'.cell? ⟨b2, off2 + j * 5 + 1, none⟩ = some (.int .i64 d1) ∧ w'.cell? ⟨b2, off2 + j * 5 + 2, none⟩ = some (.int .i64 b1) ∧ w'.cell? ⟨b2, off2 + j * 5 + 3, none⟩ = some (.int .i64 k) ∧ w'.cell? ⟨b2, off2 + j * 5 + 4, none⟩ = some (.slice av2 zs.length cv2))
        (first | (exact ⟨(hbC.cell (p := ⟨b, off + j * 5, none⟩) zx).trans hw0, (hbC.cell (p := ⟨b, off + j * 5 + 1, none⟩) zx).trans hw1, (hbC.cell (p := ⟨b, off + j * 5 + 2, none⟩) zx).trans hw2, (hbC.cell (p := ⟨b, off + j * 5 + 3, none⟩) zx).trans hw3, (hbC.cell (p := ⟨b, off + j * 5 + 4, none⟩) zx).trans hw4, (hbC.cell (p := ⟨b2, off2 + j * 5, none⟩) zy).trans hu0, (hbC.cell (p := ⟨b2, off2 + j * 5 + 1, none⟩) zy).trans hu1, (hbC.cell (p := ⟨b2, off2 + j * 5 + 2, none⟩) zy).trans hu2, (hbC.cell (p := ⟨b2, off2 + j * 5 + 3, none⟩) zy).trans hu3, (hbC.cell (p := ⟨b2, off2 + j * 5 + 4, none⟩) zy).trans hu4⟩) | (exact ⟨hw0, hw1, hw2, hw3, hw4, hu0, hu1, hu2, hu3, hu4⟩) | go_keep)
        (first | (go_at_call 40; refine (eqCmd_same _ o d1 b1 k _ _ _ _ _ zs rfl (by exact (ints_rd r1.drew).1) (by exact (ints_rd r2.drew).1) hlen).mono ?_; rintro e wC ⟨rfl, hbC0⟩; have hbC : Below wr.heap.size wr wC := (Below.refl wr.heap.size wr).drew.trans hbC0))
      go_wp2
      go_roundw
      case rel => exact ⟨j + 1, by omega, by go_num, Below.andThen hb hbC⟩
      case measure => simp [intOf]; omega
    · go_wp2
      go_ret
      exact ⟨rfl, hb⟩

def cntCmd (x : CmdD) : Nat := 4 + x.2.2.2.2.length
def markCmd1 (k : Int) (x : CmdD) : CmdD := (k, k + 1, k + 1 + 1, k + 1 + 1 + 1, marks id (k + 1 + 1 + 1 + 1) x.2.2.2.2.length)
def marktCmdS (k0 : Int) (d : List CmdD) : List CmdD := markL cntCmd markCmd1 k0 d
def cnttCmdS (d : List CmdD) : Nat := sumL (d.map cntCmd)
theorem cnttCmdS_le (d : List CmdD) : cnttCmdS d ≤ 4 * wttCmdS d := by
  unfold cnttCmdS wttCmdS
  induction d with
  | nil => simp [sumL]
  | cons x d ih =>
    simp only [List.map_cons, sumL, List.foldr_cons, List.length_cons] at *
    unfold cntCmd at *
    omega

set_option maxHeartbeats 3200000 in
theorem markCmdS_fp (w : World) (a : Option Addr) (n cap : Nat) (d : List CmdD) (k0 : Int) (fp : List Nat) (h : (tCmdS 38).Mine w [.slice a n cap] d fp) (hw : wttCmdS d ≤ 2097152) (hk : 0 ≤ k0) (hk' : k0 + (cnttCmdS d : Int) ≤ 16777216) :
    Calls Tryz.prog 101 #[.slice a n cap, .int .i64 k0] w fun e w' => e = .returned (.int .i64 (k0 + (cnttCmdS d : Int))) ∧ (tCmdS 38).Mine w' [.slice a n cap] (marktCmdS k0 d) fp ∧ Turned fp w w' := by
  obtain ⟨hl, hc, hm⟩ := row_length h.rd
  have hmL : (marktCmdS k0 d).length = d.length := markL_length _ _ _ _
  have hnn : n ≤ 2097152 := by unfold wttCmdS at hw; omega
  go_enter Tryz.func101, Tryz.ntmps101
  go_wp2
  go_loopw [1, 5] (fun kk i wr => ∃ j : Nat, j ≤ n ∧ i = .int .i64 j ∧ kk = .int .i64 (k0 + (sumL ((d.map cntCmd).take j) : Int)) ∧ (tCmdS 38).Mine wr [.slice a n cap] ((marktCmdS k0 d).take j ++ d.drop j) fp ∧ Turned fp w wr) (fun _ i _ => n - (intOf i).toNat)
  case atStart => exact ⟨0, Nat.zero_le _, rfl, by simp [sumL], by simpa using h, Turned.refl _ _⟩
  case round =>
    obtain ⟨j, hj, rfl, rfl, ho, hb⟩ := hrel
    by_cases hjn : j < n
    · obtain ⟨o, d1, b1, k, zs, hdj⟩ : ∃ o d1 b1 k zs, d[j]? = some (o, d1, b1, k, zs) := ⟨_, _, _, _, _, List.getElem?_eq_getElem (by omega)⟩
      have hin := cmd_inner hdj
      have hlen : zs.length ≤ 2097152 := by unfold wttCmdS at hw; simp only at hin; omega
      have hst := sumL_take (l := d.map cntCmd) (j := j) (x := 4 + zs.length) (by rw [List.getElem?_map, hdj]; rfl)
      have hle := sumL_le (l := d.map cntCmd) (j + 1)
      unfold cnttCmdS at hk'
      have HM := hidden (turn_step hmL (markL_at (c := cntCmd) (mk := markCmd1) (k := k0) hdj))
      have hat := turn_at (m := marktCmdS k0 d) hmL hdj
      have HW := hidden hst
      generalize sumL ((d.map cntCmd).take j) = S at hst HM HW
      have hS : k0 + (S : Int) + 4 + zs.length ≤ 16777216 := by omega
      rcases row_ow_shape ho with h0' | ⟨g, rfl⟩
      · omega
      obtain ⟨cs1, f1, ow1, hgf, hgp, hf1, hcc, hfz, _, back⟩ := row_open ho hat
      obtain ⟨v0, v1, v2, v3, v4, rfl⟩ : ∃ v0 v1 v2 v3 v4, cs1 = [v0, v1, v2, v3, v4] := by
        match cs1, tCmd.rdLen (tCmd.owRd ow1.1) with
        | [v0, v1, v2, v3, v4], _ => exact ⟨v0, v1, v2, v3, v4, rfl⟩
      obtain ⟨rfl, m0⟩ := int_mine ow1
      obtain ⟨rfl, m1⟩ := int_mine m0
      obtain ⟨rfl, m2⟩ := int_mine m1
      obtain ⟨rfl, m3⟩ := int_mine m2
      obtain ⟨av, cv, rfl⟩ := row_shape m3.rd
      have hc0 : wr.cell? ⟨g, j * 5, none⟩ = some (.int .i64 o) := hcc 0 (by show 0 < 5; omega)
      have hc1 : wr.cell? ⟨g, j * 5 + 1, none⟩ = some (.int .i64 d1) := hcc 1 (by show 1 < 5; omega)
      have hc2 : wr.cell? ⟨g, j * 5 + 2, none⟩ = some (.int .i64 b1) := hcc 2 (by show 2 < 5; omega)
      have hc3 : wr.cell? ⟨g, j * 5 + 3, none⟩ = some (.int .i64 k) := hcc 3 (by show 3 < 5; omega)
      have hc4 : wr.cell? ⟨g, j * 5 + 4, none⟩ = some (.slice av zs.length cv) := hcc 4 (by show 4 < 5; omega)
      have hlt := ho.lt
      have hfq := hfz
      have hT1 : Turned [g] wr ((((wr.setCell ⟨g, j * 5, none⟩ (.int .i64 (k0 + (S : Int)))).setCell ⟨g, j * 5 + 1, none⟩ (.int .i64 (k0 + (S : Int) + 1))).setCell ⟨g, j * 5 + 2, none⟩ (.int .i64 (k0 + (S : Int) + 1 + 1))).setCell ⟨g, j * 5 + 3, none⟩ (.int .i64 (k0 + (S : Int) + 1 + 1 + 1))) := setCells_turned [.int .i64 (k0 + (S : Int)), .int .i64 (k0 + (S : Int) + 1), .int .i64 (k0 + (S : Int) + 1 + 1), .int .i64 (k0 + (S : Int) + 1 + 1 + 1)] (j * 5) wr
      have hmv1 := m3.kept hT1 (fun b hb hb' => hgf (by simp at hb'; exact hb' ▸ hb))
      have HBK := hidden back
      have HOW := hidden hmv1
      have HT1 := hidden hT1
      have HLT := hidden hlt
      have HCL := hidden hc4
      clear hcc back ow1 m0 m1 m2 m3 hat hdj ho hst hmv1 hT1 hlt hfz hin
      go_wp2_with fail
      refine (markIntS_fp _ _ _ _ zs _ f1 HOW.out (by omega) (by omega) (by omega)).mono ?_
      rintro e w2 ⟨rfl, o2, hb2⟩
      have hsz : ((((wr.setCell ⟨g, j * 5, none⟩ (.int .i64 (k0 + (S : Int)))).setCell ⟨g, j * 5 + 1, none⟩ (.int .i64 (k0 + (S : Int) + 1))).setCell ⟨g, j * 5 + 2, none⟩ (.int .i64 (k0 + (S : Int) + 1 + 1))).setCell ⟨g, j * 5 + 3, none⟩ (.int .i64 (k0 + (S : Int) + 1 + 1 + 1))).heap.size = wr.heap.size := setCells_size (g := g) [.int .i64 (k0 + (S : Int)), .int .i64 (k0 + (S : Int) + 1), .int .i64 (k0 + (S : Int) + 1 + 1), .int .i64 (k0 + (S : Int) + 1 + 1 + 1)] (j * 5) wr
      have hglt : g < wr.heap.size := HLT.out g hgp
      have hO := HBK.out w2 [.int .i64 (k0 + (S : Int)), .int .i64 (k0 + (S : Int) + 1), .int .i64 (k0 + (S : Int) + 1 + 1), .int .i64 (k0 + (S : Int) + 1 + 1 + 1), .slice av zs.length cv] (k0 + (S : Int), k0 + (S : Int) + 1, k0 + (S : Int) + 1 + 1, k0 + (S : Int) + 1 + 1 + 1, marks id (k0 + (S : Int) + 1 + 1 + 1 + 1) zs.length)
        (int_mine_of (int_mine_of (int_mine_of (int_mine_of (o2)))))
        (fun b hb hbf hbg => (hb2.block b (by rw [hsz]; exact HLT.out b hb) hbf).trans (HT1.out.block b (HLT.out b hb) (by simpa using hbg)))
        (Nat.le_trans HT1.out.size hb2.size)
        (fun cur hcur hcs hnc => by
          have hcs' : cur.size = cap * 5 := hcs
          have hfit : j * 5 + 4 ≤ cur.size := by omega
          obtain ⟨cur', k1, k2, k3⟩ := setCells_row (E := 38) [.int .i64 (k0 + (S : Int)), .int .i64 (k0 + (S : Int) + 1), .int .i64 (k0 + (S : Int) + 1 + 1), .int .i64 (k0 + (S : Int) + 1 + 1 + 1)] (j * 5) wr cur hcur hfit
          refine ⟨cur', (hb2.block g (by rw [hsz]; exact hglt) hgf).trans k1, k2, fun k => ?_⟩
          have k3' : cur'.toList[k]? = if j * 5 ≤ k ∧ k < j * 5 + 4 then ([.int .i64 (k0 + (S : Int)), .int .i64 (k0 + (S : Int) + 1), .int .i64 (k0 + (S : Int) + 1 + 1), .int .i64 (k0 + (S : Int) + 1 + 1 + 1)] : List Value)[k - j * 5]? else cur.toList[k]? := k3 k
          show cur'.toList[k]? = if j * 5 ≤ k ∧ k < (j + 1) * 5 then ([.int .i64 (k0 + (S : Int)), .int .i64 (k0 + (S : Int) + 1), .int .i64 (k0 + (S : Int) + 1 + 1), .int .i64 (k0 + (S : Int) + 1 + 1 + 1), .slice av zs.length cv] : List Value)[k - j * 5]? else cur.toList[k]?
          rw [k3']
          by_cases h5 : k = j * 5 + 4
          · subst h5
            rw [if_neg (by omega), if_pos (by omega), Nat.add_sub_cancel_left]
            have := HCL.out
            rw [cell_of_row wr g _ cur _ (0, 0) hcur] at this
            rw [Array.getElem?_toList, this]
            rfl
          · by_cases h6 : j * 5 ≤ k ∧ k < j * 5 + 4
            · rw [if_pos h6, if_pos (by omega)]
              have hq : k - j * 5 < 4 := by omega
              exact (List.getElem?_append_left (l₁ := ([.int .i64 (k0 + (S : Int)), .int .i64 (k0 + (S : Int) + 1), .int .i64 (k0 + (S : Int) + 1 + 1), .int .i64 (k0 + (S : Int) + 1 + 1 + 1)] : List Value)) (l₂ := [.slice av zs.length cv]) hq).symm
            · rw [if_neg h6, if_neg (by omega)])
      have e2 : markCmd1 (k0 + (S : Int)) (o, d1, b1, k, zs) = (k0 + (S : Int), k0 + (S : Int) + 1, k0 + (S : Int) + 1 + 1, k0 + (S : Int) + 1 + 1 + 1, marks id (k0 + (S : Int) + 1 + 1 + 1 + 1) zs.length) := rfl
      rw [← e2, HM.out] at hO
      have HO := hidden hO
      have HB := (hb.trans (HT1.out.mono (by simpa using hgp))).trans (hb2.mono hf1)
      clear hO o2 hb2 HBK hb e2 hsz HT1 HLT HCL
      go_wp2
      go_roundw
      case rel => exact ⟨j + 1, by omega, by go_num, by rw [HW.out]; go_num, HO.out, HB⟩
      case measure => simp [intOf]; omega
    · go_wp2
      go_ret
      have e : j = n := by omega
      subst e
      have ht : (d.map cntCmd).take j = d.map cntCmd := List.take_of_length_le (by simp; omega)
      rw [List.take_of_length_le (by omega), List.drop_of_length_le (by omega), List.append_nil] at ho
      exact ⟨ret_int (by rw [ht]; rfl), ho, hb⟩

end Go.Proofs.YtbkkjfgjlapadaaGreat

/-
  The walks of the laws' helpers over slices of stripes as they are to be (a number and words): what is left of a bound, the copy, the comparison. Condition: they weigh at most 1048576 (2097152 for the comparison).
-/
import Derived.Test.YtbkkjfgjlapadaaGreatWalkSz
import Derived.Test.YtbkkjfgjlapadaaGreatWalkTo
import Derived.Test.YtbkkjfgjlapadaaGreatWalkEq
import Derived.Test.YtbkkjfgjlapadaaGreatWalkMark
namespace Go.Proofs.YtbkkjfgjlapadaaGreat
open Go.RowKit

theorem szEnt_any (w : World) (x : Int) (a : Option Addr) (n cap : Nat) (left : Int) (hn : n ≤ 9223372036854775807) (h0 : 0 ≤ left) (h1 : left ≤ 1048576) :
    Calls Tryz.prog 228 #[.agg #[.int .i64 x, .slice a n cap], .int .i64 left] w fun e w' => e = .returned (.int .i64 (leftOf left n)) ∧ Below w.heap.size w w' := by
  by_cases h : (n : Int) ≤ left
  · have hq := leftOf_pos h
    go_enter Tryz.func228, Tryz.ntmps228
    go_wp2_with fail
    refine (szIntS_any _ _ _ _ _ hn h0 h1).mono ?_
    rintro e w1 ⟨rfl, rfl⟩
    go_wp2
    go_ret
    exact ⟨ret_int (by omega), (Below.refl _ _).alloc (Nat.le_refl _) _⟩
  · have hq := leftOf_neg (left := left) (wt := n) (by omega)
    go_enter Tryz.func228, Tryz.ntmps228
    go_wp2_with fail
    refine (szIntS_any _ _ _ _ _ hn h0 h1).mono ?_
    rintro e w1 ⟨rfl, rfl⟩
    go_wp2
    go_ret
    exact ⟨ret_int (by omega), (Below.refl _ _).alloc (Nat.le_refl _) _⟩

set_option maxHeartbeats 800000 in
theorem szEntS_any (w : World) (E : TypeId) (a : Option Addr) (n cap : Nat) (d : List (Int × List Int)) (left : Int) (h : (tWrS E).Rd w [.slice a n cap] d) (h0 : 0 ≤ left) (h1 : left ≤ 1048576) :
    Calls Tryz.prog 163 #[.slice a n cap, .int .i64 left] w fun e w' => e = .returned (.int .i64 (leftOf left (wtWrS d))) ∧ Below w.heap.size w w' := by
  obtain ⟨hl, hc, hm⟩ := row_length h
  by_cases hlt : (n : Int) ≤ left
  · go_enter Tryz.func163, Tryz.ntmps163
    go_wp2
    go_loopw [1, 5] (fun l i wr => ∃ j : Nat, j ≤ n ∧ i = .int .i64 j ∧ l = .int .i64 (left - n - (sumL ((d.map fun x => x.2.length).take j) : Int)) ∧ (sumL ((d.map fun x => x.2.length).take j) : Int) ≤ left - n ∧ Below w.heap.size w wr) (fun _ i _ => n - (intOf i).toNat)
    case atStart => exact ⟨0, Nat.zero_le _, rfl, by simp [sumL], by simp [sumL]; omega, Below.refl _ _⟩
    case round =>
      obtain ⟨j, hj, rfl, rfl, hs, hb⟩ := hrel
      by_cases hjn : j < n
      · rcases pairs_at rfl h with h0' | ⟨b, off, rfl, hbl, hcs⟩
        · omega
        have hdj : d[j]? = some (d[j]'(by omega)) := List.getElem?_eq_getElem (by omega)
        generalize d[j]'(by omega) = x at hdj
        obtain ⟨v0, v1, hv0, hv1, hrv⟩ := hcs j x hdj
        obtain ⟨rfl, hrw⟩ := wr_rd hrv
        obtain ⟨av, cv, rfl⟩ := row_shape hrw
        obtain ⟨_, hxc, hxm⟩ := row_length hrw
        have hw0 := (hb.cell (p := ⟨b, off + j * 2, none⟩) hbl).trans hv0
        have hw1 := (hb.cell (p := ⟨b, off + j * 2 + 1, none⟩) hbl).trans hv1
        have hst := sumL_take (l := d.map fun x => x.2.length) (j := j) (x := x.2.length) (by rw [List.getElem?_map, hdj]; rfl)
        obtain ⟨x0, x1⟩ := x
        simp only at hw0 hw1 hxc hxm hst
        have HW : Hid (sumL ((d.map fun x => x.2.length).take (j + 1)) = sumL ((d.map fun x => x.2.length).take j) + x1.length) := hst
        have hle := sumL_le (l := d.map fun x => x.2.length) (j + 1)
        have HE : Hid (wtWrS d = n + sumL (d.map fun x => x.2.length)) := by unfold Hid wtWrS; rw [hl]
        generalize hS : sumL ((d.map fun x => x.2.length).take j) = S at hs HW
        generalize hT : sumL (d.map fun x => x.2.length) = T at hle HE
        clear hcs hst hS hT hdj hv0 hv1 hrv hrw
        by_cases hx : (x1.length : Int) ≤ left - n - S
        · have hq := leftOf_pos hx
          go_wp2_with fail
          refine (szEnt_any _ _ _ _ _ _ (by omega) (by omega) (by omega)).mono ?_
          rintro e w1 ⟨rfl, hb1⟩
          have hB := Below.andThen hb hb1
          go_wp2
          go_roundw
          case rel => exact ⟨j + 1, by omega, by go_num, by rw [HW.out]; go_num, by rw [HW.out]; omega, hB⟩
          case measure => simp [intOf]; omega
        · have hq := leftOf_neg (left := left - n - (S : Int)) (wt := x1.length) (by omega)
          have hgt : left < ((wtWrS d : Nat) : Int) := by rw [HE.out]; have := HW.out; omega
          go_wp2_with fail
          refine (szEnt_any _ _ _ _ _ _ (by omega) (by omega) (by omega)).mono ?_
          rintro e w1 ⟨rfl, hb1⟩
          have hB := Below.andThen hb hb1
          go_wp2
          go_ret
          exact ⟨ret_int (leftOf_neg (by omega)).symm, hB⟩
      · go_wp2
        go_ret
        have e : j = n := by omega
        subst e
        have ht : (d.map fun x => x.2.length).take j = d.map fun x => x.2.length := List.take_of_length_le (by simp; omega)
        rw [ht] at hs
        refine ⟨ret_int ?_, hb⟩
        rw [ht, leftOf_pos (by unfold wtWrS; omega)]
        unfold wtWrS
        omega
  · have hgt : left < ((wtWrS d : Nat) : Int) := by unfold wtWrS; omega
    go_enter Tryz.func163, Tryz.ntmps163
    go_wp2
    go_ret
    exact ⟨ret_int (leftOf_neg (by omega)).symm, Below.refl _ _⟩

theorem Tryz.infoEnt : (Tryz.prog.info? 162).map (fun i => (i.zero, i.size, i.bytes)) = some (some (.agg #[.int .i64 0, .slice none 0 0]), 2, 32) := by kernel_rfl

set_option maxHeartbeats 800000 in
theorem toEnt_any (w : World) (x : Int) (a : Option Addr) (n cap : Nat) (zs : List Int) (h : tIntS.Rd w [.slice a n cap] zs) (hn : n ≤ 1048576) :
    Calls Tryz.prog 230 #[.agg #[.int .i64 x, .slice a n cap]] w fun e w' => ∃ g, e = .returned (.agg #[.int .i64 x, .slice (some ⟨g, 0, none⟩) n n]) ∧ tWr.Own w' w.heap.size w'.heap.size [.int .i64 x, .slice (some ⟨g, 0, none⟩) n n] (x, zs) ∧ Below w.heap.size w w' := by
  obtain ⟨hr, hl, _, _⟩ := ints_rd h
  go_enter Tryz.func230, Tryz.ntmps230
  have hA : Below w.heap.size w (((w.alloc (.cells #[.int .i64 x, .slice a n cap] 230)).alloc (.cells #[.int .i64 0, .slice none 0 0] 162)).alloc (.cells #[.int .i64 x, .slice none 0 0] 162)) :=
    (((Below.refl _ _).alloc (Nat.le_refl _) _).alloc (by simp) _).alloc (by simp; omega) _
  have hr3 := hr.below hA
  go_wp2_with fail
  refine (toIntS_any _ _ _ _ zs hl hr3 (by omega)).mono ?_
  rintro e w4 ⟨rfl, ho4, hb4⟩
  obtain ⟨hc, hf⟩ := bcell hb4
  have hz : w.heap.size + 1 + 1 < w4.heap.size := by have := hb4.size; simp at this; omega
  have HO := own_ints ho4
  have HB := hA.trans (hb4.mono (by simp; omega))
  have e3 : (((w.alloc (.cells #[.int .i64 x, .slice a n cap] 230)).alloc (.cells #[.int .i64 0, .slice none 0 0] 162)).alloc (.cells #[.int .i64 x, .slice none 0 0] 162)).heap.size = w.heap.size + 1 + 1 + 1 := by simp
  rw [e3] at HO
  have HO' := hidden HO
  clear HO ho4 hb4 hA hr3 e3
  go_wp2
  have hbt : But w.heap.size (w.heap.size + 1 + 1 + 1) w4 (((w4.setCell ⟨w.heap.size + 1 + 1, 1, none⟩ (.slice (some ⟨w.heap.size + 1 + 1 + 1, 0, none⟩) n n)).setCell ⟨w.heap.size + 1, 0, none⟩ (.int .i64 x)).setCell ⟨w.heap.size + 1, 1, none⟩ (.slice (some ⟨w.heap.size + 1 + 1 + 1, 0, none⟩) n n)) :=
    ((But.setCell (by omega) (by omega) _).trans (But.setCell (by omega) (by omega) _)).trans (But.setCell (by omega) (by omega) _)
  have hO := HO'.out.but hbt (.inr (Nat.le_refl _))
  have hB := Below.andBut HB hbt (Nat.le_refl _)
  have hS := hbt.size
  refine bodyPost_ret (v := .agg #[.int .i64 x, .slice (some ⟨w.heap.size + 1 + 1 + 1, 0, none⟩) n n]) (by simp [results, Tryz.results230, go_sem, hc]) rfl ⟨_, rfl, ?_, hB⟩
  exact pair_own_of (t := intTy) (int_own _ _ _ _) (hO.widen (lo' := w.heap.size) (by omega) hS) (Nat.le_refl _) (by simp; omega)

set_option maxHeartbeats 800000 in
theorem toEntS_any (w : World) (E : TypeId) (a : Option Addr) (n cap : Nat) (d : List (Int × List Int)) (h : (tWrS E).Rd w [.slice a n cap] d) (hw : wtWrS d ≤ 1048576) :
    Calls Tryz.prog 169 #[.slice a n cap] w fun e w' => e = .returned (.slice (some ⟨w.heap.size, 0, none⟩) n n) ∧ (tWrS 162).Own w' w.heap.size w'.heap.size [.slice (some ⟨w.heap.size, 0, none⟩) n n] d ∧ Below w.heap.size w w' := by
  obtain ⟨hl, hc, hm⟩ := row_length h
  obtain ⟨i0, hi, hz0, hz1, hz2⟩ := info_parts Tryz.infoEnt
  have hn : n ≤ 1048576 := by unfold wtWrS at hw; omega
  have hb3 : i0.bytes * n ≤ 281474976710656 := by rw [hz2]; omega
  have hm3 : n ≤ maxLen := by unfold maxLen; omega
  go_enter Tryz.func169, Tryz.ntmps169
  go_wp2_with (at_make; refine wpList_make_full _ rfl _ _ 27 rfl w.heap.size 162 i0 (.agg #[.int .i64 0, .slice none 0 0]) 2 Tryz.underlying27 hi hz0 hz1 _ _ _ _ n rfl rfl rfl rfl hb3 hm3 (Nat.le_refl _) ?_; intro w1 hown hgrow)
  have hO := row_made (t := tWr) (z := (0, [])) hown (by omega) rfl (fun _ => ⟨[], [], rfl, ⟨rfl, rfl⟩, .inl ⟨rfl, rfl, rfl⟩, rfl⟩)
  have hB1 : Below w.heap.size w w1 := (Below.refl _ _).grown hgrow (Nat.le_refl _) (by simp)
  clear hown hgrow
  go_loopw [4] (fun i wr => ∃ j : Nat, j ≤ n ∧ i = .int .i64 j ∧ (tWrS 162).Own wr w.heap.size wr.heap.size [.slice (some ⟨w.heap.size, 0, none⟩) n n] (d.take j ++ List.replicate (n - j) (0, [])) ∧ Below w.heap.size w wr) (fun i _ => n - (intOf i).toNat)
  case atStart => exact ⟨0, Nat.zero_le _, rfl, by simpa using hO, hB1⟩
  case round =>
    clear hO hB1
    obtain ⟨j, hj, rfl, ho, hb⟩ := hrel
    by_cases hjn : j < n
    · rcases pairs_at rfl h with h0' | ⟨b, off, rfl, hbl, hcs⟩
      · omega
      have hdj : d[j]? = some (d[j]'(by omega)) := List.getElem?_eq_getElem (by omega)
      have hlen : (d[j]'(by omega)).2.length ≤ 1048576 := by
        have h1 := sumL_take (l := d.map fun x => x.2.length) (j := j) (x := (d[j]'(by omega)).2.length) (by rw [List.getElem?_map, hdj]; rfl)
        have h2 := sumL_le (l := d.map fun x => x.2.length) (j + 1)
        unfold wtWrS at hw
        omega
      have HS := copied_step' d (0, []) _ j hdj
      generalize d[j]'(by omega) = x at hdj hlen HS
      rw [hl] at HS
      have HS' : Hid _ := HS
      obtain ⟨v0, v1, hv0, hv1, hrv⟩ := hcs j x hdj
      obtain ⟨rfl, hrw⟩ := wr_rd hrv
      obtain ⟨av, cv, rfl⟩ := row_shape hrw
      have hw0 := (hb.cell (p := ⟨b, off + j * 2, none⟩) hbl).trans hv0
      have hw1 := (hb.cell (p := ⟨b, off + j * 2 + 1, none⟩) hbl).trans hv1
      have hrr := hrw.below hb
      obtain ⟨x0, x1⟩ := x
      simp only at hw0 hw1 hlen hrr
      clear hcs hdj HS hv0 hv1 hrv hrw
      go_wp2_with fail
      refine (toEnt_any _ _ _ _ _ x1 hrr (by omega)).mono ?_
      rintro e w2 ⟨g2, rfl, ho2, hb2⟩
      have s2 := hb2.size
      obtain ⟨⟨old0, hcy0⟩, ⟨old1, hcy1⟩, hfy0, hfy1, hst, hbt⟩ := row_store2 rfl (ho.below hb2) hjn ho2 (Nat.le_refl _) s2
      rw [HS'.out] at hst
      have HST := hidden hst
      have HB := Below.andThen hb hb2
      clear ho ho2 hb2 hst hbt hb
      go_wp2
      go_roundw
      case rel => exact ⟨j + 1, by omega, by go_num, by first | exact HST.out | (simp only [World.size_setCell]; exact HST.out), (HB.setCell (p := ⟨w.heap.size, j * 2, none⟩) (Nat.le_refl _) _).setCell (p := ⟨w.heap.size, j * 2 + 1, none⟩) (Nat.le_refl _) _⟩
      case measure => simp [intOf]; omega
    · go_wp2
      go_ret
      have e : j = n := by omega
      subst e
      rw [Nat.sub_self, List.replicate_zero, List.append_nil, List.take_of_length_le (by omega)] at ho
      exact ⟨rfl, ho, hb⟩

set_option maxHeartbeats 800000 in
theorem eqEnt_any (w : World) (x y : Int) (a b : Option Addr) (la lb ca cb : Nat) (zs us : List Int) (h : tIntS.Rd w [.slice a la ca] zs) (h' : tIntS.Rd w [.slice b lb cb] us) (hla : la ≤ 2097152) :
    Calls Tryz.prog 232 #[.agg #[.int .i64 x, .slice a la ca], .agg #[.int .i64 y, .slice b lb cb]] w fun e w' => e = .returned (.bool (sameB (x, zs) (y, us))) ∧ Below w.heap.size w w' := by
  have hA : Below w.heap.size w ((w.alloc (.cells #[.int .i64 x, .slice a la ca] 162)).alloc (.cells #[.int .i64 y, .slice b lb cb] 162)) := ((Below.refl _ _).alloc (Nat.le_refl _) _).alloc (by simp) _
  obtain ⟨r1, hl, _, _⟩ := ints_rd (h.below hA)
  obtain ⟨r2, hl', _, _⟩ := ints_rd (h'.below hA)
  by_cases hxy : x = y
  · subst hxy
    go_enter Tryz.func232, Tryz.ntmps232
    go_wp2_with fail
    refine (eqIntS_any _ _ _ _ _ _ _ zs us hl hl' r1 r2 hla).mono ?_
    rintro e w1 ⟨rfl, hs1⟩
    have hB := Below.andSame hA hs1
    by_cases hz : zs = us
    · have hde : decide (zs = us) = true := by simpa using hz
      have HZ := hidden hz
      clear hz
      go_wp2
      go_ret
      exact ⟨ret_bool (by rw [HZ.out, sameB_self]), hB⟩
    · have hde : decide (zs = us) = false := by simpa using hz
      go_wp2
      go_ret
      exact ⟨ret_bool (sameB_not (by simpa using hz)).symm, hB⟩
  · have hne : (x == y) = false := by simpa using hxy
    go_enter Tryz.func232, Tryz.ntmps232
    go_wp2
    go_ret
    exact ⟨ret_bool (sameB_not (by simp [hxy])).symm, hA⟩

set_option maxHeartbeats 1600000 in
theorem eqEntS_any (w : World) (E E' : TypeId) (a b : Option Addr) (la lb ca cb : Nat) (d d' : List (Int × List Int)) (h : (tWrS E).Rd w [.slice a la ca] d) (h' : (tWrS E').Rd w [.slice b lb cb] d') (hw : wtWrS d ≤ 2097152) :
    Calls Tryz.prog 175 #[.slice a la ca, .slice b lb cb] w fun e w' => e = .returned (.bool (decide (d = d'))) ∧ Below w.heap.size w w' := by
  obtain ⟨hl, hc, hm⟩ := row_length h
  obtain ⟨hl', hc', hm'⟩ := row_length h'
  have hla : la ≤ 2097152 := by unfold wtWrS at hw; omega
  by_cases hlen : la = lb
  · subst hlen
    go_enter Tryz.func175, Tryz.ntmps175
    go_wp2
    go_loopw [5] (fun i wr => ∃ j : Nat, j ≤ la ∧ i = .int .i64 j ∧ d.take j = d'.take j ∧ Below w.heap.size w wr) (fun i _ => la - (intOf i).toNat)
    case atStart => exact ⟨0, Nat.zero_le _, rfl, rfl, Below.refl _ _⟩
    case round =>
      obtain ⟨j, hj, rfl, ht, hb⟩ := hrel
      by_cases hjn : j < la
      · rcases pairs_at rfl h with h0' | ⟨bx, ox, rfl, hbx, hcx⟩
        · omega
        rcases pairs_at rfl h' with h0' | ⟨bY, oy, rfl, hby, hcy⟩
        · omega
        have hdj : d[j]? = some (d[j]'(by omega)) := List.getElem?_eq_getElem (by omega)
        have hdj' : d'[j]? = some (d'[j]'(by omega)) := List.getElem?_eq_getElem (by omega)
        generalize d[j]'(by omega) = x at hdj
        generalize d'[j]'(by omega) = y at hdj'
        have hal := heads_alike' hdj hdj'
        have hil := inner_le' hdj
        obtain ⟨v0, v1, hv0, hv1, hrv⟩ := hcx j x hdj
        obtain ⟨rfl, hrv'⟩ := wr_rd hrv
        obtain ⟨av, cv, rfl⟩ := row_shape hrv'
        obtain ⟨u0, u1, hu0, hu1, hru⟩ := hcy j y hdj'
        obtain ⟨rfl, hru'⟩ := wr_rd hru
        obtain ⟨au, cu, rfl⟩ := row_shape hru'
        have hw0 := (hb.cell (p := ⟨bx, ox + j * 2, none⟩) hbx).trans hv0
        have hw1 := (hb.cell (p := ⟨bx, ox + j * 2 + 1, none⟩) hbx).trans hv1
        have hw2 := (hb.cell (p := ⟨bY, oy + j * 2, none⟩) hby).trans hu0
        have hw3 := (hb.cell (p := ⟨bY, oy + j * 2 + 1, none⟩) hby).trans hu1
        have r1 := hrv'.below hb
        have r2 := hru'.below hb
        have zx : bx < wr.heap.size := Nat.lt_of_lt_of_le hbx hb.size
        have zy : bY < wr.heap.size := Nat.lt_of_lt_of_le hby hb.size
        have i1 : (0 : Int) ≤ (j : Int) := by omega
        have i2 : (j : Int) < (la : Int) := by omega
        have HT := hidden ht
        obtain ⟨x0, x1⟩ := x
        obtain ⟨y0, y1⟩ := y
        simp only at hw0 hw1 hw2 hw3 r1 r2 hil
        clear hcx hcy hdj hdj' hv0 hv1 hu0 hu1 hrv hru hrv' hru' ht
        by_cases hxy : (x0, x1) = (y0, y1)
        · obtain ⟨rfl, rfl⟩ : x0 = y0 ∧ x1 = y1 := by simpa using hxy
          have HD := hidden (hal.1 rfl HT.out)
          have hde := sameB_self (x0, x1)
          clear hal hxy
          go_wp2_with fail
          go_region_held3 (fun w' => w'.cell? ⟨bx, ox + j * 2, none⟩ = some (.int .i64 x0) ∧ w'.cell? ⟨bx, ox + j * 2 + 1, none⟩ = some (.slice av x1.length cv) ∧ w'.cell? ⟨bY, oy + j * 2, none⟩ = some (.int .i64 x0) ∧ w'.cell? ⟨bY, oy + j * 2 + 1, none⟩ = some (.slice au x1.length cu))
            (first | (exact ⟨(hbC.cell (p := ⟨bx, ox + j * 2, none⟩) zx).trans hw0, (hbC.cell (p := ⟨bx, ox + j * 2 + 1, none⟩) zx).trans hw1, (hbC.cell (p := ⟨bY, oy + j * 2, none⟩) zy).trans hw2, (hbC.cell (p := ⟨bY, oy + j * 2 + 1, none⟩) zy).trans hw3⟩) | (exact ⟨hw0, hw1, hw2, hw3⟩) | go_keep)
            (first | (go_at_call 232; refine (eqEnt_any _ _ _ _ _ _ _ _ _ x1 x1 (by exact r1.drew) (by exact r2.drew) (by omega)).mono ?_; rintro e wC ⟨rfl, hbC0⟩; have hbC : Below wr.heap.size wr wC := (Below.refl wr.heap.size wr).drew.trans hbC0))
          go_wp2
          go_roundw
          case rel => exact ⟨j + 1, by omega, by go_num, HD.out, Below.andThen hb hbC⟩
          case measure => simp [intOf]; omega
        · have HN := hidden (hal.2 hxy)
          have hde := sameB_not hxy
          clear hal hxy
          go_wp2_with fail
          go_region_held3 (fun w' => w'.cell? ⟨bx, ox + j * 2, none⟩ = some (.int .i64 x0) ∧ w'.cell? ⟨bx, ox + j * 2 + 1, none⟩ = some (.slice av x1.length cv) ∧ w'.cell? ⟨bY, oy + j * 2, none⟩ = some (.int .i64 y0) ∧ w'.cell? ⟨bY, oy + j * 2 + 1, none⟩ = some (.slice au y1.length cu))
            (first | (exact ⟨(hbC.cell (p := ⟨bx, ox + j * 2, none⟩) zx).trans hw0, (hbC.cell (p := ⟨bx, ox + j * 2 + 1, none⟩) zx).trans hw1, (hbC.cell (p := ⟨bY, oy + j * 2, none⟩) zy).trans hw2, (hbC.cell (p := ⟨bY, oy + j * 2 + 1, none⟩) zy).trans hw3⟩) | (exact ⟨hw0, hw1, hw2, hw3⟩) | go_keep)
            (first | (go_at_call 232; refine (eqEnt_any _ _ _ _ _ _ _ _ _ x1 y1 (by exact r1.drew) (by exact r2.drew) (by omega)).mono ?_; rintro e wC ⟨rfl, hbC0⟩; have hbC : Below wr.heap.size wr wC := (Below.refl wr.heap.size wr).drew.trans hbC0))
          go_wp2
          go_ret
          exact ⟨ret_bool (by have := HN.out; simpa using this), Below.andThen hb hbC⟩
      · go_wp2
        go_ret
        have e : j = la := by omega
        subst e
        rw [List.take_of_length_le (by omega), List.take_of_length_le (by omega)] at ht
        exact ⟨ret_bool (by simp [ht]), hb⟩
  · have hne : ((la : Int) == (lb : Int)) = false := by simp; omega
    go_enter Tryz.func175, Tryz.ntmps175
    go_wp2
    go_ret
    exact ⟨ret_bool (by simp; intro e; apply hlen; rw [← hl, ← hl', e]), Below.refl _ _⟩

set_option maxHeartbeats 1600000 in
theorem markEntS_fp (w : World) (a : Option Addr) (n cap : Nat) (d : List (Int × List Int)) (k0 : Int) (fp : List Nat) (h : (tWrS 162).Mine w [.slice a n cap] d fp) (hw : wtWrS d ≤ 2097152) (hk : 0 ≤ k0) (hk' : k0 + (wtWrS d : Int) ≤ 2097153) :
    Calls Tryz.prog 180 #[.slice a n cap, .int .i64 k0] w fun e w' => e = .returned (.int .i64 (k0 + (cntWS d : Int))) ∧ (tWrS 162).Mine w' [.slice a n cap] (markW k0 d) fp ∧ Turned fp w w' := by
  obtain ⟨hl, hc, hm⟩ := row_length h.rd
  have hmL : (markW k0 d).length = d.length := markL_length _ _ _ _
  have hnn : n ≤ 2097152 := by unfold wtWrS at hw; omega
  have hwt := cntWS_wt d
  go_enter Tryz.func180, Tryz.ntmps180
  go_wp2
  go_loopw [1, 5] (fun kk i wr => ∃ j : Nat, j ≤ n ∧ i = .int .i64 j ∧ kk = .int .i64 (k0 + (sumL ((d.map cntW).take j) : Int)) ∧ (tWrS 162).Mine wr [.slice a n cap] ((markW k0 d).take j ++ d.drop j) fp ∧ Turned fp w wr) (fun _ i _ => n - (intOf i).toNat)
  case atStart => exact ⟨0, Nat.zero_le _, rfl, by simp [sumL], by simpa using h, Turned.refl _ _⟩
  case round =>
    obtain ⟨j, hj, rfl, rfl, ho, hb⟩ := hrel
    by_cases hjn : j < n
    · have hdj : d[j]? = some (d[j]'(by omega)) := List.getElem?_eq_getElem (by omega)
      generalize d[j]'(by omega) = x at hdj
      have hst := sumL_take (l := d.map cntW) (j := j) (x := cntW x) (by rw [List.getElem?_map, hdj]; rfl)
      have hle := sumL_le (l := d.map cntW) (j + 1)
      unfold cntWS at hwt
      have HM := hidden (turn_step hmL (markL_at (c := cntW) (mk := markW1) (k := k0) hdj))
      have hat := turn_at (m := markW k0 d) hmL hdj
      have HW := hidden hst
      generalize sumL ((d.map cntW).take j) = S at hst HM HW
      have hcx : cntW x = 1 + x.2.length := rfl
      have hS : S + 1 + x.2.length ≤ 2097152 := by omega
      have hS2 : k0 + (S : Int) ≤ 2097153 := by omega
      rcases row_ow_shape ho with h0' | ⟨g, rfl⟩
      · omega
      obtain ⟨cs1, f1, ow1, hgf, hgp, hf1, hcc, hfz, _, back⟩ := row_open ho hat
      have hcl := tWr.rdLen (tWr.owRd ow1.1)
      obtain ⟨v0, v1, rfl⟩ : ∃ v0 v1, cs1 = [v0, v1] := by
        match cs1, hcl with
        | [v0, v1], _ => exact ⟨v0, v1, rfl⟩
      obtain ⟨x0, x1⟩ := x
      obtain ⟨fa, fb, hfe, ⟨⟨hv0, hfa⟩, _⟩, hmv, _⟩ := pair_mine (t := intTy) (u := tIntS) (vs := [v0]) (us := [v1]) rfl ow1
      simp at hv0
      subst hv0
      subst hfa
      rw [List.nil_append] at hfe
      subst hfe
      have hc0 : wr.cell? ⟨g, j * 2, none⟩ = some (.int .i64 x0) := hcc 0 (by show 0 < 2; omega)
      have hc1 : wr.cell? ⟨g, j * 2 + 1, none⟩ = some v1 := hcc 1 (by show 1 < 2; omega)
      obtain ⟨av, cv, rfl⟩ := row_shape hmv.rd
      have hlt := ho.lt
      have hf0 := hfz (j * 2)
      have hT1 : Turned [g] wr (wr.setCell ⟨g, j * 2, none⟩ (.int .i64 (k0 + (S : Int)))) := Turned.setCell _ (by simp)
      have hmv1 := hmv.kept hT1 (fun b hb hb' => hgf (by simp at hb'; exact hb' ▸ hb))
      have HBK := hidden back
      have HOW := hidden hmv1
      have HT1 := hidden hT1
      have HLT := hidden hlt
      have HCL := hidden hc1
      simp only at hS
      clear hcc back hcl ow1 hat hdj ho hst hmv hmv1 hT1 hlt hfz
      go_wp2_with fail
      refine (markIntS_fp _ _ _ _ x1 _ f1 HOW.out (by omega) (by omega) (by omega)).mono ?_
      rintro e w2 ⟨rfl, o2, hb2⟩
      have hsz : (wr.setCell ⟨g, j * 2, none⟩ (.int .i64 (k0 + (S : Int)))).heap.size = wr.heap.size := World.size_setCell _ _ _
      have hglt : g < wr.heap.size := HLT.out g hgp
      have hO := HBK.out w2 [.int .i64 (k0 + (S : Int)), .slice av x1.length cv] (k0 + (S : Int), marks id (k0 + (S : Int) + 1) x1.length)
        (pair_mine_of (t := intTy) (u := tIntS) (vs := [_]) (us := [_]) (f1 := []) ⟨⟨rfl, rfl⟩, by simp⟩ o2 (by simp))
        (fun b hb hbf hbg => (hb2.block b (by rw [hsz]; exact HLT.out b hb) hbf).trans (HT1.out.block b (HLT.out b hb) (by simpa using hbg)))
        (Nat.le_trans HT1.out.size hb2.size)
        (fun cur hcur hcs hnc => by
          refine ⟨cur.setIfInBounds (j * 2) (.int .i64 (k0 + (S : Int))), ?_, by simp, fun k => ?_⟩
          · rw [hb2.block g (by rw [hsz]; exact hglt) hgf]
            exact heap_setCell_same wr g _ cur _ _ hcur
          · rw [Array.toList_setIfInBounds]
            have hcs' : cur.size = cap * 2 := hcs
            by_cases h0 : k = j * 2
            · subst h0
              rw [if_pos (by omega), List.getElem?_set_self (by simp; omega), Nat.sub_self]
              rfl
            · rw [List.getElem?_set_ne (by omega)]
              by_cases h1 : k = j * 2 + 1
              · subst h1
                rw [if_pos (by omega), Nat.add_sub_cancel_left]
                have := HCL.out
                rw [cell_of_row wr g _ cur _ (0, 0) hcur] at this
                rw [Array.getElem?_toList, this]
                rfl
              · rw [if_neg (by omega)])
      have e2 : markW1 (k0 + (S : Int)) (x0, x1) = (k0 + (S : Int), marks id (k0 + (S : Int) + 1) x1.length) := rfl
      rw [← e2, HM.out] at hO
      have HO := hidden hO
      have HB := (hb.trans (HT1.out.mono (by simpa using hgp))).trans (hb2.mono hf1)
      clear hO o2 hb2 HBK hb e2 hsz HT1 HLT HCL
      go_wp2
      go_roundw
      case rel => exact ⟨j + 1, by omega, by go_num, by rw [HW.out, hcx]; go_num, HO.out, HB⟩
      case measure => simp [intOf]; omega
    · go_wp2
      go_ret
      have e : j = n := by omega
      subst e
      have ht : (d.map cntW).take j = d.map cntW := List.take_of_length_le (by simp; omega)
      rw [List.take_of_length_le (by omega), List.drop_of_length_le (by omega), List.append_nil] at ho
      exact ⟨ret_int (by rw [ht]; rfl), ho, hb⟩

set_option maxHeartbeats 1600000 in
theorem heldEntS_any (w : World) (E : TypeId) (a : Option Addr) (n cap : Nat) (d : List (Int × List Int)) (k0 : Int) (h : (tWrS E).Rd w [.slice a n cap] (markW k0 d)) (hw : wtWrS d ≤ 2097152) (hk : 0 ≤ k0) (hk' : k0 + (wtWrS d : Int) ≤ 2097153) :
    Calls Tryz.prog 182 #[.slice a n cap, .int .i64 k0] w fun e w' => e = .returned (.int .i64 (k0 + (cntWS d : Int))) ∧ Same w w' := by
  obtain ⟨hl, hc, hm⟩ := row_length h
  have hmL : (markW k0 d).length = d.length := markL_length _ _ _ _
  rw [hmL] at hl
  have hn : n ≤ 2097152 := by unfold wtWrS at hw; omega
  have hwt := cntWS_wt d
  go_enter Tryz.func182, Tryz.ntmps182
  go_wp2
  go_loopw [1, 5] (fun kk i wr => ∃ j : Nat, j ≤ n ∧ i = .int .i64 j ∧ kk = .int .i64 (k0 + (sumL ((d.map cntW).take j) : Int)) ∧ Same w wr) (fun _ i _ => n - (intOf i).toNat)
  case atStart => exact ⟨0, Nat.zero_le _, rfl, by simp [sumL], Same.refl _⟩
  case round =>
    obtain ⟨j, hj, rfl, rfl, hs⟩ := hrel
    by_cases hjn : j < n
    · have hdj : d[j]? = some (d[j]'(by omega)) := List.getElem?_eq_getElem (by omega)
      generalize d[j]'(by omega) = x at hdj
      have hst := sumL_take (l := d.map cntW) (j := j) (x := cntW x) (by rw [List.getElem?_map, hdj]; rfl)
      have hle := sumL_le (l := d.map cntW) (j + 1)
      unfold cntWS at hwt
      have hcx : cntW x = 1 + x.2.length := rfl
      rcases pairs_at rfl h with h0' | ⟨b, off, rfl, hbl, hcs⟩
      · omega
      obtain ⟨v0, v1, hv0, hv1, hrv⟩ := hcs j _ (markL_at (c := cntW) (mk := markW1) (k := k0) hdj)
      obtain ⟨rfl, hrv'⟩ := wr_rd hrv
      obtain ⟨av, cv, rfl⟩ := row_shape hrv'
      have e1 : (markW1 (k0 + (sumL ((d.map cntW).take j) : Int)) x).2.length = x.2.length := marks_length _ _ _
      rw [e1] at hv1 hrv'
      have hw0 := (hs.cell ⟨b, off + j * 2, none⟩).trans hv0
      have hw1 := (hs.cell ⟨b, off + j * 2 + 1, none⟩).trans hv1
      obtain ⟨hrr, _, _, _⟩ := ints_rd (hrv'.same hs)
      have HW := hidden hst
      clear e1
      unfold markW1 at hrr hw0
      simp only at hrr hw0
      generalize sumL ((d.map cntW).take j) = S at hst HW hrr hw0
      clear hcs hdj hv0 hv1 hrv hrv'
      go_wp2_with fail
      refine (heldIntS_any _ _ _ _ _ hrr (by omega) (by omega) (by omega)).mono ?_
      rintro e w2 ⟨rfl, hs2⟩
      go_wp2
      go_roundw
      case rel => exact ⟨j + 1, by omega, by go_num, by rw [HW.out, hcx]; go_num, hs.trans hs2⟩
      case measure => simp [intOf]; omega
    · go_wp2
      go_ret
      have e : j = n := by omega
      subst e
      have ht : (d.map cntW).take j = d.map cntW := List.take_of_length_le (by simp; omega)
      exact ⟨ret_int (by rw [ht]; rfl), hs⟩

end Go.Proofs.YtbkkjfgjlapadaaGreat

/-
  The walks of the laws' helpers that copy slices of slices of int, writes, and disks: the copy is the same data in memory of its own. Condition: the data weighs at most 1048576.
-/
import Derived.Test.YtbkkjfgjlapadaaGreatWalkSz
import Derived.Test.YtbkkjfgjlapadaaGreatWalkInts
namespace Go.Proofs.YtbkkjfgjlapadaaGreat
open Go.RowKit

set_option maxHeartbeats 800000 in
theorem toIntSS_any (w : World) (a : Option Addr) (n cap : Nat) (d : List (List Int)) (h : tIntSS.Rd w [.slice a n cap] d) (hw : wtIntSS d ≤ 1048576) :
    Calls Tryz.prog 270 #[.slice a n cap] w fun e w' => e = .returned (.slice (some ⟨w.heap.size, 0, none⟩) n n) ∧ tIntSS.Own w' w.heap.size w'.heap.size [.slice (some ⟨w.heap.size, 0, none⟩) n n] d ∧ Below w.heap.size w w' := by
  obtain ⟨hl, hc, hm⟩ := row_length h
  obtain ⟨i0, hi, hz0, hz1, hz2⟩ := info_parts Tryz.infoIntS
  have hn : n ≤ 1048576 := by unfold wtIntSS at hw; omega
  have hb3 : i0.bytes * n ≤ 281474976710656 := by rw [hz2]; omega
  have hm3 : n ≤ maxLen := by unfold maxLen; omega
  go_enter Tryz.func270, Tryz.ntmps270
  go_wp2_with (at_make; refine wpList_make_full _ rfl _ _ 144 rfl w.heap.size 36 i0 (.slice none 0 0) 1 Tryz.underlying144 hi hz0 hz1 _ _ _ _ n rfl rfl rfl rfl hb3 hm3 (Nat.le_refl _) ?_; intro w1 hown hgrow)
  have hO := row_made (t := tIntS) (z := []) hown (by omega) rfl (fun _ => .inl ⟨rfl, rfl, rfl⟩)
  have hB1 : Below w.heap.size w w1 := (Below.refl _ _).grown hgrow (Nat.le_refl _) (by simp)
  clear hown hgrow
  go_loopw [4] (fun i wr => ∃ j : Nat, j ≤ n ∧ i = .int .i64 j ∧ tIntSS.Own wr w.heap.size wr.heap.size [.slice (some ⟨w.heap.size, 0, none⟩) n n] (d.take j ++ List.replicate (n - j) []) ∧ Below w.heap.size w wr) (fun i _ => n - (intOf i).toNat)
  case atStart => exact ⟨0, Nat.zero_le _, rfl, by simpa using hO, hB1⟩
  case round =>
    clear hO hB1
    obtain ⟨j, hj, rfl, ho, hb⟩ := hrel
    by_cases hjn : j < n
    · rcases rows_at rfl h with h0' | ⟨b, off, rfl, hbl, hcs⟩
      · omega
      have hdj : d[j]? = some (d[j]'(by omega)) := List.getElem?_eq_getElem (by omega)
      have hlen : (d[j]'(by omega)).length ≤ 1048576 := by
        have h1 := sumL_take (l := d.map List.length) (j := j) (x := (d[j]'(by omega)).length) (by rw [List.getElem?_map, hdj]; rfl)
        have h2 := sumL_le (l := d.map List.length) (j + 1)
        unfold wtIntSS at hw
        omega
      have HS := copied_step' d [] _ j hdj
      generalize d[j]'(by omega) = x at hdj hlen HS
      rw [hl] at HS
      have HS' : Hid _ := HS
      obtain ⟨v, hv, hrv⟩ := hcs j x hdj
      obtain ⟨av, cv, rfl⟩ := row_shape hrv
      have hw0 := (hb.cell (p := ⟨b, off + j, none⟩) hbl).trans hv
      obtain ⟨hrr, _, _, _⟩ := ints_rd (hrv.below hb)
      clear hcs hdj HS hv
      go_wp2_with fail
      refine (toIntS_any _ _ _ _ x rfl hrr (by omega)).mono ?_
      rintro e w2 ⟨rfl, ho2, hb2⟩
      have s2 := hb2.size
      obtain ⟨⟨old, hcy⟩, hfy, hst, hbt⟩ := row_store1 rfl (ho.below hb2) hjn (own_ints ho2) (Nat.le_refl _) s2
      rw [HS'.out] at hst
      have HST : Hid _ := hst
      have HB := Below.andThen hb hb2
      clear ho ho2 hb2 hst hbt hb
      go_wp2
      go_roundw
      case rel => exact ⟨j + 1, by omega, by go_num, by first | exact HST.out | (rw [World.size_setCell]; exact HST.out), HB.setCell (p := ⟨w.heap.size, j, none⟩) (Nat.le_refl _) _⟩
      case measure => simp [intOf]; omega
    · go_wp2
      go_ret
      have e : j = n := by omega
      subst e
      rw [Nat.sub_self, List.replicate_zero, List.append_nil, List.take_of_length_le (by omega)] at ho
      exact ⟨rfl, ho, hb⟩

set_option maxHeartbeats 800000 in
theorem toWr_any (w : World) (x : Int) (a : Option Addr) (n cap : Nat) (zs : List Int) (h : tIntS.Rd w [.slice a n cap] zs) (hn : n ≤ 1048576) :
    Calls Tryz.prog 299 #[.agg #[.int .i64 x, .slice a n cap]] w fun e w' => ∃ g, e = .returned (.agg #[.int .i64 x, .slice (some ⟨g, 0, none⟩) n n]) ∧ tWr.Own w' w.heap.size w'.heap.size [.int .i64 x, .slice (some ⟨g, 0, none⟩) n n] (x, zs) ∧ Below w.heap.size w w' := by
  obtain ⟨hr, hl, _, _⟩ := ints_rd h
  go_enter Tryz.func299, Tryz.ntmps299
  have hA : Below w.heap.size w (((w.alloc (.cells #[.int .i64 x, .slice a n cap] 276)).alloc (.cells #[.int .i64 0, .slice none 0 0] 214)).alloc (.cells #[.int .i64 x, .slice none 0 0] 214)) :=
    (((Below.refl _ _).alloc (Nat.le_refl _) _).alloc (by simp) _).alloc (by simp; omega) _
  have hr3 := hr.below hA
  go_wp2_with fail
  refine (toIntS_any _ _ _ _ zs hl hr3 (by omega)).mono ?_
  rintro e w4 ⟨rfl, ho4, hb4⟩
  obtain ⟨hc, hf⟩ := bcell hb4
  have hz : w.heap.size + 1 + 1 < w4.heap.size := by have := hb4.size; simp at this; omega
  have HO := own_ints ho4
  have HB := hA.trans (hb4.mono (by simp; omega))
  have e3 : (((w.alloc (.cells #[.int .i64 x, .slice a n cap] 276)).alloc (.cells #[.int .i64 0, .slice none 0 0] 214)).alloc (.cells #[.int .i64 x, .slice none 0 0] 214)).heap.size = w.heap.size + 1 + 1 + 1 := by simp
  rw [e3] at HO
  have HO' := hidden HO
  clear HO ho4 hb4 hA hr3 e3
  go_wp2
  have hbt : But w.heap.size (w.heap.size + 1 + 1 + 1) w4 (((w4.setCell ⟨w.heap.size + 1 + 1, 1, none⟩ (.slice (some ⟨w.heap.size + 1 + 1 + 1, 0, none⟩) n n)).setCell ⟨w.heap.size + 1, 0, none⟩ (.int .i64 x)).setCell ⟨w.heap.size + 1, 1, none⟩ (.slice (some ⟨w.heap.size + 1 + 1 + 1, 0, none⟩) n n)) :=
    ((But.setCell (by omega) (by omega) _).trans (But.setCell (by omega) (by omega) _)).trans (But.setCell (by omega) (by omega) _)
  have hO := HO'.out.but hbt (.inr (Nat.le_refl _))
  have hB := Below.andBut HB hbt (Nat.le_refl _)
  have hS := hbt.size
  refine bodyPost_ret (v := .agg #[.int .i64 x, .slice (some ⟨w.heap.size + 1 + 1 + 1, 0, none⟩) n n]) (by simp [results, Tryz.results299, go_sem, hc]) rfl ⟨_, rfl, ?_, hB⟩
  exact pair_own_of (t := intTy) (int_own _ _ _ _) (hO.widen (lo' := w.heap.size) (by omega) hS) (Nat.le_refl _) (by simp; omega)

set_option maxHeartbeats 800000 in
theorem toWrS_any (w : World) (E : TypeId) (a : Option Addr) (n cap : Nat) (d : List (Int × List Int)) (h : (tWrS E).Rd w [.slice a n cap] d) (hw : wtWrS d ≤ 1048576) :
    Calls Tryz.prog 271 #[.slice a n cap] w fun e w' => e = .returned (.slice (some ⟨w.heap.size, 0, none⟩) n n) ∧ (tWrS 214).Own w' w.heap.size w'.heap.size [.slice (some ⟨w.heap.size, 0, none⟩) n n] d ∧ Below w.heap.size w w' := by
  obtain ⟨hl, hc, hm⟩ := row_length h
  obtain ⟨i0, hi, hz0, hz1, hz2⟩ := info_parts Tryz.infoWr
  have hn : n ≤ 1048576 := by unfold wtWrS at hw; omega
  have hb3 : i0.bytes * n ≤ 281474976710656 := by rw [hz2]; omega
  have hm3 : n ≤ maxLen := by unfold maxLen; omega
  go_enter Tryz.func271, Tryz.ntmps271
  go_wp2_with (at_make; refine wpList_make_full _ rfl _ _ 145 rfl w.heap.size 214 i0 (.agg #[.int .i64 0, .slice none 0 0]) 2 Tryz.underlying145 hi hz0 hz1 _ _ _ _ n rfl rfl rfl rfl hb3 hm3 (Nat.le_refl _) ?_; intro w1 hown hgrow)
  have hO := row_made (t := tWr) (z := (0, [])) hown (by omega) rfl (fun _ => ⟨[], [], rfl, ⟨rfl, rfl⟩, .inl ⟨rfl, rfl, rfl⟩, rfl⟩)
  have hB1 : Below w.heap.size w w1 := (Below.refl _ _).grown hgrow (Nat.le_refl _) (by simp)
  clear hown hgrow
  go_loopw [4] (fun i wr => ∃ j : Nat, j ≤ n ∧ i = .int .i64 j ∧ (tWrS 214).Own wr w.heap.size wr.heap.size [.slice (some ⟨w.heap.size, 0, none⟩) n n] (d.take j ++ List.replicate (n - j) (0, [])) ∧ Below w.heap.size w wr) (fun i _ => n - (intOf i).toNat)
  case atStart => exact ⟨0, Nat.zero_le _, rfl, by simpa using hO, hB1⟩
  case round =>
    clear hO hB1
    obtain ⟨j, hj, rfl, ho, hb⟩ := hrel
    by_cases hjn : j < n
    · rcases pairs_at rfl h with h0' | ⟨b, off, rfl, hbl, hcs⟩
      · omega
      have hdj : d[j]? = some (d[j]'(by omega)) := List.getElem?_eq_getElem (by omega)
      have hlen : (d[j]'(by omega)).2.length ≤ 1048576 := by
        have h1 := sumL_take (l := d.map fun x => x.2.length) (j := j) (x := (d[j]'(by omega)).2.length) (by rw [List.getElem?_map, hdj]; rfl)
        have h2 := sumL_le (l := d.map fun x => x.2.length) (j + 1)
        unfold wtWrS at hw
        omega
      have HS := copied_step' d (0, []) _ j hdj
      generalize d[j]'(by omega) = x at hdj hlen HS
      rw [hl] at HS
      have HS' : Hid _ := HS
      obtain ⟨v0, v1, hv0, hv1, hrv⟩ := hcs j x hdj
      obtain ⟨rfl, hrw⟩ := wr_rd hrv
      obtain ⟨av, cv, rfl⟩ := row_shape hrw
      have hw0 := (hb.cell (p := ⟨b, off + j * 2, none⟩) hbl).trans hv0
      have hw1 := (hb.cell (p := ⟨b, off + j * 2 + 1, none⟩) hbl).trans hv1
      have hrr := hrw.below hb
      obtain ⟨x0, x1⟩ := x
      simp only at hw0 hw1 hlen hrr
      clear hcs hdj HS hv0 hv1 hrv hrw
      go_wp2_with fail
      refine (toWr_any _ _ _ _ _ x1 hrr (by omega)).mono ?_
      rintro e w2 ⟨g2, rfl, ho2, hb2⟩
      have s2 := hb2.size
      obtain ⟨⟨old0, hcy0⟩, ⟨old1, hcy1⟩, hfy0, hfy1, hst, hbt⟩ := row_store2 rfl (ho.below hb2) hjn ho2 (Nat.le_refl _) s2
      rw [HS'.out] at hst
      have HST := hidden hst
      have HB := Below.andThen hb hb2
      clear ho ho2 hb2 hst hbt hb
      go_wp2
      go_roundw
      case rel => exact ⟨j + 1, by omega, by go_num, by first | exact HST.out | (simp only [World.size_setCell]; exact HST.out), (HB.setCell (p := ⟨w.heap.size, j * 2, none⟩) (Nat.le_refl _) _).setCell (p := ⟨w.heap.size, j * 2 + 1, none⟩) (Nat.le_refl _) _⟩
      case measure => simp [intOf]; omega
    · go_wp2
      go_ret
      have e : j = n := by omega
      subst e
      rw [Nat.sub_self, List.replicate_zero, List.append_nil, List.take_of_length_le (by omega)] at ho
      exact ⟨rfl, ho, hb⟩

set_option maxHeartbeats 1600000 in
theorem toMem_any (w : World) (E : TypeId) (a0 a1 a3 : Option Addr) (n0 c0 n1 c1 n3 c3 : Nat) (ss : List (List Int)) (cs : List (Int × List Int)) (f : Bool) (bs : List Int) (h0 : tIntSS.Rd w [.slice a0 n0 c0] ss) (h1 : (tWrS E).Rd w [.slice a1 n1 c1] cs) (h3 : tIntS.Rd w [.slice a3 n3 c3] bs) (hw : wtMem (ss, cs, f, bs) ≤ 1048576) :
    Calls Tryz.prog 229 #[.agg #[.slice a0 n0 c0, .slice a1 n1 c1, .bool f, .slice a3 n3 c3]] w fun e w' => ∃ b0 b1 b3, e = .returned (.agg #[.slice b0 n0 n0, .slice b1 n1 n1, .bool f, .slice b3 n3 n3]) ∧
      (tMem 214).Own w' w.heap.size w'.heap.size [.slice b0 n0 n0, .slice b1 n1 n1, .bool f, .slice b3 n3 n3] (ss, cs, f, bs) ∧ Below w.heap.size w w' := by
  obtain ⟨hn3, hc3, hm3⟩ := row_length h3
  have hw0 : wtIntSS ss ≤ 1048576 := by unfold wtMem at hw; simp only at hw; omega
  have hw1 : wtWrS cs ≤ 1048576 := by unfold wtMem at hw; simp only at hw; omega
  have hw3 : n3 ≤ 1048576 := by unfold wtMem at hw; simp only at hw; omega
  have hA : Below w.heap.size w (((w.alloc (.cells #[.slice a0 n0 c0, .slice a1 n1 c1, .bool f, .slice a3 n3 c3] 228)).alloc (.cells #[.slice none 0 0, .slice none 0 0, .bool false, .slice none 0 0] 147)).alloc (.cells #[.slice none 0 0, .slice none 0 0, .bool false, .slice none 0 0] 147)) :=
    (((Below.refl _ _).alloc (Nat.le_refl _) _).alloc (by simp) _).alloc (by simp; omega) _
  have e3 : (((w.alloc (.cells #[.slice a0 n0 c0, .slice a1 n1 c1, .bool f, .slice a3 n3 c3] 228)).alloc (.cells #[.slice none 0 0, .slice none 0 0, .bool false, .slice none 0 0] 147)).alloc (.cells #[.slice none 0 0, .slice none 0 0, .bool false, .slice none 0 0] 147)).heap.size = w.heap.size + 1 + 1 + 1 := by simp
  have HE3 := hidden e3
  clear e3
  go_enter Tryz.func229, Tryz.ntmps229
  go_wp2_with fail
  refine (toIntSS_any _ _ _ _ ss (h0.below hA) hw0).mono ?_
  rintro e w4 ⟨rfl, ho4, hb4⟩
  obtain ⟨hc4, hf4⟩ := bcell hb4
  have z4 := hb4.size
  rw [HE3.out] at ho4 z4
  have z4a : w.heap.size < w4.heap.size := by omega
  have z4b : w.heap.size + 1 < w4.heap.size := by omega
  have z4c : w.heap.size + 1 + 1 < w4.heap.size := by omega
  have B4 := hA.trans (hb4.mono (by rw [HE3.out]; omega))
  have B4' := B4.setCell (p := ⟨w.heap.size + 1 + 1, 0, none⟩) (by show _ ≤ _ + 1 + 1; omega) (.slice (some ⟨w.heap.size + 1 + 1 + 1, 0, none⟩) n0 n0)
  have q4 : But w.heap.size (w.heap.size + 1 + 1 + 1) w4 (w4.setCell ⟨w.heap.size + 1 + 1, 0, none⟩ (.slice (some ⟨w.heap.size + 1 + 1 + 1, 0, none⟩) n0 n0)) := But.setCell (by omega) (by omega) _
  have O4 := hidden (ho4.but q4 (.inr (Nat.le_refl _)))
  have HB4 := hidden B4'
  have H1 := hidden (h1.below B4')
  clear hb4 ho4 hA B4 B4' q4
  go_wp2_with fail
  refine (toWrS_any _ E _ _ _ cs H1.out hw1).mono ?_
  rintro e w5 ⟨rfl, ho5, hb5⟩
  obtain ⟨hc5, hf5⟩ := bcell hb5
  have z5 := hb5.size
  rw [World.size_setCell] at ho5 z5 hc5 hf5
  have z5a : w.heap.size < w5.heap.size := by omega
  have z5b : w.heap.size + 1 < w5.heap.size := by omega
  have z5c : w.heap.size + 1 + 1 < w5.heap.size := by omega
  have B5 := Below.andThen HB4.out hb5
  have q5 : But w.heap.size (w.heap.size + 1 + 1 + 1) w5 ((w5.setCell ⟨w.heap.size + 1 + 1, 1, none⟩ (.slice (some ⟨w4.heap.size, 0, none⟩) n1 n1)).setCell ⟨w.heap.size + 1 + 1, 2, none⟩ (.bool f)) := (But.setCell (by omega) (by omega) _).trans (But.setCell (by omega) (by omega) _)
  have O4' := hidden ((O4.out.below hb5).but q5 (.inr (Nat.le_refl _)))
  have O5 := hidden (ho5.but q5 (.inr (by omega)))
  have HB5 := hidden (Below.andBut B5 q5 (Nat.le_refl _))
  have H3 := hidden (h3.below HB5.out)
  clear hb5 ho5 B5 q5 O4 HB4 H1
  go_wp2_with fail
  refine (toIntS_any _ _ _ _ bs hn3 (ints_rd H3.out).1 (by omega)).mono ?_
  rintro e w6 ⟨rfl, ho6, hb6⟩
  obtain ⟨hc6, hf6⟩ := bcell hb6
  have z6 := hb6.size
  have o6 := own_ints ho6
  rw [World.size_setCell, World.size_setCell] at o6 z6 hc6 hf6
  have B6 := Below.andThen HB5.out hb6
  have z6a : w.heap.size < w6.heap.size := by omega
  have z6b : w.heap.size + 1 < w6.heap.size := by omega
  have z6c : w.heap.size + 1 + 1 < w6.heap.size := by omega
  have O4'' := hidden (O4'.out.below hb6)
  have O5' := hidden (O5.out.below hb6)
  have O6 := hidden o6
  have HB6 := hidden B6
  clear hb6 ho6 B6 O4' O5 HB5 H3 o6
  go_wp2
  have fin : ∀ W', But w.heap.size (w.heap.size + 1 + 1 + 1) w6 W' → (tMem 214).Own W' w.heap.size W'.heap.size [.slice (some ⟨w.heap.size + 1 + 1 + 1, 0, none⟩) n0 n0, .slice (some ⟨w4.heap.size, 0, none⟩) n1 n1, .bool f, .slice (some ⟨w5.heap.size, 0, none⟩) n3 n3] (ss, cs, f, bs) ∧ Below w.heap.size w W' := by
    intro W' hb
    have p0 := O4''.out.but hb (.inr (Nat.le_refl _))
    have p1 := O5'.out.but hb (.inr (by omega))
    have p3 := O6.out.but hb (.inr (by omega))
    have hS := hb.size
    refine ⟨?_, Below.andBut HB6.out hb (Nat.le_refl _)⟩
    exact pair_own_of (t := tIntSS) (vs := [_]) (p0.widen (by omega) (Nat.le_refl _)) (pair_own_of (t := tWrS 214) (vs := [_]) p1 (pair_own_of (t := boolTy) (vs := [_]) (bool_own _ _ _ _) (p3.widen (Nat.le_refl _) hS) (Nat.le_refl _) (by omega)) (by omega) (by omega)) (by omega) (by omega)
  have fn := fin _ (((((But.setCell (j := 3) (g := w.heap.size + 1 + 1) (by omega) (by omega) (.slice (some ⟨w5.heap.size, 0, none⟩) n3 n3)).trans (But.setCell (j := 0) (g := w.heap.size + 1) (by omega) (by omega) (.slice (some ⟨w.heap.size + 1 + 1 + 1, 0, none⟩) n0 n0))).trans (But.setCell (j := 1) (g := w.heap.size + 1) (by omega) (by omega) (.slice (some ⟨w4.heap.size, 0, none⟩) n1 n1))).trans (But.setCell (j := 2) (g := w.heap.size + 1) (by omega) (by omega) (.bool f))).trans (But.setCell (j := 3) (g := w.heap.size + 1) (by omega) (by omega) (.slice (some ⟨w5.heap.size, 0, none⟩) n3 n3)))
  refine bodyPost_ret (v := .agg #[.slice (some ⟨w.heap.size + 1 + 1 + 1, 0, none⟩) n0 n0, .slice (some ⟨w4.heap.size, 0, none⟩) n1 n1, .bool f, .slice (some ⟨w5.heap.size, 0, none⟩) n3 n3]) (by simp [results, Tryz.results229, go_sem, hc6, hc5, hc4, z5b, z4b]) rfl ⟨_, _, _, rfl, fn.1, fn.2⟩

end Go.Proofs.YtbkkjfgjlapadaaGreat

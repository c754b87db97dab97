/-
  The walks of the laws' helpers that mark slices of slices of int, writes and disks, and ask whether the marks are held. Conditions: at most 2097152 elements in all, the marks between 0 and 16777216.
-/
import Derived.Test.YtbkkjfgjlapadaaGreatWalkTo
import Derived.Test.YtbkkjfgjlapadaaGreatTurn
import Derived.Test.YtbkkjfgjlapadaaGreatWalkMarksInt
namespace Go.Proofs.YtbkkjfgjlapadaaGreat
open Go.RowKit

/-- A slice of numbers of one's own, by its one block. -/
theorem ints_ow {w : World} {v : Value} {zs : List Int} {f : List Nat} (h : tIntS.ow w [v] zs f) : (v = .slice none 0 0 ∧ zs = [] ∧ f = []) ∨ ∃ g cap, v = .slice (some ⟨g, 0, none⟩) zs.length cap ∧ f = [g] ∧ Go.Proofs.YtbkkjfgjlapadaaGreat.Own .i64 3 w g (g + 1) v zs := by
  rcases h with ⟨h1, h2, h3⟩ | ⟨b, cap, cur, fps, h1, h2, h3, h4, h5, h6, h7, h8⟩
  · exact .inl ⟨by simpa using h1, h2, h3⟩
  · have hv : v = .slice (some ⟨b, 0, none⟩) zs.length cap := by simpa using h1
    have hfl : fps.flatten = [] := by
      rw [List.flatten_eq_nil_iff]
      intro f' hf'
      obtain ⟨i, hi⟩ := List.mem_iff_getElem?.1 hf'
      have hil : i < zs.length := by rw [← h7]; exact (List.getElem?_eq_some_iff.1 hi).1
      obtain ⟨f2, hf2, _, h10⟩ := h8 i _ (List.getElem?_eq_getElem hil)
      rw [hi] at hf2
      simp at hf2
      rw [hf2]
      exact h10
    have h5' : cur.size = cap * 1 := h5
    refine .inr ⟨b, cap, hv, by rw [h6, hfl], ⟨by simp, .inr ⟨b, cap, cur, hv, Nat.le_refl _, h4, h2, by unfold maxLen; exact h3, h5', ?_⟩⟩, fun g hg => by rw [hv] at hg; simp [Value.ownBlock] at hg; omega⟩
    apply List.ext_getElem?
    intro i
    rw [List.getElem?_take, List.getElem?_map]
    by_cases hi : i < zs.length
    · obtain ⟨f2, _, h9, _⟩ := h8 i _ (List.getElem?_eq_getElem hi)
      have h9' : (cur.toList.drop (i * 1)).take 1 = [.int .i64 zs[i]] := h9
      have : ((cur.toList.drop (i * 1)).take 1)[0]? = some (.int .i64 zs[i]) := by rw [h9']; rfl
      rw [List.getElem?_take, if_pos (by omega), List.getElem?_drop] at this
      rw [if_pos (by omega), List.getElem?_eq_getElem hi]
      simpa using this
    · rw [if_neg (by omega), List.getElem?_eq_none (by omega)]
      rfl

theorem ow_ints {w : World} {g n cap : Nat} {zs : List Int} (h : Go.Proofs.YtbkkjfgjlapadaaGreat.Own .i64 3 w g (g + 1) (.slice (some ⟨g, 0, none⟩) n cap) zs) : tIntS.ow w [.slice (some ⟨g, 0, none⟩) n cap] zs [g] := by
  have hl := h.length
  obtain ⟨fp, ho, _, hr⟩ := own_ints h.1
  rcases ho with ⟨h1, _⟩ | ⟨b, cap', cur, fps, h1, h2, h3, h4, h5, h6, h7, h8⟩
  · simp at h1
  · simp only [List.cons.injEq, Value.slice.injEq, Option.some.injEq, Addr.mk.injEq, and_true] at h1
    obtain ⟨rfl, _, rfl⟩ := h1
    refine .inr ⟨g, cap, cur, zs.map fun _ => [], by rw [hl], h2, h3, h4, h5, by simp, by simp, fun i x hx => ?_⟩
    obtain ⟨f2, _, h9⟩ := h8 i x hx
    exact ⟨[], by rw [List.getElem?_map, hx]; rfl, h9.1, rfl⟩

theorem markIntS_fp (w : World) (a : Option Addr) (n cap : Nat) (zs : List Int) (k0 : Int) (fp : List Nat) (h : tIntS.Mine w [.slice a n cap] zs fp) (hlen : n ≤ 2097152) (hk : 0 ≤ k0) (hk' : k0 ≤ 16777216) :
    Calls Tryz.prog 105 #[.slice a n cap, .int .i64 k0] w fun e w' =>
      e = .returned (.int .i64 (k0 + n)) ∧ tIntS.Mine w' [.slice a n cap] (marks id k0 n) fp ∧ Turned fp w w' := by
  rcases ints_ow h.1 with ⟨hv, hx0, hf0⟩ | ⟨g1, cap1, hv, hf0, ho1⟩
  · simp only [Value.slice.injEq] at hv
    obtain ⟨rfl, rfl, rfl⟩ := hv
    subst hx0
    subst hf0
    have hO : Go.Proofs.YtbkkjfgjlapadaaGreat.Own .i64 3 w w.heap.size (w.heap.size + 1) (.slice none 0 0) [] := ⟨World.ownsRow_nil _ _ _ _, by simp [Value.ownBlock]⟩
    refine (markIntS_any w _ _ _ _ _ [] k0 hO hlen hk hk').mono ?_
    rintro e w' ⟨rfl, _, hb⟩
    exact ⟨rfl, ⟨.inl ⟨rfl, rfl, rfl⟩, h.2⟩, hb.os, hb.tape, hb.output, hb.size, fun k hk _ => hb.block k hk (.inl hk)⟩
  · simp only [Value.slice.injEq] at hv
    obtain ⟨rfl, rfl, rfl⟩ := hv
    subst hf0
    refine (markIntS_any w _ _ _ _ _ zs k0 ho1 hlen hk hk').mono ?_
    rintro e w' ⟨rfl, ho, hb⟩
    exact ⟨rfl, ⟨ow_ints ho, h.2⟩, hb.os, hb.tape, hb.output, hb.size, fun k hk hf => hb.block k hk (by simp at hf; omega)⟩

def markI (k : Int) (x : List Int) : List Int := marks id k x.length
def markSS (k0 : Int) (d : List (List Int)) : List (List Int) := markL List.length markI k0 d
def cntSS (d : List (List Int)) : Nat := sumL (d.map List.length)

set_option maxHeartbeats 1600000 in
theorem markIntSS_fp (w : World) (a : Option Addr) (n cap : Nat) (d : List (List Int)) (k0 : Int) (fp : List Nat) (h : tIntSS.Mine w [.slice a n cap] d fp) (hw : wtIntSS d ≤ 2097152) (hk : 0 ≤ k0) (hk' : k0 ≤ 2097152) :
    Calls Tryz.prog 233 #[.slice a n cap, .int .i64 k0] w fun e w' => e = .returned (.int .i64 (k0 + (cntSS d : Int))) ∧ tIntSS.Mine w' [.slice a n cap] (markSS k0 d) fp ∧ Turned fp w w' := by
  obtain ⟨hl, hc, hm⟩ := row_length h.rd
  have hmL : (markSS k0 d).length = d.length := markL_length _ _ _ _
  have hnn : n ≤ 2097152 := by unfold wtIntSS at hw; omega
  go_enter Tryz.func233, Tryz.ntmps233
  go_wp2
  go_loopw [1, 5] (fun kk i wr => ∃ j : Nat, j ≤ n ∧ i = .int .i64 j ∧ kk = .int .i64 (k0 + (sumL ((d.map List.length).take j) : Int)) ∧ tIntSS.Mine wr [.slice a n cap] ((markSS k0 d).take j ++ d.drop j) fp ∧ Turned fp w wr) (fun _ i _ => n - (intOf i).toNat)
  case atStart => exact ⟨0, Nat.zero_le _, rfl, by simp [sumL], by simpa using h, Turned.refl _ _⟩
  case round =>
    obtain ⟨j, hj, rfl, rfl, ho, hb⟩ := hrel
    by_cases hjn : j < n
    · have hdj : d[j]? = some (d[j]'(by omega)) := List.getElem?_eq_getElem (by omega)
      generalize d[j]'(by omega) = x at hdj
      have hst := sumL_take (l := d.map List.length) (j := j) (x := x.length) (by rw [List.getElem?_map, hdj]; rfl)
      have hle := sumL_le (l := d.map List.length) (j + 1)
      have hwt : sumL (d.map List.length) ≤ 2097152 := by unfold wtIntSS at hw; omega
      have HM := hidden (turn_step hmL (markL_at (c := List.length) (mk := markI) (k := k0) hdj))
      have hat := turn_at (m := markSS k0 d) hmL hdj
      have HW := hidden hst
      generalize sumL ((d.map List.length).take j) = S at hst HM HW
      have hS : S + x.length ≤ 2097152 := by omega
      rcases row_ow_shape ho with h0' | ⟨g, rfl⟩
      · omega
      obtain ⟨cs1, f1, ow1, _, _, hf1, hcc, _, back, _⟩ := row_open ho hat
      have hcl := tIntS.rdLen (tIntS.owRd ow1.1)
      obtain ⟨v, rfl⟩ : ∃ v, cs1 = [v] := by
        match cs1, hcl with
        | [v], _ => exact ⟨v, rfl⟩
      have hcv : wr.cell? ⟨g, j, none⟩ = some v := by
        have := hcc 0 (by show 0 < 1; omega)
        rw [show j * tIntS.n + 0 = j by show j * 1 + 0 = j; omega] at this
        exact this
      obtain ⟨av, cv, rfl⟩ := row_shape ow1.rd
      have hlt := ho.lt
      have HBK := hidden back
      have HOW := hidden ow1
      clear hcc back hcl ow1 hat hdj ho hst
      go_wp2_with fail
      refine (markIntS_fp _ _ _ _ x _ f1 HOW.out (by omega) (by omega) (by omega)).mono ?_
      rintro e w2 ⟨rfl, o2, hb2⟩
      have hO := HBK.out w2 _ o2 (fun b hb hbf => hb2.block b (hlt b hb) hbf) hb2.size
      have e2 : markI (k0 + (S : Int)) x = marks id (k0 + (S : Int)) x.length := rfl
      rw [← e2, HM.out] at hO
      have HO := hidden hO
      have HB := hb.trans (hb2.mono hf1)
      clear hO o2 hb2 HBK hb hlt e2
      go_wp2
      go_roundw
      case rel => exact ⟨j + 1, by omega, by go_num, by rw [HW.out]; go_num, HO.out, HB⟩
      case measure => simp [intOf]; omega
    · go_wp2
      go_ret
      have e : j = n := by omega
      subst e
      have ht : (d.map List.length).take j = d.map List.length := List.take_of_length_le (by simp; omega)
      rw [List.take_of_length_le (by omega), List.drop_of_length_le (by omega), List.append_nil] at ho
      exact ⟨ret_int (by rw [ht]; rfl), ho, hb⟩

set_option maxHeartbeats 1600000 in
theorem heldIntSS_any (w : World) (a : Option Addr) (n cap : Nat) (d : List (List Int)) (k0 : Int) (h : tIntSS.Rd w [.slice a n cap] (markSS k0 d)) (hw : wtIntSS d ≤ 2097152) (hk : 0 ≤ k0) (hk' : k0 ≤ 2097152) :
    Calls Tryz.prog 235 #[.slice a n cap, .int .i64 k0] w fun e w' => e = .returned (.int .i64 (k0 + (cntSS d : Int))) ∧ Same w w' := by
  obtain ⟨hl, hc, hm⟩ := row_length h
  have hmL : (markSS k0 d).length = d.length := markL_length _ _ _ _
  rw [hmL] at hl
  have hn : n ≤ 2097152 := by unfold wtIntSS at hw; omega
  go_enter Tryz.func235, Tryz.ntmps235
  go_wp2
  go_loopw [1, 5] (fun kk i wr => ∃ j : Nat, j ≤ n ∧ i = .int .i64 j ∧ kk = .int .i64 (k0 + (sumL ((d.map List.length).take j) : Int)) ∧ Same w wr) (fun _ i _ => n - (intOf i).toNat)
  case atStart => exact ⟨0, Nat.zero_le _, rfl, by simp [sumL], Same.refl _⟩
  case round =>
    obtain ⟨j, hj, rfl, rfl, hs⟩ := hrel
    by_cases hjn : j < n
    · have hdj : d[j]? = some (d[j]'(by omega)) := List.getElem?_eq_getElem (by omega)
      generalize d[j]'(by omega) = x at hdj
      have hst := sumL_take (l := d.map List.length) (j := j) (x := x.length) (by rw [List.getElem?_map, hdj]; rfl)
      have hle := sumL_le (l := d.map List.length) (j + 1)
      have hwt : sumL (d.map List.length) ≤ 2097152 := by unfold wtIntSS at hw; omega
      rcases rows_at rfl h with h0' | ⟨b, off, rfl, hbl, hcs⟩
      · omega
      obtain ⟨v, hv, hrv⟩ := hcs j _ (markL_at (c := List.length) (mk := markI) (k := k0) hdj)
      obtain ⟨av, cv, rfl⟩ := row_shape hrv
      have e1 : (markI (k0 + (sumL ((d.map List.length).take j) : Int)) x).length = x.length := marks_length _ _ _
      rw [e1] at hv hrv
      have hw0 := (hs.cell ⟨b, off + j, none⟩).trans hv
      obtain ⟨hrr, _, _, _⟩ := ints_rd (hrv.same hs)
      have HW := hidden hst
      clear e1
      unfold markI at hrr
      generalize sumL ((d.map List.length).take j) = S at hst HW hrr
      clear hcs hdj hv hrv
      go_wp2_with fail
      refine (heldIntS_any _ _ _ _ _ hrr (by omega) (by omega) (by omega)).mono ?_
      rintro e w2 ⟨rfl, hs2⟩
      go_wp2
      go_roundw
      case rel => exact ⟨j + 1, by omega, by go_num, by rw [HW.out]; go_num, hs.trans hs2⟩
      case measure => simp [intOf]; omega
    · go_wp2
      go_ret
      have e : j = n := by omega
      subst e
      have ht : (d.map List.length).take j = d.map List.length := List.take_of_length_le (by simp; omega)
      exact ⟨ret_int (by rw [ht]; rfl), hs⟩

def cntW (x : Int × List Int) : Nat := 1 + x.2.length
def markW1 (k : Int) (x : Int × List Int) : Int × List Int := (k, marks id (k + 1) x.2.length)
def markW (k0 : Int) (d : List (Int × List Int)) : List (Int × List Int) := markL cntW markW1 k0 d
def cntWS (d : List (Int × List Int)) : Nat := sumL (d.map cntW)

theorem cntWS_wt (d : List (Int × List Int)) : cntWS d = wtWrS d := by
  unfold cntWS wtWrS
  induction d with
  | nil => rfl
  | cons x d ih =>
    simp only [List.map_cons, sumL, List.foldr_cons, List.length_cons] at *
    unfold cntW at *
    omega

set_option maxHeartbeats 1600000 in
theorem markWrS_fp (w : World) (a : Option Addr) (n cap : Nat) (d : List (Int × List Int)) (k0 : Int) (fp : List Nat) (h : (tWrS 214).Mine w [.slice a n cap] d fp) (hw : wtWrS d ≤ 2097152) (hk : 0 ≤ k0) (hk' : k0 + (wtWrS d : Int) ≤ 2097153) :
    Calls Tryz.prog 234 #[.slice a n cap, .int .i64 k0] w fun e w' => e = .returned (.int .i64 (k0 + (cntWS d : Int))) ∧ (tWrS 214).Mine w' [.slice a n cap] (markW k0 d) fp ∧ Turned fp w w' := by
  obtain ⟨hl, hc, hm⟩ := row_length h.rd
  have hmL : (markW k0 d).length = d.length := markL_length _ _ _ _
  have hnn : n ≤ 2097152 := by unfold wtWrS at hw; omega
  have hwt := cntWS_wt d
  go_enter Tryz.func234, Tryz.ntmps234
  go_wp2
  go_loopw [1, 5] (fun kk i wr => ∃ j : Nat, j ≤ n ∧ i = .int .i64 j ∧ kk = .int .i64 (k0 + (sumL ((d.map cntW).take j) : Int)) ∧ (tWrS 214).Mine wr [.slice a n cap] ((markW k0 d).take j ++ d.drop j) fp ∧ Turned fp w wr) (fun _ i _ => n - (intOf i).toNat)
  case atStart => exact ⟨0, Nat.zero_le _, rfl, by simp [sumL], by simpa using h, Turned.refl _ _⟩
  case round =>
    obtain ⟨j, hj, rfl, rfl, ho, hb⟩ := hrel
    by_cases hjn : j < n
    · have hdj : d[j]? = some (d[j]'(by omega)) := List.getElem?_eq_getElem (by omega)
      generalize d[j]'(by omega) = x at hdj
      have hst := sumL_take (l := d.map cntW) (j := j) (x := cntW x) (by rw [List.getElem?_map, hdj]; rfl)
      have hle := sumL_le (l := d.map cntW) (j + 1)
      unfold cntWS at hwt
      have HM := hidden (turn_step hmL (markL_at (c := cntW) (mk := markW1) (k := k0) hdj))
      have hat := turn_at (m := markW k0 d) hmL hdj
      have HW := hidden hst
      generalize sumL ((d.map cntW).take j) = S at hst HM HW
      have hcx : cntW x = 1 + x.2.length := rfl
      have hS : S + 1 + x.2.length ≤ 2097152 := by omega
      have hS2 : k0 + (S : Int) ≤ 2097153 := by omega
      rcases row_ow_shape ho with h0' | ⟨g, rfl⟩
      · omega
      obtain ⟨cs1, f1, ow1, hgf, hgp, hf1, hcc, hfz, _, back⟩ := row_open ho hat
      have hcl := tWr.rdLen (tWr.owRd ow1.1)
      obtain ⟨v0, v1, rfl⟩ : ∃ v0 v1, cs1 = [v0, v1] := by
        match cs1, hcl with
        | [v0, v1], _ => exact ⟨v0, v1, rfl⟩
      obtain ⟨x0, x1⟩ := x
      obtain ⟨fa, fb, hfe, ⟨⟨hv0, hfa⟩, _⟩, hmv, _⟩ := pair_mine (t := intTy) (u := tIntS) (vs := [v0]) (us := [v1]) rfl ow1
      simp at hv0
      subst hv0
      subst hfa
      rw [List.nil_append] at hfe
      subst hfe
      have hc0 : wr.cell? ⟨g, j * 2, none⟩ = some (.int .i64 x0) := hcc 0 (by show 0 < 2; omega)
      have hc1 : wr.cell? ⟨g, j * 2 + 1, none⟩ = some v1 := hcc 1 (by show 1 < 2; omega)
      obtain ⟨av, cv, rfl⟩ := row_shape hmv.rd
      have hlt := ho.lt
      have hf0 := hfz (j * 2)
      have hT1 : Turned [g] wr (wr.setCell ⟨g, j * 2, none⟩ (.int .i64 (k0 + (S : Int)))) := Turned.setCell _ (by simp)
      have hmv1 := hmv.kept hT1 (fun b hb hb' => hgf (by simp at hb'; exact hb' ▸ hb))
      have HBK := hidden back
      have HOW := hidden hmv1
      have HT1 := hidden hT1
      have HLT := hidden hlt
      have HCL := hidden hc1
      simp only at hS
      clear hcc back hcl ow1 hat hdj ho hst hmv hmv1 hT1 hlt hfz
      go_wp2_with fail
      refine (markIntS_fp _ _ _ _ x1 _ f1 HOW.out (by omega) (by omega) (by omega)).mono ?_
      rintro e w2 ⟨rfl, o2, hb2⟩
      have hsz : (wr.setCell ⟨g, j * 2, none⟩ (.int .i64 (k0 + (S : Int)))).heap.size = wr.heap.size := World.size_setCell _ _ _
      have hglt : g < wr.heap.size := HLT.out g hgp
      have hO := HBK.out w2 [.int .i64 (k0 + (S : Int)), .slice av x1.length cv] (k0 + (S : Int), marks id (k0 + (S : Int) + 1) x1.length)
        (pair_mine_of (t := intTy) (u := tIntS) (vs := [_]) (us := [_]) (f1 := []) ⟨⟨rfl, rfl⟩, by simp⟩ o2 (by simp))
        (fun b hb hbf hbg => (hb2.block b (by rw [hsz]; exact HLT.out b hb) hbf).trans (HT1.out.block b (HLT.out b hb) (by simpa using hbg)))
        (Nat.le_trans HT1.out.size hb2.size)
        (fun cur hcur hcs hnc => by
          refine ⟨cur.setIfInBounds (j * 2) (.int .i64 (k0 + (S : Int))), ?_, by simp, fun k => ?_⟩
          · rw [hb2.block g (by rw [hsz]; exact hglt) hgf]
            exact heap_setCell_same wr g _ cur _ _ hcur
          · rw [Array.toList_setIfInBounds]
            have hcs' : cur.size = cap * 2 := hcs
            by_cases h0 : k = j * 2
            · subst h0
              rw [if_pos (by omega), List.getElem?_set_self (by simp; omega), Nat.sub_self]
              rfl
            · rw [List.getElem?_set_ne (by omega)]
              by_cases h1 : k = j * 2 + 1
              · subst h1
                rw [if_pos (by omega), Nat.add_sub_cancel_left]
                have := HCL.out
                rw [cell_of_row wr g _ cur _ (0, 0) hcur] at this
                rw [Array.getElem?_toList, this]
                rfl
              · rw [if_neg (by omega)])
      have e2 : markW1 (k0 + (S : Int)) (x0, x1) = (k0 + (S : Int), marks id (k0 + (S : Int) + 1) x1.length) := rfl
      rw [← e2, HM.out] at hO
      have HO := hidden hO
      have HB := (hb.trans (HT1.out.mono (by simpa using hgp))).trans (hb2.mono hf1)
      clear hO o2 hb2 HBK hb e2 hsz HT1 HLT HCL
      go_wp2
      go_roundw
      case rel => exact ⟨j + 1, by omega, by go_num, by rw [HW.out, hcx]; go_num, HO.out, HB⟩
      case measure => simp [intOf]; omega
    · go_wp2
      go_ret
      have e : j = n := by omega
      subst e
      have ht : (d.map cntW).take j = d.map cntW := List.take_of_length_le (by simp; omega)
      rw [List.take_of_length_le (by omega), List.drop_of_length_le (by omega), List.append_nil] at ho
      exact ⟨ret_int (by rw [ht]; rfl), ho, hb⟩

set_option maxHeartbeats 1600000 in
theorem heldWrS_any (w : World) (E : TypeId) (a : Option Addr) (n cap : Nat) (d : List (Int × List Int)) (k0 : Int) (h : (tWrS E).Rd w [.slice a n cap] (markW k0 d)) (hw : wtWrS d ≤ 2097152) (hk : 0 ≤ k0) (hk' : k0 + (wtWrS d : Int) ≤ 2097153) :
    Calls Tryz.prog 236 #[.slice a n cap, .int .i64 k0] w fun e w' => e = .returned (.int .i64 (k0 + (cntWS d : Int))) ∧ Same w w' := by
  obtain ⟨hl, hc, hm⟩ := row_length h
  have hmL : (markW k0 d).length = d.length := markL_length _ _ _ _
  rw [hmL] at hl
  have hn : n ≤ 2097152 := by unfold wtWrS at hw; omega
  have hwt := cntWS_wt d
  go_enter Tryz.func236, Tryz.ntmps236
  go_wp2
  go_loopw [1, 5] (fun kk i wr => ∃ j : Nat, j ≤ n ∧ i = .int .i64 j ∧ kk = .int .i64 (k0 + (sumL ((d.map cntW).take j) : Int)) ∧ Same w wr) (fun _ i _ => n - (intOf i).toNat)
  case atStart => exact ⟨0, Nat.zero_le _, rfl, by simp [sumL], Same.refl _⟩
  case round =>
    obtain ⟨j, hj, rfl, rfl, hs⟩ := hrel
    by_cases hjn : j < n
    · have hdj : d[j]? = some (d[j]'(by omega)) := List.getElem?_eq_getElem (by omega)
      generalize d[j]'(by omega) = x at hdj
      have hst := sumL_take (l := d.map cntW) (j := j) (x := cntW x) (by rw [List.getElem?_map, hdj]; rfl)
      have hle := sumL_le (l := d.map cntW) (j + 1)
      unfold cntWS at hwt
      have hcx : cntW x = 1 + x.2.length := rfl
      rcases pairs_at rfl h with h0' | ⟨b, off, rfl, hbl, hcs⟩
      · omega
      obtain ⟨v0, v1, hv0, hv1, hrv⟩ := hcs j _ (markL_at (c := cntW) (mk := markW1) (k := k0) hdj)
      obtain ⟨rfl, hrv'⟩ := wr_rd hrv
      obtain ⟨av, cv, rfl⟩ := row_shape hrv'
      have e1 : (markW1 (k0 + (sumL ((d.map cntW).take j) : Int)) x).2.length = x.2.length := marks_length _ _ _
      rw [e1] at hv1 hrv'
      have hw0 := (hs.cell ⟨b, off + j * 2, none⟩).trans hv0
      have hw1 := (hs.cell ⟨b, off + j * 2 + 1, none⟩).trans hv1
      obtain ⟨hrr, _, _, _⟩ := ints_rd (hrv'.same hs)
      have HW := hidden hst
      clear e1
      unfold markW1 at hrr hw0
      simp only at hrr hw0
      generalize sumL ((d.map cntW).take j) = S at hst HW hrr hw0
      clear hcs hdj hv0 hv1 hrv hrv'
      go_wp2_with fail
      refine (heldIntS_any _ _ _ _ _ hrr (by omega) (by omega) (by omega)).mono ?_
      rintro e w2 ⟨rfl, hs2⟩
      go_wp2
      go_roundw
      case rel => exact ⟨j + 1, by omega, by go_num, by rw [HW.out, hcx]; go_num, hs.trans hs2⟩
      case measure => simp [intOf]; omega
    · go_wp2
      go_ret
      have e : j = n := by omega
      subst e
      have ht : (d.map cntW).take j = d.map cntW := List.take_of_length_le (by simp; omega)
      exact ⟨ret_int (by rw [ht]; rfl), hs⟩

/-- The marks of a disk. -/
def markM (k0 : Int) (ss : List (List Int)) (cs : List (Int × List Int)) (f : Bool) (bs : List Int) : List (List Int) × List (Int × List Int) × Bool × List Int :=
  (markSS k0 ss, markW (k0 + (cntSS ss : Int)) cs, f, marks id (k0 + (cntSS ss : Int) + (cntWS cs : Int)) bs.length)
def cntM (ss : List (List Int)) (cs : List (Int × List Int)) (bs : List Int) : Int := (cntSS ss : Int) + (cntWS cs : Int) + (bs.length : Int)

end Go.Proofs.YtbkkjfgjlapadaaGreat

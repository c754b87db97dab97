/-
  The laws' helpers over slices of answers. Conditions: at most 1048576 in all (marks up to 16777216).
-/
import Derived.Test.YtbkkjfgjlapadaaGreatRows14
import Derived.Test.YtbkkjfgjlapadaaGreatAnsLaw14
import Derived.Test.YtbkkjfgjlapadaaGreatWalkMark
namespace Go.Proofs.YtbkkjfgjlapadaaGreat
open Go.RowKit

def wttAnsS (d : List AnsD) : Nat := d.length + sumL (d.map fun x => x.2.2.length)
theorem ans_inner {d : List AnsD} {j : Nat} {x : AnsD} (h : d[j]? = some x) : x.2.2.length + sumL ((d.map fun x => x.2.2.length).take j) ≤ sumL (d.map fun x => x.2.2.length) := by
  have h1 := sumL_take (l := d.map fun x => x.2.2.length) (j := j) (x := x.2.2.length) (by rw [List.getElem?_map, h]; rfl)
  have h2 := sumL_le (l := d.map fun x => x.2.2.length) (j + 1)
  omega
/-- A slice of such, at an index. -/
theorem ansS_at {E : TypeId} {w : World} {a : Option Addr} {n cap : Nat} {d : List AnsD} (h : (tAnsS E).Rd w [.slice a n cap] d) :
    n = 0 ∨ ∃ b off, a = some ⟨b, off, none⟩ ∧ b < w.heap.size ∧ ∀ (i : Nat) (d1 c1 : Int) (zs : List Int), d[i]? = some (d1, c1, zs) → ∃ av cv, w.cell? ⟨b, off + i * 3, none⟩ = some (.int .i64 d1) ∧ w.cell? ⟨b, off + i * 3 + 1, none⟩ = some (.int .i64 c1) ∧ w.cell? ⟨b, off + i * 3 + 2, none⟩ = some (.slice av zs.length cv) ∧ tIntS.Rd w [.slice av zs.length cv] zs := by
  rcases rowN_at h with h0 | ⟨b, off, ha, hlt, hc⟩
  · exact .inl h0
  · refine .inr ⟨b, off, ha, hlt, fun i d1 c1 zs hi => ?_⟩
    obtain ⟨cs, hl, hr, hcc⟩ := hc i _ hi
    obtain ⟨v0, v1, v2, rfl⟩ : ∃ v0 v1 v2, cs = [v0, v1, v2] := by
      match cs, hl with
      | [v0, v1, v2], _ => exact ⟨v0, v1, v2, rfl⟩
    obtain ⟨rfl, hr0⟩ := int_rd hr
    obtain ⟨rfl, hr1⟩ := int_rd hr0
    obtain ⟨av, cv, rfl⟩ := row_shape hr1
    exact ⟨av, cv, hcc 0 (by show 0 < 3; omega), hcc 1 (by show 1 < 3; omega), hcc 2 (by show 2 < 3; omega), hr1⟩

set_option maxHeartbeats 1600000 in
theorem eqAnsS_same (w : World) (E E' : TypeId) (a a' : Option Addr) (n ca cb : Nat) (d : List AnsD) (h : (tAnsS E).Rd w [.slice a n ca] d) (h' : (tAnsS E').Rd w [.slice a' n cb] d) (hw : wttAnsS d ≤ 2097152) :
    Calls Tryz.prog 97 #[.slice a n ca, .slice a' n cb] w fun e w' => e = .returned (.bool true) ∧ Below w.heap.size w w' := by
  obtain ⟨hl, hc, hm⟩ := row_length h
  have hn : n ≤ 2097152 := by unfold wttAnsS at hw; omega
  go_enter Tryz.func97, Tryz.ntmps97
  go_wp2
  go_loopw [5] (fun i wr => ∃ j : Nat, j ≤ n ∧ i = .int .i64 j ∧ Below w.heap.size w wr) (fun i _ => n - (intOf i).toNat)
  case atStart => exact ⟨0, Nat.zero_le _, rfl, Below.refl _ _⟩
  case round =>
    obtain ⟨j, hj, rfl, hb⟩ := hrel
    by_cases hjn : j < n
    · rcases ansS_at h with h0' | ⟨b, off, rfl, hbl, hcs⟩
      · omega
      rcases ansS_at h' with h0' | ⟨b2, off2, rfl, hbl2, hcs2⟩
      · omega
      obtain ⟨d1, c1, zs, hdj⟩ : ∃ d1 c1 zs, d[j]? = some (d1, c1, zs) := ⟨_, _, _, List.getElem?_eq_getElem (by omega)⟩
      have hin := ans_inner hdj
      have hlen : zs.length ≤ 2097152 := by unfold wttAnsS at hw; simp only at hin; omega
      obtain ⟨av, cv, hc0, hc1, hc2, hrv⟩ := hcs j d1 c1 zs hdj
      obtain ⟨av2, cv2, hd0, hd1, hd2, hrv2⟩ := hcs2 j d1 c1 zs hdj
      have hw0 := (hb.cell (p := ⟨b, off + j * 3, none⟩) hbl).trans hc0
      have hw1 := (hb.cell (p := ⟨b, off + j * 3 + 1, none⟩) hbl).trans hc1
      have hw2 := (hb.cell (p := ⟨b, off + j * 3 + 2, none⟩) hbl).trans hc2
      have hu0 := (hb.cell (p := ⟨b2, off2 + j * 3, none⟩) hbl2).trans hd0
      have hu1 := (hb.cell (p := ⟨b2, off2 + j * 3 + 1, none⟩) hbl2).trans hd1
      have hu2 := (hb.cell (p := ⟨b2, off2 + j * 3 + 2, none⟩) hbl2).trans hd2
      have r1 := hrv.below hb
      have r2 := hrv2.below hb
      have zx : b < wr.heap.size := Nat.lt_of_lt_of_le hbl hb.size
      have zy : b2 < wr.heap.size := Nat.lt_of_lt_of_le hbl2 hb.size
      have i1 : (0 : Int) ≤ (j : Int) := by omega
      have i2 : (j : Int) < (n : Int) := by omega
      clear hcs hcs2 hdj hc0 hc1 hc2 hd0 hd1 hd2 hrv hrv2 hin
      go_wp2_with fail
      go_region_held3 (fun w' => w'.cell? ⟨b, off + j * 3, none⟩ = some (.int .i64 d1) ∧ w'.cell? ⟨b, off + j * 3 + 1, none⟩ = some (.int .i64 c1) ∧ w'.cell? ⟨b, off + j * 3 + 2, none⟩ = some (.slice av zs.length cv) ∧ w'.cell? ⟨b2, off2 + j * 3, none⟩ = some (.int .i64 d1) ∧ w'.cell? ⟨b2, off2 + j * 3 + 1, none⟩ = some (.int .i64 c1) ∧ w'.cell? ⟨b2, off2 + j * 3 + 2, none⟩ = some (.slice av2 zs.length cv2))
        (first | (exact ⟨(hbC.cell (p := ⟨b, off + j * 3, none⟩) zx).trans hw0, (hbC.cell (p := ⟨b, off + j * 3 + 1, none⟩) zx).trans hw1, (hbC.cell (p := ⟨b, off + j * 3 + 2, none⟩) zx).trans hw2, (hbC.cell (p := ⟨b2, off2 + j * 3, none⟩) zy).trans hu0, (hbC.cell (p := ⟨b2, off2 + j * 3 + 1, none⟩) zy).trans hu1, (hbC.cell (p := ⟨b2, off2 + j * 3 + 2, none⟩) zy).trans hu2⟩) | (exact ⟨hw0, hw1, hw2, hu0, hu1, hu2⟩) | go_keep)
        (first | (go_at_call 177; refine (eqAns_same _ d1 c1 _ _ _ _ _ zs (by exact r1.drew) (by exact r2.drew) hlen).mono ?_; rintro e wC ⟨rfl, hbC0⟩; have hbC : Below wr.heap.size wr wC := (Below.refl wr.heap.size wr).drew.trans hbC0))
      go_wp2
      go_roundw
      case rel => exact ⟨j + 1, by omega, by go_num, Below.andThen hb hbC⟩
      case measure => simp [intOf]; omega
    · go_wp2
      go_ret
      exact ⟨rfl, hb⟩

def cntAns (x : AnsD) : Nat := 2 + x.2.2.length
def markAns1 (k : Int) (x : AnsD) : AnsD := (k, k + 1, marks id (k + 1 + 1) x.2.2.length)
def marktAnsS (k0 : Int) (d : List AnsD) : List AnsD := markL cntAns markAns1 k0 d
def cnttAnsS (d : List AnsD) : Nat := sumL (d.map cntAns)
theorem cnttAnsS_le (d : List AnsD) : cnttAnsS d ≤ 2 * wttAnsS d := by
  unfold cnttAnsS wttAnsS
  induction d with
  | nil => simp [sumL]
  | cons x d ih =>
    simp only [List.map_cons, sumL, List.foldr_cons, List.length_cons] at *
    unfold cntAns at *
    omega

set_option maxHeartbeats 3200000 in
theorem markAnsS_fp (w : World) (a : Option Addr) (n cap : Nat) (d : List AnsD) (k0 : Int) (fp : List Nat) (h : (tAnsS 55).Mine w [.slice a n cap] d fp) (hw : wttAnsS d ≤ 2097152) (hk : 0 ≤ k0) (hk' : k0 + (cnttAnsS d : Int) ≤ 16777216) :
    Calls Tryz.prog 103 #[.slice a n cap, .int .i64 k0] w fun e w' => e = .returned (.int .i64 (k0 + (cnttAnsS d : Int))) ∧ (tAnsS 55).Mine w' [.slice a n cap] (marktAnsS k0 d) fp ∧ Turned fp w w' := by
  obtain ⟨hl, hc, hm⟩ := row_length h.rd
  have hmL : (marktAnsS k0 d).length = d.length := markL_length _ _ _ _
  have hnn : n ≤ 2097152 := by unfold wttAnsS at hw; omega
  go_enter Tryz.func103, Tryz.ntmps103
  go_wp2
  go_loopw [1, 5] (fun kk i wr => ∃ j : Nat, j ≤ n ∧ i = .int .i64 j ∧ kk = .int .i64 (k0 + (sumL ((d.map cntAns).take j) : Int)) ∧ (tAnsS 55).Mine wr [.slice a n cap] ((marktAnsS k0 d).take j ++ d.drop j) fp ∧ Turned fp w wr) (fun _ i _ => n - (intOf i).toNat)
  case atStart => exact ⟨0, Nat.zero_le _, rfl, by simp [sumL], by simpa using h, Turned.refl _ _⟩
  case round =>
    obtain ⟨j, hj, rfl, rfl, ho, hb⟩ := hrel
    by_cases hjn : j < n
    · obtain ⟨d1, c1, zs, hdj⟩ : ∃ d1 c1 zs, d[j]? = some (d1, c1, zs) := ⟨_, _, _, List.getElem?_eq_getElem (by omega)⟩
      have hin := ans_inner hdj
      have hlen : zs.length ≤ 2097152 := by unfold wttAnsS at hw; simp only at hin; omega
      have hst := sumL_take (l := d.map cntAns) (j := j) (x := 2 + zs.length) (by rw [List.getElem?_map, hdj]; rfl)
      have hle := sumL_le (l := d.map cntAns) (j + 1)
      unfold cnttAnsS at hk'
      have HM := hidden (turn_step hmL (markL_at (c := cntAns) (mk := markAns1) (k := k0) hdj))
      have hat := turn_at (m := marktAnsS k0 d) hmL hdj
      have HW := hidden hst
      generalize sumL ((d.map cntAns).take j) = S at hst HM HW
      have hS : k0 + (S : Int) + 2 + zs.length ≤ 16777216 := by omega
      rcases row_ow_shape ho with h0' | ⟨g, rfl⟩
      · omega
      obtain ⟨cs1, f1, ow1, hgf, hgp, hf1, hcc, hfz, _, back⟩ := row_open ho hat
      obtain ⟨v0, v1, v2, rfl⟩ : ∃ v0 v1 v2, cs1 = [v0, v1, v2] := by
        match cs1, tAns.rdLen (tAns.owRd ow1.1) with
        | [v0, v1, v2], _ => exact ⟨v0, v1, v2, rfl⟩
      obtain ⟨rfl, m0⟩ := int_mine ow1
      obtain ⟨rfl, m1⟩ := int_mine m0
      obtain ⟨av, cv, rfl⟩ := row_shape m1.rd
      have hc0 : wr.cell? ⟨g, j * 3, none⟩ = some (.int .i64 d1) := hcc 0 (by show 0 < 3; omega)
      have hc1 : wr.cell? ⟨g, j * 3 + 1, none⟩ = some (.int .i64 c1) := hcc 1 (by show 1 < 3; omega)
      have hc2 : wr.cell? ⟨g, j * 3 + 2, none⟩ = some (.slice av zs.length cv) := hcc 2 (by show 2 < 3; omega)
      have hlt := ho.lt
      have hfq := hfz
      have hT1 : Turned [g] wr ((wr.setCell ⟨g, j * 3, none⟩ (.int .i64 (k0 + (S : Int)))).setCell ⟨g, j * 3 + 1, none⟩ (.int .i64 (k0 + (S : Int) + 1))) := setCells_turned [.int .i64 (k0 + (S : Int)), .int .i64 (k0 + (S : Int) + 1)] (j * 3) wr
      have hmv1 := m1.kept hT1 (fun b hb hb' => hgf (by simp at hb'; exact hb' ▸ hb))
      have HBK := hidden back
      have HOW := hidden hmv1
      have HT1 := hidden hT1
      have HLT := hidden hlt
      have HCL := hidden hc2
      clear hcc back ow1 m0 m1 hat hdj ho hst hmv1 hT1 hlt hfz hin
      go_wp2_with fail
      refine (markIntS_fp _ _ _ _ zs _ f1 HOW.out (by omega) (by omega) (by omega)).mono ?_
      rintro e w2 ⟨rfl, o2, hb2⟩
      have hsz : ((wr.setCell ⟨g, j * 3, none⟩ (.int .i64 (k0 + (S : Int)))).setCell ⟨g, j * 3 + 1, none⟩ (.int .i64 (k0 + (S : Int) + 1))).heap.size = wr.heap.size := setCells_size (g := g) [.int .i64 (k0 + (S : Int)), .int .i64 (k0 + (S : Int) + 1)] (j * 3) wr
      have hglt : g < wr.heap.size := HLT.out g hgp
      have hO := HBK.out w2 [.int .i64 (k0 + (S : Int)), .int .i64 (k0 + (S : Int) + 1), .slice av zs.length cv] (k0 + (S : Int), k0 + (S : Int) + 1, marks id (k0 + (S : Int) + 1 + 1) zs.length)
        (int_mine_of (int_mine_of (o2)))
        (fun b hb hbf hbg => (hb2.block b (by rw [hsz]; exact HLT.out b hb) hbf).trans (HT1.out.block b (HLT.out b hb) (by simpa using hbg)))
        (Nat.le_trans HT1.out.size hb2.size)
        (fun cur hcur hcs hnc => by
          have hcs' : cur.size = cap * 3 := hcs
          have hfit : j * 3 + 2 ≤ cur.size := by omega
          obtain ⟨cur', k1, k2, k3⟩ := setCells_row (E := 55) [.int .i64 (k0 + (S : Int)), .int .i64 (k0 + (S : Int) + 1)] (j * 3) wr cur hcur hfit
          refine ⟨cur', (hb2.block g (by rw [hsz]; exact hglt) hgf).trans k1, k2, fun k => ?_⟩
          have k3' : cur'.toList[k]? = if j * 3 ≤ k ∧ k < j * 3 + 2 then ([.int .i64 (k0 + (S : Int)), .int .i64 (k0 + (S : Int) + 1)] : List Value)[k - j * 3]? else cur.toList[k]? := k3 k
          show cur'.toList[k]? = if j * 3 ≤ k ∧ k < (j + 1) * 3 then ([.int .i64 (k0 + (S : Int)), .int .i64 (k0 + (S : Int) + 1), .slice av zs.length cv] : List Value)[k - j * 3]? else cur.toList[k]?
          rw [k3']
          by_cases h5 : k = j * 3 + 2
          · subst h5
            rw [if_neg (by omega), if_pos (by omega), Nat.add_sub_cancel_left]
            have := HCL.out
            rw [cell_of_row wr g _ cur _ (0, 0) hcur] at this
            rw [Array.getElem?_toList, this]
            rfl
          · by_cases h6 : j * 3 ≤ k ∧ k < j * 3 + 2
            · rw [if_pos h6, if_pos (by omega)]
              have hq : k - j * 3 < 2 := by omega
              exact (List.getElem?_append_left (l₁ := ([.int .i64 (k0 + (S : Int)), .int .i64 (k0 + (S : Int) + 1)] : List Value)) (l₂ := [.slice av zs.length cv]) hq).symm
            · rw [if_neg h6, if_neg (by omega)])
      have e2 : markAns1 (k0 + (S : Int)) (d1, c1, zs) = (k0 + (S : Int), k0 + (S : Int) + 1, marks id (k0 + (S : Int) + 1 + 1) zs.length) := rfl
      rw [← e2, HM.out] at hO
      have HO := hidden hO
      have HB := (hb.trans (HT1.out.mono (by simpa using hgp))).trans (hb2.mono hf1)
      clear hO o2 hb2 HBK hb e2 hsz HT1 HLT HCL
      go_wp2
      go_roundw
      case rel => exact ⟨j + 1, by omega, by go_num, by rw [HW.out]; go_num, HO.out, HB⟩
      case measure => simp [intOf]; omega
    · go_wp2
      go_ret
      have e : j = n := by omega
      subst e
      have ht : (d.map cntAns).take j = d.map cntAns := List.take_of_length_le (by simp; omega)
      rw [List.take_of_length_le (by omega), List.drop_of_length_le (by omega), List.append_nil] at ho
      exact ⟨ret_int (by rw [ht]; rfl), ho, hb⟩

set_option maxHeartbeats 1600000 in
theorem heldAnsS_any (w : World) (E : TypeId) (a : Option Addr) (n cap : Nat) (d : List AnsD) (k0 : Int) (h : (tAnsS E).Rd w [.slice a n cap] (marktAnsS k0 d)) (hw : wttAnsS d ≤ 2097152) (hk : 0 ≤ k0) (hk' : k0 + (cnttAnsS d : Int) ≤ 16777216) :
    Calls Tryz.prog 109 #[.slice a n cap, .int .i64 k0] w fun e w' => e = .returned (.int .i64 (k0 + (cnttAnsS d : Int))) ∧ Same w w' := by
  obtain ⟨hl, hc, hm⟩ := row_length h
  have hmL : (marktAnsS k0 d).length = d.length := markL_length _ _ _ _
  rw [hmL] at hl
  have hn : n ≤ 2097152 := by unfold wttAnsS at hw; omega
  go_enter Tryz.func109, Tryz.ntmps109
  go_wp2
  go_loopw [1, 5] (fun kk i wr => ∃ j : Nat, j ≤ n ∧ i = .int .i64 j ∧ kk = .int .i64 (k0 + (sumL ((d.map cntAns).take j) : Int)) ∧ Same w wr) (fun _ i _ => n - (intOf i).toNat)
  case atStart => exact ⟨0, Nat.zero_le _, rfl, by simp [sumL], Same.refl _⟩
  case round =>
    obtain ⟨j, hj, rfl, rfl, hs⟩ := hrel
    by_cases hjn : j < n
    · obtain ⟨d1, c1, zs, hdj⟩ : ∃ d1 c1 zs, d[j]? = some (d1, c1, zs) := ⟨_, _, _, List.getElem?_eq_getElem (by omega)⟩
      have hin := ans_inner hdj
      have hlen : zs.length ≤ 2097152 := by unfold wttAnsS at hw; simp only at hin; omega
      have hst := sumL_take (l := d.map cntAns) (j := j) (x := 2 + zs.length) (by rw [List.getElem?_map, hdj]; rfl)
      have hle := sumL_le (l := d.map cntAns) (j + 1)
      unfold cnttAnsS at hk'
      rcases ansS_at h with h0' | ⟨b, off, rfl, hbl, hcs⟩
      · omega
      obtain ⟨av, cv, hc0, hc1, hc2, hrv⟩ := hcs j _ _ _ (markL_at (c := cntAns) (mk := markAns1) (k := k0) hdj)
      have HW := hidden hst
      have hrr := (ints_rd (hrv.same hs)).1
      have hw2 := (hs.cell ⟨b, off + j * 3 + 2, none⟩).trans hc2
      have hw0 := (hs.cell ⟨b, off + j * 3, none⟩).trans hc0
      have hw1 := (hs.cell ⟨b, off + j * 3 + 1, none⟩).trans hc1
      simp only [marks_length] at hw0 hw1 hrr hw2
      generalize sumL ((d.map cntAns).take j) = S at hst HW hrr hw0 hw1
      clear hcs hdj hc0 hc1 hc2 hrv hin
      go_wp2_with fail
      refine (heldIntS_any _ _ _ _ _ hrr (by omega) (by omega) (by omega)).mono ?_
      rintro e w2 ⟨rfl, hs2⟩
      have HS := hidden (hs.trans hs2)
      clear hs hs2
      go_wp2
      go_roundw
      case rel => exact ⟨j + 1, by omega, by go_num, by rw [HW.out]; go_num, HS.out⟩
      case measure => simp [intOf]; omega
    · go_wp2
      go_ret
      have e : j = n := by omega
      subst e
      have ht : (d.map cntAns).take j = d.map cntAns := List.take_of_length_le (by simp; omega)
      exact ⟨ret_int (by rw [ht]; rfl), hs⟩

end Go.Proofs.YtbkkjfgjlapadaaGreat

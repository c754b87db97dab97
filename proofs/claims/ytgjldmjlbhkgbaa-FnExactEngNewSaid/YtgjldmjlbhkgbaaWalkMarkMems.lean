/-
  The walk of the laws' mark over slices of disks: every number, flag and word is marked in place, one behind the other. Condition: they weigh at most 2097152, and the first mark and the weight together at most 2097153.
-/
import Derived.Test.YtgjldmjlbhkgbaaWalkMems
namespace Go.Proofs.Ytgjldmjlbhkgbaa
open Go.RowKit

def cntMD (x : MemD) : Nat := cntSS x.1 + cntWS x.2.1 + 1 + x.2.2.2.length
def markMD (k : Int) (x : MemD) : MemD := (markSS k x.1, markW (k + (cntSS x.1 : Int)) x.2.1, decide ((k + (cntSS x.1 : Int) + (cntWS x.2.1 : Int)) % 3 = 0), marks id (k + (cntSS x.1 : Int) + (cntWS x.2.1 : Int) + 1) x.2.2.2.length)
def markMS (k0 : Int) (d : List MemD) : List MemD := markL cntMD markMD k0 d
def cntMS (d : List MemD) : Nat := sumL (d.map cntMD)
theorem cntMS_le (d : List MemD) : cntMS d ≤ wtMemS d := by
  unfold cntMS wtMemS
  induction d with
  | nil => simp [sumL]
  | cons x d ih =>
    have h1 : cntMD x ≤ wtMem x + 1 := by
      have := Nat.le_of_eq (cntWS_wt x.2.1)
      unfold cntMD wtMem wtIntSS cntSS
      omega
    have e1 : sumL ((x :: d).map cntMD) = cntMD x + sumL (d.map cntMD) := by simp [sumL]
    have e2 : sumL ((x :: d).map wtMem) = wtMem x + sumL (d.map wtMem) := by simp [sumL]
    rw [e1, e2, List.length_cons]
    omega

set_option maxHeartbeats 6400000 in
theorem markMemS_fp (w : World) (a : Option Addr) (n cap : Nat) (d : List MemD) (k0 : Int) (fp : List Nat) (h : (tMemS 100 57).Mine w [.slice a n cap] d fp) (hw : wtMemS d ≤ 2097152) (hk : 0 ≤ k0) (hk' : k0 + (wtMemS d : Int) ≤ 2097153) :
    Calls Try.prog 43 #[.slice a n cap, .int .i64 k0] w fun e w' => e = .returned (.int .i64 (k0 + (cntMS d : Int))) ∧ (tMemS 100 57).Mine w' [.slice a n cap] (markMS k0 d) fp ∧ Turned fp w w' := by
  obtain ⟨hl, hc, hm⟩ := row_length h.rd
  have hmL : (markMS k0 d).length = d.length := markL_length _ _ _ _
  have hnn : n ≤ 2097152 := by unfold wtMemS at hw; omega
  have hwt := cntMS_le d
  go_enter Try.func43, Try.ntmps43
  go_wp2
  go_loopw [1, 5] (fun kk i wr => ∃ j : Nat, j ≤ n ∧ i = .int .i64 j ∧ kk = .int .i64 (k0 + (sumL ((d.map cntMD).take j) : Int)) ∧ (tMemS 100 57).Mine wr [.slice a n cap] ((markMS k0 d).take j ++ d.drop j) fp ∧ Turned fp w wr) (fun _ i _ => n - (intOf i).toNat)
  case atStart => exact ⟨0, Nat.zero_le _, rfl, by simp [sumL], by simpa using h, Turned.refl _ _⟩
  case round =>
    obtain ⟨j, hj, rfl, rfl, ho, hb⟩ := hrel
    by_cases hjn : j < n
    · have hdj : d[j]? = some (d[j]'(by omega)) := List.getElem?_eq_getElem (by omega)
      generalize d[j]'(by omega) = x at hdj
      have hst := sumL_take (l := d.map cntMD) (j := j) (x := cntMD x) (by rw [List.getElem?_map, hdj]; rfl)
      have hle := sumL_le (l := d.map cntMD) (j + 1)
      have hin := Nat.le_trans (inner_leM hdj) hw
      unfold cntMS at hwt
      have HM := hidden (turn_step hmL (markL_at (c := cntMD) (mk := markMD) (k := k0) hdj))
      have hat := turn_at (m := markMS k0 d) hmL hdj
      have HW := hidden hst
      generalize sumL ((d.map cntMD).take j) = S at hst HM HW
      obtain ⟨ss, cs, f, bs⟩ := x
      have hcx : cntMD (ss, cs, f, bs) = cntSS ss + cntWS cs + 1 + bs.length := rfl
      have hin0 : wtIntSS ss ≤ 2097152 := by unfold wtMem at hin; simp only at hin; omega
      have hin1 : wtWrS cs ≤ 2097152 := by unfold wtMem at hin; simp only at hin; omega
      have hin3 : bs.length ≤ 2097152 := by unfold wtMem at hin; simp only at hin; omega
      have hcw := Nat.le_of_eq (cntWS_wt cs)
      have hcw' := Nat.le_of_eq (cntWS_wt cs).symm
      have hS : k0 + (S : Int) + (cntSS ss : Int) + (cntWS cs : Int) + 1 + (bs.length : Int) ≤ 2097153 := by omega
      rcases row_ow_shape ho with h0' | ⟨g, rfl⟩
      · omega
      obtain ⟨cs1, f1, ow1, hgf, hgp, hf1, hcc, hfz, _, back⟩ := row_open ho hat
      have hcl := (tMem 100).rdLen ((tMem 100).owRd ow1.1)
      obtain ⟨v0, v1, v2, v3, rfl⟩ : ∃ v0 v1 v2 v3, cs1 = [v0, v1, v2, v3] := by
        match cs1, hcl with
        | [v0, v1, v2, v3], _ => exact ⟨v0, v1, v2, v3, rfl⟩
      obtain ⟨f0, g1, rfl, m0, ow2, d0⟩ := pair_mine (t := tIntSS) (u := pairTy (tWrS 100) (pairTy boolTy tIntS)) (vs := [v0]) (us := [v1, v2, v3]) rfl ow1
      obtain ⟨fc, g2, rfl, m1, ow3, d1⟩ := pair_mine (t := tWrS 100) (u := pairTy boolTy tIntS) (vs := [v1]) (us := [v2, v3]) rfl ow2
      obtain ⟨fb, f3, rfl, ⟨⟨hv2, hfb⟩, _⟩, m3, _⟩ := pair_mine (t := boolTy) (u := tIntS) (vs := [v2]) (us := [v3]) rfl ow3
      simp at hv2
      subst hv2
      subst hfb
      rw [List.nil_append] at *
      have hc0 : wr.cell? ⟨g, j * 4, none⟩ = some v0 := hcc 0 (by show 0 < 4; omega)
      have hc1 : wr.cell? ⟨g, j * 4 + 1, none⟩ = some v1 := hcc 1 (by show 1 < 4; omega)
      have hc2 : wr.cell? ⟨g, j * 4 + 2, none⟩ = some (.bool f) := hcc 2 (by show 2 < 4; omega)
      have hc3 : wr.cell? ⟨g, j * 4 + 3, none⟩ = some v3 := hcc 3 (by show 3 < 4; omega)
      obtain ⟨a0, e0, rfl⟩ := row_shape m0.rd
      obtain ⟨a1, e1', rfl⟩ := row_shape m1.rd
      obtain ⟨a3, e3, rfl⟩ := row_shape m3.rd
      have hlt := ho.lt
      have ng0 : g ∉ f0 := fun hm => hgf (List.mem_append_left _ hm)
      have ngc : g ∉ fc := fun hm => hgf (List.mem_append_right _ (List.mem_append_left _ hm))
      have ng3 : g ∉ f3 := fun hm => hgf (List.mem_append_right _ (List.mem_append_right _ hm))
      have d0c : ∀ b ∈ fc, b ∉ f0 := fun b hb hb' => d0 b hb' (List.mem_append_left _ hb)
      have d03 : ∀ b ∈ f3, b ∉ f0 := fun b hb hb' => d0 b hb' (List.mem_append_right _ hb)
      have dc3 : ∀ b ∈ f3, b ∉ fc := fun b hb hb' => d1 b hb' hb
      have hgl : g < wr.heap.size := hlt g hgp
      obtain ⟨cur, hcur, hcsz, hncap, _⟩ := row_block (ho.own (lo := 0) (hi := wr.heap.size) (fun b hb => ⟨Nat.zero_le _, ho.lt b hb⟩))
      have XB : Box wr g 57 cur := hcur
      have HBK := hidden back
      have HLT := hidden hlt
      have HF1 := hidden hf1
      have HFZ := hidden hfz
      have M0 := hidden m0
      have M1 := hidden m1
      have M3 := hidden m3
      have DD := hidden (And.intro d0 d1)
      have HG := hidden hgf
      have i1 : (0 : Int) ≤ (j : Int) := by omega
      have i2 : (j : Int) < (n : Int) := by omega
      clear hcc back hcl ow1 ow2 ow3 hat hdj ho hst hlt hfz hf1 m0 m1 m3 d0 d1 hgf
      have e1 : (k0 + (S : Int) + (cntSS ss : Int) + (cntWS cs : Int)).tmod 3 = (k0 + (S : Int) + (cntSS ss : Int) + (cntWS cs : Int)) % 3 := Int.tmod_eq_emod_of_nonneg (by omega)
      have HXB := hidden XB
      have HC := hidden (And.intro hc0 (And.intro hc1 hc3))
      clear XB hcur
      go_wp2_with fail
      refine (markIntSS_fp _ _ _ _ ss _ f0 M0.out hin0 (by omega) (by omega)).mono ?_
      rintro e w1 ⟨rfl, o1, t1⟩
      have b1 := t1.block g hgl ng0
      have kc1 := (cell_kept b1 (j * 4 + 1)).trans hc1
      have kc2 := (cell_kept b1 (j * 4 + 2)).trans hc2
      have kc3 := (cell_kept b1 (j * 4 + 3)).trans hc3
      have X1 := hidden (HXB.out.kept b1)
      have z1 := t1.size
      have M1' := hidden (M1.out.kept t1 d0c)
      have M3' := hidden (M3.out.kept t1 d03)
      have O1 := hidden o1
      have T1 := hidden t1
      clear hc0 hc1 hc2 hc3 b1 o1 t1 M0 M1 M3 HXB
      have hg1 : g < w1.heap.size := Nat.lt_of_lt_of_le hgl z1
      go_wp2_with fail
      refine (markWrS_fp _ _ _ _ cs _ fc M1'.out hin1 (by omega) (by omega)).mono ?_
      rintro e w2 ⟨rfl, o2, t2⟩
      have b2 := t2.block g hg1 ngc
      have lc2 := (cell_kept b2 (j * 4 + 2)).trans kc2
      have lc3 := (cell_kept b2 (j * 4 + 3)).trans kc3
      have x2 := X1.out.kept b2
      have X2 := hidden x2
      have ff := x2.frozen (j * 4 + 2)
      have z2 := t2.size
      have M3'' := hidden (M3'.out.kept t2 dc3)
      have O1' := hidden (O1.out.kept t2 (fun b hb hb' => d0c b hb' hb))
      have O2 := hidden o2
      have T2 := hidden t2
      have T3 : Hid (Turned [g] w2 (w2.setCell ⟨g, j * 4 + 2, none⟩ (.bool (decide ((k0 + (S : Int) + (cntSS ss : Int) + (cntWS cs : Int)) % 3 = 0))))) := Turned.setCell _ (by simp)
      have M3t := hidden (M3''.out.kept T3.out (fun b hb hb' => ng3 (by simp at hb'; exact hb' ▸ hb)))
      have O1t := hidden (O1'.out.kept T3.out (fun b hb hb' => ng0 (by simp at hb'; exact hb' ▸ hb)))
      have O2t := hidden (O2.out.kept T3.out (fun b hb hb' => ngc (by simp at hb'; exact hb' ▸ hb)))
      have X3 := hidden (x2.set (j * 4 + 2) (.bool (decide ((k0 + (S : Int) + (cntSS ss : Int) + (cntWS cs : Int)) % 3 = 0))))
      clear kc1 kc2 kc3 b2 o2 t2 X1 M1' M3' M3'' O1 O1' O2 x2
      have hg2 : g < w2.heap.size := Nat.lt_of_lt_of_le hg1 z2
      go_wp2_with fail
      generalize hw3 : w2.setCell ⟨g, j * 4 + 2, none⟩ (.bool (decide ((k0 + (S : Int) + (cntSS ss : Int) + (cntWS cs : Int)) % 3 = 0))) = w3 at T3 M3t O1t O2t X3 ⊢
      clear hw3
      refine (markIntS_fp _ _ _ _ bs _ f3 M3t.out (by omega) (by omega) (by omega)).mono ?_
      rintro e w4 ⟨rfl, o3, t4⟩
      have z3 := T3.out.size
      have z4 := t4.size
      have hg3 : g < w3.heap.size := Nat.lt_of_lt_of_le hg2 z3
      have hO := HBK.out w4 [.slice a0 ss.length e0, .slice a1 cs.length e1', .bool (decide ((k0 + (S : Int) + (cntSS ss : Int) + (cntWS cs : Int)) % 3 = 0)), .slice a3 bs.length e3] (markMD (k0 + (S : Int)) (ss, cs, f, bs))
        (pair_mine_of (t := tIntSS) (vs := [_]) (us := [_, _, _]) (O1t.out.kept t4 (fun b hb hb' => d03 b hb' hb)) (pair_mine_of (t := tWrS 100) (vs := [_]) (us := [_, _]) (O2t.out.kept t4 (fun b hb hb' => dc3 b hb' hb)) (pair_mine_of (t := boolTy) (u := tIntS) (vs := [_]) (us := [_]) (f1 := []) ⟨⟨rfl, rfl⟩, by simp⟩ o3 (by simp)) DD.out.2) DD.out.1)
        (fun b hb hbf hbg => by
          have n0 : b ∉ f0 := fun hm => hbf (List.mem_append_left _ hm)
          have nc : b ∉ fc := fun hm => hbf (List.mem_append_right _ (List.mem_append_left _ hm))
          have n3 : b ∉ f3 := fun hm => hbf (List.mem_append_right _ (List.mem_append_right _ hm))
          have l0 := HLT.out b hb
          rw [t4.block b (by omega) n3, T3.out.block b (by omega) (by simpa using hbg), T2.out.block b (by omega) nc, T1.out.block b l0 n0])
        (by omega)
        (fun cur2 hcur2 hcs2 hnc2 => by
          have hX := X3.out
          have e2 : cur2 = cur := by
            have h1 := X2.out
            have h2 : w2.heap[g]? = wr.heap[g]? := by rw [T2.out.block g hg1 ngc, T1.out.block g hgl ng0]
            unfold Box at h1
            rw [h2, hcur2] at h1
            simpa using h1
          subst e2
          refine ⟨_, (t4.block g hg3 ng3).trans hX, by simp, fun k => ?_⟩
          have hcs' : cur2.size = cap * 4 := hcs2
          rw [Array.toList_setIfInBounds]
          obtain ⟨p0, p1, p3⟩ := HC.out
          rw [cell_of_row wr g _ cur2 _ (0, 0) hcur2] at p0 p1 p3
          simp only [show (1 + (1 + (1 + 1)) : Nat) = 4 from rfl]
          by_cases k0' : k = j * 4
          · subst k0'
            rw [List.getElem?_set_ne (by omega), if_pos (by omega), Nat.sub_self, Array.getElem?_toList, p0]
            rfl
          · by_cases k1 : k = j * 4 + 1
            · subst k1
              rw [List.getElem?_set_ne (by omega), if_pos (by omega), Nat.add_sub_cancel_left, Array.getElem?_toList, p1]
              rfl
            · by_cases k2 : k = j * 4 + 2
              · subst k2
                rw [List.getElem?_set_self (by simp; omega), if_pos (by omega), Nat.add_sub_cancel_left]
                rfl
              · by_cases k3 : k = j * 4 + 3
                · subst k3
                  rw [List.getElem?_set_ne (by omega), if_pos (by omega), Nat.add_sub_cancel_left, Array.getElem?_toList, p3]
                  rfl
                · rw [List.getElem?_set_ne (by omega), if_neg (by omega)])
      rw [HM.out] at hO
      have HO := hidden hO
      have HB := hidden ((((hb.trans (T1.out.mono (fun b hm => HF1.out b (List.mem_append_left _ hm)))).trans (T2.out.mono (fun b hm => HF1.out b (List.mem_append_right _ (List.mem_append_left _ hm))))).trans (T3.out.mono (by simpa using hgp))).trans (t4.mono (fun b hm => HF1.out b (List.mem_append_right _ (List.mem_append_right _ hm)))))
      clear hO o3 t4 HBK hb T1 T2 T3 X2 X3 O1t O2t M3t HLT HC
      go_wp2
      go_roundw
      case rel => exact ⟨j + 1, by omega, by go_num, by rw [HW.out, hcx]; go_num, HO.out, HB.out⟩
      case measure => simp [intOf]; omega
    · go_wp2
      go_ret
      have e : j = n := by omega
      subst e
      have ht : (d.map cntMD).take j = d.map cntMD := List.take_of_length_le (by simp; omega)
      rw [List.take_of_length_le (by omega), List.drop_of_length_le (by omega), List.append_nil] at ho
      exact ⟨ret_int (by rw [ht]; rfl), ho, hb⟩

end Go.Proofs.Ytgjldmjlbhkgbaa

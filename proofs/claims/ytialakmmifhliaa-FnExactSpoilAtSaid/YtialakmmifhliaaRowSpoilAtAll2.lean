/-
 SlotOf and DataAt (the program's and the specification's) answer as the definitions here say, and the walks of their exact laws: at every number the law answers true, and nothing that was there has turned. No condition.
-/
import Derived.Test.YtialakmmifhliaaData
import Derived.Test.YtialakmmifhliaaWalkSecOk
import Derived.Test.YtialakmmifhliaaBox
import Derived.Test.YtialakmmifhliaaWalkSpoilSpec
import Derived.Test.YtialakmmifhliaaWalkWriteSpec
import Derived.Test.YtialakmmifhliaaArr7
import Derived.Test.YtialakmmifhliaaWalkWriteSuper
import Derived.Test.YtialakmmifhliaaWalkFlush
import Derived.Test.YtialakmmifhliaaWalkArrOk
import Derived.Test.YtialakmmifhliaaWalkMems
import Derived.Test.YtialakmmifhliaaWalkArr
import Derived.Test.YtialakmmifhliaaHeld
import Derived.Test.YtialakmmifhliaaWalkIn

set_option maxRecDepth 100000
set_option maxHeartbeats 8000000
set_option linter.unusedSimpArgs false

namespace Go.Proofs.Ytialakmmifhliaa
open Go.RowKit

def memZ : MemD := ([], [], false, [])
def MsOk (ms : List MemD) : Prop := ∀ (i : Nat) (d : MemD), ms[i]? = some d -> memB d.1 d.2.1 d.2.2.2 = true

def SameN (x y : ArrN) : Prop := y.id = x.id /\ y.n = x.n /\ y.s = x.s /\ y.lost = x.lost /\ y.built = x.built /\ y.seq = x.seq /\ y.tail = x.tail /\ y.gen = x.gen /\ y.broken = x.broken /\ y.fuse <= 1000 /\ (-1 <= x.fuse -> -1 <= y.fuse)
theorem SameN.refl {x : ArrN} (h : x.fuse <= 1000) : SameN x x := ⟨rfl, rfl, rfl, rfl, rfl, rfl, rfl, rfl, rfl, h, fun h => h⟩
theorem SameN.trans {x y z : ArrN} (h : SameN x y) (k : SameN y z) : SameN x z := by
 obtain ⟨a1, a2, a3, a4, a5, a6, a7, a8, a9, _, b⟩ := h
 obtain ⟨c1, c2, c3, c4, c5, c6, c7, c8, c9, c10, d⟩ := k
 exact ⟨c1.trans a1, c2.trans a2, c3.trans a3, c4.trans a4, c5.trans a5, c6.trans a6, c7.trans a7, c8.trans a8, c9.trans a9, c10, fun h => d (b h)⟩
theorem MsOk.set {ms : List MemD} {i : Nat} {d : MemD} (h : MsOk ms) (hd : memB d.1 d.2.1 d.2.2.2 = true) : MsOk (ms.set i d) := by
 intro k e he
 by_cases hk : k = i
 . subst hk
   by_cases hl : k < ms.length
   . rw [List.getElem?_set_self hl] at he
     simp at he
     subst he
     exact hd
   rw [List.getElem?_eq_none (by rw [List.length_set]; omega)] at he
   cases he
 rw [List.getElem?_set_ne (fun e => hk e.symm)] at he
 exact h k e he

def cntMD (x : MemD) : Nat := cntSS x.1 + cntWS x.2.1 + 1 + x.2.2.2.length
def markMD (k : Int) (x : MemD) : MemD := (markSS k x.1, markW (k + (cntSS x.1 : Int)) x.2.1, decide ((k + (cntSS x.1 : Int) + (cntWS x.2.1 : Int)) % 3 = 0), marks id (k + (cntSS x.1 : Int) + (cntWS x.2.1 : Int) + 1) x.2.2.2.length)
def markMS (k0 : Int) (d : List MemD) : List MemD := markL cntMD markMD k0 d
def cntMS (d : List MemD) : Nat := sumL (d.map cntMD)
theorem cntMS_le (d : List MemD) : cntMS d <= wtMemS d := by
 unfold cntMS wtMemS
 induction d with
 | nil => simp [sumL]
 | cons x d ih =>
  have h1 : cntMD x <= wtMem x + 1 := by
   have := Nat.le_of_eq (cntWS_wt x.2.1)
   unfold cntMD wtMem wtIntSS cntSS
   omega
  have e1 : sumL ((x :: d).map cntMD) = cntMD x + sumL (d.map cntMD) := by simp [sumL]
  have e2 : sumL ((x :: d).map wtMem) = wtMem x + sumL (d.map wtMem) := by simp [sumL]
  rw [e1, e2, List.length_cons]
  omega

theorem markMemS_fp (w : World) (a : Option Addr) (n cap : Nat) (d : List MemD) (k0 : Int) (fp : List Nat) (h : (tMemS 115 75).Mine w [.slice a n cap] d fp) (hw : wtMemS d <= 2097152) (hk : 0 <= k0) (hk' : k0 + (wtMemS d : Int) <= 2097153) :
 Calls Try.prog 46 #[.slice a n cap, .int .i64 k0] w fun e w' => e = .returned (.int .i64 (k0 + (cntMS d : Int))) /\ (tMemS 115 75).Mine w' [.slice a n cap] (markMS k0 d) fp /\ Turned fp w w' := by
 obtain ⟨hl, hc, hm⟩ := row_length h.rd
 have hmL : (markMS k0 d).length = d.length := markL_length _ _ _ _
 have hnn : n <= 2097152 := by unfold wtMemS at hw; omega
 have hwt := cntMS_le d
 go_enter Try.func46, Try.ntmps46
 go_wp2
 go_loopw [1, 5] (fun kk i wr => ∃ j : Nat, j <= n /\ i = .int .i64 j /\ kk = .int .i64 (k0 + (sumL ((d.map cntMD).take j) : Int)) /\ (tMemS 115 75).Mine wr [.slice a n cap] ((markMS k0 d).take j ++ d.drop j) fp /\ Turned fp w wr) (fun _ i _ => n - (intOf i).toNat)
 case atStart => exact ⟨0, Nat.zero_le _, rfl, by simp [sumL], by simpa using h, Turned.refl _ _⟩
 obtain ⟨j, hj, rfl, rfl, ho, hb⟩ := hrel
 by_cases hjn : j < n
 . have hdj : d[j]? = some (d[j]'(by omega)) := List.getElem?_eq_getElem (by omega)
   generalize d[j]'(by omega) = x at hdj
   have hst := sumL_take (l := d.map cntMD) (j := j) (x := cntMD x) (by rw [List.getElem?_map, hdj]; rfl)
   have hle := sumL_le (l := d.map cntMD) (j + 1)
   have hin := Nat.le_trans (inner_leM hdj) hw
   unfold cntMS at hwt
   have HM := hidden (turn_step hmL (markL_at (c := cntMD) (mk := markMD) (k := k0) hdj))
   have hat := turn_at (m := markMS k0 d) hmL hdj
   have HW := hidden hst
   generalize sumL ((d.map cntMD).take j) = S at hst HM HW
   obtain ⟨ss, cs, f, bs⟩ := x
   have hcx : cntMD (ss, cs, f, bs) = cntSS ss + cntWS cs + 1 + bs.length := rfl
   have hin0 : wtIntSS ss <= 2097152 := by unfold wtMem at hin; simp only at hin; omega
   have hin1 : wtWrS cs <= 2097152 := by unfold wtMem at hin; simp only at hin; omega
   have hin3 : bs.length <= 2097152 := by unfold wtMem at hin; simp only at hin; omega
   have hcw := Nat.le_of_eq (cntWS_wt cs)
   have hcw' := Nat.le_of_eq (cntWS_wt cs).symm
   have hS : k0 + (S : Int) + (cntSS ss : Int) + (cntWS cs : Int) + 1 + (bs.length : Int) <= 2097153 := by omega
   rcases row_ow_shape ho with h0' | ⟨g, rfl⟩
   . omega
   obtain ⟨cs1, f1, ow1, hgf, hgp, hf1, hcc, hfz, _, back⟩ := row_open ho hat
   have hcl := (tMem 115).rdLen ((tMem 115).owRd ow1.1)
   obtain ⟨v0, v1, v2, v3, rfl⟩ : ∃ v0 v1 v2 v3, cs1 = [v0, v1, v2, v3] := by
    match cs1, hcl with
    | [v0, v1, v2, v3], _ => exact ⟨v0, v1, v2, v3, rfl⟩
   obtain ⟨f0, g1, rfl, m0, ow2, d0⟩ := pair_mine (t := tIntSS) (u := pairTy (tWrS 115) (pairTy boolTy tIntS)) (vs := [v0]) (us := [v1, v2, v3]) rfl ow1
   obtain ⟨fc, g2, rfl, m1, ow3, d1⟩ := pair_mine (t := tWrS 115) (u := pairTy boolTy tIntS) (vs := [v1]) (us := [v2, v3]) rfl ow2
   obtain ⟨fb, f3, rfl, ⟨⟨hv2, hfb⟩, _⟩, m3, _⟩ := pair_mine (t := boolTy) (u := tIntS) (vs := [v2]) (us := [v3]) rfl ow3
   simp at hv2
   subst hv2
   subst hfb
   rw [List.nil_append] at *
   have hc0 : wr.cell? ⟨g, j * 4, none⟩ = some v0 := hcc 0 (by show 0 < 4; omega)
   have hc1 : wr.cell? ⟨g, j * 4 + 1, none⟩ = some v1 := hcc 1 (by show 1 < 4; omega)
   have hc2 : wr.cell? ⟨g, j * 4 + 2, none⟩ = some (.bool f) := hcc 2 (by show 2 < 4; omega)
   have hc3 : wr.cell? ⟨g, j * 4 + 3, none⟩ = some v3 := hcc 3 (by show 3 < 4; omega)
   obtain ⟨a0, e0, rfl⟩ := row_shape m0.rd
   obtain ⟨a1, e1', rfl⟩ := row_shape m1.rd
   obtain ⟨a3, e3, rfl⟩ := row_shape m3.rd
   have hlt := ho.lt
   have ng0 : g ∉ f0 := fun hm => hgf (List.mem_append_left _ hm)
   have ngc : g ∉ fc := fun hm => hgf (List.mem_append_right _ (List.mem_append_left _ hm))
   have ng3 : g ∉ f3 := fun hm => hgf (List.mem_append_right _ (List.mem_append_right _ hm))
   have d0c : ∀ b ∈ fc, b ∉ f0 := fun b hb hb' => d0 b hb' (List.mem_append_left _ hb)
   have d03 : ∀ b ∈ f3, b ∉ f0 := fun b hb hb' => d0 b hb' (List.mem_append_right _ hb)
   have dc3 : ∀ b ∈ f3, b ∉ fc := fun b hb hb' => d1 b hb' hb
   have hgl : g < wr.heap.size := hlt g hgp
   obtain ⟨cur, hcur, hcsz, hncap, _⟩ := row_block (ho.own (lo := 0) (hi := wr.heap.size) (fun b hb => ⟨Nat.zero_le _, ho.lt b hb⟩))
   have XB : Box wr g 75 cur := hcur
   have HBK := hidden back
   have HLT := hidden hlt
   have HF1 := hidden hf1
   have HFZ := hidden hfz
   have M0 := hidden m0
   have M1 := hidden m1
   have M3 := hidden m3
   have DD := hidden (And.intro d0 d1)
   have HG := hidden hgf
   have i1 : (0 : Int) <= (j : Int) := by omega
   have i2 : (j : Int) < (n : Int) := by omega
   clear hcc back hcl ow1 ow2 ow3 hat hdj ho hst hlt hfz hf1 m0 m1 m3 d0 d1 hgf
   have e1 : (k0 + (S : Int) + (cntSS ss : Int) + (cntWS cs : Int)).tmod 3 = (k0 + (S : Int) + (cntSS ss : Int) + (cntWS cs : Int)) % 3 := Int.tmod_eq_emod_of_nonneg (by omega)
   have HXB := hidden XB
   have HC := hidden (And.intro hc0 (And.intro hc1 hc3))
   clear XB hcur
   go_wp2_with fail
   refine (markIntSS_fp _ _ _ _ ss _ f0 M0.out hin0 (by omega) (by omega)).mono ?_
   rintro e w1 ⟨rfl, o1, t1⟩
   have b1 := t1.block g hgl ng0
   have kc1 := (cell_kept b1 (j * 4 + 1)).trans hc1
   have kc2 := (cell_kept b1 (j * 4 + 2)).trans hc2
   have kc3 := (cell_kept b1 (j * 4 + 3)).trans hc3
   have X1 := hidden (HXB.out.kept b1)
   have z1 := t1.size
   have M1' := hidden (M1.out.kept t1 d0c)
   have M3' := hidden (M3.out.kept t1 d03)
   have O1 := hidden o1
   have T1 := hidden t1
   clear hc0 hc1 hc2 hc3 b1 o1 t1 M0 M1 M3 HXB
   have hg1 : g < w1.heap.size := Nat.lt_of_lt_of_le hgl z1
   go_wp2_with fail
   refine (markWrS_fp _ _ _ _ cs _ fc M1'.out hin1 (by omega) (by omega)).mono ?_
   rintro e w2 ⟨rfl, o2, t2⟩
   have b2 := t2.block g hg1 ngc
   have lc2 := (cell_kept b2 (j * 4 + 2)).trans kc2
   have lc3 := (cell_kept b2 (j * 4 + 3)).trans kc3
   have x2 := X1.out.kept b2
   have X2 := hidden x2
   have ff := x2.frozen (j * 4 + 2)
   have z2 := t2.size
   have M3'' := hidden (M3'.out.kept t2 dc3)
   have O1' := hidden (O1.out.kept t2 (fun b hb hb' => d0c b hb' hb))
   have O2 := hidden o2
   have T2 := hidden t2
   have T3 : Hid (Turned [g] w2 (w2.setCell ⟨g, j * 4 + 2, none⟩ (.bool (decide ((k0 + (S : Int) + (cntSS ss : Int) + (cntWS cs : Int)) % 3 = 0))))) := Turned.setCell _ (by simp)
   have M3t := hidden (M3''.out.kept T3.out (fun b hb hb' => ng3 (by simp at hb'; exact hb' ▸ hb)))
   have O1t := hidden (O1'.out.kept T3.out (fun b hb hb' => ng0 (by simp at hb'; exact hb' ▸ hb)))
   have O2t := hidden (O2.out.kept T3.out (fun b hb hb' => ngc (by simp at hb'; exact hb' ▸ hb)))
   have X3 := hidden (x2.set (j * 4 + 2) (.bool (decide ((k0 + (S : Int) + (cntSS ss : Int) + (cntWS cs : Int)) % 3 = 0))))
   clear kc1 kc2 kc3 b2 o2 t2 X1 M1' M3' M3'' O1 O1' O2 x2
   have hg2 : g < w2.heap.size := Nat.lt_of_lt_of_le hg1 z2
   go_wp2_with fail
   generalize hw3 : w2.setCell ⟨g, j * 4 + 2, none⟩ (.bool (decide ((k0 + (S : Int) + (cntSS ss : Int) + (cntWS cs : Int)) % 3 = 0))) = w3 at T3 M3t O1t O2t X3 ⊢
   clear hw3
   refine (markIntS_fp _ _ _ _ bs _ f3 M3t.out (by omega) (by omega) (by omega)).mono ?_
   rintro e w4 ⟨rfl, o3, t4⟩
   have z3 := T3.out.size
   have z4 := t4.size
   have hg3 : g < w3.heap.size := Nat.lt_of_lt_of_le hg2 z3
   have hO := HBK.out w4 [.slice a0 ss.length e0, .slice a1 cs.length e1', .bool (decide ((k0 + (S : Int) + (cntSS ss : Int) + (cntWS cs : Int)) % 3 = 0)), .slice a3 bs.length e3] (markMD (k0 + (S : Int)) (ss, cs, f, bs))
    (pair_mine_of (t := tIntSS) (vs := [_]) (us := [_, _, _]) (O1t.out.kept t4 (fun b hb hb' => d03 b hb' hb)) (pair_mine_of (t := tWrS 115) (vs := [_]) (us := [_, _]) (O2t.out.kept t4 (fun b hb hb' => dc3 b hb' hb)) (pair_mine_of (t := boolTy) (u := tIntS) (vs := [_]) (us := [_]) (f1 := []) ⟨⟨rfl, rfl⟩, by simp⟩ o3 (by simp)) DD.out.2) DD.out.1)
    (fun b hb hbf hbg => by
     have n0 : b ∉ f0 := fun hm => hbf (List.mem_append_left _ hm)
     have nc : b ∉ fc := fun hm => hbf (List.mem_append_right _ (List.mem_append_left _ hm))
     have n3 : b ∉ f3 := fun hm => hbf (List.mem_append_right _ (List.mem_append_right _ hm))
     have l0 := HLT.out b hb
     rw [t4.block b (by omega) n3, T3.out.block b (by omega) (by simpa using hbg), T2.out.block b (by omega) nc, T1.out.block b l0 n0])
    (by omega)
    (fun cur2 hcur2 hcs2 hnc2 => by
     have hX := X3.out
     have e2 : cur2 = cur := by
      have h1 := X2.out
      have h2 : w2.heap[g]? = wr.heap[g]? := by rw [T2.out.block g hg1 ngc, T1.out.block g hgl ng0]
      unfold Box at h1
      rw [h2, hcur2] at h1
      simpa using h1
     subst e2
     refine ⟨_, (t4.block g hg3 ng3).trans hX, by simp, fun k => ?_⟩
     have hcs' : cur2.size = cap * 4 := hcs2
     rw [Array.toList_setIfInBounds]
     obtain ⟨p0, p1, p3⟩ := HC.out
     rw [cell_of_row wr g _ cur2 _ (0, 0) hcur2] at p0 p1 p3
     simp only [show (1 + (1 + (1 + 1)) : Nat) = 4 from rfl]
     by_cases k0' : k = j * 4
     . subst k0'
       rw [List.getElem?_set_ne (by omega), if_pos (by omega), Nat.sub_self, Array.getElem?_toList, p0]
       rfl
     by_cases k1 : k = j * 4 + 1
     . subst k1
       rw [List.getElem?_set_ne (by omega), if_pos (by omega), Nat.add_sub_cancel_left, Array.getElem?_toList, p1]
       rfl
     by_cases k2 : k = j * 4 + 2
     . subst k2
       rw [List.getElem?_set_self (by simp; omega), if_pos (by omega), Nat.add_sub_cancel_left]
       rfl
     by_cases k3 : k = j * 4 + 3
     . subst k3
       rw [List.getElem?_set_ne (by omega), if_pos (by omega), Nat.add_sub_cancel_left, Array.getElem?_toList, p3]
       rfl
     rw [List.getElem?_set_ne (by omega), if_neg (by omega)])
   rw [HM.out] at hO
   have HO := hidden hO
   have HB := hidden ((((hb.trans (T1.out.mono (fun b hm => HF1.out b (List.mem_append_left _ hm)))).trans (T2.out.mono (fun b hm => HF1.out b (List.mem_append_right _ (List.mem_append_left _ hm))))).trans (T3.out.mono (by simpa using hgp))).trans (t4.mono (fun b hm => HF1.out b (List.mem_append_right _ (List.mem_append_right _ hm)))))
   clear hO o3 t4 HBK hb T1 T2 T3 X2 X3 O1t O2t M3t HLT HC
   go_wp2
   go_roundw
   case rel => exact ⟨j + 1, by omega, by go_num, by rw [HW.out, hcx]; go_num, HO.out, HB.out⟩
   case measure => simp [intOf]; omega
 go_wp2
 go_ret
 have e : j = n := by omega
 subst e
 have ht : (d.map cntMD).take j = d.map cntMD := List.take_of_length_le (by simp; omega)
 rw [List.take_of_length_le (by omega), List.drop_of_length_le (by omega), List.append_nil] at ho
 exact ⟨ret_int (by rw [ht]; rfl), ho, hb⟩

theorem markArr_own (w : World) (lo m hi : Nat) (x : ArrN) (bm bd : Option Addr) (nm cm nd cd : Nat) (ms : List MemD) (ds : List (Int × List Int)) (h0 : (tMemS 115 75).Own w lo m [.slice bm nm cm] ms) (h1 : (tWrS 89).Own w m hi [.slice bd nd cd] ds) (hlm : lo <= m) (hmh : m <= hi) (hhi : hi <= w.heap.size) (hw : wtArr ms ds <= 2097152) :
 Calls Try.prog 20 #[.agg #[.int .i64 x.id, .int .i64 x.n, .int .i64 x.s, .slice bm nm cm, .int .i64 x.lost, .int .i64 x.built, .int .i64 x.seq, .int .i64 x.tail, .int .i64 x.gen, .slice bd nd cd, .int .i64 x.fuse, .bool x.down, .bool x.broken], .int .i64 1] w fun e w' => e = .returned (.int .i64 (1 + (cntMS ms : Int) + (cntWS ds : Int))) /\ (tMemS 115 75).Own w' lo m [.slice bm nm cm] (markMS 1 ms) /\ (tWrS 89).Own w' m hi [.slice bd nd cd] (markW (1 + (cntMS ms : Int)) ds) /\ But lo hi w w' := by
 have hw0 : wtMemS ms <= 2097152 := by unfold wtArr at hw; omega
 have hw1 : wtWrS ds <= 2097152 := by unfold wtArr at hw; omega
 have hcm := cntMS_le ms
 have hA := new_below w (.cells #[.int .i64 x.id, .int .i64 x.n, .int .i64 x.s, .slice bm nm cm, .int .i64 x.lost, .int .i64 x.built, .int .i64 x.seq, .int .i64 x.tail, .int .i64 x.gen, .slice bd nd cd, .int .i64 x.fuse, .bool x.down, .bool x.broken] 35)
 have A := Box.new w 35 #[.int .i64 x.id, .int .i64 x.n, .int .i64 x.s, .slice bm nm cm, .int .i64 x.lost, .int .i64 x.built, .int .i64 x.seq, .int .i64 x.tail, .int .i64 x.gen, .slice bd nd cd, .int .i64 x.fuse, .bool x.down, .bool x.broken]
 obtain ⟨k0, k1, k2, k3, k4, k5, k6, k7, k8, k9, k10, k11, k12⟩ := A.cells13
 have o0 := h0.below hA
 have o1 := h1.below hA
 have zA := A.lt
 go_enter Try.func20, Try.ntmps20
 go_wp2_with fail
 generalize w.alloc (.cells #[.int .i64 x.id, .int .i64 x.n, .int .i64 x.s, .slice bm nm cm, .int .i64 x.lost, .int .i64 x.built, .int .i64 x.seq, .int .i64 x.tail, .int .i64 x.gen, .slice bd nd cd, .int .i64 x.fuse, .bool x.down, .bool x.broken] 35) = W at hA A o0 o1 zA k0 k1 k2 k3 k4 k5 k6 k7 k8 k9 k10 k11 k12 ⊢
 obtain ⟨f0, m0, r0⟩ := o0.mine
 refine (markMemS_fp _ _ _ _ ms 1 f0 m0 hw0 (by omega) (by omega)).mono ?_
 rintro e w1 ⟨rfl, p0, t1⟩
 have hb1 := t1.but (lo := lo) (hi := m) r0
 have q0 := p0.own r0
 have q1 := o1.but hb1 (.inr (Nat.le_refl _))
 have A1 := A.kept (hb1.block _ zA (by omega))
 have B1 := (But.of_below (lo := lo) (hi := hi) hA).trans ⟨hb1.os, hb1.tape, hb1.output, hb1.size, fun k hk ho => hb1.block k hk (by omega)⟩
 clear k0 k1 k2 k3 k4 k5 k6 k7 k8 k9 k10 k11 k12 A hb1 t1 p0 m0 o0 o1 hA
 obtain ⟨k0, k1, k2, k3, k4, k5, k6, k7, k8, k9, k10, k11, k12⟩ := A1.cells13
 obtain ⟨f1, m1, r1⟩ := q1.mine
 have hwa : (wtMemS ms : Int) + (wtWrS ds : Int) <= 2097152 := by unfold wtArr at hw; omega
 go_wp2_with fail
 refine (markEntS_fp _ _ _ _ ds (1 + (cntMS ms : Int)) f1 m1 hw1 (by omega) (by omega)).mono ?_
 rintro e w2 ⟨rfl, p1, t2⟩
 have hb2 := t2.but (lo := m) (hi := hi) r1
 have s1 := hidden (p1.own r1)
 have s0 := hidden (q0.but hb2 (.inl (Nat.le_refl _)))
 have B2 := hidden (B1.trans ⟨hb2.os, hb2.tape, hb2.output, hb2.size, fun k hk ho => hb2.block k hk (by omega)⟩)
 clear k0 k1 k2 k3 k4 k5 k6 k7 k8 k9 k10 k11 k12 A1 hb2 t2 p1 m1 q0 q1 B1
 go_wp2
 go_ret
 exact ⟨rfl, s0.out, s1.out, B2.out⟩

def ArrIn (w : World) (lo hi : Nat) (bm bd : Option Addr) (nm cm nd cd : Nat) (ms : List MemD) (ds : List (Int × List Int)) : Prop :=
 ∃ (fm fd : List Nat), (tMemS 115 75).Mine w [.slice bm nm cm] ms fm /\ (tWrS 89).Mine w [.slice bd nd cd] ds fd /\ (∀ b ∈ fm, b ∉ fd) /\ (∀ b ∈ fm, lo <= b /\ b < hi) /\ ∀ b ∈ fd, lo <= b /\ b < hi

theorem ArrIn.below {w w' : World} {lo hi : Nat} {bm bd : Option Addr} {nm cm nd cd : Nat} {ms : List MemD} {ds : List (Int × List Int)} (h : ArrIn w lo hi bm bd nm cm nd cd ms ds) (hb : Below w.heap.size w w') : ArrIn w' lo hi bm bd nm cm nd cd ms ds := by
 obtain ⟨fm, fd, h1, h2, h3⟩ := h
 exact ⟨fm, fd, h1.below hb, h2.below hb, h3⟩
theorem ArrIn.same {w w' : World} {lo hi : Nat} {bm bd : Option Addr} {nm cm nd cd : Nat} {ms : List MemD} {ds : List (Int × List Int)} (h : ArrIn w lo hi bm bd nm cm nd cd ms ds) (hs : Same w w') : ArrIn w' lo hi bm bd nm cm nd cd ms ds := h.below (hs.below _)
theorem ArrIn.but {w w' : World} {lo hi l u : Nat} {bm bd : Option Addr} {nm cm nd cd : Nat} {ms : List MemD} {ds : List (Int × List Int)} (h : ArrIn w lo hi bm bd nm cm nd cd ms ds) (hb : But l u w w') (hd : hi <= l ∨ u <= lo) : ArrIn w' lo hi bm bd nm cm nd cd ms ds := by
 obtain ⟨fm, fd, h1, h2, h3, h4, h5⟩ := h
 exact ⟨fm, fd, h1.but hb (fun b hb' => by have := h4 b hb'; omega), h2.but hb (fun b hb' => by have := h5 b hb'; omega), h3, h4, h5⟩
theorem ArrIn.rdm {w : World} {lo hi : Nat} {bm bd : Option Addr} {nm cm nd cd : Nat} {ms : List MemD} {ds : List (Int × List Int)} (h : ArrIn w lo hi bm bd nm cm nd cd ms ds) : (tMemS 115 75).Rd w [.slice bm nm cm] ms := by
 obtain ⟨fm, fd, h1, _⟩ := h
 exact h1.rd
theorem ArrIn.rdd {w : World} {lo hi : Nat} {bm bd : Option Addr} {nm cm nd cd : Nat} {ms : List MemD} {ds : List (Int × List Int)} (h : ArrIn w lo hi bm bd nm cm nd cd ms ds) : (tWrS 89).Rd w [.slice bd nd cd] ds := by
 obtain ⟨fm, fd, _, h2, _⟩ := h
 exact h2.rd
theorem ArrIn.widen {w : World} {lo hi lo' hi' : Nat} {bm bd : Option Addr} {nm cm nd cd : Nat} {ms : List MemD} {ds : List (Int × List Int)} (h : ArrIn w lo hi bm bd nm cm nd cd ms ds) (h1 : lo' <= lo) (h2 : hi <= hi') : ArrIn w lo' hi' bm bd nm cm nd cd ms ds := by
 obtain ⟨fm, fd, a1, a2, a3, a4, a5⟩ := h
 exact ⟨fm, fd, a1, a2, a3, fun b hb => by have := a4 b hb; omega, fun b hb => by have := a5 b hb; omega⟩
theorem markArr_in (w : World) (lo hi : Nat) (x : ArrN) (bm bd : Option Addr) (nm cm nd cd : Nat) (ms : List MemD) (ds : List (Int × List Int)) (h : ArrIn w lo hi bm bd nm cm nd cd ms ds) (hhi : hi <= w.heap.size) (hw : wtArr ms ds <= 2097152) :
 Calls Try.prog 20 #[.agg #[.int .i64 x.id, .int .i64 x.n, .int .i64 x.s, .slice bm nm cm, .int .i64 x.lost, .int .i64 x.built, .int .i64 x.seq, .int .i64 x.tail, .int .i64 x.gen, .slice bd nd cd, .int .i64 x.fuse, .bool x.down, .bool x.broken], .int .i64 1] w fun e w' => e = .returned (.int .i64 (1 + (cntMS ms : Int) + (cntWS ds : Int))) /\ ArrIn w' lo hi bm bd nm cm nd cd (markMS 1 ms) (markW (1 + (cntMS ms : Int)) ds) /\ But lo hi w w' := by
 obtain ⟨f0, f1, h0, h1, hdis, r0, r1⟩ := h
 have hw0 : wtMemS ms <= 2097152 := by unfold wtArr at hw; omega
 have hw1 : wtWrS ds <= 2097152 := by unfold wtArr at hw; omega
 have hcm := cntMS_le ms
 have hA := new_below w (.cells #[.int .i64 x.id, .int .i64 x.n, .int .i64 x.s, .slice bm nm cm, .int .i64 x.lost, .int .i64 x.built, .int .i64 x.seq, .int .i64 x.tail, .int .i64 x.gen, .slice bd nd cd, .int .i64 x.fuse, .bool x.down, .bool x.broken] 35)
 have A := Box.new w 35 #[.int .i64 x.id, .int .i64 x.n, .int .i64 x.s, .slice bm nm cm, .int .i64 x.lost, .int .i64 x.built, .int .i64 x.seq, .int .i64 x.tail, .int .i64 x.gen, .slice bd nd cd, .int .i64 x.fuse, .bool x.down, .bool x.broken]
 obtain ⟨k0, k1, k2, k3, k4, k5, k6, k7, k8, k9, k10, k11, k12⟩ := A.cells13
 have m0 := h0.below hA
 have o1 := h1.below hA
 have zA := A.lt
 go_enter Try.func20, Try.ntmps20
 go_wp2_with fail
 generalize w.alloc (.cells #[.int .i64 x.id, .int .i64 x.n, .int .i64 x.s, .slice bm nm cm, .int .i64 x.lost, .int .i64 x.built, .int .i64 x.seq, .int .i64 x.tail, .int .i64 x.gen, .slice bd nd cd, .int .i64 x.fuse, .bool x.down, .bool x.broken] 35) = W at hA A m0 o1 zA k0 k1 k2 k3 k4 k5 k6 k7 k8 k9 k10 k11 k12 ⊢
 refine (markMemS_fp _ _ _ _ ms 1 f0 m0 hw0 (by omega) (by omega)).mono ?_
 rintro e w1 ⟨rfl, p0, t1⟩
 have hb1 := t1.but (lo := lo) (hi := hi) r0
 have m1 := o1.kept t1 (fun b hb hb' => hdis b hb' hb)
 have A1 := A.kept (hb1.block _ zA (by omega))
 have B1 := (But.of_below (lo := lo) (hi := hi) hA).trans hb1
 clear k0 k1 k2 k3 k4 k5 k6 k7 k8 k9 k10 k11 k12 A hb1 t1 m0 o1 hA
 obtain ⟨k0, k1, k2, k3, k4, k5, k6, k7, k8, k9, k10, k11, k12⟩ := A1.cells13
 have hwa : (wtMemS ms : Int) + (wtWrS ds : Int) <= 2097152 := by unfold wtArr at hw; omega
 go_wp2_with fail
 refine (markEntS_fp _ _ _ _ ds (1 + (cntMS ms : Int)) f1 m1 hw1 (by omega) (by omega)).mono ?_
 rintro e w2 ⟨rfl, p1, t2⟩
 have hb2 := t2.but (lo := lo) (hi := hi) r1
 have s0 := hidden (p0.kept t2 hdis)
 have s1 := hidden p1
 have B2 := hidden (B1.trans hb2)
 clear k0 k1 k2 k3 k4 k5 k6 k7 k8 k9 k10 k11 k12 A1 hb2 t2 p1 m1 p0 B1
 go_wp2
 go_ret
 exact ⟨rfl, ⟨f0, f1, s0.out, s1.out, hdis, r0, r1⟩, B2.out⟩

theorem entsB_no {x : ArrN} {ds : List (Int × List Int)} {i : Nat} {d : Int × List Int} (hx : ds[i]? = some d) (h : entAt x ds i d = false) : entsB x ds = false := allIx_no hx h
theorem entAt_1 {x : ArrN} {ds : List (Int × List Int)} {i : Nat} {y : Int} {zs : List Int} (h : inB y 0 (x.s - 1) = false) : entAt x ds i (y, zs) = false := by unfold entAt; rw [h]; rfl
theorem entAt_2 {x : ArrN} {ds : List (Int × List Int)} {i : Nat} {y : Int} {zs : List Int} (h : ¬ (zs.length : Int) = x.n - 1) : entAt x ds i (y, zs) = false := by unfold entAt; simp [h]
theorem entAt_3 {x : ArrN} {ds : List (Int × List Int)} {i : Nat} {y : Int} {zs : List Int} (h : allW zs = false) : entAt x ds i (y, zs) = false := by unfold entAt; simp [h]
theorem entAt_4 {x : ArrN} {ds : List (Int × List Int)} {y : Int} {zs : List Int} (h1 : inB y 0 (x.s - 1) = true) (h2 : (zs.length : Int) = x.n - 1) (h3 : allW zs = true) : entAt x ds 0 (y, zs) = true := by unfold entAt; simp [h1, h2, h3]
theorem entAt_5 {x : ArrN} {ds : List (Int × List Int)} {p : Nat} {y : Int} {zs : List Int} {q : Int × List Int} (h1 : inB y 0 (x.s - 1) = true) (h2 : (zs.length : Int) = x.n - 1) (h3 : allW zs = true) (hq : ds[p]? = some q) : entAt x ds (p + 1) (y, zs) = decide (q.1 < y) := by
 unfold entAt
 rw [h1, h3]
 have : ds.getD (p + 1 - 1) (0, []) = q := by rw [Nat.add_sub_cancel, List.getD_eq_getElem?_getD, hq]; rfl
 simp only [h2, decide_true, Bool.true_and, this]
 simp

theorem l6Dirty_any (w : World) (G : TypeId) (x : ArrN) (am ad : Option Addr) (nm cm nd cd : Nat) (ds : List (Int × List Int)) (h0 : (tWrS G).Rd w [.slice ad nd cd] ds) (hw : wtWrS ds <= 2097152) (hg : geoB x.n x.s = true) :
 Calls Try.prog 61 #[.agg #[.int .i64 x.id, .int .i64 x.n, .int .i64 x.s, .slice am nm cm, .int .i64 x.lost, .int .i64 x.built, .int .i64 x.seq, .int .i64 x.tail, .int .i64 x.gen, .slice ad nd cd, .int .i64 x.fuse, .bool x.down, .bool x.broken]] w fun e w' => e = .returned (.bool (entsB x ds)) /\ Below w.heap.size w w' := by
 obtain ⟨hl, hc, hm⟩ := row_length h0
 obtain ⟨g1, g2, g3, g4⟩ := geoB_iff.1 hg
 have hA := new_below w (.cells #[.int .i64 x.id, .int .i64 x.n, .int .i64 x.s, .slice am nm cm, .int .i64 x.lost, .int .i64 x.built, .int .i64 x.seq, .int .i64 x.tail, .int .i64 x.gen, .slice ad nd cd, .int .i64 x.fuse, .bool x.down, .bool x.broken] 35)
 have X := Box.new w 35 #[.int .i64 x.id, .int .i64 x.n, .int .i64 x.s, .slice am nm cm, .int .i64 x.lost, .int .i64 x.built, .int .i64 x.seq, .int .i64 x.tail, .int .i64 x.gen, .slice ad nd cd, .int .i64 x.fuse, .bool x.down, .bool x.broken]
 have zA := X.lt
 have hnd : nd <= 2097152 := by unfold wtWrS at hw; omega
 have h1 := h0.below hA
 have hws : IntKind.i64.wrap (x.s - 1) = x.s - 1 := IntWalk.i64_in _ (by omega)
 have hwn : IntKind.i64.wrap (x.n - 1) = x.n - 1 := IntWalk.i64_in _ (by omega)
 go_enter Try.func61, Try.ntmps61
 go_wp2
 generalize w.alloc (.cells #[.int .i64 x.id, .int .i64 x.n, .int .i64 x.s, .slice am nm cm, .int .i64 x.lost, .int .i64 x.built, .int .i64 x.seq, .int .i64 x.tail, .int .i64 x.gen, .slice ad nd cd, .int .i64 x.fuse, .bool x.down, .bool x.broken] 35) = W at hA X zA h1 ⊢
 go_loopw [3] (fun i wr => ∃ j : Nat, j <= nd /\ i = .int .i64 j /\ (∀ (q : Nat) (d : Int × List Int), q < j -> ds[q]? = some d -> entAt x ds q d = true) /\ Below W.heap.size W wr) (fun i _ => nd - (intOf i).toNat)
 case atStart => exact ⟨0, Nat.zero_le _, rfl, fun q d hq => by omega, Below.refl _ _⟩
 obtain ⟨j, hj, rfl, hall, hb⟩ := hrel
 have Xr := X.below hb zA
 obtain ⟨k0, k1, k2, k3, k4, k5, k6, k7, k8, k9, k10, k11, k12⟩ := Xr.cells13
 by_cases hjn : j < nd
 . rcases pairs_at rfl h1 with h0' | ⟨b, off, rfl, hbl, hcs⟩
   . omega
   have hdj : ds[j]? = some (ds[j]'(by omega)) := List.getElem?_eq_getElem (by omega)
   generalize ds[j]'(by omega) = d at hdj
   obtain ⟨v0, v1, hv0, hv1, hrv⟩ := hcs j d hdj
   obtain ⟨rfl, hrw⟩ := wr_rd hrv
   obtain ⟨av, cv, rfl⟩ := row_shape hrw
   obtain ⟨y, zs⟩ := d
   simp only at hv0 hv1 hrw hrv
   have u0 := (hb.cell (p := ⟨b, off + j * 2, none⟩) hbl).trans hv0
   have u1 := (hb.cell (p := ⟨b, off + j * 2 + 1, none⟩) hbl).trans hv1
   have i1 : (0 : Int) <= (j : Int) := by omega
   have i2 : (j : Int) < (nd : Int) := by omega
   have hwz : zs.length <= 2097152 := Nat.le_trans (inner_le' hdj) hw
   have HDJ := hidden hdj
   have b1 := new_below wr (.cells #[.int .i64 y, .slice av zs.length cv] 89)
   have Y1 := Box.new wr 89 #[.int .i64 y, .slice av zs.length cv]
   have X1 := Xr.below b1 Xr.lt
   have RZ := (ints_rd ((hrw.below hb).below b1)).1
   have B1 := hb.trans (b1.mono hb.size)
   obtain ⟨y0, y1⟩ := Y1.cells2
   obtain ⟨e0, e1, e2, e3, e4, e5, e6, e7, e8, e9, e10, e11, e12⟩ := X1.cells13
   have hq : ∀ (p : Nat) (q : Int × List Int), ds[p]? = some q -> (wr.alloc (.cells #[.int .i64 y, .slice av zs.length cv] 89)).cell? ⟨b, off + p * 2, none⟩ = some (.int .i64 q.1) := fun p q hpq => by
    obtain ⟨c0, c1, hc0, hc1, hrc⟩ := hcs p q hpq
    obtain ⟨rfl, _⟩ := wr_rd hrc
    exact (B1.cell (p := ⟨b, off + p * 2, none⟩) hbl).trans hc0
   have HQ := hidden hq
   clear hcs hv0 hv1 hrv hrw hdj hq b1 e0 e3 e4 e5 e6 e7 e8 e10 e11 e12
   cases hI : inB y 0 (x.s - 1)
   . skip
     go_wp2_with fail
     generalize wr.alloc (.cells #[.int .i64 y, .slice av zs.length cv] 89) = w1 at X1 Y1 RZ B1 y0 y1 e1 e2 e9 HQ ⊢
     refine wp_region_held_drew (S := fun w' => w'.cell? ⟨wr.heap.size, 0, none⟩ = some (.int .i64 y) /\ w'.cell? ⟨wr.heap.size, 1, none⟩ = some (.slice av zs.length cv) /\ w'.cell? ⟨w.heap.size, 1, none⟩ = some (.int .i64 x.n) /\ w'.cell? ⟨w.heap.size, 2, none⟩ = some (.int .i64 x.s) /\ w'.cell? ⟨w.heap.size, 9, none⟩ = some (.slice (some ⟨b, off, none⟩) nd cd)) (by kernel_rfl) ?_ (fun hHeld => ?_)
     . exact ⟨y0, y1, e1, e2, e9⟩
     refine held_t 0 hHeld ?_
     refine held_t 1 hHeld ?_
     refine held_t 2 hHeld ?_
     refine held_t 3 hHeld ?_
     refine held_t 4 hHeld ?_
     refine held_t 5 hHeld ?_
     refine held_one (i := 6) (by kernel_rfl) rfl (by kernel_rfl) (fun K hK => ?_)
     go_simp
     refine (l1In_any _ _ _ _).mono ?_
     rintro e w2 ⟨rfl, hw2⟩
     subst hw2
     rw [hI]
     go_wp2_with fail
     clear hHeld
     refine hK.out _ _ ?_ (fun hHeld => ?_)
     . exact ⟨y0, y1, e1, e2, e9⟩
     clear hK K
     refine held_t 7 hHeld ?_
     refine held_t 8 hHeld ?_
     refine held_p 9 hHeld ?_
     refine held_p 10 hHeld ?_
     refine held_p 11 hHeld ?_
     refine held_p 12 hHeld ?_
     refine held_p 13 hHeld ?_
     refine held_p 14 hHeld ?_
     refine held_p 15 hHeld ?_
     refine held_p 16 hHeld ?_
     refine held_t 17 hHeld ?_
     refine held_t 18 hHeld ?_
     refine held_p 19 hHeld ?_
     refine held_p 20 hHeld ?_
     refine held_none (i := 21) (by kernel_rfl) rfl (by kernel_rfl) hHeld ?_
     simp only [Act.put, List.setIfInBounds_toArray, List.set_cons_zero, List.set_cons_succ]
     refine held_p 22 hHeld ?_
     refine held_t 23 hHeld ?_
     refine held_t 24 hHeld ?_
     refine held_p 25 hHeld ?_
     refine held_p 26 hHeld ?_
     refine held_p 27 hHeld ?_
     refine held_p 28 hHeld ?_
     refine held_p 29 hHeld ?_
     refine held_p 30 hHeld ?_
     refine held_p 31 hHeld ?_
     refine held_p 32 hHeld ?_
     refine held_p 33 hHeld ?_
     refine held_p 34 hHeld ?_
     refine held_p 35 hHeld ?_
     refine held_p 36 hHeld ?_
     refine held_p 37 hHeld ?_
     refine held_p 38 hHeld ?_
     refine held_t 39 hHeld ?_
     refine wpAnyH_done (by kernel_rfl) ?_ _
     clear hHeld
     have HB := hidden (hA.trans (B1.drew.mono hA.size))
     have HE := hidden (entsB_no (x := x) HDJ.out (entAt_1 hI))
     go_wp2
     go_ret
     exact ⟨ret_bool HE.out.symm, HB.out⟩
   by_cases hL : (zs.length : Int) = x.n - 1
   . have hL1 : ((zs.length : Int) == x.n - 1) = true := by simpa using hL
     have hL2 : ((zs.length : Int) != x.n - 1) = false := by simpa using hL
     have HL := hidden hL
     clear hL
     cases hZ : allW zs
     . skip
       go_wp2_with fail
       generalize wr.alloc (.cells #[.int .i64 y, .slice av zs.length cv] 89) = w1 at X1 Y1 RZ B1 y0 y1 e1 e2 e9 HQ ⊢
       refine wp_region_held_drew (S := fun w' => w'.cell? ⟨wr.heap.size, 0, none⟩ = some (.int .i64 y) /\ w'.cell? ⟨wr.heap.size, 1, none⟩ = some (.slice av zs.length cv) /\ w'.cell? ⟨w.heap.size, 1, none⟩ = some (.int .i64 x.n) /\ w'.cell? ⟨w.heap.size, 2, none⟩ = some (.int .i64 x.s) /\ w'.cell? ⟨w.heap.size, 9, none⟩ = some (.slice (some ⟨b, off, none⟩) nd cd)) (by kernel_rfl) ?_ (fun hHeld => ?_)
       . exact ⟨y0, y1, e1, e2, e9⟩
       refine held_t 0 hHeld ?_
       refine held_t 1 hHeld ?_
       refine held_t 2 hHeld ?_
       refine held_t 3 hHeld ?_
       refine held_t 4 hHeld ?_
       refine held_t 5 hHeld ?_
       refine held_one (i := 6) (by kernel_rfl) rfl (by kernel_rfl) (fun K hK => ?_)
       go_simp
       refine (l1In_any _ _ _ _).mono ?_
       rintro e w2 ⟨rfl, hw2⟩
       subst hw2
       rw [hI]
       go_wp2_with fail
       clear hHeld
       refine hK.out _ _ ?_ (fun hHeld => ?_)
       . exact ⟨y0, y1, e1, e2, e9⟩
       clear hK K
       refine held_t 7 hHeld ?_
       refine held_t 8 hHeld ?_
       refine held_t 9 hHeld ?_
       refine held_t 10 hHeld ?_
       refine held_t 11 hHeld ?_
       refine held_t 12 hHeld ?_
       refine held_t 13 hHeld ?_
       refine held_t 14 hHeld ?_
       refine held_t 15 hHeld ?_
       refine held_t 16 hHeld ?_
       refine held_t 17 hHeld ?_
       refine held_t 18 hHeld ?_
       refine held_t 19 hHeld ?_
       refine held_t 20 hHeld ?_
       refine held_one (i := 21) (by kernel_rfl) rfl (by kernel_rfl) (fun K hK => ?_)
       go_simp
       refine (l1Words_any _ _ _ _ zs rfl RZ.draw hwz).mono ?_
       rintro e w2 ⟨rfl, hw2⟩
       subst hw2
       rw [hZ]
       go_wp2_with fail
       clear hHeld
       refine hK.out _ _ ?_ (fun hHeld => ?_)
       . exact ⟨y0, y1, e1, e2, e9⟩
       clear hK K
       refine held_t 22 hHeld ?_
       refine held_t 23 hHeld ?_
       refine held_t 24 hHeld ?_
       refine held_p 25 hHeld ?_
       refine held_p 26 hHeld ?_
       refine held_p 27 hHeld ?_
       refine held_p 28 hHeld ?_
       refine held_p 29 hHeld ?_
       refine held_p 30 hHeld ?_
       refine held_p 31 hHeld ?_
       refine held_p 32 hHeld ?_
       refine held_p 33 hHeld ?_
       refine held_p 34 hHeld ?_
       refine held_p 35 hHeld ?_
       refine held_p 36 hHeld ?_
       refine held_p 37 hHeld ?_
       refine held_p 38 hHeld ?_
       refine held_t 39 hHeld ?_
       refine wpAnyH_done (by kernel_rfl) ?_ _
       clear hHeld
       have HB := hidden (hA.trans (B1.drew.mono hA.size))
       have HE := hidden (entsB_no (x := x) HDJ.out (entAt_3 hZ))
       go_wp2
       go_ret
       exact ⟨ret_bool HE.out.symm, HB.out⟩
     by_cases hj0 : j = 0
     . subst hj0
       simp only [Nat.zero_mul, Nat.add_zero] at u0 u1
       go_wp2_with fail
       generalize wr.alloc (.cells #[.int .i64 y, .slice av zs.length cv] 89) = w1 at X1 Y1 RZ B1 y0 y1 e1 e2 e9 HQ ⊢
       refine wp_region_held_drew (S := fun w' => w'.cell? ⟨wr.heap.size, 0, none⟩ = some (.int .i64 y) /\ w'.cell? ⟨wr.heap.size, 1, none⟩ = some (.slice av zs.length cv) /\ w'.cell? ⟨w.heap.size, 1, none⟩ = some (.int .i64 x.n) /\ w'.cell? ⟨w.heap.size, 2, none⟩ = some (.int .i64 x.s) /\ w'.cell? ⟨w.heap.size, 9, none⟩ = some (.slice (some ⟨b, off, none⟩) nd cd)) (by kernel_rfl) ?_ (fun hHeld => ?_)
       . exact ⟨y0, y1, e1, e2, e9⟩
       refine held_t 0 hHeld ?_
       refine held_t 1 hHeld ?_
       refine held_t 2 hHeld ?_
       refine held_t 3 hHeld ?_
       refine held_t 4 hHeld ?_
       refine held_t 5 hHeld ?_
       refine held_one (i := 6) (by kernel_rfl) rfl (by kernel_rfl) (fun K hK => ?_)
       go_simp
       refine (l1In_any _ _ _ _).mono ?_
       rintro e w2 ⟨rfl, hw2⟩
       subst hw2
       rw [hI]
       go_wp2_with fail
       clear hHeld
       refine hK.out _ _ ?_ (fun hHeld => ?_)
       . exact ⟨y0, y1, e1, e2, e9⟩
       clear hK K
       refine held_t 7 hHeld ?_
       refine held_t 8 hHeld ?_
       refine held_t 9 hHeld ?_
       refine held_t 10 hHeld ?_
       refine held_t 11 hHeld ?_
       refine held_t 12 hHeld ?_
       refine held_t 13 hHeld ?_
       refine held_t 14 hHeld ?_
       refine held_t 15 hHeld ?_
       refine held_t 16 hHeld ?_
       refine held_t 17 hHeld ?_
       refine held_t 18 hHeld ?_
       refine held_t 19 hHeld ?_
       refine held_t 20 hHeld ?_
       refine held_one (i := 21) (by kernel_rfl) rfl (by kernel_rfl) (fun K hK => ?_)
       go_simp
       refine (l1Words_any _ _ _ _ zs rfl RZ.draw hwz).mono ?_
       rintro e w2 ⟨rfl, hw2⟩
       subst hw2
       rw [hZ]
       go_wp2_with fail
       clear hHeld
       refine hK.out _ _ ?_ (fun hHeld => ?_)
       . exact ⟨y0, y1, e1, e2, e9⟩
       clear hK K
       refine held_t 22 hHeld ?_
       refine held_t 23 hHeld ?_
       refine held_t 24 hHeld ?_
       refine held_t 25 hHeld ?_
       refine held_t 26 hHeld ?_
       refine held_t 27 hHeld ?_
       refine held_p 28 hHeld ?_
       refine held_p 29 hHeld ?_
       refine held_p 30 hHeld ?_
       refine held_p 31 hHeld ?_
       refine held_p 32 hHeld ?_
       refine held_p 33 hHeld ?_
       refine held_p 34 hHeld ?_
       refine held_p 35 hHeld ?_
       refine held_p 36 hHeld ?_
       refine held_p 37 hHeld ?_
       refine held_t 38 hHeld ?_
       refine held_t 39 hHeld ?_
       refine wpAnyH_done (by kernel_rfl) ?_ _
       clear hHeld
       have HB := hidden B1.drew
       have hat : entAt x ds (0) (y, zs) = true := entAt_4 hI HL.out hZ
       go_wp2
       go_roundw
       case rel => exact ⟨0 + 1, by omega, by go_num, fun q d hq hm' => by
        rcases Nat.lt_or_ge q (0) with h | h
        . exact hall q d h hm'
        obtain rfl : q = 0 := by omega
        rw [HDJ.out] at hm'
        cases hm'
        exact hat, HB.out⟩
       case measure => simp [intOf]; omega
     obtain ⟨p, rfl⟩ : ∃ p, j = p + 1 := ⟨j - 1, by omega⟩
     have hpq : ds[p]? = some (ds[p]'(by omega)) := List.getElem?_eq_getElem (by omega)
     generalize ds[p]'(by omega) = q at hpq
     have hE := entAt_5 hI HL.out hZ hpq
     have qc := HQ.out p q hpq
     obtain ⟨s, zq⟩ := q
     simp only at qc hE
     have HE5 := hidden hE
     clear hpq hE
     have j1 : IntKind.i64.wrap (((p + 1 : Nat) : Int) - 1) = (p : Int) := by rw [IntWalk.i64_in _ (by omega)]; omega
     have j2 : IntKind.i64.wrap ((p : Int) + 1 - 1) = (p : Int) := by rw [IntWalk.i64_in _ (by omega)]; omega
     have j3 : IntKind.i64.wrap (p : Int) = (p : Int) := IntWalk.i64_in _ (by omega)
     have j4 : (0 : Int) <= (p : Int) := by omega
     have j5 : (p : Int) < (nd : Int) := by omega
     have j6 : (0 : Int) < ((p + 1 : Nat) : Int) := by omega
     by_cases hlt : s < y
     . have hd1 : decide (s < y) = true := by simpa using hlt
       have hge : ¬ y <= s := by omega
       go_wp2_with fail
       generalize wr.alloc (.cells #[.int .i64 y, .slice av zs.length cv] 89) = w1 at X1 Y1 RZ B1 y0 y1 e1 e2 e9 HQ qc ⊢
       refine wp_region_held_drew (S := fun w' => w'.cell? ⟨wr.heap.size, 0, none⟩ = some (.int .i64 y) /\ w'.cell? ⟨wr.heap.size, 1, none⟩ = some (.slice av zs.length cv) /\ w'.cell? ⟨w.heap.size, 1, none⟩ = some (.int .i64 x.n) /\ w'.cell? ⟨w.heap.size, 2, none⟩ = some (.int .i64 x.s) /\ w'.cell? ⟨w.heap.size, 9, none⟩ = some (.slice (some ⟨b, off, none⟩) nd cd) /\ w'.cell? ⟨b, off + p * 2, none⟩ = some (.int .i64 s)) (by kernel_rfl) ?_ (fun hHeld => ?_)
       . exact ⟨y0, y1, e1, e2, e9, qc⟩
       refine held_t 0 hHeld ?_
       refine held_t 1 hHeld ?_
       refine held_t 2 hHeld ?_
       refine held_t 3 hHeld ?_
       refine held_t 4 hHeld ?_
       refine held_t 5 hHeld ?_
       refine held_one (i := 6) (by kernel_rfl) rfl (by kernel_rfl) (fun K hK => ?_)
       go_simp
       refine (l1In_any _ _ _ _).mono ?_
       rintro e w2 ⟨rfl, hw2⟩
       subst hw2
       rw [hI]
       go_wp2_with fail
       clear hHeld
       refine hK.out _ _ ?_ (fun hHeld => ?_)
       . exact ⟨y0, y1, e1, e2, e9, qc⟩
       clear hK K
       refine held_t 7 hHeld ?_
       refine held_t 8 hHeld ?_
       refine held_t 9 hHeld ?_
       refine held_t 10 hHeld ?_
       refine held_t 11 hHeld ?_
       refine held_t 12 hHeld ?_
       refine held_t 13 hHeld ?_
       refine held_t 14 hHeld ?_
       refine held_t 15 hHeld ?_
       refine held_t 16 hHeld ?_
       refine held_t 17 hHeld ?_
       refine held_t 18 hHeld ?_
       refine held_t 19 hHeld ?_
       refine held_t 20 hHeld ?_
       refine held_one (i := 21) (by kernel_rfl) rfl (by kernel_rfl) (fun K hK => ?_)
       go_simp
       refine (l1Words_any _ _ _ _ zs rfl RZ.draw hwz).mono ?_
       rintro e w2 ⟨rfl, hw2⟩
       subst hw2
       rw [hZ]
       go_wp2_with fail
       clear hHeld
       refine hK.out _ _ ?_ (fun hHeld => ?_)
       . exact ⟨y0, y1, e1, e2, e9, qc⟩
       clear hK K
       refine held_t 22 hHeld ?_
       refine held_t 23 hHeld ?_
       refine held_t 24 hHeld ?_
       refine held_t 25 hHeld ?_
       refine held_t 26 hHeld ?_
       refine held_t 27 hHeld ?_
       refine held_t 28 hHeld ?_
       refine held_t 29 hHeld ?_
       refine held_t 30 hHeld ?_
       refine held_t 31 hHeld ?_
       refine held_t 32 hHeld ?_
       refine held_t 33 hHeld ?_
       refine held_t 34 hHeld ?_
       refine held_t 35 hHeld ?_
       refine held_t 36 hHeld ?_
       refine held_t 37 hHeld ?_
       refine held_t 38 hHeld ?_
       refine held_t 39 hHeld ?_
       refine wpAnyH_done (by kernel_rfl) ?_ _
       clear hHeld
       have HB := hidden B1.drew
       have hat : entAt x ds (p + 1) (y, zs) = true := HE5.out.trans hd1
       go_wp2
       go_roundw
       case rel => exact ⟨p + 1 + 1, by omega, by go_num, fun q d hq hm' => by
        rcases Nat.lt_or_ge q (p + 1) with h | h
        . exact hall q d h hm'
        obtain rfl : q = p + 1 := by omega
        rw [HDJ.out] at hm'
        cases hm'
        exact hat, HB.out⟩
       case measure => simp [intOf]; omega
     have hd1 : decide (s < y) = false := by simpa using hlt
     have hge : y <= s := by omega
     go_wp2_with fail
     generalize wr.alloc (.cells #[.int .i64 y, .slice av zs.length cv] 89) = w1 at X1 Y1 RZ B1 y0 y1 e1 e2 e9 HQ qc ⊢
     refine wp_region_held_drew (S := fun w' => w'.cell? ⟨wr.heap.size, 0, none⟩ = some (.int .i64 y) /\ w'.cell? ⟨wr.heap.size, 1, none⟩ = some (.slice av zs.length cv) /\ w'.cell? ⟨w.heap.size, 1, none⟩ = some (.int .i64 x.n) /\ w'.cell? ⟨w.heap.size, 2, none⟩ = some (.int .i64 x.s) /\ w'.cell? ⟨w.heap.size, 9, none⟩ = some (.slice (some ⟨b, off, none⟩) nd cd) /\ w'.cell? ⟨b, off + p * 2, none⟩ = some (.int .i64 s)) (by kernel_rfl) ?_ (fun hHeld => ?_)
     . exact ⟨y0, y1, e1, e2, e9, qc⟩
     refine held_t 0 hHeld ?_
     refine held_t 1 hHeld ?_
     refine held_t 2 hHeld ?_
     refine held_t 3 hHeld ?_
     refine held_t 4 hHeld ?_
     refine held_t 5 hHeld ?_
     refine held_one (i := 6) (by kernel_rfl) rfl (by kernel_rfl) (fun K hK => ?_)
     go_simp
     refine (l1In_any _ _ _ _).mono ?_
     rintro e w2 ⟨rfl, hw2⟩
     subst hw2
     rw [hI]
     go_wp2_with fail
     clear hHeld
     refine hK.out _ _ ?_ (fun hHeld => ?_)
     . exact ⟨y0, y1, e1, e2, e9, qc⟩
     clear hK K
     refine held_t 7 hHeld ?_
     refine held_t 8 hHeld ?_
     refine held_t 9 hHeld ?_
     refine held_t 10 hHeld ?_
     refine held_t 11 hHeld ?_
     refine held_t 12 hHeld ?_
     refine held_t 13 hHeld ?_
     refine held_t 14 hHeld ?_
     refine held_t 15 hHeld ?_
     refine held_t 16 hHeld ?_
     refine held_t 17 hHeld ?_
     refine held_t 18 hHeld ?_
     refine held_t 19 hHeld ?_
     refine held_t 20 hHeld ?_
     refine held_one (i := 21) (by kernel_rfl) rfl (by kernel_rfl) (fun K hK => ?_)
     go_simp
     refine (l1Words_any _ _ _ _ zs rfl RZ.draw hwz).mono ?_
     rintro e w2 ⟨rfl, hw2⟩
     subst hw2
     rw [hZ]
     go_wp2_with fail
     clear hHeld
     refine hK.out _ _ ?_ (fun hHeld => ?_)
     . exact ⟨y0, y1, e1, e2, e9, qc⟩
     clear hK K
     refine held_t 22 hHeld ?_
     refine held_t 23 hHeld ?_
     refine held_t 24 hHeld ?_
     refine held_t 25 hHeld ?_
     refine held_t 26 hHeld ?_
     refine held_t 27 hHeld ?_
     refine held_t 28 hHeld ?_
     refine held_t 29 hHeld ?_
     refine held_t 30 hHeld ?_
     refine held_t 31 hHeld ?_
     refine held_t 32 hHeld ?_
     refine held_t 33 hHeld ?_
     refine held_t 34 hHeld ?_
     refine held_t 35 hHeld ?_
     refine held_t 36 hHeld ?_
     refine held_t 37 hHeld ?_
     refine held_t 38 hHeld ?_
     refine held_t 39 hHeld ?_
     refine wpAnyH_done (by kernel_rfl) ?_ _
     clear hHeld
     have HB := hidden (hA.trans (B1.drew.mono hA.size))
     have HE := hidden (entsB_no (x := x) HDJ.out (HE5.out.trans hd1))
     go_wp2
     go_ret
     exact ⟨ret_bool HE.out.symm, HB.out⟩
   have hL1 : ((zs.length : Int) == x.n - 1) = false := by simpa using hL
   have hL2 : ((zs.length : Int) != x.n - 1) = true := by simpa using hL
   have HL := hidden hL
   clear hL
   go_wp2_with fail
   generalize wr.alloc (.cells #[.int .i64 y, .slice av zs.length cv] 89) = w1 at X1 Y1 RZ B1 y0 y1 e1 e2 e9 HQ ⊢
   refine wp_region_held_drew (S := fun w' => w'.cell? ⟨wr.heap.size, 0, none⟩ = some (.int .i64 y) /\ w'.cell? ⟨wr.heap.size, 1, none⟩ = some (.slice av zs.length cv) /\ w'.cell? ⟨w.heap.size, 1, none⟩ = some (.int .i64 x.n) /\ w'.cell? ⟨w.heap.size, 2, none⟩ = some (.int .i64 x.s) /\ w'.cell? ⟨w.heap.size, 9, none⟩ = some (.slice (some ⟨b, off, none⟩) nd cd)) (by kernel_rfl) ?_ (fun hHeld => ?_)
   . exact ⟨y0, y1, e1, e2, e9⟩
   refine held_t 0 hHeld ?_
   refine held_t 1 hHeld ?_
   refine held_t 2 hHeld ?_
   refine held_t 3 hHeld ?_
   refine held_t 4 hHeld ?_
   refine held_t 5 hHeld ?_
   refine held_one (i := 6) (by kernel_rfl) rfl (by kernel_rfl) (fun K hK => ?_)
   go_simp
   refine (l1In_any _ _ _ _).mono ?_
   rintro e w2 ⟨rfl, hw2⟩
   subst hw2
   rw [hI]
   go_wp2_with fail
   clear hHeld
   refine hK.out _ _ ?_ (fun hHeld => ?_)
   . exact ⟨y0, y1, e1, e2, e9⟩
   clear hK K
   refine held_t 7 hHeld ?_
   refine held_t 8 hHeld ?_
   refine held_t 9 hHeld ?_
   refine held_t 10 hHeld ?_
   refine held_t 11 hHeld ?_
   refine held_t 12 hHeld ?_
   refine held_t 13 hHeld ?_
   refine held_t 14 hHeld ?_
   refine held_t 15 hHeld ?_
   refine held_t 16 hHeld ?_
   refine held_t 17 hHeld ?_
   refine held_t 18 hHeld ?_
   refine held_p 19 hHeld ?_
   refine held_p 20 hHeld ?_
   refine held_none (i := 21) (by kernel_rfl) rfl (by kernel_rfl) hHeld ?_
   simp only [Act.put, List.setIfInBounds_toArray, List.set_cons_zero, List.set_cons_succ]
   refine held_p 22 hHeld ?_
   refine held_t 23 hHeld ?_
   refine held_t 24 hHeld ?_
   refine held_p 25 hHeld ?_
   refine held_p 26 hHeld ?_
   refine held_p 27 hHeld ?_
   refine held_p 28 hHeld ?_
   refine held_p 29 hHeld ?_
   refine held_p 30 hHeld ?_
   refine held_p 31 hHeld ?_
   refine held_p 32 hHeld ?_
   refine held_p 33 hHeld ?_
   refine held_p 34 hHeld ?_
   refine held_p 35 hHeld ?_
   refine held_p 36 hHeld ?_
   refine held_p 37 hHeld ?_
   refine held_p 38 hHeld ?_
   refine held_t 39 hHeld ?_
   refine wpAnyH_done (by kernel_rfl) ?_ _
   clear hHeld
   have HB := hidden (hA.trans (B1.drew.mono hA.size))
   have HE := hidden (entsB_no (x := x) HDJ.out (entAt_2 HL.out))
   go_wp2
   go_ret
   exact ⟨ret_bool HE.out.symm, HB.out⟩
 have ej : j = nd := by omega
 subst ej
 have hAll : entsB x ds = true := allIx_iff.2 (fun q d hq => hall q d (by have := (List.getElem?_eq_some_iff.1 hq).1; omega) hq)
 have HB := hidden (hA.trans (hb.mono hA.size))
 go_wp2
 go_ret
 exact ⟨ret_bool hAll.symm, HB.out⟩

theorem specArrOk_any (w : World) (E F G : TypeId) (x : ArrN) (am ad : Option Addr) (nm cm nd cd : Nat) (ms : List MemD) (ds : List (Int × List Int)) (h0 : (tMemS E F).Rd w [.slice am nm cm] ms) (h1 : (tWrS G).Rd w [.slice ad nd cd] ds) (hw : wtArr ms ds <= 2097152) :
 Calls Try.prog 28 #[.agg #[.int .i64 x.id, .int .i64 x.n, .int .i64 x.s, .slice am nm cm, .int .i64 x.lost, .int .i64 x.built, .int .i64 x.seq, .int .i64 x.tail, .int .i64 x.gen, .slice ad nd cd, .int .i64 x.fuse, .bool x.down, .bool x.broken]] w fun e w' => e = .returned (.bool (arrB x ms ds)) /\ Below w.heap.size w w' := by
 have hwm : wtMemS ms <= 2097152 := by unfold wtArr at hw; omega
 have hwd : wtWrS ds <= 2097152 := by unfold wtArr at hw; omega
 have hA := new_below w (.cells #[.int .i64 x.id, .int .i64 x.n, .int .i64 x.s, .slice am nm cm, .int .i64 x.lost, .int .i64 x.built, .int .i64 x.seq, .int .i64 x.tail, .int .i64 x.gen, .slice ad nd cd, .int .i64 x.fuse, .bool x.down, .bool x.broken] 35)
 have X := Box.new w 35 #[.int .i64 x.id, .int .i64 x.n, .int .i64 x.s, .slice am nm cm, .int .i64 x.lost, .int .i64 x.built, .int .i64 x.seq, .int .i64 x.tail, .int .i64 x.gen, .slice ad nd cd, .int .i64 x.fuse, .bool x.down, .bool x.broken]
 obtain ⟨k0, k1, k2, k3, k4, k5, k6, k7, k8, k9, k10, k11, k12⟩ := X.cells13
 have zA := X.lt
 have r0 := h0.below hA
 have r1 := h1.below hA
 go_enter Try.func28, Try.ntmps28
 go_wp2_with fail
 generalize w.alloc (.cells #[.int .i64 x.id, .int .i64 x.n, .int .i64 x.s, .slice am nm cm, .int .i64 x.lost, .int .i64 x.built, .int .i64 x.seq, .int .i64 x.tail, .int .i64 x.gen, .slice ad nd cd, .int .i64 x.fuse, .bool x.down, .bool x.broken] 35) = W at hA X zA r0 r1 k0 k1 k2 k3 k4 k5 k6 k7 k8 k9 k10 k11 k12 ⊢
 refine (specGeoOk_any _ _ _).mono ?_
 rintro e w1 ⟨rfl, b1⟩
 have X1 := X.below b1 X.lt
 have B1 := Below.andThen hA b1
 have q1 := r0.below b1
 have t1 := r1.below b1
 clear k0 k1 k2 k3 k4 k5 k6 k7 k8 k9 k10 k11 k12 b1 hA X r0 r1
 obtain ⟨k0, k1, k2, k3, k4, k5, k6, k7, k8, k9, k10, k11, k12⟩ := X1.cells13
 cases hg : geoB x.n x.s
 . skip
   have HF : Hid (arrB x ms ds = false) := by unfold Hid arrB; simp [hg]
   go_wp2
   go_ret
   exact ⟨ret_bool HF.out.symm, B1⟩
 obtain ⟨g1, g2, g3, g4⟩ := geoB_iff.1 hg
 have hws : IntKind.i64.wrap (x.n - 1) = x.n - 1 := IntWalk.i64_in _ (by omega)
 go_wp2_with fail
 refine (l1In_any _ _ _ _).mono ?_
 rintro e wq ⟨rfl, hq⟩
 obtain rfl := hq.symm
 cases hid : inB x.id 1 60000
 . skip
   have HF : Hid (arrB x ms ds = false) := by unfold Hid arrB; simp [hid]
   go_wp2
   go_ret
   exact ⟨ret_bool HF.out.symm, B1⟩
 skip
 go_wp2_with fail
 refine (l6Mems_any _ E F x _ _ _ _ _ _ ms q1 hwm hg).mono ?_
 rintro e w2 ⟨rfl, b2⟩
 have X2 := X1.below b2 X1.lt
 have B2 := Below.andThen B1 b2
 have q2 := q1.below b2
 have t2 := t1.below b2
 clear k0 k1 k2 k3 k4 k5 k6 k7 k8 k9 k10 k11 k12 b2 B1 X1 q1 t1
 obtain ⟨k0, k1, k2, k3, k4, k5, k6, k7, k8, k9, k10, k11, k12⟩ := X2.cells13
 cases hms : memsB x ms
 . skip
   have HF : Hid (arrB x ms ds = false) := by unfold Hid arrB; simp [hms]
   go_wp2
   go_ret
   exact ⟨ret_bool HF.out.symm, B2⟩
 skip
 go_wp2_with fail
 refine (l6Dirty_any _ G x _ _ _ _ _ _ ds t2 hwd hg).mono ?_
 rintro e w3 ⟨rfl, b3⟩
 have X3 := X2.below b3 X2.lt
 have B3 := Below.andThen B2 b3
 have q3 := q2.below b3
 have t3 := t2.below b3
 clear k0 k1 k2 k3 k4 k5 k6 k7 k8 k9 k10 k11 k12 b3 B2 X2 q2 t2
 obtain ⟨k0, k1, k2, k3, k4, k5, k6, k7, k8, k9, k10, k11, k12⟩ := X3.cells13
 cases hds : entsB x ds
 . skip
   have HF : Hid (arrB x ms ds = false) := by unfold Hid arrB; simp [hds]
   go_wp2
   go_ret
   exact ⟨ret_bool HF.out.symm, B3⟩
 skip
 go_wp2_with fail
 refine (l1In_any _ _ _ _).mono ?_
 rintro e wq ⟨rfl, hq⟩
 obtain rfl := hq.symm
 cases hlo : inB x.lost (-1) (x.n - 1)
 . skip
   have HF : Hid (arrB x ms ds = false) := by unfold Hid arrB; simp [lostB6, hlo]
   go_wp2
   go_ret
   exact ⟨ret_bool HF.out.symm, B3⟩
 skip
 go_wp2_with fail
 refine (l1In_any _ _ _ _).mono ?_
 rintro e wq ⟨rfl, hq⟩
 obtain rfl := hq.symm
 cases hbu : inB x.built 0 x.s
 . skip
   have HF : Hid (arrB x ms ds = false) := by unfold Hid arrB; simp [lostB6, hbu]
   go_wp2
   go_ret
   exact ⟨ret_bool HF.out.symm, B3⟩
 skip
 have hlb : (x.lost = -1 /\ ¬ x.built = 0) ∨ (x.lost = -1 /\ x.built = 0) ∨ ¬ x.lost = -1 := by omega
 have HLB : Hid (lostB6 x = (!decide (x.lost = -1) || decide (x.built = 0))) := by unfold Hid lostB6; rw [hlo, hbu]; simp
 rcases hlb with ⟨l1, l2⟩ | ⟨l1, l2⟩ | l1
 . have e1 : (x.lost == -1) = true := by simpa using l1
   have e2 : (x.built != 0) = true := by simpa using l2
   have e3 : (x.built == 0) = false := by simpa using l2
   have hL : lostB6 x = false := by rw [HLB.out]; simp [l1, l2]
   rw [l1] at k4
   have HF : Hid (arrB x ms ds = false) := by unfold Hid arrB; simp [hL]
   clear hL l1 l2
   go_wp2
   go_ret
   exact ⟨ret_bool HF.out.symm, B3⟩
 . have e1 : (x.lost == -1) = true := by simpa using l1
   have e2 : (x.built != 0) = false := by simpa using l2
   have e3 : (x.built == 0) = true := by simpa using l2
   have HLT : Hid (lostB6 x = true) := by unfold Hid; rw [HLB.out]; simp [l2]
   rw [l1] at k4
   rw [l2] at k5
   clear l1 l2
   have HT : Hid (arrB x ms ds = seqB6 x) := by unfold Hid arrB; rw [hg, hid, hms, hds, HLT.out]; rfl
   go_wp2_with fail
   refine (l1In_any _ _ _ _).mono ?_
   rintro e wq ⟨rfl, hq⟩
   obtain rfl := hq.symm
   cases ht : inB x.tail 0 60000
   . have HF : Hid (arrB x ms ds = false) := by unfold Hid; rw [HT.out]; unfold seqB6; simp [ht]
     go_wp2
     go_ret
     exact ⟨ret_bool HF.out.symm, B3⟩
   skip
   have ht2 : 0 <= x.tail /\ x.tail <= 60000 := by unfold inB at ht; simpa using ht
   have hw4 : IntKind.i64.wrap (x.tail + 4) = x.tail + 4 := IntWalk.i64_in _ (by omega)
   go_wp2_with fail
   refine (l1In_any _ _ _ _).mono ?_
   rintro e wq ⟨rfl, hq⟩
   obtain rfl := hq.symm
   cases hs : inB x.seq x.tail 60000
   . have HF : Hid (arrB x ms ds = false) := by unfold Hid; rw [HT.out]; unfold seqB6; simp [hs]
     go_wp2
     go_ret
     exact ⟨ret_bool HF.out.symm, B3⟩
   skip
   by_cases hle : x.seq <= x.tail + 4
   . skip
     go_wp2_with fail
     refine (l1In_any _ _ _ _).mono ?_
     rintro e wq ⟨rfl, hq⟩
     obtain rfl := hq.symm
     cases hge : inB x.gen 0 60000
     . have HF : Hid (arrB x ms ds = false) := by unfold Hid; rw [HT.out]; unfold seqB6; simp [hge]
       go_wp2
       go_ret
       exact ⟨ret_bool HF.out.symm, B3⟩
     skip
     have HF : Hid (arrB x ms ds = inB x.fuse (-1) 1000) := by unfold Hid; rw [HT.out]; unfold seqB6; simp [ht, hs, hle, hge]
     go_wp2_with fail
     refine (l1In_any _ _ _ _).mono ?_
     rintro e wq ⟨rfl, hq⟩
     obtain rfl := hq.symm
     cases hfu : inB x.fuse (-1) 1000
     . go_wp2
       go_ret
       exact ⟨ret_bool (by rw [HF.out, hfu]), B3⟩
     go_wp2
     go_ret
     exact ⟨ret_bool (by rw [HF.out, hfu]), B3⟩
   have HF : Hid (arrB x ms ds = false) := by unfold Hid; rw [HT.out]; unfold seqB6; simp; omega
   have hgt : x.tail + 4 < x.seq := by omega
   go_wp2
   go_ret
   exact ⟨ret_bool HF.out.symm, B3⟩
 have e1 : (x.lost == -1) = false := by simpa using l1
 have HLT : Hid (lostB6 x = true) := by unfold Hid; rw [HLB.out]; simp [l1]
 clear l1
 have HT : Hid (arrB x ms ds = seqB6 x) := by unfold Hid arrB; rw [hg, hid, hms, hds, HLT.out]; rfl
 go_wp2_with fail
 refine (l1In_any _ _ _ _).mono ?_
 rintro e wq ⟨rfl, hq⟩
 obtain rfl := hq.symm
 cases ht : inB x.tail 0 60000
 . have HF : Hid (arrB x ms ds = false) := by unfold Hid; rw [HT.out]; unfold seqB6; simp [ht]
   go_wp2
   go_ret
   exact ⟨ret_bool HF.out.symm, B3⟩
 skip
 have ht2 : 0 <= x.tail /\ x.tail <= 60000 := by unfold inB at ht; simpa using ht
 have hw4 : IntKind.i64.wrap (x.tail + 4) = x.tail + 4 := IntWalk.i64_in _ (by omega)
 go_wp2_with fail
 refine (l1In_any _ _ _ _).mono ?_
 rintro e wq ⟨rfl, hq⟩
 obtain rfl := hq.symm
 cases hs : inB x.seq x.tail 60000
 . have HF : Hid (arrB x ms ds = false) := by unfold Hid; rw [HT.out]; unfold seqB6; simp [hs]
   go_wp2
   go_ret
   exact ⟨ret_bool HF.out.symm, B3⟩
 skip
 by_cases hle : x.seq <= x.tail + 4
 . skip
   go_wp2_with fail
   refine (l1In_any _ _ _ _).mono ?_
   rintro e wq ⟨rfl, hq⟩
   obtain rfl := hq.symm
   cases hge : inB x.gen 0 60000
   . have HF : Hid (arrB x ms ds = false) := by unfold Hid; rw [HT.out]; unfold seqB6; simp [hge]
     go_wp2
     go_ret
     exact ⟨ret_bool HF.out.symm, B3⟩
   skip
   have HF : Hid (arrB x ms ds = inB x.fuse (-1) 1000) := by unfold Hid; rw [HT.out]; unfold seqB6; simp [ht, hs, hle, hge]
   go_wp2_with fail
   refine (l1In_any _ _ _ _).mono ?_
   rintro e wq ⟨rfl, hq⟩
   obtain rfl := hq.symm
   cases hfu : inB x.fuse (-1) 1000
   . go_wp2
     go_ret
     exact ⟨ret_bool (by rw [HF.out, hfu]), B3⟩
   go_wp2
   go_ret
   exact ⟨ret_bool (by rw [HF.out, hfu]), B3⟩
 have HF : Hid (arrB x ms ds = false) := by unfold Hid; rw [HT.out]; unfold seqB6; simp; omega
 have hgt : x.tail + 4 < x.seq := by omega
 go_wp2
 go_ret
 exact ⟨ret_bool HF.out.symm, B3⟩

def ArrOut (w w' : World) (e : Ending) (q : ArrN × List MemD) (ds : List (Int × List Int)) : Prop :=
 ∃ (bm bd : Option Addr) (cm cd : Nat), e = .returned (.agg (arrC q.1 (.slice bm q.2.length cm) (.slice bd ds.length cd))) /\ ArrIn w' w.heap.size w'.heap.size bm bd q.2.length cm ds.length cd q.2 ds /\ Below w.heap.size w w'
theorem Moved.belowN {B N : Nat} {f1 f2 : List Nat} {w1 w2 : World} (h : Moved B f1 w1 f2 w2) (hB : N <= B) (hf : ∀ b ∈ f1, N <= b) (hN : N <= w1.heap.size) : Below N w1 w2 :=
 ⟨h.1.os, h.1.tape, h.1.output, h.1.size, fun k hk => h.1.block k (by omega) (fun hm => by
  rcases List.mem_cons.1 hm with e | hm
  . omega
  have := hf k hm; omega)⟩
theorem arr_out {w w4 : World} {R lo : Nat} {y : ArrN} {ns : List MemD} {ds : List (Int × List Int)} {vm vd : Option Addr} {cvm cvd : Nat} {fm fd : List Nat} {e : Ending} {T : TypeId} {cs : Array Value} (hb : Below w.heap.size w w4) (_ : Box w4 R T cs) (he : e = .returned (.agg (arrC y (.slice vm ns.length cvm) (.slice vd ds.length cvd)))) (hm : (tMemS 115 75).Mine w4 [.slice vm ns.length cvm] ns fm) (hd : (tWrS 89).Mine w4 [.slice vd ds.length cvd] ds fd) (hr : ∀ b ∈ fm, b ∉ fd) (rm : ∀ b ∈ fm, lo <= b) (rd : ∀ b ∈ fd, lo <= b) (h1 : w.heap.size <= R) (h2 : R < lo) :
 ArrOut w (puts w4 R [(0, .int .i64 y.id), (1, .int .i64 y.n), (2, .int .i64 y.s), (3, .slice vm ns.length cvm), (4, .int .i64 y.lost), (5, .int .i64 y.built), (6, .int .i64 y.seq), (7, .int .i64 y.tail), (8, .int .i64 y.gen), (9, .slice vd ds.length cvd), (10, .int .i64 y.fuse), (11, .bool y.down), (12, .bool y.broken)]) e (y, ns) ds := by
 have hbt := puts_but R [(0, .int .i64 y.id), (1, .int .i64 y.n), (2, .int .i64 y.s), (3, .slice vm ns.length cvm), (4, .int .i64 y.lost), (5, .int .i64 y.built), (6, .int .i64 y.seq), (7, .int .i64 y.tail), (8, .int .i64 y.gen), (9, .slice vd ds.length cvd), (10, .int .i64 y.fuse), (11, .bool y.down), (12, .bool y.broken)] w4
 have hz := hbt.size
 have hlm := hm.lt
 have hld := hd.lt
 refine ⟨vm, vd, cvm, cvd, he, ⟨fm, fd, hm.but hbt (fun b hb => by have := rm b hb; omega), hd.but hbt (fun b hb => by have := rd b hb; omega), hr, fun b hb => ?_, fun b hb => ?_⟩, Below.andBut hb hbt h1⟩
 . have h3 := rm b hb
   have h4 := hlm b hb
   omega
 have h3 := rd b hb
 have h4 := hld b hb
 omega

def dataN (x : Int) : Int := if 0 <= x /\ x <= 1099511627776 then x + 6 else -1
theorem implDataAt_any (w : World) (x : Int) : Calls Try.prog 54 #[.int .i64 x] w fun e w' => e = .returned (.int .i64 (dataN x)) /\ w' = w := by
 by_cases h : 0 <= x /\ x <= 1099511627776
 . have e2 : IntKind.i64.wrap (x + 2) = x + 2 := IntWalk.i64_in _ (by omega)
   have e4 : IntKind.i64.wrap (x + 2 + 4) = x + 2 + 4 := IntWalk.i64_in _ (by omega)
   have e3 : IntKind.i64.wrap (6 + x) = 6 + x := IntWalk.i64_in _ (by omega)
   have hv : dataN x = x + 6 := by unfold dataN; rw [if_pos h]
   have hi : inB x 0 1099511627776 = true := by unfold inB; simp; omega
   go_enter Try.func54, Try.ntmps54
   go_wp2_with fail
   refine (within_any _ _ _ _).mono ?_
   rintro e w1 ⟨rfl, rfl⟩
   rw [hi]
   go_wp2
   go_ret
   exact ⟨ret_int (by rw [hv]; omega), rfl⟩
 have hv : dataN x = -1 := by unfold dataN; rw [if_neg h]
 have hi : inB x 0 1099511627776 = false := by unfold inB; simp; omega
 go_enter Try.func54, Try.ntmps54
 go_wp2_with fail
 refine (within_any _ _ _ _).mono ?_
 rintro e w1 ⟨rfl, rfl⟩
 rw [hi]
 go_wp2
 go_ret
 exact ⟨ret_int (by first | (rw [hv]; done) | rfl | omega), rfl⟩

theorem specDataAt_any (w : World) (x : Int) : Calls Try.prog 50 #[.int .i64 x] w fun e w' => e = .returned (.int .i64 (dataN x)) /\ w' = w := by
 by_cases h : 0 <= x /\ x <= 1099511627776
 . have e2 : IntKind.i64.wrap (x + 2) = x + 2 := IntWalk.i64_in _ (by omega)
   have e4 : IntKind.i64.wrap (x + 2 + 4) = x + 2 + 4 := IntWalk.i64_in _ (by omega)
   have e3 : IntKind.i64.wrap (6 + x) = 6 + x := IntWalk.i64_in _ (by omega)
   have hv : dataN x = x + 6 := by unfold dataN; rw [if_pos h]
   have hi : inB x 0 1099511627776 = true := by unfold inB; simp; omega
   go_enter Try.func50, Try.ntmps50
   go_wp2_with fail
   refine (l1In_any _ _ _ _).mono ?_
   rintro e w1 ⟨rfl, rfl⟩
   rw [hi]
   go_wp2
   go_ret
   exact ⟨ret_int (by rw [hv]; omega), rfl⟩
 have hv : dataN x = -1 := by unfold dataN; rw [if_neg h]
 have hi : inB x 0 1099511627776 = false := by unfold inB; simp; omega
 go_enter Try.func50, Try.ntmps50
 go_wp2_with fail
 refine (l1In_any _ _ _ _).mono ?_
 rintro e w1 ⟨rfl, rfl⟩
 rw [hi]
 go_wp2
 go_ret
 exact ⟨ret_int (by first | (rw [hv]; done) | rfl | omega), rfl⟩

end Go.Proofs.Ytialakmmifhliaa

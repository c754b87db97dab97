/-
  The specification's Durable walked. Condition: the array weighs at most 2097152.
-/
import Derived.Test.YtfimpohbpccjaaaDur10
import Derived.Test.YtfimpohbpccjaaaWalkArrOk3
namespace Go.Proofs.Ytfimpohbpccjaaa
open Go.RowKit

set_option maxRecDepth 20000 in
set_option maxHeartbeats 1600000 in
theorem specDurable_any (w : World) (E F G : TypeId) (x : ArrN) (am ad : Option Addr) (nm cm nd cd : Nat) (ms : List MemD) (ds : List (Int × List Int))  (h0 : (tMemS E F).Rd w [.slice am nm cm] ms) (h1 : (tWrS G).Rd w [.slice ad nd cd] ds) (hw : wtArr ms ds ≤ 2097152) :
    Calls Try.prog 23 #[.agg #[.int .i64 x.id, .int .i64 x.n, .int .i64 x.s, .slice am nm cm, .int .i64 x.lost, .int .i64 x.built, .int .i64 x.seq, .int .i64 x.tail, .int .i64 x.gen, .slice ad nd cd, .int .i64 x.fuse, .bool x.down, .bool x.broken]] w fun e w' => ∃ a' l' c', e = .returned (.slice a' l' c') ∧ tIntS.Own w' w.heap.size w'.heap.size [.slice a' l' c'] (dur10 x ms ds) ∧ Below w.heap.size w w' := by
  have hwm : wtMemS ms ≤ 2097152 := by unfold wtArr at hw; omega
  obtain ⟨hl, hcp, hcm⟩ := row_length h0
  have hA := new_below w (.cells #[.int .i64 x.id, .int .i64 x.n, .int .i64 x.s, .slice am nm cm, .int .i64 x.lost, .int .i64 x.built, .int .i64 x.seq, .int .i64 x.tail, .int .i64 x.gen, .slice ad nd cd, .int .i64 x.fuse, .bool x.down, .bool x.broken] 34)
  have X := Box.new w 34 #[.int .i64 x.id, .int .i64 x.n, .int .i64 x.s, .slice am nm cm, .int .i64 x.lost, .int .i64 x.built, .int .i64 x.seq, .int .i64 x.tail, .int .i64 x.gen, .slice ad nd cd, .int .i64 x.fuse, .bool x.down, .bool x.broken]
  have zA := X.lt
  obtain ⟨k0, k1, k2, k3, k4, k5, k6, k7, k8, k9, k10, k11, k12⟩ := X.cells13
  have r0 := h0.below hA
  have r1 := h1.below hA
  obtain ⟨i0, hi, hz0, hz1, hz2⟩ := info_parts Try.info3
  clear k0 k1 k2 k3 k4 k5 k6 k7 k8 k9 k10 k11 k12
  go_enter Try.func23, Try.ntmps23
  go_wp2
  have hsz : (w.alloc (.cells #[.int .i64 x.id, .int .i64 x.n, .int .i64 x.s, .slice am nm cm, .int .i64 x.lost, .int .i64 x.built, .int .i64 x.seq, .int .i64 x.tail, .int .i64 x.gen, .slice ad nd cd, .int .i64 x.fuse, .bool x.down, .bool x.broken] 34)).heap.size = w.heap.size + 1 := by simp
  have ZW := hidden hsz
  clear hsz
  generalize w.alloc (.cells #[.int .i64 x.id, .int .i64 x.n, .int .i64 x.s, .slice am nm cm, .int .i64 x.lost, .int .i64 x.built, .int .i64 x.seq, .int .i64 x.tail, .int .i64 x.gen, .slice ad nd cd, .int .i64 x.fuse, .bool x.down, .bool x.broken] 34) = W at hA X zA r0 r1 ZW ⊢
  have hO : Owns .i64 3 (W.alloc (.cells #[] 3)) W.heap.size (.slice (some ⟨W.heap.size, 0, none⟩) 0 0) [] := Owns.lit .i64 3 W [] 0 #[] rfl rfl (by unfold maxLen; omega)
  go_loopw [3, 4] (fun v i wr => ∃ j : Nat, i = .int .i64 j ∧ Owns .i64 3 wr W.heap.size v (durJ x ms ds j) ∧ durOk x ms ds j = true ∧ (0 < j → arrB x ms ds = true ∧ (j : Int) ≤ x.s) ∧ Below W.heap.size W wr) (fun _ i _ => x.s.toNat - (intOf i).toNat)
  case atStart => exact ⟨0, rfl, by first | exact hO | (rw [ZW.out] at hO; rw [ZW.out]; exact hO), rfl, fun h => absurd h (by omega), (Below.refl _ _).alloc (Nat.le_refl _) _⟩
  case round =>
    obtain ⟨j, rfl, ho, hk, hj, hb⟩ := hrel
    have zB := hA.size
    have Xr := X.below hb zA
    obtain ⟨k0, k1, k2, k3, k4, k5, k6, k7, k8, k9, k10, k11, k12⟩ := Xr.cells13
    have zs := hb.size
    by_cases hlt : (j : Int) < x.s
    · have HJ := hidden hj
      have HK := hidden hk
      clear hj hk
      go_wp2_with fail
      refine (specArrOk_any _ E F G x _ _ _ _ _ _ ms ds (r0.below hb) (r1.below hb) hw).mono ?_
      rintro e w2 ⟨rfl, b2⟩
      have X2 := Xr.below b2 Xr.lt
      have B2 := hb.trans (b2.mono hb.size)
      have o2 := ho.below b2 (Nat.le_refl _)
      clear k0 k1 k2 k3 k4 k5 k6 k7 k8 k9 k10 k11 k12 Xr b2 hb ho
      cases ha : arrB x ms ds
      · have hb0 := dur_no (x := x) (ms := ms) (ds := ds) ha
        have hj0 : j = 0 := by
          rcases Nat.eq_zero_or_pos j with h | h
          · exact h
          · have := (HJ.out h).1; rw [ha] at this; cases this
        subst hj0
        have HB0 := hidden hb0
        have FB := hidden (Below.andThen hA B2)
        obtain ⟨av, cv, hv, _⟩ := o2.shape
        have FO := hidden ((own_ints o2).widen (lo' := w.heap.size) (by omega) (Nat.le_refl _))
        subst hv
        clear hb0 B2 hlt o2
        go_wp2
        refine bodyPost_ret (v := .slice av (durJ x ms ds 0).length cv) (by simp [results, Try.results23, go_sem]) rfl ?_
        exact ⟨_, _, _, rfl, by rw [HB0.out]; exact FO.out, FB.out⟩
      · have hg : geoB x.n x.s = true := by unfold arrB at ha; simp only [Bool.and_eq_true] at ha; exact ha.1
        obtain ⟨g1, g2, g3, g4⟩ := geoB_iff.1 hg
        have HA := hidden ha
        obtain ⟨k0, k1, k2, k3, k4, k5, k6, k7, k8, k9, k10, k11, k12⟩ := X2.cells13
        clear ha hg
        go_wp2_with fail
        refine (specDataOf_any _ E F G x _ _ _ _ _ _ ms ds (j : Int) (r0.below B2) (r1.below B2) hw).mono ?_
        rintro e w3 ⟨a3, l3, c3, rfl, d3, b3⟩
        have B3 := B2.trans (b3.mono B2.size)
        have o3 := o2.below b3 (Nat.le_refl _)
        have z3 := B3.size
        clear k0 k1 k2 k3 k4 k5 k6 k7 k8 k9 k10 k11 k12 X2 b3 B2 o2
        have hle := durJ_le x ms ds j
        have hld := dataL6_le x ms ds (j : Int)
        cases ht : wordsOk6 x ms ds (j : Int)
        · have FB3 := Below.andThen hA B3
          have HF : Hid (dur10 x ms ds = []) := (dur_bad (durOk_bad ht (by omega)))
          have FO := hidden ((own_ints (Owns.lit .i64 3 w3 [] 0 #[] rfl rfl (by unfold maxLen; omega))).widen (lo' := w.heap.size) (FB3).size (Nat.le_refl _))
          have FB := hidden ((FB3).alloc (FB3).size (.cells #[] 3))
          go_wp2
          refine bodyPost_ret (v := .slice (some ⟨w3.heap.size, 0, none⟩) 0 0) (by simp [results, Try.results23, go_sem]) rfl ?_
          exact ⟨_, _, _, rfl, by rw [HF.out]; exact FO.out, FB.out⟩
        · obtain ⟨ad3, rfl, hl3, hr3⟩ := own_some10 d3 (data_pos ht)
          have HOK : Hid (durOk x ms ds (j + 1) = true) := by unfold Hid; rw [durOk_succ, HK.out, ht]; rfl
          have HS := hidden (durJ_succ x ms ds j)
          subst hl3
          clear ht d3
          generalize dataL6 x ms ds (j : Int) = ys at HS hr3 hld ⊢
          generalize durJ x ms ds j = zz at HS hle o3 ⊢
          go_wp2_with (at_builtin; refine wpList_app .i64 rfl _ _ 38 rfl W.heap.size 3 i0 (.int .i64 0) 8 Try.underlying38 hi hz0 hz1 hz2 rfl _ zz rfl o3 ad3 ys.length c3 ys rfl rfl hr3 ?h1 ?h2 ?h3 ?_)
          case h1 => unfold maxLen; omega
          case h2 => omega
          case h3 => omega
          intro v' w5 o5 b5
          have B5 := hidden (B3.trans b5)
          rw [← HS.out] at o5
          have O5 := hidden o5
          clear b5 o5 o3 B3
          go_wp2
          go_roundw
          case rel => exact ⟨j + 1, by go_num, O5.out, HOK.out, fun _ => ⟨HA.out, by omega⟩, B5.out⟩
          case measure => simp [intOf]; omega
    · have HV : Hid (dur10 x ms ds = durJ x ms ds j) := by
        unfold Hid
        cases ha : arrB x ms ds
        · rw [dur_no ha]
          rcases Nat.eq_zero_or_pos j with h | h
          · subst h; rfl
          · have := (hj h).1; rw [ha] at this; cases this
        · have hg : geoB x.n x.s = true := by unfold arrB at ha; simp only [Bool.and_eq_true] at ha; exact ha.1
          obtain ⟨g1, g2, g3, g4⟩ := geoB_iff.1 hg
          have : x.s.toNat = j := by
            rcases Nat.eq_zero_or_pos j with h | h
            · omega
            · have := (hj h).2; omega
          rw [dur_of ha (by rw [this]; exact hk), this]
      have hge : x.s ≤ (j : Int) := by omega
      have FB := hidden (Below.andThen hA hb)
      obtain ⟨av, cv, hv, _⟩ := ho.shape
      have FO := hidden ((own_ints ho).widen (lo' := w.heap.size) (by omega) (Nat.le_refl _))
      subst hv
      clear hlt hj hb ho hk
      go_wp2
      refine bodyPost_ret (v := .slice av (durJ x ms ds j).length cv) (by simp [results, Try.results23, go_sem]) rfl ?_
      exact ⟨_, _, _, rfl, by rw [HV.out]; exact FO.out, FB.out⟩

end Go.Proofs.Ytfimpohbpccjaaa

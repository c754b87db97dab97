/-
  The walks of the program's copyEach over commands, answers, jobs, turns: the same in memory of its own. Condition: it weighs at most 2097152.
-/
import Derived.Test.YtbkkjfgjlapadaaGreatCopy15b
import Derived.Test.YtbkkjfgjlapadaaGreatSl15
import Derived.Test.YtbkkjfgjlapadaaGreatCmdS14
namespace Go.Proofs.YtbkkjfgjlapadaaGreat
open Go.RowKit


set_option maxHeartbeats 1600000 in
theorem copyEachCmd_any (w : World) (E : TypeId) (a : Option Addr) (n cap : Nat) (d : List CmdD) (h : (tCmdS E).Rd w [.slice a n cap] d) (hw : wttCmdS d ≤ 2097152) :
    Calls Tryz.prog 118 #[.slice a n cap, .func (Fn.func 49) #[] #[]] w fun e w' => ∃ v, e = .returned v ∧ (tCmdS 38).Own w' w.heap.size w'.heap.size [v] d ∧ Below w.heap.size w w' := by
  obtain ⟨hl, hc, hm⟩ := row_length h
  obtain ⟨i0, hi, hz0, hz1, hz2⟩ := info_parts Tryz.infoCmd14
  have hn : n ≤ 2097152 := by unfold wttCmdS at hw; omega
  go_enter Tryz.func118, Tryz.ntmps118
  go_wp2
  go_loopw [5, 11] (fun v i wr => ∃ (j : Nat) (fq : List Nat), j ≤ n ∧ i = .int .i64 j ∧ (tCmdS 38).Mine wr [v] (d.take j) fq ∧ (∀ b ∈ fq, w.heap.size ≤ b) ∧ Below w.heap.size w wr) (fun _ i _ => n - (intOf i).toNat)
  case atStart => exact ⟨0, _, Nat.zero_le _, rfl, lit0_mine _, by simp, (Below.refl _ _).alloc (Nat.le_refl _) _⟩
  case round =>
    obtain ⟨j, fq, hj, rfl, hM, hF, hb⟩ := hrel
    by_cases hjn : j < n
    · rcases cmdS_at (h.below hb) with h0' | ⟨b, off, rfl, hbl, hcs⟩
      · omega
      obtain ⟨o, d1, b1, k, zs, hdj⟩ : ∃ o d1 b1 k zs, d[j]? = some (o, d1, b1, k, zs) := ⟨_, _, _, _, _, List.getElem?_eq_getElem (by omega)⟩
      have hin := cmd_inner hdj
      have htk : d.take (j + 1) = d.take j ++ [(o, d1, b1, k, zs)] := by rw [List.take_add_one, hdj]; rfl
      have HTK := hidden htk
      have hdl : (d.take j).length = j := by rw [List.length_take]; omega
      obtain ⟨av0, cv0, hc0, hc1, hc2, hc3, hc4, hr0⟩ := hcs j o d1 b1 k zs hdj
      have hwl : zs.length ≤ 2097152 := by unfold wttCmdS at hw; simp only at hin; omega
      clear htk hin hcs hdj
      have k1 : (j : Int) < (n : Int) := by omega
      have k2 : (0 : Int) ≤ (j : Int) := by omega
      generalize d.take j = L at hM HTK hdl
      have HM := hidden hM
      have HB := hidden hb
      clear hM hb
      go_wp2_with fail
      refine seal_new ?_
      intro V X B
      have zx := X.lt
      clear hc0 hc1 hc2 hc3 hc4
      refine (copyCmd_any _ o d1 b1 k _ _ zs (hr0.below B) (by omega)).mono ?_
      rintro e w2 ⟨bv0, ev0, rfl, o2, b2⟩
      obtain ⟨fv, mv, rv⟩ := o2.mine
      have M2 := (HM.out.below B).below b2
      have sq : ∀ x ∈ fq, x < wr.heap.size := HM.out.lt
      have z1 := B.size
      have z2 := b2.size
      have z0 := HB.out.size
      have B2 := Below.andThen HB.out (Below.andThen B b2)
      have HA2 := hidden (M2.alloc (.cells #[.int .i64 o, .int .i64 d1, .int .i64 b1, .int .i64 k, .slice bv0 zs.length ev0] 38))
      have HY : Hid (tCmd.Mine (w2.alloc (.cells #[.int .i64 o, .int .i64 d1, .int .i64 b1, .int .i64 k, .slice bv0 zs.length ev0] 38)) [.int .i64 o, .int .i64 d1, .int .i64 b1, .int .i64 k, .slice bv0 zs.length ev0] (o, d1, b1, k, zs) fv) := mv.alloc _
      have HB2 := hidden (B2.alloc B2.size (.cells #[.int .i64 o, .int .i64 d1, .int .i64 b1, .int .i64 k, .slice bv0 zs.length ev0] 38))
      have hdis : ∀ x ∈ fq, x ∉ fv := fun x hx hx' => by have := sq x hx; have := rv x hx'; omega
      have HRV := hidden rv
      have hw3 : (w2.alloc (.cells #[.int .i64 o, .int .i64 d1, .int .i64 b1, .int .i64 k, .slice bv0 zs.length ev0] 38)).heap.size = w2.heap.size + 1 := by simp
      clear M2 mv rv o2 B2 b2 sq
      go_wp2_with (at_builtin; refine wpList_appT tCmd rfl _ _ 30 rfl 38 i0 (.agg #[.int .i64 0, .int .i64 0, .int .i64 0, .int .i64 0, .slice none 0 0]) 56 Tryz.underlying30 hi hz0 hz1 hz2 rfl (by decide) _ L fq rfl HA2.out ⟨w2.heap.size, 0, none⟩ 1 [.int .i64 o, .int .i64 d1, .int .i64 b1, .int .i64 k, .slice bv0 zs.length ev0] (o, d1, b1, k, zs) fv rfl HY.out hdis (news_new w2 #[.int .i64 o, .int .i64 d1, .int .i64 b1, .int .i64 k, .slice bv0 zs.length ev0] _) (by intro u hu; simp at hu; rcases hu with rfl | rfl | rfl | rfl | rfl <;> rfl) (by unfold maxLen; omega) (by omega) ?_; intro v' w4 fq' hM4 hs4 ht4)
      have HM4 := hidden hM4
      have HF4 : Hid (∀ x ∈ fq', w.heap.size ≤ x) := fun x hx => by
        rcases hs4 x hx with h | h | h
        · exact hF x h
        · have := HRV.out x h
          omega
        · omega
      have HB4 := hidden (HB2.out.trans (ht4.below (by have := HB2.out.size; omega) (fun x hx => by have := hF x hx; omega)))
      clear hM4 hs4 ht4 HA2 HB2 HY hdis
      go_wp2
      go_roundw
      case rel => exact ⟨j + 1, fq', by omega, by go_num, by rw [HTK.out]; exact HM4.out, HF4.out, HB4.out⟩
      case measure => simp [intOf]; omega
    · obtain rfl : j = n := by omega
      have ht : d.take j = d := List.take_of_length_le (by omega)
      rw [ht] at hM
      go_wp2
      go_ret
      exact ⟨_, rfl, hM.own (fun x hx => ⟨hF x hx, hM.lt x hx⟩), hb⟩


set_option maxHeartbeats 1600000 in
theorem copyEachAns_any (w : World) (E : TypeId) (a : Option Addr) (n cap : Nat) (d : List AnsD) (h : (tAnsS E).Rd w [.slice a n cap] d) (hw : wttAnsS d ≤ 2097152) :
    Calls Tryz.prog 121 #[.slice a n cap, .func (Fn.func 122) #[] #[]] w fun e w' => ∃ v, e = .returned v ∧ (tAnsS 55).Own w' w.heap.size w'.heap.size [v] d ∧ Below w.heap.size w w' := by
  obtain ⟨hl, hc, hm⟩ := row_length h
  obtain ⟨i0, hi, hz0, hz1, hz2⟩ := info_parts Tryz.infoAns15
  have hn : n ≤ 2097152 := by unfold wttAnsS at hw; omega
  go_enter Tryz.func121, Tryz.ntmps121
  go_wp2
  go_loopw [5, 11] (fun v i wr => ∃ (j : Nat) (fq : List Nat), j ≤ n ∧ i = .int .i64 j ∧ (tAnsS 55).Mine wr [v] (d.take j) fq ∧ (∀ b ∈ fq, w.heap.size ≤ b) ∧ Below w.heap.size w wr) (fun _ i _ => n - (intOf i).toNat)
  case atStart => exact ⟨0, _, Nat.zero_le _, rfl, lit0_mine _, by simp, (Below.refl _ _).alloc (Nat.le_refl _) _⟩
  case round =>
    obtain ⟨j, fq, hj, rfl, hM, hF, hb⟩ := hrel
    by_cases hjn : j < n
    · rcases ansS_at (h.below hb) with h0' | ⟨b, off, rfl, hbl, hcs⟩
      · omega
      obtain ⟨d1, q1, zs, hdj⟩ : ∃ d1 q1 zs, d[j]? = some (d1, q1, zs) := ⟨_, _, _, List.getElem?_eq_getElem (by omega)⟩
      have hin := ans_inner hdj
      have htk : d.take (j + 1) = d.take j ++ [(d1, q1, zs)] := by rw [List.take_add_one, hdj]; rfl
      have HTK := hidden htk
      have hdl : (d.take j).length = j := by rw [List.length_take]; omega
      obtain ⟨av0, cv0, hc0, hc1, hc2, hr0⟩ := hcs j d1 q1 zs hdj
      have hwl : zs.length ≤ 2097152 := by unfold wttAnsS at hw; simp only at hin; omega
      clear htk hin hcs hdj
      have k1 : (j : Int) < (n : Int) := by omega
      have k2 : (0 : Int) ≤ (j : Int) := by omega
      generalize d.take j = L at hM HTK hdl
      have HM := hidden hM
      have HB := hidden hb
      clear hM hb
      go_wp2_with fail
      refine seal_new ?_
      intro V X B
      have zx := X.lt
      clear hc0 hc1 hc2
      refine (copyAns_any _ d1 q1 _ _ zs (hr0.below B) (by omega)).mono ?_
      rintro e w2 ⟨bv0, ev0, rfl, o2, b2⟩
      obtain ⟨fv, mv, rv⟩ := o2.mine
      have M2 := (HM.out.below B).below b2
      have sq : ∀ x ∈ fq, x < wr.heap.size := HM.out.lt
      have z1 := B.size
      have z2 := b2.size
      have z0 := HB.out.size
      have B2 := Below.andThen HB.out (Below.andThen B b2)
      have HA2 := hidden (M2.alloc (.cells #[.int .i64 d1, .int .i64 q1, .slice bv0 zs.length ev0] 55))
      have HY : Hid (tAns.Mine (w2.alloc (.cells #[.int .i64 d1, .int .i64 q1, .slice bv0 zs.length ev0] 55)) [.int .i64 d1, .int .i64 q1, .slice bv0 zs.length ev0] (d1, q1, zs) fv) := mv.alloc _
      have HB2 := hidden (B2.alloc B2.size (.cells #[.int .i64 d1, .int .i64 q1, .slice bv0 zs.length ev0] 55))
      have hdis : ∀ x ∈ fq, x ∉ fv := fun x hx hx' => by have := sq x hx; have := rv x hx'; omega
      have HRV := hidden rv
      have hw3 : (w2.alloc (.cells #[.int .i64 d1, .int .i64 q1, .slice bv0 zs.length ev0] 55)).heap.size = w2.heap.size + 1 := by simp
      clear M2 mv rv o2 B2 b2 sq
      go_wp2_with (at_builtin; refine wpList_appT tAns rfl _ _ 32 rfl 55 i0 (.agg #[.int .i64 0, .int .i64 0, .slice none 0 0]) 40 Tryz.underlying32 hi hz0 hz1 hz2 rfl (by decide) _ L fq rfl HA2.out ⟨w2.heap.size, 0, none⟩ 1 [.int .i64 d1, .int .i64 q1, .slice bv0 zs.length ev0] (d1, q1, zs) fv rfl HY.out hdis (news_new w2 #[.int .i64 d1, .int .i64 q1, .slice bv0 zs.length ev0] _) (by intro u hu; simp at hu; rcases hu with rfl | rfl | rfl <;> rfl) (by unfold maxLen; omega) (by omega) ?_; intro v' w4 fq' hM4 hs4 ht4)
      have HM4 := hidden hM4
      have HF4 : Hid (∀ x ∈ fq', w.heap.size ≤ x) := fun x hx => by
        rcases hs4 x hx with h | h | h
        · exact hF x h
        · have := HRV.out x h
          omega
        · omega
      have HB4 := hidden (HB2.out.trans (ht4.below (by have := HB2.out.size; omega) (fun x hx => by have := hF x hx; omega)))
      clear hM4 hs4 ht4 HA2 HB2 HY hdis
      go_wp2
      go_roundw
      case rel => exact ⟨j + 1, fq', by omega, by go_num, by rw [HTK.out]; exact HM4.out, HF4.out, HB4.out⟩
      case measure => simp [intOf]; omega
    · obtain rfl : j = n := by omega
      have ht : d.take j = d := List.take_of_length_le (by omega)
      rw [ht] at hM
      go_wp2
      go_ret
      exact ⟨_, rfl, hM.own (fun x hx => ⟨hF x hx, hM.lt x hx⟩), hb⟩


set_option maxHeartbeats 1600000 in
theorem copyEachJob_any (w : World) (E : TypeId) (a : Option Addr) (n cap : Nat) (d : List JobD) (h : (tJobS E).Rd w [.slice a n cap] d) (hw : wttJobS d ≤ 2097152) :
    Calls Tryz.prog 119 #[.slice a n cap, .func (Fn.func 120) #[] #[]] w fun e w' => ∃ v, e = .returned v ∧ (tJobS 92).Own w' w.heap.size w'.heap.size [v] d ∧ Below w.heap.size w w' := by
  obtain ⟨hl, hc, hm⟩ := row_length h
  obtain ⟨i0, hi, hz0, hz1, hz2⟩ := info_parts Tryz.infoJob15
  have hn : n ≤ 2097152 := by unfold wttJobS at hw; omega
  go_enter Tryz.func119, Tryz.ntmps119
  go_wp2
  go_loopw [5, 11] (fun v i wr => ∃ (j : Nat) (fq : List Nat), j ≤ n ∧ i = .int .i64 j ∧ (tJobS 92).Mine wr [v] (d.take j) fq ∧ (∀ b ∈ fq, w.heap.size ≤ b) ∧ Below w.heap.size w wr) (fun _ i _ => n - (intOf i).toNat)
  case atStart => exact ⟨0, _, Nat.zero_le _, rfl, lit0_mine _, by simp, (Below.refl _ _).alloc (Nat.le_refl _) _⟩
  case round =>
    obtain ⟨j, fq, hj, rfl, hM, hF, hb⟩ := hrel
    by_cases hjn : j < n
    · rcases jobS_at (h.below hb) with h0' | ⟨b, off, rfl, hbl, hcs⟩
      · omega
      obtain ⟨o, d1, b1, k, zs, t1, gs, q1, hdj⟩ : ∃ o d1 b1 k zs t1 gs q1, d[j]? = some (o, d1, b1, k, zs, t1, gs, q1) := ⟨_, _, _, _, _, _, _, _, List.getElem?_eq_getElem (by omega)⟩
      have hin := job_inner hdj
      have htk : d.take (j + 1) = d.take j ++ [(o, d1, b1, k, zs, t1, gs, q1)] := by rw [List.take_add_one, hdj]; rfl
      have HTK := hidden htk
      have hdl : (d.take j).length = j := by rw [List.length_take]; omega
      obtain ⟨av0, cv0, av1, cv1, hc0, hc1, hc2, hc3, hc4, hc5, hc6, hc7, hr0, hr1⟩ := hcs j o d1 b1 k zs t1 gs q1 hdj
      have hwl : zs.length ≤ 2097152 ∧ gs.length ≤ 2097152 := by unfold wttJobS wJob at hw; unfold wJob at hin; simp only at hin; omega
      clear htk hin hcs hdj
      have k1 : (j : Int) < (n : Int) := by omega
      have k2 : (0 : Int) ≤ (j : Int) := by omega
      generalize d.take j = L at hM HTK hdl
      have HM := hidden hM
      have HB := hidden hb
      clear hM hb
      go_wp2_with fail
      refine seal_new ?_
      intro V X B
      have zx := X.lt
      clear hc0 hc1 hc2 hc3 hc4 hc5 hc6 hc7
      refine (copyJob_any _ o d1 b1 k t1 q1 _ _ _ _ zs gs (hr0.below B) (hr1.below B) (by omega) (by omega)).mono ?_
      rintro e w2 ⟨bv0, ev0, bv1, ev1, rfl, o2, b2⟩
      obtain ⟨fv, mv, rv⟩ := o2.mine
      have M2 := (HM.out.below B).below b2
      have sq : ∀ x ∈ fq, x < wr.heap.size := HM.out.lt
      have z1 := B.size
      have z2 := b2.size
      have z0 := HB.out.size
      have B2 := Below.andThen HB.out (Below.andThen B b2)
      have HA2 := hidden (M2.alloc (.cells #[.int .i64 o, .int .i64 d1, .int .i64 b1, .int .i64 k, .slice bv0 zs.length ev0, .int .i64 t1, .slice bv1 gs.length ev1, .int .i64 q1] 92))
      have HY : Hid (tJob.Mine (w2.alloc (.cells #[.int .i64 o, .int .i64 d1, .int .i64 b1, .int .i64 k, .slice bv0 zs.length ev0, .int .i64 t1, .slice bv1 gs.length ev1, .int .i64 q1] 92)) [.int .i64 o, .int .i64 d1, .int .i64 b1, .int .i64 k, .slice bv0 zs.length ev0, .int .i64 t1, .slice bv1 gs.length ev1, .int .i64 q1] (o, d1, b1, k, zs, t1, gs, q1) fv) := mv.alloc _
      have HB2 := hidden (B2.alloc B2.size (.cells #[.int .i64 o, .int .i64 d1, .int .i64 b1, .int .i64 k, .slice bv0 zs.length ev0, .int .i64 t1, .slice bv1 gs.length ev1, .int .i64 q1] 92))
      have hdis : ∀ x ∈ fq, x ∉ fv := fun x hx hx' => by have := sq x hx; have := rv x hx'; omega
      have HRV := hidden rv
      have hw3 : (w2.alloc (.cells #[.int .i64 o, .int .i64 d1, .int .i64 b1, .int .i64 k, .slice bv0 zs.length ev0, .int .i64 t1, .slice bv1 gs.length ev1, .int .i64 q1] 92)).heap.size = w2.heap.size + 1 := by simp
      clear M2 mv rv o2 B2 b2 sq
      go_wp2_with (at_builtin; refine wpList_appT tJob rfl _ _ 31 rfl 92 i0 (.agg #[.int .i64 0, .int .i64 0, .int .i64 0, .int .i64 0, .slice none 0 0, .int .i64 0, .slice none 0 0, .int .i64 0]) 96 Tryz.underlying31 hi hz0 hz1 hz2 rfl (by decide) _ L fq rfl HA2.out ⟨w2.heap.size, 0, none⟩ 1 [.int .i64 o, .int .i64 d1, .int .i64 b1, .int .i64 k, .slice bv0 zs.length ev0, .int .i64 t1, .slice bv1 gs.length ev1, .int .i64 q1] (o, d1, b1, k, zs, t1, gs, q1) fv rfl HY.out hdis (news_new w2 #[.int .i64 o, .int .i64 d1, .int .i64 b1, .int .i64 k, .slice bv0 zs.length ev0, .int .i64 t1, .slice bv1 gs.length ev1, .int .i64 q1] _) (by intro u hu; simp at hu; rcases hu with rfl | rfl | rfl | rfl | rfl | rfl | rfl | rfl <;> rfl) (by unfold maxLen; omega) (by omega) ?_; intro v' w4 fq' hM4 hs4 ht4)
      have HM4 := hidden hM4
      have HF4 : Hid (∀ x ∈ fq', w.heap.size ≤ x) := fun x hx => by
        rcases hs4 x hx with h | h | h
        · exact hF x h
        · have := HRV.out x h
          omega
        · omega
      have HB4 := hidden (HB2.out.trans (ht4.below (by have := HB2.out.size; omega) (fun x hx => by have := hF x hx; omega)))
      clear hM4 hs4 ht4 HA2 HB2 HY hdis
      go_wp2
      go_roundw
      case rel => exact ⟨j + 1, fq', by omega, by go_num, by rw [HTK.out]; exact HM4.out, HF4.out, HB4.out⟩
      case measure => simp [intOf]; omega
    · obtain rfl : j = n := by omega
      have ht : d.take j = d := List.take_of_length_le (by omega)
      rw [ht] at hM
      go_wp2
      go_ret
      exact ⟨_, rfl, hM.own (fun x hx => ⟨hF x hx, hM.lt x hx⟩), hb⟩


set_option maxHeartbeats 1600000 in
theorem copyEachTurn_any (w : World) (E : TypeId) (a : Option Addr) (n cap : Nat) (d : List TurnD) (h : (tTurnS E).Rd w [.slice a n cap] d) (hw : wttTurnS d ≤ 2097152) :
    Calls Tryz.prog 123 #[.slice a n cap, .func (Fn.func 124) #[] #[]] w fun e w' => ∃ v, e = .returned v ∧ (tTurnS 95).Own w' w.heap.size w'.heap.size [v] d ∧ Below w.heap.size w w' := by
  obtain ⟨hl, hc, hm⟩ := row_length h
  obtain ⟨i0, hi, hz0, hz1, hz2⟩ := info_parts Tryz.infoTurn15
  have hn : n ≤ 2097152 := by unfold wttTurnS at hw; omega
  go_enter Tryz.func123, Tryz.ntmps123
  go_wp2
  go_loopw [5, 11] (fun v i wr => ∃ (j : Nat) (fq : List Nat), j ≤ n ∧ i = .int .i64 j ∧ (tTurnS 95).Mine wr [v] (d.take j) fq ∧ (∀ b ∈ fq, w.heap.size ≤ b) ∧ Below w.heap.size w wr) (fun _ i _ => n - (intOf i).toNat)
  case atStart => exact ⟨0, _, Nat.zero_le _, rfl, lit0_mine _, by simp, (Below.refl _ _).alloc (Nat.le_refl _) _⟩
  case round =>
    obtain ⟨j, fq, hj, rfl, hM, hF, hb⟩ := hrel
    by_cases hjn : j < n
    · rcases turnS_at (h.below hb) with h0' | ⟨b, off, rfl, hbl, hcs⟩
      · omega
      obtain ⟨o, d1, b1, k, zs, d2, q1, ys, hdj⟩ : ∃ o d1 b1 k zs d2 q1 ys, d[j]? = some (o, d1, b1, k, zs, d2, q1, ys) := ⟨_, _, _, _, _, _, _, _, List.getElem?_eq_getElem (by omega)⟩
      have hin := turn_inner hdj
      have htk : d.take (j + 1) = d.take j ++ [(o, d1, b1, k, zs, d2, q1, ys)] := by rw [List.take_add_one, hdj]; rfl
      have HTK := hidden htk
      have hdl : (d.take j).length = j := by rw [List.length_take]; omega
      obtain ⟨av0, cv0, av1, cv1, hc0, hc1, hc2, hc3, hc4, hc5, hc6, hc7, hr0, hr1⟩ := hcs j o d1 b1 k zs d2 q1 ys hdj
      have hwl : zs.length ≤ 2097152 ∧ ys.length ≤ 2097152 := by unfold wttTurnS wTurn at hw; unfold wTurn at hin; simp only at hin; omega
      clear htk hin hcs hdj
      have k1 : (j : Int) < (n : Int) := by omega
      have k2 : (0 : Int) ≤ (j : Int) := by omega
      generalize d.take j = L at hM HTK hdl
      have HM := hidden hM
      have HB := hidden hb
      clear hM hb
      go_wp2_with fail
      refine seal_new ?_
      intro V X B
      have zx := X.lt
      clear hc0 hc1 hc2 hc3 hc4 hc5 hc6 hc7
      refine (copyTurn_any _ o d1 b1 k d2 q1 _ _ _ _ zs ys (hr0.below B) (hr1.below B) (by omega) (by omega)).mono ?_
      rintro e w2 ⟨bv0, ev0, bv1, ev1, rfl, o2, b2⟩
      obtain ⟨fv, mv, rv⟩ := o2.mine
      have M2 := (HM.out.below B).below b2
      have sq : ∀ x ∈ fq, x < wr.heap.size := HM.out.lt
      have z1 := B.size
      have z2 := b2.size
      have z0 := HB.out.size
      have B2 := Below.andThen HB.out (Below.andThen B b2)
      have HA2 := hidden (M2.alloc (.cells #[.int .i64 o, .int .i64 d1, .int .i64 b1, .int .i64 k, .slice bv0 zs.length ev0, .int .i64 d2, .int .i64 q1, .slice bv1 ys.length ev1] 95))
      have HY : Hid (tTurn.Mine (w2.alloc (.cells #[.int .i64 o, .int .i64 d1, .int .i64 b1, .int .i64 k, .slice bv0 zs.length ev0, .int .i64 d2, .int .i64 q1, .slice bv1 ys.length ev1] 95)) [.int .i64 o, .int .i64 d1, .int .i64 b1, .int .i64 k, .slice bv0 zs.length ev0, .int .i64 d2, .int .i64 q1, .slice bv1 ys.length ev1] (o, d1, b1, k, zs, d2, q1, ys) fv) := mv.alloc _
      have HB2 := hidden (B2.alloc B2.size (.cells #[.int .i64 o, .int .i64 d1, .int .i64 b1, .int .i64 k, .slice bv0 zs.length ev0, .int .i64 d2, .int .i64 q1, .slice bv1 ys.length ev1] 95))
      have hdis : ∀ x ∈ fq, x ∉ fv := fun x hx hx' => by have := sq x hx; have := rv x hx'; omega
      have HRV := hidden rv
      have hw3 : (w2.alloc (.cells #[.int .i64 o, .int .i64 d1, .int .i64 b1, .int .i64 k, .slice bv0 zs.length ev0, .int .i64 d2, .int .i64 q1, .slice bv1 ys.length ev1] 95)).heap.size = w2.heap.size + 1 := by simp
      clear M2 mv rv o2 B2 b2 sq
      go_wp2_with (at_builtin; refine wpList_appT tTurn rfl _ _ 33 rfl 95 i0 (.agg #[.int .i64 0, .int .i64 0, .int .i64 0, .int .i64 0, .slice none 0 0, .int .i64 0, .int .i64 0, .slice none 0 0]) 96 Tryz.underlying33 hi hz0 hz1 hz2 rfl (by decide) _ L fq rfl HA2.out ⟨w2.heap.size, 0, none⟩ 1 [.int .i64 o, .int .i64 d1, .int .i64 b1, .int .i64 k, .slice bv0 zs.length ev0, .int .i64 d2, .int .i64 q1, .slice bv1 ys.length ev1] (o, d1, b1, k, zs, d2, q1, ys) fv rfl HY.out hdis (news_new w2 #[.int .i64 o, .int .i64 d1, .int .i64 b1, .int .i64 k, .slice bv0 zs.length ev0, .int .i64 d2, .int .i64 q1, .slice bv1 ys.length ev1] _) (by intro u hu; simp at hu; rcases hu with rfl | rfl | rfl | rfl | rfl | rfl | rfl | rfl <;> rfl) (by unfold maxLen; omega) (by omega) ?_; intro v' w4 fq' hM4 hs4 ht4)
      have HM4 := hidden hM4
      have HF4 : Hid (∀ x ∈ fq', w.heap.size ≤ x) := fun x hx => by
        rcases hs4 x hx with h | h | h
        · exact hF x h
        · have := HRV.out x h
          omega
        · omega
      have HB4 := hidden (HB2.out.trans (ht4.below (by have := HB2.out.size; omega) (fun x hx => by have := hF x hx; omega)))
      clear hM4 hs4 ht4 HA2 HB2 HY hdis
      go_wp2
      go_roundw
      case rel => exact ⟨j + 1, fq', by omega, by go_num, by rw [HTK.out]; exact HM4.out, HF4.out, HB4.out⟩
      case measure => simp [intOf]; omega
    · obtain rfl : j = n := by omega
      have ht : d.take j = d := List.take_of_length_le (by omega)
      rw [ht] at hM
      go_wp2
      go_ret
      exact ⟨_, rfl, hM.own (fun x hx => ⟨hF x hx, hM.lt x hx⟩), hb⟩


end Go.Proofs.YtbkkjfgjlapadaaGreat

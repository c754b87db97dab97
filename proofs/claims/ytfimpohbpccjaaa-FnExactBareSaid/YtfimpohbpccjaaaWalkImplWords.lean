/-
  The walks of the program's look whether a disk lives at a stripe, and of a stripe's words. Condition: the array weighs at most 2097152.
-/
import Derived.Test.YtfimpohbpccjaaaWalkWordOn
import Derived.Test.YtfimpohbpccjaaaWalkImplArrOk2
import Derived.Test.YtfimpohbpccjaaaWalkWords2
namespace Go.Proofs.Ytfimpohbpccjaaa
open Go.RowKit

theorem wordOn_any (w : World) (E : TypeId) (x : ArrN) (ms : List MemD) (j : Nat) (v : Value) (s : Int) (hd : DiskV w E x ms j v) (hw : wtMemS ms ≤ 2097152) :
    Calls Try.prog 41 #[v, .int .i64 s] w fun e w' => e = .returned (.tuple #[.int .i64 (word6 x ms (j : Int) s), .bool (has6 x ms (j : Int) s)]) ∧ Below w.heap.size w w' := by
  obtain ⟨a0, a1, a3, c0, c1, c3, ss, cs, f, bs, hj, r0, r1, r3, h⟩ := hd
  have hwm := Nat.le_trans (inner_leM hj) hw
  obtain ⟨hh, hv⟩ := has_at6 (x := x) (s := s) hj
  have hl := live_at6 (x := x) (s := s) hj
  rcases h with ⟨rfl, rfl⟩ | ⟨rfl, hx, rfl⟩ | ⟨rfl, hx, rfl⟩
  · exact wordOn_failed w x ms j s (by rw [hh, hl]; rfl)
  · exact wordOn_lost w E x ms j s a0 a1 a3 c0 c1 c3 ss cs bs r0 r1 r3 hwm (by rw [hh, hl]; simp [hx]) hv
  · exact wordOn_sound w E x ms j s a0 a1 a3 c0 c1 c3 ss cs bs r0 r1 r3 hwm (by rw [hh, hl]; simp [hx]) hv

theorem bears_any (w : World) (E : TypeId) (x : ArrN) (ms : List MemD) (j : Nat) (v : Value) (s : Int) (hd : DiskV w E x ms j v) :
    Calls Try.prog 32 #[v, .int .i64 s] w fun e w' => e = .returned (.bool (liveB x ms (j : Int) s)) ∧ Below w.heap.size w w' := by
  obtain ⟨a0, a1, a3, c0, c1, c3, ss, cs, f, bs, hj, r0, r1, r3, h⟩ := hd
  have hl := live_at6 (x := x) (s := s) hj
  rcases h with ⟨rfl, rfl⟩ | ⟨rfl, hx, rfl⟩ | ⟨rfl, hx, rfl⟩
  · refine (bears_failed w s).mono ?_
    rintro e w' ⟨rfl, rfl⟩
    exact ⟨ret_bool (by rw [hl]; rfl), Below.refl _ _⟩
  · refine (bears_lost w _ _ _ _ _ _ _ _ _ _ _ _).mono ?_
    rintro e w' ⟨rfl, b⟩
    exact ⟨ret_bool (by rw [hl]; simp [hx]), b⟩
  · refine (bears_sound w _ _ _ _ _ _ _ _ _ _ _).mono ?_
    rintro e w' ⟨rfl, b⟩
    exact ⟨ret_bool (by rw [hl]; simp [hx]), b⟩

set_option maxRecDepth 20000 in
set_option maxHeartbeats 1600000 in
theorem implLiveAt_any (w : World) (E F G : TypeId) (x : ArrN) (am ad : Option Addr) (nm cm nd cd : Nat) (ms : List MemD) (ds : List (Int × List Int)) (m s : Int) (h0 : (tMemS E F).Rd w [.slice am nm cm] ms) (_ : (tWrS G).Rd w [.slice ad nd cd] ds) (hw : wtArr ms ds ≤ 2097152) :
    Calls Try.prog 11 #[.agg #[.int .i64 x.id, .int .i64 x.n, .int .i64 x.s, .slice am nm cm, .int .i64 x.lost, .int .i64 x.built, .int .i64 x.seq, .int .i64 x.tail, .int .i64 x.gen, .slice ad nd cd, .int .i64 x.fuse, .bool x.down, .bool x.broken], .int .i64 m, .int .i64 s] w fun e w' => e = .returned (.bool (liveB x ms m s)) ∧ Below w.heap.size w w' := by
  have hwm : wtMemS ms ≤ 2097152 := by unfold wtArr at hw; omega
  obtain ⟨hl, hc, hm⟩ := row_length h0
  have hA := new_below w (.cells #[.int .i64 x.id, .int .i64 x.n, .int .i64 x.s, .slice am nm cm, .int .i64 x.lost, .int .i64 x.built, .int .i64 x.seq, .int .i64 x.tail, .int .i64 x.gen, .slice ad nd cd, .int .i64 x.fuse, .bool x.down, .bool x.broken] 34)
  have X := Box.new w 34 #[.int .i64 x.id, .int .i64 x.n, .int .i64 x.s, .slice am nm cm, .int .i64 x.lost, .int .i64 x.built, .int .i64 x.seq, .int .i64 x.tail, .int .i64 x.gen, .slice ad nd cd, .int .i64 x.fuse, .bool x.down, .bool x.broken]
  obtain ⟨k0, k1, k2, k3, k4, k5, k6, k7, k8, k9, k10, k11, k12⟩ := X.cells13
  have r0 := h0.below hA
  have zA := X.lt
  go_enter Try.func11, Try.ntmps11
  go_wp2_with fail
  generalize w.alloc (.cells #[.int .i64 x.id, .int .i64 x.n, .int .i64 x.s, .slice am nm cm, .int .i64 x.lost, .int .i64 x.built, .int .i64 x.seq, .int .i64 x.tail, .int .i64 x.gen, .slice ad nd cd, .int .i64 x.fuse, .bool x.down, .bool x.broken] 34) = W at hA X zA r0 k0 k1 k2 k3 k4 k5 k6 k7 k8 k9 k10 k11 k12 ⊢
  refine (hasDisk_any _ x _ _ _ _ _ _ m).mono ?_
  rintro e w1 ⟨rfl, b1⟩
  have X1 := X.below b1 zA
  have B1 := Below.andThen hA b1
  have q1 := r0.below b1
  clear k0 k1 k2 k3 k4 k5 k6 k7 k8 k9 k10 k11 k12 X b1 hA zA r0
  obtain ⟨k0, k1, k2, k3, k4, k5, k6, k7, k8, k9, k10, k11, k12⟩ := X1.cells13
  cases hi : inB m 0 ((nm : Int) - 1)
  · have HF : Hid (liveB x ms m s = false) := by unfold Hid liveB; rw [hl, hi]; rfl
    go_wp2
    go_ret
    exact ⟨ret_bool HF.out.symm, B1⟩
  · have hi2 := inB_iff.1 hi
    obtain ⟨j, rfl⟩ := Int.eq_ofNat_of_zero_le hi2.1
    go_wp2_with fail
    refine (diskAt_any _ E F x _ _ _ _ _ _ ms j q1 hwm (by omega)).mono ?_
    rintro e w2 ⟨v, rfl, hd, b2⟩
    have B2 := Below.andThen B1 b2
    clear k0 k1 k2 k3 k4 k5 k6 k7 k8 k9 k10 k11 k12 X1 b2 B1 q1
    go_wp2_with fail
    refine (bears_any _ E x ms j v s hd).mono ?_
    rintro e w3 ⟨rfl, b3⟩
    have B3 := Below.andThen B2 b3
    clear b3 B2 hd
    go_wp2
    go_ret
    exact ⟨rfl, B3⟩

theorem fill6 (x : ArrN) (ms : List MemD) (s : Int) (n j : Nat) (h : j < n) : (wordL x ms s j ++ List.replicate (n - j) (0 : Int)).set j (word6 x ms (j : Int) s) = wordL x ms s (j + 1) ++ List.replicate (n - (j + 1)) (0 : Int) := by
  have e : n - j = (n - (j + 1)) + 1 := by omega
  rw [List.set_append, if_neg (by rw [wordL_len]; omega), wordL_len, Nat.sub_self, e, List.replicate_succ, List.set_cons_zero, wordL_succ, List.append_assoc]
  rfl

set_option maxRecDepth 20000 in
set_option maxHeartbeats 3200000 in
theorem implWords_any (w : World) (E F G : TypeId) (x : ArrN) (am ad : Option Addr) (nm cm nd cd : Nat) (ms : List MemD) (ds : List (Int × List Int)) (s : Int) (h0 : (tMemS E F).Rd w [.slice am nm cm] ms) (h1 : (tWrS G).Rd w [.slice ad nd cd] ds) (hw : wtArr ms ds ≤ 2097152) :
    Calls Try.prog 14 #[.agg #[.int .i64 x.id, .int .i64 x.n, .int .i64 x.s, .slice am nm cm, .int .i64 x.lost, .int .i64 x.built, .int .i64 x.seq, .int .i64 x.tail, .int .i64 x.gen, .slice ad nd cd, .int .i64 x.fuse, .bool x.down, .bool x.broken], .int .i64 s] w fun e w' => ∃ a' l' c', e = .returned (.tuple #[.slice a' l' c', .bool (wordsOk6 x ms ds s)]) ∧ tIntS.Own w' w.heap.size w'.heap.size [.slice a' l' c'] (wordsL6 x ms ds s) ∧ Below w.heap.size w w' := by
  have hwm : wtMemS ms ≤ 2097152 := by unfold wtArr at hw; omega
  obtain ⟨hl, hc, hm⟩ := row_length h0
  obtain ⟨i0, hi, hz0, hz1, hz2⟩ := info_parts Try.info3
  have hA := new_below w (.cells #[.int .i64 x.id, .int .i64 x.n, .int .i64 x.s, .slice am nm cm, .int .i64 x.lost, .int .i64 x.built, .int .i64 x.seq, .int .i64 x.tail, .int .i64 x.gen, .slice ad nd cd, .int .i64 x.fuse, .bool x.down, .bool x.broken] 34)
  have X := Box.new w 34 #[.int .i64 x.id, .int .i64 x.n, .int .i64 x.s, .slice am nm cm, .int .i64 x.lost, .int .i64 x.built, .int .i64 x.seq, .int .i64 x.tail, .int .i64 x.gen, .slice ad nd cd, .int .i64 x.fuse, .bool x.down, .bool x.broken]
  obtain ⟨k0, k1, k2, k3, k4, k5, k6, k7, k8, k9, k10, k11, k12⟩ := X.cells13
  have zA := X.lt
  have r0 := h0.below hA
  have r1 := h1.below hA
  go_enter Try.func14, Try.ntmps14
  go_wp2_with fail
  generalize w.alloc (.cells #[.int .i64 x.id, .int .i64 x.n, .int .i64 x.s, .slice am nm cm, .int .i64 x.lost, .int .i64 x.built, .int .i64 x.seq, .int .i64 x.tail, .int .i64 x.gen, .slice ad nd cd, .int .i64 x.fuse, .bool x.down, .bool x.broken] 34) = W at hA X zA r0 r1 k0 k1 k2 k3 k4 k5 k6 k7 k8 k9 k10 k11 k12 ⊢
  refine (implArrOk_any _ E F G x _ _ _ _ _ _ ms ds r0 r1 hw).mono ?_
  rintro e w1 ⟨rfl, b1⟩
  have X1 := X.below b1 zA
  have B1 := Below.andThen hA b1
  have q1 := r0.below b1
  clear k0 k1 k2 k3 k4 k5 k6 k7 k8 k9 k10 k11 k12 X b1 hA zA r0 r1
  obtain ⟨k0, k1, k2, k3, k4, k5, k6, k7, k8, k9, k10, k11, k12⟩ := X1.cells13
  cases ha : arrB x ms ds
  · skip
    have HF : Hid (wordsOk6 x ms ds s = false ∧ wordsL6 x ms ds s = []) := by unfold Hid wordsOk6 wordsL6 okB6; simp [ha]
    have FO := hidden ((own_ints (Owns.lit .i64 3 w1 [] 0 #[] rfl rfl (by unfold maxLen; omega))).widen (lo' := w.heap.size) B1.size (Nat.le_refl _))
    have FB := hidden (B1.alloc B1.size (.cells #[] 3))
    go_wp2
    refine bodyPost_ret (v := .tuple #[.slice (some ⟨w1.heap.size, 0, none⟩) 0 0, .bool false]) (by simp [results, Try.results14, go_sem]) rfl ?_
    exact ⟨_, _, _, by rw [HF.out.1], by rw [HF.out.2]; exact FO.out, FB.out⟩
  · have hg : geoB x.n x.s = true := by unfold arrB at ha; simp only [Bool.and_eq_true] at ha; exact ha.1
    have hmn : (ms.length : Int) = x.n := by unfold arrB memsB at ha; simp only [Bool.and_eq_true, decide_eq_true_eq] at ha; exact ha.2.2.1.2
    have HMN := hidden hmn
    clear hmn
    obtain ⟨g1, g2, g3, g4⟩ := geoB_iff.1 hg
    cases hbr : x.broken
    · rw [hbr] at k12
      go_wp2_with fail
      refine (hasStripe_any _ x.n x.s s).mono ?_
      rintro e w2 ⟨rfl, b2⟩
      have X2 := X1.below b2 X1.lt
      have B2 := Below.andThen B1 b2
      have q2 := q1.below b2
      clear k0 k1 k2 k3 k4 k5 k6 k7 k8 k9 k10 k11 k12 X1 b2 B1 q1
      have hst := stripe_in6 (x := x) (y := s) hg
      cases hin : stripeB x.n x.s s
      · skip
        have HF : Hid (wordsOk6 x ms ds s = false ∧ wordsL6 x ms ds s = []) := by unfold Hid wordsOk6 wordsL6 okB6; rw [← hst, hin]; simp
        have FO := hidden ((own_ints (Owns.lit .i64 3 w2 [] 0 #[] rfl rfl (by unfold maxLen; omega))).widen (lo' := w.heap.size) B2.size (Nat.le_refl _))
        have FB := hidden (B2.alloc B2.size (.cells #[] 3))
        go_wp2
        refine bodyPost_ret (v := .tuple #[.slice (some ⟨w2.heap.size, 0, none⟩) 0 0, .bool false]) (by simp [results, Try.results14, go_sem]) rfl ?_
        exact ⟨_, _, _, by rw [HF.out.1], by rw [HF.out.2]; exact FO.out, FB.out⟩
      · have HF : Hid (wordsOk6 x ms ds s = wordsB x ms s ∧ wordsL6 x ms ds s = words6 x ms s) := by unfold Hid wordsOk6 wordsL6 okB6; rw [ha, hbr, ← hst, hin]; exact ⟨rfl, rfl⟩
        clear hst hbr ha hin
        obtain ⟨n, hn⟩ : ∃ n : Nat, x.n = (n : Int) := ⟨x.n.toNat, by omega⟩
        have HN := hidden hn
        have HNT : Hid (x.n.toNat = n) := by unfold Hid; omega
        have hn5 : n ≤ 5 := by omega
        have hn3 : 3 ≤ n := by omega
        have hnm : n = nm := by have := HMN.out; omega
        have HNM := hidden hnm
        clear hnm
        obtain ⟨k0, k1, k2, k3, k4, k5, k6, k7, k8, k9, k10, k11, k12⟩ := X2.cells13
        rw [hn] at k1
        clear hn k0 k2 k3 k4 k5 k6 k7 k8 k9 k10 k11 k12
        have hb3 : i0.bytes * n ≤ 281474976710656 := by rw [hz2]; omega
        have hm3 : n ≤ maxLen := by unfold maxLen; omega
        go_wp2_with (at_make; refine wpList_make_full _ rfl _ _ 38 rfl w2.heap.size 3 i0 (.int .i64 0) 1 Try.underlying38 hi hz0 hz1 _ _ _ _ n rfl rfl rfl rfl hb3 hm3 (Nat.le_refl _) ?_; intro w3 hown hgrow)
        have hO : Owns .i64 3 w3 w2.heap.size (.slice (some ⟨w2.heap.size, 0, none⟩) n n) (List.replicate n 0) := by
          rw [made_ints] at hown
          unfold Owns
          rw [List.length_replicate]
          exact hown
        have hO1 := hO.own
        have hB1 : Below w2.heap.size w2 w3 := (Below.refl _ _).grown hgrow (Nat.le_refl _) (by simp)
        have zw : w2.heap.size < w3.heap.size := hO1.2 _ rfl
        generalize w3.heap.size = hi1 at hO1 zw
        clear hown hgrow hO k1
        go_loopw [7, 32] (fun lo i wr => ∃ j : Nat, j ≤ n ∧ i = .int .i64 j ∧ lo = .int .i64 (lostN (missL x ms s j)) ∧ (missL x ms s j).length ≤ 1 ∧ Own .i64 3 wr w2.heap.size hi1 (.slice (some ⟨w2.heap.size, 0, none⟩) n n) (wordL x ms s j ++ List.replicate (n - j) 0) ∧ Below w2.heap.size w2 wr) (fun _ i _ => n - (intOf i).toNat)
        case atStart => exact ⟨0, Nat.zero_le _, rfl, rfl, Nat.zero_le _, by simpa [wordL] using hO1, hB1⟩
        case round =>
          clear hO1 hB1
          obtain ⟨j, hj, rfl, rfl, hm1, ho, hb⟩ := hrel
          have Xr := X2.below hb X2.lt
          have zs := hb.size
          by_cases hlt : j < n
          · obtain ⟨k0, k1, k2, k3, k4, k5, k6, k7, k8, k9, k10, k11, k12⟩ := Xr.cells13
            have hlt' : (j : Int) < (n : Int) := by omega
            go_wp2_with fail
            refine (diskAt_any _ E F x _ _ _ _ _ _ ms j (q2.below hb) hwm (by have := HNM.out; omega)).mono ?_
            rintro e w5 ⟨v, rfl, hd, b5⟩
            have o5 := ho.below b5
            have B5 := hb.trans (b5.mono zs)
            clear k0 k1 k2 k3 k4 k5 k6 k7 k8 k9 k10 k11 k12 Xr b5 ho hb
            go_wp2_with fail
            refine (wordOn_any _ E x ms j v s hd hwm).mono ?_
            rintro e w6 ⟨rfl, b6⟩
            have o6 := o5.below b6
            have B6 := B5.trans (b6.mono B5.size)
            clear b6 o5 B5 hd
            have hfs := fill6 x ms s n j hlt
            obtain ⟨hcy, hfy, hst, hbt⟩ := o6.store j hlt (word6 x ms (j : Int) s)
            rw [hfs] at hst
            have HST := hidden hst
            have HB : Hid (Below w2.heap.size w2 (w6.setCell ⟨w2.heap.size, j, none⟩ (.int .i64 (word6 x ms (j : Int) s)))) := B6.setCell (Nat.le_refl _) _
            have hj0 : (0 : Int) ≤ (j : Int) := Int.natCast_nonneg _
            clear hst hbt hfs
            generalize (wordL x ms s j ++ List.replicate (n - j) 0).getD j 0 = old at hcy
            cases hh : has6 x ms (j : Int) s
            · have hmn := missL_no hh
              rcases list_cases hm1 with h00 | ⟨p, hp⟩
              · have hl0 : lostN (missL x ms s j) = -1 := by rw [h00]; rfl
                have hl1 : lostN (missL x ms s (j + 1)) = (j : Int) := by rw [hmn, h00]; rfl
                have hc1 : (missL x ms s (j + 1)).length ≤ 1 := by rw [hmn, h00]; exact Nat.le_refl _
                have HL1 := hidden hl1
                have HC1 := hidden hc1
                rw [hl0]
                clear hmn h00 hl0 hl1 hc1 B6 o6
                generalize word6 x ms (j : Int) s = y at HST HB ⊢
                go_wp2
                go_roundw
                case rel => exact ⟨j + 1, by omega, by go_num, by rw [HL1.out], HC1.out, HST.out, HB.out⟩
                case measure => simp [intOf]; omega
              · have hl0 : lostN (missL x ms s j) = (p : Int) := by rw [hp]; rfl
                obtain ⟨t1, t2⟩ := words_two (x := x) (ms := ms) (s := s) (j := j + 1) (by rw [hmn, hp]; exact Nat.le_refl _) (by have := HNT.out; omega)
                have HT1 := hidden t1
                have HT2 := hidden t2
                rw [hl0]
                have hp0 : ((p : Int) != -1) = true := by simp
                have hp1 : ((p : Int) == -1) = false := by simp
                clear hmn hp hl0 t1 t2 HST HB
                have FO := hidden ((own_ints (Owns.lit .i64 3 w6 [] 0 #[] rfl rfl (by unfold maxLen; omega))).widen (lo' := w.heap.size) (Nat.le_trans B2.size B6.size) (Nat.le_refl _))
                have FB := hidden (B2.trans ((B6.alloc B6.size (.cells #[] 3)).mono B2.size))
                clear B6 o6
                go_wp2
                refine bodyPost_ret (v := .tuple #[.slice (some ⟨w6.heap.size, 0, none⟩) 0 0, .bool false]) (by simp [results, Try.results14, go_sem]) rfl ?_
                exact ⟨_, _, _, by rw [HF.out.1, HT1.out], by rw [HF.out.2, HT2.out]; exact FO.out, FB.out⟩
            · have hmy := missL_yes hh
              have HL1 : Hid (lostN (missL x ms s (j + 1)) = lostN (missL x ms s j)) := by unfold Hid; rw [hmy]
              have HC1 : Hid ((missL x ms s (j + 1)).length ≤ 1) := by unfold Hid; rw [hmy]; exact hm1
              clear hmy B6 o6
              generalize word6 x ms (j : Int) s = y at HST HB ⊢
              go_wp2
              go_roundw
              case rel => exact ⟨j + 1, by omega, by go_num, by rw [HL1.out], HC1.out, HST.out, HB.out⟩
              case measure => simp [intOf]; omega
          · have ej : j = n := by omega
            subst ej
            rw [Nat.sub_self, List.replicate_zero, List.append_nil] at ho
            have hlen := wordL_len x ms s j
            rcases list_cases hm1 with h00 | ⟨p, hp⟩
            · have hl0 : lostN (missL x ms s j) = -1 := by rw [h00]; rfl
              obtain ⟨t1, t2⟩ := words_none (x := x) (ms := ms) (s := s) (by rw [HNT.out]; exact h00)
              rw [HNT.out] at t2
              have HT1 := hidden t1
              have HT2 := hidden t2
              rw [hl0]
              clear h00 hl0 t1 t2
              have FO := hidden ((own_ints ho.1).widen (lo' := w.heap.size) B2.size (Nat.le_refl _))
              have FB := hidden (B2.trans (hb.mono B2.size))
              clear ho hb Xr hlen hm1 hj hlt
              go_wp2
              refine bodyPost_ret (v := .tuple #[.slice (some ⟨w2.heap.size, 0, none⟩) j j, .bool true]) (by simp [results, Try.results14, go_sem]) rfl ?_
              exact ⟨_, _, _, by rw [HF.out.1, HT1.out], by rw [HF.out.2, HT2.out]; exact FO.out, FB.out⟩
            · have hl0 : lostN (missL x ms s j) = (p : Int) := by rw [hp]; rfl
              have hpj : p < j := missL_lt (x := x) (ms := ms) (s := s) (by rw [hp]; simp)
              obtain ⟨t1, t2⟩ := words_one (x := x) (ms := ms) (s := s) (p := p) (by rw [HNT.out]; exact hp)
              rw [HNT.out] at t2
              have HT1 := hidden t1
              have HT2 := hidden t2
              rw [hl0]
              clear hp hl0 t1 t2
              have hp0 : ((p : Int) != -1) = true := by simp
              have hp1 : ((p : Int) == -1) = false := by simp
              have hp2 : (0 : Int) ≤ (p : Int) := by omega
              have hp3 : (p : Int) < (j : Int) := by omega
              go_wp2_with fail
              refine (implMissingWord_any _ _ _ _ (wordL x ms s j) (p : Int) hlen ho.reads (by omega)).mono ?_
              rintro e w7 ⟨rfl, hs7⟩
              have O1 := ho.same hs7
              have B7 := hb.trans (hs7.below _)
              obtain ⟨c1, f1, O2, t2⟩ := O1.store p hpj (skipL (wordL x ms s j) (p : Int) j)
              have FO := hidden ((own_ints O2.1).widen (lo' := w.heap.size) B2.size (Nat.le_refl _))
              have FB := hidden (B2.trans ((B7.setCell (p := ⟨w2.heap.size, p, none⟩) (Nat.le_refl _) (.int .i64 (skipL (wordL x ms s j) (p : Int) j))).mono B2.size))
              generalize (wordL x ms s j).getD p 0 = y at c1
              generalize skipL (wordL x ms s j) (p : Int) j = q at FO FB HT2 ⊢
              clear O1 O2 t2 ho hb hs7 Xr B7
              go_wp2
              refine bodyPost_ret (v := .tuple #[.slice (some ⟨w2.heap.size, 0, none⟩) j j, .bool true]) (by simp [results, Try.results14, go_sem]) rfl ?_
              exact ⟨_, _, _, by rw [HF.out.1, HT1.out], by rw [HF.out.2, HT2.out]; exact FO.out, FB.out⟩
    · rw [hbr] at k12
      have HF : Hid (wordsOk6 x ms ds s = false ∧ wordsL6 x ms ds s = []) := by unfold Hid wordsOk6 wordsL6 okB6; simp [hbr]
      have FO := hidden ((own_ints (Owns.lit .i64 3 w1 [] 0 #[] rfl rfl (by unfold maxLen; omega))).widen (lo' := w.heap.size) B1.size (Nat.le_refl _))
      have FB := hidden (B1.alloc B1.size (.cells #[] 3))
      go_wp2
      refine bodyPost_ret (v := .tuple #[.slice (some ⟨w1.heap.size, 0, none⟩) 0 0, .bool false]) (by simp [results, Try.results14, go_sem]) rfl ?_
      exact ⟨_, _, _, by rw [HF.out.1], by rw [HF.out.2]; exact FO.out, FB.out⟩

end Go.Proofs.Ytfimpohbpccjaaa

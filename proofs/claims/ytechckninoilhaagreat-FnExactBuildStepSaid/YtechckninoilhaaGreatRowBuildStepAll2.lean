/-
 The walk of the program's copyArr: the same array in memory of its own. Condition: it weighs at most 2097152.
-/
import Derived.Test.YtechckninoilhaaGreatRowBuildStepAll3
import Derived.Test.YtechckninoilhaaGreatRowBuildStepAll4
import Derived.Test.YtechckninoilhaaGreatOrder
import Derived.OrdersHeld
import Derived.RegionTactic
import Derived.Test.YtechckninoilhaaGreatRowBuildStepAll5
import Derived.Test.YtechckninoilhaaGreatBox
import Derived.Test.YtechckninoilhaaGreatCode8
import Derived.Test.YtechckninoilhaaGreatWalkArrOk3
import Derived.Deep.Cut
import Derived.Test.YtechckninoilhaaGreatHeld
import Derived.Test.YtechckninoilhaaGreatWalkArr
import Derived.Test.YtechckninoilhaaGreatWalkCopy
import Derived.Test.YtechckninoilhaaGreatWalkCopySpec

set_option maxRecDepth 100000
set_option maxHeartbeats 8000000
set_option linter.unusedSimpArgs false

namespace Go.Proofs.YtechckninoilhaaGreat
open Go.RowKit

theorem wordOn_any (w : World) (E : TypeId) (x : ArrN) (ms : List MemD) (j : Nat) (v : Value) (s : Int) (hd : DiskV w E x ms j v) (hw : wtMemS ms <= 2097152) :
 Calls Tryz.prog 155 #[v, .int .i64 s] w fun e w' => e = .returned (.tuple #[.int .i64 (word6 x ms (j : Int) s), .bool (has6 x ms (j : Int) s)]) /\ Below w.heap.size w w' := by
 obtain ⟨a0, a1, a3, c0, c1, c3, ss, cs, f, bs, hj, r0, r1, r3, h⟩ := hd
 have hwm := Nat.le_trans (inner_leM hj) hw
 obtain ⟨hh, hv⟩ := has_at6 (x := x) (s := s) hj
 have hl := live_at6 (x := x) (s := s) hj
 rcases h with ⟨rfl, rfl⟩ | ⟨rfl, hx, rfl⟩ | ⟨rfl, hx, rfl⟩
 . exact wordOn_failed w x ms j s (by rw [hh, hl]; rfl)
 . exact wordOn_lost w E x ms j s a0 a1 a3 c0 c1 c3 ss cs bs r0 r1 r3 hwm (by rw [hh, hl]; simp [hx]) hv
 exact wordOn_sound w E x ms j s a0 a1 a3 c0 c1 c3 ss cs bs r0 r1 r3 hwm (by rw [hh, hl]; simp [hx]) hv

theorem fill6 (x : ArrN) (ms : List MemD) (s : Int) (n j : Nat) (h : j < n) : (wordL x ms s j ++ List.replicate (n - j) (0 : Int)).set j (word6 x ms (j : Int) s) = wordL x ms s (j + 1) ++ List.replicate (n - (j + 1)) (0 : Int) := by
 have e : n - j = (n - (j + 1)) + 1 := by omega
 rw [List.set_append, if_neg (by rw [wordL_len]; omega), wordL_len, Nat.sub_self, e, List.replicate_succ, List.set_cons_zero, wordL_succ, List.append_assoc]
 rfl

theorem implWords_any (w : World) (E F G : TypeId) (x : ArrN) (am ad : Option Addr) (nm cm nd cd : Nat) (ms : List MemD) (ds : List (Int × List Int)) (s : Int) (h0 : (tMemS E F).Rd w [.slice am nm cm] ms) (h1 : (tWrS G).Rd w [.slice ad nd cd] ds) (hw : wtArr ms ds <= 2097152) :
 Calls Tryz.prog 131 #[.agg #[.int .i64 x.id, .int .i64 x.n, .int .i64 x.s, .slice am nm cm, .int .i64 x.lost, .int .i64 x.built, .int .i64 x.seq, .int .i64 x.tail, .int .i64 x.gen, .slice ad nd cd, .int .i64 x.fuse, .bool x.down, .bool x.broken], .int .i64 s] w fun e w' => ∃ a' l' c', e = .returned (.tuple #[.slice a' l' c', .bool (wordsOk6 x ms ds s)]) /\ tIntS.Own w' w.heap.size w'.heap.size [.slice a' l' c'] (wordsL6 x ms ds s) /\ Below w.heap.size w w' := by
 have hwm : wtMemS ms <= 2097152 := by unfold wtArr at hw; omega
 obtain ⟨hl, hc, hm⟩ := row_length h0
 obtain ⟨i0, hi, hz0, hz1, hz2⟩ := info_parts Tryz.info3
 have hA := new_below w (.cells #[.int .i64 x.id, .int .i64 x.n, .int .i64 x.s, .slice am nm cm, .int .i64 x.lost, .int .i64 x.built, .int .i64 x.seq, .int .i64 x.tail, .int .i64 x.gen, .slice ad nd cd, .int .i64 x.fuse, .bool x.down, .bool x.broken] 33)
 have X := Box.new w 33 #[.int .i64 x.id, .int .i64 x.n, .int .i64 x.s, .slice am nm cm, .int .i64 x.lost, .int .i64 x.built, .int .i64 x.seq, .int .i64 x.tail, .int .i64 x.gen, .slice ad nd cd, .int .i64 x.fuse, .bool x.down, .bool x.broken]
 obtain ⟨k0, k1, k2, k3, k4, k5, k6, k7, k8, k9, k10, k11, k12⟩ := X.cells13
 have zA := X.lt
 have r0 := h0.below hA
 have r1 := h1.below hA
 go_enter Tryz.func131, Tryz.ntmps131
 go_wp2_with fail
 generalize w.alloc (.cells #[.int .i64 x.id, .int .i64 x.n, .int .i64 x.s, .slice am nm cm, .int .i64 x.lost, .int .i64 x.built, .int .i64 x.seq, .int .i64 x.tail, .int .i64 x.gen, .slice ad nd cd, .int .i64 x.fuse, .bool x.down, .bool x.broken] 33) = W at hA X zA r0 r1 k0 k1 k2 k3 k4 k5 k6 k7 k8 k9 k10 k11 k12 ⊢
 refine (implArrOk_any _ E F G x _ _ _ _ _ _ ms ds r0 r1 hw).mono ?_
 rintro e w1 ⟨rfl, b1⟩
 have X1 := X.below b1 zA
 have B1 := Below.andThen hA b1
 have q1 := r0.below b1
 clear k0 k1 k2 k3 k4 k5 k6 k7 k8 k9 k10 k11 k12 X b1 hA zA r0 r1
 obtain ⟨k0, k1, k2, k3, k4, k5, k6, k7, k8, k9, k10, k11, k12⟩ := X1.cells13
 cases ha : arrB x ms ds
 . skip
   have HF : Hid (wordsOk6 x ms ds s = false /\ wordsL6 x ms ds s = []) := by unfold Hid wordsOk6 wordsL6 okB6; simp [ha]
   have FO := hidden ((own_ints (Owns.lit .i64 3 w1 [] 0 #[] rfl rfl (by unfold maxLen; omega))).widen (lo' := w.heap.size) B1.size (Nat.le_refl _))
   have FB := hidden (B1.alloc B1.size (.cells #[] 3))
   go_wp2
   refine bodyPost_ret (v := .tuple #[.slice (some ⟨w1.heap.size, 0, none⟩) 0 0, .bool false]) (by simp [results, Tryz.results131, go_sem]) rfl ?_
   exact ⟨_, _, _, by rw [HF.out.1], by rw [HF.out.2]; exact FO.out, FB.out⟩
 have hg : geoB x.n x.s = true := by unfold arrB at ha; simp only [Bool.and_eq_true] at ha; exact ha.1
 have hmn : (ms.length : Int) = x.n := by unfold arrB memsB at ha; simp only [Bool.and_eq_true, decide_eq_true_eq] at ha; exact ha.2.2.1.2
 have HMN := hidden hmn
 clear hmn
 obtain ⟨g1, g2, g3, g4⟩ := geoB_iff.1 hg
 cases hbr : x.broken
 . rw [hbr] at k12
   go_wp2_with fail
   refine (hasStripe_any _ x.n x.s s).mono ?_
   rintro e w2 ⟨rfl, b2⟩
   have X2 := X1.below b2 X1.lt
   have B2 := Below.andThen B1 b2
   have q2 := q1.below b2
   clear k0 k1 k2 k3 k4 k5 k6 k7 k8 k9 k10 k11 k12 X1 b2 B1 q1
   have hst := stripe_in6 (x := x) (y := s) hg
   cases hin : stripeB x.n x.s s
   . skip
     have HF : Hid (wordsOk6 x ms ds s = false /\ wordsL6 x ms ds s = []) := by unfold Hid wordsOk6 wordsL6 okB6; rw [← hst, hin]; simp
     have FO := hidden ((own_ints (Owns.lit .i64 3 w2 [] 0 #[] rfl rfl (by unfold maxLen; omega))).widen (lo' := w.heap.size) B2.size (Nat.le_refl _))
     have FB := hidden (B2.alloc B2.size (.cells #[] 3))
     go_wp2
     refine bodyPost_ret (v := .tuple #[.slice (some ⟨w2.heap.size, 0, none⟩) 0 0, .bool false]) (by simp [results, Tryz.results131, go_sem]) rfl ?_
     exact ⟨_, _, _, by rw [HF.out.1], by rw [HF.out.2]; exact FO.out, FB.out⟩
   have HF : Hid (wordsOk6 x ms ds s = wordsB x ms s /\ wordsL6 x ms ds s = words6 x ms s) := by unfold Hid wordsOk6 wordsL6 okB6; rw [ha, hbr, ← hst, hin]; exact ⟨rfl, rfl⟩
   clear hst hbr ha hin
   obtain ⟨n, hn⟩ : ∃ n : Nat, x.n = (n : Int) := ⟨x.n.toNat, by omega⟩
   have HN := hidden hn
   have HNT : Hid (x.n.toNat = n) := by unfold Hid; omega
   have hn5 : n <= 5 := by omega
   have hn3 : 3 <= n := by omega
   have hnm : n = nm := by have := HMN.out; omega
   have HNM := hidden hnm
   clear hnm
   obtain ⟨k0, k1, k2, k3, k4, k5, k6, k7, k8, k9, k10, k11, k12⟩ := X2.cells13
   rw [hn] at k1
   clear hn k0 k2 k3 k4 k5 k6 k7 k8 k9 k10 k11 k12
   have hb3 : i0.bytes * n <= 281474976710656 := by rw [hz2]; omega
   have hm3 : n <= maxLen := by unfold maxLen; omega
   go_wp2_with (at_make; refine wpList_make_full _ rfl _ _ 49 rfl w2.heap.size 3 i0 (.int .i64 0) 1 Tryz.underlying49 hi hz0 hz1 _ _ _ _ n rfl rfl rfl rfl hb3 hm3 (Nat.le_refl _) ?_; intro w3 hown hgrow)
   have hO : Owns .i64 3 w3 w2.heap.size (.slice (some ⟨w2.heap.size, 0, none⟩) n n) (List.replicate n 0) := by
    rw [made_ints] at hown
    unfold Owns
    rw [List.length_replicate]
    exact hown
   have hO1 := hO.own
   have hB1 : Below w2.heap.size w2 w3 := (Below.refl _ _).grown hgrow (Nat.le_refl _) (by simp)
   have zw : w2.heap.size < w3.heap.size := hO1.2 _ rfl
   generalize w3.heap.size = hi1 at hO1 zw
   clear hown hgrow hO k1
   go_loopw [7, 32] (fun lo i wr => ∃ j : Nat, j <= n /\ i = .int .i64 j /\ lo = .int .i64 (lostN (missL x ms s j)) /\ (missL x ms s j).length <= 1 /\ Own .i64 3 wr w2.heap.size hi1 (.slice (some ⟨w2.heap.size, 0, none⟩) n n) (wordL x ms s j ++ List.replicate (n - j) 0) /\ Below w2.heap.size w2 wr) (fun _ i _ => n - (intOf i).toNat)
   case atStart => exact ⟨0, Nat.zero_le _, rfl, rfl, Nat.zero_le _, by simpa [wordL] using hO1, hB1⟩
   clear hO1 hB1
   obtain ⟨j, hj, rfl, rfl, hm1, ho, hb⟩ := hrel
   have Xr := X2.below hb X2.lt
   have zs := hb.size
   by_cases hlt : j < n
   . obtain ⟨k0, k1, k2, k3, k4, k5, k6, k7, k8, k9, k10, k11, k12⟩ := Xr.cells13
     have hlt' : (j : Int) < (n : Int) := by omega
     go_wp2_with fail
     refine (diskAt_any _ E F x _ _ _ _ _ _ ms j (q2.below hb) hwm (by have := HNM.out; omega)).mono ?_
     rintro e w5 ⟨v, rfl, hd, b5⟩
     have o5 := ho.below b5
     have B5 := hb.trans (b5.mono zs)
     clear k0 k1 k2 k3 k4 k5 k6 k7 k8 k9 k10 k11 k12 Xr b5 ho hb
     go_wp2_with fail
     refine (wordOn_any _ E x ms j v s hd hwm).mono ?_
     rintro e w6 ⟨rfl, b6⟩
     have o6 := o5.below b6
     have B6 := B5.trans (b6.mono B5.size)
     clear b6 o5 B5 hd
     have hfs := fill6 x ms s n j hlt
     obtain ⟨hcy, hfy, hst, hbt⟩ := o6.store j hlt (word6 x ms (j : Int) s)
     rw [hfs] at hst
     have HST := hidden hst
     have HB : Hid (Below w2.heap.size w2 (w6.setCell ⟨w2.heap.size, j, none⟩ (.int .i64 (word6 x ms (j : Int) s)))) := B6.setCell (Nat.le_refl _) _
     have hj0 : (0 : Int) <= (j : Int) := Int.natCast_nonneg _
     clear hst hbt hfs
     generalize (wordL x ms s j ++ List.replicate (n - j) 0).getD j 0 = old at hcy
     cases hh : has6 x ms (j : Int) s
     . have hmn := missL_no hh
       rcases list_cases hm1 with h00 | ⟨p, hp⟩
       . have hl0 : lostN (missL x ms s j) = -1 := by rw [h00]; rfl
         have hl1 : lostN (missL x ms s (j + 1)) = (j : Int) := by rw [hmn, h00]; rfl
         have hc1 : (missL x ms s (j + 1)).length <= 1 := by rw [hmn, h00]; exact Nat.le_refl _
         have HL1 := hidden hl1
         have HC1 := hidden hc1
         rw [hl0]
         clear hmn h00 hl0 hl1 hc1 B6 o6
         generalize word6 x ms (j : Int) s = y at HST HB ⊢
         go_wp2
         go_roundw
         case rel => exact ⟨j + 1, by omega, by go_num, by rw [HL1.out], HC1.out, HST.out, HB.out⟩
         case measure => simp [intOf]; omega
       have hl0 : lostN (missL x ms s j) = (p : Int) := by rw [hp]; rfl
       obtain ⟨t1, t2⟩ := words_two (x := x) (ms := ms) (s := s) (j := j + 1) (by rw [hmn, hp]; exact Nat.le_refl _) (by have := HNT.out; omega)
       have HT1 := hidden t1
       have HT2 := hidden t2
       rw [hl0]
       have hp0 : ((p : Int) != -1) = true := by simp
       have hp1 : ((p : Int) == -1) = false := by simp
       clear hmn hp hl0 t1 t2 HST HB
       have FO := hidden ((own_ints (Owns.lit .i64 3 w6 [] 0 #[] rfl rfl (by unfold maxLen; omega))).widen (lo' := w.heap.size) (Nat.le_trans B2.size B6.size) (Nat.le_refl _))
       have FB := hidden (B2.trans ((B6.alloc B6.size (.cells #[] 3)).mono B2.size))
       clear B6 o6
       go_wp2
       refine bodyPost_ret (v := .tuple #[.slice (some ⟨w6.heap.size, 0, none⟩) 0 0, .bool false]) (by simp [results, Tryz.results131, go_sem]) rfl ?_
       exact ⟨_, _, _, by rw [HF.out.1, HT1.out], by rw [HF.out.2, HT2.out]; exact FO.out, FB.out⟩
     have hmy := missL_yes hh
     have HL1 : Hid (lostN (missL x ms s (j + 1)) = lostN (missL x ms s j)) := by unfold Hid; rw [hmy]
     have HC1 : Hid ((missL x ms s (j + 1)).length <= 1) := by unfold Hid; rw [hmy]; exact hm1
     clear hmy B6 o6
     generalize word6 x ms (j : Int) s = y at HST HB ⊢
     go_wp2
     go_roundw
     case rel => exact ⟨j + 1, by omega, by go_num, by rw [HL1.out], HC1.out, HST.out, HB.out⟩
     case measure => simp [intOf]; omega
   have ej : j = n := by omega
   subst ej
   rw [Nat.sub_self, List.replicate_zero, List.append_nil] at ho
   have hlen := wordL_len x ms s j
   rcases list_cases hm1 with h00 | ⟨p, hp⟩
   . have hl0 : lostN (missL x ms s j) = -1 := by rw [h00]; rfl
     obtain ⟨t1, t2⟩ := words_none (x := x) (ms := ms) (s := s) (by rw [HNT.out]; exact h00)
     rw [HNT.out] at t2
     have HT1 := hidden t1
     have HT2 := hidden t2
     rw [hl0]
     clear h00 hl0 t1 t2
     have FO := hidden ((own_ints ho.1).widen (lo' := w.heap.size) B2.size (Nat.le_refl _))
     have FB := hidden (B2.trans (hb.mono B2.size))
     clear ho hb Xr hlen hm1 hj hlt
     go_wp2
     refine bodyPost_ret (v := .tuple #[.slice (some ⟨w2.heap.size, 0, none⟩) j j, .bool true]) (by simp [results, Tryz.results131, go_sem]) rfl ?_
     exact ⟨_, _, _, by rw [HF.out.1, HT1.out], by rw [HF.out.2, HT2.out]; exact FO.out, FB.out⟩
   have hl0 : lostN (missL x ms s j) = (p : Int) := by rw [hp]; rfl
   have hpj : p < j := missL_lt (x := x) (ms := ms) (s := s) (by rw [hp]; simp)
   obtain ⟨t1, t2⟩ := words_one (x := x) (ms := ms) (s := s) (p := p) (by rw [HNT.out]; exact hp)
   rw [HNT.out] at t2
   have HT1 := hidden t1
   have HT2 := hidden t2
   rw [hl0]
   clear hp hl0 t1 t2
   have hp0 : ((p : Int) != -1) = true := by simp
   have hp1 : ((p : Int) == -1) = false := by simp
   have hp2 : (0 : Int) <= (p : Int) := by omega
   have hp3 : (p : Int) < (j : Int) := by omega
   go_wp2_with fail
   refine (implMissingWord_any _ _ _ _ (wordL x ms s j) (p : Int) hlen ho.reads (by omega)).mono ?_
   rintro e w7 ⟨rfl, hs7⟩
   have O1 := ho.same hs7
   have B7 := hb.trans (hs7.below _)
   obtain ⟨c1, f1, O2, t2⟩ := O1.store p hpj (skipL (wordL x ms s j) (p : Int) j)
   have FO := hidden ((own_ints O2.1).widen (lo' := w.heap.size) B2.size (Nat.le_refl _))
   have FB := hidden (B2.trans ((B7.setCell (p := ⟨w2.heap.size, p, none⟩) (Nat.le_refl _) (.int .i64 (skipL (wordL x ms s j) (p : Int) j))).mono B2.size))
   generalize (wordL x ms s j).getD p 0 = y at c1
   generalize skipL (wordL x ms s j) (p : Int) j = q at FO FB HT2 ⊢
   clear O1 O2 t2 ho hb hs7 Xr B7
   go_wp2
   refine bodyPost_ret (v := .tuple #[.slice (some ⟨w2.heap.size, 0, none⟩) j j, .bool true]) (by simp [results, Tryz.results131, go_sem]) rfl ?_
   exact ⟨_, _, _, by rw [HF.out.1, HT1.out], by rw [HF.out.2, HT2.out]; exact FO.out, FB.out⟩
 rw [hbr] at k12
 have HF : Hid (wordsOk6 x ms ds s = false /\ wordsL6 x ms ds s = []) := by unfold Hid wordsOk6 wordsL6 okB6; simp [hbr]
 have FO := hidden ((own_ints (Owns.lit .i64 3 w1 [] 0 #[] rfl rfl (by unfold maxLen; omega))).widen (lo' := w.heap.size) B1.size (Nat.le_refl _))
 have FB := hidden (B1.alloc B1.size (.cells #[] 3))
 go_wp2
 refine bodyPost_ret (v := .tuple #[.slice (some ⟨w1.heap.size, 0, none⟩) 0 0, .bool false]) (by simp [results, Tryz.results131, go_sem]) rfl ?_
 exact ⟨_, _, _, by rw [HF.out.1], by rw [HF.out.2]; exact FO.out, FB.out⟩

theorem burn_any (w : World) (B : Nat) (x : ArrN) (ms : List MemD) (ds : List (Int × List Int)) (fm fd : List Nat) (h : ArrAt w B x ms ds fm fd) (hf : x.fuse <= 1000) (hdn : x.down = false) :
 Calls Tryz.prog 146 #[.pointer (some ⟨B, 0, none⟩)] w fun e w' => EndOf (opX x) e /\ ArrAt w' B (opX x) ms ds fm fd /\ Moved B fm w fm w' := by
 obtain ⟨bm, bd, cm, cd, X, hm, hd, hr, r1, r2⟩ := h
 unfold arrC at X
 obtain ⟨k0, k1, k2, k3, k4, k5, k6, k7, k8, k9, k10, k11, k12⟩ := X.cells13
 have fz := X.frozen
 by_cases h0 : x.fuse = 0
 . have HX : Hid (opX x = {x with down := true, fuse := -1}) := by unfold Hid opX; rw [if_neg (by simp [hdn]), if_pos h0]
   have Y := (X.set 11 (.bool true)).set 10 (.int .i64 (-1))
   have M := hidden ((hm.setCell (g := B) (j := 11) r1 (.bool true)).setCell (g := B) (j := 10) r1 (.int .i64 (-1)))
   have D := hidden ((hd.setCell (g := B) (j := 11) r2 (.bool true)).setCell (g := B) (j := 10) r2 (.int .i64 (-1)))
   have MV := hidden ((Moved.set (B := B) (j := 11) (fm := fm) (w := w) (.bool true)).trans (Moved.set (B := B) (j := 10) (.int .i64 (-1))))
   have YH := hidden Y
   have HE : Hid (EndOf (opX x) (.panicked goneC)) := EndOf.gone (by rw [HX.out])
   rw [h0] at k10
   clear Y X hm hd hdn h0
   go_enter Tryz.func146, Tryz.ntmps146
   go_wp2
   refine ⟨rfl, HE.out, ?_, MV.out⟩
   rw [HX.out]; exact ⟨bm, bd, cm, cd, YH.out, M.out, D.out, hr, r1, r2⟩
 have e0 : (x.fuse == 0) = false := by simpa using h0
 by_cases h1 : 0 < x.fuse
 . have hw : IntKind.i64.wrap (x.fuse - 1) = x.fuse - 1 := IntWalk.i64_in _ (by omega)
   have HX : Hid (opX x = {x with fuse := x.fuse - 1}) := by unfold Hid opX; rw [if_neg (by simp [hdn]), if_neg h0, if_pos h1]
   have HE : Hid (EndOf (opX x) (.returned (.tuple #[]))) := EndOf.fine (by rw [HX.out]; exact hdn)
   have YH := hidden (X.set 10 (.int .i64 (x.fuse - 1)))
   have M := hidden (hm.setCell (g := B) (j := 10) r1 (.int .i64 (x.fuse - 1)))
   have D := hidden (hd.setCell (g := B) (j := 10) r2 (.int .i64 (x.fuse - 1)))
   have MV := hidden (Moved.set (B := B) (j := 10) (fm := fm) (w := w) (.int .i64 (x.fuse - 1)))
   clear X hm hd hdn h0
   go_enter Tryz.func146, Tryz.ntmps146
   go_wp2
   refine bodyPost_end (v := .tuple #[]) (results_none rfl _ _ _) rfl ?_
   exact ⟨HE.out, by rw [HX.out]; exact ⟨bm, bd, cm, cd, YH.out, M.out, D.out, hr, r1, r2⟩, MV.out⟩
 have HX : Hid (opX x = x) := by unfold Hid opX; rw [if_neg (by simp [hdn]), if_neg h0, if_neg h1]
 have HE : Hid (EndOf (opX x) (.returned (.tuple #[]))) := EndOf.fine (by rw [HX.out]; exact hdn)
 have YH := hidden X
 clear hdn h0 X
 go_enter Tryz.func146, Tryz.ntmps146
 go_wp2
 refine bodyPost_end (v := .tuple #[]) (results_none rfl _ _ _) rfl ?_
 exact ⟨HE.out, by rw [HX.out]; exact ⟨bm, bd, cm, cd, YH.out, hm, hd, hr, r1, r2⟩, Moved.refl _ _ _⟩

theorem perform_any (w : World) (B : Nat) (x : ArrN) (ms : List MemD) (ds : List (Int × List Int)) (fm fd : List Nat) (h : ArrAt w B x ms ds fm fd) (hf : x.fuse <= 1000) (hdn : x.down = false) (hM : MsOk ms)
 (bo : Option Addr) (co : Nat) (ops : List DOp) (fo : List Nat) (ho : (tOps B).Mine w [.slice bo ops.length co] ops fo) (hdis : ∀ b ∈ fo, b ≠ B /\ b ∉ fm) (hop : ∀ o ∈ ops, o.1 < ms.length /\ flagAt ms o.1 = false) :
 Calls Tryz.prog 116 #[.pointer (some ⟨B, 0, none⟩), .slice bo ops.length co] w (Did w B fm ds fd (runS (x, ms) ops)) := by
 have HK := hidden (fun j : Nat => runS_keeps (q := (x, ms)) hM hf (ops.take j))
 have HF := hidden (fun j k : Nat => runS_flag (x, ms) (ops.take j) k)
 have H0 := hidden h
 have hlo := ho.lt
 have hmx := (row_length ho.rd).2
 have HO := hidden ho
 have HD := hidden hdis
 have HP := hidden hop
 have HN : Hid (x.down = false) := hdn
 have zz := h.lt
 have zm := h.ltm.1
 clear h ho hdis hop hdn
 have hS : ∀ wr fm1, Moved B fm w fm1 wr -> Turned (B :: fm) w wr /\ ∀ b ∈ fm1, b ∈ fm ∨ w.heap.size <= b := fun _ _ h => h
 go_enter Tryz.func116, Tryz.ntmps116
 go_wp2
 go_loopw [8] (fun i wr => ∃ (j : Nat) (fm1 : List Nat), j <= ops.length /\ i = .int .i64 j /\ (runS (x, ms) (ops.take j)).1.down = false /\ ArrAt wr B (runS (x, ms) (ops.take j)).1 (runS (x, ms) (ops.take j)).2 ds fm1 fd /\ Moved B fm w fm1 wr) (fun i _ => ops.length - (intOf i).toNat)
 case atStart => exact ⟨0, fm, Nat.zero_le _, rfl, HN.out, H0.out, Moved.refl _ _ _⟩
 obtain ⟨j, fm1, hj, rfl, hdj, hA, hMv⟩ := hrel
 obtain ⟨hMj, hsj, hlj⟩ := HK.out j
 have hfj := hsj.2.2.2.2.2.2.2.2.2.1
 by_cases hjn : j < ops.length
 . have i2 : (j : Int) < (ops.length : Int) := by omega
   have i1 : (0 : Int) <= (j : Int) := by omega
   have hoj : ops[j]? = some (ops[j]'hjn) := List.getElem?_eq_getElem hjn
   obtain ⟨p1, p2⟩ := HP.out _ (List.mem_of_getElem? hoj)
   generalize ops[j]'hjn = o at hoj p1 p2
   have HS := hidden (runS_next (q := (x, ms)) hoj)
   have HE := hidden (fun h => runS_end (q := (x, ms)) (ops := ops) (j := j + 1) h)
   have hfl := (HF.out j o.1).trans p2
   generalize hst : runS (x, ms) (ops.take j) = st at hA hMj hsj hlj hfj HS hdj hfl
   obtain ⟨y, ns⟩ := st
   dsimp only at hA hMj hsj hlj hfj hdj hfl
   clear hst
   obtain ⟨g, F, cp, fp, rfl, hg, hc, hen, hfp, hrun⟩ := dop_at HO.out hoj
   have hgf : g ∈ fo := by
    obtain ⟨hh, _⟩ := HO.out
    rcases hh with ⟨h1, _⟩ | ⟨b, cap', cur, fps, h1, _, _, _, _, h6, _⟩
    . simp at h1
    simp at h1; rw [h6, h1.1]; exact List.mem_cons_self
   have hnf : ∀ b ∈ fo, b ∉ (B :: fm) := fun b hb hm => by
    rcases List.mem_cons.1 hm with e | hm
    . exact (HD.out b hb).1 e
    exact (HD.out b hb).2 hm
   have hcr : wr.cell? ⟨g, j, none⟩ = some (.func (Fn.func F) #[] cp) := (World.cell?_of_block (w := w) (hMv.1.block g hg (hnf g hgf))).trans hc
   have MV := hidden hMv
   have HA := hidden hA
   have HR := hidden hrun
   have HFP := hidden hfp
   have HNF := hidden hnf
   clear hA hMv hrun hfp hnf hc
   go_wp2_with fail
   refine (burn_any _ B y ns ds fm1 fd HA.out hfj hdj).mono ?_
   rintro e w1 ⟨he, hA1, hMv1⟩
   cases hob : opB y
   . have hdd := opX_no hob
     unfold EndOf at he
     rw [if_pos hdd] at he
     subst he
     have hget : ns[o.1]? = some (ns.getD o.1 memZ) := by rw [List.getD_eq_getElem?_getD, List.getElem?_eq_getElem (by omega)]; rfl
     have HV : Hid (runS (x, ms) ops = (opX y, ns)) := by
      have h9 : runS (x, ms) (ops.take (j + 1)) = (opX y, ns) := HS.out.trans (doS_no hget hfl hob)
      exact (HE.out (by rw [h9]; exact hdd)).trans h9
     have HD2 : Hid (Did w B fm ds fd (runS (x, ms) ops) (.panicked goneC) w1) := by
      unfold Hid Did
      rw [HV.out]
      exact ⟨EndOf.gone hdd, fm1, hA1, MV.out.trans hMv1⟩
     clear hA1 hMv1
     go_wp2
     exact ⟨rfl, HD2.out⟩
   have hdd := opX_yes hob
   unfold EndOf at he
   rw [if_neg (by simp [hdd])] at he
   subst he
   have hget : ns[o.1]? = some (ns.getD o.1 memZ) := by rw [List.getD_eq_getElem?_getD, List.getElem?_eq_getElem (by omega)]; rfl
   have HV : Hid (runS (x, ms) (ops.take (j + 1)) = (opX y, ns.set o.1 (opF o (opX y) (ns.getD o.1 memZ)))) := by
    refine HS.out.trans ((doS_yes hget hfl hob).trans ?_)
    rw [opF_opX]
   have MV1 := hidden (MV.out.trans hMv1)
   have hsz := MV1.out.size
   have R1 := HR.out w1 (fun b hb => MV1.out.1.block b (hlo b (HFP.out b hb)) (HNF.out b (HFP.out b hb))) hsz (opX y) ns ds fm1 fd hA1 hMj (fun b hb => ⟨(HD.out b (HFP.out b hb)).1, fun hm => by
    rcases MV.out.2 b hm with h1 | h1
    . exact (HD.out b (HFP.out b hb)).2 h1
    have := hlo b (HFP.out b hb); omega⟩) (by omega)
   have RH := hidden R1
   clear hA1 hMv1 R1
   have hcf : ∀ w : World, Sem.run Tryz.prog (callFunc F cp) w = .ok (.enter F cp) w := hen
   go_wp2_with fail
   refine RH.out.mono ?_
   rintro e w2 ⟨rfl, fm2, hA2, hMv2⟩
   have HB := hidden (MV1.out.trans hMv2)
   have HA2 := hidden hA2
   clear hA2 hMv2 hcr
   go_wp2
   go_roundw
   case rel => exact ⟨j + 1, fm2, by omega, by go_num, by rw [HV.out]; exact hdd, by rw [HV.out]; exact HA2.out, HB.out⟩
   case measure => simp [intOf]; omega
 have ej : j = ops.length := by omega
 have i2 : ¬ (j : Int) < (ops.length : Int) := by omega
 subst ej
 rw [List.take_length] at hA hdj
 have HD2 : Hid (Did w B fm ds fd (runS (x, ms) ops) (.returned (.tuple #[])) wr) := ⟨EndOf.fine hdj, fm1, hA, hMv⟩
 clear hA hMv
 go_wp2
 refine bodyPost_end (v := .tuple #[]) (results_none rfl _ _ _) rfl ?_
 exact HD2.out

def Late (P : Program) (ops : Array Oper) (Q : Exit -> Act -> World -> Prop) (S : World -> Prop) (k : Nat) : Nat -> Array Bool -> Act -> World -> Prop
 | 0, l, a, w => Region.ready .any ops l = [] /\ Q .normal a w
 | n + 1, l, a, w => (Region.ready .any ops l = [] -> Q .normal a w) /\ ∀ j ∈ Region.ready .any ops l, wpOp P ops Q j (fun a' w' => (j ≠ k -> l.getD k true = false -> S w') /\ Late P ops Q S k n (l.setIfInBounds j true) a' w') a w

section
variable {P : Program} {ops : Array Oper} {Q : Exit -> Act -> World -> Prop} {S : World -> Prop} {k : Nat}

theorem Late.any : ∀ (n : Nat) (l : Array Bool) (a : Act) (w : World), Late P ops Q S k n l a w -> wpAny P .any ops Q n l a w
 | 0, _, _, _, h => h
 | n + 1, _, _, _, h => ⟨h.1, fun j hj => wpOp_mono (fun a' w' h' => Late.any n _ a' w' h'.2) (h.2 j hj)⟩

theorem Late.start {id : Nat} {a : Act} {w : World} (hm : P.follows .mixedOrders = true) (h : Late P ops Q S k ops.size (Array.replicate ops.size false) a w.drew) : (Code.region id ops true).wp P Q a w :=
 wp_region_any hm (Late.any _ _ _ _ h)

theorem Late.first {i : Nat} {oi ok : Oper} {v : Value} (hi : ops[i]? = some oi) (hk : ops[k]? = some ok) (hki : ∃ e ∈ ok.after, Region.binds .any e = true /\ e.on = i)
 (hsel : ∀ (j : Nat) (o : Oper) cs b, ops[j]? = some o -> o.op ≠ .select cs b) (hQ : ∀ c a w, Q (.panic c) (a.put oi.dst v) w -> Q (.panic c) a w) (n : Nat) :
 ∀ (l : Array Bool) (a : Act) (w : World),
  (∀ j oj, ops[j]? = some oj -> j ≠ i -> l.getD j true = false -> (∀ e ∈ oj.after, Region.binds .any e = true -> e.on ≠ i) -> oi.apart ops oj = true) ->
  l.getD k true = false -> i ∈ Region.ready .any ops l -> YieldsIf P ops S oi v a -> S w -> Late P ops Q S k n (l.setIfInBounds i true) (a.put oi.dst v) w -> Late P ops Q S k (n + 1) l a w := by
 induction n with
 | zero =>
  intro l a w _ hkl hr hy hS H
  constructor
  . intro h
    rw [h] at hr
    simp at hr
  intro j hj
  by_cases hji : j = i
  . rw [hji]
    exact hy.wpOp hi hS ⟨fun _ _ => hS, H⟩
  have h2 := ready_mono (i := i) hj hji
  rw [H.1] at h2
  simp at h2
 | succ n ih =>
  intro l a w hfree hkl hr hy hS H
  constructor
  . intro h
    rw [h] at hr
    simp at hr
  intro j hj
  by_cases hji : j = i
  . rw [hji]
    exact hy.wpOp hi hS ⟨fun _ _ => hS, H⟩
  obtain ⟨hju, oj, hoj, hall⟩ := mem_ready.1 hj
  have hiu := (mem_ready.1 hr).1
  have hno : ∀ e ∈ oj.after, Region.binds .any e = true -> e.on ≠ i := fun e he hb hon => unlisted hiu (hon ▸ hall e he hb)
  have hjk : j ≠ k := by
   intro hjk
   rw [hjk, hk] at hoj
   obtain ⟨e, he, hb, hon⟩ := hki
   cases hoj
   exact hno e he hb hon
  have h1 := H.2 j (ready_mono hj hji)
  have h2 := wpOp_putIf hoj (hfree j oj hoj hji hju hno) (fun cs b => hsel i oi cs b hi) (fun cs b => hsel j oj cs b hoj) hQ hy h1
  refine wpOp_mono ?_ h2
  intro a' w' h3
  have hik : i ≠ k := by
   intro hik
   obtain ⟨_, ok', hok', hall'⟩ := mem_ready.1 hr
   rw [hik, hk] at hok'
   obtain ⟨e, he, hb, hon⟩ := hki
   cases hok'
   exact unlisted hiu (hon ▸ hall' e he hb)
  have hS' := h3.2.1 hjk (by rw [getD_set_ne true hik]; exact hkl)
  refine ⟨fun _ _ => hS', ih _ a' w' ?_ (by rw [getD_set_ne true hjk]; exact hkl) (ready_mono hr (Ne.symm hji)) h3.1 hS' ?_⟩
  . intro m om hm hmi hun hnm
    refine hfree m om hm hmi ?_ hnm
    by_cases hjm : j = m
    . rw [← hjm]
      exact hju
    rw [getD_set_ne true hjm] at hun
    exact hun
  rw [Array.setIfInBounds_comm _ _ hji]
  exact h3.2.2

theorem Late.take {i : Nat} {oi : Oper} {v : Value} {n : Nat} {l : Array Bool} {a : Act} {w : World} {tl : List Oper} (hi' : ops.toList.drop i = oi :: tl)
 (hki : ((ops[k]?).map fun o => o.after.any fun e => Region.binds .any e && e.on == i) = some true) (hs : Region.noSelect ops = true) (hf : Region.free .any ops l i = true) (hr : (Region.ready .any ops l).contains i = true)
 (hQ : ∀ c a w, Q (.panic c) (a.put oi.dst v) w -> Q (.panic c) a w) (hy : YieldsIf P ops S oi v a) (hS : S w) (h : Late P ops Q S k n (l.setIfInBounds i true) (a.put oi.dst v) w) (hkl : l.getD k true = false := by kernel_rfl) : Late P ops Q S k (n + 1) l a w := by
 have hi := op_at hi'
 cases hk : ops[k]? with
 | none => rw [hk] at hki; cases hki
 | some ok =>
  rw [hk] at hki
  simp only [Option.map_some, Option.some.injEq, Array.any_eq_true', Bool.and_eq_true, beq_iff_eq] at hki
  exact Late.first hi hk hki (Region.noSelect_spec hs) hQ n l a w (Region.free_spec hi hf) hkl (by simpa using hr) hy hS h

theorem Late.one {i : Nat} {o : Oper} {n : Nat} {l : Array Bool} {a : Act} {w : World} {tl : List Oper} (hr : Region.ready .any ops l = [i]) (ho : ops.toList.drop i = o :: tl)
 (h : ∀ K' : Act -> World -> Prop, Shut (∀ a w, (i ≠ k -> S w) -> Late P ops Q S k n (l.setIfInBounds i true) a w -> K' a w) -> if Region.wanted o (yielded ops a.tmps) = true then Oper.wp P o a w K' Q else K' (a.put o.dst undef) w) : Late P ops Q S k (n + 1) l a w := by
 constructor
 . intro h0
   rw [hr] at h0
   simp at h0
 intro j hj
 rw [hr] at hj
 simp at hj
 rw [hj]
 exact wpOp_step (op_at ho) (fun K' hK => h K' (fun a w hS hW => hK a w ⟨fun h _ => hS h, hW⟩))

theorem Late.late {i : Nat} {o : Oper} {n : Nat} {l : Array Bool} {a : Act} {w : World} {tl : List Oper} (hr : Region.ready .any ops l = [i]) (ho : ops.toList.drop i = o :: tl) (hl : l.getD k true = true)
 (h : ∀ K' : Act -> World -> Prop, Shut (∀ a w, Late P ops Q S k n (l.setIfInBounds i true) a w -> K' a w) -> if Region.wanted o (yielded ops a.tmps) = true then Oper.wp P o a w K' Q else K' (a.put o.dst undef) w) : Late P ops Q S k (n + 1) l a w := by
 constructor
 . intro h0
   rw [hr] at h0
   simp at h0
 intro j hj
 rw [hr] at hj
 simp at hj
 rw [hj]
 exact wpOp_step (op_at ho) (fun K' hK => h K' (fun a w hW => hK a w ⟨fun _ h0 => (by rw [hl] at h0; cases h0), hW⟩))

theorem Late.two {i i' : Nat} {o o' : Oper} {n : Nat} {l : Array Bool} {a : Act} {w : World} {tl tl' : List Oper} (hr : Region.ready .any ops l = [i, i']) (ho : ops.toList.drop i = o :: tl) (ho' : ops.toList.drop i' = o' :: tl')
 (h : ∀ K' : Act -> World -> Prop, Shut (∀ a w, (i ≠ k -> S w) -> Late P ops Q S k n (l.setIfInBounds i true) a w -> K' a w) -> if Region.wanted o (yielded ops a.tmps) = true then Oper.wp P o a w K' Q else K' (a.put o.dst undef) w)
 (h' : ∀ K' : Act -> World -> Prop, Shut (∀ a w, (i' ≠ k -> S w) -> Late P ops Q S k n (l.setIfInBounds i' true) a w -> K' a w) -> if Region.wanted o' (yielded ops a.tmps) = true then Oper.wp P o' a w K' Q else K' (a.put o'.dst undef) w) : Late P ops Q S k (n + 1) l a w := by
 constructor
 . intro h0
   rw [hr] at h0
   simp at h0
 intro j hj
 rw [hr] at hj
 simp only [List.mem_cons, List.not_mem_nil, or_false] at hj
 rcases hj with hj | hj
 . rw [hj]
   exact wpOp_step (op_at ho) (fun K' hK => h K' (fun a w hS hW => hK a w ⟨fun h _ => hS h, hW⟩))
 rw [hj]
 exact wpOp_step (op_at ho') (fun K' hK => h' K' (fun a w hS hW => hK a w ⟨fun h _ => hS h, hW⟩))

theorem Late.done {l : Array Bool} {a : Act} {w : World} (hr : Region.ready .any ops l = []) (h : Q .normal a w) : ∀ n, Late P ops Q S k n l a w
 | 0 => ⟨hr, h⟩
 | _ + 1 => ⟨fun _ => h, by rw [hr]; simp⟩

end

theorem writeOp1_runs (w : World) (B p q y u m : Nat) (n : Int) (a5 : Option Addr) (c5 : Nat) (sw : List Int) (fs : List Nat) (hp : Box w p 53 #[.pointer (some ⟨B, 0, none⟩)]) (hq : Box w q 3 #[.int .i64 (m : Int)]) (hy : Box w y 3 #[.int .i64 n]) (hu : Box w u 49 #[.slice a5 sw.length c5]) (h5 : tIntS.Mine w [.slice a5 sw.length c5] sw fs) (hl5 : sw.length <= 2097152) : OpRuns B (p :: q :: y :: u :: fs) 158 #[.pointer (some ⟨p, 0, none⟩), .pointer (some ⟨q, 0, none⟩), .pointer (some ⟨y, 0, none⟩), .pointer (some ⟨u, 0, none⟩)] (wrK n sw m) w := by
 intro x ms ds fm fd hA hM hdis hlt
 dsimp only [wrK] at hlt
 obtain ⟨bm, bd, cm, cd, X, hmm, hdd, hr, r1, r2⟩ := hA
 have hm63 := (row_length hmm.rd).2
 obtain ⟨g, rfl⟩ := row_head hmm (by omega)
 have hdj : ms[m]? = some (ms[m]'(by omega)) := List.getElem?_eq_getElem (by omega)
 generalize ms[m]'(by omega) = d at hdj
 have hgm : ms.getD m memZ = d := getD_at hdj
 obtain ⟨hgl, a0, a1, a3, c0, c1, c3, ss, cs, f, bs, rfl, q0, q1, q2, q3, p0, p1, p3⟩ := disk_at hmm hdj
 have X0 := X
 unfold arrC at X0
 obtain ⟨k0, k1, k2, k3, k4, k5, k6, k7, k8, k9, k10, k11, k12⟩ := X0.cells13
 have zp := hp.lt
 have cp := hp.cell 0
 have zq := hq.lt
 have cq := hq.cell 0
 have zy := hy.lt
 have cy := hy.cell 0
 have zu := hu.lt
 have cu := hu.cell 0
 have hwt := memB_light (hM m _ hdj) f
 dsimp only at hwt
 have zB := X.lt
 have p5 := h5.rd
 have XH := hidden X
 have MH := hidden hmm
 have DH := hidden hdd
 have R0 := hidden p0
 have R1 := hidden p1
 have R3 := hidden p3
 have R5 := hidden p5
 have HG := hidden hgm
 have hS : w.drew.cell? ⟨p, 0, none⟩ = some (.pointer (some ⟨B, 0, none⟩)) /\ w.drew.cell? ⟨q, 0, none⟩ = some (.int .i64 (m : Int)) /\ w.drew.cell? ⟨y, 0, none⟩ = some (.int .i64 n) /\ w.drew.cell? ⟨u, 0, none⟩ = some (.slice a5 sw.length c5) /\ w.drew.cell? ⟨B, 3, none⟩ = some (.slice (some ⟨g, 0, none⟩) ms.length cm) /\ w.drew.cell? ⟨g, m * 4, none⟩ = some (.slice a0 ss.length c0) /\ w.drew.cell? ⟨g, m * 4 + 1, none⟩ = some (.slice a1 cs.length c1) /\ w.drew.cell? ⟨g, m * 4 + 2, none⟩ = some (.bool f) /\ w.drew.cell? ⟨g, m * 4 + 3, none⟩ = some (.slice a3 bs.length c3) := ⟨cp, cq, cy, cu, k3, q0, q1, q2, q3⟩
 have i1 : (0 : Int) <= (m : Int) := by omega
 have i3 : (m : Int) < (ms.length : Int) := by omega
 clear X X0 hmm hdd p0 p1 p3 p5 h5 hM hdj hgm hdis
 go_enter Tryz.func158, Tryz.ntmps158
 go_wp2_with fail
 refine Late.start (S := fun w' => w'.cell? ⟨p, 0, none⟩ = some (.pointer (some ⟨B, 0, none⟩)) /\ w'.cell? ⟨q, 0, none⟩ = some (.int .i64 (m : Int)) /\ w'.cell? ⟨y, 0, none⟩ = some (.int .i64 n) /\ w'.cell? ⟨u, 0, none⟩ = some (.slice a5 sw.length c5) /\ w'.cell? ⟨B, 3, none⟩ = some (.slice (some ⟨g, 0, none⟩) ms.length cm) /\ w'.cell? ⟨g, m * 4, none⟩ = some (.slice a0 ss.length c0) /\ w'.cell? ⟨g, m * 4 + 1, none⟩ = some (.slice a1 cs.length c1) /\ w'.cell? ⟨g, m * 4 + 2, none⟩ = some (.bool f) /\ w'.cell? ⟨g, m * 4 + 3, none⟩ = some (.slice a3 bs.length c3)) (k := 19) (by kernel_rfl) ?_
 refine Late.take (i := 0) (v := ?_) rfl (by kernel_rfl) (by kernel_rfl) (by kernel_rfl) (by kernel_rfl) (fun _ _ _ h => h) (Or.inl ⟨by rfl, ?_⟩) hS ?_
 rotate_left 1
 . (intro w hSw; (try dsimp only at hSw); go_split_ands; go_simp; first | done | with_reducible rfl)
 simp only [Act.put, List.setIfInBounds_toArray, List.set_cons_zero, List.set_cons_succ]
 refine Late.take (i := 1) (v := ?_) rfl (by kernel_rfl) (by kernel_rfl) (by kernel_rfl) (by kernel_rfl) (fun _ _ _ h => h) (Or.inl ⟨by rfl, ?_⟩) hS ?_
 rotate_left 1
 . (intro w hSw; (try dsimp only at hSw); go_split_ands; go_simp; first | done | with_reducible rfl)
 simp only [Act.put, List.setIfInBounds_toArray, List.set_cons_zero, List.set_cons_succ]
 refine Late.take (i := 2) (v := ?_) rfl (by kernel_rfl) (by kernel_rfl) (by kernel_rfl) (by kernel_rfl) (fun _ _ _ h => h) (Or.inl ⟨by rfl, ?_⟩) hS ?_
 rotate_left 1
 . (intro w hSw; (try dsimp only at hSw); go_split_ands; go_simp; first | done | with_reducible rfl)
 simp only [Act.put, List.setIfInBounds_toArray, List.set_cons_zero, List.set_cons_succ]
 refine Late.take (i := 3) (v := ?_) rfl (by kernel_rfl) (by kernel_rfl) (by kernel_rfl) (by kernel_rfl) (fun _ _ _ h => h) (Or.inl ⟨by rfl, ?_⟩) hS ?_
 rotate_left 1
 . (intro w hSw; (try dsimp only at hSw); go_split_ands; go_simp; first | done | with_reducible rfl)
 simp only [Act.put, List.setIfInBounds_toArray, List.set_cons_zero, List.set_cons_succ]
 refine Late.take (i := 4) (v := ?_) rfl (by kernel_rfl) (by kernel_rfl) (by kernel_rfl) (by kernel_rfl) (fun _ _ _ h => h) (Or.inl ⟨by rfl, ?_⟩) hS ?_
 rotate_left 1
 . (intro w hSw; (try dsimp only at hSw); go_split_ands; go_simp; first | done | with_reducible rfl)
 simp only [Act.put, List.setIfInBounds_toArray, List.set_cons_zero, List.set_cons_succ]
 refine Late.take (i := 5) (v := ?_) rfl (by kernel_rfl) (by kernel_rfl) (by kernel_rfl) (by kernel_rfl) (fun _ _ _ h => h) (Or.inl ⟨by rfl, ?_⟩) hS ?_
 rotate_left 1
 . (intro w hSw; (try dsimp only at hSw); go_split_ands; go_simp; first | done | with_reducible rfl)
 simp only [Act.put, List.setIfInBounds_toArray, List.set_cons_zero, List.set_cons_succ]
 refine Late.take (i := 6) (v := ?_) rfl (by kernel_rfl) (by kernel_rfl) (by kernel_rfl) (by kernel_rfl) (fun _ _ _ h => h) (Or.inl ⟨by rfl, ?_⟩) hS ?_
 rotate_left 1
 . (intro w hSw; (try dsimp only at hSw); go_split_ands; go_simp; first | done | with_reducible rfl)
 simp only [Act.put, List.setIfInBounds_toArray, List.set_cons_zero, List.set_cons_succ]
 refine Late.take (i := 7) (v := ?_) rfl (by kernel_rfl) (by kernel_rfl) (by kernel_rfl) (by kernel_rfl) (fun _ _ _ h => h) (Or.inl ⟨by rfl, ?_⟩) hS ?_
 rotate_left 1
 . (intro w hSw; (try dsimp only at hSw); go_split_ands; go_simp; first | done | with_reducible rfl)
 simp only [Act.put, List.setIfInBounds_toArray, List.set_cons_zero, List.set_cons_succ]
 refine Late.take (i := 8) (v := ?_) rfl (by kernel_rfl) (by kernel_rfl) (by kernel_rfl) (by kernel_rfl) (fun _ _ _ h => h) (Or.inl ⟨by rfl, ?_⟩) hS ?_
 rotate_left 1
 . (intro w hSw; (try dsimp only at hSw); go_split_ands; go_simp; first | done | with_reducible rfl)
 simp only [Act.put, List.setIfInBounds_toArray, List.set_cons_zero, List.set_cons_succ]
 refine Late.take (i := 9) (v := ?_) rfl (by kernel_rfl) (by kernel_rfl) (by kernel_rfl) (by kernel_rfl) (fun _ _ _ h => h) (Or.inl ⟨by rfl, ?_⟩) hS ?_
 rotate_left 1
 . (intro w hSw; (try dsimp only at hSw); go_split_ands; go_simp; first | done | with_reducible rfl)
 simp only [Act.put, List.setIfInBounds_toArray, List.set_cons_zero, List.set_cons_succ]
 refine Late.take (i := 10) (v := ?_) rfl (by kernel_rfl) (by kernel_rfl) (by kernel_rfl) (by kernel_rfl) (fun _ _ _ h => h) (Or.inl ⟨by rfl, ?_⟩) hS ?_
 rotate_left 1
 . (intro w hSw; (try dsimp only at hSw); go_split_ands; go_simp; first | done | with_reducible rfl)
 simp only [Act.put, List.setIfInBounds_toArray, List.set_cons_zero, List.set_cons_succ]
 refine Late.take (i := 11) (v := ?_) rfl (by kernel_rfl) (by kernel_rfl) (by kernel_rfl) (by kernel_rfl) (fun _ _ _ h => h) (Or.inl ⟨by rfl, ?_⟩) hS ?_
 rotate_left 1
 . (intro w hSw; (try dsimp only at hSw); go_split_ands; go_simp; first | done | with_reducible rfl)
 simp only [Act.put, List.setIfInBounds_toArray, List.set_cons_zero, List.set_cons_succ]
 refine Late.take (i := 12) (v := ?_) rfl (by kernel_rfl) (by kernel_rfl) (by kernel_rfl) (by kernel_rfl) (fun _ _ _ h => h) (Or.inl ⟨by rfl, ?_⟩) hS ?_
 rotate_left 1
 . (intro w hSw; (try dsimp only at hSw); go_split_ands; go_simp; first | done | with_reducible rfl)
 simp only [Act.put, List.setIfInBounds_toArray, List.set_cons_zero, List.set_cons_succ]
 refine Late.take (i := 13) (v := ?_) rfl (by kernel_rfl) (by kernel_rfl) (by kernel_rfl) (by kernel_rfl) (fun _ _ _ h => h) (Or.inl ⟨by rfl, ?_⟩) hS ?_
 rotate_left 1
 . (intro w hSw; (try dsimp only at hSw); go_split_ands; go_simp; first | done | with_reducible rfl)
 simp only [Act.put, List.setIfInBounds_toArray, List.set_cons_zero, List.set_cons_succ]
 refine Late.one (i := 14) (by kernel_rfl) rfl (fun K hK => ?_)
 go_simp
 refine (implWriteSec_any _ 109 _ _ _ _ _ _ _ _ _ _ _ _ ss cs f bs n sw R0.out.drew R1.out.drew R3.out.drew R5.out.drew (by omega) (by omega)).mono ?_
 rintro e w2 ⟨u0, u1, u3, rfl, o2, b2'⟩
 have b2 : Below w.heap.size w w2 := (Below.refl w.heap.size w).drew.trans b2'
 have o2b : (tMem 109).Own w2 w.heap.size w2.heap.size [u0, u1, .bool f, u3] _ := o2
 obtain ⟨d0, l0, f0, d1, l1, f1, d3, l3, f3, hv0, hv1, hv3⟩ := mem_slices o2b
 subst hv0 hv1 hv3
 obtain ⟨fpx, mx, rx⟩ := o2b.mine
 obtain ⟨cOld, fz, hgm, fm9, hA9, hMv9⟩ := arr_store (m := m) XH.out MH.out DH.out hr r1 r2 b2 (by omega) mx (fun b hb => (rx b hb).1)
 obtain ⟨o0, t0⟩ := cOld 0 (by omega)
 obtain ⟨o1, t1⟩ := cOld 1 (by omega)
 obtain ⟨o2', t2⟩ := cOld 2 (by omega)
 obtain ⟨o3, t3⟩ := cOld 3 (by omega)
 rw [Nat.add_zero] at t0
 have HA := hidden hA9
 have HMV := hidden hMv9
 have hS2 : w2.cell? ⟨p, 0, none⟩ = some (.pointer (some ⟨B, 0, none⟩)) /\ w2.cell? ⟨q, 0, none⟩ = some (.int .i64 (m : Int)) /\ w2.cell? ⟨y, 0, none⟩ = some (.int .i64 n) /\ w2.cell? ⟨u, 0, none⟩ = some (.slice a5 sw.length c5) /\ w2.cell? ⟨B, 3, none⟩ = some (.slice (some ⟨g, 0, none⟩) ms.length cm) /\ w2.cell? ⟨g, m * 4, none⟩ = some (.slice a0 ss.length c0) /\ w2.cell? ⟨g, m * 4 + 1, none⟩ = some (.slice a1 cs.length c1) /\ w2.cell? ⟨g, m * 4 + 2, none⟩ = some (.bool f) /\ w2.cell? ⟨g, m * 4 + 3, none⟩ = some (.slice a3 bs.length c3) := ⟨(b2.cell (p := ⟨p, 0, none⟩) zp).trans cp, (b2.cell (p := ⟨q, 0, none⟩) zq).trans cq, (b2.cell (p := ⟨y, 0, none⟩) zy).trans cy, (b2.cell (p := ⟨u, 0, none⟩) zu).trans cu, (b2.cell (p := ⟨B, 3, none⟩) zB).trans k3, (b2.cell (p := ⟨g, m * 4, none⟩) hgl).trans q0, (b2.cell (p := ⟨g, m * 4 + 1, none⟩) hgl).trans q1, (b2.cell (p := ⟨g, m * 4 + 2, none⟩) hgl).trans q2, (b2.cell (p := ⟨g, m * 4 + 3, none⟩) hgl).trans q3⟩
 have gB : ¬ g = B := fun e => r1 (e ▸ hgm)
 unfold put4 at HA HMV
 have HF : Hid (∀ W, ArrAt W B x (ms.set m (wrM (ss, cs, f, bs) n sw)) ds fm9 fd -> Moved B fm w fm9 W -> (Ending.returned (Value.tuple #[]) = .returned (.tuple #[]) /\ ∃ fm', ArrAt W B x (ms.set (wrK n sw m).1 (opF (wrK n sw m) x (ms.getD (wrK n sw m).1 memZ))) ds fm' fd /\ Moved B fm w fm' W)) := fun W h1 h2 => ⟨rfl, fm9, by show ArrAt W B x (ms.set m (opF (wrK n sw m) x (ms.getD m memZ))) ds fm9 fd; rw [HG.out]; exact h1, h2⟩
 clear cp cq cy cu k3 q0 q1 q2 q3 o2 o2b b2 b2' mx rx cOld hA9 hMv9 XH MH DH R0 R1 R3 R5 hwt HG
 go_wp2_with fail
 refine hK.out _ _ (fun _ => hS2) ?_
 clear hK K
 refine Late.take (i := 15) (v := ?_) rfl (by kernel_rfl) (by kernel_rfl) (by kernel_rfl) (by kernel_rfl) (fun _ _ _ h => h) (Or.inl ⟨by rfl, ?_⟩) hS2 ?_
 rotate_left 1
 . (intro w hSw; (try dsimp only at hSw); go_split_ands; go_simp; first | done | with_reducible rfl)
 simp only [Act.put, List.setIfInBounds_toArray, List.set_cons_zero, List.set_cons_succ]
 refine Late.take (i := 16) (v := ?_) rfl (by kernel_rfl) (by kernel_rfl) (by kernel_rfl) (by kernel_rfl) (fun _ _ _ h => h) (Or.inl ⟨by rfl, ?_⟩) hS2 ?_
 rotate_left 1
 . (intro w hSw; (try dsimp only at hSw); go_split_ands; go_simp; first | done | with_reducible rfl)
 simp only [Act.put, List.setIfInBounds_toArray, List.set_cons_zero, List.set_cons_succ]
 refine Late.take (i := 18) (v := ?_) rfl (by kernel_rfl) (by kernel_rfl) (by kernel_rfl) (by kernel_rfl) (fun _ _ _ h => h) (Or.inl ⟨by rfl, ?_⟩) hS2 ?_
 rotate_left 1
 . (intro w hSw; (try dsimp only at hSw); go_split_ands; go_simp; first | done | with_reducible rfl)
 simp only [Act.put, List.setIfInBounds_toArray, List.set_cons_zero, List.set_cons_succ]
 refine Late.two (i := 17) (i' := 19) (by kernel_rfl) rfl rfl (fun K hK => ?_) (fun K hK => ?_)
 . go_simp
   refine hK.out _ _ (fun _ => hS2) ?_
   clear hK K
   refine Late.one (i := 19) (by kernel_rfl) rfl (fun K hK => ?_)
   go_simp
   refine hK.out _ _ (fun h => absurd rfl h) ?_
   clear hK K
   refine Late.done (by kernel_rfl) ?_ _
   clear hS hS2 t0 t1 t2 t3 fz
   go_wp2
   refine bodyPost_end (v := .tuple #[]) (results_none rfl _ _ _) rfl ?_
   exact ⟨rfl, (HF.out _ HA.out HMV.out).2⟩
 go_simp
 refine hK.out _ _ (fun h => absurd rfl h) ?_
 clear hK K
 refine Late.late (i := 17) (by kernel_rfl) rfl (by kernel_rfl) (fun K hK => ?_)
 go_simp
 refine hK.out _ _ ?_
 clear hK K
 refine Late.done (by kernel_rfl) ?_ _
 clear hS hS2 t0 t1 t2 t3 fz
 go_wp2
 refine bodyPost_end (v := .tuple #[]) (results_none rfl _ _ _) rfl ?_
 exact ⟨rfl, (HF.out _ HA.out HMV.out).2⟩

theorem writeOp_any (w : World) (B m : Nat) (n : Int) (a5 : Option Addr) (c5 : Nat) (sw : List Int) (fs : List Nat) (h5 : tIntS.Mine w [.slice a5 sw.length c5] sw fs) (hl5 : sw.length <= 2097152) : Calls Tryz.prog 132 #[.pointer (some ⟨B, 0, none⟩), .int .i64 (m : Int), .int .i64 n, .slice a5 sw.length c5] w fun e w' => ∃ v fp, e = .returned v /\ (opTy B).Mine w' [v] (wrK n sw m) fp /\ (∀ b ∈ fp, b ∈ fs ∨ (w.heap.size <= b /\ b < w'.heap.size)) /\ Below w.heap.size w w' := by
 have hmf : ∀ (fn : Fn) (first cap : Array Value) (w : World), (Instr.makeFunc fn first cap).run Tryz.prog w = .ok (.func fn first cap) w := fun _ _ _ _ => rfl
 have hb : Below w.heap.size w ((((w.alloc (.cells #[.pointer (some ⟨B, 0, none⟩)] 53)).alloc (.cells #[.int .i64 (m : Int)] 3)).alloc (.cells #[.int .i64 n] 3)).alloc (.cells #[.slice a5 sw.length c5] 49)) := ((((Below.refl _ _).alloc (Nat.le_refl _) _).alloc (by simp) _).alloc (by simp; omega) _).alloc (by simp; omega) _
 have zz : ∀ v : World, ∀ ob : Obj, (v.alloc ob).heap.size = v.heap.size + 1 := fun v ob => by simp
 have b0 := Box.new w 53 #[.pointer (some ⟨B, 0, none⟩)]
 replace b0 := b0.alloc (.cells #[.int .i64 (m : Int)] 3)
 replace b0 := b0.alloc (.cells #[.int .i64 n] 3)
 replace b0 := b0.alloc (.cells #[.slice a5 sw.length c5] 49)
 have b1 := Box.new (w.alloc (.cells #[.pointer (some ⟨B, 0, none⟩)] 53)) 3 #[.int .i64 (m : Int)]
 rw [zz] at b1
 replace b1 := b1.alloc (.cells #[.int .i64 n] 3)
 replace b1 := b1.alloc (.cells #[.slice a5 sw.length c5] 49)
 have b2 := Box.new ((w.alloc (.cells #[.pointer (some ⟨B, 0, none⟩)] 53)).alloc (.cells #[.int .i64 (m : Int)] 3)) 3 #[.int .i64 n]
 rw [zz, zz] at b2
 replace b2 := b2.alloc (.cells #[.slice a5 sw.length c5] 49)
 have b3 := Box.new (((w.alloc (.cells #[.pointer (some ⟨B, 0, none⟩)] 53)).alloc (.cells #[.int .i64 (m : Int)] 3)).alloc (.cells #[.int .i64 n] 3)) 49 #[.slice a5 sw.length c5]
 rw [zz, zz, zz] at b3
 have hsz : ((((w.alloc (.cells #[.pointer (some ⟨B, 0, none⟩)] 53)).alloc (.cells #[.int .i64 (m : Int)] 3)).alloc (.cells #[.int .i64 n] 3)).alloc (.cells #[.slice a5 sw.length c5] 49)).heap.size = w.heap.size + 1 + 1 + 1 + 1 := by simp
 have hlt := h5.lt
 have h5w : tIntS.Mine ((((w.alloc (.cells #[.pointer (some ⟨B, 0, none⟩)] 53)).alloc (.cells #[.int .i64 (m : Int)] 3)).alloc (.cells #[.int .i64 n] 3)).alloc (.cells #[.slice a5 sw.length c5] 49)) [.slice a5 sw.length c5] sw fs := h5.below hb
 have HO : Hid ((opTy B).Mine ((((w.alloc (.cells #[.pointer (some ⟨B, 0, none⟩)] 53)).alloc (.cells #[.int .i64 (m : Int)] 3)).alloc (.cells #[.int .i64 n] 3)).alloc (.cells #[.slice a5 sw.length c5] 49)) [.func (Fn.func 158) #[] #[.pointer (some ⟨w.heap.size, 0, none⟩), .pointer (some ⟨w.heap.size + 1, 0, none⟩), .pointer (some ⟨w.heap.size + 1 + 1, 0, none⟩), .pointer (some ⟨w.heap.size + 1 + 1 + 1, 0, none⟩)]] (wrK n sw m) ((w.heap.size) :: (w.heap.size + 1) :: (w.heap.size + 1 + 1) :: (w.heap.size + 1 + 1 + 1) :: fs)) := by
  refine ⟨⟨158, _, rfl, enters_of Tryz.func158 (by kernel_rfl) (by kernel_rfl) _, ?_, fun w' hk hs => ?_⟩, ?_⟩
  . intro b hb'
    simp only [List.mem_cons] at hb'
    rcases hb' with h | h | h | h | h
    . omega
    . omega
    . omega
    . omega
    have := hlt b h; omega
  . exact writeOp1_runs w' B _ _ _ _ m n a5 c5 sw fs (b0.kept (hk _ (by simp))) (b1.kept (hk _ (by simp))) (b2.kept (hk _ (by simp))) (b3.kept (hk _ (by simp))) ⟨tIntS.owKept h5w.1 (fun b hb' => hk b (by simp [hb'])) hs, h5.2⟩ hl5
  have n0 : ∀ k, w.heap.size <= k -> k ∉ fs := fun k hk hm => by have := hlt k hm; omega
  simp only [List.nodup_cons, List.mem_cons]
  refine ⟨fun h => ?_, fun h => ?_, fun h => ?_, n0 _ (by omega), h5.2⟩
  . rcases h with h | h | h | h
    . omega
    . omega
    . omega
    exact n0 _ (by omega) h
  . rcases h with h | h | h
    . omega
    . omega
    exact n0 _ (by omega) h
  rcases h with h | h
  . omega
  exact n0 _ (by omega) h
 have HB := hidden hb
 have HFP : Hid (∀ b ∈ ((w.heap.size) :: (w.heap.size + 1) :: (w.heap.size + 1 + 1) :: (w.heap.size + 1 + 1 + 1) :: fs), b ∈ fs ∨ (w.heap.size <= b /\ b < ((((w.alloc (.cells #[.pointer (some ⟨B, 0, none⟩)] 53)).alloc (.cells #[.int .i64 (m : Int)] 3)).alloc (.cells #[.int .i64 n] 3)).alloc (.cells #[.slice a5 sw.length c5] 49)).heap.size)) := by
  intro b hb'
  simp only [List.mem_cons] at hb'
  rcases hb' with h | h | h | h | h
  . exact .inr (by omega)
  . exact .inr (by omega)
  . exact .inr (by omega)
  . exact .inr (by omega)
  exact .inl h
 clear hb b0 b1 b2 b3 hsz h5w zz
 go_enter Tryz.func132, Tryz.ntmps132
 go_wp2
 go_ret
 exact ⟨_, _, rfl, HO.out, HFP.out, HB.out⟩

theorem lit1_mine {t : Ty} (ht : t.n = 1) {E : TypeId} {w : World} {v : Value} {x : t.D} {fp : List Nat} (h : t.Mine w [v] x fp) : (rowTy t E).Mine (w.alloc (.cells #[v] E)) [.slice (some ⟨w.heap.size, 0, none⟩) 1 1] [x] (w.heap.size :: fp) := by
 have hb := new_below w (.cells #[v] E)
 have h2 := h.below hb
 refine ⟨.inr ⟨w.heap.size, 1, #[v], [fp], rfl, Nat.le_refl _, by omega, heap_alloc_new w _, by simp [ht], by simp, rfl, fun i z hz => ?_⟩, ?_⟩
 . cases i with
   | zero =>
    simp at hz
    subst hz
    refine ⟨fp, rfl, ?_⟩
    rw [ht]
    exact h2.1
   | succ i => simp at hz
 rw [List.nodup_cons]
 exact ⟨fun hm => by have := h.lt _ hm; omega, h.2⟩

theorem buildStripe_any (w : World) (B : Nat) (x : ArrN) (ms : List MemD) (ds : List (Int × List Int)) (fm fd : List Nat) (h : ArrAt w B x ms ds fm fd) (hw : wtArr ms ds <= 2097152) (hk : nextK x ms ds = 0) :
 Calls Tryz.prog 94 #[.pointer (some ⟨B, 0, none⟩)] w (Did w B fm ds fd (stepA (x, ms))) := by
 obtain ⟨ha, hdn, hl, _, hbr, hb0, hbs, hwb, hwl⟩ := next_zero hk
 have hlo := arr_lost ha
 have hne := lost_pos (.inr hl)
 obtain ⟨g1, g2, g3, g4⟩ := geoB_iff.1 (arr_split.1 ha).1
 obtain ⟨fc, mk, _⟩ := arr_facts ha
 have hln := arr_len ha
 have i1 : (0 : Int) <= x.lost := by omega
 have hlt9 : ((x.lost.toNat : Nat) : Int) = x.lost := by omega
 have hm : x.lost.toNat < ms.length := by omega
 have hflag : flagAt ms x.lost.toNat = false := by unfold lostT at hl; simp only [Bool.and_eq_true, Bool.not_eq_true'] at hl; exact hl.2
 have HA := hidden h
 have hlB := h.lt
 have hlm := h.ltm.1
 have HSA : Hid (stepA (x, ms) = if (stepQ (x, ms)).1.down = true then stepQ (x, ms) else ({(stepQ (x, ms)).1 with built := (stepQ (x, ms)).1.built + 1}, (stepQ (x, ms)).2)) := by unfold Hid stepA; rw [if_pos hwb]
 have HSQ : Hid (stepQ (x, ms) = runS (x, ms) [wrK (dataN x.built) [(words6 x ms x.built).getD x.lost.toNat 0] x.lost.toNat]) := rfl
 have HSN := hidden (runS_keeps (q := (x, ms)) mk fc [wrK (dataN x.built) [(words6 x ms x.built).getD x.lost.toNat 0] x.lost.toNat]).2.1
 have hwn : (words6 x ms x.built).length = x.n.toNat := words6_len hwb
 obtain ⟨bm, bd, cm, cd, X, hmm, hdd, hr, r1, r2⟩ := h
 unfold arrC at X
 have HM := hidden hmm.rd
 have HD := hidden hdd.rd
 have hS : w.drew.cell? ⟨B, 0, none⟩ = some (.int .i64 x.id) /\ w.drew.cell? ⟨B, 1, none⟩ = some (.int .i64 x.n) /\ w.drew.cell? ⟨B, 2, none⟩ = some (.int .i64 x.s) /\ w.drew.cell? ⟨B, 3, none⟩ = some (.slice bm ms.length cm) /\ w.drew.cell? ⟨B, 4, none⟩ = some (.int .i64 x.lost) /\ w.drew.cell? ⟨B, 5, none⟩ = some (.int .i64 x.built) /\ w.drew.cell? ⟨B, 6, none⟩ = some (.int .i64 x.seq) /\ w.drew.cell? ⟨B, 7, none⟩ = some (.int .i64 x.tail) /\ w.drew.cell? ⟨B, 8, none⟩ = some (.int .i64 x.gen) /\ w.drew.cell? ⟨B, 9, none⟩ = some (.slice bd ds.length cd) /\ w.drew.cell? ⟨B, 10, none⟩ = some (.int .i64 x.fuse) /\ w.drew.cell? ⟨B, 11, none⟩ = some (.bool x.down) /\ w.drew.cell? ⟨B, 12, none⟩ = some (.bool x.broken) := X.cells13
 have HDN := hidden hdn
 have hwr : IntKind.i64.wrap (x.built + 1) = x.built + 1 := IntWalk.i64_in _ (by omega)
 clear hmm hdd hr r1 r2 X ha hdn hl hbr hwb hne
 go_enter Tryz.func94, Tryz.ntmps94
 go_wp2_with fail
 refine wp_region_held_drew (S := fun w' => w'.cell? ⟨B, 0, none⟩ = some (.int .i64 x.id) /\ w'.cell? ⟨B, 1, none⟩ = some (.int .i64 x.n) /\ w'.cell? ⟨B, 2, none⟩ = some (.int .i64 x.s) /\ w'.cell? ⟨B, 3, none⟩ = some (.slice bm ms.length cm) /\ w'.cell? ⟨B, 4, none⟩ = some (.int .i64 x.lost) /\ w'.cell? ⟨B, 5, none⟩ = some (.int .i64 x.built) /\ w'.cell? ⟨B, 6, none⟩ = some (.int .i64 x.seq) /\ w'.cell? ⟨B, 7, none⟩ = some (.int .i64 x.tail) /\ w'.cell? ⟨B, 8, none⟩ = some (.int .i64 x.gen) /\ w'.cell? ⟨B, 9, none⟩ = some (.slice bd ds.length cd) /\ w'.cell? ⟨B, 10, none⟩ = some (.int .i64 x.fuse) /\ w'.cell? ⟨B, 11, none⟩ = some (.bool x.down) /\ w'.cell? ⟨B, 12, none⟩ = some (.bool x.broken)) (by kernel_rfl) ?_ (fun hHeld => ?_)
 . exact hS
 refine held_t 0 hHeld ?_
 refine held_t 1 hHeld ?_
 refine held_t 2 hHeld ?_
 refine held_t 3 hHeld ?_
 refine held_t 4 hHeld ?_
 refine held_t 5 hHeld ?_
 refine held_t 6 hHeld ?_
 refine held_one (i := 7) (by kernel_rfl) rfl (by kernel_rfl) (fun K hK => ?_)
 go_simp
 refine (implWords_any _ _ _ _ x _ _ _ _ _ _ ms ds x.built HM.out.drew HD.out.drew hw).mono ?_
 rintro e w1 ⟨a1, l1, c1, rfl, o1, b1'⟩
 have b1 : Below w.heap.size w w1 := (Below.refl w.heap.size w).drew.trans b1'
 have o1b : tIntS.Own w1 w.heap.size w1.heap.size [.slice a1 l1 c1] (wordsL6 x ms ds x.built) := o1
 rw [hwl] at o1b
 have hS1 : w1.cell? ⟨B, 0, none⟩ = some (.int .i64 x.id) /\ w1.cell? ⟨B, 1, none⟩ = some (.int .i64 x.n) /\ w1.cell? ⟨B, 2, none⟩ = some (.int .i64 x.s) /\ w1.cell? ⟨B, 3, none⟩ = some (.slice bm ms.length cm) /\ w1.cell? ⟨B, 4, none⟩ = some (.int .i64 x.lost) /\ w1.cell? ⟨B, 5, none⟩ = some (.int .i64 x.built) /\ w1.cell? ⟨B, 6, none⟩ = some (.int .i64 x.seq) /\ w1.cell? ⟨B, 7, none⟩ = some (.int .i64 x.tail) /\ w1.cell? ⟨B, 8, none⟩ = some (.int .i64 x.gen) /\ w1.cell? ⟨B, 9, none⟩ = some (.slice bd ds.length cd) /\ w1.cell? ⟨B, 10, none⟩ = some (.int .i64 x.fuse) /\ w1.cell? ⟨B, 11, none⟩ = some (.bool x.down) /\ w1.cell? ⟨B, 12, none⟩ = some (.bool x.broken) := ⟨(b1.cell (p := ⟨B, 0, none⟩) hlB).trans hS.1, (b1.cell (p := ⟨B, 1, none⟩) hlB).trans hS.2.1, (b1.cell (p := ⟨B, 2, none⟩) hlB).trans hS.2.2.1, (b1.cell (p := ⟨B, 3, none⟩) hlB).trans hS.2.2.2.1, (b1.cell (p := ⟨B, 4, none⟩) hlB).trans hS.2.2.2.2.1, (b1.cell (p := ⟨B, 5, none⟩) hlB).trans hS.2.2.2.2.2.1, (b1.cell (p := ⟨B, 6, none⟩) hlB).trans hS.2.2.2.2.2.2.1, (b1.cell (p := ⟨B, 7, none⟩) hlB).trans hS.2.2.2.2.2.2.2.1, (b1.cell (p := ⟨B, 8, none⟩) hlB).trans hS.2.2.2.2.2.2.2.2.1, (b1.cell (p := ⟨B, 9, none⟩) hlB).trans hS.2.2.2.2.2.2.2.2.2.1, (b1.cell (p := ⟨B, 10, none⟩) hlB).trans hS.2.2.2.2.2.2.2.2.2.2.1, (b1.cell (p := ⟨B, 11, none⟩) hlB).trans hS.2.2.2.2.2.2.2.2.2.2.2.1, (b1.cell (p := ⟨B, 12, none⟩) hlB).trans hS.2.2.2.2.2.2.2.2.2.2.2.2⟩
 have OW := hidden o1b
 have B1 := hidden b1
 have z1 := b1.size
 clear o1 o1b b1 b1' hHeld
 go_wp2_with fail
 refine hK.out _ _ ?_ (fun hHeld => ?_)
 . exact hS1
 clear hK K
 refine held_t 8 hHeld ?_
 refine held_t 9 hHeld ?_
 refine held_t 10 hHeld ?_
 refine held_t 11 hHeld ?_
 refine held_t 12 hHeld ?_
 refine wpAnyH_done (by kernel_rfl) ?_ _
 have HA1 := hidden (HA.out.below B1.out)
 have MV1 := hidden ((Moved.refl B fm w).below B1.out)
 have k4 := hS1.2.2.2.2.1
 have k5 := hS1.2.2.2.2.2.1
 clear hHeld hS hS1 HM HD
 obtain ⟨hln1, _⟩ := row_length OW.out.rd
 subst hln1
 obtain ⟨fw, mw, rw1⟩ := OW.out.mine
 generalize words6 x ms x.built = ps at mw OW hwn HSQ HSN ⊢
 have hmp : x.lost.toNat < ps.length := by omega
 clear hwn hwl
 rcases (ints_rd mw.rd).1.cases with h0 | ⟨gb, off, hgo, hgl, hcz⟩
 . omega
 subst hgo
 have hcm := hcz x.lost.toNat hmp
 generalize hy : ps.getD x.lost.toNat 0 = y at hcm HSQ HSN
 have HY := hidden hy
 clear hy
 have hT : w1.drew.cell? ⟨B, 4, none⟩ = some (.int .i64 x.lost) /\ w1.drew.cell? ⟨B, 5, none⟩ = some (.int .i64 x.built) /\ w1.drew.cell? ⟨gb, off + x.lost.toNat, none⟩ = some (.int .i64 y) := ⟨k4, k5, hcm⟩
 have i3 : x.lost < (ps.length : Int) := by omega
 clear hcz
 go_wp2_with fail
 refine wp_region_held_drew (S := fun w' => w'.cell? ⟨B, 4, none⟩ = some (.int .i64 x.lost) /\ w'.cell? ⟨B, 5, none⟩ = some (.int .i64 x.built) /\ w'.cell? ⟨gb, off + x.lost.toNat, none⟩ = some (.int .i64 y)) (by kernel_rfl) ?_ (fun hHeld => ?_)
 . exact hT
 refine held_t 0 hHeld ?_
 refine held_t 1 hHeld ?_
 refine held_t 2 hHeld ?_
 refine held_t 3 hHeld ?_
 refine held_t 4 hHeld ?_
 refine held_t 5 hHeld ?_
 refine held_t 6 hHeld ?_
 refine held_t 7 hHeld ?_
 refine held_t 8 hHeld ?_
 refine held_t 9 hHeld ?_
 refine held_t 11 hHeld ?_
 refine held_t 12 hHeld ?_
 refine held_t 13 hHeld ?_
 refine held_t 14 hHeld ?_
 refine held_t 15 hHeld ?_
 refine held_t 16 hHeld ?_
 refine held_t 17 hHeld ?_
 have bn := new_below w1 (.cells #[.int .i64 y] 3)
 have zn : (w1.alloc (.cells #[.int .i64 y] 3)).heap.size = w1.heap.size + 1 := by simp
 have hT2 : (w1.alloc (.cells #[.int .i64 y] 3)).drew.cell? ⟨B, 4, none⟩ = some (.int .i64 x.lost) /\ (w1.alloc (.cells #[.int .i64 y] 3)).drew.cell? ⟨B, 5, none⟩ = some (.int .i64 x.built) /\ (w1.alloc (.cells #[.int .i64 y] 3)).drew.cell? ⟨gb, off + x.lost.toNat, none⟩ = some (.int .i64 y) := ⟨(bn.cell (p := ⟨B, 4, none⟩) (show B < w1.heap.size by omega)).trans k4, (bn.cell (p := ⟨B, 5, none⟩) (show B < w1.heap.size by omega)).trans k5, (bn.cell (p := ⟨gb, off + x.lost.toNat, none⟩) hgl).trans hcm⟩
 have osec := own_ints (Owns.lit .i64 3 w1 [y] 1 #[.int .i64 y] rfl rfl (by unfold maxLen; omega))
 obtain ⟨fs, msec, rs⟩ := osec.mine
 have HA2 := hidden (HA1.out.below bn).drew
 have MV2 := hidden (MV1.out.below bn).drew
 have MS : Hid (tIntS.Mine (w1.alloc (.cells #[.int .i64 y] 3)).drew [.slice (some ⟨w1.heap.size, 0, none⟩) 1 1] [y] fs) := msec.below ((Below.refl _ _).drew)
 have MW := hidden ((mw.below bn).below ((Below.refl _ _).drew))
 have RW := hidden rw1
 have RS := hidden rs
 clear osec msec rs bn
 refine held_two (i := 10) (i' := 18) (by kernel_rfl) rfl rfl (by kernel_rfl) (by kernel_rfl) (fun K hK => ?_) (fun K hK => ?_)
 . go_simp
   refine (implDataAt_any _ x.built).mono ?_
   rintro e w1d ⟨rfl, hwd⟩
   subst hwd
   clear hHeld
   go_wp2_with fail
   refine hK.out _ _ ?_ (fun hHeld => ?_)
   . exact hT
   clear hK K hHeld
   refine held_one (i := 18) (by kernel_rfl) rfl (by kernel_rfl) (fun K hK => ?_)
   go_simp
   refine hK.out _ _ ?_ (fun hHeld => ?_)
   . exact hT2
   clear hK K hHeld
   have zS2 : w1.heap.size < (w1.alloc (.cells #[.int .i64 y] 3)).drew.heap.size := by simp
   generalize (w1.alloc (.cells #[.int .i64 y] 3)).drew = w2 at hT2 HA2 MV2 MS MW zS2 ⊢
   have zw2 := MV2.out.size
   have HWO := hidden (writeOp_any w2 B x.lost.toNat (dataN x.built) (some ⟨w1.heap.size, 0, none⟩) 1 [y] fs MS.out (by simp))
   rw [hlt9] at HWO
   refine held_one (i := 19) (by kernel_rfl) rfl (by kernel_rfl) (fun K hK => ?_)
   go_simp
   refine HWO.out.mono ?_
   rintro e w3 ⟨v, fp, rfl, mv, hfp, b3⟩
   have hvv : ∃ F cp, v = .func (Fn.func F) #[] cp := by obtain ⟨⟨F, cp, h1, _⟩, _⟩ := mv; simp only [List.cons.injEq, and_true] at h1; exact ⟨F, cp, h1⟩
   obtain ⟨Fv, cpv, rfl⟩ := hvv
   have bn3 := new_below w3 (.cells #[.func (Fn.func Fv) #[] cpv] 131)
   have M3 := lit1_mine (E := 131) rfl mv
   have b23 := Below.andThen b3 bn3
   have z3 := b3.size
   have zn3 : (w3.alloc (.cells #[.func (Fn.func Fv) #[] cpv] 131)).heap.size = w3.heap.size + 1 := by simp
   have hT3 : w3.cell? ⟨B, 4, none⟩ = some (.int .i64 x.lost) /\ w3.cell? ⟨B, 5, none⟩ = some (.int .i64 x.built) /\ w3.cell? ⟨gb, off + x.lost.toNat, none⟩ = some (.int .i64 y) := ⟨(b3.cell (p := ⟨B, 4, none⟩) (show B < w2.heap.size by omega)).trans hT2.1, (b3.cell (p := ⟨B, 5, none⟩) (show B < w2.heap.size by omega)).trans hT2.2.1, (b3.cell (p := ⟨gb, off + x.lost.toNat, none⟩) (show gb < w2.heap.size by omega)).trans hT2.2.2⟩
   have hT4 : (w3.alloc (.cells #[.func (Fn.func Fv) #[] cpv] 131)).cell? ⟨B, 4, none⟩ = some (.int .i64 x.lost) /\ (w3.alloc (.cells #[.func (Fn.func Fv) #[] cpv] 131)).cell? ⟨B, 5, none⟩ = some (.int .i64 x.built) /\ (w3.alloc (.cells #[.func (Fn.func Fv) #[] cpv] 131)).cell? ⟨gb, off + x.lost.toNat, none⟩ = some (.int .i64 y) := ⟨(b23.cell (p := ⟨B, 4, none⟩) (show B < w2.heap.size by omega)).trans hT2.1, (b23.cell (p := ⟨B, 5, none⟩) (show B < w2.heap.size by omega)).trans hT2.2.1, (b23.cell (p := ⟨gb, off + x.lost.toNat, none⟩) (show gb < w2.heap.size by omega)).trans hT2.2.2⟩
   have hfp1 : ∀ b ∈ (w3.heap.size :: fp), w1.heap.size <= b := fun b hb => by
    rcases List.mem_cons.1 hb with rfl | hb
    . omega
    rcases hfp b hb with h | h
    . have := (RS.out b h).1; omega
    omega
   have HPF := hidden (perform_any (w3.alloc (.cells #[.func (Fn.func Fv) #[] cpv] 131)) B x ms ds fm fd (HA2.out.below b23) fc HDN.out mk (some ⟨w3.heap.size, 0, none⟩) 1 [wrK (dataN x.built) [y] x.lost.toNat] (w3.heap.size :: fp) M3 (fun b hb => by have := hfp1 b hb; exact ⟨by omega, fun hm' => by have := hlm b hm'; omega⟩) (fun o ho => by simp at ho; subst ho; exact ⟨hm, hflag⟩))
   have MV3 := hidden (MV2.out.below b23)
   have MW3 := hidden (MW.out.below b23)
   rw [← HSQ.out] at HPF
   clear mv M3 b3 bn3 b23 HA2 MV2 MW hfp1 hfp HWO
   go_wp2_with fail
   refine hK.out _ _ ?_ (fun hHeld => ?_)
   . exact hT3
   clear hK K hHeld
   refine held_one (i := 20) (by kernel_rfl) rfl (by kernel_rfl) (fun K hK => ?_)
   go_simp
   refine hK.out _ _ ?_ (fun hHeld => ?_)
   . exact hT4
   clear hK K hHeld
   generalize w3.alloc (.cells #[.func (Fn.func Fv) #[] cpv] 131) = w4 at HPF MV3 MW3 hT4 zn3 ⊢
   refine held_one (i := 21) (by kernel_rfl) rfl (by kernel_rfl) (fun K hK => ?_)
   go_simp
   refine HPF.out.mono ?_
   rintro e w5 ⟨he, fm5, A5, M5⟩
   have MV5 := hidden (MV3.out.trans M5)
   rw [← HSQ.out] at HSN
   have hbw := M5.mine MW3.out (fun hm' => by have := (RW.out _ hm').1; omega) (fun b hb hm' => by have h1 := (RW.out b hb).1; have h2 := hlm b hm'; omega)
   clear HPF M5 MV3 MW3 hT hT2 hT3 hT4
   generalize stepQ (x, ms) = st at he A5 HSA HSN
   obtain ⟨z, os⟩ := st
   dsimp only at he A5 HSA HSN
   unfold EndOf at he
   cases hd : z.down
   . rw [if_neg (by simp [hd])] at he
     subst he
     have HV : Hid (stepA (x, ms) = ({z with built := z.built + 1}, os)) := by unfold Hid; rw [HSA.out, if_neg (by simp [hd])]
     have HE := hidden (EndOf.fine (y := {z with built := z.built + 1}) hd)
     obtain ⟨d4, d5, _, d11, _, fz⟩ := arr_cells A5
     have hb5 : z.built = x.built := HSN.out.2.2.2.2.1
     have hT5 : w5.cell? ⟨B, 4, none⟩ = some (.int .i64 x.lost) /\ w5.cell? ⟨B, 5, none⟩ = some (.int .i64 x.built) /\ w5.cell? ⟨gb, off + x.lost.toNat, none⟩ = some (.int .i64 y) := by
      refine ⟨?_, ?_, ?_⟩
      . rw [d4, HSN.out.2.2.2.1]
      . rw [d5, hb5]
      rcases (ints_rd hbw.rd).1.cases with h0 | ⟨gb2, off2, hgo2, _, hcz2⟩
      . omega
      simp at hgo2
      obtain ⟨rfl, rfl⟩ := hgo2
      rw [hcz2 x.lost.toNat hmp, HY.out]
     have HA6 := hidden (arr_built0 A5 (z.built + 1))
     have MV6 := hidden (MV5.out.trans (Moved.set (B := B) (j := 5) (fm := fm5) (w := w5) (.int .i64 (z.built + 1))))
     rw [hb5] at d5 HA6 MV6 HE HV
     clear hd hbw A5 MV5 HSA HSN hb5 d4 d11
     go_wp2_with fail
     refine hK.out _ _ ?_ (fun hHeld => ?_)
     . exact hT5
     clear hK K hHeld hT5
     refine wpAnyH_done (by kernel_rfl) ?_ _
     go_wp2
     refine bodyPost_end (v := .tuple #[]) (results_none rfl _ _ _) rfl ?_
     exact ⟨by rw [HV.out]; exact HE.out, fm5, by rw [HV.out]; exact HA6.out, MV6.out⟩
   rw [if_pos hd] at he
   subst he
   have HV : Hid (stepA (x, ms) = (z, os)) := by unfold Hid; rw [HSA.out, if_pos hd]
   have HE := hidden (EndOf.gone hd)
   have HA5 := hidden A5
   clear hd hbw A5 HSA HSN
   go_wp2
   exact ⟨rfl, by rw [HV.out]; exact HE.out, fm5, by rw [HV.out]; exact HA5.out, MV5.out⟩
 go_simp
 refine hK.out _ _ ?_ (fun hHeld => ?_)
 . exact hT2
 clear hK K hHeld
 refine held_one (i := 10) (by kernel_rfl) rfl (by kernel_rfl) (fun K hK => ?_)
 go_simp
 refine (implDataAt_any _ x.built).mono ?_
 rintro e w1d ⟨rfl, hwd⟩
 subst hwd
 go_wp2_with fail
 refine hK.out _ _ ?_ (fun hHeld => ?_)
 . exact hT2
 clear hK K hHeld
 have zS2 : w1.heap.size < (w1.alloc (.cells #[.int .i64 y] 3)).drew.heap.size := by simp
 generalize (w1.alloc (.cells #[.int .i64 y] 3)).drew = w2 at hT2 HA2 MV2 MS MW zS2 ⊢
 have zw2 := MV2.out.size
 have HWO := hidden (writeOp_any w2 B x.lost.toNat (dataN x.built) (some ⟨w1.heap.size, 0, none⟩) 1 [y] fs MS.out (by simp))
 rw [hlt9] at HWO
 refine held_one (i := 19) (by kernel_rfl) rfl (by kernel_rfl) (fun K hK => ?_)
 go_simp
 refine HWO.out.mono ?_
 rintro e w3 ⟨v, fp, rfl, mv, hfp, b3⟩
 have hvv : ∃ F cp, v = .func (Fn.func F) #[] cp := by obtain ⟨⟨F, cp, h1, _⟩, _⟩ := mv; simp only [List.cons.injEq, and_true] at h1; exact ⟨F, cp, h1⟩
 obtain ⟨Fv, cpv, rfl⟩ := hvv
 have bn3 := new_below w3 (.cells #[.func (Fn.func Fv) #[] cpv] 131)
 have M3 := lit1_mine (E := 131) rfl mv
 have b23 := Below.andThen b3 bn3
 have z3 := b3.size
 have zn3 : (w3.alloc (.cells #[.func (Fn.func Fv) #[] cpv] 131)).heap.size = w3.heap.size + 1 := by simp
 have hT3 : w3.cell? ⟨B, 4, none⟩ = some (.int .i64 x.lost) /\ w3.cell? ⟨B, 5, none⟩ = some (.int .i64 x.built) /\ w3.cell? ⟨gb, off + x.lost.toNat, none⟩ = some (.int .i64 y) := ⟨(b3.cell (p := ⟨B, 4, none⟩) (show B < w2.heap.size by omega)).trans hT2.1, (b3.cell (p := ⟨B, 5, none⟩) (show B < w2.heap.size by omega)).trans hT2.2.1, (b3.cell (p := ⟨gb, off + x.lost.toNat, none⟩) (show gb < w2.heap.size by omega)).trans hT2.2.2⟩
 have hT4 : (w3.alloc (.cells #[.func (Fn.func Fv) #[] cpv] 131)).cell? ⟨B, 4, none⟩ = some (.int .i64 x.lost) /\ (w3.alloc (.cells #[.func (Fn.func Fv) #[] cpv] 131)).cell? ⟨B, 5, none⟩ = some (.int .i64 x.built) /\ (w3.alloc (.cells #[.func (Fn.func Fv) #[] cpv] 131)).cell? ⟨gb, off + x.lost.toNat, none⟩ = some (.int .i64 y) := ⟨(b23.cell (p := ⟨B, 4, none⟩) (show B < w2.heap.size by omega)).trans hT2.1, (b23.cell (p := ⟨B, 5, none⟩) (show B < w2.heap.size by omega)).trans hT2.2.1, (b23.cell (p := ⟨gb, off + x.lost.toNat, none⟩) (show gb < w2.heap.size by omega)).trans hT2.2.2⟩
 have hfp1 : ∀ b ∈ (w3.heap.size :: fp), w1.heap.size <= b := fun b hb => by
  rcases List.mem_cons.1 hb with rfl | hb
  . omega
  rcases hfp b hb with h | h
  . have := (RS.out b h).1; omega
  omega
 have HPF := hidden (perform_any (w3.alloc (.cells #[.func (Fn.func Fv) #[] cpv] 131)) B x ms ds fm fd (HA2.out.below b23) fc HDN.out mk (some ⟨w3.heap.size, 0, none⟩) 1 [wrK (dataN x.built) [y] x.lost.toNat] (w3.heap.size :: fp) M3 (fun b hb => by have := hfp1 b hb; exact ⟨by omega, fun hm' => by have := hlm b hm'; omega⟩) (fun o ho => by simp at ho; subst ho; exact ⟨hm, hflag⟩))
 have MV3 := hidden (MV2.out.below b23)
 have MW3 := hidden (MW.out.below b23)
 rw [← HSQ.out] at HPF
 clear mv M3 b3 bn3 b23 HA2 MV2 MW hfp1 hfp HWO
 go_wp2_with fail
 refine hK.out _ _ ?_ (fun hHeld => ?_)
 . exact hT3
 clear hK K hHeld
 refine held_one (i := 20) (by kernel_rfl) rfl (by kernel_rfl) (fun K hK => ?_)
 go_simp
 refine hK.out _ _ ?_ (fun hHeld => ?_)
 . exact hT4
 clear hK K hHeld
 generalize w3.alloc (.cells #[.func (Fn.func Fv) #[] cpv] 131) = w4 at HPF MV3 MW3 hT4 zn3 ⊢
 refine held_one (i := 21) (by kernel_rfl) rfl (by kernel_rfl) (fun K hK => ?_)
 go_simp
 refine HPF.out.mono ?_
 rintro e w5 ⟨he, fm5, A5, M5⟩
 have MV5 := hidden (MV3.out.trans M5)
 rw [← HSQ.out] at HSN
 have hbw := M5.mine MW3.out (fun hm' => by have := (RW.out _ hm').1; omega) (fun b hb hm' => by have h1 := (RW.out b hb).1; have h2 := hlm b hm'; omega)
 clear HPF M5 MV3 MW3 hT hT2 hT3 hT4
 generalize stepQ (x, ms) = st at he A5 HSA HSN
 obtain ⟨z, os⟩ := st
 dsimp only at he A5 HSA HSN
 unfold EndOf at he
 cases hd : z.down
 . rw [if_neg (by simp [hd])] at he
   subst he
   have HV : Hid (stepA (x, ms) = ({z with built := z.built + 1}, os)) := by unfold Hid; rw [HSA.out, if_neg (by simp [hd])]
   have HE := hidden (EndOf.fine (y := {z with built := z.built + 1}) hd)
   obtain ⟨d4, d5, _, d11, _, fz⟩ := arr_cells A5
   have hb5 : z.built = x.built := HSN.out.2.2.2.2.1
   have hT5 : w5.cell? ⟨B, 4, none⟩ = some (.int .i64 x.lost) /\ w5.cell? ⟨B, 5, none⟩ = some (.int .i64 x.built) /\ w5.cell? ⟨gb, off + x.lost.toNat, none⟩ = some (.int .i64 y) := by
    refine ⟨?_, ?_, ?_⟩
    . rw [d4, HSN.out.2.2.2.1]
    . rw [d5, hb5]
    rcases (ints_rd hbw.rd).1.cases with h0 | ⟨gb2, off2, hgo2, _, hcz2⟩
    . omega
    simp at hgo2
    obtain ⟨rfl, rfl⟩ := hgo2
    rw [hcz2 x.lost.toNat hmp, HY.out]
   have HA6 := hidden (arr_built0 A5 (z.built + 1))
   have MV6 := hidden (MV5.out.trans (Moved.set (B := B) (j := 5) (fm := fm5) (w := w5) (.int .i64 (z.built + 1))))
   rw [hb5] at d5 HA6 MV6 HE HV
   clear hd hbw A5 MV5 HSA HSN hb5 d4 d11
   go_wp2_with fail
   refine hK.out _ _ ?_ (fun hHeld => ?_)
   . exact hT5
   clear hK K hHeld hT5
   refine wpAnyH_done (by kernel_rfl) ?_ _
   go_wp2
   refine bodyPost_end (v := .tuple #[]) (results_none rfl _ _ _) rfl ?_
   exact ⟨by rw [HV.out]; exact HE.out, fm5, by rw [HV.out]; exact HA6.out, MV6.out⟩
 rw [if_pos hd] at he
 subst he
 have HV : Hid (stepA (x, ms) = (z, os)) := by unfold Hid; rw [HSA.out, if_pos hd]
 have HE := hidden (EndOf.gone hd)
 have HA5 := hidden A5
 clear hd hbw A5 HSA HSN
 go_wp2
 exact ⟨rfl, by rw [HV.out]; exact HE.out, fm5, by rw [HV.out]; exact HA5.out, MV5.out⟩

theorem l8May_any (w : World) (E F G : TypeId) (x : ArrN) (am ad : Option Addr) (nm cm nd cd : Nat) (ms : List MemD) (ds : List (Int × List Int)) (h0 : (tMemS E F).Rd w [.slice am nm cm] ms) (h1 : (tWrS G).Rd w [.slice ad nd cd] ds) (hw : wtArr ms ds <= 2097152) :
 Calls Tryz.prog 45 #[.agg #[.int .i64 x.id, .int .i64 x.n, .int .i64 x.s, .slice am nm cm, .int .i64 x.lost, .int .i64 x.built, .int .i64 x.seq, .int .i64 x.tail, .int .i64 x.gen, .slice ad nd cd, .int .i64 x.fuse, .bool x.down, .bool x.broken]] w fun e w' => e = .returned (.int .i64 (ask8 x ms ds)) /\ Below w.heap.size w w' := by
 have hA := new_below w (.cells #[.int .i64 x.id, .int .i64 x.n, .int .i64 x.s, .slice am nm cm, .int .i64 x.lost, .int .i64 x.built, .int .i64 x.seq, .int .i64 x.tail, .int .i64 x.gen, .slice ad nd cd, .int .i64 x.fuse, .bool x.down, .bool x.broken] 33)
 have X := Box.new w 33 #[.int .i64 x.id, .int .i64 x.n, .int .i64 x.s, .slice am nm cm, .int .i64 x.lost, .int .i64 x.built, .int .i64 x.seq, .int .i64 x.tail, .int .i64 x.gen, .slice ad nd cd, .int .i64 x.fuse, .bool x.down, .bool x.broken]
 have zX := X.lt
 obtain ⟨k0, k1, k2, k3, k4, k5, k6, k7, k8, k9, k10, k11, k12⟩ := X.cells13
 have r0 := h0.below hA
 have r1 := h1.below hA
 have HV : Hid (ask8 x ms ds = if arrB x ms ds = true then (if x.down = true then 6 else 0) else 1) := rfl
 go_enter Tryz.func45, Tryz.ntmps45
 go_wp2_with fail
 generalize w.alloc (.cells #[.int .i64 x.id, .int .i64 x.n, .int .i64 x.s, .slice am nm cm, .int .i64 x.lost, .int .i64 x.built, .int .i64 x.seq, .int .i64 x.tail, .int .i64 x.gen, .slice ad nd cd, .int .i64 x.fuse, .bool x.down, .bool x.broken] 33) = W at hA X zX r0 r1 k0 k1 k2 k3 k4 k5 k6 k7 k8 k9 k10 k11 k12 ⊢
 refine (specArrOk_any _ E F G x _ _ _ _ _ _ ms ds r0 r1 hw).mono ?_
 rintro e w1 ⟨rfl, b1⟩
 have X1 := X.below b1 zX
 have HB := hidden (Below.andThen hA b1)
 clear k0 k1 k2 k3 k4 k5 k6 k7 k8 k9 k10 k11 k12 X r0 r1 b1 hA
 obtain ⟨k0, k1, k2, k3, k4, k5, k6, k7, k8, k9, k10, k11, k12⟩ := X1.cells13
 clear X1
 cases ha : arrB x ms ds
 . have HR : Hid (1 = ask8 x ms ds) := by unfold Hid; rw [HV.out, if_neg (by simp [ha])]
   clear ha
   go_wp2
   go_ret
   exact ⟨ret_int HR.out, HB.out⟩
 cases hd : x.down
 . have HR : Hid (0 = ask8 x ms ds) := by unfold Hid; rw [HV.out, if_pos ha, if_neg (by simp [hd])]
   rw [hd] at k11
   clear ha hd
   go_wp2
   go_ret
   exact ⟨ret_int HR.out, HB.out⟩
 have HR : Hid (6 = ask8 x ms ds) := by unfold Hid; rw [HV.out, if_pos ha, if_pos hd]
 rw [hd] at k11
 clear ha hd
 go_wp2
 go_ret
 exact ⟨ret_int HR.out, HB.out⟩

theorem askCode_any (w : World) (E F G : TypeId) (x : ArrN) (am ad : Option Addr) (nm cm nd cd : Nat) (ms : List MemD) (ds : List (Int × List Int)) (h0 : (tMemS E F).Rd w [.slice am nm cm] ms) (h1 : (tWrS G).Rd w [.slice ad nd cd] ds) (hw : wtArr ms ds <= 2097152) :
 Calls Tryz.prog 122 #[.agg #[.int .i64 x.id, .int .i64 x.n, .int .i64 x.s, .slice am nm cm, .int .i64 x.lost, .int .i64 x.built, .int .i64 x.seq, .int .i64 x.tail, .int .i64 x.gen, .slice ad nd cd, .int .i64 x.fuse, .bool x.down, .bool x.broken]] w fun e w' => e = .returned (.int .i64 (ask8 x ms ds)) /\ Below w.heap.size w w' := by
 have hA := new_below w (.cells #[.int .i64 x.id, .int .i64 x.n, .int .i64 x.s, .slice am nm cm, .int .i64 x.lost, .int .i64 x.built, .int .i64 x.seq, .int .i64 x.tail, .int .i64 x.gen, .slice ad nd cd, .int .i64 x.fuse, .bool x.down, .bool x.broken] 33)
 have X := Box.new w 33 #[.int .i64 x.id, .int .i64 x.n, .int .i64 x.s, .slice am nm cm, .int .i64 x.lost, .int .i64 x.built, .int .i64 x.seq, .int .i64 x.tail, .int .i64 x.gen, .slice ad nd cd, .int .i64 x.fuse, .bool x.down, .bool x.broken]
 have zX := X.lt
 obtain ⟨k0, k1, k2, k3, k4, k5, k6, k7, k8, k9, k10, k11, k12⟩ := X.cells13
 have r0 := h0.below hA
 have r1 := h1.below hA
 have HV : Hid (ask8 x ms ds = if arrB x ms ds = true then (if x.down = true then 6 else 0) else 1) := rfl
 go_enter Tryz.func122, Tryz.ntmps122
 go_wp2_with fail
 generalize w.alloc (.cells #[.int .i64 x.id, .int .i64 x.n, .int .i64 x.s, .slice am nm cm, .int .i64 x.lost, .int .i64 x.built, .int .i64 x.seq, .int .i64 x.tail, .int .i64 x.gen, .slice ad nd cd, .int .i64 x.fuse, .bool x.down, .bool x.broken] 33) = W at hA X zX r0 r1 k0 k1 k2 k3 k4 k5 k6 k7 k8 k9 k10 k11 k12 ⊢
 refine (implArrOk_any _ E F G x _ _ _ _ _ _ ms ds r0 r1 hw).mono ?_
 rintro e w1 ⟨rfl, b1⟩
 have X1 := X.below b1 zX
 have HB := hidden (Below.andThen hA b1)
 clear k0 k1 k2 k3 k4 k5 k6 k7 k8 k9 k10 k11 k12 X r0 r1 b1 hA
 obtain ⟨k0, k1, k2, k3, k4, k5, k6, k7, k8, k9, k10, k11, k12⟩ := X1.cells13
 clear X1
 cases ha : arrB x ms ds
 . have HR : Hid (1 = ask8 x ms ds) := by unfold Hid; rw [HV.out, if_neg (by simp [ha])]
   clear ha
   go_wp2
   go_ret
   exact ⟨ret_int HR.out, HB.out⟩
 cases hd : x.down
 . have HR : Hid (0 = ask8 x ms ds) := by unfold Hid; rw [HV.out, if_pos ha, if_neg (by simp [hd])]
   rw [hd] at k11
   clear ha hd
   go_wp2
   go_ret
   exact ⟨ret_int HR.out, HB.out⟩
 have HR : Hid (6 = ask8 x ms ds) := by unfold Hid; rw [HV.out, if_pos ha, if_pos hd]
 rw [hd] at k11
 clear ha hd
 go_wp2
 go_ret
 exact ⟨ret_int HR.out, HB.out⟩

theorem lostThere_any (w : World) (E F : TypeId) (x : ArrN) (am ad : Option Addr) (nm cm nd cd : Nat) (ms : List MemD) (h0 : (tMemS E F).Rd w [.slice am nm cm] ms) (hlo : -1 <= x.lost /\ x.lost < (ms.length : Int)) :
 Calls Tryz.prog 130 #[.agg #[.int .i64 x.id, .int .i64 x.n, .int .i64 x.s, .slice am nm cm, .int .i64 x.lost, .int .i64 x.built, .int .i64 x.seq, .int .i64 x.tail, .int .i64 x.gen, .slice ad nd cd, .int .i64 x.fuse, .bool x.down, .bool x.broken]] w fun e w' => e = .returned (.bool (lostT x ms)) /\ Below w.heap.size w w' := by
 obtain ⟨rfl, _⟩ := row_length h0
 have hA := new_below w (.cells #[.int .i64 x.id, .int .i64 x.n, .int .i64 x.s, .slice am ms.length cm, .int .i64 x.lost, .int .i64 x.built, .int .i64 x.seq, .int .i64 x.tail, .int .i64 x.gen, .slice ad nd cd, .int .i64 x.fuse, .bool x.down, .bool x.broken] 33)
 have r0 := h0.below hA
 by_cases l1 : x.lost = -1
 . have e1 : (x.lost != -1) = false := by simp [l1]
   have HV := hidden (lost_none (ms := ms) l1).2
   clear l1
   go_enter Tryz.func130, Tryz.ntmps130
   go_wp2
   go_ret
   exact ⟨ret_bool (by rw [HV.out]), hA⟩
 have e1 : (x.lost != -1) = true := by simp [l1]
 have i1 : 0 <= x.lost := by omega
 have i3 := hlo.2
 have hj : x.lost.toNat < ms.length := by omega
 obtain ⟨d, hdj⟩ : ∃ d, ms[x.lost.toNat]? = some d := ⟨_, List.getElem?_eq_getElem hj⟩
 have HV := hidden (lost_at l1 hdj).2
 rcases quads_at rfl r0 with h0' | ⟨b, off, rfl, hbl, hcs⟩
 . omega
 obtain ⟨v0, v1, v2, v3, q0, q1, q2, q3', hrv⟩ := hcs _ d hdj
 obtain ⟨a0, c0, a1, c1, a3, c3, ss, cs, f, bs, hde, rfl, rfl, rfl, rfl, p0, p1, p3⟩ := mem_at hrv
 have hf2 : d.2.2.1 = f := by rw [hde]
 rw [hf2] at HV
 clear p0 p1 p3 hcs hrv q0 q1 q3' hde hf2 hdj l1 hlo
 go_enter Tryz.func130, Tryz.ntmps130
 go_wp2
 go_ret
 exact ⟨ret_bool (by rw [HV.out]), hA⟩

theorem nextCode_any (w : World) (E F G : TypeId) (x : ArrN) (am ad : Option Addr) (nm cm nd cd : Nat) (ms : List MemD) (ds : List (Int × List Int)) (h0 : (tMemS E F).Rd w [.slice am nm cm] ms) (h1 : (tWrS G).Rd w [.slice ad nd cd] ds) (hw : wtArr ms ds <= 2097152) :
 Calls Tryz.prog 93 #[.agg #[.int .i64 x.id, .int .i64 x.n, .int .i64 x.s, .slice am nm cm, .int .i64 x.lost, .int .i64 x.built, .int .i64 x.seq, .int .i64 x.tail, .int .i64 x.gen, .slice ad nd cd, .int .i64 x.fuse, .bool x.down, .bool x.broken]] w fun e w' => e = .returned (.int .i64 (nextK x ms ds)) /\ Below w.heap.size w w' := by
 have hA := new_below w (.cells #[.int .i64 x.id, .int .i64 x.n, .int .i64 x.s, .slice am nm cm, .int .i64 x.lost, .int .i64 x.built, .int .i64 x.seq, .int .i64 x.tail, .int .i64 x.gen, .slice ad nd cd, .int .i64 x.fuse, .bool x.down, .bool x.broken] 33)
 have X := Box.new w 33 #[.int .i64 x.id, .int .i64 x.n, .int .i64 x.s, .slice am nm cm, .int .i64 x.lost, .int .i64 x.built, .int .i64 x.seq, .int .i64 x.tail, .int .i64 x.gen, .slice ad nd cd, .int .i64 x.fuse, .bool x.down, .bool x.broken]
 have zX := X.lt
 obtain ⟨k0, k1, k2, k3, k4, k5, k6, k7, k8, k9, k10, k11, k12⟩ := X.cells13
 have r0 := h0.below hA
 have r1 := h1.below hA
 have HV : Hid (nextK x ms ds = if ask8 x ms ds = 0 then (if (lostT x ms && decide (x.built ≠ x.s)) = true then (if wordsOk6 x ms ds x.built = true then 0 else 5) else 2) else ask8 x ms ds) := rfl
 go_enter Tryz.func93, Tryz.ntmps93
 go_wp2_with fail
 generalize w.alloc (.cells #[.int .i64 x.id, .int .i64 x.n, .int .i64 x.s, .slice am nm cm, .int .i64 x.lost, .int .i64 x.built, .int .i64 x.seq, .int .i64 x.tail, .int .i64 x.gen, .slice ad nd cd, .int .i64 x.fuse, .bool x.down, .bool x.broken] 33) = W at hA X zX r0 r1 k0 k1 k2 k3 k4 k5 k6 k7 k8 k9 k10 k11 k12 ⊢
 refine (askCode_any _ E F G x _ _ _ _ _ _ ms ds r0 r1 hw).mono ?_
 rintro e w1 ⟨rfl, b1⟩
 have X1 := X.below b1 zX
 have B1 := Below.andThen hA b1
 have p0 := r0.below b1
 have p1 := r1.below b1
 clear k0 k1 k2 k3 k4 k5 k6 k7 k8 k9 k10 k11 k12 X r0 r1 b1 hA
 by_cases hc : ask8 x ms ds = 0
 . have ha := (ask_good hc).1
   have HV1 : Hid (nextK x ms ds = if (lostT x ms && decide (x.built ≠ x.s)) = true then (if wordsOk6 x ms ds x.built = true then 0 else 5) else 2) := by unfold Hid; rw [HV.out, if_pos hc]
   rw [hc]
   obtain ⟨k0, k1, k2, k3, k4, k5, k6, k7, k8, k9, k10, k11, k12⟩ := X1.cells13
   clear hc HV
   go_wp2_with fail
   refine (lostThere_any _ E F x _ _ _ _ _ _ ms p0 (by have := arr_lost ha; have := (row_length p0).1; omega)).mono ?_
   rintro e w2 ⟨rfl, b2⟩
   have X2 := X1.below b2 X1.lt
   have B2 := Below.andThen B1 b2
   have q0 := p0.below b2
   have q1 := p1.below b2
   clear k0 k1 k2 k3 k4 k5 k6 k7 k8 k9 k10 k11 k12 X1 b2 B1 p0 p1
   obtain ⟨k0, k1, k2, k3, k4, k5, k6, k7, k8, k9, k10, k11, k12⟩ := X2.cells13
   cases hl : lostT x ms
   . have HR : Hid (2 = nextK x ms ds) := by unfold Hid; rw [HV1.out, hl]; rfl
     clear hl
     go_wp2
     go_ret
     exact ⟨ret_int HR.out, B2⟩
   by_cases hb : x.built = x.s
   . have HR : Hid (2 = nextK x ms ds) := by unfold Hid; rw [HV1.out, hl, decide_eq_false (fun h => h hb)]; rfl
     have e1 : (x.built == x.s) = true := by simpa using hb
     clear hl hb
     go_wp2
     go_ret
     exact ⟨ret_int HR.out, B2⟩
   have HR : Hid ((if wordsOk6 x ms ds x.built = true then 0 else 5) = nextK x ms ds) := by unfold Hid; rw [HV1.out, hl, decide_eq_true hb]; rfl
   have e1 : (x.built == x.s) = false := by simpa using hb
   clear hl hb
   go_wp2_with fail
   refine (implWords_any _ E F G x _ _ _ _ _ _ ms ds x.built q0 q1 hw).mono ?_
   rintro e w3 ⟨a', l', c', rfl, _, b3⟩
   have B3 := Below.andThen B2 b3
   clear b3
   cases hok : wordsOk6 x ms ds x.built
   . have HS : Hid (5 = nextK x ms ds) := by unfold Hid; rw [← HR.out, hok]; rfl
     clear hok HR
     go_wp2
     go_ret
     exact ⟨ret_int HS.out, B3⟩
   have HS : Hid (0 = nextK x ms ds) := by unfold Hid; rw [← HR.out, hok]; rfl
   clear hok HR
   go_wp2
   go_ret
   exact ⟨ret_int HS.out, B3⟩
 have HR : Hid (ask8 x ms ds = nextK x ms ds) := by unfold Hid; rw [HV.out, if_neg hc]
 have e0 : (ask8 x ms ds != 0) = true := by simpa using hc
 clear hc
 generalize ask8 x ms ds = q at e0 HR ⊢
 go_wp2
 go_ret
 exact ⟨ret_int HR.out, B1⟩

theorem copyArr_any (w : World) (E F G : TypeId) (x : ArrN) (am ad : Option Addr) (nm cm nd cd : Nat) (ms : List MemD) (ds : List (Int × List Int)) (h0 : (tMemS E F).Rd w [.slice am nm cm] ms) (h1 : (tWrS G).Rd w [.slice ad nd cd] ds) (hw : wtArr ms ds <= 2097152) :
 Calls Tryz.prog 32 #[.agg #[.int .i64 x.id, .int .i64 x.n, .int .i64 x.s, .slice am nm cm, .int .i64 x.lost, .int .i64 x.built, .int .i64 x.seq, .int .i64 x.tail, .int .i64 x.gen, .slice ad nd cd, .int .i64 x.fuse, .bool x.down, .bool x.broken]] w fun e w' => ∃ bm cm' bd cd' m, e = .returned (.agg #[.int .i64 x.id, .int .i64 x.n, .int .i64 x.s, .slice bm nm cm', .int .i64 x.lost, .int .i64 x.built, .int .i64 x.seq, .int .i64 x.tail, .int .i64 x.gen, .slice bd nd cd', .int .i64 x.fuse, .bool x.down, .bool x.broken]) /\ (tMemS 109 51).Own w' w.heap.size m [.slice bm nm cm'] ms /\ (tWrS 82).Own w' m w'.heap.size [.slice bd nd cd'] ds /\ w.heap.size <= m /\ m <= w'.heap.size /\ Below w.heap.size w w' := by
 have hwm : wtMemS ms <= 2097152 := by unfold wtArr at hw; omega
 have hwd : wtWrS ds <= 2097152 := by unfold wtArr at hw; omega
 obtain ⟨hl0, _, hm0⟩ := row_length h0
 obtain ⟨hl1, _, hm1⟩ := row_length h1
 have hn0 : nm <= 2097152 := by unfold wtMemS at hwm; omega
 have hn1 : nd <= 2097152 := by unfold wtWrS at hwd; omega
 obtain ⟨i1, hi1, hy0, hy1, hy2⟩ := info_parts Tryz.infoEnt
 obtain ⟨i4, hi4, hz0, hz1, hz2⟩ := info_parts Tryz.infoMem
 have zz : ∀ u : World, ∀ ob : Obj, (u.alloc ob).heap.size = u.heap.size + 1 := fun u ob => by simp
 have xm : Box (((w.alloc (.cells #[.int .i64 x.id, .int .i64 x.n, .int .i64 x.s, .slice am nm cm, .int .i64 x.lost, .int .i64 x.built, .int .i64 x.seq, .int .i64 x.tail, .int .i64 x.gen, .slice ad nd cd, .int .i64 x.fuse, .bool x.down, .bool x.broken] 33)).alloc (.cells #[.int .i64 0, .int .i64 0, .int .i64 0, .slice none 0 0, .int .i64 0, .int .i64 0, .int .i64 0, .int .i64 0, .int .i64 0, .slice none 0 0, .int .i64 0, .bool false, .bool false] 33)).alloc (.cells #[.int .i64 x.id, .int .i64 x.n, .int .i64 x.s, .slice none 0 0, .int .i64 x.lost, .int .i64 x.built, .int .i64 x.seq, .int .i64 x.tail, .int .i64 x.gen, .slice none 0 0, .int .i64 x.fuse, .bool x.down, .bool x.broken] 33)) (w.heap.size) 33 #[.int .i64 x.id, .int .i64 x.n, .int .i64 x.s, .slice am nm cm, .int .i64 x.lost, .int .i64 x.built, .int .i64 x.seq, .int .i64 x.tail, .int .i64 x.gen, .slice ad nd cd, .int .i64 x.fuse, .bool x.down, .bool x.broken] := ((Box.new w _ _).alloc _).alloc _
 have xr0 := Box.new (w.alloc (.cells #[.int .i64 x.id, .int .i64 x.n, .int .i64 x.s, .slice am nm cm, .int .i64 x.lost, .int .i64 x.built, .int .i64 x.seq, .int .i64 x.tail, .int .i64 x.gen, .slice ad nd cd, .int .i64 x.fuse, .bool x.down, .bool x.broken] 33)) 33 #[.int .i64 0, .int .i64 0, .int .i64 0, .slice none 0 0, .int .i64 0, .int .i64 0, .int .i64 0, .int .i64 0, .int .i64 0, .slice none 0 0, .int .i64 0, .bool false, .bool false]
 rw [zz] at xr0
 have xr : Box (((w.alloc (.cells #[.int .i64 x.id, .int .i64 x.n, .int .i64 x.s, .slice am nm cm, .int .i64 x.lost, .int .i64 x.built, .int .i64 x.seq, .int .i64 x.tail, .int .i64 x.gen, .slice ad nd cd, .int .i64 x.fuse, .bool x.down, .bool x.broken] 33)).alloc (.cells #[.int .i64 0, .int .i64 0, .int .i64 0, .slice none 0 0, .int .i64 0, .int .i64 0, .int .i64 0, .int .i64 0, .int .i64 0, .slice none 0 0, .int .i64 0, .bool false, .bool false] 33)).alloc (.cells #[.int .i64 x.id, .int .i64 x.n, .int .i64 x.s, .slice none 0 0, .int .i64 x.lost, .int .i64 x.built, .int .i64 x.seq, .int .i64 x.tail, .int .i64 x.gen, .slice none 0 0, .int .i64 x.fuse, .bool x.down, .bool x.broken] 33)) (w.heap.size + 1) 33 #[.int .i64 0, .int .i64 0, .int .i64 0, .slice none 0 0, .int .i64 0, .int .i64 0, .int .i64 0, .int .i64 0, .int .i64 0, .slice none 0 0, .int .i64 0, .bool false, .bool false] := xr0.alloc _
 have xo := Box.new ((w.alloc (.cells #[.int .i64 x.id, .int .i64 x.n, .int .i64 x.s, .slice am nm cm, .int .i64 x.lost, .int .i64 x.built, .int .i64 x.seq, .int .i64 x.tail, .int .i64 x.gen, .slice ad nd cd, .int .i64 x.fuse, .bool x.down, .bool x.broken] 33)).alloc (.cells #[.int .i64 0, .int .i64 0, .int .i64 0, .slice none 0 0, .int .i64 0, .int .i64 0, .int .i64 0, .int .i64 0, .int .i64 0, .slice none 0 0, .int .i64 0, .bool false, .bool false] 33)) 33 #[.int .i64 x.id, .int .i64 x.n, .int .i64 x.s, .slice none 0 0, .int .i64 x.lost, .int .i64 x.built, .int .i64 x.seq, .int .i64 x.tail, .int .i64 x.gen, .slice none 0 0, .int .i64 x.fuse, .bool x.down, .bool x.broken]
 rw [zz, zz] at xo
 have hB : Below (w.heap.size) w (((w.alloc (.cells #[.int .i64 x.id, .int .i64 x.n, .int .i64 x.s, .slice am nm cm, .int .i64 x.lost, .int .i64 x.built, .int .i64 x.seq, .int .i64 x.tail, .int .i64 x.gen, .slice ad nd cd, .int .i64 x.fuse, .bool x.down, .bool x.broken] 33)).alloc (.cells #[.int .i64 0, .int .i64 0, .int .i64 0, .slice none 0 0, .int .i64 0, .int .i64 0, .int .i64 0, .int .i64 0, .int .i64 0, .slice none 0 0, .int .i64 0, .bool false, .bool false] 33)).alloc (.cells #[.int .i64 x.id, .int .i64 x.n, .int .i64 x.s, .slice none 0 0, .int .i64 x.lost, .int .i64 x.built, .int .i64 x.seq, .int .i64 x.tail, .int .i64 x.gen, .slice none 0 0, .int .i64 x.fuse, .bool x.down, .bool x.broken] 33)) := (((Below.refl _ _).alloc (Nat.le_refl _) _).alloc (by simp) _).alloc (by simp; omega) _
 have hz : (((w.alloc (.cells #[.int .i64 x.id, .int .i64 x.n, .int .i64 x.s, .slice am nm cm, .int .i64 x.lost, .int .i64 x.built, .int .i64 x.seq, .int .i64 x.tail, .int .i64 x.gen, .slice ad nd cd, .int .i64 x.fuse, .bool x.down, .bool x.broken] 33)).alloc (.cells #[.int .i64 0, .int .i64 0, .int .i64 0, .slice none 0 0, .int .i64 0, .int .i64 0, .int .i64 0, .int .i64 0, .int .i64 0, .slice none 0 0, .int .i64 0, .bool false, .bool false] 33)).alloc (.cells #[.int .i64 x.id, .int .i64 x.n, .int .i64 x.s, .slice none 0 0, .int .i64 x.lost, .int .i64 x.built, .int .i64 x.seq, .int .i64 x.tail, .int .i64 x.gen, .slice none 0 0, .int .i64 x.fuse, .bool x.down, .bool x.broken] 33)).heap.size = w.heap.size + 1 + 1 + 1 := by simp
 have cm3 := xm.cell 3
 have cm9 := xm.cell 9
 clear xr0 zz
 go_enter Tryz.func32, Tryz.ntmps32
 go_wp2
 clear cm3 cm9
 generalize ((w.alloc (.cells #[.int .i64 x.id, .int .i64 x.n, .int .i64 x.s, .slice am nm cm, .int .i64 x.lost, .int .i64 x.built, .int .i64 x.seq, .int .i64 x.tail, .int .i64 x.gen, .slice ad nd cd, .int .i64 x.fuse, .bool x.down, .bool x.broken] 33)).alloc (.cells #[.int .i64 0, .int .i64 0, .int .i64 0, .slice none 0 0, .int .i64 0, .int .i64 0, .int .i64 0, .int .i64 0, .int .i64 0, .slice none 0 0, .int .i64 0, .bool false, .bool false] 33)).alloc (.cells #[.int .i64 x.id, .int .i64 x.n, .int .i64 x.s, .slice none 0 0, .int .i64 x.lost, .int .i64 x.built, .int .i64 x.seq, .int .i64 x.tail, .int .i64 x.gen, .slice none 0 0, .int .i64 x.fuse, .bool x.down, .bool x.broken] 33) = W2 at xm xr xo hB hz ⊢
 obtain ⟨LB, hLB⟩ : ∃ LB, W2.heap.size = LB := ⟨_, rfl⟩
 rw [hLB] at hz
 have q3 : w.heap.size + 1 + 1 + 1 <= LB /\ LB <= w.heap.size + 1 + 1 + 1 := by omega
 have hzL : LB <= W2.heap.size := by omega
 clear hLB hz
 obtain ⟨BO, hBO⟩ : ∃ BO, w.heap.size + 1 + 1 = BO := ⟨_, rfl⟩
 rw [hBO] at xo ⊢
 have q2 : w.heap.size + 1 + 1 <= BO /\ BO <= w.heap.size + 1 + 1 := by omega
 clear hBO
 obtain ⟨BR, hBR⟩ : ∃ BR, w.heap.size + 1 = BR := ⟨_, rfl⟩
 rw [hBR] at xr ⊢
 have q1 : w.heap.size + 1 <= BR /\ BR <= w.heap.size + 1 := by omega
 clear hBR
 have XM2 := hidden xm
 have XR2 := hidden xr
 have XO2 := hidden xo
 have HB2 := hidden hB
 clear xm xr xo hB
 go_loopw [14] (fun i wr => ∃ (j : Nat) (v0 : Value) (fp0 : List Nat), j <= nm /\ i = .int .i64 j /\ Fr LB BO W2 wr /\ Box wr BO 33 #[.int .i64 x.id, .int .i64 x.n, .int .i64 x.s, v0, .int .i64 x.lost, .int .i64 x.built, .int .i64 x.seq, .int .i64 x.tail, .int .i64 x.gen, .slice none 0 0, .int .i64 x.fuse, .bool x.down, .bool x.broken] /\ (tMemS 109 51).Mine wr [v0] (ms.take j) fp0 /\ (∀ b ∈ fp0, LB <= b)) (fun i _ => nm - (intOf i).toNat)
 case atStart => exact ⟨0, _, [], Nat.zero_le _, rfl, Fr.refl _ _ _, XO2.out, nil_mine _, by simp⟩
 obtain ⟨j, v0, fp0, hj, rfl, fr, xo, hm, hfp⟩ := hrel
 have hs := fr.size
 have hb := HB2.out.trans (fr.below (M := w.heap.size) (by omega) (by omega))
 by_cases hjn : j < nm
 . rcases quads_at rfl h0 with h0' | ⟨b, off, rfl, hbl, hcs⟩
   . omega
   have hdj : ms[j]? = some (ms[j]'(by omega)) := List.getElem?_eq_getElem (by omega)
   have htk : ms.take (j + 1) = ms.take j ++ [ms[j]'(by omega)] := List.take_succ_eq_append_getElem (by omega)
   generalize ms[j]'(by omega) = d at hdj htk
   have hin := Nat.le_trans (inner_leM hdj) hwm
   obtain ⟨u0, u1, u2, u3, hv0, hv1, hv2, hv3, hrv⟩ := hcs j d hdj
   obtain ⟨a0, c0, a1, c1, a3, c3', ss, cs, f, bs, rfl, rfl, rfl, rfl, rfl, r0, r1, r3⟩ := mem_at hrv
   have pv0 := (hb.cell (p := ⟨b, off + j * 4, none⟩) hbl).trans hv0
   have pv1 := (hb.cell (p := ⟨b, off + j * 4 + 1, none⟩) hbl).trans hv1
   have pv2 := (hb.cell (p := ⟨b, off + j * 4 + 2, none⟩) hbl).trans hv2
   have pv3 := (hb.cell (p := ⟨b, off + j * 4 + 3, none⟩) hbl).trans hv3
   have nb := new_below wr (.cells #[.slice a0 ss.length c0, .slice a1 cs.length c1, .bool f, .slice a3 bs.length c3'] 51)
   have hzm : (wr.alloc (.cells #[.slice a0 ss.length c0, .slice a1 cs.length c1, .bool f, .slice a3 bs.length c3'] 51)).heap.size = wr.heap.size + 1 := by simp
   have hbm := Below.andThen hb nb
   have R0 := hidden (r0.below hbm)
   have R1 := hidden (r1.below hbm)
   have R3 := hidden (r3.below hbm)
   have xom := xo.alloc (.cells #[.slice a0 ss.length c0, .slice a1 cs.length c1, .bool f, .slice a3 bs.length c3'] 51)
   have xmm := Box.new wr 51 #[.slice a0 ss.length c0, .slice a1 cs.length c1, .bool f, .slice a3 bs.length c3']
   have hmm := hm.alloc (.cells #[.slice a0 ss.length c0, .slice a1 cs.length c1, .bool f, .slice a3 bs.length c3'] 51)
   have frm : Fr LB BO W2 (wr.alloc (.cells #[.slice a0 ss.length c0, .slice a1 cs.length c1, .bool f, .slice a3 bs.length c3'] 51)) := fr.trans (Fr.ofBelow nb (by omega))
   have k1 : (0 : Int) <= (j : Int) := by omega
   have k2 : (j : Int) < (nm : Int) := by omega
   have HL : Hid ((ms.take j).length = j) := by unfold Hid; rw [List.length_take]; omega
   have L1 : Hid ((ms.take j).length + 1 <= maxLen) := by unfold Hid; rw [HL.out]; unfold maxLen; omega
   have L2 : Hid (((ms.take j).length + 1) * 80 <= 140737488355328) := by unfold Hid; rw [HL.out]; omega
   have hlt0 : ∀ b ∈ fp0, b < wr.heap.size := hm.lt
   have HTK := hidden htk
   have FRR := hidden frm
   have HM := hidden hmm
   have HFP := hidden hfp
   have XO := hidden xom
   have XMM := hidden xmm
   clear hcs hdj hv0 hv1 hv2 hv3 hrv htk xo hm hfp hb fr r0 r1 r3 nb hbm xom xmm hmm frm
   go_wp2_with fail
   generalize wr.alloc (.cells #[.slice a0 ss.length c0, .slice a1 cs.length c1, .bool f, .slice a3 bs.length c3'] 51) = wm at R0 R1 R3 FRR HM XO XMM hzm ⊢
   have FLT := hidden hlt0
   obtain ⟨MB, hMB⟩ : ∃ MB, wr.heap.size = MB := ⟨_, rfl⟩
   rw [hMB] at XMM hzm hs FLT ⊢
   clear hMB pv0 pv1 pv2 pv3
   have zMB : MB < wm.heap.size := by omega
   have zBO : BO < wm.heap.size := by omega
   have hzm2 : MB + 1 <= wm.heap.size := by omega
   clear hzm
   have mk : Hid (∀ w', Box w' BO 33 #[.int .i64 x.id, .int .i64 x.n, .int .i64 x.s, v0, .int .i64 x.lost, .int .i64 x.built, .int .i64 x.seq, .int .i64 x.tail, .int .i64 x.gen, .slice none 0 0, .int .i64 x.fuse, .bool x.down, .bool x.broken] -> Box w' MB 51 #[.slice a0 ss.length c0, .slice a1 cs.length c1, .bool f, .slice a3 bs.length c3'] -> w'.cell? ⟨BO, 3, none⟩ = some (v0) /\ w'.cell? ⟨MB, 0, none⟩ = some (.slice a0 ss.length c0) /\ w'.cell? ⟨MB, 1, none⟩ = some (.slice a1 cs.length c1) /\ w'.cell? ⟨MB, 2, none⟩ = some (.bool f) /\ w'.cell? ⟨MB, 3, none⟩ = some (.slice a3 bs.length c3')) := fun w' h1 h2 => ⟨h1.cell 3, h2.cell 0, h2.cell 1, h2.cell 2, h2.cell 3⟩
   have hS : wm.drew.cell? ⟨BO, 3, none⟩ = some (v0) /\ wm.drew.cell? ⟨MB, 0, none⟩ = some (.slice a0 ss.length c0) /\ wm.drew.cell? ⟨MB, 1, none⟩ = some (.slice a1 cs.length c1) /\ wm.drew.cell? ⟨MB, 2, none⟩ = some (.bool f) /\ wm.drew.cell? ⟨MB, 3, none⟩ = some (.slice a3 bs.length c3') := mk.out wm.drew XO.out XMM.out
   refine Upto.start (S := fun w' => w'.cell? ⟨BO, 3, none⟩ = some (v0) /\ w'.cell? ⟨MB, 0, none⟩ = some (.slice a0 ss.length c0) /\ w'.cell? ⟨MB, 1, none⟩ = some (.slice a1 cs.length c1) /\ w'.cell? ⟨MB, 2, none⟩ = some (.bool f) /\ w'.cell? ⟨MB, 3, none⟩ = some (.slice a3 bs.length c3')) (k := 7) (by kernel_rfl) ?_
   refine Upto.t 0 hS ?_
   refine Upto.t 1 hS ?_
   refine Upto.t 2 hS ?_
   refine Upto.one (i := 3) (by kernel_rfl) rfl (fun K hK => ?_)
   go_simp
   refine (copyMem_any _ E _ _ _ _ _ _ _ _ _ ss cs f bs R0.out.drew R1.out.drew R3.out.drew hin).mono ?_
   rintro e wc ⟨y0, y1, y3, m1, m2, rfl, o3, o0, o1, hm12, hm01, hm22, bc⟩
   have hbc' : Below wm.heap.size wm wc := (Below.refl wm.heap.size wm).drew.trans bc
   have hm01' : wm.heap.size <= m1 := hm01
   have om : (tMem 109).Own wc wm.heap.size wc.heap.size [y0, y1, .bool f, y3] (ss, cs, f, bs) := mem_own3 o0 o1 o3 (.inl (Nat.le_refl _)) (.inr (Nat.le_refl _)) (.inr hm12) ⟨by omega, by omega⟩ ⟨by omega, Nat.le_refl _⟩ ⟨Nat.le_refl _, by omega⟩
   obtain ⟨e0, g0, rfl⟩ := row_shape o0.rd
   obtain ⟨e1, g1, rfl⟩ := row_shape o1.rd
   obtain ⟨e3, g3, rfl⟩ := row_shape o3.rd
   obtain ⟨fpx, mx, rx⟩ := om.mine
   have xoc := XO.out.below hbc' zBO
   have xmc := XMM.out.below hbc' zMB
   have hS3 : wc.cell? ⟨BO, 3, none⟩ = some (v0) /\ wc.cell? ⟨MB, 0, none⟩ = some (.slice a0 ss.length c0) /\ wc.cell? ⟨MB, 1, none⟩ = some (.slice a1 cs.length c1) /\ wc.cell? ⟨MB, 2, none⟩ = some (.bool f) /\ wc.cell? ⟨MB, 3, none⟩ = some (.slice a3 bs.length c3') := mk.out wc xoc xmc
   have zc := hbc'.size
   have hS4 : (wc.alloc (.cells #[.slice e0 ss.length g0, .slice e1 cs.length g1, .bool f, .slice e3 bs.length g3] 51)).cell? ⟨BO, 3, none⟩ = some (v0) /\ (wc.alloc (.cells #[.slice e0 ss.length g0, .slice e1 cs.length g1, .bool f, .slice e3 bs.length g3] 51)).cell? ⟨MB, 0, none⟩ = some (.slice a0 ss.length c0) /\ (wc.alloc (.cells #[.slice e0 ss.length g0, .slice e1 cs.length g1, .bool f, .slice e3 bs.length g3] 51)).cell? ⟨MB, 1, none⟩ = some (.slice a1 cs.length c1) /\ (wc.alloc (.cells #[.slice e0 ss.length g0, .slice e1 cs.length g1, .bool f, .slice e3 bs.length g3] 51)).cell? ⟨MB, 2, none⟩ = some (.bool f) /\ (wc.alloc (.cells #[.slice e0 ss.length g0, .slice e1 cs.length g1, .bool f, .slice e3 bs.length g3] 51)).cell? ⟨MB, 3, none⟩ = some (.slice a3 bs.length c3') := mk.out _ (xoc.alloc _) (xmc.alloc _)
   have XOC := hidden xoc
   have XMC := hidden xmc
   have MX := hidden mx
   have RX := hidden rx
   have HBC := hidden hbc'
   clear xoc xmc mx rx hbc' bc om o0 o1 o3 hm01 hm01' hm12 hm22 R0 R1 R3
   go_wp2_with fail
   refine hK.out _ _ (fun _ => hS3) ?_
   clear hK K
   refine Upto.one (i := 4) (by kernel_rfl) rfl (fun K hK => ?_)
   go_simp
   refine hK.out _ _ (fun _ => hS4) ?_
   clear hK K
   refine Upto.one (i := 5) (by kernel_rfl) rfl (fun K hK => ?_)
   refine step_appT (tMem 109) (by rfl) _ _ 30 (by rfl) 51 i4 (.agg #[.slice none 0 0, .slice none 0 0, .bool false, .slice none 0 0]) 80 Tryz.underlying30 hi4 hz0 hz1 hz2 rfl (by decide) v0 (ms.take j) fp0 (by rfl) ?_ ⟨wc.heap.size, 0, none⟩ 1 [.slice e0 ss.length g0, .slice e1 cs.length g1, .bool f, .slice e3 bs.length g3] (ss, cs, f, bs) fpx (by rfl) ?_ ?_ ?_ ?_ L1.out L2.out ?_
   . exact (HM.out.below HBC.out).alloc _
   . exact MX.out.alloc _
   . intro b hb hb'
     have h1 := HM.out.lt b hb
     have h2 := RX.out b hb'
     omega
   . exact news_new _ _ _
   . intro u hu
     simp at hu
     rcases hu with hu | hu | hu | hu <;> (rw [hu]; rfl)
   intro g cap wA fpA m1 m2 m3
   rw [HL.out] at m1 ⊢
   rw [← HTK.out] at m1
   have nMB : MB ∉ fp0 := fun hm => by have := FLT.out _ hm; omega
   have ya := (XOC.out.alloc (.cells #[.slice e0 ss.length g0, .slice e1 cs.length g1, .bool f, .slice e3 bs.length g3] 51)).turned m3 (fun hm => by have := HFP.out _ hm; omega)
   have ym := (XMC.out.alloc (.cells #[.slice e0 ss.length g0, .slice e1 cs.length g1, .bool f, .slice e3 bs.length g3] 51)).turned m3 nMB
   have hS5 : wA.cell? ⟨BO, 3, none⟩ = some (v0) /\ wA.cell? ⟨MB, 0, none⟩ = some (.slice a0 ss.length c0) /\ wA.cell? ⟨MB, 1, none⟩ = some (.slice a1 cs.length c1) /\ wA.cell? ⟨MB, 2, none⟩ = some (.bool f) /\ wA.cell? ⟨MB, 3, none⟩ = some (.slice a3 bs.length c3') := mk.out wA ya ym
   have r0 := hS5.1
   have fz := ya.frozen 3
   have YA := hidden ya
   have M1 := hidden m1
   have M2 := hidden m2
   have M3 := hidden m3
   clear ya ym m1 m2 m3 nMB
   refine hK.out _ _ (fun _ => hS5) ?_
   clear hK K
   simp only [Act.put, List.setIfInBounds_toArray, List.set_cons_zero, List.set_cons_succ]
   refine Upto.t 6 hS5 ?_
   refine Upto.one (i := 7) (by kernel_rfl) rfl (fun K hK => ?_)
   go_simp
   refine hK.out _ _ (fun h => absurd rfl h) ?_
   clear hK K
   refine Upto.done (by kernel_rfl) ?_ _
   have HFA := hidden (round_fp (N := LB) (by omega) HBC.out HFP.out RX.out M2.out)
   have FRA := hidden (Fr.round FRR.out (by omega) HBC.out _ M3.out HFP.out 3 (.slice (some ⟨g, 0, none⟩) (j + 1) cap))
   have MA := hidden (M1.out.setCell (g := BO) (j := 3) (fun hm => by have := HFA.out _ hm; omega) (.slice (some ⟨g, 0, none⟩) (j + 1) cap))
   have YA' := hidden (YA.out.set 3 (.slice (some ⟨g, 0, none⟩) (j + 1) cap))
   clear hS hS3 hS4 hS5 r0 YA M1 M2 M3 XOC MX RX HBC HFP HM FRR XO XMM XMC mk FLT
   go_wp2
   go_roundw
   case rel => exact ⟨j + 1, _, fpA, by omega, by go_num, FRA.out, YA'.out, MA.out, HFA.out⟩
   case measure => simp [intOf]; omega
 have ej : nm = j := by omega
 subst ej
 rw [List.take_of_length_le (by omega)] at hm
 have hlt := hm.lt
 obtain ⟨eM, gM, hvM⟩ := row_shape hm.rd
 rw [hl0] at hvM
 subst hvM
 have KM := hm.own (lo := LB) (hi := wr.heap.size) (fun b hb => ⟨hfp b hb, hlt b hb⟩)
 have xr := fr.box XR2.out (by omega) (by omega)
 have xm := fr.box XM2.out (by omega) (by omega)
 have c9 : wr.cell? ⟨w.heap.size, 9, none⟩ = some (.slice ad nd cd) := xm.cell 9
 obtain ⟨LE, hLE⟩ : ∃ LE, wr.heap.size = LE := ⟨_, rfl⟩
 rw [hLE] at KM hs
 have hLE2 : LE <= wr.heap.size := by omega
 clear hLE
 have XM3 := hidden xm
 have XR3 := hidden xr
 have XO3 := hidden xo
 have KM3 := hidden KM
 have HB3 := hidden hb
 clear fr xo xm hm hfp hlt KM xr hb hj XM2 XR2 XO2 HB2
 go_wp2
 clear c9
 obtain ⟨wo, hwo⟩ : ∃ y, y = wr := ⟨_, rfl⟩
 subst hwo
 go_loopw [29] (fun i wq => ∃ (j : Nat) (v1 : Value) (fp1 : List Nat), j <= nd /\ i = .int .i64 j /\ Fr LE BO wo wq /\ Box wq BO 33 #[.int .i64 x.id, .int .i64 x.n, .int .i64 x.s, .slice eM nm gM, .int .i64 x.lost, .int .i64 x.built, .int .i64 x.seq, .int .i64 x.tail, .int .i64 x.gen, v1, .int .i64 x.fuse, .bool x.down, .bool x.broken] /\ (tWrS 82).Mine wq [v1] (ds.take j) fp1 /\ (∀ b ∈ fp1, LE <= b)) (fun i _ => nd - (intOf i).toNat)
 case atStart => exact ⟨0, _, [], Nat.zero_le _, rfl, Fr.refl _ _ _, XO3.out, nil_mine _, by simp⟩
 obtain ⟨j, v1, fp1, hj, rfl, fr, xo, hm, hfp⟩ := hrel
 have hs3 := fr.size
 have hb := HB3.out.trans (fr.below (M := w.heap.size) (by omega) (by omega))
 by_cases hjn : j < nd
 . rcases pairs_at rfl h1 with h0' | ⟨b, off, rfl, hbl, hcs⟩
   . omega
   have hdj : ds[j]? = some (ds[j]'(by omega)) := List.getElem?_eq_getElem (by omega)
   have htk : ds.take (j + 1) = ds.take j ++ [ds[j]'(by omega)] := List.take_succ_eq_append_getElem (by omega)
   generalize ds[j]'(by omega) = d at hdj htk
   have hil := inner_le' hdj
   obtain ⟨u0, u1, hv0, hv1, hrv⟩ := hcs j d hdj
   obtain ⟨rfl, hrv'⟩ := wr_rd hrv
   obtain ⟨av, cv, rfl⟩ := row_shape hrv'
   have pv0 := (hb.cell (p := ⟨b, off + j * 2, none⟩) hbl).trans hv0
   have pv1 := (hb.cell (p := ⟨b, off + j * 2 + 1, none⟩) hbl).trans hv1
   obtain ⟨x0, x1⟩ := d
   simp only at pv0 pv1 hrv' hil
   have nb := new_below wr (.cells #[.int .i64 x0, .slice av x1.length cv] 82)
   have hzm : (wr.alloc (.cells #[.int .i64 x0, .slice av x1.length cv] 82)).heap.size = wr.heap.size + 1 := by simp
   have HX := hidden (hrv'.below (Below.andThen hb nb))
   have k1 : (0 : Int) <= (j : Int) := by omega
   have k2 : (j : Int) < (nd : Int) := by omega
   have xom := xo.alloc (.cells #[.int .i64 x0, .slice av x1.length cv] 82)
   have xmm := Box.new wr 82 #[.int .i64 x0, .slice av x1.length cv]
   have hmm := hm.alloc (.cells #[.int .i64 x0, .slice av x1.length cv] 82)
   have frm : Fr LE BO wo (wr.alloc (.cells #[.int .i64 x0, .slice av x1.length cv] 82)) := fr.trans (Fr.ofBelow nb (by omega))
   have hlt0 : ∀ b ∈ fp1, b < wr.heap.size := hm.lt
   have HL : Hid ((ds.take j).length = j) := by unfold Hid; rw [List.length_take]; omega
   have L1 : Hid ((ds.take j).length + 1 <= maxLen) := by unfold Hid; rw [HL.out]; unfold maxLen; omega
   have L2 : Hid (((ds.take j).length + 1) * 32 <= 140737488355328) := by unfold Hid; rw [HL.out]; omega
   have HTK := hidden htk
   have FRR := hidden frm
   have HM := hidden hmm
   have HFP := hidden hfp
   have XO := hidden xom
   have XMM := hidden xmm
   have FLT := hidden hlt0
   clear hcs hdj hv0 hv1 hrv hrv' htk xo hm hfp hb fr nb xom xmm hmm frm hlt0
   go_wp2_with fail
   generalize wr.alloc (.cells #[.int .i64 x0, .slice av x1.length cv] 82) = wm at HX FRR HM XO XMM hzm ⊢
   obtain ⟨MB, hMB⟩ : ∃ MB, wr.heap.size = MB := ⟨_, rfl⟩
   rw [hMB] at XMM hzm hs3 FLT ⊢
   clear hMB pv0 pv1
   have zMB : MB < wm.heap.size := by omega
   have zBO : BO < wm.heap.size := by omega
   have hzm2 : MB + 1 <= wm.heap.size := by omega
   clear hzm
   have mk : Hid (∀ w', Box w' BO 33 #[.int .i64 x.id, .int .i64 x.n, .int .i64 x.s, .slice eM nm gM, .int .i64 x.lost, .int .i64 x.built, .int .i64 x.seq, .int .i64 x.tail, .int .i64 x.gen, v1, .int .i64 x.fuse, .bool x.down, .bool x.broken] -> Box w' MB 82 #[.int .i64 x0, .slice av x1.length cv] -> w'.cell? ⟨BO, 9, none⟩ = some (v1) /\ w'.cell? ⟨MB, 0, none⟩ = some (.int .i64 x0) /\ w'.cell? ⟨MB, 1, none⟩ = some (.slice av x1.length cv)) := fun w' h1 h2 => ⟨h1.cell 9, h2.cell 0, h2.cell 1⟩
   have hS : wm.drew.cell? ⟨BO, 9, none⟩ = some (v1) /\ wm.drew.cell? ⟨MB, 0, none⟩ = some (.int .i64 x0) /\ wm.drew.cell? ⟨MB, 1, none⟩ = some (.slice av x1.length cv) := mk.out wm.drew XO.out XMM.out
   refine Upto.start (S := fun w' => w'.cell? ⟨BO, 9, none⟩ = some (v1) /\ w'.cell? ⟨MB, 0, none⟩ = some (.int .i64 x0) /\ w'.cell? ⟨MB, 1, none⟩ = some (.slice av x1.length cv)) (k := 11) (by kernel_rfl) ?_
   refine Upto.t 0 hS ?_
   refine Upto.t 1 hS ?_
   refine Upto.t 2 hS ?_
   refine Upto.t 3 hS ?_
   refine Upto.t 4 hS ?_
   refine Upto.t 5 hS ?_
   refine Upto.one (i := 6) (by kernel_rfl) rfl (fun K hK => ?_)
   go_simp
   refine (copyWords_any _ _ _ _ x1 HX.out.drew (by omega)).mono ?_
   rintro e wc ⟨ac, cc, rfl, ow, bc⟩
   have hbc' : Below wm.heap.size wm wc := (Below.refl wm.heap.size wm).drew.trans bc
   obtain ⟨fpx, mx, rx0⟩ := ow.mine
   have rx : ∀ b ∈ fpx, wm.heap.size <= b /\ b < wc.heap.size := rx0
   have xoc := XO.out.below hbc' zBO
   have xmc := XMM.out.below hbc' zMB
   have hS3 : wc.cell? ⟨BO, 9, none⟩ = some (v1) /\ wc.cell? ⟨MB, 0, none⟩ = some (.int .i64 x0) /\ wc.cell? ⟨MB, 1, none⟩ = some (.slice av x1.length cv) := mk.out wc xoc xmc
   have zc := hbc'.size
   have hS4 : (wc.alloc (.cells #[.int .i64 x0, .slice ac x1.length cc] 82)).cell? ⟨BO, 9, none⟩ = some (v1) /\ (wc.alloc (.cells #[.int .i64 x0, .slice ac x1.length cc] 82)).cell? ⟨MB, 0, none⟩ = some (.int .i64 x0) /\ (wc.alloc (.cells #[.int .i64 x0, .slice ac x1.length cc] 82)).cell? ⟨MB, 1, none⟩ = some (.slice av x1.length cv) := mk.out _ (xoc.alloc _) (xmc.alloc _)
   have XOC := hidden xoc
   have XMC := hidden xmc
   have MX := hidden mx
   have RX := hidden rx
   have HBC := hidden hbc'
   clear xoc xmc mx rx rx0 hbc' bc ow HX
   go_wp2_with fail
   refine hK.out _ _ (fun _ => hS3) ?_
   clear hK K
   refine Upto.t 7 hS3 ?_
   refine Upto.one (i := 8) (by kernel_rfl) rfl (fun K hK => ?_)
   go_simp
   refine hK.out _ _ (fun _ => hS4) ?_
   clear hK K
   refine Upto.one (i := 9) (by kernel_rfl) rfl (fun K hK => ?_)
   refine step_appT tWr (by rfl) _ _ 31 (by rfl) 82 i1 (.agg #[.int .i64 0, .slice none 0 0]) 32 Tryz.underlying31 hi1 hy0 hy1 hy2 rfl Nat.zero_lt_two v1 (ds.take j) fp1 (by rfl) ?_ ⟨wc.heap.size, 0, none⟩ 1 [.int .i64 x0, .slice ac x1.length cc] (x0, x1) fpx (by rfl) ?_ ?_ ?_ ?_ L1.out L2.out ?_
   . exact (HM.out.below HBC.out).alloc _
   . exact (wr_mine x0 MX.out).alloc _
   . intro b hb hb'
     have h1 := HM.out.lt b hb
     have h2 := RX.out b hb'
     omega
   . exact news_new _ _ _
   . intro u hu
     simp at hu
     rcases hu with hu | hu <;> (rw [hu]; rfl)
   intro g cap wA fpA m1 m2 m3
   rw [HL.out] at m1 ⊢
   rw [← HTK.out] at m1
   have nMB : MB ∉ fp1 := fun hm => by have := FLT.out _ hm; omega
   have ya := (XOC.out.alloc (.cells #[.int .i64 x0, .slice ac x1.length cc] 82)).turned m3 (fun hm => by have := HFP.out _ hm; omega)
   have ym := (XMC.out.alloc (.cells #[.int .i64 x0, .slice ac x1.length cc] 82)).turned m3 nMB
   have hS5 : wA.cell? ⟨BO, 9, none⟩ = some (v1) /\ wA.cell? ⟨MB, 0, none⟩ = some (.int .i64 x0) /\ wA.cell? ⟨MB, 1, none⟩ = some (.slice av x1.length cv) := mk.out wA ya ym
   have r0 := hS5.1
   have fz := ya.frozen 9
   have YA := hidden ya
   have M1 := hidden m1
   have M2 := hidden m2
   have M3 := hidden m3
   clear ya ym m1 m2 m3 nMB
   refine hK.out _ _ (fun _ => hS5) ?_
   clear hK K
   simp only [Act.put, List.setIfInBounds_toArray, List.set_cons_zero, List.set_cons_succ]
   refine Upto.t 10 hS5 ?_
   refine Upto.one (i := 11) (by kernel_rfl) rfl (fun K hK => ?_)
   go_simp
   refine hK.out _ _ (fun h => absurd rfl h) ?_
   clear hK K
   refine Upto.done (by kernel_rfl) ?_ _
   have HFA := hidden (round_fp (N := LE) (by omega) HBC.out HFP.out RX.out M2.out)
   have FRA := hidden (Fr.round FRR.out (by omega) HBC.out _ M3.out HFP.out 9 (.slice (some ⟨g, 0, none⟩) (j + 1) cap))
   have MA := hidden (M1.out.setCell (g := BO) (j := 9) (fun hm => by have := HFA.out _ hm; omega) (.slice (some ⟨g, 0, none⟩) (j + 1) cap))
   have YA' := hidden (YA.out.set 9 (.slice (some ⟨g, 0, none⟩) (j + 1) cap))
   clear hS hS3 hS4 hS5 r0 YA M1 M2 M3 XOC MX RX HBC HFP HM FRR XO XMM XMC mk FLT
   go_wp2
   go_roundw
   case rel => exact ⟨j + 1, _, fpA, by omega, by go_num, FRA.out, YA'.out, MA.out, HFA.out⟩
   case measure => simp [intOf]; omega
 have ej : nd = j := by omega
 subst ej
 rw [List.take_of_length_le (by omega)] at hm
 have hlt := hm.lt
 obtain ⟨eD, gD, hvD⟩ := row_shape hm.rd
 rw [hl1] at hvD
 subst hvD
 have K1 := hm.own (lo := LE) (hi := wr.heap.size) (fun b hb => ⟨hfp b hb, hlt b hb⟩)
 have K0 := fr.own KM3.out (Nat.le_refl _) (.inr (by omega))
 have xr := fr.box XR3.out (by omega) (by omega)
 have hbt := puts_but BR [(0, .int .i64 x.id), (1, .int .i64 x.n), (2, .int .i64 x.s), (3, .slice eM nm gM), (4, .int .i64 x.lost), (5, .int .i64 x.built), (6, .int .i64 x.seq), (7, .int .i64 x.tail), (8, .int .i64 x.gen), (9, .slice eD nd gD), (10, .int .i64 x.fuse), (11, .bool x.down), (12, .bool x.broken)] wr
 have H0 := K0.but hbt (.inr (by omega))
 have H1 := K1.but hbt (.inr (by omega))
 have HBB := Below.andBut hb hbt (by omega)
 have hsz := hbt.size
 have H0w := hidden (H0.widen (lo' := w.heap.size) (hi' := LE) (by omega) (Nat.le_refl _))
 have H1w := hidden (H1.widen (lo' := LE) (Nat.le_refl _) hsz)
 have HBw := hidden HBB
 have HSZ : Hid (LE <= (puts wr BR [(0, .int .i64 x.id), (1, .int .i64 x.n), (2, .int .i64 x.s), (3, .slice eM nm gM), (4, .int .i64 x.lost), (5, .int .i64 x.built), (6, .int .i64 x.seq), (7, .int .i64 x.tail), (8, .int .i64 x.gen), (9, .slice eD nd gD), (10, .int .i64 x.fuse), (11, .bool x.down), (12, .bool x.broken)]).heap.size) := by unfold Hid; omega
 simp only [puts] at H0w H1w HBw HSZ
 obtain ⟨p0, p1, p2, p3, p4, p5, p6, p7, p8, p9, p10, p11, p12⟩ := xr.cells13
 have fz := xr.frozen
 obtain ⟨r0, r1, r2, r3, r4, r5, r6, r7, r8, r9, r10, r11, r12⟩ := xo.cells13
 have hLw : w.heap.size <= LE := by omega
 clear fr xo hb hm hfp hlt xr K0 K1 hbt H0 H1 HBB hsz hj hs3
 go_wp2
 refine bodyPost_ret (v := .agg #[.int .i64 x.id, .int .i64 x.n, .int .i64 x.s, .slice eM nm gM, .int .i64 x.lost, .int .i64 x.built, .int .i64 x.seq, .int .i64 x.tail, .int .i64 x.gen, .slice eD nd gD, .int .i64 x.fuse, .bool x.down, .bool x.broken]) (by simp [results, Tryz.results32, go_sem, p0, p1, p2, p3, p4, p5, p6, p7, p8, p9, p10, p11, p12]) rfl ?_
 exact ⟨_, _, _, _, LE, rfl, H0w.out, H1w.out, hLw, HSZ.out, HBw.out⟩

end Go.Proofs.YtechckninoilhaaGreat

/-
 The walk of the program's WriteSec: one write more in the cache, the sector no longer Bad, in memory of its own; else the disk as it was, and false. Condition: the disk and the sector weigh at most 2097152 each.
-/
import Derived.Test.YtechckninoilhaaGreatWalkMemOk
import Derived.Test.YtechckninoilhaaGreatRowBuildAllAll12
import Derived.Test.YtechckninoilhaaGreatStore
import Derived.Lib.SliceRun
import Derived.Test.YtechckninoilhaaGreatFrame
import Derived.Test.YtechckninoilhaaGreatHeld
import Derived.Test.YtechckninoilhaaGreatOrder

set_option maxRecDepth 100000
set_option maxHeartbeats 8000000
set_option linter.unusedSimpArgs false

namespace Go.Proofs.YtechckninoilhaaGreat
open Go.RowKit

theorem hasSec_any (w : World) (a0 : Option Addr) (n0 c0 : Nat) (v1 v2 v3 : Value) (x : Int) :
 Calls Tryz.prog 143 #[.agg #[.slice a0 n0 c0, v1, v2, v3], .int .i64 x] w fun e w' => e = .returned (.bool (inB x 0 ((n0 : Int) - 1))) /\ Below w.heap.size w w' := by
 have hA : Below w.heap.size w (w.alloc (.cells #[.slice a0 n0 c0, v1, v2, v3] 51)) := (Below.refl _ _).alloc (Nat.le_refl _) _
 have hcell : (w.alloc (.cells #[.slice a0 n0 c0, v1, v2, v3] 51)).cell? ⟨w.heap.size, 0, none⟩ = some (.slice a0 n0 c0) := by
  rw [cell_of_row _ w.heap.size 0 _ _ (0, 0) (heap_alloc_new w _)]
  rfl
 by_cases h0 : 0 <= x
 . by_cases h1 : x < (n0 : Int)
   . go_enter Tryz.func143, Tryz.ntmps143
     go_wp2
     go_ret
     exact ⟨ret_bool (by symm; unfold inB; simp; omega), hA⟩
   go_enter Tryz.func143, Tryz.ntmps143
   go_wp2
   go_ret
   exact ⟨ret_bool (by symm; unfold inB; simp; omega), hA⟩
 go_enter Tryz.func143, Tryz.ntmps143
 go_wp2
 go_ret
 exact ⟨ret_bool (by symm; unfold inB; simp; omega), hA⟩

theorem badOk_any (w : World) (a0 : Option Addr) (n0 c0 : Nat) (v1 v2 : Value) (a3 : Option Addr) (n3 c3 : Nat) (bs : List Int) (h3 : tIntS.Rd w [.slice a3 n3 c3] bs) :
 Calls Tryz.prog 144 #[.agg #[.slice a0 n0 c0, v1, v2, .slice a3 n3 c3]] w fun e w' => e = .returned (.bool (badB n0 bs)) /\ Below w.heap.size w w' := by
 obtain ⟨hl3, _, hm3⟩ := row_length h3
 have hA : Below w.heap.size w (w.alloc (.cells #[.slice a0 n0 c0, v1, v2, .slice a3 n3 c3] 51)) := (Below.refl _ _).alloc (Nat.le_refl _) _
 have hcell : ∀ j v, (#[Value.slice a0 n0 c0, v1, v2, .slice a3 n3 c3])[j]? = some v -> (w.alloc (.cells #[.slice a0 n0 c0, v1, v2, .slice a3 n3 c3] 51)).cell? ⟨w.heap.size, j, none⟩ = some v := by
  intro j v hv
  rw [cell_of_row _ w.heap.size j _ _ (0, 0) (heap_alloc_new w _)]
  exact hv
 have k0 := hcell 0 _ rfl
 have k1 := hcell 1 _ rfl
 have k2 := hcell 2 _ rfl
 have k3 := hcell 3 _ rfl
 have g3 := h3.below hA
 have hz : w.heap.size < (w.alloc (.cells #[.slice a0 n0 c0, v1, v2, .slice a3 n3 c3] 51)).heap.size := by simp
 go_enter Tryz.func144, Tryz.ntmps144
 go_wp2
 generalize hW : w.alloc (.cells #[.slice a0 n0 c0, v1, v2, .slice a3 n3 c3] 51) = W at hA k0 k1 k2 k3 g3 hz ⊢
 clear hW hcell h3
 go_loopw [8] (fun i wr => ∃ i3 : Nat, i3 <= n3 /\ i = .int .i64 i3 /\ (List.range i3).all (badAt n0 bs) = true /\ Below W.heap.size W wr) (fun i _ => n3 - (intOf i).toNat)
 case atStart => exact ⟨0, Nat.zero_le _, rfl, rfl, Below.refl _ _⟩
 obtain ⟨i3, hi3, rfl, ht, hs⟩ := hrel
 have q0 := (hs.cell (p := ⟨w.heap.size, 0, none⟩) hz).trans k0
 have q1 := (hs.cell (p := ⟨w.heap.size, 1, none⟩) hz).trans k1
 have q2 := (hs.cell (p := ⟨w.heap.size, 2, none⟩) hz).trans k2
 have q3 := (hs.cell (p := ⟨w.heap.size, 3, none⟩) hz).trans k3
 have hzr : w.heap.size < wr.heap.size := Nat.lt_of_lt_of_le hz hs.size
 by_cases hi3n : i3 < n3
 . obtain ⟨R3, _, _, _⟩ := ints_rd g3
   rcases R3.cases with h0' | ⟨b, off, rfl, hbl, hcs⟩
   . omega
   have hbr : b < wr.heap.size := Nat.lt_of_lt_of_le hbl hs.size
   have p0 := (hs.cell (p := ⟨b, off + i3, none⟩) hbl).trans (hcs i3 (by omega))
   have HT := hidden ht
   have hrs : (List.range (i3 + 1)).all (badAt n0 bs) = ((List.range i3).all (badAt n0 bs) && badAt n0 bs i3) := by rw [List.range_succ, List.all_append]; simp
   have hrn : badAt n0 bs i3 = false -> badB n0 bs = false := by
    intro h
    unfold badB
    rw [List.all_eq_false]
    exact ⟨i3, by simp; omega, by simp [h]⟩
   have hbd : badAt n0 bs i3 = (inB (bs.getD i3 0) 0 ((n0 : Int) - 1) && (decide (i3 = 0) || decide (bs.getD (i3 - 1) 0 < bs.getD i3 0))) := rfl
   have i1 : (0 : Int) <= (i3 : Int) := by omega
   have i2' : (i3 : Int) < (n3 : Int) := by omega
   by_cases hI : inB (bs.getD i3 0) 0 ((n0 : Int) - 1) = true
   . by_cases hz3 : i3 = 0
     . have HD : Hid ((List.range (i3 + 1)).all (badAt n0 bs) = true) := by unfold Hid; rw [hrs, HT.out, hbd, hI, decide_eq_true hz3]; rfl
       generalize bs.getD i3 0 = y at p0 hI
       have d0 : decide ((0 : Int) < (i3 : Int)) = false := decide_eq_false (by omega)
       have d0b : decide (0 < i3) = false := decide_eq_false (by omega)
       have HZ := hidden hz3
       clear hcs ht hrs hrn hbd hz3 R3
       go_wp2_with fail
       refine (hasSec_any _ _ _ _ _ _ _ _).mono ?_
       rintro e w5 ⟨rfl, hb5'⟩
       have r0 := (hb5'.cell (p := ⟨w.heap.size, 0, none⟩) hzr).trans q0
       have r1 := (hb5'.cell (p := ⟨w.heap.size, 1, none⟩) hzr).trans q1
       have r2 := (hb5'.cell (p := ⟨w.heap.size, 2, none⟩) hzr).trans q2
       have r3 := (hb5'.cell (p := ⟨w.heap.size, 3, none⟩) hzr).trans q3
       have hs5 := hs.trans (hb5'.mono hs.size)
       clear q0 q1 q2 q3 hb5'
       go_wp2
       go_roundw
       case rel => exact ⟨i3 + 1, by omega, by go_num, HD.out, hs5⟩
       case measure => simp [intOf]; omega
     have p1 := (hs.cell (p := ⟨b, off + (i3 - 1), none⟩) hbl).trans (hcs (i3 - 1) (by omega))
     have d0 : decide ((0 : Int) < (i3 : Int)) = true := decide_eq_true (by omega)
     have d0b : decide (0 < i3) = true := decide_eq_true (by omega)
     have gv : IntKind.i64.wrap ((i3 : Int) - 1) = (i3 : Int) - 1 := IntWalk.i64_in _ (by omega)
     have gt : ((i3 : Int) - 1).toNat = i3 - 1 := by omega
     have i3a : (0 : Int) <= (i3 : Int) - 1 := by omega
     have i3b : (i3 : Int) - 1 < (n3 : Int) := by omega
     by_cases hlt : bs.getD (i3 - 1) 0 < bs.getD i3 0
     . have HD : Hid ((List.range (i3 + 1)).all (badAt n0 bs) = true) := by unfold Hid; rw [hrs, HT.out, hbd, hI, decide_eq_true hlt]; simp
       generalize bs.getD i3 0 = y at p0 hI hlt
       generalize bs.getD (i3 - 1) 0 = z at p1 hlt
       have d1 : ¬ y <= z := by omega
       clear hcs ht hrs hrn hbd hz3 R3
       go_wp2_with fail
       refine (hasSec_any _ _ _ _ _ _ _ _).mono ?_
       rintro e w5 ⟨rfl, hb5'⟩
       have r0 := (hb5'.cell (p := ⟨w.heap.size, 0, none⟩) hzr).trans q0
       have r1 := (hb5'.cell (p := ⟨w.heap.size, 1, none⟩) hzr).trans q1
       have r2 := (hb5'.cell (p := ⟨w.heap.size, 2, none⟩) hzr).trans q2
       have r3 := (hb5'.cell (p := ⟨w.heap.size, 3, none⟩) hzr).trans q3
       have p2 := (hb5'.cell (p := ⟨b, off + (i3 - 1), none⟩) hbr).trans p1
       have hs5 := hs.trans (hb5'.mono hs.size)
       clear q0 q1 q2 q3 hb5'
       go_wp2
       go_roundw
       case rel => exact ⟨i3 + 1, by omega, by go_num, HD.out, hs5⟩
       case measure => simp [intOf]; omega
     have HN := hidden (hrn (by rw [hbd, hI, decide_eq_false hz3, decide_eq_false hlt]; rfl))
     generalize bs.getD i3 0 = y at p0 hI hlt
     generalize bs.getD (i3 - 1) 0 = z at p1 hlt
     have d1 : y <= z := by omega
     clear hcs ht hrs hrn hbd hz3 R3
     go_wp2_with fail
     refine (hasSec_any _ _ _ _ _ _ _ _).mono ?_
     rintro e w5 ⟨rfl, hb5'⟩
     have r0 := (hb5'.cell (p := ⟨w.heap.size, 0, none⟩) hzr).trans q0
     have r1 := (hb5'.cell (p := ⟨w.heap.size, 1, none⟩) hzr).trans q1
     have r2 := (hb5'.cell (p := ⟨w.heap.size, 2, none⟩) hzr).trans q2
     have r3 := (hb5'.cell (p := ⟨w.heap.size, 3, none⟩) hzr).trans q3
     have p2 := (hb5'.cell (p := ⟨b, off + (i3 - 1), none⟩) hbr).trans p1
     have hs5 := hs.trans (hb5'.mono hs.size)
     clear q0 q1 q2 q3 hb5'
     go_wp2
     go_ret
     exact ⟨ret_bool HN.out.symm, Below.andThen hA hs5⟩
   have hI : inB (bs.getD i3 0) 0 ((n0 : Int) - 1) = false := by simpa using hI
   have HN := hidden (hrn (by rw [hbd, hI]; rfl))
   generalize bs.getD i3 0 = y at p0 hI
   clear hcs ht hrs hrn hbd R3
   go_wp2_with fail
   refine (hasSec_any _ _ _ _ _ _ _ _).mono ?_
   rintro e w5 ⟨rfl, hb5'⟩
   have r0 := (hb5'.cell (p := ⟨w.heap.size, 0, none⟩) hzr).trans q0
   have r1 := (hb5'.cell (p := ⟨w.heap.size, 1, none⟩) hzr).trans q1
   have r2 := (hb5'.cell (p := ⟨w.heap.size, 2, none⟩) hzr).trans q2
   have r3 := (hb5'.cell (p := ⟨w.heap.size, 3, none⟩) hzr).trans q3
   have hs5 := hs.trans (hb5'.mono hs.size)
   clear q0 q1 q2 q3 hb5'
   go_wp2
   go_ret
   exact ⟨ret_bool HN.out.symm, Below.andThen hA hs5⟩
 have e3 : i3 = n3 := by omega
 have HB : Hid (badB n0 bs = true) := by unfold Hid badB; rw [hl3, ← e3]; exact ht
 clear ht hi3
 go_wp2
 go_ret
 exact ⟨ret_bool HB.out.symm, Below.andThen hA hs⟩

theorem implMemOk_any (w : World) (E : TypeId) (a0 a1 a3 : Option Addr) (n0 c0 n1 c1 n3 c3 : Nat) (ss : List (List Int)) (cs : List (Int × List Int)) (f : Bool) (bs : List Int) (h0 : tIntSS.Rd w [.slice a0 n0 c0] ss) (h1 : (tWrS E).Rd w [.slice a1 n1 c1] cs) (h3 : tIntS.Rd w [.slice a3 n3 c3] bs) (hw : wtMem (ss, cs, f, bs) <= 2097152) :
 Calls Tryz.prog 110 #[.agg #[.slice a0 n0 c0, .slice a1 n1 c1, .bool f, .slice a3 n3 c3]] w fun e w' => e = .returned (.bool (memB ss cs bs)) /\ Below w.heap.size w w' := by
 obtain ⟨hl0, _, hm0⟩ := row_length h0
 obtain ⟨hl1, _, hm1⟩ := row_length h1
 obtain ⟨hl3, _, hm3⟩ := row_length h3
 have hw0 : wtIntSS ss <= 2097152 := by unfold wtMem at hw; simp only at hw; omega
 have hw1 : wtWrS cs <= 2097152 := by unfold wtMem at hw; simp only at hw; omega
 have hA : Below w.heap.size w (w.alloc (.cells #[.slice a0 n0 c0, .slice a1 n1 c1, .bool f, .slice a3 n3 c3] 51)) := (Below.refl _ _).alloc (Nat.le_refl _) _
 have hcell : ∀ j v, (#[Value.slice a0 n0 c0, .slice a1 n1 c1, .bool f, .slice a3 n3 c3])[j]? = some v -> (w.alloc (.cells #[.slice a0 n0 c0, .slice a1 n1 c1, .bool f, .slice a3 n3 c3] 51)).cell? ⟨w.heap.size, j, none⟩ = some v := by
  intro j v hv
  rw [cell_of_row _ w.heap.size j _ _ (0, 0) (heap_alloc_new w _)]
  exact hv
 have k0 := hcell 0 _ rfl
 have k1 := hcell 1 _ rfl
 have k2 := hcell 2 _ rfl
 have k3 := hcell 3 _ rfl
 have g0 := h0.below hA
 have g1 := h1.below hA
 have g3 := h3.below hA
 have hz : w.heap.size < (w.alloc (.cells #[.slice a0 n0 c0, .slice a1 n1 c1, .bool f, .slice a3 n3 c3] 51)).heap.size := by simp
 by_cases c1' : (1 : Int) <= (n0 : Int)
 . by_cases c2' : (n0 : Int) <= 20
   . by_cases c3' : (n1 : Int) <= 60
     . have hI0 : inB (ss.length : Int) 1 20 = true := by unfold inB; rw [hl0]; simp; omega
       have hI1 : decide (cs.length <= 60) = true := decide_eq_true (by omega)
       have HI0 := hidden hI0
       have HI1 := hidden hI1
       clear hI0 hI1
       go_enter Tryz.func110, Tryz.ntmps110
       go_wp2
       generalize hW : w.alloc (.cells #[.slice a0 n0 c0, .slice a1 n1 c1, .bool f, .slice a3 n3 c3] 51) = W at hA k0 k1 k2 k3 g0 g1 g3 hz ⊢
       clear hW hcell h0 h1 h3
       go_loopw [26] (fun i wr => ∃ j : Nat, j <= n0 /\ i = .int .i64 j /\ (ss.take j).all secB = true /\ Same W wr) (fun i _ => n0 - (intOf i).toNat)
       case atStart => exact ⟨0, Nat.zero_le _, rfl, rfl, Same.refl _⟩
       obtain ⟨j, hj, rfl, ht, hs⟩ := hrel
       by_cases hjn : j < n0
       . rcases rows_at rfl g0 with h0' | ⟨b, off, rfl, hbl, hcs⟩
         . omega
         have hdj : ss[j]? = some (ss[j]'(by omega)) := List.getElem?_eq_getElem (by omega)
         generalize ss[j]'(by omega) = x at hdj
         have hal := all_step (p := secB) hdj
         have hil := inner_le hdj
         obtain ⟨v, hv, hrv⟩ := hcs j x hdj
         obtain ⟨av, cv, rfl⟩ := row_shape hrv
         have q1 := (hs.cell ⟨b, off + j, none⟩).trans hv
         obtain ⟨r1, _, _, _⟩ := ints_rd (hrv.same hs)
         have HT := hidden ht
         clear hcs hdj hv hrv ht
         by_cases hx : secB x = true
         . have HD := hidden (hal.1 hx HT.out)
           clear hal
           go_wp2_with fail
           refine (implSecOk_any _ _ _ _ x rfl r1 (by omega)).mono ?_
           rintro e w1 ⟨rfl, hs1⟩
           go_wp2
           go_roundw
           case rel => exact ⟨j + 1, by omega, by go_num, HD.out, hs.trans hs1⟩
           case measure => simp [intOf]; omega
         have hx : secB x = false := by simpa using hx
         have HN := hidden (hal.2 hx)
         clear hal
         go_wp2_with fail
         refine (implSecOk_any _ _ _ _ x rfl r1 (by omega)).mono ?_
         rintro e w1 ⟨rfl, hs1⟩
         go_wp2
         go_ret
         exact ⟨ret_bool (by unfold memB; rw [HN.out]; rfl), Below.andSame (Below.andSame hA hs) hs1⟩
       have e : j = n0 := by omega
       subst e
       rw [List.take_of_length_le (by omega)] at ht
       have HS0 := hidden ht
       have hss : ss.length = j := hl0
       have q1 := (hs.cell _).trans k1
       clear ht hj hjn
       go_wp2
       clear q1
       go_loopw [37] (fun i wr => ∃ i2 : Nat, i2 <= n1 /\ i = .int .i64 i2 /\ (cs.take i2).all (wrB j) = true /\ Below W.heap.size W wr) (fun i _ => n1 - (intOf i).toNat)
       case atStart => exact ⟨0, Nat.zero_le _, rfl, rfl, hs.below _⟩
       clear hs
       obtain ⟨i2, hi2, rfl, ht, hs⟩ := hrel
       have hzr : w.heap.size < wr.heap.size := Nat.lt_of_lt_of_le hz hs.size
       have q0 := (hs.cell (p := ⟨w.heap.size, 0, none⟩) hz).trans k0
       have q1 := (hs.cell (p := ⟨w.heap.size, 1, none⟩) hz).trans k1
       have q2 := (hs.cell (p := ⟨w.heap.size, 2, none⟩) hz).trans k2
       have q3 := (hs.cell (p := ⟨w.heap.size, 3, none⟩) hz).trans k3
       by_cases hin : i2 < n1
       . rcases pairs_at rfl g1 with h0' | ⟨b, off, rfl, hbl, hcs⟩
         . omega
         have hdj : cs[i2]? = some (cs[i2]'(by omega)) := List.getElem?_eq_getElem (by omega)
         generalize cs[i2]'(by omega) = x at hdj
         have hal := all_step (p := wrB j) hdj
         have hil := inner_le' hdj
         obtain ⟨v0, v1, hv0, hv1, hrv⟩ := hcs i2 x hdj
         obtain ⟨rfl, hrv'⟩ := wr_rd hrv
         obtain ⟨av, cv, rfl⟩ := row_shape hrv'
         have p0 := (hs.cell (p := ⟨b, off + i2 * 2, none⟩) hbl).trans hv0
         have p1 := (hs.cell (p := ⟨b, off + i2 * 2 + 1, none⟩) hbl).trans hv1
         have r0 := hrv'.below hs
         obtain ⟨x0, x1⟩ := x
         simp only at p0 p1 r0 hil
         have HT := hidden ht
         clear hcs hdj hv0 hv1 hrv hrv' ht
         have hB : Below wr.heap.size wr (wr.alloc (.cells #[.int .i64 x0, .slice av x1.length cv] 109)) := (Below.refl _ _).alloc (Nat.le_refl _) _
         have s0 : (wr.alloc (.cells #[.int .i64 x0, .slice av x1.length cv] 109)).cell? ⟨wr.heap.size, 1, none⟩ = some (.slice av x1.length cv) := by
          rw [cell_of_row _ wr.heap.size 1 _ _ (0, 0) (heap_alloc_new wr _)]
          rfl
         have zb : wr.heap.size < (wr.alloc (.cells #[.int .i64 x0, .slice av x1.length cv] 109)).heap.size := by simp
         have HB := hidden hB
         have S0 := hidden s0
         have ZB := hidden zb
         clear hB s0 zb
         by_cases hI : inB x0 0 ((j : Int) - 1) = true
         . by_cases hx : secB x1 = true
           . have HD := hidden (hal.1 (by unfold wrB; simp only; rw [hI, hx]; rfl) HT.out)
             clear hal
             go_wp2_with fail
             refine (hasSec_any _ _ _ _ _ _ _ _).mono ?_
             rintro e w5 ⟨rfl, hb5⟩
             have HB6 := hidden (Below.andThen HB.out hb5)
             have s1 := (hb5.cell (p := ⟨wr.heap.size, 1, none⟩) ZB.out).trans S0.out
             clear hb5
             go_wp2_with fail
             refine (implSecOk_any _ _ _ _ x1 rfl (ints_rd (r0.below HB6.out)).1 (by omega)).mono ?_
             rintro e w6 ⟨rfl, hs6⟩
             go_wp2
             go_roundw
             case rel => exact ⟨i2 + 1, by omega, by go_num, HD.out, (hs.trans (HB6.out.mono hs.size)).trans (hs6.below _)⟩
             case measure => simp [intOf]; omega
           have hx : secB x1 = false := by simpa using hx
           have HN := hidden (hal.2 (by unfold wrB; simp only; rw [hI, hx]; rfl))
           clear hal
           go_wp2_with fail
           refine (hasSec_any _ _ _ _ _ _ _ _).mono ?_
           rintro e w5 ⟨rfl, hb5⟩
           have HB6 := hidden (Below.andThen HB.out hb5)
           have s1 := (hb5.cell (p := ⟨wr.heap.size, 1, none⟩) ZB.out).trans S0.out
           clear hb5
           go_wp2_with fail
           refine (implSecOk_any _ _ _ _ x1 rfl (ints_rd (r0.below HB6.out)).1 (by omega)).mono ?_
           rintro e w6 ⟨rfl, hs6⟩
           go_wp2
           go_ret
           exact ⟨ret_bool (by unfold memB; rw [hss, HN.out, HS0.out]; rfl), Below.andSame (Below.andThen hA (hs.trans (HB6.out.mono hs.size))) hs6⟩
         have hI : inB x0 0 ((j : Int) - 1) = false := by simpa using hI
         have HN := hidden (hal.2 (by unfold wrB; simp only; rw [hI]; rfl))
         clear hal
         go_wp2_with fail
         refine (hasSec_any _ _ _ _ _ _ _ _).mono ?_
         rintro e w5 ⟨rfl, hb5⟩
         have HB6 := hidden (Below.andThen HB.out hb5)
         clear hb5
         go_wp2
         go_ret
         exact ⟨ret_bool (by unfold memB; rw [hss, HN.out, HS0.out]; rfl), Below.andThen hA (hs.trans (HB6.out.mono hs.size))⟩
       have e2 : i2 = n1 := by omega
       subst e2
       rw [List.take_of_length_le (by omega)] at ht
       have HS1 := hidden ht
       clear ht hi2 hin
       have g3' := g3.below hs
       go_wp2_with fail
       refine (badOk_any _ _ _ _ _ _ _ _ _ bs g3').mono ?_
       rintro e w5 ⟨rfl, hb5⟩
       go_wp2
       go_ret
       exact ⟨ret_bool (by unfold memB; rw [HI0.out, HI1.out, hss, HS1.out, HS0.out]; simp), Below.andThen (Below.andThen hA hs) hb5⟩
     have hI1 : decide (cs.length <= 60) = false := decide_eq_false (by omega)
     have HI1 := hidden hI1
     clear hI1
     go_enter Tryz.func110, Tryz.ntmps110
     go_wp2
     go_ret
     exact ⟨ret_bool (by unfold memB; rw [HI1.out]; simp), hA⟩
   have hI0 : inB (ss.length : Int) 1 20 = false := by unfold inB; rw [hl0]; simp; omega
   have HI0 := hidden hI0
   clear hI0
   go_enter Tryz.func110, Tryz.ntmps110
   go_wp2
   go_ret
   exact ⟨ret_bool (by unfold memB; rw [HI0.out]; simp), hA⟩
 have hI0 : inB (ss.length : Int) 1 20 = false := by unfold inB; rw [hl0]; simp; omega
 have HI0 := hidden hI0
 clear hI0
 go_enter Tryz.func110, Tryz.ntmps110
 go_wp2
 go_ret
 exact ⟨ret_bool (by unfold memB; rw [HI0.out]; simp), hA⟩

def flSS (ss : List (List Int)) (cs : List (Int × List Int)) (f : Bool) (bs : List Int) : List (List Int) := if (memB ss cs bs && !f) = true then flushD ss cs else ss
def flCS (ss : List (List Int)) (cs : List (Int × List Int)) (f : Bool) (bs : List Int) : List (Int × List Int) := if (memB ss cs bs && !f) = true then [] else cs
theorem mem_slices {w : World} {E : TypeId} {lo hi : Nat} {v0 v1 v3 : Value} {f : Bool} {d : (tMem E).D} (h : (tMem E).Own w lo hi [v0, v1, .bool f, v3] d) : ∃ a0 l0 c0 a1 l1 c1 a3 l3 c3, v0 = .slice a0 l0 c0 /\ v1 = .slice a1 l1 c1 /\ v3 = .slice a3 l3 c3 := by
 obtain ⟨a0, c0, a1, c1, a3, c3, h0, h1, _, h3, _⟩ := mem_rd h.rd
 exact ⟨a0, _, c0, a1, _, c1, a3, _, c3, h0, h1, h3⟩

theorem implFlushMem_any (w : World) (E : TypeId) (a0 a1 a3 : Option Addr) (n0 c0 n1 c1 n3 c3 : Nat) (ss : List (List Int)) (cs : List (Int × List Int)) (f : Bool) (bs : List Int) (h0 : tIntSS.Rd w [.slice a0 n0 c0] ss) (h1 : (tWrS E).Rd w [.slice a1 n1 c1] cs) (h3 : tIntS.Rd w [.slice a3 n3 c3] bs) (hw : wtMem (ss, cs, f, bs) <= 2097152) :
 Calls Tryz.prog 174 #[.agg #[.slice a0 n0 c0, .slice a1 n1 c1, .bool f, .slice a3 n3 c3]] w fun e w' => ∃ v0 v1 v3, e = .returned (.agg #[v0, v1, .bool f, v3]) /\ (tMem 109).Own w' w.heap.size w'.heap.size [v0, v1, .bool f, v3] (flSS ss cs f bs, flCS ss cs f bs, f, bs) /\ Below w.heap.size w w' := by
 obtain ⟨hl0, _, hm0⟩ := row_length h0
 obtain ⟨hl1, _, hm1⟩ := row_length h1
 obtain ⟨hl3, _, hm3⟩ := row_length h3
 have hwc : wtWrS cs <= 2097152 := by unfold wtMem at hw; simp only at hw; omega
 by_cases hM : memB ss cs bs = true
 . have hn20 : n0 <= 20 := by have := mem_secs hM; omega
   have hks := mem_writes hM
   by_cases hf : f = true
   . subst hf
     have e1 : flSS ss cs true bs = ss := by unfold flSS; simp
     have e2 : flCS ss cs true bs = cs := by unfold flCS; simp
     rw [e1, e2]
     clear e1 e2
     have hA : Below w.heap.size w ((w.alloc (.cells #[.slice a0 n0 c0, .slice a1 n1 c1, .bool true, .slice a3 n3 c3] 51)).alloc (.cells #[.slice none 0 0, .slice none 0 0, .bool false, .slice none 0 0] 51)) := ((Below.refl _ _).alloc (Nat.le_refl _) _).alloc (by simp) _
     have xm : Box ((w.alloc (.cells #[.slice a0 n0 c0, .slice a1 n1 c1, .bool true, .slice a3 n3 c3] 51)).alloc (.cells #[.slice none 0 0, .slice none 0 0, .bool false, .slice none 0 0] 51)) w.heap.size 51 #[.slice a0 n0 c0, .slice a1 n1 c1, .bool true, .slice a3 n3 c3] := (Box.new w _ _).alloc _
     have xr : Box ((w.alloc (.cells #[.slice a0 n0 c0, .slice a1 n1 c1, .bool true, .slice a3 n3 c3] 51)).alloc (.cells #[.slice none 0 0, .slice none 0 0, .bool false, .slice none 0 0] 51)) (w.heap.size + 1) 51 #[.slice none 0 0, .slice none 0 0, .bool false, .slice none 0 0] := by
      have := Box.new (w.alloc (.cells #[.slice a0 n0 c0, .slice a1 n1 c1, .bool true, .slice a3 n3 c3] 51)) 51 #[.slice none 0 0, .slice none 0 0, .bool false, .slice none 0 0]
      rw [show (w.alloc (.cells #[.slice a0 n0 c0, .slice a1 n1 c1, .bool true, .slice a3 n3 c3] 51)).heap.size = w.heap.size + 1 by simp] at this
      exact this
     go_enter Tryz.func174, Tryz.ntmps174
     go_wp2_with fail
     generalize hW : (w.alloc (.cells #[.slice a0 n0 c0, .slice a1 n1 c1, .bool true, .slice a3 n3 c3] 51)).alloc (.cells #[.slice none 0 0, .slice none 0 0, .bool false, .slice none 0 0] 51) = W at hA xm xr ⊢
     clear hW
     have zr := xr.lt
     obtain ⟨q0, q1, q2, q3⟩ := xm.cells4
     have XM := hidden xm
     have XR := hidden xr
     clear xm xr
     refine (implMemOk_any _ E _ _ _ _ _ _ _ _ _ ss cs true bs (h0.below hA) (h1.below hA) (h3.below hA) hw).mono ?_
     rintro e w1 ⟨rfl, b1⟩
     have z1 := b1.size
     have XM1 := hidden (XM.out.below b1 (by omega))
     have XR1 := hidden (XR.out.below b1 (by omega))
     have B1 := hidden (hA.trans (b1.mono (by omega)))
     clear q0 q1 q2 q3 XM XR b1 hA
     obtain ⟨q0, q1, q2, q3⟩ := XM1.out.cells4
     go_wp2_with fail
     refine (copyMem_any _ E _ _ _ _ _ _ _ _ _ ss cs true bs (h0.below B1.out) (h1.below B1.out) (h3.below B1.out) hw).mono ?_
     intro e w2 hc
     obtain ⟨b0, b1, b3, e0, e1, e3, m1, m2, rfl, o3, o0, o1, r1, r2, r3, bb⟩ := copy_shapes hl0 hl1 hl3 hc
     clear hc
     have z2 := bb.size
     clear q0 q1 q2 q3
     obtain ⟨p0, p1, p2, p3⟩ := (XR1.out.below bb (by omega)).cells4
     have fz := (XR1.out.below bb (by omega)).frozen
     have KB := B1.out.trans (bb.mono (by omega))
     have hbt : But (w.heap.size + 1) (w.heap.size + 2) w2 ((((w2.setCell ⟨w.heap.size + 1, 0, none⟩ (.slice b0 n0 e0)).setCell ⟨w.heap.size + 1, 1, none⟩ (.slice b1 n1 e1)).setCell ⟨w.heap.size + 1, 2, none⟩ (.bool true)).setCell ⟨w.heap.size + 1, 3, none⟩ (.slice b3 n3 e3)) :=
      (((But.setCell (by omega) (by omega) _).trans (But.setCell (by omega) (by omega) _)).trans (But.setCell (by omega) (by omega) _)).trans (But.setCell (by omega) (by omega) _)
     have z9 := hbt.size
     have FIN : Hid ((tMem 109).Own ((((w2.setCell ⟨w.heap.size + 1, 0, none⟩ (.slice b0 n0 e0)).setCell ⟨w.heap.size + 1, 1, none⟩ (.slice b1 n1 e1)).setCell ⟨w.heap.size + 1, 2, none⟩ (.bool true)).setCell ⟨w.heap.size + 1, 3, none⟩ (.slice b3 n3 e3)) w.heap.size ((((w2.setCell ⟨w.heap.size + 1, 0, none⟩ (.slice b0 n0 e0)).setCell ⟨w.heap.size + 1, 1, none⟩ (.slice b1 n1 e1)).setCell ⟨w.heap.size + 1, 2, none⟩ (.bool true)).setCell ⟨w.heap.size + 1, 3, none⟩ (.slice b3 n3 e3)).heap.size [.slice b0 n0 e0, .slice b1 n1 e1, .bool true, .slice b3 n3 e3] (ss, cs, true, bs)) := mem_own3 (o0.but hbt (by omega)) (o1.but hbt (by omega)) (o3.but hbt (by omega)) (by omega) (by omega) (by omega) (by omega) (by omega) (by omega)
     have FB := hidden (Below.andBut KB hbt (by omega))
     clear hbt KB bb o0 o1 o3
     go_wp2
     refine bodyPost_ret (v := .agg #[.slice b0 n0 e0, .slice b1 n1 e1, .bool true, .slice b3 n3 e3]) (by simp [results, Tryz.results174, go_sem, p0, p1, p2, p3]) rfl ?_
     exact ⟨_, _, _, rfl, FIN.out, FB.out⟩
   have hf : f = false := by simpa using hf
   subst hf
   have e1 : flSS ss cs false bs = flushD ss cs := by unfold flSS; simp [hM]
   have e2 : flCS ss cs false bs = [] := by unfold flCS; simp [hM]
   rw [e1, e2]
   clear e1 e2
   have hA : Below w.heap.size w ((w.alloc (.cells #[.slice a0 n0 c0, .slice a1 n1 c1, .bool false, .slice a3 n3 c3] 51)).alloc (.cells #[.slice none 0 0, .slice none 0 0, .bool false, .slice none 0 0] 51)) := ((Below.refl _ _).alloc (Nat.le_refl _) _).alloc (by simp) _
   have xm : Box ((w.alloc (.cells #[.slice a0 n0 c0, .slice a1 n1 c1, .bool false, .slice a3 n3 c3] 51)).alloc (.cells #[.slice none 0 0, .slice none 0 0, .bool false, .slice none 0 0] 51)) w.heap.size 51 #[.slice a0 n0 c0, .slice a1 n1 c1, .bool false, .slice a3 n3 c3] := (Box.new w _ _).alloc _
   have xr : Box ((w.alloc (.cells #[.slice a0 n0 c0, .slice a1 n1 c1, .bool false, .slice a3 n3 c3] 51)).alloc (.cells #[.slice none 0 0, .slice none 0 0, .bool false, .slice none 0 0] 51)) (w.heap.size + 1) 51 #[.slice none 0 0, .slice none 0 0, .bool false, .slice none 0 0] := by
    have := Box.new (w.alloc (.cells #[.slice a0 n0 c0, .slice a1 n1 c1, .bool false, .slice a3 n3 c3] 51)) 51 #[.slice none 0 0, .slice none 0 0, .bool false, .slice none 0 0]
    rw [show (w.alloc (.cells #[.slice a0 n0 c0, .slice a1 n1 c1, .bool false, .slice a3 n3 c3] 51)).heap.size = w.heap.size + 1 by simp] at this
    exact this
   go_enter Tryz.func174, Tryz.ntmps174
   go_wp2_with fail
   generalize hW : (w.alloc (.cells #[.slice a0 n0 c0, .slice a1 n1 c1, .bool false, .slice a3 n3 c3] 51)).alloc (.cells #[.slice none 0 0, .slice none 0 0, .bool false, .slice none 0 0] 51) = W at hA xm xr ⊢
   clear hW
   have zr := xr.lt
   obtain ⟨q0, q1, q2, q3⟩ := xm.cells4
   have XM := hidden xm
   have XR := hidden xr
   clear xm xr
   refine (implMemOk_any _ E _ _ _ _ _ _ _ _ _ ss cs false bs (h0.below hA) (h1.below hA) (h3.below hA) hw).mono ?_
   rintro e w1 ⟨rfl, b1⟩
   have z1 := b1.size
   have XM1 := hidden (XM.out.below b1 (by omega))
   have XR1 := hidden (XR.out.below b1 (by omega))
   have B1 := hidden (hA.trans (b1.mono (by omega)))
   clear q0 q1 q2 q3 XM XR b1 hA
   obtain ⟨q0, q1, q2, q3⟩ := XM1.out.cells4
   go_wp2_with fail
   refine (settle_any _ E E _ _ _ _ _ _ _ _ _ _ _ _ ss cs false bs (h0.below B1.out) (h1.below B1.out) (h3.below B1.out) hw cs (h1.below B1.out) hwc hks hn20).mono ?_
   rintro e w2 ⟨v0, v1, v3, rfl, o2, bb⟩
   obtain ⟨d0, l0, e0, d1, l1, e1, d3, l3, e3, hv0, hv1, hv3⟩ := mem_slices o2
   subst hv0 hv1 hv3
   have z2 := bb.size
   clear q0 q1 q2 q3
   obtain ⟨p0, p1, p2, p3⟩ := (XR1.out.below bb (by omega)).cells4
   have fz := (XR1.out.below bb (by omega)).frozen
   have KB := B1.out.trans (bb.mono (by omega))
   have hbt : But (w.heap.size + 1) (w.heap.size + 2) w2 ((((w2.setCell ⟨w.heap.size + 1, 0, none⟩ (.slice d0 l0 e0)).setCell ⟨w.heap.size + 1, 1, none⟩ (.slice d1 l1 e1)).setCell ⟨w.heap.size + 1, 2, none⟩ (.bool false)).setCell ⟨w.heap.size + 1, 3, none⟩ (.slice d3 l3 e3)) :=
    (((But.setCell (by omega) (by omega) _).trans (But.setCell (by omega) (by omega) _)).trans (But.setCell (by omega) (by omega) _)).trans (But.setCell (by omega) (by omega) _)
   have z9 := hbt.size
   have FIN : Hid ((tMem 109).Own ((((w2.setCell ⟨w.heap.size + 1, 0, none⟩ (.slice d0 l0 e0)).setCell ⟨w.heap.size + 1, 1, none⟩ (.slice d1 l1 e1)).setCell ⟨w.heap.size + 1, 2, none⟩ (.bool false)).setCell ⟨w.heap.size + 1, 3, none⟩ (.slice d3 l3 e3)) w.heap.size ((((w2.setCell ⟨w.heap.size + 1, 0, none⟩ (.slice d0 l0 e0)).setCell ⟨w.heap.size + 1, 1, none⟩ (.slice d1 l1 e1)).setCell ⟨w.heap.size + 1, 2, none⟩ (.bool false)).setCell ⟨w.heap.size + 1, 3, none⟩ (.slice d3 l3 e3)).heap.size [.slice d0 l0 e0, .slice d1 l1 e1, .bool false, .slice d3 l3 e3] (flushD ss cs, [], false, bs)) := (o2.but hbt (.inr (by omega))).widen (by omega) z9
   have FB := hidden (Below.andBut KB hbt (by omega))
   clear hbt KB bb o2
   go_wp2
   refine bodyPost_ret (v := .agg #[.slice d0 l0 e0, .slice d1 l1 e1, .bool false, .slice d3 l3 e3]) (by simp [results, Tryz.results174, go_sem, p0, p1, p2, p3]) rfl ?_
   exact ⟨_, _, _, rfl, FIN.out, FB.out⟩
 have hM : memB ss cs bs = false := by simpa using hM
 have e1 : flSS ss cs f bs = ss := by unfold flSS; simp [hM]
 have e2 : flCS ss cs f bs = cs := by unfold flCS; simp [hM]
 rw [e1, e2]
 clear e1 e2
 have hA : Below w.heap.size w ((w.alloc (.cells #[.slice a0 n0 c0, .slice a1 n1 c1, .bool f, .slice a3 n3 c3] 51)).alloc (.cells #[.slice none 0 0, .slice none 0 0, .bool false, .slice none 0 0] 51)) := ((Below.refl _ _).alloc (Nat.le_refl _) _).alloc (by simp) _
 have xm : Box ((w.alloc (.cells #[.slice a0 n0 c0, .slice a1 n1 c1, .bool f, .slice a3 n3 c3] 51)).alloc (.cells #[.slice none 0 0, .slice none 0 0, .bool false, .slice none 0 0] 51)) w.heap.size 51 #[.slice a0 n0 c0, .slice a1 n1 c1, .bool f, .slice a3 n3 c3] := (Box.new w _ _).alloc _
 have xr : Box ((w.alloc (.cells #[.slice a0 n0 c0, .slice a1 n1 c1, .bool f, .slice a3 n3 c3] 51)).alloc (.cells #[.slice none 0 0, .slice none 0 0, .bool false, .slice none 0 0] 51)) (w.heap.size + 1) 51 #[.slice none 0 0, .slice none 0 0, .bool false, .slice none 0 0] := by
  have := Box.new (w.alloc (.cells #[.slice a0 n0 c0, .slice a1 n1 c1, .bool f, .slice a3 n3 c3] 51)) 51 #[.slice none 0 0, .slice none 0 0, .bool false, .slice none 0 0]
  rw [show (w.alloc (.cells #[.slice a0 n0 c0, .slice a1 n1 c1, .bool f, .slice a3 n3 c3] 51)).heap.size = w.heap.size + 1 by simp] at this
  exact this
 go_enter Tryz.func174, Tryz.ntmps174
 go_wp2_with fail
 generalize hW : (w.alloc (.cells #[.slice a0 n0 c0, .slice a1 n1 c1, .bool f, .slice a3 n3 c3] 51)).alloc (.cells #[.slice none 0 0, .slice none 0 0, .bool false, .slice none 0 0] 51) = W at hA xm xr ⊢
 clear hW
 have zr := xr.lt
 obtain ⟨q0, q1, q2, q3⟩ := xm.cells4
 have XM := hidden xm
 have XR := hidden xr
 clear xm xr
 refine (implMemOk_any _ E _ _ _ _ _ _ _ _ _ ss cs f bs (h0.below hA) (h1.below hA) (h3.below hA) hw).mono ?_
 rintro e w1 ⟨rfl, b1⟩
 have z1 := b1.size
 have XM1 := hidden (XM.out.below b1 (by omega))
 have XR1 := hidden (XR.out.below b1 (by omega))
 have B1 := hidden (hA.trans (b1.mono (by omega)))
 clear q0 q1 q2 q3 XM XR b1 hA
 obtain ⟨q0, q1, q2, q3⟩ := XM1.out.cells4
 go_wp2_with fail
 refine (copyMem_any _ E _ _ _ _ _ _ _ _ _ ss cs f bs (h0.below B1.out) (h1.below B1.out) (h3.below B1.out) hw).mono ?_
 intro e w2 hc
 obtain ⟨b0, b1, b3, e0, e1, e3, m1, m2, rfl, o3, o0, o1, r1, r2, r3, bb⟩ := copy_shapes hl0 hl1 hl3 hc
 clear hc
 have z2 := bb.size
 clear q0 q1 q2 q3
 obtain ⟨p0, p1, p2, p3⟩ := (XR1.out.below bb (by omega)).cells4
 have fz := (XR1.out.below bb (by omega)).frozen
 have KB := B1.out.trans (bb.mono (by omega))
 have hbt : But (w.heap.size + 1) (w.heap.size + 2) w2 ((((w2.setCell ⟨w.heap.size + 1, 0, none⟩ (.slice b0 n0 e0)).setCell ⟨w.heap.size + 1, 1, none⟩ (.slice b1 n1 e1)).setCell ⟨w.heap.size + 1, 2, none⟩ (.bool f)).setCell ⟨w.heap.size + 1, 3, none⟩ (.slice b3 n3 e3)) :=
  (((But.setCell (by omega) (by omega) _).trans (But.setCell (by omega) (by omega) _)).trans (But.setCell (by omega) (by omega) _)).trans (But.setCell (by omega) (by omega) _)
 have z9 := hbt.size
 have FIN : Hid ((tMem 109).Own ((((w2.setCell ⟨w.heap.size + 1, 0, none⟩ (.slice b0 n0 e0)).setCell ⟨w.heap.size + 1, 1, none⟩ (.slice b1 n1 e1)).setCell ⟨w.heap.size + 1, 2, none⟩ (.bool f)).setCell ⟨w.heap.size + 1, 3, none⟩ (.slice b3 n3 e3)) w.heap.size ((((w2.setCell ⟨w.heap.size + 1, 0, none⟩ (.slice b0 n0 e0)).setCell ⟨w.heap.size + 1, 1, none⟩ (.slice b1 n1 e1)).setCell ⟨w.heap.size + 1, 2, none⟩ (.bool f)).setCell ⟨w.heap.size + 1, 3, none⟩ (.slice b3 n3 e3)).heap.size [.slice b0 n0 e0, .slice b1 n1 e1, .bool f, .slice b3 n3 e3] (ss, cs, f, bs)) := mem_own3 (o0.but hbt (by omega)) (o1.but hbt (by omega)) (o3.but hbt (by omega)) (by omega) (by omega) (by omega) (by omega) (by omega) (by omega)
 have FB := hidden (Below.andBut KB hbt (by omega))
 clear hbt KB bb o0 o1 o3
 go_wp2
 refine bodyPost_ret (v := .agg #[.slice b0 n0 e0, .slice b1 n1 e1, .bool f, .slice b3 n3 e3]) (by simp [results, Tryz.results174, go_sem, p0, p1, p2, p3]) rfl ?_
 exact ⟨_, _, _, rfl, FIN.out, FB.out⟩

theorem ints_row {w : World} {v : Value} {zs : List Int} {f : List Nat} (h : tIntS.ow w [v] zs f) : (v = .slice none 0 0 /\ zs = [] /\ f = []) ∨ ∃ g cap, v = .slice (some ⟨g, 0, none⟩) zs.length cap /\ f = [g] /\ Go.Proofs.YtechckninoilhaaGreat.Own .i64 3 w g (g + 1) v zs := by
 rcases h with ⟨h1, h2, h3⟩ | ⟨b, cap, cur, fps, h1, h2, h3, h4, h5, h6, h7, h8⟩
 . exact .inl ⟨by simpa using h1, h2, h3⟩
 have hv : v = .slice (some ⟨b, 0, none⟩) zs.length cap := by simpa using h1
 have hfl : fps.flatten = [] := by
  rw [List.flatten_eq_nil_iff]
  intro f' hf'
  obtain ⟨i, hi⟩ := List.mem_iff_getElem?.1 hf'
  have hil : i < zs.length := by rw [← h7]; exact (List.getElem?_eq_some_iff.1 hi).1
  obtain ⟨f2, hf2, _, h10⟩ := h8 i _ (List.getElem?_eq_getElem hil)
  rw [hi] at hf2
  simp at hf2
  rw [hf2]
  exact h10
 have h5' : cur.size = cap * 1 := h5
 refine .inr ⟨b, cap, hv, by rw [h6, hfl], ⟨by simp, .inr ⟨b, cap, cur, hv, Nat.le_refl _, h4, h2, by unfold maxLen; exact h3, h5', ?_⟩⟩, fun g hg => by rw [hv] at hg; simp [Value.ownBlock] at hg; omega⟩
 apply List.ext_getElem?
 intro i
 rw [List.getElem?_take, List.getElem?_map]
 by_cases hi : i < zs.length
 . obtain ⟨f2, _, h9, _⟩ := h8 i _ (List.getElem?_eq_getElem hi)
   have h9' : (cur.toList.drop (i * 1)).take 1 = [.int .i64 zs[i]] := h9
   have : ((cur.toList.drop (i * 1)).take 1)[0]? = some (.int .i64 zs[i]) := by rw [h9']; rfl
   rw [List.getElem?_take, if_pos (by omega), List.getElem?_drop] at this
   rw [if_pos (by omega), List.getElem?_eq_getElem hi]
   simpa using this
 rw [if_neg (by omega), List.getElem?_eq_none (by omega)]
 rfl

def filt (zs : List Int) (n : Int) : List Int := zs.filter fun x => decide (x ≠ n)
theorem filt_none {zs : List Int} {n : Int} (h : ∀ x ∈ zs, x ≠ n) : filt zs n = zs := by
 unfold filt
 rw [List.filter_eq_self]
 intro x hx
 simp [h x hx]
theorem filt_snoc (zs : List Int) (x n : Int) : filt (zs ++ [x]) n = if x = n then filt zs n else filt zs n ++ [x] := by
 unfold filt
 rw [List.filter_append]
 by_cases h : x = n <;> simp [h]
theorem filt_length (zs : List Int) (n : Int) : (filt zs n).length <= zs.length := List.length_filter_le _ _

theorem mine_of_own {w : World} {g n cap : Nat} {zs : List Int} (h : Own .i64 3 w g (g + 1) (.slice (some ⟨g, 0, none⟩) n cap) zs) : tIntS.Own w g (g + 1) [.slice (some ⟨g, 0, none⟩) n cap] zs := by
 obtain ⟨fp, m1, m2⟩ := mine_ints h.1
 exact m1.own (fun b hb => by
  have := (m2 b hb).1
  simp [Value.ownBlock] at this
  omega)

theorem Own.zeros {g n cap : Nat} : ∀ (k i : Nat) (w : World) (L : List Int), Own .i64 3 w g (g + 1) (.slice (some ⟨g, 0, none⟩) n cap) L -> i + k <= n -> ∃ L', Own .i64 3 (w.setCells g i (List.replicate k (.int .i64 0))) g (g + 1) (.slice (some ⟨g, 0, none⟩) n cap) L' /\ L'.take i = L.take i /\ But g (g + 1) w (w.setCells g i (List.replicate k (.int .i64 0)))
 | 0, i, w, L, h, _ => ⟨L, h, rfl, But.refl _ _ _⟩
 | k + 1, i, w, L, h, hk => by
  obtain ⟨_, _, h1, h2⟩ := h.store i (by omega) 0
  obtain ⟨L', h3, h4, h5⟩ := Own.zeros k (i + 1) _ _ h1 (by omega)
  refine ⟨L', h3, ?_, h2.trans h5⟩
  have := congrArg (List.take i) h4
  rw [List.take_take, List.take_take, Nat.min_eq_left (by omega)] at this
  rw [this]
  apply List.ext_getElem?
  intro m
  rw [List.getElem?_take, List.getElem?_take]
  by_cases hm : m < i
  . rw [if_pos hm, if_pos hm, List.getElem?_set_ne (by omega)]
  rw [if_neg hm, if_neg hm]
theorem Own.cut {w : World} {g n cap i : Nat} {L : List Int} (h : Own .i64 3 w g (g + 1) (.slice (some ⟨g, 0, none⟩) n cap) L) (hi : i <= n) : Own .i64 3 w g (g + 1) (.slice (some ⟨g, 0, none⟩) i cap) (L.take i) := by
 have hl := h.length
 obtain ⟨h1, h2⟩ := h
 refine ⟨⟨by simp, ?_⟩, fun b hb => by simp [Value.ownBlock] at hb; omega⟩
 rcases h1.2 with ⟨hv, _⟩ | ⟨g', cap', cur, hv, hb, hg, hnc, hcm, hcs, ht⟩
 . simp at hv
 simp only [Value.slice.injEq, Option.some.injEq, Addr.mk.injEq, and_true] at hv
 obtain ⟨rfl, hv2, rfl⟩ := hv
 refine .inr ⟨g, cap, cur, by rw [List.length_take, Nat.min_eq_left (by omega)], hb, hg, by rw [List.length_take]; omega, hcm, hcs, ?_⟩
 rw [List.length_take, Nat.min_eq_left (by omega), List.map_take, ← ht, List.take_take, hl]
 congr 1
 omega

theorem del_any (w : World) (b n : Int) (B : Nat) (hc : w.cell? ⟨B, 0, none⟩ = some (.int .i64 n)) :
 Calls Tryz.prog 169 #[.int .i64 b, .pointer (some ⟨B, 0, none⟩)] w fun e w' => e = .returned (.bool (decide (b = n))) /\ Same w w' := by
 go_enter Tryz.func169, Tryz.ntmps169
 go_wp2
 go_ret
 exact ⟨ret_bool (by by_cases h : b = n <;> simp [h]), Same.refl _⟩

theorem indexFunc_any (w : World) (a : Option Addr) (len cap : Nat) (zs : List Int) (n : Int) (B : Nat) (hc : w.cell? ⟨B, 0, none⟩ = some (.int .i64 n)) (hz : zs.length = len) (hr : Reads .i64 w a zs) (hlen : len <= 2097152) :
 Calls Tryz.prog 175 #[.slice a len cap, .func (Fn.func 169) #[] #[.pointer (some ⟨B, 0, none⟩)]] w fun e w' => ((e = .returned (.int .i64 (-1)) /\ ∀ x ∈ zs, x ≠ n) ∨ ∃ j, j < len /\ e = .returned (.int .i64 j) /\ zs[j]? = some n /\ ∀ x ∈ zs.take j, x ≠ n) /\ Same w w' := by
 go_enter Tryz.func175, Tryz.ntmps175
 go_wp2
 go_loopw [8] (fun i wr => ∃ j : Nat, j <= len /\ i = .int .i64 j /\ (∀ x ∈ zs.take j, x ≠ n) /\ Same w wr) (fun i _ => len - (intOf i).toNat)
 case atStart => exact ⟨0, Nat.zero_le _, rfl, by simp, Same.refl _⟩
 obtain ⟨j, hj, rfl, ht, hs⟩ := hrel
 by_cases hlt : j < len
 . rcases hr.cases with h0 | ⟨b, off, rfl, hbl, hcz⟩
   . omega
   have hc1 := (hs.cell _).trans (hcz j (by omega))
   have hx : zs[j]? = some (zs.getD j 0) := by rw [List.getD_eq_getElem?_getD, List.getElem?_eq_getElem (by omega)]; rfl
   have htk : zs.take (j + 1) = zs.take j ++ [zs.getD j 0] := by rw [List.take_add_one, hx]; rfl
   generalize zs.getD j 0 = x at hc1 hx htk
   have hcc := (hs.cell ⟨B, 0, none⟩).trans hc
   have HT := hidden ht
   have HTK := hidden htk
   have HX := hidden hx
   clear hcz ht htk hx
   go_wp2_with fail
   refine (del_any _ _ n B hcc).mono ?_
   rintro e w1 ⟨rfl, hs1⟩
   by_cases hxn : x = n
   . subst hxn
     have hd : decide (x = x) = true := by simp
     go_wp2
     go_ret
     exact ⟨.inr ⟨j, hlt, rfl, HX.out, HT.out⟩, hs.trans hs1⟩
   have hd : decide (x = n) = false := by simp [hxn]
   go_wp2
   go_roundw
   case rel => exact ⟨j + 1, by omega, by go_num, by
    rw [HTK.out]
    intro y hy
    rcases List.mem_append.1 hy with hy | hy
    . exact HT.out y hy
    simp at hy
    rw [hy]
    exact hxn, hs.trans hs1⟩
   case measure => simp [intOf]; omega
 go_wp2
 go_ret
 have e : j = len := by omega
 subst e
 rw [List.take_of_length_le (by omega)] at ht
 exact ⟨.inl ⟨rfl, ht⟩, hs⟩

theorem deleteFunc_any (w : World) (lo hi : Nat) (a : Option Addr) (len cap : Nat) (zs : List Int) (n : Int) (B : Nat) (h : tIntS.Own w lo hi [.slice a len cap] zs) (hc : w.cell? ⟨B, 0, none⟩ = some (.int .i64 n)) (hB : B < lo ∨ hi <= B) (hlen : len <= 2097152) :
 Calls Tryz.prog 168 #[.slice a len cap, .func (Fn.func 169) #[] #[.pointer (some ⟨B, 0, none⟩)]] w fun e w' => ∃ a' c', e = .returned (.slice a' (filt zs n).length c') /\ tIntS.Own w' lo hi [.slice a' (filt zs n).length c'] (filt zs n) /\ But lo hi w w' := by
 obtain ⟨hr, hl, _, _⟩ := ints_rd h.rd
 go_enter Tryz.func168, Tryz.ntmps168
 go_wp2_with fail
 refine (indexFunc_any _ _ _ _ zs n B hc hl hr hlen).mono ?_
 rintro e w1 ⟨hcase, hs1⟩
 rcases hcase with ⟨rfl, hnone⟩ | ⟨i, hi1, rfl, hxi, hpre⟩
 . have HF := hidden (filt_none hnone)
   have H1 := hidden (h.same hs1)
   have HB := hidden (But.of_below (lo := lo) (hi := hi) (hs1.below _))
   clear hnone
   go_wp2
   go_ret
   exact ⟨a, cap, by rw [HF.out, hl]; rfl, by rw [HF.out, hl]; exact H1.out, HB.out⟩
 obtain ⟨g, hgl, hgh, rfl, ho⟩ : ∃ g, lo <= g /\ g < hi /\ a = some ⟨g, 0, none⟩ /\ Own .i64 3 w g (g + 1) (.slice (some ⟨g, 0, none⟩) len cap) zs := by
  obtain ⟨fp, hm, hfr⟩ := h.mine
  rcases ints_row hm.1 with ⟨hv, _, _⟩ | ⟨g, cap', hv, hf, ho⟩
  . simp at hv
    omega
  simp only [Value.slice.injEq] at hv
  obtain ⟨rfl, rfl, rfl⟩ := hv
  have := hfr g (by rw [hf]; simp)
  exact ⟨g, this.1, this.2, rfl, ho⟩
 have hcap : len <= cap := (row_length h.rd).2.1
 have hcm : cap <= 9223372036854775807 := (row_length h.rd).2.2
 have hBs : B < w.heap.size := by
  rcases Nat.lt_or_ge B w.heap.size with h' | h'
  . exact h'
  simp [World.cell?, Array.getElem?_eq_none h'] at hc
 have hBg : B ≠ g := by omega
 have HST : Hid (zs.take i = filt (zs.take (i + 1)) n) := by
  unfold Hid
  rw [List.take_add_one, hxi]
  show _ = filt (zs.take i ++ [n]) n
  rw [filt_snoc, if_pos rfl, filt_none hpre]
 have O1 := hidden (ho.same hs1)
 have HB1 := hidden (But.of_below (lo := g) (hi := g + 1) (hs1.below _))
 clear hxi hpre ho hr
 have hne : ((i : Int) == -1) = false := by simp
 have zr : ∀ w, (zeroValue 3).run Tryz.prog w = .ok (.int .i64 0) w := fun w => by kernel_rfl
 go_wp2
 go_loopw [5, 6] (fun iv jv wr => ∃ (j i : Nat) (L : List Int), j <= len /\ jv = .int .i64 j /\ iv = .int .i64 i /\ i < j /\ Own .i64 3 wr g (g + 1) (.slice (some ⟨g, 0, none⟩) len cap) L /\ L.take i = filt (zs.take j) n /\ L.drop j = zs.drop j /\ But g (g + 1) w wr) (fun _ jv _ => len - (intOf jv).toNat)
 case atStart => exact ⟨i + 1, i, zs, by omega, by go_num, rfl, by omega, O1.out, HST.out, rfl, HB1.out⟩
 obtain ⟨j, i, L, hj, rfl, rfl, hij, ho, ht, hd, hb⟩ := hrel
 have hLl := ho.length
 by_cases hlt : j < len
 . have hx : zs[j]? = some (L.getD j 0) := by
    have h1 : (L.drop j)[0]? = (zs.drop j)[0]? := by rw [hd]
    rw [List.getElem?_drop, List.getElem?_drop, Nat.add_zero] at h1
    rw [← h1, List.getD_eq_getElem?_getD, List.getElem?_eq_getElem (by omega)]
    rfl
   have htk : zs.take (j + 1) = zs.take j ++ [L.getD j 0] := by rw [List.take_add_one, hx]; rfl
   have hcj := (ho.store j hlt 0).1
   have hdd : L.drop (j + 1) = zs.drop (j + 1) := by
    have := congrArg (List.drop 1) hd
    rw [List.drop_drop, List.drop_drop] at this
    exact this
   have hLj : L[j]? = some (L.getD j 0) := by rw [List.getD_eq_getElem?_getD, List.getElem?_eq_getElem (by omega)]; rfl
   generalize L.getD j 0 = x at hx htk hcj hLj
   have hcB := (cell_kept (hb.block B hBs (by omega)) 0).trans hc
   obtain ⟨hci, hfi, hst, hbt⟩ := ho.store i (by omega) x
   have hti : (L.set i x).take (i + 1) = L.take i ++ [x] := by
    rw [List.take_add_one, List.getElem?_set_self (by omega)]
    congr 1
    apply List.ext_getElem?
    intro m
    rw [List.getElem?_take, List.getElem?_take]
    by_cases hm : m < i
    . rw [if_pos hm, if_pos hm, List.getElem?_set_ne (by omega)]
    rw [if_neg hm, if_neg hm]
   have hdi : (L.set i x).drop (j + 1) = L.drop (j + 1) := by
    apply List.ext_getElem?
    intro m
    rw [List.getElem?_drop, List.getElem?_drop, List.getElem?_set_ne (by omega)]
   generalize L.getD i 0 = y at hci
   have HO := hidden ho
   have HT := hidden ht
   have HD := hidden hdd
   have HTK := hidden htk
   have HST2 := hidden hst
   have HBT := hidden hbt
   have HTI := hidden hti
   have HDI := hidden hdi
   have HB := hidden hb
   clear ho ht hd hdd htk hst hbt hti hdi hb hx hLj
   go_wp2_with fail
   refine (del_any _ _ n B hcB).mono ?_
   rintro e w2 ⟨rfl, hs2⟩
   have hci2 := (hs2.cell _).trans hci
   have hfi2 : w2.frozen? ⟨g, i, none⟩ = false := by rw [← hfi]; exact World.frozen?_of_block (by rw [hs2.heap])
   by_cases hxn : x = n
   . subst hxn
     have hdc : decide (x = x) = true := by simp
     go_wp2
     go_roundw
     case rel => exact ⟨j + 1, i, L, by omega, by go_num, rfl, by omega, HO.out.same hs2, by rw [HTK.out, filt_snoc, if_pos rfl]; exact HT.out, HD.out, HB.out.trans (But.of_below (hs2.below _))⟩
     case measure => simp [intOf]; omega
   have hdc : decide (x = n) = false := by simp [hxn]
   have OS := hidden ((HO.out.same hs2).store i (by omega) x)
   go_wp2
   go_roundw
   case rel => exact ⟨j + 1, i + 1, L.set i x, by omega, by go_num, by go_num, by omega, OS.out.2.2.1, by rw [HTI.out, HTK.out, filt_snoc, if_neg hxn, HT.out], by rw [HDI.out]; exact HD.out, (HB.out.trans (But.of_below (hs2.below _))).trans OS.out.2.2.2⟩
   case measure => simp [intOf]; omega
 have e : len = j := by omega
 subst e
 rw [List.take_of_length_le (l := zs) (by omega)] at ht
 have hil : i = (filt zs n).length := by rw [← ht, List.length_take]; omega
 have hclr : ∀ ty, (Builtin.clear_ #[49] ty #[.slice (some ⟨g, i, none⟩) (len - i) (cap - i)]).run Tryz.prog wr = .ok (.tuple #[]) (wr.setCells g i (List.replicate (len - i) (.int .i64 0))) := fun ty =>
  Go.Lib.run_clear_slice wr 49 3 ty (.int .i64 0) Tryz.underlying49 zr rfl rfl g i (len - i) (cap - i) (by omega) (fun m hm => by rw [(ho.store (i + m) (by omega) 0).1]; rfl) (fun m hm => (ho.store (i + m) (by omega) 0).2.1)
 obtain ⟨L', o1, t1, b1⟩ := Own.zeros (len - i) i wr L ho (by omega)
 have o2 := o1.cut (i := i) (by omega)
 rw [t1, ht] at o2
 have HF := hidden ((mine_of_own o2).widen (lo' := lo) (hi' := hi) (by omega) (by omega))
 have HBF := hidden (hb.trans b1)
 have HIL := hidden hil
 have k1 : (0 : Int) <= (i : Int) := by omega
 have k2 : (i : Int) <= (len : Int) := by omega
 have k3 : (len : Int) <= (cap : Int) := by omega
 clear o1 o2 t1 b1 ho ht hd hb hil
 go_wp2
 go_ret
 exact ⟨some ⟨g, 0, none⟩, cap, by rw [← HIL.out]; rfl, by rw [← HIL.out]; exact HF.out, ⟨HBF.out.os, HBF.out.tape, HBF.out.output, HBF.out.size, fun k hk ho => HBF.out.block k hk (by omega)⟩⟩

theorem mem_ret {w V : World} {N R m1 m2 h : Nat} {v0 v1 v3 : Value} {f : Bool} {ss : List (List Int)} {cs : List (Int × List Int)} {bs : List Int} (B : Below w.heap.size w V) (D : tIntS.Own V N m1 [v3] bs) (S : tIntSS.Own V m1 m2 [v0] ss) (C : (tWrS 109).Own V m2 h [v1] cs) (r1 : N <= m1) (r2 : m1 <= m2) (r3 : m2 <= h) (rh : h <= V.heap.size) (hR : R < N) (hw : w.heap.size <= R) :
 (tMem 109).Own ((((V.setCell ⟨R, 0, none⟩ v0).setCell ⟨R, 1, none⟩ v1).setCell ⟨R, 2, none⟩ (.bool f)).setCell ⟨R, 3, none⟩ v3) w.heap.size ((((V.setCell ⟨R, 0, none⟩ v0).setCell ⟨R, 1, none⟩ v1).setCell ⟨R, 2, none⟩ (.bool f)).setCell ⟨R, 3, none⟩ v3).heap.size [v0, v1, .bool f, v3] (ss, cs, f, bs) /\ Below w.heap.size w ((((V.setCell ⟨R, 0, none⟩ v0).setCell ⟨R, 1, none⟩ v1).setCell ⟨R, 2, none⟩ (.bool f)).setCell ⟨R, 3, none⟩ v3) := by
 have hbt : But R (R + 1) V ((((V.setCell ⟨R, 0, none⟩ v0).setCell ⟨R, 1, none⟩ v1).setCell ⟨R, 2, none⟩ (.bool f)).setCell ⟨R, 3, none⟩ v3) := (((But.setCell (by omega) (by omega) _).trans (But.setCell (by omega) (by omega) _)).trans (But.setCell (by omega) (by omega) _)).trans (But.setCell (by omega) (by omega) _)
 have z := hbt.size
 exact ⟨mem_own3 (S.but hbt (by omega)) (C.but hbt (by omega)) (D.but hbt (by omega)) (by omega) (by omega) (by omega) ⟨by omega, by omega⟩ ⟨by omega, by omega⟩ ⟨by omega, by omega⟩, Below.andBut B hbt hw⟩

def wrOk (ss : List (List Int)) (cs : List (Int × List Int)) (f : Bool) (bs : List Int) (n : Int) (sw : List Int) : Bool := memB ss cs bs && (!f && (inB n 0 ((ss.length : Int) - 1) && (secB sw && decide (cs.length < 60))))
def wrCS (ss : List (List Int)) (cs : List (Int × List Int)) (f : Bool) (bs : List Int) (n : Int) (sw : List Int) : List (Int × List Int) := if wrOk ss cs f bs n sw = true then cs ++ [(n, sw)] else cs
def wrBS (ss : List (List Int)) (cs : List (Int × List Int)) (f : Bool) (bs : List Int) (n : Int) (sw : List Int) : List Int := if wrOk ss cs f bs n sw = true then filt bs n else bs

theorem implWriteSec_any (w : World) (E : TypeId) (a0 a1 a3 a5 : Option Addr) (n0 c0 n1 c1 n3 c3 n5 c5 : Nat) (ss : List (List Int)) (cs : List (Int × List Int)) (f : Bool) (bs : List Int) (n : Int) (sw : List Int) (h0 : tIntSS.Rd w [.slice a0 n0 c0] ss) (h1 : (tWrS E).Rd w [.slice a1 n1 c1] cs) (h3 : tIntS.Rd w [.slice a3 n3 c3] bs) (h5 : tIntS.Rd w [.slice a5 n5 c5] sw) (hw : wtMem (ss, cs, f, bs) <= 2097152) (hw5 : n5 <= 2097152) :
 Calls Tryz.prog 159 #[.agg #[.slice a0 n0 c0, .slice a1 n1 c1, .bool f, .slice a3 n3 c3], .int .i64 n, .slice a5 n5 c5] w fun e w' => ∃ v0 v1 v3, e = .returned (.tuple #[.agg #[v0, v1, .bool f, v3], .bool (wrOk ss cs f bs n sw)]) /\ (tMem 109).Own w' w.heap.size w'.heap.size [v0, v1, .bool f, v3] (ss, wrCS ss cs f bs n sw, f, wrBS ss cs f bs n sw) /\ Below w.heap.size w w' := by
 obtain ⟨hl0, _, hm0⟩ := row_length h0
 obtain ⟨hl1, _, hm1⟩ := row_length h1
 obtain ⟨hl3, _, hm3⟩ := row_length h3
 obtain ⟨hl5, _, hm5⟩ := row_length h5
 have hA : Below w.heap.size w (((w.alloc (.cells #[.slice a0 n0 c0, .slice a1 n1 c1, .bool f, .slice a3 n3 c3] 51)).alloc (.cells #[.int .i64 n] 3)).alloc (.cells #[.slice none 0 0, .slice none 0 0, .bool false, .slice none 0 0] 51)) := (((Below.refl _ _).alloc (Nat.le_refl _) _).alloc (by simp) _).alloc (by simp; omega) _
 have xm : Box (((w.alloc (.cells #[.slice a0 n0 c0, .slice a1 n1 c1, .bool f, .slice a3 n3 c3] 51)).alloc (.cells #[.int .i64 n] 3)).alloc (.cells #[.slice none 0 0, .slice none 0 0, .bool false, .slice none 0 0] 51)) w.heap.size 51 #[.slice a0 n0 c0, .slice a1 n1 c1, .bool f, .slice a3 n3 c3] := ((Box.new w _ _).alloc _).alloc _
 have xn : Box (((w.alloc (.cells #[.slice a0 n0 c0, .slice a1 n1 c1, .bool f, .slice a3 n3 c3] 51)).alloc (.cells #[.int .i64 n] 3)).alloc (.cells #[.slice none 0 0, .slice none 0 0, .bool false, .slice none 0 0] 51)) (w.heap.size + 1) 3 #[.int .i64 n] := by
  have := Box.new (w.alloc (.cells #[.slice a0 n0 c0, .slice a1 n1 c1, .bool f, .slice a3 n3 c3] 51)) 3 #[.int .i64 n]
  rw [show (w.alloc (.cells #[.slice a0 n0 c0, .slice a1 n1 c1, .bool f, .slice a3 n3 c3] 51)).heap.size = w.heap.size + 1 by simp] at this
  exact this.alloc _
 have xr : Box (((w.alloc (.cells #[.slice a0 n0 c0, .slice a1 n1 c1, .bool f, .slice a3 n3 c3] 51)).alloc (.cells #[.int .i64 n] 3)).alloc (.cells #[.slice none 0 0, .slice none 0 0, .bool false, .slice none 0 0] 51)) (w.heap.size + 2) 51 #[.slice none 0 0, .slice none 0 0, .bool false, .slice none 0 0] := by
  have := Box.new ((w.alloc (.cells #[.slice a0 n0 c0, .slice a1 n1 c1, .bool f, .slice a3 n3 c3] 51)).alloc (.cells #[.int .i64 n] 3)) 51 #[.slice none 0 0, .slice none 0 0, .bool false, .slice none 0 0]
  rw [show ((w.alloc (.cells #[.slice a0 n0 c0, .slice a1 n1 c1, .bool f, .slice a3 n3 c3] 51)).alloc (.cells #[.int .i64 n] 3)).heap.size = w.heap.size + 2 by simp] at this
  exact this
 go_enter Tryz.func159, Tryz.ntmps159
 go_wp2_with fail
 generalize hW : ((w.alloc (.cells #[.slice a0 n0 c0, .slice a1 n1 c1, .bool f, .slice a3 n3 c3] 51)).alloc (.cells #[.int .i64 n] 3)).alloc (.cells #[.slice none 0 0, .slice none 0 0, .bool false, .slice none 0 0] 51) = W at hA xm xn xr ⊢
 clear hW
 have zr := xr.lt
 have B0 := hidden hA
 clear hA
 have XM0 := hidden xm
 clear xm
 have XN0 := hidden xn
 clear xn
 have XR0 := hidden xr
 clear xr
 refine (copyMem_any _ E _ _ _ _ _ _ _ _ _ ss cs f bs (h0.below B0.out) (h1.below B0.out) (h3.below B0.out) hw).mono ?_
 intro e w1 hc
 obtain ⟨b0, b1, b3, e0, e1, e3, m1, m2, rfl, o3, o0, o1, r1, r2, r3, hb1⟩ := copy_shapes hl0 hl1 hl3 hc
 clear hc
 have B1 := hidden (Below.andThen B0.out hb1)
 have XM1 := hidden (XM0.out.below hb1 (by omega))
 have XN1 := hidden (XN0.out.below hb1 (by omega))
 have XR1 := hidden (XR0.out.below hb1 (by omega))
 have z1 := hb1.size
 clear B0 XM0 XN0 XR0 hb1
 have S1 := hidden o0
 clear o0
 have C1 := hidden o1
 clear o1
 have D1 := hidden o3
 clear o3
 have ba : Below w1.heap.size w1 (w1.alloc (.cells #[.slice b0 n0 e0, .slice b1 n1 e1, .bool f, .slice b3 n3 e3] 51)) := (Below.refl _ _).alloc (Nat.le_refl _) _
 have yo := Box.new w1 51 #[.slice b0 n0 e0, .slice b1 n1 e1, .bool f, .slice b3 n3 e3]
 have zo := yo.lt
 have B2 := hidden (Below.andThen B1.out ba)
 have XM2 := hidden (XM1.out.below ba (by omega))
 have XN2 := hidden (XN1.out.below ba (by omega))
 have XR2 := hidden (XR1.out.below ba (by omega))
 have S2 := hidden (S1.out.below ba)
 have C2 := hidden (C1.out.below ba)
 have D2 := hidden (D1.out.below ba)
 have z2 := ba.size
 clear B1 XM1 XN1 XR1 S1 C1 D1 ba
 have XO2 := hidden yo
 clear yo
 have sW : w.heap.size + 2 < W.heap.size := zr
 obtain ⟨q0, q1, q2, q3⟩ := XM2.out.cells4
 go_wp2_with fail
 generalize w1.alloc (.cells #[.slice b0 n0 e0, .slice b1 n1 e1, .bool f, .slice b3 n3 e3] 51) = w2 at B2 XM2 XN2 XR2 S2 C2 D2 XO2 z2 zo q0 q1 q2 q3 ⊢
 refine (implMemOk_any _ E _ _ _ _ _ _ _ _ _ ss cs f bs (h0.below B2.out) (h1.below B2.out) (h3.below B2.out) hw).mono ?_
 rintro e w3 ⟨rfl, hb3⟩
 clear q0 q1 q2 q3
 have B3 := hidden (Below.andThen B2.out hb3)
 have XM3 := hidden (XM2.out.below hb3 (by omega))
 have XN3 := hidden (XN2.out.below hb3 (by omega))
 have XR3 := hidden (XR2.out.below hb3 (by omega))
 have S3 := hidden (S2.out.below hb3)
 have C3 := hidden (C2.out.below hb3)
 have D3 := hidden (D2.out.below hb3)
 have XO3 := hidden (XO2.out.below hb3 (by omega))
 have z3 := hb3.size
 clear B2 XM2 XN2 XR2 S2 C2 D2 XO2 hb3
 cases hM : memB ss cs bs
 . have HK : Hid (wrOk ss cs f bs n sw = false /\ wrCS ss cs f bs n sw = cs /\ wrBS ss cs f bs n sw = bs) := by
    have hk : wrOk ss cs f bs n sw = false := by unfold wrOk; simp [hM]
    unfold wrCS wrBS
    exact ⟨hk, by rw [hk]; rfl, by rw [hk]; rfl⟩
   obtain ⟨q0, q1, q2, q3⟩ := XM3.out.cells4
   obtain ⟨x0, x1, x2, x3⟩ := XO3.out.cells4
   obtain ⟨p0, p1, p2, p3⟩ := XR3.out.cells4
   have fz := XR3.out.frozen
   have FIN := hidden (mem_ret (f := f) B3.out D3.out S3.out C3.out r2 r1 r3 (by omega) sW (by omega))
   clear B3 XM3 XN3 XR3 S3 C3 D3 XO3
   go_wp2
   refine bodyPost_ret (v := .tuple #[.agg #[.slice b0 n0 e0, .slice b1 n1 e1, .bool f, .slice b3 n3 e3], .bool false]) (by simp [results, Tryz.results159, go_sem, p0, p1, p2, p3]) rfl ?_
   exact ⟨_, _, _, by rw [HK.out.1], by rw [HK.out.2.1, HK.out.2.2]; exact FIN.out.1, FIN.out.2⟩
 cases f
 rotate_left
 . skip
   have HK : Hid (wrOk ss cs true bs n sw = false /\ wrCS ss cs true bs n sw = cs /\ wrBS ss cs true bs n sw = bs) := by
    have hk : wrOk ss cs true bs n sw = false := by unfold wrOk; simp [hM]
    unfold wrCS wrBS
    exact ⟨hk, by rw [hk]; rfl, by rw [hk]; rfl⟩
   obtain ⟨q0, q1, q2, q3⟩ := XM3.out.cells4
   obtain ⟨x0, x1, x2, x3⟩ := XO3.out.cells4
   obtain ⟨p0, p1, p2, p3⟩ := XR3.out.cells4
   have fz := XR3.out.frozen
   have FIN := hidden (mem_ret (f := true) B3.out D3.out S3.out C3.out r2 r1 r3 (by omega) sW (by omega))
   clear B3 XM3 XN3 XR3 S3 C3 D3 XO3
   go_wp2
   refine bodyPost_ret (v := .tuple #[.agg #[.slice b0 n0 e0, .slice b1 n1 e1, .bool true, .slice b3 n3 e3], .bool false]) (by simp [results, Tryz.results159, go_sem, p0, p1, p2, p3]) rfl ?_
   exact ⟨_, _, _, by rw [HK.out.1], by rw [HK.out.2.1, HK.out.2.2]; exact FIN.out.1, FIN.out.2⟩
 obtain ⟨q0, q1, q2, q3⟩ := XM3.out.cells4
 have qn : w3.cell? ⟨w.heap.size + 1, 0, none⟩ = some (.int .i64 n) := XN3.out.cell 0
 go_wp2_with fail
 refine (hasSec_any _ _ _ _ _ _ _ _).mono ?_
 rintro e w4 ⟨rfl, hb4⟩
 clear q0 q1 q2 q3
 clear qn
 have B4 := hidden (Below.andThen B3.out hb4)
 have XM4 := hidden (XM3.out.below hb4 (by omega))
 have XN4 := hidden (XN3.out.below hb4 (by omega))
 have XR4 := hidden (XR3.out.below hb4 (by omega))
 have S4 := hidden (S3.out.below hb4)
 have C4 := hidden (C3.out.below hb4)
 have D4 := hidden (D3.out.below hb4)
 have XO4 := hidden (XO3.out.below hb4 (by omega))
 have z4 := hb4.size
 clear B3 XM3 XN3 XR3 S3 C3 D3 XO3 hb4
 cases hI : inB n 0 ((n0 : Int) - 1)
 . have hI2 : inB n 0 ((ss.length : Int) - 1) = false := by rw [hl0]; exact hI
   have HK : Hid (wrOk ss cs false bs n sw = false /\ wrCS ss cs false bs n sw = cs /\ wrBS ss cs false bs n sw = bs) := by
    have hk : wrOk ss cs false bs n sw = false := by unfold wrOk; simp [hI2]
    unfold wrCS wrBS
    exact ⟨hk, by rw [hk]; rfl, by rw [hk]; rfl⟩
   obtain ⟨q0, q1, q2, q3⟩ := XM4.out.cells4
   obtain ⟨x0, x1, x2, x3⟩ := XO4.out.cells4
   obtain ⟨p0, p1, p2, p3⟩ := XR4.out.cells4
   have fz := XR4.out.frozen
   have FIN := hidden (mem_ret (f := false) B4.out D4.out S4.out C4.out r2 r1 r3 (by omega) sW (by omega))
   clear B4 XM4 XN4 XR4 S4 C4 D4 XO4
   go_wp2
   refine bodyPost_ret (v := .tuple #[.agg #[.slice b0 n0 e0, .slice b1 n1 e1, .bool false, .slice b3 n3 e3], .bool false]) (by simp [results, Tryz.results159, go_sem, p0, p1, p2, p3]) rfl ?_
   exact ⟨_, _, _, by rw [HK.out.1], by rw [HK.out.2.1, HK.out.2.2]; exact FIN.out.1, FIN.out.2⟩
 obtain ⟨q0, q1, q2, q3⟩ := XM4.out.cells4
 go_wp2_with fail
 refine (implSecOk_any _ _ _ _ sw hl5 (ints_rd (h5.below B4.out)).1 hw5).mono ?_
 rintro e w5 ⟨rfl, hs5⟩
 clear q0 q1 q2 q3
 have B5 := hidden (Below.andSame B4.out hs5)
 have XM5 := hidden (XM4.out.same hs5)
 have XN5 := hidden (XN4.out.same hs5)
 have XR5 := hidden (XR4.out.same hs5)
 have S5 := hidden (S4.out.same hs5)
 have C5 := hidden (C4.out.same hs5)
 have D5 := hidden (D4.out.same hs5)
 have XO5 := hidden (XO4.out.same hs5)
 have z5 := Nat.le_of_eq hs5.size.symm
 clear B4 XM4 XN4 XR4 S4 C4 D4 XO4 hs5
 cases hS : secB sw
 . have HK : Hid (wrOk ss cs false bs n sw = false /\ wrCS ss cs false bs n sw = cs /\ wrBS ss cs false bs n sw = bs) := by
    have hk : wrOk ss cs false bs n sw = false := by unfold wrOk; simp [hS]
    unfold wrCS wrBS
    exact ⟨hk, by rw [hk]; rfl, by rw [hk]; rfl⟩
   obtain ⟨q0, q1, q2, q3⟩ := XM5.out.cells4
   obtain ⟨x0, x1, x2, x3⟩ := XO5.out.cells4
   obtain ⟨p0, p1, p2, p3⟩ := XR5.out.cells4
   have fz := XR5.out.frozen
   have FIN := hidden (mem_ret (f := false) B5.out D5.out S5.out C5.out r2 r1 r3 (by omega) sW (by omega))
   clear B5 XM5 XN5 XR5 S5 C5 D5 XO5
   go_wp2
   refine bodyPost_ret (v := .tuple #[.agg #[.slice b0 n0 e0, .slice b1 n1 e1, .bool false, .slice b3 n3 e3], .bool false]) (by simp [results, Tryz.results159, go_sem, p0, p1, p2, p3]) rfl ?_
   exact ⟨_, _, _, by rw [HK.out.1], by rw [HK.out.2.1, HK.out.2.2]; exact FIN.out.1, FIN.out.2⟩
 by_cases hL : n1 < 60
 rotate_left
 . have hL' : (60 : Int) <= (n1 : Int) := by omega
   have hL2 : ¬ cs.length < 60 := by omega
   have HK : Hid (wrOk ss cs false bs n sw = false /\ wrCS ss cs false bs n sw = cs /\ wrBS ss cs false bs n sw = bs) := by
    have hk : wrOk ss cs false bs n sw = false := by unfold wrOk; simp [hL2]
    unfold wrCS wrBS
    exact ⟨hk, by rw [hk]; rfl, by rw [hk]; rfl⟩
   obtain ⟨q0, q1, q2, q3⟩ := XM5.out.cells4
   obtain ⟨x0, x1, x2, x3⟩ := XO5.out.cells4
   obtain ⟨p0, p1, p2, p3⟩ := XR5.out.cells4
   have fz := XR5.out.frozen
   have FIN := hidden (mem_ret (f := false) B5.out D5.out S5.out C5.out r2 r1 r3 (by omega) sW (by omega))
   clear B5 XM5 XN5 XR5 S5 C5 D5 XO5
   go_wp2
   refine bodyPost_ret (v := .tuple #[.agg #[.slice b0 n0 e0, .slice b1 n1 e1, .bool false, .slice b3 n3 e3], .bool false]) (by simp [results, Tryz.results159, go_sem, p0, p1, p2, p3]) rfl ?_
   exact ⟨_, _, _, by rw [HK.out.1], by rw [HK.out.2.1, HK.out.2.2]; exact FIN.out.1, FIN.out.2⟩
 have hL' : ¬ (60 : Int) <= (n1 : Int) := by omega
 have HK : Hid (wrOk ss cs false bs n sw = true /\ wrCS ss cs false bs n sw = cs ++ [(n, sw)] /\ wrBS ss cs false bs n sw = filt bs n) := by
  have hk : wrOk ss cs false bs n sw = true := by unfold wrOk; rw [hM, hl0, hI, hS, decide_eq_true (by omega)]; rfl
  unfold wrCS wrBS
  exact ⟨hk, by rw [hk]; rfl, by rw [hk]; rfl⟩
 clear hM hI hS
 obtain ⟨q0, q1, q2, q3⟩ := XM5.out.cells4
 obtain ⟨x0, x1, x2, x3⟩ := XO5.out.cells4
 have qn : w5.cell? ⟨w.heap.size + 1, 0, none⟩ = some (.int .i64 n) := XN5.out.cell 0
 have hle : ¬ (60 : Int) <= (n1 : Int) := by omega
 have hlw3 : n3 <= 2097152 := by unfold wtMem at hw; simp only at hw; omega
 go_wp2_with fail
 clear q0 q1 q2 q3
 obtain ⟨i1, hi1, hy0, hy1, hy2⟩ := info_parts Tryz.infoWr
 obtain ⟨fpC, mC, rC⟩ := C5.out.mine
 have MC := hidden mC
 have RC := hidden rC
 clear mC rC
 have HX5 := hidden (h5.below B5.out)
 have L1 : Hid (cs.length + 1 <= maxLen) := by unfold Hid maxLen; omega
 have L2 : Hid ((cs.length + 1) * 32 <= 140737488355328) := by unfold Hid; omega
 have hS : w5.drew.cell? ⟨w1.heap.size, 1, none⟩ = some (.slice b1 n1 e1) /\ w5.drew.cell? ⟨w.heap.size + 1, 0, none⟩ = some (.int .i64 n) := ⟨XO5.out.cell 1, XN5.out.cell 0⟩
 clear x0 x1 x2 x3 qn hle
 refine Upto.start (S := fun w' => w'.cell? ⟨w1.heap.size, 1, none⟩ = some (.slice b1 n1 e1) /\ w'.cell? ⟨w.heap.size + 1, 0, none⟩ = some (.int .i64 n)) (k := 9) (by kernel_rfl) ?_
 refine Upto.t 0 hS ?_
 refine Upto.t 1 hS ?_
 refine Upto.t 2 hS ?_
 refine Upto.t 3 hS ?_
 refine Upto.one (i := 4) (by kernel_rfl) rfl (fun K hK => ?_)
 go_simp
 refine (copyWords_any _ _ _ _ sw (by exact HX5.out.drew) (by omega)).mono ?_
 rintro e wc ⟨ac, cc, rfl, oc, hbd⟩
 have hbc : Below w5.heap.size w5 wc := (by exact (Below.refl w5.heap.size w5).drew.trans hbd)
 obtain ⟨fpx, mx, rx⟩ := Ty.Own.mine (lo := w5.heap.size) oc
 have MX := hidden mx
 have RX := hidden rx
 clear mx rx oc hbd
 have xoc : Box wc w1.heap.size 51 _ := XO5.out.below hbc (by omega)
 have xnc : Box wc (w.heap.size + 1) 3 _ := XN5.out.below hbc (by omega)
 have hS3 : wc.cell? ⟨w1.heap.size, 1, none⟩ = some (.slice b1 n1 e1) /\ wc.cell? ⟨w.heap.size + 1, 0, none⟩ = some (.int .i64 n) := ⟨xoc.cell 1, xnc.cell 0⟩
 have hS4 : (wc.alloc (.cells #[.int .i64 n, .slice ac n5 cc] 109)).cell? ⟨w1.heap.size, 1, none⟩ = some (.slice b1 n1 e1) /\ (wc.alloc (.cells #[.int .i64 n, .slice ac n5 cc] 109)).cell? ⟨w.heap.size + 1, 0, none⟩ = some (.int .i64 n) := ⟨(xoc.alloc (.cells #[.int .i64 n, .slice ac n5 cc] 109)).cell 1, (xnc.alloc (.cells #[.int .i64 n, .slice ac n5 cc] 109)).cell 0⟩
 have XOC := hidden xoc
 have XNC := hidden xnc
 have HBC := hidden hbc
 clear xoc hbc xnc
 go_wp2_with fail
 refine hK.out _ _ (fun _ => hS3) ?_
 clear hK K
 refine Upto.t 5 hS3 ?_
 refine Upto.one (i := 6) (by kernel_rfl) rfl (fun K hK => ?_)
 go_simp
 refine hK.out _ _ (fun _ => hS4) ?_
 clear hK K
 refine Upto.one (i := 7) (by kernel_rfl) rfl (fun K hK => ?_)
 refine step_appT tWr (by rfl) _ _ 48 (by rfl) 109 i1 (.agg #[.int .i64 0, .slice none 0 0]) 32 Tryz.underlying48 hi1 hy0 hy1 hy2 rfl Nat.zero_lt_two (.slice b1 n1 e1) cs fpC (by rfl) ?_ ⟨wc.heap.size, 0, none⟩ 1 [.int .i64 n, .slice ac n5 cc] (n, sw) fpx (by rfl) ?_ ?_ ?_ ?_ L1.out L2.out ?_
 . exact (MC.out.below HBC.out).alloc _
 . exact (wr_mine n MX.out).alloc _
 . intro b hb hb'
   have h1 := RC.out b hb
   have h2 := RX.out b hb'
   omega
 . exact news_new _ _ _
 . intro u hu
   simp at hu
   rcases hu with hu | hu <;> (rw [hu]; rfl)
 intro g cap wA fpA m1' m2' m3'
 rw [hl1] at m1' ⊢
 have zB : (wc.alloc (.cells #[.int .i64 n, .slice ac n5 cc] 109)).heap.size = wc.heap.size + 1 := by simp
 have ya : Box wA w1.heap.size 51 _ := (XOC.out.alloc _).turned m3' (fun hm => by have := RC.out _ hm; omega)
 have yn : Box wA (w.heap.size + 1) 3 _ := (XNC.out.alloc _).turned m3' (fun hm => by have := RC.out _ hm; omega)
 have hS5 : wA.cell? ⟨w1.heap.size, 1, none⟩ = some (.slice b1 n1 e1) /\ wA.cell? ⟨w.heap.size + 1, 0, none⟩ = some (.int .i64 n) := ⟨ya.cell 1, yn.cell 0⟩
 have c9 := hS5.1
 have fz := ya.frozen 1
 have YA := hidden ya
 have M1 := hidden m1'
 have M2 := hidden m2'
 have M3 := hidden m3'
 have ZB := hidden zB
 clear ya m1' m2' m3' zB yn
 refine hK.out _ _ (fun _ => hS5) ?_
 clear hK K
 simp only [Act.put, List.setIfInBounds_toArray, List.set_cons_zero, List.set_cons_succ]
 refine Upto.t 8 hS5 ?_
 refine Upto.one (i := 9) (by kernel_rfl) rfl (fun K hK => ?_)
 go_simp
 refine hK.out _ _ (fun h => absurd rfl h) ?_
 clear hK K
 refine Upto.done (by kernel_rfl) ?_ _
 have zc := HBC.out.size
 have zA := M3.out.size
 have zB := ZB.out
 have hb6 : But m2 (w1.heap.size + 1) w5 (wA.setCell ⟨w1.heap.size, 1, none⟩ (.slice (some ⟨g, 0, none⟩) (n1 + 1) cap)) := ((But.of_below (Below.andThen HBC.out ((Below.refl _ _).alloc (Nat.le_refl _) _))).trans (M3.out.but (fun b hb => by have := RC.out b hb; omega))).trans (But.setCell (by omega) (by omega) _)
 have rA : ∀ b ∈ fpA, m2 <= b /\ b ≠ w1.heap.size /\ b < wA.heap.size := fun b hb => by
  have hlt := M1.out.lt b hb
  rcases M2.out b hb with h | h | h
  . have := RC.out b h
    omega
  . have := RX.out b h
    omega
  have := h.1
  omega
 have mZ := M1.out.setCell (g := w1.heap.size) (j := 1) (fun hm => by have := rA _ hm; omega) (.slice (some ⟨g, 0, none⟩) (n1 + 1) cap)
 have yZ := YA.out.set 1 (.slice (some ⟨g, 0, none⟩) (n1 + 1) cap)
 have zs : wA.heap.size <= (wA.setCell ⟨w1.heap.size, 1, none⟩ (.slice (some ⟨g, 0, none⟩) (n1 + 1) cap)).heap.size := by simp
 have MZ := hidden mZ
 have RZ : Hid (∀ b ∈ fpA, m2 <= b /\ b ≠ w1.heap.size /\ b < (wA.setCell ⟨w1.heap.size, 1, none⟩ (.slice (some ⟨g, 0, none⟩) (n1 + 1) cap)).heap.size) := fun b hb => by have := rA b hb; omega
 have YZ := hidden yZ
 clear mZ rA yZ zs zA zB zc hS hS3 hS4 hS5 c9 fz YA M1 M2 M3 ZB XOC MX RX HBC MC RC HX5 L1 L2 XNC
 clear XO5
 clear C5
 have B6 := hidden (Below.andBut B5.out hb6 (by omega))
 have XM6 := hidden (XM5.out.kept (hb6.block _ (by omega) (by omega)))
 have XN6 := hidden (XN5.out.kept (hb6.block _ (by omega) (by omega)))
 have XR6 := hidden (XR5.out.kept (hb6.block _ (by omega) (by omega)))
 have S6 := hidden (S5.out.but hb6 (by omega))
 have D6 := hidden (D5.out.but hb6 (by omega))
 have z6 := hb6.size
 clear B5 XM5 XN5 XR5 S5 D5 hb6
 generalize (wA.setCell ⟨w1.heap.size, 1, none⟩ (.slice (some ⟨g, 0, none⟩) (n1 + 1) cap)) = w6 at B6 XM6 XN6 XR6 S6 D6 z6 MZ RZ YZ ⊢
 have XO6 : Hid (Box w6 w1.heap.size 51 #[.slice b0 n0 e0, .slice (some ⟨g, 0, none⟩) (n1 + 1) cap, .bool false, .slice b3 n3 e3]) := YZ.out
 clear YZ
 have hmf : ∀ (fn : Fn) (first cap : Array Value) (w : World), (Instr.makeFunc fn first cap).run Tryz.prog w = .ok (.func fn first cap) w := fun _ _ _ _ => rfl
 obtain ⟨x0, x1, x2, x3⟩ := XO6.out.cells4
 have HCN : Hid (w6.cell? ⟨w.heap.size + 1, 0, none⟩ = some (.int .i64 n)) := XN6.out.cell 0
 go_wp2_with fail
 refine (deleteFunc_any _ W.heap.size m1 _ _ _ bs n (w.heap.size + 1) D6.out HCN.out (by omega) (by omega)).mono ?_
 rintro e wb ⟨d3, f3, rfl, od, hbB⟩
 have zb := hbB.size
 have xob : Box wb w1.heap.size 51 _ := XO6.out.kept (hbB.block _ (by omega) (by omega))
 clear x0 x1 x2 x3
 obtain ⟨x0, x1, x2, x3⟩ := xob.cells4
 have fz := xob.frozen 3
 have XOB := hidden xob
 have OD := hidden od
 have HBB := hidden hbB
 clear xob od hbB
 have bs9 := But.setCell (lo := w1.heap.size) (hi := w1.heap.size + 1) (g := w1.heap.size) (j := 3) (w := wb) (Nat.le_refl _) (Nat.lt_succ_self _) (.slice d3 (filt bs n).length f3)
 have zt := bs9.size
 have MY := hidden ((MZ.out.but HBB.out (fun b hb => by have := RZ.out b hb; omega)).but bs9 (fun b hb => by have := RZ.out b hb; omega))
 have YZ := hidden (XOB.out.set 3 (.slice d3 (filt bs n).length f3))
 have D7 := hidden (OD.out.but bs9 (.inl (by omega)))
 have S7 := hidden ((S6.out.but HBB.out (.inr (Nat.le_refl _))).but bs9 (.inl (by omega)))
 have XR7 := hidden ((XR6.out.kept (HBB.out.block _ (by omega) (by omega))).kept (bs9.block _ (by omega) (by omega)))
 have B7 := hidden (Below.andBut (Below.andBut B6.out HBB.out (by omega)) bs9 (by omega))
 have RY : Hid (∀ b ∈ fpA, m2 <= b /\ b < (wb.setCell ⟨w1.heap.size, 3, none⟩ (.slice d3 (filt bs n).length f3)).heap.size) := fun b hb => by have := RZ.out b hb; omega
 have z7 : w6.heap.size <= (wb.setCell ⟨w1.heap.size, 3, none⟩ (.slice d3 (filt bs n).length f3)).heap.size := by omega
 clear bs9 zt zb XOB OD HBB MZ RZ HCN hmf B6 XM6 XN6 XR6 S6 D6 XO6
 obtain ⟨t0, t1, t2, t3⟩ := Box.cells4 (v0 := .slice b0 n0 e0) (v1 := .slice (some ⟨g, 0, none⟩) (n1 + 1) cap) (v2 := .bool false) (v3 := .slice d3 (filt bs n).length f3) YZ.out
 obtain ⟨p0, p1, p2, p3⟩ := XR7.out.cells4
 have fr := XR7.out.frozen
 go_wp2
 generalize (wb.setCell ⟨w1.heap.size, 3, none⟩ (.slice d3 (filt bs n).length f3)) = w7 at B7 S7 D7 XR7 MY RY YZ z7 p0 p1 p2 p3 fr t0 t1 t2 t3 ⊢
 have hbt : But (w.heap.size + 2) (w.heap.size + 2 + 1) w7 ((((w7.setCell ⟨w.heap.size + 2, 0, none⟩ (.slice b0 n0 e0)).setCell ⟨w.heap.size + 2, 1, none⟩ (.slice (some ⟨g, 0, none⟩) (n1 + 1) cap)).setCell ⟨w.heap.size + 2, 2, none⟩ (.bool false)).setCell ⟨w.heap.size + 2, 3, none⟩ (.slice d3 (filt bs n).length f3)) :=
  (((But.setCell (by omega) (by omega) _).trans (But.setCell (by omega) (by omega) _)).trans (But.setCell (by omega) (by omega) _)).trans (But.setCell (by omega) (by omega) _)
 have z99 := hbt.size
 refine bodyPost_ret (v := .tuple #[.agg #[.slice b0 n0 e0, .slice (some ⟨g, 0, none⟩) (n1 + 1) cap, .bool false, .slice d3 (filt bs n).length f3], .bool true]) (by simp [results, Tryz.results159, go_sem, p0, p1, p2, p3]) rfl ?_
 have FIN : Hid ((tMem 109).Own ((((w7.setCell ⟨w.heap.size + 2, 0, none⟩ (.slice b0 n0 e0)).setCell ⟨w.heap.size + 2, 1, none⟩ (.slice (some ⟨g, 0, none⟩) (n1 + 1) cap)).setCell ⟨w.heap.size + 2, 2, none⟩ (.bool false)).setCell ⟨w.heap.size + 2, 3, none⟩ (.slice d3 (filt bs n).length f3)) w.heap.size ((((w7.setCell ⟨w.heap.size + 2, 0, none⟩ (.slice b0 n0 e0)).setCell ⟨w.heap.size + 2, 1, none⟩ (.slice (some ⟨g, 0, none⟩) (n1 + 1) cap)).setCell ⟨w.heap.size + 2, 2, none⟩ (.bool false)).setCell ⟨w.heap.size + 2, 3, none⟩ (.slice d3 (filt bs n).length f3)).heap.size [.slice b0 n0 e0, .slice (some ⟨g, 0, none⟩) (n1 + 1) cap, .bool false, .slice d3 (filt bs n).length f3] (ss, cs ++ [(n, sw)], false, filt bs n)) := mem_own3 (S7.out.but hbt (by omega)) ((MY.out.own (lo := m2) (hi := w7.heap.size) (fun b hb => RY.out b hb)).but hbt (by omega)) (D7.out.but hbt (by omega)) (by omega) (by omega) (by omega) (by omega) (by omega) (by omega)
 have FB := hidden (Below.andBut B7.out hbt (by omega))
 exact ⟨_, _, _, by rw [HK.out.1], by rw [HK.out.2.1, HK.out.2.2]; exact FIN.out, FB.out⟩

end Go.Proofs.YtechckninoilhaaGreat

/-
  The exact law of GetBlock holds: for every array and every number the law returns true. No condition.
-/
import Derived.Test.YtjmjianlcoleaaaGreatWalkRead
import Derived.Test.YtjmjianlcoleaaaGreatWalkL2Has
import Derived.Test.YtjmjianlcoleaaaGreatWalkNewest
import Derived.Test.YtjmjianlcoleaaaGreatWalkCopyWords
import Derived.Test.YtjmjianlcoleaaaGreatWalkArrOk3
import Derived.BigQuiet
import Derived.WalkSmall
import Derived.Handy
import Derived.Test.YtjmjianlcoleaaaGreatWalkWords
import Derived.Test.YtjmjianlcoleaaaGreatHeld
import Derived.Test.YtjmjianlcoleaaaGreatWalkGeo
import Derived.Test.YtjmjianlcoleaaaGreatBox
import Derived.Test.YtjmjianlcoleaaaGreatWalkArrOk2
import Derived.Test.YtjmjianlcoleaaaGreatWalkImplMemOk
import Derived.Test.YtjmjianlcoleaaaGreatLawSlotOf
import Derived.Test.YtjmjianlcoleaaaGreatWalkWords2
import Derived.Test.YtjmjianlcoleaaaGreatWalkWords3
import Derived.Test.YtjmjianlcoleaaaGreatModel8
import Derived.Test.YtjmjianlcoleaaaGreatWalkArr
import Derived.Test.YtjmjianlcoleaaaGreatWalkSz
import Derived.ProofKit
import Derived.OpenShut
import Derived.Lib.SmallJoins
import Derived.Deep.Slices
import Derived.Deep.SlicePairs
import Derived.Test.YtjmjianlcoleaaaGreatRows
import Derived.WalkKit
import Derived.ShutString
import Derived.ChangeOld
import Derived.Below

/-
  The walks of both ReadSec (the program's and the specification's): what a sector reads as, in memory of its own. Condition: the disk weighs at most 2097152.
-/
namespace Go.Proofs.YtjmjianlcoleaaaGreat
open Go.RowKit

theorem slicesIndex_any (w : World) (a : Option Addr) (len cap : Nat) (zs : List Int) (n : Int) (hz : zs.length = len) (hr : Reads .i64 w a zs) (hlen : len ≤ 2097152) :
    Calls Tryz.prog 224 #[.slice a len cap, .int .i64 n] w fun e w' => ∃ r : Int, e = .returned (.int .i64 r) ∧ decide (0 ≤ r) = inL zs n ∧ Same w w' := by
  go_enter Tryz.func224, Tryz.ntmps224
  go_wp2
  go_loop [8] (fun i => ∃ j : Nat, j ≤ len ∧ i = .int .i64 j ∧ inL (zs.take j) n = false) (fun i => len - (intOf i).toNat)
  case atStart => exact ⟨0, Nat.zero_le _, rfl, rfl⟩
  case round =>
    obtain ⟨j, hj, rfl, ht⟩ := hrel
    by_cases hlt : j < len
    · rcases hr.cases with h0 | ⟨b, off, rfl, hbl, hc⟩
      · omega
      have hc1 := hc j (by omega)
      have hd := inL_step (zs := zs) (n := n) (j := j) (by omega) rfl
      generalize zs.getD j 0 = x at hc1 hd
      have HT := hidden ht
      clear hc ht
      by_cases hx : x = n
      · have HD := hidden (hd.1 hx)
        subst hx
        clear hd
        go_wp2
        go_ret
        exact ⟨_, rfl, by rw [HD.out]; simp, Same.refl _⟩
      · have HD := hidden (hd.2 hx HT.out)
        have hx' : ¬ n = x := fun e => hx e.symm
        clear hd
        go_wp2
        go_round
        case rel => exact ⟨j + 1, by omega, by go_num, HD.out⟩
        case measure => simp [intOf]; omega
    · go_wp2
      go_ret
      have e : j = len := by omega
      subst e
      rw [List.take_of_length_le (by omega)] at ht
      exact ⟨_, rfl, by rw [ht]; rfl, Same.refl _⟩

theorem slicesContains_any (w : World) (a : Option Addr) (len cap : Nat) (zs : List Int) (n : Int) (hz : zs.length = len) (hr : Reads .i64 w a zs) (hlen : len ≤ 2097152) :
    Calls Tryz.prog 223 #[.slice a len cap, .int .i64 n] w fun e w' => e = .returned (.bool (inL zs n)) ∧ Same w w' := by
  go_enter Tryz.func223, Tryz.ntmps223
  go_wp2_with fail
  refine (slicesIndex_any _ _ _ _ zs n hz hr hlen).mono ?_
  rintro e w1 ⟨r, rfl, hr1, hs1⟩
  go_wp2
  go_ret
  exact ⟨ret_bool (by rw [← hr1]), hs1⟩

set_option maxHeartbeats 3200000 in
theorem implReadSec_any (w : World) (E : TypeId) (a0 a1 a3 : Option Addr) (n0 c0 n1 c1 n3 c3 : Nat) (ss : List (List Int)) (cs : List (Int × List Int)) (f : Bool) (bs : List Int) (n : Int) (h0 : tIntSS.Rd w [.slice a0 n0 c0] ss) (h1 : (tWrS E).Rd w [.slice a1 n1 c1] cs) (h3 : tIntS.Rd w [.slice a3 n3 c3] bs) (hw : wtMem (ss, cs, f, bs) ≤ 2097152) :
    Calls Tryz.prog 222 #[.agg #[.slice a0 n0 c0, .slice a1 n1 c1, .bool f, .slice a3 n3 c3], .int .i64 n] w fun e w' => ∃ a' l c', e = .returned (.tuple #[.slice a' l c', .bool (readOk ss cs f bs n)]) ∧ tIntS.Own w' w.heap.size w'.heap.size [.slice a' l c'] (readD ss cs f bs n) ∧ Below w.heap.size w w' := by
  obtain ⟨hl0, _, hm0⟩ := row_length h0
  obtain ⟨hl1, _, hm1⟩ := row_length h1
  obtain ⟨hl3, _, hm3⟩ := row_length h3
  have hw3 : n3 ≤ 2097152 := by unfold wtMem at hw; simp only at hw; omega
  have hw0 : wtIntSS ss ≤ 2097152 := by unfold wtMem at hw; simp only at hw; omega
  have hw1 : wtWrS cs ≤ 2097152 := by unfold wtMem at hw; simp only at hw; omega
  have hn0 : n0 ≤ 2097152 := by unfold wtIntSS at hw0; omega
  have hn1 : n1 ≤ 2097152 := by unfold wtWrS at hw1; omega
  have hA : Below w.heap.size w (w.alloc (.cells #[.slice a0 n0 c0, .slice a1 n1 c1, .bool f, .slice a3 n3 c3] 87)) := (Below.refl _ _).alloc (Nat.le_refl _) _
  have xm := Box.new w 87 #[.slice a0 n0 c0, .slice a1 n1 c1, .bool f, .slice a3 n3 c3]
  have g0 := h0.below hA
  have g1 := h1.below hA
  have g3 := h3.below hA
  obtain ⟨q0, q1, q2, q3⟩ := xm.cells4
  have zm := xm.lt
  have fin : ∀ w1, Below w.heap.size w w1 → tIntS.Own (w1.alloc (.cells #[] 3)) w.heap.size (w1.alloc (.cells #[] 3)).heap.size [.slice (some ⟨w1.heap.size, 0, none⟩) 0 0] [] ∧ Below w.heap.size w (w1.alloc (.cells #[] 3)) := by
    intro w1 hb
    have hs := hb.size
    exact ⟨(own_ints (Owns.lit .i64 3 w1 [] 0 #[] rfl rfl (by unfold maxLen; omega))).widen hs (Nat.le_refl _), hb.alloc hb.size _⟩
  by_cases hM : memB ss cs bs = true
  · by_cases hf : f = true
    · subst hf
      have hro : readOk ss cs true bs n = false := by unfold readOk; rw [hM]; rfl
      have hrd : readD ss cs true bs n = [] := by unfold readD; rw [hro]; rfl
      rw [hro, hrd]
      clear hro hrd
      go_enter Tryz.func222, Tryz.ntmps222
      go_wp2_with fail
      generalize hW : w.alloc (.cells #[.slice a0 n0 c0, .slice a1 n1 c1, .bool true, .slice a3 n3 c3] 87) = W at hA g0 g1 g3 q0 q1 q2 q3 zm ⊢
      clear hW xm
      refine (implMemOk_any _ E _ _ _ _ _ _ _ _ _ ss cs true bs g0 g1 g3 hw).mono ?_
      rintro e w1 ⟨rfl, b1⟩
      have r0 := (b1.cell (p := ⟨w.heap.size, 0, none⟩) zm).trans q0
      have r1 := (b1.cell (p := ⟨w.heap.size, 1, none⟩) zm).trans q1
      have r2 := (b1.cell (p := ⟨w.heap.size, 2, none⟩) zm).trans q2
      have r3 := (b1.cell (p := ⟨w.heap.size, 3, none⟩) zm).trans q3
      have B1 := Below.andThen hA b1
      have z1 := Nat.lt_of_lt_of_le zm b1.size
      clear q0 q1 q2 q3
      go_wp2
      go_ret2
      exact ⟨_, _, _, rfl, (fin _ B1).1, (fin _ B1).2⟩
    · have hf : f = false := by simpa using hf
      subst hf
      by_cases hI : inB n 0 ((n0 : Int) - 1) = true
      · by_cases hB : inL bs n = true
        · have hro : readOk ss cs false bs n = false := by unfold readOk; rw [hM, hl0, hI, hB]; rfl
          have hrd : readD ss cs false bs n = [] := by unfold readD; rw [hro]; rfl
          rw [hro, hrd]
          clear hro hrd
          go_enter Tryz.func222, Tryz.ntmps222
          go_wp2_with fail
          generalize hW : w.alloc (.cells #[.slice a0 n0 c0, .slice a1 n1 c1, .bool false, .slice a3 n3 c3] 87) = W at hA g0 g1 g3 q0 q1 q2 q3 zm ⊢
          clear hW xm
          refine (implMemOk_any _ E _ _ _ _ _ _ _ _ _ ss cs false bs g0 g1 g3 hw).mono ?_
          rintro e w1 ⟨rfl, b1⟩
          have r0 := (b1.cell (p := ⟨w.heap.size, 0, none⟩) zm).trans q0
          have r1 := (b1.cell (p := ⟨w.heap.size, 1, none⟩) zm).trans q1
          have r2 := (b1.cell (p := ⟨w.heap.size, 2, none⟩) zm).trans q2
          have r3 := (b1.cell (p := ⟨w.heap.size, 3, none⟩) zm).trans q3
          have B1 := Below.andThen hA b1
          have z1 := Nat.lt_of_lt_of_le zm b1.size
          clear q0 q1 q2 q3
          go_wp2_with fail
          refine (hasSec_any _ _ _ _ _ _ _ _).mono ?_
          rintro e w2 ⟨rfl, b2⟩
          have t0 := (b2.cell (p := ⟨w.heap.size, 0, none⟩) z1).trans r0
          have t1 := (b2.cell (p := ⟨w.heap.size, 1, none⟩) z1).trans r1
          have t3 := (b2.cell (p := ⟨w.heap.size, 3, none⟩) z1).trans r3
          have B2 := Below.andThen B1 b2
          have z2 := Nat.lt_of_lt_of_le z1 b2.size
          have k3 := g3.below (Below.andThen b1 b2)
          clear r0 r1 r2 r3
          go_wp2_with fail
          refine (slicesContains_any _ _ _ _ bs _ hl3 (ints_rd k3).1 hw3).mono ?_
          rintro e w3 ⟨rfl, s3⟩
          have B3 := Below.andSame B2 s3
          go_wp2
          go_ret2
          exact ⟨_, _, _, rfl, (fin _ B3).1, (fin _ B3).2⟩
        · have hB : inL bs n = false := by simpa using hB
          have hro : readOk ss cs false bs n = true := by unfold readOk; rw [hM, hl0, hI, hB]; rfl
          have hrd : readD ss cs false bs n = (lastW cs n).getD (secAt ss n) := by unfold readD; rw [hro]; rfl
          rw [hro, hrd]
          clear hro hrd
          have hI' : 0 ≤ n ∧ n ≤ (n0 : Int) - 1 := by unfold inB at hI; simpa using hI
          obtain ⟨k, rfl⟩ : ∃ k : Nat, n = (k : Int) := ⟨n.toNat, by omega⟩
          have hk : k < n0 := by omega
          go_enter Tryz.func222, Tryz.ntmps222
          go_wp2_with fail
          generalize hW : w.alloc (.cells #[.slice a0 n0 c0, .slice a1 n1 c1, .bool false, .slice a3 n3 c3] 87) = W at hA g0 g1 g3 q0 q1 q2 q3 zm ⊢
          clear hW xm
          refine (implMemOk_any _ E _ _ _ _ _ _ _ _ _ ss cs false bs g0 g1 g3 hw).mono ?_
          rintro e w1 ⟨rfl, b1⟩
          have r0 := (b1.cell (p := ⟨w.heap.size, 0, none⟩) zm).trans q0
          have r1 := (b1.cell (p := ⟨w.heap.size, 1, none⟩) zm).trans q1
          have r2 := (b1.cell (p := ⟨w.heap.size, 2, none⟩) zm).trans q2
          have r3 := (b1.cell (p := ⟨w.heap.size, 3, none⟩) zm).trans q3
          have B1 := Below.andThen hA b1
          have z1 := Nat.lt_of_lt_of_le zm b1.size
          clear q0 q1 q2 q3
          go_wp2_with fail
          refine (hasSec_any _ _ _ _ _ _ _ _).mono ?_
          rintro e w2 ⟨rfl, b2⟩
          have t0 := (b2.cell (p := ⟨w.heap.size, 0, none⟩) z1).trans r0
          have t1 := (b2.cell (p := ⟨w.heap.size, 1, none⟩) z1).trans r1
          have t3 := (b2.cell (p := ⟨w.heap.size, 3, none⟩) z1).trans r3
          have B2 := Below.andThen B1 b2
          have z2 := Nat.lt_of_lt_of_le z1 b2.size
          have k3 := g3.below (Below.andThen b1 b2)
          clear r0 r1 r2 r3
          go_wp2_with fail
          refine (slicesContains_any _ _ _ _ bs _ hl3 (ints_rd k3).1 hw3).mono ?_
          rintro e w3 ⟨rfl, s3⟩
          have B3 := Below.andSame B2 s3
          have m0 := (s3.cell _).trans t0
          have m1 := (s3.cell _).trans t1
          have b3 := Below.andSame (Below.andThen b1 b2) s3
          have y1 := g1.below b3
          rcases rows_at rfl g0 with h0' | ⟨b, off, rfl, hbl, hcs⟩
          · omega
          have hdj : ss[k]? = some (ss[k]'(by omega)) := List.getElem?_eq_getElem (by omega)
          generalize ss[k]'(by omega) = x at hdj
          have hil := inner_le hdj
          obtain ⟨v, hv, hrv⟩ := hcs k x hdj
          obtain ⟨av, cv, rfl⟩ := row_shape hrv
          have mv := (b3.cell (p := ⟨b, off + k, none⟩) hbl).trans hv
          have hrx := hrv.below b3
          have hgx : secAt ss (k : Int) = x := by unfold secAt; rw [Int.toNat_natCast, List.getD_eq_getElem?_getD, hdj]; rfl
          have HGX := hidden hgx
          have HX := hidden hrx
          have HB3 := hidden B3
          have i1 : (0 : Int) ≤ (k : Int) := by omega
          have i2 : (k : Int) < (n0 : Int) := by omega
          have zb3 : b < w3.heap.size := Nat.lt_of_lt_of_le hbl b3.size
          have z3 : w.heap.size < w3.heap.size := Nat.lt_of_lt_of_le zm b3.size
          have hwr := mem_writes hM
          have hk20 := mem_secs hM
          clear hcs hdj hv hrv hgx hrx B3 b3 t0 t1 t3 g0 g1 g3 k3 B1 B2 b1 b2 s3 hA fin hB hI hI' hM
          go_wp2_with fail
          refine (newest_any _ E _ _ _ cs y1 hn1 hwr).mono ?_
          rintro e w4 ⟨rfl, b4, D, hown, hL⟩
          have n0' := (b4.cell (p := ⟨w.heap.size, 0, none⟩) z3).trans m0
          have nv := (b4.cell (p := ⟨b, off + k, none⟩) zb3).trans mv
          have HB4 := hidden (Below.andThen HB3.out b4)
          have HX4 := hidden (HX.out.below b4)
          have HOW := hidden hown
          have HL := hidden hL
          have HKEY := hidden (key_int (q := (k : Int)) (by omega) (by omega))
          have B4L := hidden b4
          clear m0 m1 mv b4 hown hL y1 HB3 HX
          cases hlw : lastW cs (k : Int) with
          | none =>
            have HZ : Hid ((lastW cs (k : Int)).getD (secAt ss (k : Int)) = x) := by unfold Hid; rw [hlw, HGX.out]; rfl
            have HLW := hidden hlw
            clear hlw
            have hX : Below w4.heap.size w4 (w4.alloc (.cells #[.int .i64 0, .slice none 0 0] 123)) := (Below.refl _ _).alloc (Nat.le_refl _) _
            have z4 := HB4.out.size
            have z34 := B4L.out.size
            have p0 := (hX.cell (p := ⟨w.heap.size, 0, none⟩) (by simp only; omega)).trans n0'
            have pv := (hX.cell (p := ⟨b, off + k, none⟩) (by simp only; omega)).trans nv
            have HX5 := hidden (HX4.out.below hX)
            have HB5 := hidden (Below.andThen HB4.out hX)
            clear hX
            go_wp2_with (at_lookup; refine look_none rfl _ _ rfl w3.heap.size n1 D w3 cs (k : Int) rfl HOW.out rfl HKEY.out HL.out HLW.out ?_)
            refine (copyWords_any _ _ _ _ x HX5.out (by omega)).mono ?_
            rintro e w5 ⟨a5, c5, rfl, o5, b5⟩
            have hsz := HB5.out.size
            go_wp2
            go_ret2
            exact ⟨_, _, _, rfl, by rw [HZ.out]; exact o5.widen hsz (Nat.le_refl _), Below.andThen HB5.out b5⟩
          | some zs =>
            have HZ : Hid ((lastW cs (k : Int)).getD (secAt ss (k : Int)) = zs) := by unfold Hid; rw [hlw]; rfl
            have HLW := hidden hlw
            have hzl : zs.length ≤ 2097152 := lastW_le hw1 hlw
            clear hlw
            go_wp2_with (at_lookup; refine look_some rfl _ _ rfl w3.heap.size n1 D w3 cs (k : Int) zs rfl HOW.out rfl HKEY.out HL.out HLW.out ?_; intro a9 c9 h9; have H9 := hidden (h9.below B4L.out); clear h9)
            have hX : Below w4.heap.size w4 (w4.alloc (.cells #[.int .i64 (k : Int), .slice a9 zs.length c9] 123)) := (Below.refl _ _).alloc (Nat.le_refl _) _
            have HB5 := hidden (Below.andThen HB4.out hX)
            refine (copyWords_any _ _ _ _ zs (H9.out.below hX) (by omega)).mono ?_
            rintro e w5 ⟨a5, c5, rfl, o5, b5⟩
            have hsz := HB5.out.size
            go_wp2
            go_ret2
            exact ⟨_, _, _, rfl, by rw [HZ.out]; exact o5.widen hsz (Nat.le_refl _), Below.andThen HB5.out b5⟩
      · have hI : inB n 0 ((n0 : Int) - 1) = false := by simpa using hI
        have hro : readOk ss cs false bs n = false := by unfold readOk; rw [hM, hl0, hI]; rfl
        have hrd : readD ss cs false bs n = [] := by unfold readD; rw [hro]; rfl
        rw [hro, hrd]
        clear hro hrd
        go_enter Tryz.func222, Tryz.ntmps222
        go_wp2_with fail
        generalize hW : w.alloc (.cells #[.slice a0 n0 c0, .slice a1 n1 c1, .bool false, .slice a3 n3 c3] 87) = W at hA g0 g1 g3 q0 q1 q2 q3 zm ⊢
        clear hW xm
        refine (implMemOk_any _ E _ _ _ _ _ _ _ _ _ ss cs false bs g0 g1 g3 hw).mono ?_
        rintro e w1 ⟨rfl, b1⟩
        have r0 := (b1.cell (p := ⟨w.heap.size, 0, none⟩) zm).trans q0
        have r1 := (b1.cell (p := ⟨w.heap.size, 1, none⟩) zm).trans q1
        have r2 := (b1.cell (p := ⟨w.heap.size, 2, none⟩) zm).trans q2
        have r3 := (b1.cell (p := ⟨w.heap.size, 3, none⟩) zm).trans q3
        have B1 := Below.andThen hA b1
        have z1 := Nat.lt_of_lt_of_le zm b1.size
        clear q0 q1 q2 q3
        go_wp2_with fail
        refine (hasSec_any _ _ _ _ _ _ _ _).mono ?_
        rintro e w2 ⟨rfl, b2⟩
        have t0 := (b2.cell (p := ⟨w.heap.size, 0, none⟩) z1).trans r0
        have t1 := (b2.cell (p := ⟨w.heap.size, 1, none⟩) z1).trans r1
        have t3 := (b2.cell (p := ⟨w.heap.size, 3, none⟩) z1).trans r3
        have B2 := Below.andThen B1 b2
        have z2 := Nat.lt_of_lt_of_le z1 b2.size
        have k3 := g3.below (Below.andThen b1 b2)
        clear r0 r1 r2 r3
        go_wp2
        go_ret2
        exact ⟨_, _, _, rfl, (fin _ B2).1, (fin _ B2).2⟩
  · have hM : memB ss cs bs = false := by simpa using hM
    have hro : readOk ss cs f bs n = false := by unfold readOk; rw [hM]; rfl
    have hrd : readD ss cs f bs n = [] := by unfold readD; rw [hro]; rfl
    rw [hro, hrd]
    clear hro hrd
    go_enter Tryz.func222, Tryz.ntmps222
    go_wp2_with fail
    generalize hW : w.alloc (.cells #[.slice a0 n0 c0, .slice a1 n1 c1, .bool f, .slice a3 n3 c3] 87) = W at hA g0 g1 g3 q0 q1 q2 q3 zm ⊢
    clear hW xm
    refine (implMemOk_any _ E _ _ _ _ _ _ _ _ _ ss cs f bs g0 g1 g3 hw).mono ?_
    rintro e w1 ⟨rfl, b1⟩
    have r0 := (b1.cell (p := ⟨w.heap.size, 0, none⟩) zm).trans q0
    have r1 := (b1.cell (p := ⟨w.heap.size, 1, none⟩) zm).trans q1
    have r2 := (b1.cell (p := ⟨w.heap.size, 2, none⟩) zm).trans q2
    have r3 := (b1.cell (p := ⟨w.heap.size, 3, none⟩) zm).trans q3
    have B1 := Below.andThen hA b1
    have z1 := Nat.lt_of_lt_of_le zm b1.size
    clear q0 q1 q2 q3
    go_wp2
    go_ret2
    exact ⟨_, _, _, rfl, (fin _ B1).1, (fin _ B1).2⟩

end Go.Proofs.YtjmjianlcoleaaaGreat

/-
  The walks of the program's states of a disk: which one it is in, whether it bears a stripe, and what it reads. Condition: the array weighs at most 2097152.
-/
namespace Go.Proofs.YtjmjianlcoleaaaGreat
open Go.RowKit

set_option maxHeartbeats 800000 in
theorem hasDisk_any (w : World) (x : ArrN) (am ad : Option Addr) (nm cm nd cd : Nat) (m : Int) :
    Calls Tryz.prog 182 #[.agg #[.int .i64 x.id, .int .i64 x.n, .int .i64 x.s, .slice am nm cm, .int .i64 x.lost, .int .i64 x.built, .int .i64 x.seq, .int .i64 x.tail, .int .i64 x.gen, .slice ad nd cd, .int .i64 x.fuse, .bool x.down, .bool x.broken], .int .i64 m] w fun e w' => e = .returned (.bool (inB m 0 ((nm : Int) - 1))) ∧ Below w.heap.size w w' := by
  have hA := new_below w (.cells #[.int .i64 x.id, .int .i64 x.n, .int .i64 x.s, .slice am nm cm, .int .i64 x.lost, .int .i64 x.built, .int .i64 x.seq, .int .i64 x.tail, .int .i64 x.gen, .slice ad nd cd, .int .i64 x.fuse, .bool x.down, .bool x.broken] 35)
  have X := Box.new w 35 #[.int .i64 x.id, .int .i64 x.n, .int .i64 x.s, .slice am nm cm, .int .i64 x.lost, .int .i64 x.built, .int .i64 x.seq, .int .i64 x.tail, .int .i64 x.gen, .slice ad nd cd, .int .i64 x.fuse, .bool x.down, .bool x.broken]
  have k3 := X.cells13.2.2.2.1
  have HI : Hid (inB m 0 ((nm : Int) - 1) = (decide (0 ≤ m) && decide (m < (nm : Int)))) := by
    unfold Hid inB
    congr 1
    rw [decide_eq_decide]
    omega
  by_cases h : 0 ≤ m
  · by_cases h2 : m < (nm : Int)
    · go_enter Tryz.func182, Tryz.ntmps182
      go_wp2
      go_ret
      exact ⟨ret_bool (by rw [HI.out]; simp [h, h2]), hA⟩
    · go_enter Tryz.func182, Tryz.ntmps182
      go_wp2
      go_ret
      exact ⟨ret_bool (by rw [HI.out]; simp [h2]), hA⟩
  · go_enter Tryz.func182, Tryz.ntmps182
    go_wp2
    go_ret
    exact ⟨ret_bool (by rw [HI.out, show decide (0 ≤ m) = false from (by simpa using h)]; rfl), hA⟩

/-- A disk in its state: Failed, Lost, sound. -/
def DiskV (w : World) (E : TypeId) (x : ArrN) (ms : List MemD) (j : Nat) (v : Value) : Prop :=
  ∃ (a0 a1 a3 : Option Addr) (c0 c1 c3 : Nat) (ss : List (List Int)) (cs : List (Int × List Int)) (f : Bool) (bs : List Int), ms[j]? = some (ss, cs, f, bs) ∧ tIntSS.Rd w [.slice a0 ss.length c0] ss ∧ (tWrS E).Rd w [.slice a1 cs.length c1] cs ∧ tIntS.Rd w [.slice a3 bs.length c3] bs ∧
    ((f = true ∧ v = .iface 165 (.agg #[])) ∨ (f = false ∧ (j : Int) = x.lost ∧ v = .iface 167 (.agg #[.slice a0 ss.length c0, .slice a1 cs.length c1, .bool false, .slice a3 bs.length c3, .int .i64 x.built])) ∨ (f = false ∧ ¬ (j : Int) = x.lost ∧ v = .iface 169 (.agg #[.slice a0 ss.length c0, .slice a1 cs.length c1, .bool false, .slice a3 bs.length c3])))

set_option maxHeartbeats 1600000 in
theorem diskAt_any (w : World) (E F : TypeId) (x : ArrN) (am ad : Option Addr) (nm cm nd cd : Nat) (ms : List MemD) (j : Nat) (h0 : (tMemS E F).Rd w [.slice am nm cm] ms) (hw : wtMemS ms ≤ 2097152) (hj : j < nm) :
    Calls Tryz.prog 138 #[.agg #[.int .i64 x.id, .int .i64 x.n, .int .i64 x.s, .slice am nm cm, .int .i64 x.lost, .int .i64 x.built, .int .i64 x.seq, .int .i64 x.tail, .int .i64 x.gen, .slice ad nd cd, .int .i64 x.fuse, .bool x.down, .bool x.broken], .int .i64 (j : Int)] w fun e w' => ∃ v, e = .returned v ∧ DiskV w' E x ms j v ∧ Below w.heap.size w w' := by
  obtain ⟨hl, hc, hm⟩ := row_length h0
  have hnm : nm ≤ 2097152 := by unfold wtMemS at hw; omega
  have hA := new_below w (.cells #[.int .i64 x.id, .int .i64 x.n, .int .i64 x.s, .slice am nm cm, .int .i64 x.lost, .int .i64 x.built, .int .i64 x.seq, .int .i64 x.tail, .int .i64 x.gen, .slice ad nd cd, .int .i64 x.fuse, .bool x.down, .bool x.broken] 35)
  have X := Box.new w 35 #[.int .i64 x.id, .int .i64 x.n, .int .i64 x.s, .slice am nm cm, .int .i64 x.lost, .int .i64 x.built, .int .i64 x.seq, .int .i64 x.tail, .int .i64 x.gen, .slice ad nd cd, .int .i64 x.fuse, .bool x.down, .bool x.broken]
  obtain ⟨k0, k1, k2, k3, k4, k5, k6, k7, k8, k9, k10, k11, k12⟩ := X.cells13
  have h1 := h0.below hA
  have i1 : (0 : Int) ≤ (j : Int) := by omega
  have i2 : (j : Int) < (nm : Int) := by omega
  rcases quads_at rfl h1 with h0' | ⟨b, off, rfl, hbl, hcs⟩
  · omega
  have hdj : ms[j]? = some (ms[j]'(by omega)) := List.getElem?_eq_getElem (by omega)
  generalize ms[j]'(by omega) = d at hdj
  obtain ⟨v0, v1, v2, v3, hv0, hv1, hv2, hv3, hrv⟩ := hcs j d hdj
  obtain ⟨a0, c0, a1, c1, a3, c3, ss, cs, f, bs, rfl, rfl, rfl, rfl, rfl, r0, r1, r3⟩ := mem_at hrv
  clear hcs hrv h1 h0
  have HR := hidden (And.intro hdj (And.intro r0 (And.intro r1 r3)))
  clear hdj r0 r1 r3
  cases f
  · by_cases hjl : (j : Int) = x.lost
    · have e1 : ((j : Int) == x.lost) = true := by simpa using hjl
      have HJ := hidden hjl
      clear hjl
      go_enter Tryz.func138, Tryz.ntmps138
      go_wp2
      go_quiet (fail)
      go_wp2
      refine bodyPost_ret (v := .iface 167 (.agg #[.slice a0 ss.length c0, .slice a1 cs.length c1, .bool false, .slice a3 bs.length c3, .int .i64 x.built])) (by simp [results, Tryz.results138, go_sem]) rfl ?_
      exact ⟨_, rfl, ⟨_, _, _, _, _, _, ss, cs, false, bs, HR.out.1, HR.out.2.1.below (below_drewN (Below.refl _ _) _), HR.out.2.2.1.below (below_drewN (Below.refl _ _) _), HR.out.2.2.2.below (below_drewN (Below.refl _ _) _), .inr (.inl ⟨rfl, HJ.out, rfl⟩)⟩, below_drewN hA _⟩
    · have e1 : ((j : Int) == x.lost) = false := by simpa using hjl
      have HJ := hidden hjl
      clear hjl
      go_enter Tryz.func138, Tryz.ntmps138
      go_wp2
      refine bodyPost_ret (v := .iface 169 (.agg #[.slice a0 ss.length c0, .slice a1 cs.length c1, .bool false, .slice a3 bs.length c3])) (by simp [results, Tryz.results138, go_sem]) rfl ?_
      exact ⟨_, rfl, ⟨_, _, _, _, _, _, ss, cs, false, bs, HR.out.1, HR.out.2.1, HR.out.2.2.1, HR.out.2.2.2, .inr (.inr ⟨rfl, HJ.out, rfl⟩)⟩, hA⟩
  · go_enter Tryz.func138, Tryz.ntmps138
    go_wp2
    refine bodyPost_ret (v := .iface 165 (.agg #[])) (by simp [results, Tryz.results138, go_sem]) rfl ?_
    exact ⟨_, rfl, ⟨_, _, _, _, _, _, ss, cs, true, bs, HR.out.1, HR.out.2.1, HR.out.2.2.1, HR.out.2.2.2, .inl ⟨rfl, rfl⟩⟩, hA⟩

theorem is_sound (w : World) (v0 v1 v2 v3 : Value) : Sem.run Tryz.prog (Instr.typeAssert (.iface 169 (.agg #[v0, v1, v2, v3])) 147 169 true) w = .ok (.tuple #[.agg #[v0, v1, v2, v3], .bool true]) w := by kernel_rfl
theorem lost_sound (w : World) (v : Value) : Sem.run Tryz.prog (Instr.typeAssert (.iface 167 v) 147 169 true) w = .ok (.tuple #[.agg #[.slice none 0 0, .slice none 0 0, .bool false, .slice none 0 0], .bool false]) w := by kernel_rfl
theorem failed_sound (w : World) (v : Value) : Sem.run Tryz.prog (Instr.typeAssert (.iface 165 v) 147 169 true) w = .ok (.tuple #[.agg #[.slice none 0 0, .slice none 0 0, .bool false, .slice none 0 0], .bool false]) w := by kernel_rfl
theorem is_lost (w : World) (v0 v1 v2 v3 v4 : Value) : Sem.run Tryz.prog (Instr.typeAssert (.iface 167 (.agg #[v0, v1, v2, v3, v4])) 147 167 true) w = .ok (.tuple #[.agg #[v0, v1, v2, v3, v4], .bool true]) w := by kernel_rfl
theorem failed_lost (w : World) (v : Value) : Sem.run Tryz.prog (Instr.typeAssert (.iface 165 v) 147 167 true) w = .ok (.tuple #[.agg #[.slice none 0 0, .slice none 0 0, .bool false, .slice none 0 0, .int .i64 0], .bool false]) w := by kernel_rfl

set_option maxRecDepth 20000 in
set_option maxHeartbeats 800000 in
theorem bears_sound (w : World) (a0 a1 a3 : Option Addr) (n0 c0 n1 c1 n3 c3 : Nat) (f : Bool) (s : Int) : Calls Tryz.prog 166 #[.iface 169 (.agg #[.slice a0 n0 c0, .slice a1 n1 c1, .bool f, .slice a3 n3 c3]), .int .i64 s] w fun e w' => e = .returned (.bool true) ∧ Below w.heap.size w w' := by
  have hA := new_below w (.cells #[.slice a0 n0 c0, .slice a1 n1 c1, .bool f, .slice a3 n3 c3] 169)
  have s1 := is_sound w (.slice a0 n0 c0) (.slice a1 n1 c1) (.bool f) (.slice a3 n3 c3)
  go_enter Tryz.func166, Tryz.ntmps166
  go_wp2
  go_ret
  exact ⟨rfl, hA⟩
set_option maxRecDepth 20000 in
set_option maxHeartbeats 800000 in
theorem bears_lost (w : World) (a0 a1 a3 : Option Addr) (n0 c0 n1 c1 n3 c3 : Nat) (f : Bool) (b s : Int) : Calls Tryz.prog 166 #[.iface 167 (.agg #[.slice a0 n0 c0, .slice a1 n1 c1, .bool f, .slice a3 n3 c3, .int .i64 b]), .int .i64 s] w fun e w' => e = .returned (.bool (decide (s < b))) ∧ Below w.heap.size w w' := by
  have hA := new_below w (.cells #[.slice a0 n0 c0, .slice a1 n1 c1, .bool f, .slice a3 n3 c3, .int .i64 b] 167)
  have s1 := lost_sound w (.agg #[.slice a0 n0 c0, .slice a1 n1 c1, .bool f, .slice a3 n3 c3, .int .i64 b])
  have s2 := is_lost w (.slice a0 n0 c0) (.slice a1 n1 c1) (.bool f) (.slice a3 n3 c3) (.int .i64 b)
  go_enter Tryz.func166, Tryz.ntmps166
  go_wp2
  go_ret
  exact ⟨rfl, hA⟩
set_option maxRecDepth 20000 in
set_option maxHeartbeats 800000 in
theorem bears_failed (w : World) (s : Int) : Calls Tryz.prog 166 #[.iface 165 (.agg #[]), .int .i64 s] w fun e w' => e = .returned (.bool false) ∧ w' = w := by
  have s1 := failed_sound w (.agg #[])
  have s2 := failed_lost w (.agg #[])
  go_enter Tryz.func166, Tryz.ntmps166
  go_wp2
  go_ret
  exact ⟨rfl, rfl⟩

end Go.Proofs.YtjmjianlcoleaaaGreat

/-
  The walks of what a disk reads in each of its states, and of the word that it holds of a stripe. Condition: the disk weighs at most 2097152.
-/
namespace Go.Proofs.YtjmjianlcoleaaaGreat
open Go.RowKit

set_option maxHeartbeats 800000 in
theorem read_sound (w : World) (E : TypeId) (a0 a1 a3 : Option Addr) (n0 c0 n1 c1 n3 c3 : Nat) (ss : List (List Int)) (cs : List (Int × List Int)) (f : Bool) (bs : List Int) (n : Int) (h0 : tIntSS.Rd w [.slice a0 n0 c0] ss) (h1 : (tWrS E).Rd w [.slice a1 n1 c1] cs) (h3 : tIntS.Rd w [.slice a3 n3 c3] bs) (hw : wtMem (ss, cs, f, bs) ≤ 2097152) :
    Calls Tryz.prog 225 #[.agg #[.slice a0 n0 c0, .slice a1 n1 c1, .bool f, .slice a3 n3 c3], .int .i64 n] w fun e w' => ∃ a' l c', e = .returned (.tuple #[.slice a' l c', .bool (readOk ss cs f bs n)]) ∧ tIntS.Own w' w.heap.size w'.heap.size [.slice a' l c'] (readD ss cs f bs n) ∧ Below w.heap.size w w' := by
  have hA := new_below w (.cells #[.slice a0 n0 c0, .slice a1 n1 c1, .bool f, .slice a3 n3 c3] 169)
  have X := Box.new w 169 #[.slice a0 n0 c0, .slice a1 n1 c1, .bool f, .slice a3 n3 c3]
  have k0 := X.cell 0
  have k1 := X.cell 1
  have k2 := X.cell 2
  have k3 := X.cell 3
  have r0 := h0.below hA
  have r1 := h1.below hA
  have r3 := h3.below hA
  have zA := hA.size
  go_enter Tryz.func225, Tryz.ntmps225
  go_wp2_with fail
  refine (implReadSec_any _ E _ _ _ _ _ _ _ _ _ ss cs f bs n r0 r1 r3 hw).mono ?_
  rintro e w1 ⟨a', l, c', rfl, o1, b1⟩
  have HO := hidden (o1.widen (lo' := w.heap.size) zA (Nat.le_refl _))
  have HB := hidden (Below.andThen hA b1)
  clear o1 b1 k0 k1 k2 k3 r0 r1 r3 X
  go_wp2
  refine bodyPost_ret (v := .tuple #[.slice a' l c', .bool (readOk ss cs f bs n)]) (by simp [results, Tryz.results225, go_sem]) rfl ?_
  exact ⟨_, _, _, rfl, HO.out, HB.out⟩
set_option maxHeartbeats 800000 in
theorem read_lost (w : World) (E : TypeId) (a0 a1 a3 : Option Addr) (n0 c0 n1 c1 n3 c3 : Nat) (ss : List (List Int)) (cs : List (Int × List Int)) (f : Bool) (bs : List Int) (bu : Int) (n : Int) (h0 : tIntSS.Rd w [.slice a0 n0 c0] ss) (h1 : (tWrS E).Rd w [.slice a1 n1 c1] cs) (h3 : tIntS.Rd w [.slice a3 n3 c3] bs) (hw : wtMem (ss, cs, f, bs) ≤ 2097152) :
    Calls Tryz.prog 221 #[.agg #[.slice a0 n0 c0, .slice a1 n1 c1, .bool f, .slice a3 n3 c3, .int .i64 bu], .int .i64 n] w fun e w' => ∃ a' l c', e = .returned (.tuple #[.slice a' l c', .bool (readOk ss cs f bs n)]) ∧ tIntS.Own w' w.heap.size w'.heap.size [.slice a' l c'] (readD ss cs f bs n) ∧ Below w.heap.size w w' := by
  have hA := new_below w (.cells #[.slice a0 n0 c0, .slice a1 n1 c1, .bool f, .slice a3 n3 c3, .int .i64 bu] 167)
  have X := Box.new w 167 #[.slice a0 n0 c0, .slice a1 n1 c1, .bool f, .slice a3 n3 c3, .int .i64 bu]
  have k0 := X.cell 0
  have k1 := X.cell 1
  have k2 := X.cell 2
  have k3 := X.cell 3
  have r0 := h0.below hA
  have r1 := h1.below hA
  have r3 := h3.below hA
  have zA := hA.size
  go_enter Tryz.func221, Tryz.ntmps221
  go_wp2_with fail
  refine (implReadSec_any _ E _ _ _ _ _ _ _ _ _ ss cs f bs n r0 r1 r3 hw).mono ?_
  rintro e w1 ⟨a', l, c', rfl, o1, b1⟩
  have HO := hidden (o1.widen (lo' := w.heap.size) zA (Nat.le_refl _))
  have HB := hidden (Below.andThen hA b1)
  clear o1 b1 k0 k1 k2 k3 r0 r1 r3 X
  go_wp2
  refine bodyPost_ret (v := .tuple #[.slice a' l c', .bool (readOk ss cs f bs n)]) (by simp [results, Tryz.results221, go_sem]) rfl ?_
  exact ⟨_, _, _, rfl, HO.out, HB.out⟩
theorem read_failed (w : World) (n : Int) : Calls Tryz.prog 220 #[.agg #[], .int .i64 n] w fun e w' => ∃ a' c', e = .returned (.tuple #[.slice a' 0 c', .bool false]) ∧ Below w.heap.size w w' := by
  have hA := (new_below w (.cells #[] 165)).alloc (by simp) (.cells #[] 3)
  go_enter Tryz.func220, Tryz.ntmps220
  go_wp2
  refine bodyPost_ret (v := .tuple #[.slice (some ⟨w.heap.size + 1, 0, none⟩) 0 0, .bool false]) (by simp [results, Tryz.results220, go_sem]) rfl ?_
  exact ⟨_, _, rfl, hA⟩

theorem live_at6 {x : ArrN} {ms : List MemD} {j : Nat} {s : Int} {d : MemD} (h : ms[j]? = some d) : liveB x ms (j : Int) s = (!d.2.2.1 && (!decide ((j : Int) = x.lost) || decide (s < x.built))) := by
  have hj := (List.getElem?_eq_some_iff.1 h).1
  unfold liveB
  rw [show inB (j : Int) 0 ((ms.length : Int) - 1) = true from inB_iff.2 (by omega), Int.toNat_natCast, List.getD_eq_getElem?_getD, h]
  rfl
theorem memD_at6 {ms : List MemD} {j : Nat} {d : MemD} (h : ms[j]? = some d) : memD ms (j : Int) = d := by unfold memD; rw [Int.toNat_natCast, List.getD_eq_getElem?_getD, h]; rfl
theorem has_at6 {x : ArrN} {ms : List MemD} {j : Nat} {s : Int} {ss : List (List Int)} {cs : List (Int × List Int)} {f : Bool} {bs : List Int} (h : ms[j]? = some (ss, cs, f, bs)) : has6 x ms (j : Int) s = (liveB x ms (j : Int) s && (readOk ss cs f bs (dataN s) && decide ((readD ss cs f bs (dataN s)).length = 1))) ∧ (has6 x ms (j : Int) s = true → word6 x ms (j : Int) s = (readD ss cs f bs (dataN s)).getD 0 0) := by
  have hm := memD_at6 h
  have hsec : sec6 ms (j : Int) s = readD ss cs f bs (dataN s) := by unfold sec6; rw [hm]
  refine ⟨by unfold has6; rw [hsec, hm], fun h => by rw [word6_of h, hsec]⟩

set_option linter.unusedSimpArgs false in
set_option maxRecDepth 20000 in
set_option maxHeartbeats 3200000 in
theorem wordOn_failed (w : World) (x : ArrN) (ms : List MemD) (j : Nat) (s : Int) (hd : has6 x ms (j : Int) s = false) :
    Calls Tryz.prog 137 #[.iface 165 (.agg #[]), .int .i64 s] w fun e w' => e = .returned (.tuple #[.int .i64 (word6 x ms (j : Int) s), .bool (has6 x ms (j : Int) s)]) ∧ Below w.heap.size w w' := by
  have na : ∀ w, Sem.run Tryz.prog (nilAhead (311 + 1) 165 (.agg #[]) "loop.example/g00398/impl.read") w = .ok (some false) w := fun w => by kernel_rfl
  have HD := hidden hd
  clear hd
  go_enter Tryz.func137, Tryz.ntmps137
  go_wp2_with fail
  refine wp_region_held_drew (S := fun w' => Below w.heap.size w w') (by kernel_rfl) ?_ (fun hHeld => ?_)
  · exact (Below.refl _ _).drew
  refine held_take (i := 0) (v := ?_) rfl (by kernel_rfl) (by kernel_rfl) (by kernel_rfl) (fun _ _ _ h => h) (by kernel_rfl) ?_ hHeld ?_
  rotate_left 1
  · (intro w hSw; (try dsimp only at hSw); go_split_ands; go_simp; first | done | with_reducible rfl)
  simp only [Act.put, List.setIfInBounds_toArray, List.set_cons_zero, List.set_cons_succ]
  refine held_take (i := 1) (v := ?_) rfl (by kernel_rfl) (by kernel_rfl) (by kernel_rfl) (fun _ _ _ h => h) (by kernel_rfl) ?_ hHeld ?_
  rotate_left 1
  · (intro w hSw; (try dsimp only at hSw); go_split_ands; go_simp; first | done | with_reducible rfl)
  simp only [Act.put, List.setIfInBounds_toArray, List.set_cons_zero, List.set_cons_succ]
  refine held_take (i := 3) (v := ?_) rfl (by kernel_rfl) (by kernel_rfl) (by kernel_rfl) (fun _ _ _ h => h) (by kernel_rfl) ?_ hHeld ?_
  rotate_left 1
  · (intro w hSw; (try dsimp only at hSw); go_split_ands; go_simp; first | done | with_reducible rfl)
  simp only [Act.put, List.setIfInBounds_toArray, List.set_cons_zero, List.set_cons_succ]
  refine held_take (i := 4) (v := ?_) rfl (by kernel_rfl) (by kernel_rfl) (by kernel_rfl) (fun _ _ _ h => h) (by kernel_rfl) ?_ hHeld ?_
  rotate_left 1
  · (intro w hSw; (try dsimp only at hSw); go_split_ands; go_simp; first | done | with_reducible rfl)
  simp only [Act.put, List.setIfInBounds_toArray, List.set_cons_zero, List.set_cons_succ]
  refine held_take (i := 5) (v := ?_) rfl (by kernel_rfl) (by kernel_rfl) (by kernel_rfl) (fun _ _ _ h => h) (by kernel_rfl) ?_ hHeld ?_
  rotate_left 1
  · (intro w hSw; (try dsimp only at hSw); go_split_ands; go_simp; first | done | with_reducible rfl)
  simp only [Act.put, List.setIfInBounds_toArray, List.set_cons_zero, List.set_cons_succ]
  refine held_one (i := 2) (by kernel_rfl) rfl (by kernel_rfl) (fun K hK => ?_)
  go_simp
  refine (implDataAt_any _ _).mono ?_
  rintro e w1 ⟨rfl, h1⟩
  subst h1
  go_wp2_with fail
  clear hHeld
  refine hK.out _ _ ?_ (fun hHeld => ?_)
  · exact (Below.refl _ _).drew
  clear hK K
  refine held_one (i := 6) (by kernel_rfl) rfl (by kernel_rfl) (fun K hK => ?_)
  go_simp
  refine (read_failed _ _).mono ?_
  rintro e w2 ⟨a', c', rfl, b2⟩
  have b2' : Below w.heap.size w w2 := (Below.refl w.heap.size w).drew.trans b2
  clear b2
  go_wp2_with fail
  clear hHeld
  refine hK.out _ _ ?_ (fun hHeld => ?_)
  · exact b2'
  clear hK K
  refine held_take (i := 7) (v := ?_) rfl (by kernel_rfl) (by kernel_rfl) (by kernel_rfl) (fun _ _ _ h => h) (by kernel_rfl) ?_ hHeld ?_
  rotate_left 1
  · (intro w hSw; (try dsimp only at hSw); go_split_ands; go_simp; first | done | with_reducible rfl)
  simp only [Act.put, List.setIfInBounds_toArray, List.set_cons_zero, List.set_cons_succ]
  refine held_take (i := 8) (v := ?_) rfl (by kernel_rfl) (by kernel_rfl) (by kernel_rfl) (fun _ _ _ h => h) (by kernel_rfl) ?_ hHeld ?_
  rotate_left 1
  · (intro w hSw; (try dsimp only at hSw); go_split_ands; go_simp; first | done | with_reducible rfl)
  simp only [Act.put, List.setIfInBounds_toArray, List.set_cons_zero, List.set_cons_succ]
  refine held_take (i := 9) (v := ?_) rfl (by kernel_rfl) (by kernel_rfl) (by kernel_rfl) (fun _ _ _ h => h) (by kernel_rfl) ?_ hHeld ?_
  rotate_left 1
  · (intro w hSw; (try dsimp only at hSw); go_split_ands; go_simp; first | done | with_reducible rfl)
  simp only [Act.put, List.setIfInBounds_toArray, List.set_cons_zero, List.set_cons_succ]
  refine held_take (i := 10) (v := ?_) rfl (by kernel_rfl) (by kernel_rfl) (by kernel_rfl) (fun _ _ _ h => h) (by kernel_rfl) ?_ hHeld ?_
  rotate_left 1
  · (intro w hSw; (try dsimp only at hSw); go_split_ands; go_simp; first | done | with_reducible rfl)
  simp only [Act.put, List.setIfInBounds_toArray, List.set_cons_zero, List.set_cons_succ]
  refine held_take (i := 11) (v := ?_) rfl (by kernel_rfl) (by kernel_rfl) (by kernel_rfl) (fun _ _ _ h => h) (by kernel_rfl) ?_ hHeld ?_
  rotate_left 1
  · (intro w hSw; (try dsimp only at hSw); go_split_ands; go_simp; first | done | with_reducible rfl)
  simp only [Act.put, List.setIfInBounds_toArray, List.set_cons_zero, List.set_cons_succ]
  refine wpAnyH_done (by kernel_rfl) ?_ _
  clear hHeld
  have HB := hidden b2'
  go_wp2
  refine bodyPost_ret (v := .tuple #[.int .i64 0, .bool false]) (by simp [results, Tryz.results137, go_sem]) rfl ?_
  exact ⟨ret_word HD.out, HB.out⟩

set_option linter.unusedSimpArgs false in
set_option maxRecDepth 20000 in
set_option maxHeartbeats 3200000 in
theorem wordOn_lost (w : World) (E : TypeId) (x : ArrN) (ms : List MemD) (j : Nat) (s : Int) (a0 a1 a3 : Option Addr) (c0 c1 c3 : Nat) (ss : List (List Int)) (cs : List (Int × List Int)) (bs : List Int) (h0 : tIntSS.Rd w [.slice a0 ss.length c0] ss) (h1 : (tWrS E).Rd w [.slice a1 cs.length c1] cs) (h3 : tIntS.Rd w [.slice a3 bs.length c3] bs) (hw : wtMem (ss, cs, false, bs) ≤ 2097152) (hd : has6 x ms (j : Int) s = (decide (s < x.built) && (readOk ss cs false bs (dataN s) && decide ((readD ss cs false bs (dataN s)).length = 1)))) (hv : has6 x ms (j : Int) s = true → word6 x ms (j : Int) s = (readD ss cs false bs (dataN s)).getD 0 0) :
    Calls Tryz.prog 137 #[.iface 167 (.agg #[.slice a0 ss.length c0, .slice a1 cs.length c1, .bool false, .slice a3 bs.length c3, .int .i64 x.built]), .int .i64 s] w fun e w' => e = .returned (.tuple #[.int .i64 (word6 x ms (j : Int) s), .bool (has6 x ms (j : Int) s)]) ∧ Below w.heap.size w w' := by
  have na : ∀ w, Sem.run Tryz.prog (nilAhead (311 + 1) 167 (.agg #[.slice a0 ss.length c0, .slice a1 cs.length c1, .bool false, .slice a3 bs.length c3, .int .i64 x.built]) "loop.example/g00398/impl.read") w = .ok (some false) w := fun w => by kernel_rfl
  have HD := hidden hd
  have HV := hidden hv
  clear hd hv
  go_enter Tryz.func137, Tryz.ntmps137
  go_wp2_with fail
  refine wp_region_held_drew (S := fun w' => Below w.heap.size w w') (by kernel_rfl) ?_ (fun hHeld => ?_)
  · exact (Below.refl _ _).drew
  refine held_take (i := 0) (v := ?_) rfl (by kernel_rfl) (by kernel_rfl) (by kernel_rfl) (fun _ _ _ h => h) (by kernel_rfl) ?_ hHeld ?_
  rotate_left 1
  · (intro w hSw; (try dsimp only at hSw); go_split_ands; go_simp; first | done | with_reducible rfl)
  simp only [Act.put, List.setIfInBounds_toArray, List.set_cons_zero, List.set_cons_succ]
  refine held_take (i := 1) (v := ?_) rfl (by kernel_rfl) (by kernel_rfl) (by kernel_rfl) (fun _ _ _ h => h) (by kernel_rfl) ?_ hHeld ?_
  rotate_left 1
  · (intro w hSw; (try dsimp only at hSw); go_split_ands; go_simp; first | done | with_reducible rfl)
  simp only [Act.put, List.setIfInBounds_toArray, List.set_cons_zero, List.set_cons_succ]
  refine held_take (i := 3) (v := ?_) rfl (by kernel_rfl) (by kernel_rfl) (by kernel_rfl) (fun _ _ _ h => h) (by kernel_rfl) ?_ hHeld ?_
  rotate_left 1
  · (intro w hSw; (try dsimp only at hSw); go_split_ands; go_simp; first | done | with_reducible rfl)
  simp only [Act.put, List.setIfInBounds_toArray, List.set_cons_zero, List.set_cons_succ]
  refine held_take (i := 4) (v := ?_) rfl (by kernel_rfl) (by kernel_rfl) (by kernel_rfl) (fun _ _ _ h => h) (by kernel_rfl) ?_ hHeld ?_
  rotate_left 1
  · (intro w hSw; (try dsimp only at hSw); go_split_ands; go_simp; first | done | with_reducible rfl)
  simp only [Act.put, List.setIfInBounds_toArray, List.set_cons_zero, List.set_cons_succ]
  refine held_take (i := 5) (v := ?_) rfl (by kernel_rfl) (by kernel_rfl) (by kernel_rfl) (fun _ _ _ h => h) (by kernel_rfl) ?_ hHeld ?_
  rotate_left 1
  · (intro w hSw; (try dsimp only at hSw); go_split_ands; go_simp; first | done | with_reducible rfl)
  simp only [Act.put, List.setIfInBounds_toArray, List.set_cons_zero, List.set_cons_succ]
  refine held_one (i := 2) (by kernel_rfl) rfl (by kernel_rfl) (fun K hK => ?_)
  go_simp
  refine (implDataAt_any _ _).mono ?_
  rintro e w1 ⟨rfl, h1⟩
  subst h1
  go_wp2_with fail
  clear hHeld
  refine hK.out _ _ ?_ (fun hHeld => ?_)
  · exact (Below.refl _ _).drew
  clear hK K
  refine held_one (i := 6) (by kernel_rfl) rfl (by kernel_rfl) (fun K hK => ?_)
  go_simp
  refine (read_lost _ E _ _ _ _ _ _ _ _ _ ss cs false bs _ _ h0.drew h1.drew h3.drew hw).mono ?_
  rintro e w2 ⟨a', l, c', rfl, o2, b2⟩
  have b2' : Below w.heap.size w w2 := (Below.refl w.heap.size w).drew.trans b2
  clear b2
  go_wp2_with fail
  clear hHeld
  refine hK.out _ _ ?_ (fun hHeld => ?_)
  · exact b2'
  clear hK K
  refine held_take (i := 7) (v := ?_) rfl (by kernel_rfl) (by kernel_rfl) (by kernel_rfl) (fun _ _ _ h => h) (by kernel_rfl) ?_ hHeld ?_
  rotate_left 1
  · (intro w hSw; (try dsimp only at hSw); go_split_ands; go_simp; first | done | with_reducible rfl)
  simp only [Act.put, List.setIfInBounds_toArray, List.set_cons_zero, List.set_cons_succ]
  refine held_take (i := 8) (v := ?_) rfl (by kernel_rfl) (by kernel_rfl) (by kernel_rfl) (fun _ _ _ h => h) (by kernel_rfl) ?_ hHeld ?_
  rotate_left 1
  · (intro w hSw; (try dsimp only at hSw); go_split_ands; go_simp; first | done | with_reducible rfl)
  simp only [Act.put, List.setIfInBounds_toArray, List.set_cons_zero, List.set_cons_succ]
  refine held_take (i := 9) (v := ?_) rfl (by kernel_rfl) (by kernel_rfl) (by kernel_rfl) (fun _ _ _ h => h) (by kernel_rfl) ?_ hHeld ?_
  rotate_left 1
  · (intro w hSw; (try dsimp only at hSw); go_split_ands; go_simp; first | done | with_reducible rfl)
  simp only [Act.put, List.setIfInBounds_toArray, List.set_cons_zero, List.set_cons_succ]
  refine held_take (i := 10) (v := ?_) rfl (by kernel_rfl) (by kernel_rfl) (by kernel_rfl) (fun _ _ _ h => h) (by kernel_rfl) ?_ hHeld ?_
  rotate_left 1
  · (intro w hSw; (try dsimp only at hSw); go_split_ands; go_simp; first | done | with_reducible rfl)
  simp only [Act.put, List.setIfInBounds_toArray, List.set_cons_zero, List.set_cons_succ]
  refine held_take (i := 11) (v := ?_) rfl (by kernel_rfl) (by kernel_rfl) (by kernel_rfl) (fun _ _ _ h => h) (by kernel_rfl) ?_ hHeld ?_
  rotate_left 1
  · (intro w hSw; (try dsimp only at hSw); go_split_ands; go_simp; first | done | with_reducible rfl)
  simp only [Act.put, List.setIfInBounds_toArray, List.set_cons_zero, List.set_cons_succ]
  refine wpAnyH_done (by kernel_rfl) ?_ _
  clear hHeld
  have HO := hidden o2
  clear o2
  cases hok : readOk ss cs false bs (dataN s)
  · have HF : Hid (has6 x ms (j : Int) s = false) := by unfold Hid; rw [HD.out, hok]; simp
    go_wp2
    refine bodyPost_ret (v := .tuple #[.int .i64 0, .bool false]) (by simp [results, Tryz.results137, go_sem]) rfl ?_
    exact ⟨ret_word HF.out, b2'⟩
  · go_wp2_with fail
    refine (bears_lost _ _ _ _ _ _ _ _ _ _ _ _ _).mono ?_
    rintro e w3 ⟨rfl, b3⟩
    have B3 := hidden (Below.andThen b2' b3)
    have o3 := HO.out.below b3
    clear b3
    obtain ⟨hr, hln, _⟩ := ints_rd o3.rd
    cases hbu : decide (s < x.built)
    · have HF : Hid (has6 x ms (j : Int) s = false) := by unfold Hid; rw [HD.out, hbu]; rfl
      go_wp2
      refine bodyPost_ret (v := .tuple #[.int .i64 0, .bool false]) (by simp [results, Tryz.results137, go_sem]) rfl ?_
      exact ⟨ret_word HF.out, B3.out⟩
    · skip
      have HD2 : Hid (has6 x ms (j : Int) s = decide ((readD ss cs false bs (dataN s)).length = 1)) := by unfold Hid; rw [HD.out, hok, hbu]; simp
      generalize hps : readD ss cs false bs (dataN s) = ps at hr hln HD2 HV
      have HPS := hidden hps
      clear hps
      by_cases h1 : l = 1
      · subst h1
        have hT : has6 x ms (j : Int) s = true := by rw [HD2.out, hln]; rfl
        have hV := HV.out hT
        obtain ⟨y, rfl⟩ : ∃ y, ps = [y] := by match ps, hln with | [y], _ => exact ⟨y, rfl⟩
        rcases hr with h0' | ⟨b, off, rfl, hbl, hrr⟩
        · simp at h0'
        have hc : w3.cell? ⟨b, off, none⟩ = some (.int .i64 y) := hrr 0 (by simp)
        go_wp2
        refine bodyPost_ret (v := .tuple #[.int .i64 y, .bool true]) (by simp [results, Tryz.results137, go_sem]) rfl ?_
        exact ⟨by rw [hV, hT]; rfl, B3.out⟩
      · have HF : Hid (has6 x ms (j : Int) s = false) := by unfold Hid; rw [HD2.out, hln]; simpa using h1
        have hl1 : ((l : Int) == 1) = false := by simp; omega
        have hl2 : ((l : Int) != 1) = true := by simp; omega
        go_wp2
        refine bodyPost_ret (v := .tuple #[.int .i64 0, .bool false]) (by simp [results, Tryz.results137, go_sem]) rfl ?_
        exact ⟨ret_word HF.out, B3.out⟩

set_option linter.unusedSimpArgs false in
set_option maxRecDepth 20000 in
set_option maxHeartbeats 3200000 in
theorem wordOn_sound (w : World) (E : TypeId) (x : ArrN) (ms : List MemD) (j : Nat) (s : Int) (a0 a1 a3 : Option Addr) (c0 c1 c3 : Nat) (ss : List (List Int)) (cs : List (Int × List Int)) (bs : List Int) (h0 : tIntSS.Rd w [.slice a0 ss.length c0] ss) (h1 : (tWrS E).Rd w [.slice a1 cs.length c1] cs) (h3 : tIntS.Rd w [.slice a3 bs.length c3] bs) (hw : wtMem (ss, cs, false, bs) ≤ 2097152) (hd : has6 x ms (j : Int) s = (true && (readOk ss cs false bs (dataN s) && decide ((readD ss cs false bs (dataN s)).length = 1)))) (hv : has6 x ms (j : Int) s = true → word6 x ms (j : Int) s = (readD ss cs false bs (dataN s)).getD 0 0) :
    Calls Tryz.prog 137 #[.iface 169 (.agg #[.slice a0 ss.length c0, .slice a1 cs.length c1, .bool false, .slice a3 bs.length c3]), .int .i64 s] w fun e w' => e = .returned (.tuple #[.int .i64 (word6 x ms (j : Int) s), .bool (has6 x ms (j : Int) s)]) ∧ Below w.heap.size w w' := by
  have na : ∀ w, Sem.run Tryz.prog (nilAhead (311 + 1) 169 (.agg #[.slice a0 ss.length c0, .slice a1 cs.length c1, .bool false, .slice a3 bs.length c3]) "loop.example/g00398/impl.read") w = .ok (some false) w := fun w => by kernel_rfl
  have HD := hidden hd
  have HV := hidden hv
  clear hd hv
  go_enter Tryz.func137, Tryz.ntmps137
  go_wp2_with fail
  refine wp_region_held_drew (S := fun w' => Below w.heap.size w w') (by kernel_rfl) ?_ (fun hHeld => ?_)
  · exact (Below.refl _ _).drew
  refine held_take (i := 0) (v := ?_) rfl (by kernel_rfl) (by kernel_rfl) (by kernel_rfl) (fun _ _ _ h => h) (by kernel_rfl) ?_ hHeld ?_
  rotate_left 1
  · (intro w hSw; (try dsimp only at hSw); go_split_ands; go_simp; first | done | with_reducible rfl)
  simp only [Act.put, List.setIfInBounds_toArray, List.set_cons_zero, List.set_cons_succ]
  refine held_take (i := 1) (v := ?_) rfl (by kernel_rfl) (by kernel_rfl) (by kernel_rfl) (fun _ _ _ h => h) (by kernel_rfl) ?_ hHeld ?_
  rotate_left 1
  · (intro w hSw; (try dsimp only at hSw); go_split_ands; go_simp; first | done | with_reducible rfl)
  simp only [Act.put, List.setIfInBounds_toArray, List.set_cons_zero, List.set_cons_succ]
  refine held_take (i := 3) (v := ?_) rfl (by kernel_rfl) (by kernel_rfl) (by kernel_rfl) (fun _ _ _ h => h) (by kernel_rfl) ?_ hHeld ?_
  rotate_left 1
  · (intro w hSw; (try dsimp only at hSw); go_split_ands; go_simp; first | done | with_reducible rfl)
  simp only [Act.put, List.setIfInBounds_toArray, List.set_cons_zero, List.set_cons_succ]
  refine held_take (i := 4) (v := ?_) rfl (by kernel_rfl) (by kernel_rfl) (by kernel_rfl) (fun _ _ _ h => h) (by kernel_rfl) ?_ hHeld ?_
  rotate_left 1
  · (intro w hSw; (try dsimp only at hSw); go_split_ands; go_simp; first | done | with_reducible rfl)
  simp only [Act.put, List.setIfInBounds_toArray, List.set_cons_zero, List.set_cons_succ]
  refine held_take (i := 5) (v := ?_) rfl (by kernel_rfl) (by kernel_rfl) (by kernel_rfl) (fun _ _ _ h => h) (by kernel_rfl) ?_ hHeld ?_
  rotate_left 1
  · (intro w hSw; (try dsimp only at hSw); go_split_ands; go_simp; first | done | with_reducible rfl)
  simp only [Act.put, List.setIfInBounds_toArray, List.set_cons_zero, List.set_cons_succ]
  refine held_one (i := 2) (by kernel_rfl) rfl (by kernel_rfl) (fun K hK => ?_)
  go_simp
  refine (implDataAt_any _ _).mono ?_
  rintro e w1 ⟨rfl, h1⟩
  subst h1
  go_wp2_with fail
  clear hHeld
  refine hK.out _ _ ?_ (fun hHeld => ?_)
  · exact (Below.refl _ _).drew
  clear hK K
  refine held_one (i := 6) (by kernel_rfl) rfl (by kernel_rfl) (fun K hK => ?_)
  go_simp
  refine (read_sound _ E _ _ _ _ _ _ _ _ _ ss cs false bs _ h0.drew h1.drew h3.drew hw).mono ?_
  rintro e w2 ⟨a', l, c', rfl, o2, b2⟩
  have b2' : Below w.heap.size w w2 := (Below.refl w.heap.size w).drew.trans b2
  clear b2
  go_wp2_with fail
  clear hHeld
  refine hK.out _ _ ?_ (fun hHeld => ?_)
  · exact b2'
  clear hK K
  refine held_take (i := 7) (v := ?_) rfl (by kernel_rfl) (by kernel_rfl) (by kernel_rfl) (fun _ _ _ h => h) (by kernel_rfl) ?_ hHeld ?_
  rotate_left 1
  · (intro w hSw; (try dsimp only at hSw); go_split_ands; go_simp; first | done | with_reducible rfl)
  simp only [Act.put, List.setIfInBounds_toArray, List.set_cons_zero, List.set_cons_succ]
  refine held_take (i := 8) (v := ?_) rfl (by kernel_rfl) (by kernel_rfl) (by kernel_rfl) (fun _ _ _ h => h) (by kernel_rfl) ?_ hHeld ?_
  rotate_left 1
  · (intro w hSw; (try dsimp only at hSw); go_split_ands; go_simp; first | done | with_reducible rfl)
  simp only [Act.put, List.setIfInBounds_toArray, List.set_cons_zero, List.set_cons_succ]
  refine held_take (i := 9) (v := ?_) rfl (by kernel_rfl) (by kernel_rfl) (by kernel_rfl) (fun _ _ _ h => h) (by kernel_rfl) ?_ hHeld ?_
  rotate_left 1
  · (intro w hSw; (try dsimp only at hSw); go_split_ands; go_simp; first | done | with_reducible rfl)
  simp only [Act.put, List.setIfInBounds_toArray, List.set_cons_zero, List.set_cons_succ]
  refine held_take (i := 10) (v := ?_) rfl (by kernel_rfl) (by kernel_rfl) (by kernel_rfl) (fun _ _ _ h => h) (by kernel_rfl) ?_ hHeld ?_
  rotate_left 1
  · (intro w hSw; (try dsimp only at hSw); go_split_ands; go_simp; first | done | with_reducible rfl)
  simp only [Act.put, List.setIfInBounds_toArray, List.set_cons_zero, List.set_cons_succ]
  refine held_take (i := 11) (v := ?_) rfl (by kernel_rfl) (by kernel_rfl) (by kernel_rfl) (fun _ _ _ h => h) (by kernel_rfl) ?_ hHeld ?_
  rotate_left 1
  · (intro w hSw; (try dsimp only at hSw); go_split_ands; go_simp; first | done | with_reducible rfl)
  simp only [Act.put, List.setIfInBounds_toArray, List.set_cons_zero, List.set_cons_succ]
  refine wpAnyH_done (by kernel_rfl) ?_ _
  clear hHeld
  have HO := hidden o2
  clear o2
  cases hok : readOk ss cs false bs (dataN s)
  · have HF : Hid (has6 x ms (j : Int) s = false) := by unfold Hid; rw [HD.out, hok]; simp
    go_wp2
    refine bodyPost_ret (v := .tuple #[.int .i64 0, .bool false]) (by simp [results, Tryz.results137, go_sem]) rfl ?_
    exact ⟨ret_word HF.out, b2'⟩
  · go_wp2_with fail
    refine (bears_sound _ _ _ _ _ _ _ _ _ _ _ _).mono ?_
    rintro e w3 ⟨rfl, b3⟩
    have B3 := hidden (Below.andThen b2' b3)
    have o3 := HO.out.below b3
    clear b3
    obtain ⟨hr, hln, _⟩ := ints_rd o3.rd
    have HD2 : Hid (has6 x ms (j : Int) s = decide ((readD ss cs false bs (dataN s)).length = 1)) := by unfold Hid; rw [HD.out, hok]; simp
    generalize hps : readD ss cs false bs (dataN s) = ps at hr hln HD2 HV
    have HPS := hidden hps
    clear hps
    by_cases h1 : l = 1
    · subst h1
      have hT : has6 x ms (j : Int) s = true := by rw [HD2.out, hln]; rfl
      have hV := HV.out hT
      obtain ⟨y, rfl⟩ : ∃ y, ps = [y] := by match ps, hln with | [y], _ => exact ⟨y, rfl⟩
      rcases hr with h0' | ⟨b, off, rfl, hbl, hrr⟩
      · simp at h0'
      have hc : w3.cell? ⟨b, off, none⟩ = some (.int .i64 y) := hrr 0 (by simp)
      go_wp2
      refine bodyPost_ret (v := .tuple #[.int .i64 y, .bool true]) (by simp [results, Tryz.results137, go_sem]) rfl ?_
      exact ⟨by rw [hV, hT]; rfl, B3.out⟩
    · have HF : Hid (has6 x ms (j : Int) s = false) := by unfold Hid; rw [HD2.out, hln]; simpa using h1
      have hl1 : ((l : Int) == 1) = false := by simp; omega
      have hl2 : ((l : Int) != 1) = true := by simp; omega
      go_wp2
      refine bodyPost_ret (v := .tuple #[.int .i64 0, .bool false]) (by simp [results, Tryz.results137, go_sem]) rfl ?_
      exact ⟨ret_word HF.out, B3.out⟩

end Go.Proofs.YtjmjianlcoleaaaGreat

/-
  A Super is eight numbers; both looks whether it is right (the program's and the specification's) answer as the definition here says. No condition.
-/
namespace Go.Proofs.YtjmjianlcoleaaaGreat
open Go.RowKit

/-- What a disk knows. -/
structure Sup where
  id : Int
  gen : Int
  role : Int
  n : Int
  s : Int
  tail : Int
  lost : Int
  built : Int

def supZ : Sup := ⟨0, 0, 0, 0, 0, 0, 0, 0⟩
def lostB (n s lost built : Int) : Bool := if lost = -1 then decide (built = 0) else inB lost 0 (n - 1) && inB built 0 s
def supB (x : Sup) : Bool := geoB x.n x.s && (lostB x.n x.s x.lost x.built && (inB x.role 0 (x.n - 1) && (inB x.id 1 60000 && (inB x.gen 0 60000 && inB x.tail 0 60000))))

theorem lostB_iff {n s lost built : Int} : lostB n s lost built = true ↔ (lost = -1 ∧ built = 0) ∨ (¬ lost = -1 ∧ 0 ≤ lost ∧ lost ≤ n - 1 ∧ 0 ≤ built ∧ built ≤ s) := by
  unfold lostB
  split
  · rename_i h
    simp [h]
  · rename_i h
    rw [Bool.and_eq_true, inB_iff, inB_iff]
    simp [h, and_assoc]
theorem supB_iff {x : Sup} : supB x = true ↔ (3 ≤ x.n ∧ x.n ≤ 5 ∧ 1 ≤ x.s ∧ x.s ≤ 8) ∧ ((x.lost = -1 ∧ x.built = 0) ∨ (¬ x.lost = -1 ∧ 0 ≤ x.lost ∧ x.lost ≤ x.n - 1 ∧ 0 ≤ x.built ∧ x.built ≤ x.s)) ∧ (0 ≤ x.role ∧ x.role ≤ x.n - 1) ∧ (1 ≤ x.id ∧ x.id ≤ 60000) ∧ (0 ≤ x.gen ∧ x.gen ≤ 60000) ∧ (0 ≤ x.tail ∧ x.tail ≤ 60000) := by
  unfold supB
  simp only [Bool.and_eq_true, geoB_iff, lostB_iff, inB_iff]
theorem supB_not {x : Sup} (h : ¬ ((3 ≤ x.n ∧ x.n ≤ 5 ∧ 1 ≤ x.s ∧ x.s ≤ 8) ∧ ((x.lost = -1 ∧ x.built = 0) ∨ (¬ x.lost = -1 ∧ 0 ≤ x.lost ∧ x.lost ≤ x.n - 1 ∧ 0 ≤ x.built ∧ x.built ≤ x.s)) ∧ (0 ≤ x.role ∧ x.role ≤ x.n - 1) ∧ (1 ≤ x.id ∧ x.id ≤ 60000) ∧ (0 ≤ x.gen ∧ x.gen ≤ 60000) ∧ (0 ≤ x.tail ∧ x.tail ≤ 60000))) : supB x = false := by
  rw [← Bool.not_eq_true, supB_iff]
  exact h

theorem Box.cells8 {w : World} {B : Nat} {T : TypeId} {v0 v1 v2 v3 v4 v5 v6 v7 : Value} (h : Box w B T #[v0, v1, v2, v3, v4, v5, v6, v7]) :
    w.cell? ⟨B, 0, none⟩ = some v0 ∧ w.cell? ⟨B, 1, none⟩ = some v1 ∧ w.cell? ⟨B, 2, none⟩ = some v2 ∧ w.cell? ⟨B, 3, none⟩ = some v3 ∧ w.cell? ⟨B, 4, none⟩ = some v4 ∧ w.cell? ⟨B, 5, none⟩ = some v5 ∧ w.cell? ⟨B, 6, none⟩ = some v6 ∧ w.cell? ⟨B, 7, none⟩ = some v7 :=
  ⟨h.cell 0, h.cell 1, h.cell 2, h.cell 3, h.cell 4, h.cell 5, h.cell 6, h.cell 7⟩

theorem lostOk_any (w : World) (n s lost built : Int) (hn : 3 ≤ n ∧ n ≤ 5) : Calls Tryz.prog 125 #[.agg #[.int .i64 n, .int .i64 s], .int .i64 lost, .int .i64 built] w fun e w' => e = .returned (.bool (lostB n s lost built)) ∧ Below w.heap.size w w' := by
  have hA := new_below w (.cells #[.int .i64 n, .int .i64 s] 31)
  obtain ⟨k0, k1⟩ := (Gbox.new w 31 n s).cells
  have gw : IntKind.i64.wrap (n - 1) = n - 1 := IntWalk.i64_in _ (by omega)
  by_cases h : lost = -1
  · by_cases hb : built = 0
    · go_enter Tryz.func125, Tryz.ntmps125
      go_wp2
      go_ret
      exact ⟨ret_bool (by unfold lostB; rw [if_pos h]; simp [hb]), hA⟩
    · go_enter Tryz.func125, Tryz.ntmps125
      go_wp2
      go_ret
      exact ⟨ret_bool (by unfold lostB; rw [if_pos h]; simp [hb]), hA⟩
  · have HD : Hid (lostB n s lost built = (inB lost 0 (n - 1) && inB built 0 s)) := by unfold Hid lostB; rw [if_neg h]
    go_enter Tryz.func125, Tryz.ntmps125
    go_wp2_with fail
    refine (within_any _ _ _ _).mono ?_
    rintro e w1 ⟨rfl, rfl⟩
    by_cases h1 : inB lost 0 (n - 1) = true
    · go_wp2_with fail
      refine (within_any _ _ _ _).mono ?_
      rintro e w1 ⟨rfl, rfl⟩
      go_wp2
      go_ret
      exact ⟨ret_bool (by rw [HD.out, h1]; rfl), hA⟩
    · have h1' : inB lost 0 (n - 1) = false := by simpa using h1
      go_wp2
      go_ret
      exact ⟨ret_bool (by rw [HD.out, h1']; rfl), hA⟩

set_option maxHeartbeats 1600000 in
theorem specSuperOk_any (w : World) (x : Sup) : Calls Tryz.prog 186 #[.agg #[.int .i64 x.id, .int .i64 x.gen, .int .i64 x.role, .int .i64 x.n, .int .i64 x.s, .int .i64 x.tail, .int .i64 x.lost, .int .i64 x.built]] w fun e w' => e = .returned (.bool (supB x)) ∧ Below w.heap.size w w' := by
  have hA := new_below w (.cells #[.int .i64 x.id, .int .i64 x.gen, .int .i64 x.role, .int .i64 x.n, .int .i64 x.s, .int .i64 x.tail, .int .i64 x.lost, .int .i64 x.built] 173)
  have X := Box.new w 173 #[.int .i64 x.id, .int .i64 x.gen, .int .i64 x.role, .int .i64 x.n, .int .i64 x.s, .int .i64 x.tail, .int .i64 x.lost, .int .i64 x.built]
  obtain ⟨k0, k1, k2, k3, k4, k5, k6, k7⟩ := X.cells8
  have zA := X.lt
  go_enter Tryz.func186, Tryz.ntmps186
  go_wp2_with fail
  refine (specGeoOk_any _ _ _).mono ?_
  rintro e w1 ⟨rfl, b1⟩
  have X1 := X.below b1 zA
  have B1 := Below.andThen hA b1
  clear k0 k1 k2 k3 k4 k5 k6 k7 X b1 hA zA
  obtain ⟨k0, k1, k2, k3, k4, k5, k6, k7⟩ := X1.cells8
  by_cases hg : geoB x.n x.s = true
  · obtain ⟨g1, g2, g3, g4⟩ := geoB_iff.1 hg
    have gw : IntKind.i64.wrap (x.n - 1) = x.n - 1 := IntWalk.i64_in _ (by omega)
    go_wp2_with fail
    refine (l1In_any _ _ _ _).mono ?_
    rintro e w2 ⟨rfl, rfl⟩
    by_cases h1 : inB x.id 1 60000 = true
    · have h1i := inB_iff.1 h1
      go_wp2_with fail
      refine (l1In_any _ _ _ _).mono ?_
      rintro e w2 ⟨rfl, rfl⟩
      by_cases h2 : inB x.gen 0 60000 = true
      · have h2i := inB_iff.1 h2
        go_wp2_with fail
        refine (l1In_any _ _ _ _).mono ?_
        rintro e w2 ⟨rfl, rfl⟩
        by_cases h3 : inB x.role 0 (x.n - 1) = true
        · have h3i := inB_iff.1 h3
          go_wp2_with fail
          refine (l1In_any _ _ _ _).mono ?_
          rintro e w2 ⟨rfl, rfl⟩
          by_cases h4 : inB x.tail 0 60000 = true
          · have h4i := inB_iff.1 h4
            go_wp2_with fail
            refine (l1In_any _ _ _ _).mono ?_
            rintro e w2 ⟨rfl, rfl⟩
            by_cases h5 : inB x.lost (-1) (x.n - 1) = true
            · have h5i := inB_iff.1 h5
              go_wp2_with fail
              refine (l1In_any _ _ _ _).mono ?_
              rintro e w2 ⟨rfl, rfl⟩
              by_cases h6 : inB x.built 0 x.s = true
              · have h6i := inB_iff.1 h6
                clear h1 h2 h3 h4 h5 hg
                go_wp2
                all_goals go_ret
                all_goals exact ⟨ret_bool (by rw [Bool.eq_iff_iff, supB_iff]; simp; omega), B1⟩
              · have h6' : inB x.built 0 x.s = false := by simpa using h6
                have h6n := inB_not.1 h6'
                go_wp2
                go_ret
                exact ⟨ret_bool (by symm; refine supB_not (fun hc => ?_); omega), B1⟩
            · have h5' : inB x.lost (-1) (x.n - 1) = false := by simpa using h5
              have h5n := inB_not.1 h5'
              go_wp2
              go_ret
              exact ⟨ret_bool (by symm; refine supB_not (fun hc => ?_); omega), B1⟩
          · have h4' : inB x.tail 0 60000 = false := by simpa using h4
            have h4n := inB_not.1 h4'
            go_wp2
            go_ret
            exact ⟨ret_bool (by symm; refine supB_not (fun hc => ?_); omega), B1⟩
        · have h3' : inB x.role 0 (x.n - 1) = false := by simpa using h3
          have h3n := inB_not.1 h3'
          go_wp2
          go_ret
          exact ⟨ret_bool (by symm; refine supB_not (fun hc => ?_); omega), B1⟩
      · have h2' : inB x.gen 0 60000 = false := by simpa using h2
        have h2n := inB_not.1 h2'
        go_wp2
        go_ret
        exact ⟨ret_bool (by symm; refine supB_not (fun hc => ?_); omega), B1⟩
    · have h1' : inB x.id 1 60000 = false := by simpa using h1
      have h1n := inB_not.1 h1'
      go_wp2
      go_ret
      exact ⟨ret_bool (by symm; refine supB_not (fun hc => ?_); omega), B1⟩
  · have hg' : geoB x.n x.s = false := by simpa using hg
    go_wp2
    go_ret
    exact ⟨ret_bool (by unfold supB; rw [hg']; rfl), B1⟩

set_option maxHeartbeats 1600000 in
theorem implSuperOk_any (w : World) (x : Sup) : Calls Tryz.prog 199 #[.agg #[.int .i64 x.id, .int .i64 x.gen, .int .i64 x.role, .int .i64 x.n, .int .i64 x.s, .int .i64 x.tail, .int .i64 x.lost, .int .i64 x.built]] w fun e w' => e = .returned (.bool (supB x)) ∧ Below w.heap.size w w' := by
  have hA := new_below w (.cells #[.int .i64 x.id, .int .i64 x.gen, .int .i64 x.role, .int .i64 x.n, .int .i64 x.s, .int .i64 x.tail, .int .i64 x.lost, .int .i64 x.built] 173)
  have X := Box.new w 173 #[.int .i64 x.id, .int .i64 x.gen, .int .i64 x.role, .int .i64 x.n, .int .i64 x.s, .int .i64 x.tail, .int .i64 x.lost, .int .i64 x.built]
  obtain ⟨k0, k1, k2, k3, k4, k5, k6, k7⟩ := X.cells8
  have zA := X.lt
  go_enter Tryz.func199, Tryz.ntmps199
  have hA2 := Below.andThen hA (new_below (w.alloc (.cells #[.int .i64 x.id, .int .i64 x.gen, .int .i64 x.role, .int .i64 x.n, .int .i64 x.s, .int .i64 x.tail, .int .i64 x.lost, .int .i64 x.built] 173)) (.cells #[.int .i64 x.n, .int .i64 x.s] 31))
  have X2 := X.alloc (.cells #[.int .i64 x.n, .int .i64 x.s] 31)
  have G2 := Box.new (w.alloc (.cells #[.int .i64 x.id, .int .i64 x.gen, .int .i64 x.role, .int .i64 x.n, .int .i64 x.s, .int .i64 x.tail, .int .i64 x.lost, .int .i64 x.built] 173)) 31 #[.int .i64 x.n, .int .i64 x.s]
  rw [World.size_alloc] at G2
  obtain ⟨j0, j1⟩ := G2.cells2
  obtain ⟨i0, i1, i2, i3, i4, i5, i6, i7⟩ := X2.cells8
  go_wp2_with fail
  generalize (w.alloc (.cells #[.int .i64 x.id, .int .i64 x.gen, .int .i64 x.role, .int .i64 x.n, .int .i64 x.s, .int .i64 x.tail, .int .i64 x.lost, .int .i64 x.built] 173)).alloc (.cells #[.int .i64 x.n, .int .i64 x.s] 31) = W at hA2 X2 G2 i0 i1 i2 i3 i4 i5 i6 i7 j0 j1 ⊢
  have zX := X2.lt
  have zG := G2.lt
  refine (implGeoOk_any _ _ _).mono ?_
  rintro e w1 ⟨rfl, b1⟩
  have X1 := X2.below b1 zX
  have G1 := G2.below b1 zG
  have B1 := Below.andThen hA2 b1
  clear k0 k1 k2 k3 k4 k5 k6 k7 i0 i1 i2 i3 i4 i5 i6 i7 j0 j1 X hA zA b1 hA2 X2 G2 zX zG
  obtain ⟨k0, k1, k2, k3, k4, k5, k6, k7⟩ := X1.cells8
  obtain ⟨j0, j1⟩ := G1.cells2
  by_cases hg : geoB x.n x.s = true
  · obtain ⟨g1, g2, g3, g4⟩ := geoB_iff.1 hg
    have gw : IntKind.i64.wrap (x.n - 1) = x.n - 1 := IntWalk.i64_in _ (by omega)
    go_wp2_with fail
    refine (lostOk_any _ _ _ _ _ ⟨g1, g2⟩).mono ?_
    rintro e w2 ⟨rfl, b2⟩
    have X3 := X1.below b2 X1.lt
    have G3 := G1.below b2 G1.lt
    have B3 := Below.andThen B1 b2
    clear k0 k1 k2 k3 k4 k5 k6 k7 j0 j1 X1 G1 B1 b2
    obtain ⟨k0, k1, k2, k3, k4, k5, k6, k7⟩ := X3.cells8
    obtain ⟨j0, j1⟩ := G3.cells2
    by_cases hl : lostB x.n x.s x.lost x.built = true
    · have hli := lostB_iff.1 hl
      go_wp2_with fail
      refine (within_any _ _ _ _).mono ?_
      rintro e w4 ⟨rfl, rfl⟩
      by_cases h1 : inB x.role 0 (x.n - 1) = true
      · have h1i := inB_iff.1 h1
        go_wp2_with fail
        refine (within_any _ _ _ _).mono ?_
        rintro e w4 ⟨rfl, rfl⟩
        by_cases h2 : inB x.id 1 60000 = true
        · have h2i := inB_iff.1 h2
          go_wp2_with fail
          refine (within_any _ _ _ _).mono ?_
          rintro e w4 ⟨rfl, rfl⟩
          by_cases h3 : inB x.gen 0 60000 = true
          · have h3i := inB_iff.1 h3
            go_wp2_with fail
            refine (within_any _ _ _ _).mono ?_
            rintro e w4 ⟨rfl, rfl⟩
            go_wp2
            go_ret
            exact ⟨ret_bool (by unfold supB; rw [hg, hl, h1, h2, h3]; rfl), B3⟩
          · have h3' : inB x.gen 0 60000 = false := by simpa using h3
            have h3n := inB_not.1 h3'
            go_wp2
            go_ret
            exact ⟨ret_bool (by symm; refine supB_not (fun hc => ?_); omega), B3⟩
        · have h2' : inB x.id 1 60000 = false := by simpa using h2
          have h2n := inB_not.1 h2'
          go_wp2
          go_ret
          exact ⟨ret_bool (by symm; refine supB_not (fun hc => ?_); omega), B3⟩
      · have h1' : inB x.role 0 (x.n - 1) = false := by simpa using h1
        have h1n := inB_not.1 h1'
        go_wp2
        go_ret
        exact ⟨ret_bool (by symm; refine supB_not (fun hc => ?_); omega), B3⟩
    · have hl' : lostB x.n x.s x.lost x.built = false := by simpa using hl
      go_wp2
      go_ret
      exact ⟨ret_bool (by unfold supB; rw [hg, hl']; rfl), B3⟩
  · have hg' : geoB x.n x.s = false := by simpa using hg
    go_wp2
    go_ret
    exact ⟨ret_bool (by unfold supB; rw [hg']; rfl), B1⟩

end Go.Proofs.YtjmjianlcoleaaaGreat

/-
  The walks of the program's look whether an array is right: disk by disk, entry by entry, and as a whole. Condition: it weighs at most 2097152.
-/
namespace Go.Proofs.YtjmjianlcoleaaaGreat
open Go.RowKit

def recB6 (x : ArrN) : Bool := inB x.seq 0 60000 && (inB x.tail 0 60000 && inB (x.seq - x.tail) 0 4)
theorem lost_same6 {x : ArrN} (hg : geoB x.n x.s = true) : lostB x.n x.s x.lost x.built = lostB6 x := by
  obtain ⟨g1, g2, g3, g4⟩ := geoB_iff.1 hg
  rw [Bool.eq_iff_iff, lostB_iff]
  unfold lostB6
  simp only [Bool.and_eq_true, inB_iff, Bool.or_eq_true, Bool.not_eq_true', decide_eq_false_iff_not, decide_eq_true_eq]
  omega
theorem seq_same6 (x : ArrN) : seqB6 x = (inB x.gen 0 60000 && (inB x.fuse (-1) 1000 && recB6 x)) := by
  rw [Bool.eq_iff_iff]
  unfold seqB6 recB6
  simp only [Bool.and_eq_true, inB_iff, decide_eq_true_eq]
  omega
theorem arr_same6 {x : ArrN} {ms : List MemD} {ds : List (Int × List Int)} (hg : geoB x.n x.s = true) : arrB x ms ds = (inB x.id 1 60000 && (lostB x.n x.s x.lost x.built && (inB x.gen 0 60000 && (inB x.fuse (-1) 1000 && (memsB x ms && (recB6 x && entsB x ds)))))) := by
  unfold arrB
  rw [hg, lost_same6 hg, seq_same6]
  cases inB x.id 1 60000 <;> cases lostB6 x <;> cases inB x.gen 0 60000 <;> cases inB x.fuse (-1) 1000 <;> cases memsB x ms <;> cases recB6 x <;> cases entsB x ds <;> rfl
theorem stripe_in6 {x : ArrN} {y : Int} (hg : geoB x.n x.s = true) : stripeB x.n x.s y = inB y 0 (x.s - 1) := by unfold stripeB; rw [hg]; rfl
theorem sec_all6 {zs : List Int} (h : zs.length ≤ 12) : secB zs = allW zs := by unfold secB; simp [h]
theorem entAt_6 {x : ArrN} {ds : List (Int × List Int)} {p : Nat} {y : Int} {zs : List Int} {q : Int × List Int} (hq : ds[p]? = some q) (h : y ≤ q.1) : entAt x ds (p + 1) (y, zs) = false := by
  have : ds.getD (p + 1 - 1) (0, []) = q := by rw [Nat.add_sub_cancel, List.getD_eq_getElem?_getD, hq]; rfl
  unfold entAt
  rw [this]
  have h2 : ¬ q.1 < y := by omega
  simp [h2]

theorem sectorsOf_any (w : World) (n s : Int) (hs : 1 ≤ s ∧ s ≤ 8) : Calls Tryz.prog 163 #[.agg #[.int .i64 n, .int .i64 s]] w fun e w' => e = .returned (.int .i64 (6 + s)) ∧ Below w.heap.size w w' := by
  have hA := new_below w (.cells #[.int .i64 n, .int .i64 s] 31)
  obtain ⟨k0, k1⟩ := (Gbox.new w 31 n s).cells
  have hd : dataN s = 6 + s := by unfold dataN; split <;> omega
  have HD := hidden hd
  clear hd
  go_enter Tryz.func163, Tryz.ntmps163
  go_wp2_with fail
  refine (implDataAt_any _ _).mono ?_
  rintro e w1 ⟨rfl, h1⟩
  subst h1
  rw [HD.out]
  go_wp2
  go_ret
  exact ⟨rfl, hA⟩

set_option linter.unusedSimpArgs false in
set_option maxRecDepth 20000 in
set_option maxHeartbeats 3200000 in
theorem memsOk_any (w : World) (E F : TypeId) (x : ArrN) (am ad : Option Addr) (nm cm nd cd : Nat) (ms : List MemD) (h0 : (tMemS E F).Rd w [.slice am nm cm] ms) (hw : wtMemS ms ≤ 2097152) (hg : geoB x.n x.s = true) :
    Calls Tryz.prog 126 #[.agg #[.int .i64 x.id, .int .i64 x.n, .int .i64 x.s, .slice am nm cm, .int .i64 x.lost, .int .i64 x.built, .int .i64 x.seq, .int .i64 x.tail, .int .i64 x.gen, .slice ad nd cd, .int .i64 x.fuse, .bool x.down, .bool x.broken]] w fun e w' => e = .returned (.bool (memsB x ms)) ∧ Below w.heap.size w w' := by
  obtain ⟨hl, hc, hm⟩ := row_length h0
  obtain ⟨g1, g2, g3, g4⟩ := geoB_iff.1 hg
  have hA := new_below w (.cells #[.int .i64 x.id, .int .i64 x.n, .int .i64 x.s, .slice am nm cm, .int .i64 x.lost, .int .i64 x.built, .int .i64 x.seq, .int .i64 x.tail, .int .i64 x.gen, .slice ad nd cd, .int .i64 x.fuse, .bool x.down, .bool x.broken] 35)
  have X := Box.new w 35 #[.int .i64 x.id, .int .i64 x.n, .int .i64 x.s, .slice am nm cm, .int .i64 x.lost, .int .i64 x.built, .int .i64 x.seq, .int .i64 x.tail, .int .i64 x.gen, .slice ad nd cd, .int .i64 x.fuse, .bool x.down, .bool x.broken]
  have zA := X.lt
  have hnm : nm ≤ 2097152 := by unfold wtMemS at hw; omega
  have h1 := h0.below hA
  obtain ⟨k0, k1, k2, k3, k4, k5, k6, k7, k8, k9, k10, k11, k12⟩ := X.cells13
  by_cases hN : (nm : Int) = x.n
  · have hN1 : ((nm : Int) == x.n) = true := by simpa using hN
    have hN2 : ((nm : Int) != x.n) = false := by simpa using hN
    have HN := hidden hN
    clear hN
    go_enter Tryz.func126, Tryz.ntmps126
    go_wp2
    generalize w.alloc (.cells #[.int .i64 x.id, .int .i64 x.n, .int .i64 x.s, .slice am nm cm, .int .i64 x.lost, .int .i64 x.built, .int .i64 x.seq, .int .i64 x.tail, .int .i64 x.gen, .slice ad nd cd, .int .i64 x.fuse, .bool x.down, .bool x.broken] 35) = W at hA X zA h1 k0 k1 k2 k3 k4 k5 k6 k7 k8 k9 k10 k11 k12 ⊢
    clear k0 k1 k2 k3 k4 k5 k6 k7 k8 k9 k10 k11 k12
    go_loopw [15] (fun i wr => ∃ j : Nat, j ≤ nm ∧ i = .int .i64 j ∧ (∀ (q : Nat) (m : MemD), q < j → ms[q]? = some m → memAt x q m = true) ∧ Below W.heap.size W wr) (fun i _ => nm - (intOf i).toNat)
    case atStart => exact ⟨0, Nat.zero_le _, rfl, fun q m hq => by omega, Below.refl _ _⟩
    case round =>
      obtain ⟨j, hj, rfl, hall, hb⟩ := hrel
      have Xr := X.below hb zA
      by_cases hjn : j < nm
      · rcases quads_at rfl h1 with h0' | ⟨b, off, rfl, hbl, hcs⟩
        · omega
        have hdj : ms[j]? = some (ms[j]'(by omega)) := List.getElem?_eq_getElem (by omega)
        generalize ms[j]'(by omega) = m at hdj
        obtain ⟨v0, v1, v2, v3, hv0, hv1, hv2, hv3, hrv⟩ := hcs j m hdj
        obtain ⟨a0, c0, a1, c1, a3, c3, ss, cs, f, bs, rfl, rfl, rfl, rfl, rfl, r0, r1, r3⟩ := mem_at hrv
        have u0 := (hb.cell (p := ⟨b, off + j * 4, none⟩) hbl).trans hv0
        have u1 := (hb.cell (p := ⟨b, off + j * 4 + 1, none⟩) hbl).trans hv1
        have u2 := (hb.cell (p := ⟨b, off + j * 4 + 2, none⟩) hbl).trans hv2
        have u3 := (hb.cell (p := ⟨b, off + j * 4 + 3, none⟩) hbl).trans hv3
        have i1 : (0 : Int) ≤ (j : Int) := by omega
        have i2 : (j : Int) < (nm : Int) := by omega
        have hwm := Nat.le_trans (inner_leM hdj) hw
        have HDJ := hidden hdj
        clear hcs hv0 hv1 hv2 hv3 hrv hdj
        have b1 := new_below wr (.cells #[.slice a0 ss.length c0, .slice a1 cs.length c1, .bool f, .slice a3 bs.length c3] 87)
        have Y1 := Box.new wr 87 #[.slice a0 ss.length c0, .slice a1 cs.length c1, .bool f, .slice a3 bs.length c3]
        have X1 := Xr.below b1 Xr.lt
        have R0 := (r0.below hb).below b1
        have R1 := (r1.below hb).below b1
        have R3 := (r3.below hb).below b1
        have B1 := hb.trans (b1.mono hb.size)
        clear r0 r1 r3 b1
        obtain ⟨y0, y1, y2, y3⟩ := Y1.cells4
        obtain ⟨e0, e1, e2, e3, e4, e5, e6, e7, e8, e9, e10, e11, e12⟩ := X1.cells13
        have zy := Y1.lt
        have zx := X1.lt
        clear e0 e3 e5 e6 e7 e8 e9 e10 e11
        cases hM : memB ss cs bs
        · skip
          go_wp2_with fail
          generalize wr.alloc (.cells #[.slice a0 ss.length c0, .slice a1 cs.length c1, .bool f, .slice a3 bs.length c3] 87) = w1 at X1 Y1 R0 R1 R3 B1 y0 y1 y2 y3 e1 e2 e4 e12 zy zx ⊢
          refine wp_region_held_drew (S := fun w' => w'.cell? ⟨wr.heap.size, 0, none⟩ = some (.slice a0 ss.length c0) ∧ w'.cell? ⟨wr.heap.size, 1, none⟩ = some (.slice a1 cs.length c1) ∧ w'.cell? ⟨wr.heap.size, 2, none⟩ = some (.bool f) ∧ w'.cell? ⟨wr.heap.size, 3, none⟩ = some (.slice a3 bs.length c3) ∧ w'.cell? ⟨w.heap.size, 1, none⟩ = some (.int .i64 x.n) ∧ w'.cell? ⟨w.heap.size, 2, none⟩ = some (.int .i64 x.s)) (by kernel_rfl) ?_ (fun hHeld => ?_)
          · exact ⟨y0, y1, y2, y3, e1, e2⟩
          refine held_t 0 hHeld ?_
          refine held_one (i := 1) (by kernel_rfl) rfl (by kernel_rfl) (fun K hK => ?_)
          go_simp
          refine (implMemOk_any _ E _ _ _ _ _ _ _ _ _ ss cs f bs R0.drew R1.drew R3.drew hwm).mono ?_
          rintro e w2 ⟨rfl, b2⟩
          rw [hM]
          have b2' : Below w1.heap.size w1 w2 := (Below.refl w1.heap.size w1).drew.trans b2
          clear b2
          go_wp2_with fail
          clear hHeld
          refine hK.out _ _ ?_ (fun hHeld => ?_)
          · exact ⟨(b2'.cell (p := ⟨wr.heap.size, 0, none⟩) zy).trans y0, (b2'.cell (p := ⟨wr.heap.size, 1, none⟩) zy).trans y1, (b2'.cell (p := ⟨wr.heap.size, 2, none⟩) zy).trans y2, (b2'.cell (p := ⟨wr.heap.size, 3, none⟩) zy).trans y3, (b2'.cell (p := ⟨w.heap.size, 1, none⟩) zx).trans e1, (b2'.cell (p := ⟨w.heap.size, 2, none⟩) zx).trans e2⟩
          clear hK K
          refine held_t 2 hHeld ?_
          refine held_t 3 hHeld ?_
          refine held_p 4 hHeld ?_
          refine held_p 5 hHeld ?_
          refine held_p 6 hHeld ?_
          refine held_p 7 hHeld ?_
          refine held_p 8 hHeld ?_
          refine held_none (i := 9) (by kernel_rfl) rfl (by kernel_rfl) hHeld ?_
          simp only [Act.put, List.setIfInBounds_toArray, List.set_cons_zero, List.set_cons_succ]
          refine held_p 10 hHeld ?_
          refine held_t 11 hHeld ?_
          refine wpAnyH_done (by kernel_rfl) ?_ _
          clear hHeld
          have HB := hidden (hA.trans ((B1.trans (b2'.mono B1.size)).mono hA.size))
          go_wp2
          go_ret
          exact ⟨ret_bool (by rw [show memsB x ms = false from (by unfold memsB; rw [allIx_no HDJ.out (by unfold memAt; simp [hM])]; rfl)]), HB.out⟩
        · by_cases hS : (ss.length : Int) = 6 + x.s
          · have hS1 : ((ss.length : Int) == 6 + x.s) = true := by simpa using hS
            have hS2 : ((ss.length : Int) != 6 + x.s) = false := by simpa using hS
            have HS := hidden hS
            clear hS
            cases f
            · skip
              go_wp2_with fail
              generalize wr.alloc (.cells #[.slice a0 ss.length c0, .slice a1 cs.length c1, .bool false, .slice a3 bs.length c3] 87) = w1 at X1 Y1 R0 R1 R3 B1 y0 y1 y2 y3 e1 e2 e4 e12 zy zx ⊢
              refine wp_region_held_drew (S := fun w' => w'.cell? ⟨wr.heap.size, 0, none⟩ = some (.slice a0 ss.length c0) ∧ w'.cell? ⟨wr.heap.size, 1, none⟩ = some (.slice a1 cs.length c1) ∧ w'.cell? ⟨wr.heap.size, 2, none⟩ = some (.bool false) ∧ w'.cell? ⟨wr.heap.size, 3, none⟩ = some (.slice a3 bs.length c3) ∧ w'.cell? ⟨w.heap.size, 1, none⟩ = some (.int .i64 x.n) ∧ w'.cell? ⟨w.heap.size, 2, none⟩ = some (.int .i64 x.s)) (by kernel_rfl) ?_ (fun hHeld => ?_)
              · exact ⟨y0, y1, y2, y3, e1, e2⟩
              refine held_t 0 hHeld ?_
              refine held_one (i := 1) (by kernel_rfl) rfl (by kernel_rfl) (fun K hK => ?_)
              go_simp
              refine (implMemOk_any _ E _ _ _ _ _ _ _ _ _ ss cs false bs R0.drew R1.drew R3.drew hwm).mono ?_
              rintro e w2 ⟨rfl, b2⟩
              rw [hM]
              have b2' : Below w1.heap.size w1 w2 := (Below.refl w1.heap.size w1).drew.trans b2
              clear b2
              go_wp2_with fail
              clear hHeld
              refine hK.out _ _ ?_ (fun hHeld => ?_)
              · exact ⟨(b2'.cell (p := ⟨wr.heap.size, 0, none⟩) zy).trans y0, (b2'.cell (p := ⟨wr.heap.size, 1, none⟩) zy).trans y1, (b2'.cell (p := ⟨wr.heap.size, 2, none⟩) zy).trans y2, (b2'.cell (p := ⟨wr.heap.size, 3, none⟩) zy).trans y3, (b2'.cell (p := ⟨w.heap.size, 1, none⟩) zx).trans e1, (b2'.cell (p := ⟨w.heap.size, 2, none⟩) zx).trans e2⟩
              clear hK K
              refine held_t 2 hHeld ?_
              refine held_t 3 hHeld ?_
              refine held_t 4 hHeld ?_
              refine held_t 5 hHeld ?_
              refine held_t 6 hHeld ?_
              refine held_t 7 hHeld ?_
              refine held_t 8 hHeld ?_
              refine held_one (i := 9) (by kernel_rfl) rfl (by kernel_rfl) (fun K hK => ?_)
              go_simp
              refine (sectorsOf_any _ x.n x.s ⟨g3, g4⟩).mono ?_
              rintro e w3 ⟨rfl, b3⟩
              have b3' : Below w1.heap.size w1 w3 := Below.andThen b2' b3
              clear b3
              go_wp2_with fail
              clear hHeld
              refine hK.out _ _ ?_ (fun hHeld => ?_)
              · exact ⟨(b3'.cell (p := ⟨wr.heap.size, 0, none⟩) zy).trans y0, (b3'.cell (p := ⟨wr.heap.size, 1, none⟩) zy).trans y1, (b3'.cell (p := ⟨wr.heap.size, 2, none⟩) zy).trans y2, (b3'.cell (p := ⟨wr.heap.size, 3, none⟩) zy).trans y3, (b3'.cell (p := ⟨w.heap.size, 1, none⟩) zx).trans e1, (b3'.cell (p := ⟨w.heap.size, 2, none⟩) zx).trans e2⟩
              clear hK K
              refine held_t 10 hHeld ?_
              refine held_t 11 hHeld ?_
              refine wpAnyH_done (by kernel_rfl) ?_ _
              clear hHeld
              have n0 := (b3'.cell (p := ⟨w.heap.size, 4, none⟩) zx).trans e4
              have n1 := (b3'.cell (p := ⟨w.heap.size, 12, none⟩) zx).trans e12
              have n2 := (b3'.cell (p := ⟨wr.heap.size, 2, none⟩) zy).trans y2
              have HB := hidden (B1.trans (b3'.mono B1.size))
              have hat : memAt x j (ss, cs, false, bs) = true := (by unfold memAt; simp [hM, HS.out])
              go_wp2
              go_roundw
              case rel => exact ⟨j + 1, by omega, by go_num, fun q m hq hm' => by
                  rcases Nat.lt_or_ge q j with h | h
                  · exact hall q m h hm'
                  · obtain rfl : q = j := by omega
                    rw [HDJ.out] at hm'
                    cases hm'
                    exact hat, HB.out⟩
              case measure => simp [intOf]; omega
            · by_cases hL : (j : Int) = x.lost
              · have hL1 : ((j : Int) == x.lost) = true := by simpa using hL
                have hL2 : ((j : Int) != x.lost) = false := by simpa using hL
                have HL := hidden hL
                clear hL
                go_wp2_with fail
                generalize wr.alloc (.cells #[.slice a0 ss.length c0, .slice a1 cs.length c1, .bool true, .slice a3 bs.length c3] 87) = w1 at X1 Y1 R0 R1 R3 B1 y0 y1 y2 y3 e1 e2 e4 e12 zy zx ⊢
                refine wp_region_held_drew (S := fun w' => w'.cell? ⟨wr.heap.size, 0, none⟩ = some (.slice a0 ss.length c0) ∧ w'.cell? ⟨wr.heap.size, 1, none⟩ = some (.slice a1 cs.length c1) ∧ w'.cell? ⟨wr.heap.size, 2, none⟩ = some (.bool true) ∧ w'.cell? ⟨wr.heap.size, 3, none⟩ = some (.slice a3 bs.length c3) ∧ w'.cell? ⟨w.heap.size, 1, none⟩ = some (.int .i64 x.n) ∧ w'.cell? ⟨w.heap.size, 2, none⟩ = some (.int .i64 x.s)) (by kernel_rfl) ?_ (fun hHeld => ?_)
                · exact ⟨y0, y1, y2, y3, e1, e2⟩
                refine held_t 0 hHeld ?_
                refine held_one (i := 1) (by kernel_rfl) rfl (by kernel_rfl) (fun K hK => ?_)
                go_simp
                refine (implMemOk_any _ E _ _ _ _ _ _ _ _ _ ss cs true bs R0.drew R1.drew R3.drew hwm).mono ?_
                rintro e w2 ⟨rfl, b2⟩
                rw [hM]
                have b2' : Below w1.heap.size w1 w2 := (Below.refl w1.heap.size w1).drew.trans b2
                clear b2
                go_wp2_with fail
                clear hHeld
                refine hK.out _ _ ?_ (fun hHeld => ?_)
                · exact ⟨(b2'.cell (p := ⟨wr.heap.size, 0, none⟩) zy).trans y0, (b2'.cell (p := ⟨wr.heap.size, 1, none⟩) zy).trans y1, (b2'.cell (p := ⟨wr.heap.size, 2, none⟩) zy).trans y2, (b2'.cell (p := ⟨wr.heap.size, 3, none⟩) zy).trans y3, (b2'.cell (p := ⟨w.heap.size, 1, none⟩) zx).trans e1, (b2'.cell (p := ⟨w.heap.size, 2, none⟩) zx).trans e2⟩
                clear hK K
                refine held_t 2 hHeld ?_
                refine held_t 3 hHeld ?_
                refine held_t 4 hHeld ?_
                refine held_t 5 hHeld ?_
                refine held_t 6 hHeld ?_
                refine held_t 7 hHeld ?_
                refine held_t 8 hHeld ?_
                refine held_one (i := 9) (by kernel_rfl) rfl (by kernel_rfl) (fun K hK => ?_)
                go_simp
                refine (sectorsOf_any _ x.n x.s ⟨g3, g4⟩).mono ?_
                rintro e w3 ⟨rfl, b3⟩
                have b3' : Below w1.heap.size w1 w3 := Below.andThen b2' b3
                clear b3
                go_wp2_with fail
                clear hHeld
                refine hK.out _ _ ?_ (fun hHeld => ?_)
                · exact ⟨(b3'.cell (p := ⟨wr.heap.size, 0, none⟩) zy).trans y0, (b3'.cell (p := ⟨wr.heap.size, 1, none⟩) zy).trans y1, (b3'.cell (p := ⟨wr.heap.size, 2, none⟩) zy).trans y2, (b3'.cell (p := ⟨wr.heap.size, 3, none⟩) zy).trans y3, (b3'.cell (p := ⟨w.heap.size, 1, none⟩) zx).trans e1, (b3'.cell (p := ⟨w.heap.size, 2, none⟩) zx).trans e2⟩
                clear hK K
                refine held_t 10 hHeld ?_
                refine held_t 11 hHeld ?_
                refine wpAnyH_done (by kernel_rfl) ?_ _
                clear hHeld
                have n0 := (b3'.cell (p := ⟨w.heap.size, 4, none⟩) zx).trans e4
                have n1 := (b3'.cell (p := ⟨w.heap.size, 12, none⟩) zx).trans e12
                have n2 := (b3'.cell (p := ⟨wr.heap.size, 2, none⟩) zy).trans y2
                have HB := hidden (B1.trans (b3'.mono B1.size))
                have hat : memAt x j (ss, cs, true, bs) = true := (by unfold memAt; simp [hM, HS.out, HL.out])
                go_wp2
                go_roundw
                case rel => exact ⟨j + 1, by omega, by go_num, fun q m hq hm' => by
                    rcases Nat.lt_or_ge q j with h | h
                    · exact hall q m h hm'
                    · obtain rfl : q = j := by omega
                      rw [HDJ.out] at hm'
                      cases hm'
                      exact hat, HB.out⟩
                case measure => simp [intOf]; omega
              · have hL1 : ((j : Int) == x.lost) = false := by simpa using hL
                have hL2 : ((j : Int) != x.lost) = true := by simpa using hL
                have HL := hidden hL
                clear hL
                cases hBr : x.broken
                · rw [hBr] at e12
                  go_wp2_with fail
                  generalize wr.alloc (.cells #[.slice a0 ss.length c0, .slice a1 cs.length c1, .bool true, .slice a3 bs.length c3] 87) = w1 at X1 Y1 R0 R1 R3 B1 y0 y1 y2 y3 e1 e2 e4 e12 zy zx ⊢
                  refine wp_region_held_drew (S := fun w' => w'.cell? ⟨wr.heap.size, 0, none⟩ = some (.slice a0 ss.length c0) ∧ w'.cell? ⟨wr.heap.size, 1, none⟩ = some (.slice a1 cs.length c1) ∧ w'.cell? ⟨wr.heap.size, 2, none⟩ = some (.bool true) ∧ w'.cell? ⟨wr.heap.size, 3, none⟩ = some (.slice a3 bs.length c3) ∧ w'.cell? ⟨w.heap.size, 1, none⟩ = some (.int .i64 x.n) ∧ w'.cell? ⟨w.heap.size, 2, none⟩ = some (.int .i64 x.s)) (by kernel_rfl) ?_ (fun hHeld => ?_)
                  · exact ⟨y0, y1, y2, y3, e1, e2⟩
                  refine held_t 0 hHeld ?_
                  refine held_one (i := 1) (by kernel_rfl) rfl (by kernel_rfl) (fun K hK => ?_)
                  go_simp
                  refine (implMemOk_any _ E _ _ _ _ _ _ _ _ _ ss cs true bs R0.drew R1.drew R3.drew hwm).mono ?_
                  rintro e w2 ⟨rfl, b2⟩
                  rw [hM]
                  have b2' : Below w1.heap.size w1 w2 := (Below.refl w1.heap.size w1).drew.trans b2
                  clear b2
                  go_wp2_with fail
                  clear hHeld
                  refine hK.out _ _ ?_ (fun hHeld => ?_)
                  · exact ⟨(b2'.cell (p := ⟨wr.heap.size, 0, none⟩) zy).trans y0, (b2'.cell (p := ⟨wr.heap.size, 1, none⟩) zy).trans y1, (b2'.cell (p := ⟨wr.heap.size, 2, none⟩) zy).trans y2, (b2'.cell (p := ⟨wr.heap.size, 3, none⟩) zy).trans y3, (b2'.cell (p := ⟨w.heap.size, 1, none⟩) zx).trans e1, (b2'.cell (p := ⟨w.heap.size, 2, none⟩) zx).trans e2⟩
                  clear hK K
                  refine held_t 2 hHeld ?_
                  refine held_t 3 hHeld ?_
                  refine held_t 4 hHeld ?_
                  refine held_t 5 hHeld ?_
                  refine held_t 6 hHeld ?_
                  refine held_t 7 hHeld ?_
                  refine held_t 8 hHeld ?_
                  refine held_one (i := 9) (by kernel_rfl) rfl (by kernel_rfl) (fun K hK => ?_)
                  go_simp
                  refine (sectorsOf_any _ x.n x.s ⟨g3, g4⟩).mono ?_
                  rintro e w3 ⟨rfl, b3⟩
                  have b3' : Below w1.heap.size w1 w3 := Below.andThen b2' b3
                  clear b3
                  go_wp2_with fail
                  clear hHeld
                  refine hK.out _ _ ?_ (fun hHeld => ?_)
                  · exact ⟨(b3'.cell (p := ⟨wr.heap.size, 0, none⟩) zy).trans y0, (b3'.cell (p := ⟨wr.heap.size, 1, none⟩) zy).trans y1, (b3'.cell (p := ⟨wr.heap.size, 2, none⟩) zy).trans y2, (b3'.cell (p := ⟨wr.heap.size, 3, none⟩) zy).trans y3, (b3'.cell (p := ⟨w.heap.size, 1, none⟩) zx).trans e1, (b3'.cell (p := ⟨w.heap.size, 2, none⟩) zx).trans e2⟩
                  clear hK K
                  refine held_t 10 hHeld ?_
                  refine held_t 11 hHeld ?_
                  refine wpAnyH_done (by kernel_rfl) ?_ _
                  clear hHeld
                  have n0 := (b3'.cell (p := ⟨w.heap.size, 4, none⟩) zx).trans e4
                  have n1 := (b3'.cell (p := ⟨w.heap.size, 12, none⟩) zx).trans e12
                  have n2 := (b3'.cell (p := ⟨wr.heap.size, 2, none⟩) zy).trans y2
                  have HB := hidden (hA.trans ((B1.trans (b3'.mono B1.size)).mono hA.size))
                  go_wp2
                  go_ret
                  exact ⟨ret_bool (by rw [show memsB x ms = false from (by unfold memsB; rw [allIx_no HDJ.out (by unfold memAt; simp [HL.out, hBr])]; rfl)]), HB.out⟩
                · rw [hBr] at e12
                  go_wp2_with fail
                  generalize wr.alloc (.cells #[.slice a0 ss.length c0, .slice a1 cs.length c1, .bool true, .slice a3 bs.length c3] 87) = w1 at X1 Y1 R0 R1 R3 B1 y0 y1 y2 y3 e1 e2 e4 e12 zy zx ⊢
                  refine wp_region_held_drew (S := fun w' => w'.cell? ⟨wr.heap.size, 0, none⟩ = some (.slice a0 ss.length c0) ∧ w'.cell? ⟨wr.heap.size, 1, none⟩ = some (.slice a1 cs.length c1) ∧ w'.cell? ⟨wr.heap.size, 2, none⟩ = some (.bool true) ∧ w'.cell? ⟨wr.heap.size, 3, none⟩ = some (.slice a3 bs.length c3) ∧ w'.cell? ⟨w.heap.size, 1, none⟩ = some (.int .i64 x.n) ∧ w'.cell? ⟨w.heap.size, 2, none⟩ = some (.int .i64 x.s)) (by kernel_rfl) ?_ (fun hHeld => ?_)
                  · exact ⟨y0, y1, y2, y3, e1, e2⟩
                  refine held_t 0 hHeld ?_
                  refine held_one (i := 1) (by kernel_rfl) rfl (by kernel_rfl) (fun K hK => ?_)
                  go_simp
                  refine (implMemOk_any _ E _ _ _ _ _ _ _ _ _ ss cs true bs R0.drew R1.drew R3.drew hwm).mono ?_
                  rintro e w2 ⟨rfl, b2⟩
                  rw [hM]
                  have b2' : Below w1.heap.size w1 w2 := (Below.refl w1.heap.size w1).drew.trans b2
                  clear b2
                  go_wp2_with fail
                  clear hHeld
                  refine hK.out _ _ ?_ (fun hHeld => ?_)
                  · exact ⟨(b2'.cell (p := ⟨wr.heap.size, 0, none⟩) zy).trans y0, (b2'.cell (p := ⟨wr.heap.size, 1, none⟩) zy).trans y1, (b2'.cell (p := ⟨wr.heap.size, 2, none⟩) zy).trans y2, (b2'.cell (p := ⟨wr.heap.size, 3, none⟩) zy).trans y3, (b2'.cell (p := ⟨w.heap.size, 1, none⟩) zx).trans e1, (b2'.cell (p := ⟨w.heap.size, 2, none⟩) zx).trans e2⟩
                  clear hK K
                  refine held_t 2 hHeld ?_
                  refine held_t 3 hHeld ?_
                  refine held_t 4 hHeld ?_
                  refine held_t 5 hHeld ?_
                  refine held_t 6 hHeld ?_
                  refine held_t 7 hHeld ?_
                  refine held_t 8 hHeld ?_
                  refine held_one (i := 9) (by kernel_rfl) rfl (by kernel_rfl) (fun K hK => ?_)
                  go_simp
                  refine (sectorsOf_any _ x.n x.s ⟨g3, g4⟩).mono ?_
                  rintro e w3 ⟨rfl, b3⟩
                  have b3' : Below w1.heap.size w1 w3 := Below.andThen b2' b3
                  clear b3
                  go_wp2_with fail
                  clear hHeld
                  refine hK.out _ _ ?_ (fun hHeld => ?_)
                  · exact ⟨(b3'.cell (p := ⟨wr.heap.size, 0, none⟩) zy).trans y0, (b3'.cell (p := ⟨wr.heap.size, 1, none⟩) zy).trans y1, (b3'.cell (p := ⟨wr.heap.size, 2, none⟩) zy).trans y2, (b3'.cell (p := ⟨wr.heap.size, 3, none⟩) zy).trans y3, (b3'.cell (p := ⟨w.heap.size, 1, none⟩) zx).trans e1, (b3'.cell (p := ⟨w.heap.size, 2, none⟩) zx).trans e2⟩
                  clear hK K
                  refine held_t 10 hHeld ?_
                  refine held_t 11 hHeld ?_
                  refine wpAnyH_done (by kernel_rfl) ?_ _
                  clear hHeld
                  have n0 := (b3'.cell (p := ⟨w.heap.size, 4, none⟩) zx).trans e4
                  have n1 := (b3'.cell (p := ⟨w.heap.size, 12, none⟩) zx).trans e12
                  have n2 := (b3'.cell (p := ⟨wr.heap.size, 2, none⟩) zy).trans y2
                  have HB := hidden (B1.trans (b3'.mono B1.size))
                  have hat : memAt x j (ss, cs, true, bs) = true := (by unfold memAt; simp [hM, HS.out, hBr])
                  go_wp2
                  go_roundw
                  case rel => exact ⟨j + 1, by omega, by go_num, fun q m hq hm' => by
                      rcases Nat.lt_or_ge q j with h | h
                      · exact hall q m h hm'
                      · obtain rfl : q = j := by omega
                        rw [HDJ.out] at hm'
                        cases hm'
                        exact hat, HB.out⟩
                  case measure => simp [intOf]; omega
          · have hS1 : ((ss.length : Int) == 6 + x.s) = false := by simpa using hS
            have hS2 : ((ss.length : Int) != 6 + x.s) = true := by simpa using hS
            have HS := hidden hS
            clear hS
            go_wp2_with fail
            generalize wr.alloc (.cells #[.slice a0 ss.length c0, .slice a1 cs.length c1, .bool f, .slice a3 bs.length c3] 87) = w1 at X1 Y1 R0 R1 R3 B1 y0 y1 y2 y3 e1 e2 e4 e12 zy zx ⊢
            refine wp_region_held_drew (S := fun w' => w'.cell? ⟨wr.heap.size, 0, none⟩ = some (.slice a0 ss.length c0) ∧ w'.cell? ⟨wr.heap.size, 1, none⟩ = some (.slice a1 cs.length c1) ∧ w'.cell? ⟨wr.heap.size, 2, none⟩ = some (.bool f) ∧ w'.cell? ⟨wr.heap.size, 3, none⟩ = some (.slice a3 bs.length c3) ∧ w'.cell? ⟨w.heap.size, 1, none⟩ = some (.int .i64 x.n) ∧ w'.cell? ⟨w.heap.size, 2, none⟩ = some (.int .i64 x.s)) (by kernel_rfl) ?_ (fun hHeld => ?_)
            · exact ⟨y0, y1, y2, y3, e1, e2⟩
            refine held_t 0 hHeld ?_
            refine held_one (i := 1) (by kernel_rfl) rfl (by kernel_rfl) (fun K hK => ?_)
            go_simp
            refine (implMemOk_any _ E _ _ _ _ _ _ _ _ _ ss cs f bs R0.drew R1.drew R3.drew hwm).mono ?_
            rintro e w2 ⟨rfl, b2⟩
            rw [hM]
            have b2' : Below w1.heap.size w1 w2 := (Below.refl w1.heap.size w1).drew.trans b2
            clear b2
            go_wp2_with fail
            clear hHeld
            refine hK.out _ _ ?_ (fun hHeld => ?_)
            · exact ⟨(b2'.cell (p := ⟨wr.heap.size, 0, none⟩) zy).trans y0, (b2'.cell (p := ⟨wr.heap.size, 1, none⟩) zy).trans y1, (b2'.cell (p := ⟨wr.heap.size, 2, none⟩) zy).trans y2, (b2'.cell (p := ⟨wr.heap.size, 3, none⟩) zy).trans y3, (b2'.cell (p := ⟨w.heap.size, 1, none⟩) zx).trans e1, (b2'.cell (p := ⟨w.heap.size, 2, none⟩) zx).trans e2⟩
            clear hK K
            refine held_t 2 hHeld ?_
            refine held_t 3 hHeld ?_
            refine held_t 4 hHeld ?_
            refine held_t 5 hHeld ?_
            refine held_t 6 hHeld ?_
            refine held_t 7 hHeld ?_
            refine held_t 8 hHeld ?_
            refine held_one (i := 9) (by kernel_rfl) rfl (by kernel_rfl) (fun K hK => ?_)
            go_simp
            refine (sectorsOf_any _ x.n x.s ⟨g3, g4⟩).mono ?_
            rintro e w3 ⟨rfl, b3⟩
            have b3' : Below w1.heap.size w1 w3 := Below.andThen b2' b3
            clear b3
            go_wp2_with fail
            clear hHeld
            refine hK.out _ _ ?_ (fun hHeld => ?_)
            · exact ⟨(b3'.cell (p := ⟨wr.heap.size, 0, none⟩) zy).trans y0, (b3'.cell (p := ⟨wr.heap.size, 1, none⟩) zy).trans y1, (b3'.cell (p := ⟨wr.heap.size, 2, none⟩) zy).trans y2, (b3'.cell (p := ⟨wr.heap.size, 3, none⟩) zy).trans y3, (b3'.cell (p := ⟨w.heap.size, 1, none⟩) zx).trans e1, (b3'.cell (p := ⟨w.heap.size, 2, none⟩) zx).trans e2⟩
            clear hK K
            refine held_t 10 hHeld ?_
            refine held_t 11 hHeld ?_
            refine wpAnyH_done (by kernel_rfl) ?_ _
            clear hHeld
            have n0 := (b3'.cell (p := ⟨w.heap.size, 4, none⟩) zx).trans e4
            have n1 := (b3'.cell (p := ⟨w.heap.size, 12, none⟩) zx).trans e12
            have n2 := (b3'.cell (p := ⟨wr.heap.size, 2, none⟩) zy).trans y2
            have HB := hidden (hA.trans ((B1.trans (b3'.mono B1.size)).mono hA.size))
            go_wp2
            go_ret
            exact ⟨ret_bool (by rw [show memsB x ms = false from (by unfold memsB; rw [allIx_no HDJ.out (by unfold memAt; simp [HS.out])]; rfl)]), HB.out⟩
      · have e : j = nm := by omega
        subst e
        have hAll : allIx (memAt x) ms = true := allIx_iff.2 (fun q m hq => hall q m (by have := (List.getElem?_eq_some_iff.1 hq).1; omega) hq)
        have HB := hidden (hA.trans (hb.mono hA.size))
        have hR : memsB x ms = true := by unfold memsB; rw [hAll, hl]; simpa using HN.out
        go_wp2
        go_ret
        exact ⟨ret_bool hR.symm, HB.out⟩
  · have hN1 : ((nm : Int) == x.n) = false := by simpa using hN
    have hN2 : ((nm : Int) != x.n) = true := by simpa using hN
    have hR : memsB x ms = false := by unfold memsB; rw [hl]; simp [hN]
    have HR := hidden hR
    clear hN hR
    go_enter Tryz.func126, Tryz.ntmps126
    go_wp2
    go_ret
    exact ⟨ret_bool HR.out.symm, hA⟩

end Go.Proofs.YtjmjianlcoleaaaGreat

/-
  The walks of both Blocks and of what tells a stripe (the program's and the specification's). No condition.
-/
namespace Go.Proofs.YtjmjianlcoleaaaGreat
open Go.RowKit

theorem perStripe_any (w : World) (n s : Int) (h1 : 3 ≤ n) (h2 : n ≤ 5) : Calls Tryz.prog 101 #[.agg #[.int .i64 n, .int .i64 s]] w fun e w' => e = .returned (.int .i64 (n - 1)) ∧ Below w.heap.size w w' := by
  have hA := new_below w (.cells #[.int .i64 n, .int .i64 s] 31)
  obtain ⟨k0, k1⟩ := (Gbox.new w 31 n s).cells
  go_enter Tryz.func101, Tryz.ntmps101
  go_wp2
  go_ret
  exact ⟨ret_int (by first | rfl | omega), hA⟩

set_option maxHeartbeats 800000 in
theorem implBlocks_any (w : World) (n s : Int) : Calls Tryz.prog 100 #[.agg #[.int .i64 n, .int .i64 s]] w fun e w' => e = .returned (.int .i64 (blocksN n s)) ∧ Below w.heap.size w w' := by
  have hA := new_below w (.cells #[.int .i64 n, .int .i64 s] 31)
  have X := Gbox.new w 31 n s
  obtain ⟨k0, k1⟩ := X.cells
  have zA := X.lt
  go_enter Tryz.func100, Tryz.ntmps100
  go_wp2_with fail
  refine (implGeoOk_any _ _ _).mono ?_
  rintro e w1 ⟨rfl, b1⟩
  have X1 := X.below b1 zA
  have z1 := X1.lt
  obtain ⟨p0, p1⟩ := X1.cells
  have B1 := Below.andThen hA b1
  clear k0 k1 X b1 hA zA
  by_cases hg : geoB n s = true
  · obtain ⟨h1, h2, h3, h4⟩ := geoB_iff.1 hg
    have hm := geoB_blocks hg
    have HB := hidden (blocksN_of hg)
    have gw : IntKind.i64.wrap (s * (n - 1)) = s * (n - 1) := IntWalk.i64_in _ (by omega)
    go_wp2_with fail
    go_region_held3 (fun w' => w'.cell? ⟨w.heap.size, 0, none⟩ = some (.int .i64 n) ∧ w'.cell? ⟨w.heap.size, 1, none⟩ = some (.int .i64 s))
      (first | (exact ⟨(b2.cell (p := ⟨w.heap.size, 0, none⟩) z1).trans p0, (b2.cell (p := ⟨w.heap.size, 1, none⟩) z1).trans p1⟩) | (exact ⟨p0, p1⟩) | go_keep)
      (first
        | (go_at_call 101; refine (perStripe_any _ _ _ h1 h2).mono ?_; rintro e w2 ⟨rfl, b2'⟩; have b2 : Below w1.heap.size w1 w2 := (by exact (Below.refl w1.heap.size w1).drew.trans b2')))
    go_wp2
    go_ret
    exact ⟨ret_int (by rw [HB.out]), Below.andThen B1 b2⟩
  · have hg : geoB n s = false := by simpa using hg
    go_wp2
    go_ret
    exact ⟨ret_int (blocksN_not hg).symm, B1⟩

theorem stripeB_of {n s t : Int} : stripeB n s t = true ↔ geoB n s = true ∧ 0 ≤ t ∧ t < s := by unfold stripeB; rw [Bool.and_eq_true, inB_iff]; constructor <;> (rintro ⟨a, b⟩; exact ⟨a, by omega⟩)
theorem stripeB_not {n s t : Int} : stripeB n s t = false ↔ ¬ (geoB n s = true ∧ 0 ≤ t ∧ t < s) := by rw [← stripeB_of]; simp

set_option maxHeartbeats 800000 in
theorem hasStripe_any (w : World) (n s t : Int) : Calls Tryz.prog 63 #[.agg #[.int .i64 n, .int .i64 s], .int .i64 t] w fun e w' => e = .returned (.bool (stripeB n s t)) ∧ Below w.heap.size w w' := by
  have hA := new_below w (.cells #[.int .i64 n, .int .i64 s] 31)
  have X := Gbox.new w 31 n s
  obtain ⟨k0, k1⟩ := X.cells
  have zA := X.lt
  go_enter Tryz.func63, Tryz.ntmps63
  go_wp2_with fail
  refine (implGeoOk_any _ _ _).mono ?_
  rintro e w1 ⟨rfl, b1⟩
  have X1 := X.below b1 zA
  obtain ⟨p0, p1⟩ := X1.cells
  have B1 := Below.andThen hA b1
  clear k0 k1 X b1 hA zA
  by_cases hg : geoB n s = true
  · by_cases h1 : 0 ≤ t
    · by_cases h2 : t < s
      · go_wp2
        go_ret
        exact ⟨ret_bool (by symm; rw [stripeB_of]; exact ⟨hg, h1, h2⟩), B1⟩
      · go_wp2
        go_ret
        exact ⟨ret_bool (by first | (exact (stripeB_not.2 (by omega)).symm) | (rw [stripeB_not.2 (by omega)]; simp; omega)), B1⟩
    · go_wp2
      go_ret
      exact ⟨ret_bool (by first | (exact (stripeB_not.2 (by omega)).symm) | (rw [stripeB_not.2 (by omega)]; simp; omega)), B1⟩
  · have hg : geoB n s = false := by simpa using hg
    go_wp2
    go_ret
    exact ⟨ret_bool (by symm; rw [stripeB_not]; simp [hg]), B1⟩

set_option maxHeartbeats 800000 in
theorem implParityOf_any (w : World) (n s t : Int) : Calls Tryz.prog 141 #[.agg #[.int .i64 n, .int .i64 s], .int .i64 t] w fun e w' => e = .returned (.int .i64 (parN n s t)) ∧ Below w.heap.size w w' := by
  have hA := new_below w (.cells #[.int .i64 n, .int .i64 s] 31)
  have X := Gbox.new w 31 n s
  obtain ⟨k0, k1⟩ := X.cells
  have zA := X.lt
  go_enter Tryz.func141, Tryz.ntmps141
  go_wp2_with fail
  refine (hasStripe_any _ _ _ _).mono ?_
  rintro e w1 ⟨rfl, b1⟩
  have X1 := X.below b1 zA
  obtain ⟨p0, p1⟩ := X1.cells
  have B1 := Below.andThen hA b1
  clear k0 k1 X b1 hA zA
  by_cases hg : stripeB n s t = true
  · obtain ⟨hg1, h1, h2⟩ := stripeB_of.1 hg
    obtain ⟨g1, g2, g3, g4⟩ := geoB_iff.1 hg1
    have hm1 : 0 ≤ t % n := Int.emod_nonneg _ (by omega)
    have hm2 : t % n < n := Int.emod_lt_of_pos _ (by omega)
    have HB : Hid (parN n s t = n - 1 - t % n) := by unfold Hid parN; rw [if_pos hg]
    go_wp2_with fail
    go_quiet (fail)
    go_wp2
    go_ret
    exact ⟨ret_int (by rw [HB.out]), Below.andSame B1 ((Same.refl _).drewN _)⟩
  · have hg' : stripeB n s t = false := by simpa using hg
    go_wp2
    go_ret
    exact ⟨ret_int (by unfold parN; rw [if_neg hg]), B1⟩

theorem blockB_of {n s b : Int} : blockB n s b = true ↔ 0 ≤ b ∧ b < blocksN n s := by unfold blockB; rw [inB_iff]; omega
theorem blockB_not {n s b : Int} : blockB n s b = false ↔ ¬ (0 ≤ b ∧ b < blocksN n s) := by rw [← blockB_of]; simp
theorem blockB_geo {n s b : Int} (h : blockB n s b = true) : geoB n s = true := by
  rw [blockB_of] at h
  by_cases hg : geoB n s = true
  · exact hg
  · rw [blocksN_not (by simpa using hg)] at h
    omega

set_option maxHeartbeats 1600000 in
theorem placeOf_any (w : World) (n s b : Int) : Calls Tryz.prog 62 #[.agg #[.int .i64 n, .int .i64 s], .int .i64 b] w fun e w' => e = .returned (.agg #[.int .i64 (stripeN n s b), .int .i64 (indexN n s b)]) ∧ Below w.heap.size w w' := by
  have hA : Below w.heap.size w ((w.alloc (.cells #[.int .i64 n, .int .i64 s] 31)).alloc (.cells #[.int .i64 0, .int .i64 0] 91)) := (new_below w _).alloc (by simp) _
  have X : Gbox ((w.alloc (.cells #[.int .i64 n, .int .i64 s] 31)).alloc (.cells #[.int .i64 0, .int .i64 0] 91)) w.heap.size 31 n s := (Gbox.new w 31 n s).below (new_below _ _) (by simp)
  have Y : Gbox ((w.alloc (.cells #[.int .i64 n, .int .i64 s] 31)).alloc (.cells #[.int .i64 0, .int .i64 0] 91)) (w.heap.size + 1) 91 0 0 := by
    have := Gbox.new (w.alloc (.cells #[.int .i64 n, .int .i64 s] 31)) 91 0 0
    simpa using this
  obtain ⟨k0, k1⟩ := X.cells
  obtain ⟨j0, j1⟩ := Y.cells
  have f0 := Y.frozen 0
  have f1 := Y.frozen 1
  go_enter Tryz.func62, Tryz.ntmps62
  by_cases h0 : 0 ≤ b
  · go_wp2_with fail
    refine (implBlocks_any _ _ _).mono ?_
    rintro e w1 ⟨rfl, b1⟩
    have hz : w.heap.size + 1 < ((w.alloc (.cells #[.int .i64 n, .int .i64 s] 31)).alloc (.cells #[.int .i64 0, .int .i64 0] 91)).heap.size := by simp
    have X1 := X.below b1 (by omega)
    have Y1 := Y.below b1 hz
    have B1 := hA.trans (b1.mono hA.size)
    have hr := blocksN_range n s
    clear k0 k1 j0 j1 f0 f1 X Y hA b1 hz
    obtain ⟨k0, k1⟩ := X1.cells
    obtain ⟨j0, j1⟩ := Y1.cells
    have f0 := Y1.frozen 0
    have f1 := Y1.frozen 1
    have z1 := Y1.lt
    by_cases h1 : b < blocksN n s
    · have hb := blockB_of.2 ⟨h0, h1⟩
      obtain ⟨g1, g2, g3, g4⟩ := geoB_iff.1 (blockB_geo hb)
      have HS : Hid (stripeN n s b = b / (n - 1)) := by unfold Hid stripeN; rw [if_pos hb]
      have HI : Hid (indexN n s b = b % (n - 1)) := by unfold Hid indexN; rw [if_pos hb]
      have d1 : 0 ≤ b / (n - 1) := Int.ediv_nonneg (by omega) (by omega)
      have d2 : b / (n - 1) ≤ b := Int.ediv_le_self _ (by omega)
      have d3 : 0 ≤ b % (n - 1) := Int.emod_nonneg _ (by omega)
      have d4 : b % (n - 1) < n - 1 := Int.emod_lt_of_pos _ (by omega)
      have e1 : ¬ n - 1 = 0 := by omega
      have e3 : b.tmod (n - 1) = b % (n - 1) := Int.tmod_eq_emod_of_nonneg h0
      have e2 : IntKind.i64.wrap (b.tdiv (n - 1)) = b / (n - 1) := by rw [Int.tdiv_eq_ediv_of_nonneg h0]; exact IntWalk.i64_in _ (by omega)
      go_wp2_with fail
      go_region_held3 (fun w' => w'.cell? ⟨w.heap.size, 0, none⟩ = some (.int .i64 n) ∧ w'.cell? ⟨w.heap.size, 1, none⟩ = some (.int .i64 s))
        (first | (exact X3.cells) | (exact X2.cells) | (exact X1.cells) | go_keep)
        (first
          | (go_at_call 101; refine (perStripe_any _ _ _ g1 g2).mono ?_; rintro e w3 ⟨rfl, b3⟩; have B3 := Below.andThen B2 b3; have X3 := X2.below b3 X2.lt; have Y3 := Y2.below b3 Y2.lt; obtain ⟨k0, k1⟩ := X3.cells; obtain ⟨j0, j1⟩ := Y3.cells; have f0 := Y3.frozen 0; have f1 := Y3.frozen 1)
          | (go_at_call 101; refine (perStripe_any _ _ _ g1 g2).mono ?_; rintro e w2 ⟨rfl, b2⟩; have B2 := Below.andThen B1.drew b2; have X2 := X1.drew.below b2 X1.lt; have Y2 := Y1.drew.below b2 Y1.lt; obtain ⟨k0, k1⟩ := X2.cells))
      have Z := Y3.set2 (b / (n - 1)) (b % (n - 1))
      have BZ := (B3.setCell (p := ⟨w.heap.size + 1, 0, none⟩) (by simp) (.int .i64 (b / (n - 1)))).setCell (p := ⟨w.heap.size + 1, 1, none⟩) (by simp) (.int .i64 (b % (n - 1)))
      generalize ((w3.setCell ⟨w.heap.size + 1, 0, none⟩ (.int .i64 (b / (n - 1)))).setCell ⟨w.heap.size + 1, 1, none⟩ (.int .i64 (b % (n - 1)))) = w4 at Z BZ ⊢
      obtain ⟨q0, q1⟩ := Z.cells
      go_wp2
      refine bodyPost_ret (v := .agg #[.int .i64 (b / (n - 1)), .int .i64 (b % (n - 1))]) (by simp [results, Tryz.results62, go_sem, q0, q1]) rfl ?_
      exact ⟨by rw [HS.out, HI.out], BZ⟩
    · have HN : blockB n s b = false := blockB_not.2 (fun h => h1 h.2)
      have Z := Y1.set2 (-1) (-1)
      have BZ := (B1.setCell (p := ⟨w.heap.size + 1, 0, none⟩) (by simp) (.int .i64 (-1))).setCell (p := ⟨w.heap.size + 1, 1, none⟩) (by simp) (.int .i64 (-1))
      obtain ⟨q0, q1⟩ := Z.cells
      go_wp2
      refine bodyPost_ret (v := .agg #[.int .i64 (-1), .int .i64 (-1)]) (by simp [results, Tryz.results62, go_sem, q0, q1]) rfl ?_
      exact ⟨by unfold stripeN indexN; rw [HN]; rfl, BZ⟩
  · have HN : blockB n s b = false := blockB_not.2 (fun h => h0 h.1)
    clear j0 j1 k0 k1 f0 f1
    go_wp2
    refine bodyPost_ret (v := .agg #[.int .i64 (-1), .int .i64 (-1)]) (by simp [results, Tryz.results62, go_sem]) rfl ?_
    exact ⟨by unfold stripeN indexN; rw [HN]; rfl, (new_below w _).alloc (by simp) _⟩

end Go.Proofs.YtjmjianlcoleaaaGreat

/-
  The walks of the program's looks at an array's entries, at its records, and at the array as a whole. Condition: it weighs at most 2097152.
-/
namespace Go.Proofs.YtjmjianlcoleaaaGreat
open Go.RowKit

set_option linter.unusedSimpArgs false in
set_option maxRecDepth 20000 in
set_option maxHeartbeats 3200000 in
theorem dirtyOk_any (w : World) (G : TypeId) (x : ArrN) (am ad : Option Addr) (nm cm nd cd : Nat) (ds : List (Int × List Int)) (h0 : (tWrS G).Rd w [.slice ad nd cd] ds) (hw : wtWrS ds ≤ 2097152) (hg : geoB x.n x.s = true) :
    Calls Tryz.prog 128 #[.agg #[.int .i64 x.id, .int .i64 x.n, .int .i64 x.s, .slice am nm cm, .int .i64 x.lost, .int .i64 x.built, .int .i64 x.seq, .int .i64 x.tail, .int .i64 x.gen, .slice ad nd cd, .int .i64 x.fuse, .bool x.down, .bool x.broken]] w fun e w' => e = .returned (.bool (entsB x ds)) ∧ Below w.heap.size w w' := by
  obtain ⟨hl, hc, hm⟩ := row_length h0
  obtain ⟨g1, g2, g3, g4⟩ := geoB_iff.1 hg
  have hA := new_below w (.cells #[.int .i64 x.id, .int .i64 x.n, .int .i64 x.s, .slice am nm cm, .int .i64 x.lost, .int .i64 x.built, .int .i64 x.seq, .int .i64 x.tail, .int .i64 x.gen, .slice ad nd cd, .int .i64 x.fuse, .bool x.down, .bool x.broken] 35)
  have X := Box.new w 35 #[.int .i64 x.id, .int .i64 x.n, .int .i64 x.s, .slice am nm cm, .int .i64 x.lost, .int .i64 x.built, .int .i64 x.seq, .int .i64 x.tail, .int .i64 x.gen, .slice ad nd cd, .int .i64 x.fuse, .bool x.down, .bool x.broken]
  have zA := X.lt
  have hnd : nd ≤ 2097152 := by unfold wtWrS at hw; omega
  have h1 := h0.below hA
  obtain ⟨k0, k1, k2, k3, k4, k5, k6, k7, k8, k9, k10, k11, k12⟩ := X.cells13
  go_enter Tryz.func128, Tryz.ntmps128
  go_wp2
  generalize w.alloc (.cells #[.int .i64 x.id, .int .i64 x.n, .int .i64 x.s, .slice am nm cm, .int .i64 x.lost, .int .i64 x.built, .int .i64 x.seq, .int .i64 x.tail, .int .i64 x.gen, .slice ad nd cd, .int .i64 x.fuse, .bool x.down, .bool x.broken] 35) = W at hA X zA h1 k0 k1 k2 k3 k4 k5 k6 k7 k8 k9 k10 k11 k12 ⊢
  clear k0 k1 k2 k3 k4 k5 k6 k7 k8 k9 k10 k11 k12
  go_loopw [8] (fun i wr => ∃ j : Nat, j ≤ nd ∧ i = .int .i64 j ∧ (∀ (q : Nat) (d : Int × List Int), q < j → ds[q]? = some d → entAt x ds q d = true) ∧ Below W.heap.size W wr) (fun i _ => nd - (intOf i).toNat)
  case atStart => exact ⟨0, Nat.zero_le _, rfl, fun q d hq => by omega, Below.refl _ _⟩
  case round =>
    obtain ⟨j, hj, rfl, hall, hb⟩ := hrel
    have Xr := X.below hb zA
    by_cases hjn : j < nd
    · rcases pairs_at rfl h1 with h0' | ⟨b, off, rfl, hbl, hcs⟩
      · omega
      have hdj : ds[j]? = some (ds[j]'(by omega)) := List.getElem?_eq_getElem (by omega)
      generalize ds[j]'(by omega) = d at hdj
      obtain ⟨v0, v1, hv0, hv1, hrv⟩ := hcs j d hdj
      obtain ⟨rfl, hrw⟩ := wr_rd hrv
      obtain ⟨av, cv, rfl⟩ := row_shape hrw
      obtain ⟨y, zs⟩ := d
      simp only at hv0 hv1 hrw hrv
      have u0 := (hb.cell (p := ⟨b, off + j * 2, none⟩) hbl).trans hv0
      have u1 := (hb.cell (p := ⟨b, off + j * 2 + 1, none⟩) hbl).trans hv1
      have i1 : (0 : Int) ≤ (j : Int) := by omega
      have i2 : (j : Int) < (nd : Int) := by omega
      have hwz : zs.length ≤ 2097152 := Nat.le_trans (inner_le' hdj) hw
      have HDJ := hidden hdj
      have b1 := new_below wr (.cells #[.int .i64 y, .slice av zs.length cv] 65)
      have Y1 := Box.new wr 65 #[.int .i64 y, .slice av zs.length cv]
      have X1 := Xr.below b1 Xr.lt
      have RZ := (hrw.below hb).below b1
      have B1 := hb.trans (b1.mono hb.size)
      obtain ⟨y0, y1⟩ := Y1.cells2
      obtain ⟨e0, e1, e2, e3, e4, e5, e6, e7, e8, e9, e10, e11, e12⟩ := X1.cells13
      have zy := Y1.lt
      have zx := X1.lt
      have zb : b < (wr.alloc (.cells #[.int .i64 y, .slice av zs.length cv] 65)).heap.size := Nat.lt_of_lt_of_le hbl B1.size
      have hq : ∀ (p : Nat) (q : Int × List Int), ds[p]? = some q → (wr.alloc (.cells #[.int .i64 y, .slice av zs.length cv] 65)).cell? ⟨b, off + p * 2, none⟩ = some (.int .i64 q.1) := fun p q hpq => by
        obtain ⟨c0, c1, hc0, hc1, hrc⟩ := hcs p q hpq
        obtain ⟨rfl, _⟩ := wr_rd hrc
        exact (B1.cell (p := ⟨b, off + p * 2, none⟩) hbl).trans hc0
      have HQ := hidden hq
      clear hcs hv0 hv1 hrv hrw hdj hq b1 e0 e3 e4 e5 e6 e7 e8 e10 e11 e12
      cases hI : stripeB x.n x.s y
      · skip
        go_wp2_with fail
        generalize wr.alloc (.cells #[.int .i64 y, .slice av zs.length cv] 65) = w1 at X1 Y1 RZ B1 y0 y1 e1 e2 e9 zy zx zb HQ  ⊢
        refine wp_region_held_drew (S := fun w' => w'.cell? ⟨wr.heap.size, 0, none⟩ = some (.int .i64 y) ∧ w'.cell? ⟨w.heap.size, 1, none⟩ = some (.int .i64 x.n) ∧ w'.cell? ⟨w.heap.size, 2, none⟩ = some (.int .i64 x.s) ∧ w'.cell? ⟨w.heap.size, 9, none⟩ = some (.slice (some ⟨b, off, none⟩) nd cd)) (by kernel_rfl) ?_ (fun hHeld => ?_)
        · exact ⟨y0, e1, e2, e9⟩
        refine held_t 0 hHeld ?_
        refine held_t 1 hHeld ?_
        refine held_t 2 hHeld ?_
        refine held_t 3 hHeld ?_
        refine held_one (i := 4) (by kernel_rfl) rfl (by kernel_rfl) (fun K hK => ?_)
        go_simp
        refine (hasStripe_any _ x.n x.s y).mono ?_
        rintro e w2 ⟨rfl, b2⟩
        have b2' : Below w1.heap.size w1 w2 := (Below.refl w1.heap.size w1).drew.trans b2
        clear b2
        rw [hI]
        go_wp2_with fail
        clear hHeld
        refine hK.out _ _ ?_ (fun hHeld => ?_)
        · exact ⟨(b2'.cell (p := ⟨wr.heap.size, 0, none⟩) zy).trans y0, (b2'.cell (p := ⟨w.heap.size, 1, none⟩) zx).trans e1, (b2'.cell (p := ⟨w.heap.size, 2, none⟩) zx).trans e2, (b2'.cell (p := ⟨w.heap.size, 9, none⟩) zx).trans e9⟩
        clear hK K
        refine held_t 5 hHeld ?_
        refine held_t 6 hHeld ?_
        refine held_p 7 hHeld ?_
        refine held_p 8 hHeld ?_
        refine held_p 9 hHeld ?_
        refine held_p 10 hHeld ?_
        refine held_p 11 hHeld ?_
        refine held_p 12 hHeld ?_
        refine held_p 13 hHeld ?_
        refine held_p 14 hHeld ?_
        refine held_p 15 hHeld ?_
        refine held_p 16 hHeld ?_
        refine held_p 17 hHeld ?_
        refine held_p 18 hHeld ?_
        refine held_p 19 hHeld ?_
        refine held_p 20 hHeld ?_
        refine held_t 21 hHeld ?_
        refine wpAnyH_done (by kernel_rfl) ?_ _
        clear hHeld
        have HB := hidden (hA.trans ((B1.trans (b2'.mono B1.size)).mono hA.size))
        have HE := hidden (entsB_no (x := x) HDJ.out (entAt_1 (by rw [← stripe_in6 hg]; exact hI)))
        go_wp2
        go_ret
        exact ⟨ret_bool HE.out.symm, HB.out⟩
      · have HI := hidden ((stripe_in6 hg).symm.trans hI)
        by_cases hj0 : j = 0
        · subst hj0
          simp only [Nat.zero_mul, Nat.add_zero] at u0 u1
          by_cases hL : (zs.length : Int) = x.n - 1
          · have hL1 : ((zs.length : Int) == x.n - 1) = true := by simpa using hL
            have hL2 : ((zs.length : Int) != x.n - 1) = false := by simpa using hL
            have HL := hidden hL
            have hsa : secB zs = allW zs := sec_all6 (by omega)
            have HSA := hidden hsa
            clear hL hsa
            cases hZ : secB zs
            · have HZ := hidden (HSA.out.symm.trans hZ)
              go_wp2_with fail
              generalize wr.alloc (.cells #[.int .i64 y, .slice av zs.length cv] 65) = w1 at X1 Y1 RZ B1 y0 y1 e1 e2 e9 zy zx zb HQ  ⊢
              refine wp_region_held_drew (S := fun w' => w'.cell? ⟨wr.heap.size, 0, none⟩ = some (.int .i64 y) ∧ w'.cell? ⟨w.heap.size, 1, none⟩ = some (.int .i64 x.n) ∧ w'.cell? ⟨w.heap.size, 2, none⟩ = some (.int .i64 x.s) ∧ w'.cell? ⟨w.heap.size, 9, none⟩ = some (.slice (some ⟨b, off, none⟩) nd cd)) (by kernel_rfl) ?_ (fun hHeld => ?_)
              · exact ⟨y0, e1, e2, e9⟩
              refine held_t 0 hHeld ?_
              refine held_t 1 hHeld ?_
              refine held_t 2 hHeld ?_
              refine held_t 3 hHeld ?_
              refine held_one (i := 4) (by kernel_rfl) rfl (by kernel_rfl) (fun K hK => ?_)
              go_simp
              refine (hasStripe_any _ x.n x.s y).mono ?_
              rintro e w2 ⟨rfl, b2⟩
              have b2' : Below w1.heap.size w1 w2 := (Below.refl w1.heap.size w1).drew.trans b2
              clear b2
              rw [hI]
              go_wp2_with fail
              clear hHeld
              refine hK.out _ _ ?_ (fun hHeld => ?_)
              · exact ⟨(b2'.cell (p := ⟨wr.heap.size, 0, none⟩) zy).trans y0, (b2'.cell (p := ⟨w.heap.size, 1, none⟩) zx).trans e1, (b2'.cell (p := ⟨w.heap.size, 2, none⟩) zx).trans e2, (b2'.cell (p := ⟨w.heap.size, 9, none⟩) zx).trans e9⟩
              clear hK K
              refine held_t 5 hHeld ?_
              refine held_t 6 hHeld ?_
              refine held_t 7 hHeld ?_
              refine held_t 8 hHeld ?_
              refine held_t 9 hHeld ?_
              refine held_p 10 hHeld ?_
              refine held_p 11 hHeld ?_
              refine held_p 12 hHeld ?_
              refine held_p 13 hHeld ?_
              refine held_p 14 hHeld ?_
              refine held_p 15 hHeld ?_
              refine held_p 16 hHeld ?_
              refine held_p 17 hHeld ?_
              refine held_p 18 hHeld ?_
              refine held_p 19 hHeld ?_
              refine held_t 20 hHeld ?_
              refine held_t 21 hHeld ?_
              refine wpAnyH_done (by kernel_rfl) ?_ _
              clear hHeld
              have my1 := (b2'.cell (p := ⟨wr.heap.size, 1, none⟩) zy).trans y1
              have me1 := (b2'.cell (p := ⟨w.heap.size, 1, none⟩) zx).trans e1
              have me2 := (b2'.cell (p := ⟨w.heap.size, 2, none⟩) zx).trans e2
              have my := Nat.lt_of_lt_of_le zy b2'.size
              have mx := Nat.lt_of_lt_of_le zx b2'.size
              have RZ2 := RZ.below b2'
              go_wp2_with fail
              refine wp_region_held_drew (S := fun w' => w'.cell? ⟨wr.heap.size, 1, none⟩ = some (.slice av zs.length cv) ∧ w'.cell? ⟨w.heap.size, 1, none⟩ = some (.int .i64 x.n) ∧ w'.cell? ⟨w.heap.size, 2, none⟩ = some (.int .i64 x.s)) (by kernel_rfl) ?_ (fun hHeld => ?_)
              · exact ⟨my1, me1, me2⟩
              refine held_t 0 hHeld ?_
              refine held_t 1 hHeld ?_
              refine held_t 2 hHeld ?_
              refine held_t 3 hHeld ?_
              refine held_t 4 hHeld ?_
              refine held_one (i := 5) (by kernel_rfl) rfl (by kernel_rfl) (fun K hK => ?_)
              go_simp
              refine (perStripe_any _ x.n x.s g1 g2).mono ?_
              rintro e w3 ⟨rfl, b3⟩
              have b3' : Below w2.heap.size w2 w3 := (Below.refl w2.heap.size w2).drew.trans b3
              clear b3
              go_wp2_with fail
              clear hHeld
              refine hK.out _ _ ?_ (fun hHeld => ?_)
              · exact ⟨(b3'.cell (p := ⟨wr.heap.size, 1, none⟩) my).trans my1, (b3'.cell (p := ⟨w.heap.size, 1, none⟩) mx).trans me1, (b3'.cell (p := ⟨w.heap.size, 2, none⟩) mx).trans me2⟩
              clear hK K
              refine held_t 6 hHeld ?_
              refine held_t 7 hHeld ?_
              refine held_t 8 hHeld ?_
              refine held_t 9 hHeld ?_
              refine held_one (i := 10) (by kernel_rfl) rfl (by kernel_rfl) (fun K hK => ?_)
              go_simp
              refine (implSecOk_any _ _ _ _ zs rfl (ints_rd (RZ2.below b3')).1 hwz).mono ?_
              rintro e w4 ⟨rfl, s4⟩
              have b4' : Below w2.heap.size w2 w4 := Below.andThen b3' (s4.below _)
              clear s4
              rw [hZ]
              go_wp2_with fail
              clear hHeld
              refine hK.out _ _ ?_ (fun hHeld => ?_)
              · exact ⟨(b4'.cell (p := ⟨wr.heap.size, 1, none⟩) my).trans my1, (b4'.cell (p := ⟨w.heap.size, 1, none⟩) mx).trans me1, (b4'.cell (p := ⟨w.heap.size, 2, none⟩) mx).trans me2⟩
              clear hK K
              refine held_t 11 hHeld ?_
              refine held_t 12 hHeld ?_
              refine wpAnyH_done (by kernel_rfl) ?_ _
              clear hHeld
              have HB := hidden (hA.trans ((B1.trans ((Below.andThen b2' b4').mono B1.size)).mono hA.size))
              have HE := hidden (entsB_no (x := x) HDJ.out (entAt_3 HZ.out))
              go_wp2
              go_ret
              exact ⟨ret_bool HE.out.symm, HB.out⟩
            · have HZ := hidden (HSA.out.symm.trans hZ)
              go_wp2_with fail
              generalize wr.alloc (.cells #[.int .i64 y, .slice av zs.length cv] 65) = w1 at X1 Y1 RZ B1 y0 y1 e1 e2 e9 zy zx zb HQ  ⊢
              refine wp_region_held_drew (S := fun w' => w'.cell? ⟨wr.heap.size, 0, none⟩ = some (.int .i64 y) ∧ w'.cell? ⟨w.heap.size, 1, none⟩ = some (.int .i64 x.n) ∧ w'.cell? ⟨w.heap.size, 2, none⟩ = some (.int .i64 x.s) ∧ w'.cell? ⟨w.heap.size, 9, none⟩ = some (.slice (some ⟨b, off, none⟩) nd cd)) (by kernel_rfl) ?_ (fun hHeld => ?_)
              · exact ⟨y0, e1, e2, e9⟩
              refine held_t 0 hHeld ?_
              refine held_t 1 hHeld ?_
              refine held_t 2 hHeld ?_
              refine held_t 3 hHeld ?_
              refine held_one (i := 4) (by kernel_rfl) rfl (by kernel_rfl) (fun K hK => ?_)
              go_simp
              refine (hasStripe_any _ x.n x.s y).mono ?_
              rintro e w2 ⟨rfl, b2⟩
              have b2' : Below w1.heap.size w1 w2 := (Below.refl w1.heap.size w1).drew.trans b2
              clear b2
              rw [hI]
              go_wp2_with fail
              clear hHeld
              refine hK.out _ _ ?_ (fun hHeld => ?_)
              · exact ⟨(b2'.cell (p := ⟨wr.heap.size, 0, none⟩) zy).trans y0, (b2'.cell (p := ⟨w.heap.size, 1, none⟩) zx).trans e1, (b2'.cell (p := ⟨w.heap.size, 2, none⟩) zx).trans e2, (b2'.cell (p := ⟨w.heap.size, 9, none⟩) zx).trans e9⟩
              clear hK K
              refine held_t 5 hHeld ?_
              refine held_t 6 hHeld ?_
              refine held_t 7 hHeld ?_
              refine held_t 8 hHeld ?_
              refine held_t 9 hHeld ?_
              refine held_p 10 hHeld ?_
              refine held_p 11 hHeld ?_
              refine held_p 12 hHeld ?_
              refine held_p 13 hHeld ?_
              refine held_p 14 hHeld ?_
              refine held_p 15 hHeld ?_
              refine held_p 16 hHeld ?_
              refine held_p 17 hHeld ?_
              refine held_p 18 hHeld ?_
              refine held_p 19 hHeld ?_
              refine held_t 20 hHeld ?_
              refine held_t 21 hHeld ?_
              refine wpAnyH_done (by kernel_rfl) ?_ _
              clear hHeld
              have my1 := (b2'.cell (p := ⟨wr.heap.size, 1, none⟩) zy).trans y1
              have me1 := (b2'.cell (p := ⟨w.heap.size, 1, none⟩) zx).trans e1
              have me2 := (b2'.cell (p := ⟨w.heap.size, 2, none⟩) zx).trans e2
              have my := Nat.lt_of_lt_of_le zy b2'.size
              have mx := Nat.lt_of_lt_of_le zx b2'.size
              have RZ2 := RZ.below b2'
              go_wp2_with fail
              refine wp_region_held_drew (S := fun w' => w'.cell? ⟨wr.heap.size, 1, none⟩ = some (.slice av zs.length cv) ∧ w'.cell? ⟨w.heap.size, 1, none⟩ = some (.int .i64 x.n) ∧ w'.cell? ⟨w.heap.size, 2, none⟩ = some (.int .i64 x.s)) (by kernel_rfl) ?_ (fun hHeld => ?_)
              · exact ⟨my1, me1, me2⟩
              refine held_t 0 hHeld ?_
              refine held_t 1 hHeld ?_
              refine held_t 2 hHeld ?_
              refine held_t 3 hHeld ?_
              refine held_t 4 hHeld ?_
              refine held_one (i := 5) (by kernel_rfl) rfl (by kernel_rfl) (fun K hK => ?_)
              go_simp
              refine (perStripe_any _ x.n x.s g1 g2).mono ?_
              rintro e w3 ⟨rfl, b3⟩
              have b3' : Below w2.heap.size w2 w3 := (Below.refl w2.heap.size w2).drew.trans b3
              clear b3
              go_wp2_with fail
              clear hHeld
              refine hK.out _ _ ?_ (fun hHeld => ?_)
              · exact ⟨(b3'.cell (p := ⟨wr.heap.size, 1, none⟩) my).trans my1, (b3'.cell (p := ⟨w.heap.size, 1, none⟩) mx).trans me1, (b3'.cell (p := ⟨w.heap.size, 2, none⟩) mx).trans me2⟩
              clear hK K
              refine held_t 6 hHeld ?_
              refine held_t 7 hHeld ?_
              refine held_t 8 hHeld ?_
              refine held_t 9 hHeld ?_
              refine held_one (i := 10) (by kernel_rfl) rfl (by kernel_rfl) (fun K hK => ?_)
              go_simp
              refine (implSecOk_any _ _ _ _ zs rfl (ints_rd (RZ2.below b3')).1 hwz).mono ?_
              rintro e w4 ⟨rfl, s4⟩
              have b4' : Below w2.heap.size w2 w4 := Below.andThen b3' (s4.below _)
              clear s4
              rw [hZ]
              go_wp2_with fail
              clear hHeld
              refine hK.out _ _ ?_ (fun hHeld => ?_)
              · exact ⟨(b4'.cell (p := ⟨wr.heap.size, 1, none⟩) my).trans my1, (b4'.cell (p := ⟨w.heap.size, 1, none⟩) mx).trans me1, (b4'.cell (p := ⟨w.heap.size, 2, none⟩) mx).trans me2⟩
              clear hK K
              refine held_t 11 hHeld ?_
              refine held_t 12 hHeld ?_
              refine wpAnyH_done (by kernel_rfl) ?_ _
              clear hHeld
              have HB := hidden (B1.trans ((Below.andThen b2' b4').mono B1.size))
              have hat : entAt x ds (0) (y, zs) = true := entAt_4 HI.out HL.out HZ.out
              go_wp2
              go_roundw
              case rel => exact ⟨0 + 1, by omega, by go_num, fun q d hq hm' => by
                  rcases Nat.lt_or_ge q (0) with h | h
                  · exact hall q d h hm'
                  · obtain rfl : q = 0 := by omega
                    rw [HDJ.out] at hm'
                    cases hm'
                    exact hat, HB.out⟩
              case measure => simp [intOf]; omega
          · have hL1 : ((zs.length : Int) == x.n - 1) = false := by simpa using hL
            have hL2 : ((zs.length : Int) != x.n - 1) = true := by simpa using hL
            have HL := hidden hL
            clear hL
            go_wp2_with fail
            generalize wr.alloc (.cells #[.int .i64 y, .slice av zs.length cv] 65) = w1 at X1 Y1 RZ B1 y0 y1 e1 e2 e9 zy zx zb HQ  ⊢
            refine wp_region_held_drew (S := fun w' => w'.cell? ⟨wr.heap.size, 0, none⟩ = some (.int .i64 y) ∧ w'.cell? ⟨w.heap.size, 1, none⟩ = some (.int .i64 x.n) ∧ w'.cell? ⟨w.heap.size, 2, none⟩ = some (.int .i64 x.s) ∧ w'.cell? ⟨w.heap.size, 9, none⟩ = some (.slice (some ⟨b, off, none⟩) nd cd)) (by kernel_rfl) ?_ (fun hHeld => ?_)
            · exact ⟨y0, e1, e2, e9⟩
            refine held_t 0 hHeld ?_
            refine held_t 1 hHeld ?_
            refine held_t 2 hHeld ?_
            refine held_t 3 hHeld ?_
            refine held_one (i := 4) (by kernel_rfl) rfl (by kernel_rfl) (fun K hK => ?_)
            go_simp
            refine (hasStripe_any _ x.n x.s y).mono ?_
            rintro e w2 ⟨rfl, b2⟩
            have b2' : Below w1.heap.size w1 w2 := (Below.refl w1.heap.size w1).drew.trans b2
            clear b2
            rw [hI]
            go_wp2_with fail
            clear hHeld
            refine hK.out _ _ ?_ (fun hHeld => ?_)
            · exact ⟨(b2'.cell (p := ⟨wr.heap.size, 0, none⟩) zy).trans y0, (b2'.cell (p := ⟨w.heap.size, 1, none⟩) zx).trans e1, (b2'.cell (p := ⟨w.heap.size, 2, none⟩) zx).trans e2, (b2'.cell (p := ⟨w.heap.size, 9, none⟩) zx).trans e9⟩
            clear hK K
            refine held_t 5 hHeld ?_
            refine held_t 6 hHeld ?_
            refine held_t 7 hHeld ?_
            refine held_t 8 hHeld ?_
            refine held_t 9 hHeld ?_
            refine held_p 10 hHeld ?_
            refine held_p 11 hHeld ?_
            refine held_p 12 hHeld ?_
            refine held_p 13 hHeld ?_
            refine held_p 14 hHeld ?_
            refine held_p 15 hHeld ?_
            refine held_p 16 hHeld ?_
            refine held_p 17 hHeld ?_
            refine held_p 18 hHeld ?_
            refine held_p 19 hHeld ?_
            refine held_t 20 hHeld ?_
            refine held_t 21 hHeld ?_
            refine wpAnyH_done (by kernel_rfl) ?_ _
            clear hHeld
            have my1 := (b2'.cell (p := ⟨wr.heap.size, 1, none⟩) zy).trans y1
            have me1 := (b2'.cell (p := ⟨w.heap.size, 1, none⟩) zx).trans e1
            have me2 := (b2'.cell (p := ⟨w.heap.size, 2, none⟩) zx).trans e2
            have my := Nat.lt_of_lt_of_le zy b2'.size
            have mx := Nat.lt_of_lt_of_le zx b2'.size
            have RZ2 := RZ.below b2'
            go_wp2_with fail
            refine wp_region_held_drew (S := fun w' => w'.cell? ⟨wr.heap.size, 1, none⟩ = some (.slice av zs.length cv) ∧ w'.cell? ⟨w.heap.size, 1, none⟩ = some (.int .i64 x.n) ∧ w'.cell? ⟨w.heap.size, 2, none⟩ = some (.int .i64 x.s)) (by kernel_rfl) ?_ (fun hHeld => ?_)
            · exact ⟨my1, me1, me2⟩
            refine held_t 0 hHeld ?_
            refine held_t 1 hHeld ?_
            refine held_t 2 hHeld ?_
            refine held_t 3 hHeld ?_
            refine held_t 4 hHeld ?_
            refine held_one (i := 5) (by kernel_rfl) rfl (by kernel_rfl) (fun K hK => ?_)
            go_simp
            refine (perStripe_any _ x.n x.s g1 g2).mono ?_
            rintro e w3 ⟨rfl, b3⟩
            have b3' : Below w2.heap.size w2 w3 := (Below.refl w2.heap.size w2).drew.trans b3
            clear b3
            go_wp2_with fail
            clear hHeld
            refine hK.out _ _ ?_ (fun hHeld => ?_)
            · exact ⟨(b3'.cell (p := ⟨wr.heap.size, 1, none⟩) my).trans my1, (b3'.cell (p := ⟨w.heap.size, 1, none⟩) mx).trans me1, (b3'.cell (p := ⟨w.heap.size, 2, none⟩) mx).trans me2⟩
            clear hK K
            refine held_t 6 hHeld ?_
            refine held_t 7 hHeld ?_
            refine held_p 8 hHeld ?_
            refine held_p 9 hHeld ?_
            refine held_none (i := 10) (by kernel_rfl) rfl (by kernel_rfl) hHeld ?_
            simp only [Act.put, List.setIfInBounds_toArray, List.set_cons_zero, List.set_cons_succ]
            refine held_p 11 hHeld ?_
            refine held_t 12 hHeld ?_
            refine wpAnyH_done (by kernel_rfl) ?_ _
            clear hHeld
            have HB := hidden (hA.trans ((B1.trans ((Below.andThen b2' b3').mono B1.size)).mono hA.size))
            have HE := hidden (entsB_no (x := x) HDJ.out (entAt_2 HL.out))
            go_wp2
            go_ret
            exact ⟨ret_bool HE.out.symm, HB.out⟩
        · obtain ⟨p, rfl⟩ : ∃ p, j = p + 1 := ⟨j - 1, by omega⟩
          have hpq : ds[p]? = some (ds[p]'(by omega)) := List.getElem?_eq_getElem (by omega)
          generalize ds[p]'(by omega) = q at hpq
          have qc := HQ.out p q hpq
          obtain ⟨s, zq⟩ := q
          simp only at qc
          have HPQ := hidden hpq
          clear hpq
          have j1 : IntKind.i64.wrap (((p + 1 : Nat) : Int) - 1) = (p : Int) := by rw [IntWalk.i64_in _ (by omega)]; omega
          have j2 : IntKind.i64.wrap ((p : Int) + 1 - 1) = (p : Int) := by rw [IntWalk.i64_in _ (by omega)]; omega
          have j3 : IntKind.i64.wrap (p : Int) = (p : Int) := IntWalk.i64_in _ (by omega)
          have j4 : (0 : Int) ≤ (p : Int) := by omega
          have j5 : (p : Int) < (nd : Int) := by omega
          have j6 : (0 : Int) < ((p + 1 : Nat) : Int) := by omega
          by_cases hlt : s < y
          · have hge : ¬ y ≤ s := by omega
            by_cases hL : (zs.length : Int) = x.n - 1
            · have hL1 : ((zs.length : Int) == x.n - 1) = true := by simpa using hL
              have hL2 : ((zs.length : Int) != x.n - 1) = false := by simpa using hL
              have HL := hidden hL
              have hsa : secB zs = allW zs := sec_all6 (by omega)
              have HSA := hidden hsa
              clear hL hsa
              cases hZ : secB zs
              · have HZ := hidden (HSA.out.symm.trans hZ)
                go_wp2_with fail
                generalize wr.alloc (.cells #[.int .i64 y, .slice av zs.length cv] 65) = w1 at X1 Y1 RZ B1 y0 y1 e1 e2 e9 zy zx zb HQ qc ⊢
                refine wp_region_held_drew (S := fun w' => w'.cell? ⟨wr.heap.size, 0, none⟩ = some (.int .i64 y) ∧ w'.cell? ⟨w.heap.size, 1, none⟩ = some (.int .i64 x.n) ∧ w'.cell? ⟨w.heap.size, 2, none⟩ = some (.int .i64 x.s) ∧ w'.cell? ⟨w.heap.size, 9, none⟩ = some (.slice (some ⟨b, off, none⟩) nd cd) ∧ w'.cell? ⟨b, off + p * 2, none⟩ = some (.int .i64 s)) (by kernel_rfl) ?_ (fun hHeld => ?_)
                · exact ⟨y0, e1, e2, e9, qc⟩
                refine held_t 0 hHeld ?_
                refine held_t 1 hHeld ?_
                refine held_t 2 hHeld ?_
                refine held_t 3 hHeld ?_
                refine held_one (i := 4) (by kernel_rfl) rfl (by kernel_rfl) (fun K hK => ?_)
                go_simp
                refine (hasStripe_any _ x.n x.s y).mono ?_
                rintro e w2 ⟨rfl, b2⟩
                have b2' : Below w1.heap.size w1 w2 := (Below.refl w1.heap.size w1).drew.trans b2
                clear b2
                rw [hI]
                go_wp2_with fail
                clear hHeld
                refine hK.out _ _ ?_ (fun hHeld => ?_)
                · exact ⟨(b2'.cell (p := ⟨wr.heap.size, 0, none⟩) zy).trans y0, (b2'.cell (p := ⟨w.heap.size, 1, none⟩) zx).trans e1, (b2'.cell (p := ⟨w.heap.size, 2, none⟩) zx).trans e2, (b2'.cell (p := ⟨w.heap.size, 9, none⟩) zx).trans e9, (b2'.cell (p := ⟨b, off + p * 2, none⟩) zb).trans qc⟩
                clear hK K
                refine held_t 5 hHeld ?_
                refine held_t 6 hHeld ?_
                refine held_t 7 hHeld ?_
                refine held_t 8 hHeld ?_
                refine held_t 9 hHeld ?_
                refine held_t 10 hHeld ?_
                refine held_t 11 hHeld ?_
                refine held_t 12 hHeld ?_
                refine held_t 13 hHeld ?_
                refine held_t 14 hHeld ?_
                refine held_t 15 hHeld ?_
                refine held_t 16 hHeld ?_
                refine held_t 17 hHeld ?_
                refine held_t 18 hHeld ?_
                refine held_t 19 hHeld ?_
                refine held_t 20 hHeld ?_
                refine held_t 21 hHeld ?_
                refine wpAnyH_done (by kernel_rfl) ?_ _
                clear hHeld
                have my1 := (b2'.cell (p := ⟨wr.heap.size, 1, none⟩) zy).trans y1
                have me1 := (b2'.cell (p := ⟨w.heap.size, 1, none⟩) zx).trans e1
                have me2 := (b2'.cell (p := ⟨w.heap.size, 2, none⟩) zx).trans e2
                have my := Nat.lt_of_lt_of_le zy b2'.size
                have mx := Nat.lt_of_lt_of_le zx b2'.size
                have RZ2 := RZ.below b2'
                go_wp2_with fail
                refine wp_region_held_drew (S := fun w' => w'.cell? ⟨wr.heap.size, 1, none⟩ = some (.slice av zs.length cv) ∧ w'.cell? ⟨w.heap.size, 1, none⟩ = some (.int .i64 x.n) ∧ w'.cell? ⟨w.heap.size, 2, none⟩ = some (.int .i64 x.s)) (by kernel_rfl) ?_ (fun hHeld => ?_)
                · exact ⟨my1, me1, me2⟩
                refine held_t 0 hHeld ?_
                refine held_t 1 hHeld ?_
                refine held_t 2 hHeld ?_
                refine held_t 3 hHeld ?_
                refine held_t 4 hHeld ?_
                refine held_one (i := 5) (by kernel_rfl) rfl (by kernel_rfl) (fun K hK => ?_)
                go_simp
                refine (perStripe_any _ x.n x.s g1 g2).mono ?_
                rintro e w3 ⟨rfl, b3⟩
                have b3' : Below w2.heap.size w2 w3 := (Below.refl w2.heap.size w2).drew.trans b3
                clear b3
                go_wp2_with fail
                clear hHeld
                refine hK.out _ _ ?_ (fun hHeld => ?_)
                · exact ⟨(b3'.cell (p := ⟨wr.heap.size, 1, none⟩) my).trans my1, (b3'.cell (p := ⟨w.heap.size, 1, none⟩) mx).trans me1, (b3'.cell (p := ⟨w.heap.size, 2, none⟩) mx).trans me2⟩
                clear hK K
                refine held_t 6 hHeld ?_
                refine held_t 7 hHeld ?_
                refine held_t 8 hHeld ?_
                refine held_t 9 hHeld ?_
                refine held_one (i := 10) (by kernel_rfl) rfl (by kernel_rfl) (fun K hK => ?_)
                go_simp
                refine (implSecOk_any _ _ _ _ zs rfl (ints_rd (RZ2.below b3')).1 hwz).mono ?_
                rintro e w4 ⟨rfl, s4⟩
                have b4' : Below w2.heap.size w2 w4 := Below.andThen b3' (s4.below _)
                clear s4
                rw [hZ]
                go_wp2_with fail
                clear hHeld
                refine hK.out _ _ ?_ (fun hHeld => ?_)
                · exact ⟨(b4'.cell (p := ⟨wr.heap.size, 1, none⟩) my).trans my1, (b4'.cell (p := ⟨w.heap.size, 1, none⟩) mx).trans me1, (b4'.cell (p := ⟨w.heap.size, 2, none⟩) mx).trans me2⟩
                clear hK K
                refine held_t 11 hHeld ?_
                refine held_t 12 hHeld ?_
                refine wpAnyH_done (by kernel_rfl) ?_ _
                clear hHeld
                have HB := hidden (hA.trans ((B1.trans ((Below.andThen b2' b4').mono B1.size)).mono hA.size))
                have HE := hidden (entsB_no (x := x) HDJ.out (entAt_3 HZ.out))
                go_wp2
                go_ret
                exact ⟨ret_bool HE.out.symm, HB.out⟩
              · have HZ := hidden (HSA.out.symm.trans hZ)
                go_wp2_with fail
                generalize wr.alloc (.cells #[.int .i64 y, .slice av zs.length cv] 65) = w1 at X1 Y1 RZ B1 y0 y1 e1 e2 e9 zy zx zb HQ qc ⊢
                refine wp_region_held_drew (S := fun w' => w'.cell? ⟨wr.heap.size, 0, none⟩ = some (.int .i64 y) ∧ w'.cell? ⟨w.heap.size, 1, none⟩ = some (.int .i64 x.n) ∧ w'.cell? ⟨w.heap.size, 2, none⟩ = some (.int .i64 x.s) ∧ w'.cell? ⟨w.heap.size, 9, none⟩ = some (.slice (some ⟨b, off, none⟩) nd cd) ∧ w'.cell? ⟨b, off + p * 2, none⟩ = some (.int .i64 s)) (by kernel_rfl) ?_ (fun hHeld => ?_)
                · exact ⟨y0, e1, e2, e9, qc⟩
                refine held_t 0 hHeld ?_
                refine held_t 1 hHeld ?_
                refine held_t 2 hHeld ?_
                refine held_t 3 hHeld ?_
                refine held_one (i := 4) (by kernel_rfl) rfl (by kernel_rfl) (fun K hK => ?_)
                go_simp
                refine (hasStripe_any _ x.n x.s y).mono ?_
                rintro e w2 ⟨rfl, b2⟩
                have b2' : Below w1.heap.size w1 w2 := (Below.refl w1.heap.size w1).drew.trans b2
                clear b2
                rw [hI]
                go_wp2_with fail
                clear hHeld
                refine hK.out _ _ ?_ (fun hHeld => ?_)
                · exact ⟨(b2'.cell (p := ⟨wr.heap.size, 0, none⟩) zy).trans y0, (b2'.cell (p := ⟨w.heap.size, 1, none⟩) zx).trans e1, (b2'.cell (p := ⟨w.heap.size, 2, none⟩) zx).trans e2, (b2'.cell (p := ⟨w.heap.size, 9, none⟩) zx).trans e9, (b2'.cell (p := ⟨b, off + p * 2, none⟩) zb).trans qc⟩
                clear hK K
                refine held_t 5 hHeld ?_
                refine held_t 6 hHeld ?_
                refine held_t 7 hHeld ?_
                refine held_t 8 hHeld ?_
                refine held_t 9 hHeld ?_
                refine held_t 10 hHeld ?_
                refine held_t 11 hHeld ?_
                refine held_t 12 hHeld ?_
                refine held_t 13 hHeld ?_
                refine held_t 14 hHeld ?_
                refine held_t 15 hHeld ?_
                refine held_t 16 hHeld ?_
                refine held_t 17 hHeld ?_
                refine held_t 18 hHeld ?_
                refine held_t 19 hHeld ?_
                refine held_t 20 hHeld ?_
                refine held_t 21 hHeld ?_
                refine wpAnyH_done (by kernel_rfl) ?_ _
                clear hHeld
                have my1 := (b2'.cell (p := ⟨wr.heap.size, 1, none⟩) zy).trans y1
                have me1 := (b2'.cell (p := ⟨w.heap.size, 1, none⟩) zx).trans e1
                have me2 := (b2'.cell (p := ⟨w.heap.size, 2, none⟩) zx).trans e2
                have my := Nat.lt_of_lt_of_le zy b2'.size
                have mx := Nat.lt_of_lt_of_le zx b2'.size
                have RZ2 := RZ.below b2'
                go_wp2_with fail
                refine wp_region_held_drew (S := fun w' => w'.cell? ⟨wr.heap.size, 1, none⟩ = some (.slice av zs.length cv) ∧ w'.cell? ⟨w.heap.size, 1, none⟩ = some (.int .i64 x.n) ∧ w'.cell? ⟨w.heap.size, 2, none⟩ = some (.int .i64 x.s)) (by kernel_rfl) ?_ (fun hHeld => ?_)
                · exact ⟨my1, me1, me2⟩
                refine held_t 0 hHeld ?_
                refine held_t 1 hHeld ?_
                refine held_t 2 hHeld ?_
                refine held_t 3 hHeld ?_
                refine held_t 4 hHeld ?_
                refine held_one (i := 5) (by kernel_rfl) rfl (by kernel_rfl) (fun K hK => ?_)
                go_simp
                refine (perStripe_any _ x.n x.s g1 g2).mono ?_
                rintro e w3 ⟨rfl, b3⟩
                have b3' : Below w2.heap.size w2 w3 := (Below.refl w2.heap.size w2).drew.trans b3
                clear b3
                go_wp2_with fail
                clear hHeld
                refine hK.out _ _ ?_ (fun hHeld => ?_)
                · exact ⟨(b3'.cell (p := ⟨wr.heap.size, 1, none⟩) my).trans my1, (b3'.cell (p := ⟨w.heap.size, 1, none⟩) mx).trans me1, (b3'.cell (p := ⟨w.heap.size, 2, none⟩) mx).trans me2⟩
                clear hK K
                refine held_t 6 hHeld ?_
                refine held_t 7 hHeld ?_
                refine held_t 8 hHeld ?_
                refine held_t 9 hHeld ?_
                refine held_one (i := 10) (by kernel_rfl) rfl (by kernel_rfl) (fun K hK => ?_)
                go_simp
                refine (implSecOk_any _ _ _ _ zs rfl (ints_rd (RZ2.below b3')).1 hwz).mono ?_
                rintro e w4 ⟨rfl, s4⟩
                have b4' : Below w2.heap.size w2 w4 := Below.andThen b3' (s4.below _)
                clear s4
                rw [hZ]
                go_wp2_with fail
                clear hHeld
                refine hK.out _ _ ?_ (fun hHeld => ?_)
                · exact ⟨(b4'.cell (p := ⟨wr.heap.size, 1, none⟩) my).trans my1, (b4'.cell (p := ⟨w.heap.size, 1, none⟩) mx).trans me1, (b4'.cell (p := ⟨w.heap.size, 2, none⟩) mx).trans me2⟩
                clear hK K
                refine held_t 11 hHeld ?_
                refine held_t 12 hHeld ?_
                refine wpAnyH_done (by kernel_rfl) ?_ _
                clear hHeld
                have HB := hidden (B1.trans ((Below.andThen b2' b4').mono B1.size))
                have hat : entAt x ds (p + 1) (y, zs) = true := (entAt_5 HI.out HL.out HZ.out HPQ.out).trans (by simpa using hlt)
                go_wp2
                go_roundw
                case rel => exact ⟨p + 1 + 1, by omega, by go_num, fun q d hq hm' => by
                    rcases Nat.lt_or_ge q (p + 1) with h | h
                    · exact hall q d h hm'
                    · obtain rfl : q = p + 1 := by omega
                      rw [HDJ.out] at hm'
                      cases hm'
                      exact hat, HB.out⟩
                case measure => simp [intOf]; omega
            · have hL1 : ((zs.length : Int) == x.n - 1) = false := by simpa using hL
              have hL2 : ((zs.length : Int) != x.n - 1) = true := by simpa using hL
              have HL := hidden hL
              clear hL
              go_wp2_with fail
              generalize wr.alloc (.cells #[.int .i64 y, .slice av zs.length cv] 65) = w1 at X1 Y1 RZ B1 y0 y1 e1 e2 e9 zy zx zb HQ qc ⊢
              refine wp_region_held_drew (S := fun w' => w'.cell? ⟨wr.heap.size, 0, none⟩ = some (.int .i64 y) ∧ w'.cell? ⟨w.heap.size, 1, none⟩ = some (.int .i64 x.n) ∧ w'.cell? ⟨w.heap.size, 2, none⟩ = some (.int .i64 x.s) ∧ w'.cell? ⟨w.heap.size, 9, none⟩ = some (.slice (some ⟨b, off, none⟩) nd cd) ∧ w'.cell? ⟨b, off + p * 2, none⟩ = some (.int .i64 s)) (by kernel_rfl) ?_ (fun hHeld => ?_)
              · exact ⟨y0, e1, e2, e9, qc⟩
              refine held_t 0 hHeld ?_
              refine held_t 1 hHeld ?_
              refine held_t 2 hHeld ?_
              refine held_t 3 hHeld ?_
              refine held_one (i := 4) (by kernel_rfl) rfl (by kernel_rfl) (fun K hK => ?_)
              go_simp
              refine (hasStripe_any _ x.n x.s y).mono ?_
              rintro e w2 ⟨rfl, b2⟩
              have b2' : Below w1.heap.size w1 w2 := (Below.refl w1.heap.size w1).drew.trans b2
              clear b2
              rw [hI]
              go_wp2_with fail
              clear hHeld
              refine hK.out _ _ ?_ (fun hHeld => ?_)
              · exact ⟨(b2'.cell (p := ⟨wr.heap.size, 0, none⟩) zy).trans y0, (b2'.cell (p := ⟨w.heap.size, 1, none⟩) zx).trans e1, (b2'.cell (p := ⟨w.heap.size, 2, none⟩) zx).trans e2, (b2'.cell (p := ⟨w.heap.size, 9, none⟩) zx).trans e9, (b2'.cell (p := ⟨b, off + p * 2, none⟩) zb).trans qc⟩
              clear hK K
              refine held_t 5 hHeld ?_
              refine held_t 6 hHeld ?_
              refine held_t 7 hHeld ?_
              refine held_t 8 hHeld ?_
              refine held_t 9 hHeld ?_
              refine held_t 10 hHeld ?_
              refine held_t 11 hHeld ?_
              refine held_t 12 hHeld ?_
              refine held_t 13 hHeld ?_
              refine held_t 14 hHeld ?_
              refine held_t 15 hHeld ?_
              refine held_t 16 hHeld ?_
              refine held_t 17 hHeld ?_
              refine held_t 18 hHeld ?_
              refine held_t 19 hHeld ?_
              refine held_t 20 hHeld ?_
              refine held_t 21 hHeld ?_
              refine wpAnyH_done (by kernel_rfl) ?_ _
              clear hHeld
              have my1 := (b2'.cell (p := ⟨wr.heap.size, 1, none⟩) zy).trans y1
              have me1 := (b2'.cell (p := ⟨w.heap.size, 1, none⟩) zx).trans e1
              have me2 := (b2'.cell (p := ⟨w.heap.size, 2, none⟩) zx).trans e2
              have my := Nat.lt_of_lt_of_le zy b2'.size
              have mx := Nat.lt_of_lt_of_le zx b2'.size
              have RZ2 := RZ.below b2'
              go_wp2_with fail
              refine wp_region_held_drew (S := fun w' => w'.cell? ⟨wr.heap.size, 1, none⟩ = some (.slice av zs.length cv) ∧ w'.cell? ⟨w.heap.size, 1, none⟩ = some (.int .i64 x.n) ∧ w'.cell? ⟨w.heap.size, 2, none⟩ = some (.int .i64 x.s)) (by kernel_rfl) ?_ (fun hHeld => ?_)
              · exact ⟨my1, me1, me2⟩
              refine held_t 0 hHeld ?_
              refine held_t 1 hHeld ?_
              refine held_t 2 hHeld ?_
              refine held_t 3 hHeld ?_
              refine held_t 4 hHeld ?_
              refine held_one (i := 5) (by kernel_rfl) rfl (by kernel_rfl) (fun K hK => ?_)
              go_simp
              refine (perStripe_any _ x.n x.s g1 g2).mono ?_
              rintro e w3 ⟨rfl, b3⟩
              have b3' : Below w2.heap.size w2 w3 := (Below.refl w2.heap.size w2).drew.trans b3
              clear b3
              go_wp2_with fail
              clear hHeld
              refine hK.out _ _ ?_ (fun hHeld => ?_)
              · exact ⟨(b3'.cell (p := ⟨wr.heap.size, 1, none⟩) my).trans my1, (b3'.cell (p := ⟨w.heap.size, 1, none⟩) mx).trans me1, (b3'.cell (p := ⟨w.heap.size, 2, none⟩) mx).trans me2⟩
              clear hK K
              refine held_t 6 hHeld ?_
              refine held_t 7 hHeld ?_
              refine held_p 8 hHeld ?_
              refine held_p 9 hHeld ?_
              refine held_none (i := 10) (by kernel_rfl) rfl (by kernel_rfl) hHeld ?_
              simp only [Act.put, List.setIfInBounds_toArray, List.set_cons_zero, List.set_cons_succ]
              refine held_p 11 hHeld ?_
              refine held_t 12 hHeld ?_
              refine wpAnyH_done (by kernel_rfl) ?_ _
              clear hHeld
              have HB := hidden (hA.trans ((B1.trans ((Below.andThen b2' b3').mono B1.size)).mono hA.size))
              have HE := hidden (entsB_no (x := x) HDJ.out (entAt_2 HL.out))
              go_wp2
              go_ret
              exact ⟨ret_bool HE.out.symm, HB.out⟩
          · have hge : y ≤ s := by omega
            go_wp2_with fail
            generalize wr.alloc (.cells #[.int .i64 y, .slice av zs.length cv] 65) = w1 at X1 Y1 RZ B1 y0 y1 e1 e2 e9 zy zx zb HQ qc ⊢
            refine wp_region_held_drew (S := fun w' => w'.cell? ⟨wr.heap.size, 0, none⟩ = some (.int .i64 y) ∧ w'.cell? ⟨w.heap.size, 1, none⟩ = some (.int .i64 x.n) ∧ w'.cell? ⟨w.heap.size, 2, none⟩ = some (.int .i64 x.s) ∧ w'.cell? ⟨w.heap.size, 9, none⟩ = some (.slice (some ⟨b, off, none⟩) nd cd) ∧ w'.cell? ⟨b, off + p * 2, none⟩ = some (.int .i64 s)) (by kernel_rfl) ?_ (fun hHeld => ?_)
            · exact ⟨y0, e1, e2, e9, qc⟩
            refine held_t 0 hHeld ?_
            refine held_t 1 hHeld ?_
            refine held_t 2 hHeld ?_
            refine held_t 3 hHeld ?_
            refine held_one (i := 4) (by kernel_rfl) rfl (by kernel_rfl) (fun K hK => ?_)
            go_simp
            refine (hasStripe_any _ x.n x.s y).mono ?_
            rintro e w2 ⟨rfl, b2⟩
            have b2' : Below w1.heap.size w1 w2 := (Below.refl w1.heap.size w1).drew.trans b2
            clear b2
            rw [hI]
            go_wp2_with fail
            clear hHeld
            refine hK.out _ _ ?_ (fun hHeld => ?_)
            · exact ⟨(b2'.cell (p := ⟨wr.heap.size, 0, none⟩) zy).trans y0, (b2'.cell (p := ⟨w.heap.size, 1, none⟩) zx).trans e1, (b2'.cell (p := ⟨w.heap.size, 2, none⟩) zx).trans e2, (b2'.cell (p := ⟨w.heap.size, 9, none⟩) zx).trans e9, (b2'.cell (p := ⟨b, off + p * 2, none⟩) zb).trans qc⟩
            clear hK K
            refine held_t 5 hHeld ?_
            refine held_t 6 hHeld ?_
            refine held_t 7 hHeld ?_
            refine held_t 8 hHeld ?_
            refine held_t 9 hHeld ?_
            refine held_t 10 hHeld ?_
            refine held_t 11 hHeld ?_
            refine held_t 12 hHeld ?_
            refine held_t 13 hHeld ?_
            refine held_t 14 hHeld ?_
            refine held_t 15 hHeld ?_
            refine held_t 16 hHeld ?_
            refine held_t 17 hHeld ?_
            refine held_t 18 hHeld ?_
            refine held_t 19 hHeld ?_
            refine held_t 20 hHeld ?_
            refine held_t 21 hHeld ?_
            refine wpAnyH_done (by kernel_rfl) ?_ _
            clear hHeld
            have HB := hidden (hA.trans ((B1.trans (b2'.mono B1.size)).mono hA.size))
            have HE := hidden (entsB_no (x := x) HDJ.out (entAt_6 HPQ.out hge))
            go_wp2
            go_ret
            exact ⟨ret_bool HE.out.symm, HB.out⟩
    · have ej : j = nd := by omega
      subst ej
      have hAll : entsB x ds = true := allIx_iff.2 (fun q d hq => hall q d (by have := (List.getElem?_eq_some_iff.1 hq).1; omega) hq)
      have HB := hidden (hA.trans (hb.mono hA.size))
      go_wp2
      go_ret
      exact ⟨ret_bool hAll.symm, HB.out⟩

set_option maxHeartbeats 1600000 in
theorem recsOk_any (w : World) (x : ArrN) (am ad : Option Addr) (nm cm nd cd : Nat) :
    Calls Tryz.prog 127 #[.agg #[.int .i64 x.id, .int .i64 x.n, .int .i64 x.s, .slice am nm cm, .int .i64 x.lost, .int .i64 x.built, .int .i64 x.seq, .int .i64 x.tail, .int .i64 x.gen, .slice ad nd cd, .int .i64 x.fuse, .bool x.down, .bool x.broken]] w fun e w' => e = .returned (.bool (recB6 x)) ∧ Below w.heap.size w w' := by
  have hA := new_below w (.cells #[.int .i64 x.id, .int .i64 x.n, .int .i64 x.s, .slice am nm cm, .int .i64 x.lost, .int .i64 x.built, .int .i64 x.seq, .int .i64 x.tail, .int .i64 x.gen, .slice ad nd cd, .int .i64 x.fuse, .bool x.down, .bool x.broken] 35)
  have X := Box.new w 35 #[.int .i64 x.id, .int .i64 x.n, .int .i64 x.s, .slice am nm cm, .int .i64 x.lost, .int .i64 x.built, .int .i64 x.seq, .int .i64 x.tail, .int .i64 x.gen, .slice ad nd cd, .int .i64 x.fuse, .bool x.down, .bool x.broken]
  obtain ⟨k0, k1, k2, k3, k4, k5, k6, k7, k8, k9, k10, k11, k12⟩ := X.cells13
  clear k0 k1 k2 k3 k4 k5 k8 k9 k10 k11 k12 X
  go_enter Tryz.func127, Tryz.ntmps127
  go_wp2_with fail
  refine (within_any _ _ _ _).mono ?_
  rintro e wq ⟨rfl, hq⟩
  obtain rfl := hq.symm
  cases hs : inB x.seq 0 60000
  · have HF : Hid (recB6 x = false) := by unfold Hid recB6; rw [hs]; rfl
    go_wp2
    go_ret
    exact ⟨ret_bool HF.out.symm, hA⟩
  · go_wp2_with fail
    refine (within_any _ _ _ _).mono ?_
    rintro e wq ⟨rfl, hq⟩
    obtain rfl := hq.symm
    cases ht : inB x.tail 0 60000
    · have HF : Hid (recB6 x = false) := by unfold Hid recB6; rw [hs, ht]; rfl
      go_wp2
      go_ret
      exact ⟨ret_bool HF.out.symm, hA⟩
    · have HF : Hid (recB6 x = inB (x.seq - x.tail) 0 4) := by unfold Hid recB6; rw [hs, ht]; rfl
      obtain ⟨s1, s2⟩ := inB_iff.1 hs
      obtain ⟨t1, t2⟩ := inB_iff.1 ht
      have hw : IntKind.i64.wrap (x.seq - x.tail) = x.seq - x.tail := IntWalk.i64_in _ (by omega)
      go_wp2_with fail
      refine (within_any _ _ _ _).mono ?_
      rintro e wq ⟨rfl, hq⟩
      obtain rfl := hq.symm
      cases hd : inB (x.seq - x.tail) 0 4
      · go_wp2
        go_ret
        exact ⟨ret_bool (by rw [HF.out, hd]), hA⟩
      · go_wp2
        go_ret
        exact ⟨ret_bool (by rw [HF.out, hd]), hA⟩

set_option maxRecDepth 20000 in
set_option maxHeartbeats 3200000 in
theorem implArrOk_any (w : World) (E F G : TypeId) (x : ArrN) (am ad : Option Addr) (nm cm nd cd : Nat) (ms : List MemD) (ds : List (Int × List Int)) (h0 : (tMemS E F).Rd w [.slice am nm cm] ms) (h1 : (tWrS G).Rd w [.slice ad nd cd] ds) (hw : wtArr ms ds ≤ 2097152) :
    Calls Tryz.prog 88 #[.agg #[.int .i64 x.id, .int .i64 x.n, .int .i64 x.s, .slice am nm cm, .int .i64 x.lost, .int .i64 x.built, .int .i64 x.seq, .int .i64 x.tail, .int .i64 x.gen, .slice ad nd cd, .int .i64 x.fuse, .bool x.down, .bool x.broken]] w fun e w' => e = .returned (.bool (arrB x ms ds)) ∧ Below w.heap.size w w' := by
  have hwm : wtMemS ms ≤ 2097152 := by unfold wtArr at hw; omega
  have hwd : wtWrS ds ≤ 2097152 := by unfold wtArr at hw; omega
  have hA := new_below w (.cells #[.int .i64 x.id, .int .i64 x.n, .int .i64 x.s, .slice am nm cm, .int .i64 x.lost, .int .i64 x.built, .int .i64 x.seq, .int .i64 x.tail, .int .i64 x.gen, .slice ad nd cd, .int .i64 x.fuse, .bool x.down, .bool x.broken] 35)
  have X := Box.new w 35 #[.int .i64 x.id, .int .i64 x.n, .int .i64 x.s, .slice am nm cm, .int .i64 x.lost, .int .i64 x.built, .int .i64 x.seq, .int .i64 x.tail, .int .i64 x.gen, .slice ad nd cd, .int .i64 x.fuse, .bool x.down, .bool x.broken]
  obtain ⟨k0, k1, k2, k3, k4, k5, k6, k7, k8, k9, k10, k11, k12⟩ := X.cells13
  have zA := X.lt
  have r0 := h0.below hA
  have r1 := h1.below hA
  go_enter Tryz.func88, Tryz.ntmps88
  go_wp2_with fail
  generalize w.alloc (.cells #[.int .i64 x.id, .int .i64 x.n, .int .i64 x.s, .slice am nm cm, .int .i64 x.lost, .int .i64 x.built, .int .i64 x.seq, .int .i64 x.tail, .int .i64 x.gen, .slice ad nd cd, .int .i64 x.fuse, .bool x.down, .bool x.broken] 35) = W at hA X zA r0 r1 k0 k1 k2 k3 k4 k5 k6 k7 k8 k9 k10 k11 k12 ⊢
  refine (implGeoOk_any _ _ _).mono ?_
  rintro e w1 ⟨rfl, b1⟩
  have X1 := X.below b1 X.lt
  have B1 := Below.andThen hA b1
  have q1 := r0.below b1
  have t1 := r1.below b1
  clear k0 k1 k2 k3 k4 k5 k6 k7 k8 k9 k10 k11 k12 b1 X hA r0 r1
  obtain ⟨k0, k1, k2, k3, k4, k5, k6, k7, k8, k9, k10, k11, k12⟩ := X1.cells13
  cases hg : geoB x.n x.s
  · have HF : Hid (arrB x ms ds = false) := by
      unfold Hid
      unfold arrB; rw [hg]; rfl
    go_wp2
    go_ret
    exact ⟨ret_bool HF.out.symm, B1⟩
  · have HE := hidden (arr_same6 (ms := ms) (ds := ds) hg)
    obtain ⟨g1, g2, g3, g4⟩ := geoB_iff.1 hg
    go_wp2_with fail
    refine (within_any _ _ _ _).mono ?_
    rintro e wq ⟨rfl, hq⟩
    obtain rfl := hq.symm
    cases hid : inB x.id 1 60000
    · have HF : Hid (arrB x ms ds = false) := by
        unfold Hid
        rw [HE.out, hid]; rfl
      go_wp2
      go_ret
      exact ⟨ret_bool HF.out.symm, B1⟩
    · go_wp2_with fail
      refine (lostOk_any _ x.n x.s x.lost x.built ⟨g1, g2⟩).mono ?_
      rintro e w2 ⟨rfl, b2⟩
      have X2 := X1.below b2 X1.lt
      have B2 := Below.andThen B1 b2
      have q2 := q1.below b2
      have t2 := t1.below b2
      clear k0 k1 k2 k3 k4 k5 k6 k7 k8 k9 k10 k11 k12 b2 X1 B1 q1 t1
      obtain ⟨k0, k1, k2, k3, k4, k5, k6, k7, k8, k9, k10, k11, k12⟩ := X2.cells13
      cases hlo : lostB x.n x.s x.lost x.built
      · have HF : Hid (arrB x ms ds = false) := by
          unfold Hid
          rw [HE.out, hid, hlo]; rfl
        go_wp2
        go_ret
        exact ⟨ret_bool HF.out.symm, B2⟩
      · skip
        go_wp2_with fail
        refine (within_any _ _ _ _).mono ?_
        rintro e wq ⟨rfl, hq⟩
        obtain rfl := hq.symm
        cases hge : inB x.gen 0 60000
        · have HF : Hid (arrB x ms ds = false) := by
            unfold Hid
            rw [HE.out, hid, hlo, hge]; rfl
          go_wp2
          go_ret
          exact ⟨ret_bool HF.out.symm, B2⟩
        · skip
          go_wp2_with fail
          refine (within_any _ _ _ _).mono ?_
          rintro e wq ⟨rfl, hq⟩
          obtain rfl := hq.symm
          cases hfu : inB x.fuse (-1) 1000
          · have HF : Hid (arrB x ms ds = false) := by
              unfold Hid
              rw [HE.out, hid, hlo, hge, hfu]; rfl
            go_wp2
            go_ret
            exact ⟨ret_bool HF.out.symm, B2⟩
          · go_wp2_with fail
            refine (memsOk_any _ E F x _ _ _ _ _ _ ms q2 hwm hg).mono ?_
            rintro e w3 ⟨rfl, b3⟩
            have X3 := X2.below b3 X2.lt
            have B3 := Below.andThen B2 b3
            have q3 := q2.below b3
            have t3 := t2.below b3
            clear k0 k1 k2 k3 k4 k5 k6 k7 k8 k9 k10 k11 k12 b3 X2 B2 q2 t2
            obtain ⟨k0, k1, k2, k3, k4, k5, k6, k7, k8, k9, k10, k11, k12⟩ := X3.cells13
            cases hms : memsB x ms
            · have HF : Hid (arrB x ms ds = false) := by
                unfold Hid
                rw [HE.out, hid, hlo, hge, hfu, hms]; rfl
              go_wp2
              go_ret
              exact ⟨ret_bool HF.out.symm, B3⟩
            · go_wp2_with fail
              refine (recsOk_any _ x _ _ _ _ _ _).mono ?_
              rintro e w4 ⟨rfl, b4⟩
              have X4 := X3.below b4 X3.lt
              have B4 := Below.andThen B3 b4
              have q4 := q3.below b4
              have t4 := t3.below b4
              clear k0 k1 k2 k3 k4 k5 k6 k7 k8 k9 k10 k11 k12 b4 X3 B3 q3 t3
              obtain ⟨k0, k1, k2, k3, k4, k5, k6, k7, k8, k9, k10, k11, k12⟩ := X4.cells13
              cases hre : recB6 x
              · have HF : Hid (arrB x ms ds = false) := by
                  unfold Hid
                  rw [HE.out, hid, hlo, hge, hfu, hms, hre]; rfl
                go_wp2
                go_ret
                exact ⟨ret_bool HF.out.symm, B4⟩
              · have HF : Hid (arrB x ms ds = entsB x ds) := by
                  unfold Hid
                  rw [HE.out, hid, hlo, hge, hfu, hms, hre]; rfl
                go_wp2_with fail
                refine (dirtyOk_any _ G x _ _ _ _ _ _ ds t4 hwd hg).mono ?_
                rintro e w5 ⟨rfl, b5⟩
                have X5 := X4.below b5 X4.lt
                have B5 := Below.andThen B4 b5
                have q5 := q4.below b5
                have t5 := t4.below b5
                clear k0 k1 k2 k3 k4 k5 k6 k7 k8 k9 k10 k11 k12 b5 X4 B4 q4 t4
                obtain ⟨k0, k1, k2, k3, k4, k5, k6, k7, k8, k9, k10, k11, k12⟩ := X5.cells13
                cases hds : entsB x ds
                · go_wp2
                  go_ret
                  exact ⟨ret_bool (by rw [HF.out, hds]), B5⟩
                · go_wp2
                  go_ret
                  exact ⟨ret_bool (by rw [HF.out, hds]), B5⟩

end Go.Proofs.YtjmjianlcoleaaaGreat

/-
  The walks of the program's look whether a disk lives at a stripe, and of a stripe's words. Condition: the array weighs at most 2097152.
-/
namespace Go.Proofs.YtjmjianlcoleaaaGreat
open Go.RowKit

theorem wordOn_any (w : World) (E : TypeId) (x : ArrN) (ms : List MemD) (j : Nat) (v : Value) (s : Int) (hd : DiskV w E x ms j v) (hw : wtMemS ms ≤ 2097152) :
    Calls Tryz.prog 137 #[v, .int .i64 s] w fun e w' => e = .returned (.tuple #[.int .i64 (word6 x ms (j : Int) s), .bool (has6 x ms (j : Int) s)]) ∧ Below w.heap.size w w' := by
  obtain ⟨a0, a1, a3, c0, c1, c3, ss, cs, f, bs, hj, r0, r1, r3, h⟩ := hd
  have hwm := Nat.le_trans (inner_leM hj) hw
  obtain ⟨hh, hv⟩ := has_at6 (x := x) (s := s) hj
  have hl := live_at6 (x := x) (s := s) hj
  rcases h with ⟨rfl, rfl⟩ | ⟨rfl, hx, rfl⟩ | ⟨rfl, hx, rfl⟩
  · exact wordOn_failed w x ms j s (by rw [hh, hl]; rfl)
  · exact wordOn_lost w E x ms j s a0 a1 a3 c0 c1 c3 ss cs bs r0 r1 r3 hwm (by rw [hh, hl]; simp [hx]) hv
  · exact wordOn_sound w E x ms j s a0 a1 a3 c0 c1 c3 ss cs bs r0 r1 r3 hwm (by rw [hh, hl]; simp [hx]) hv

theorem bears_any (w : World) (E : TypeId) (x : ArrN) (ms : List MemD) (j : Nat) (v : Value) (s : Int) (hd : DiskV w E x ms j v) :
    Calls Tryz.prog 166 #[v, .int .i64 s] w fun e w' => e = .returned (.bool (liveB x ms (j : Int) s)) ∧ Below w.heap.size w w' := by
  obtain ⟨a0, a1, a3, c0, c1, c3, ss, cs, f, bs, hj, r0, r1, r3, h⟩ := hd
  have hl := live_at6 (x := x) (s := s) hj
  rcases h with ⟨rfl, rfl⟩ | ⟨rfl, hx, rfl⟩ | ⟨rfl, hx, rfl⟩
  · refine (bears_failed w s).mono ?_
    rintro e w' ⟨rfl, rfl⟩
    exact ⟨ret_bool (by rw [hl]; rfl), Below.refl _ _⟩
  · refine (bears_lost w _ _ _ _ _ _ _ _ _ _ _ _).mono ?_
    rintro e w' ⟨rfl, b⟩
    exact ⟨ret_bool (by rw [hl]; simp [hx]), b⟩
  · refine (bears_sound w _ _ _ _ _ _ _ _ _ _ _).mono ?_
    rintro e w' ⟨rfl, b⟩
    exact ⟨ret_bool (by rw [hl]; simp [hx]), b⟩

set_option maxRecDepth 20000 in
set_option maxHeartbeats 1600000 in
theorem implLiveAt_any (w : World) (E F G : TypeId) (x : ArrN) (am ad : Option Addr) (nm cm nd cd : Nat) (ms : List MemD) (ds : List (Int × List Int)) (m s : Int) (h0 : (tMemS E F).Rd w [.slice am nm cm] ms) (_ : (tWrS G).Rd w [.slice ad nd cd] ds) (hw : wtArr ms ds ≤ 2097152) :
    Calls Tryz.prog 160 #[.agg #[.int .i64 x.id, .int .i64 x.n, .int .i64 x.s, .slice am nm cm, .int .i64 x.lost, .int .i64 x.built, .int .i64 x.seq, .int .i64 x.tail, .int .i64 x.gen, .slice ad nd cd, .int .i64 x.fuse, .bool x.down, .bool x.broken], .int .i64 m, .int .i64 s] w fun e w' => e = .returned (.bool (liveB x ms m s)) ∧ Below w.heap.size w w' := by
  have hwm : wtMemS ms ≤ 2097152 := by unfold wtArr at hw; omega
  obtain ⟨hl, hc, hm⟩ := row_length h0
  have hA := new_below w (.cells #[.int .i64 x.id, .int .i64 x.n, .int .i64 x.s, .slice am nm cm, .int .i64 x.lost, .int .i64 x.built, .int .i64 x.seq, .int .i64 x.tail, .int .i64 x.gen, .slice ad nd cd, .int .i64 x.fuse, .bool x.down, .bool x.broken] 35)
  have X := Box.new w 35 #[.int .i64 x.id, .int .i64 x.n, .int .i64 x.s, .slice am nm cm, .int .i64 x.lost, .int .i64 x.built, .int .i64 x.seq, .int .i64 x.tail, .int .i64 x.gen, .slice ad nd cd, .int .i64 x.fuse, .bool x.down, .bool x.broken]
  obtain ⟨k0, k1, k2, k3, k4, k5, k6, k7, k8, k9, k10, k11, k12⟩ := X.cells13
  have r0 := h0.below hA
  have zA := X.lt
  go_enter Tryz.func160, Tryz.ntmps160
  go_wp2_with fail
  generalize w.alloc (.cells #[.int .i64 x.id, .int .i64 x.n, .int .i64 x.s, .slice am nm cm, .int .i64 x.lost, .int .i64 x.built, .int .i64 x.seq, .int .i64 x.tail, .int .i64 x.gen, .slice ad nd cd, .int .i64 x.fuse, .bool x.down, .bool x.broken] 35) = W at hA X zA r0 k0 k1 k2 k3 k4 k5 k6 k7 k8 k9 k10 k11 k12 ⊢
  refine (hasDisk_any _ x _ _ _ _ _ _ m).mono ?_
  rintro e w1 ⟨rfl, b1⟩
  have X1 := X.below b1 zA
  have B1 := Below.andThen hA b1
  have q1 := r0.below b1
  clear k0 k1 k2 k3 k4 k5 k6 k7 k8 k9 k10 k11 k12 X b1 hA zA r0
  obtain ⟨k0, k1, k2, k3, k4, k5, k6, k7, k8, k9, k10, k11, k12⟩ := X1.cells13
  cases hi : inB m 0 ((nm : Int) - 1)
  · have HF : Hid (liveB x ms m s = false) := by unfold Hid liveB; rw [hl, hi]; rfl
    go_wp2
    go_ret
    exact ⟨ret_bool HF.out.symm, B1⟩
  · have hi2 := inB_iff.1 hi
    obtain ⟨j, rfl⟩ := Int.eq_ofNat_of_zero_le hi2.1
    go_wp2_with fail
    refine (diskAt_any _ E F x _ _ _ _ _ _ ms j q1 hwm (by omega)).mono ?_
    rintro e w2 ⟨v, rfl, hd, b2⟩
    have B2 := Below.andThen B1 b2
    clear k0 k1 k2 k3 k4 k5 k6 k7 k8 k9 k10 k11 k12 X1 b2 B1 q1
    go_wp2_with fail
    refine (bears_any _ E x ms j v s hd).mono ?_
    rintro e w3 ⟨rfl, b3⟩
    have B3 := Below.andThen B2 b3
    clear b3 B2 hd
    go_wp2
    go_ret
    exact ⟨rfl, B3⟩

theorem fill6 (x : ArrN) (ms : List MemD) (s : Int) (n j : Nat) (h : j < n) : (wordL x ms s j ++ List.replicate (n - j) (0 : Int)).set j (word6 x ms (j : Int) s) = wordL x ms s (j + 1) ++ List.replicate (n - (j + 1)) (0 : Int) := by
  have e : n - j = (n - (j + 1)) + 1 := by omega
  rw [List.set_append, if_neg (by rw [wordL_len]; omega), wordL_len, Nat.sub_self, e, List.replicate_succ, List.set_cons_zero, wordL_succ, List.append_assoc]
  rfl

set_option maxRecDepth 20000 in
set_option maxHeartbeats 3200000 in
theorem implWords_any (w : World) (E F G : TypeId) (x : ArrN) (am ad : Option Addr) (nm cm nd cd : Nat) (ms : List MemD) (ds : List (Int × List Int)) (s : Int) (h0 : (tMemS E F).Rd w [.slice am nm cm] ms) (h1 : (tWrS G).Rd w [.slice ad nd cd] ds) (hw : wtArr ms ds ≤ 2097152) :
    Calls Tryz.prog 103 #[.agg #[.int .i64 x.id, .int .i64 x.n, .int .i64 x.s, .slice am nm cm, .int .i64 x.lost, .int .i64 x.built, .int .i64 x.seq, .int .i64 x.tail, .int .i64 x.gen, .slice ad nd cd, .int .i64 x.fuse, .bool x.down, .bool x.broken], .int .i64 s] w fun e w' => ∃ a' l' c', e = .returned (.tuple #[.slice a' l' c', .bool (wordsOk6 x ms ds s)]) ∧ tIntS.Own w' w.heap.size w'.heap.size [.slice a' l' c'] (wordsL6 x ms ds s) ∧ Below w.heap.size w w' := by
  have hwm : wtMemS ms ≤ 2097152 := by unfold wtArr at hw; omega
  obtain ⟨hl, hc, hm⟩ := row_length h0
  obtain ⟨i0, hi, hz0, hz1, hz2⟩ := info_parts Tryz.info3
  have hA := new_below w (.cells #[.int .i64 x.id, .int .i64 x.n, .int .i64 x.s, .slice am nm cm, .int .i64 x.lost, .int .i64 x.built, .int .i64 x.seq, .int .i64 x.tail, .int .i64 x.gen, .slice ad nd cd, .int .i64 x.fuse, .bool x.down, .bool x.broken] 35)
  have X := Box.new w 35 #[.int .i64 x.id, .int .i64 x.n, .int .i64 x.s, .slice am nm cm, .int .i64 x.lost, .int .i64 x.built, .int .i64 x.seq, .int .i64 x.tail, .int .i64 x.gen, .slice ad nd cd, .int .i64 x.fuse, .bool x.down, .bool x.broken]
  obtain ⟨k0, k1, k2, k3, k4, k5, k6, k7, k8, k9, k10, k11, k12⟩ := X.cells13
  have zA := X.lt
  have r0 := h0.below hA
  have r1 := h1.below hA
  go_enter Tryz.func103, Tryz.ntmps103
  go_wp2_with fail
  generalize w.alloc (.cells #[.int .i64 x.id, .int .i64 x.n, .int .i64 x.s, .slice am nm cm, .int .i64 x.lost, .int .i64 x.built, .int .i64 x.seq, .int .i64 x.tail, .int .i64 x.gen, .slice ad nd cd, .int .i64 x.fuse, .bool x.down, .bool x.broken] 35) = W at hA X zA r0 r1 k0 k1 k2 k3 k4 k5 k6 k7 k8 k9 k10 k11 k12 ⊢
  refine (implArrOk_any _ E F G x _ _ _ _ _ _ ms ds r0 r1 hw).mono ?_
  rintro e w1 ⟨rfl, b1⟩
  have X1 := X.below b1 zA
  have B1 := Below.andThen hA b1
  have q1 := r0.below b1
  clear k0 k1 k2 k3 k4 k5 k6 k7 k8 k9 k10 k11 k12 X b1 hA zA r0 r1
  obtain ⟨k0, k1, k2, k3, k4, k5, k6, k7, k8, k9, k10, k11, k12⟩ := X1.cells13
  cases ha : arrB x ms ds
  · skip
    have HF : Hid (wordsOk6 x ms ds s = false ∧ wordsL6 x ms ds s = []) := by unfold Hid wordsOk6 wordsL6 okB6; simp [ha]
    have FO := hidden ((own_ints (Owns.lit .i64 3 w1 [] 0 #[] rfl rfl (by unfold maxLen; omega))).widen (lo' := w.heap.size) B1.size (Nat.le_refl _))
    have FB := hidden (B1.alloc B1.size (.cells #[] 3))
    go_wp2
    refine bodyPost_ret (v := .tuple #[.slice (some ⟨w1.heap.size, 0, none⟩) 0 0, .bool false]) (by simp [results, Tryz.results103, go_sem]) rfl ?_
    exact ⟨_, _, _, by rw [HF.out.1], by rw [HF.out.2]; exact FO.out, FB.out⟩
  · have hg : geoB x.n x.s = true := by unfold arrB at ha; simp only [Bool.and_eq_true] at ha; exact ha.1
    have hmn : (ms.length : Int) = x.n := by unfold arrB memsB at ha; simp only [Bool.and_eq_true, decide_eq_true_eq] at ha; exact ha.2.2.1.2
    have HMN := hidden hmn
    clear hmn
    obtain ⟨g1, g2, g3, g4⟩ := geoB_iff.1 hg
    cases hbr : x.broken
    · rw [hbr] at k12
      go_wp2_with fail
      refine (hasStripe_any _ x.n x.s s).mono ?_
      rintro e w2 ⟨rfl, b2⟩
      have X2 := X1.below b2 X1.lt
      have B2 := Below.andThen B1 b2
      have q2 := q1.below b2
      clear k0 k1 k2 k3 k4 k5 k6 k7 k8 k9 k10 k11 k12 X1 b2 B1 q1
      have hst := stripe_in6 (x := x) (y := s) hg
      cases hin : stripeB x.n x.s s
      · skip
        have HF : Hid (wordsOk6 x ms ds s = false ∧ wordsL6 x ms ds s = []) := by unfold Hid wordsOk6 wordsL6 okB6; rw [← hst, hin]; simp
        have FO := hidden ((own_ints (Owns.lit .i64 3 w2 [] 0 #[] rfl rfl (by unfold maxLen; omega))).widen (lo' := w.heap.size) B2.size (Nat.le_refl _))
        have FB := hidden (B2.alloc B2.size (.cells #[] 3))
        go_wp2
        refine bodyPost_ret (v := .tuple #[.slice (some ⟨w2.heap.size, 0, none⟩) 0 0, .bool false]) (by simp [results, Tryz.results103, go_sem]) rfl ?_
        exact ⟨_, _, _, by rw [HF.out.1], by rw [HF.out.2]; exact FO.out, FB.out⟩
      · have HF : Hid (wordsOk6 x ms ds s = wordsB x ms s ∧ wordsL6 x ms ds s = words6 x ms s) := by unfold Hid wordsOk6 wordsL6 okB6; rw [ha, hbr, ← hst, hin]; exact ⟨rfl, rfl⟩
        clear hst hbr ha hin
        obtain ⟨n, hn⟩ : ∃ n : Nat, x.n = (n : Int) := ⟨x.n.toNat, by omega⟩
        have HN := hidden hn
        have HNT : Hid (x.n.toNat = n) := by unfold Hid; omega
        have hn5 : n ≤ 5 := by omega
        have hn3 : 3 ≤ n := by omega
        have hnm : n = nm := by have := HMN.out; omega
        have HNM := hidden hnm
        clear hnm
        obtain ⟨k0, k1, k2, k3, k4, k5, k6, k7, k8, k9, k10, k11, k12⟩ := X2.cells13
        rw [hn] at k1
        clear hn k0 k2 k3 k4 k5 k6 k7 k8 k9 k10 k11 k12
        have hb3 : i0.bytes * n ≤ 281474976710656 := by rw [hz2]; omega
        have hm3 : n ≤ maxLen := by unfold maxLen; omega
        go_wp2_with (at_make; refine wpList_make_full _ rfl _ _ 48 rfl w2.heap.size 3 i0 (.int .i64 0) 1 Tryz.underlying48 hi hz0 hz1 _ _ _ _ n rfl rfl rfl rfl hb3 hm3 (Nat.le_refl _) ?_; intro w3 hown hgrow)
        have hO : Owns .i64 3 w3 w2.heap.size (.slice (some ⟨w2.heap.size, 0, none⟩) n n) (List.replicate n 0) := by
          rw [made_ints] at hown
          unfold Owns
          rw [List.length_replicate]
          exact hown
        have hO1 := hO.own
        have hB1 : Below w2.heap.size w2 w3 := (Below.refl _ _).grown hgrow (Nat.le_refl _) (by simp)
        have zw : w2.heap.size < w3.heap.size := hO1.2 _ rfl
        generalize w3.heap.size = hi1 at hO1 zw
        clear hown hgrow hO k1
        go_loopw [7, 32] (fun lo i wr => ∃ j : Nat, j ≤ n ∧ i = .int .i64 j ∧ lo = .int .i64 (lostN (missL x ms s j)) ∧ (missL x ms s j).length ≤ 1 ∧ Own .i64 3 wr w2.heap.size hi1 (.slice (some ⟨w2.heap.size, 0, none⟩) n n) (wordL x ms s j ++ List.replicate (n - j) 0) ∧ Below w2.heap.size w2 wr) (fun _ i _ => n - (intOf i).toNat)
        case atStart => exact ⟨0, Nat.zero_le _, rfl, rfl, Nat.zero_le _, by simpa [wordL] using hO1, hB1⟩
        case round =>
          clear hO1 hB1
          obtain ⟨j, hj, rfl, rfl, hm1, ho, hb⟩ := hrel
          have Xr := X2.below hb X2.lt
          have zs := hb.size
          by_cases hlt : j < n
          · obtain ⟨k0, k1, k2, k3, k4, k5, k6, k7, k8, k9, k10, k11, k12⟩ := Xr.cells13
            have hlt' : (j : Int) < (n : Int) := by omega
            go_wp2_with fail
            refine (diskAt_any _ E F x _ _ _ _ _ _ ms j (q2.below hb) hwm (by have := HNM.out; omega)).mono ?_
            rintro e w5 ⟨v, rfl, hd, b5⟩
            have o5 := ho.below b5
            have B5 := hb.trans (b5.mono zs)
            clear k0 k1 k2 k3 k4 k5 k6 k7 k8 k9 k10 k11 k12 Xr b5 ho hb
            go_wp2_with fail
            refine (wordOn_any _ E x ms j v s hd hwm).mono ?_
            rintro e w6 ⟨rfl, b6⟩
            have o6 := o5.below b6
            have B6 := B5.trans (b6.mono B5.size)
            clear b6 o5 B5 hd
            have hfs := fill6 x ms s n j hlt
            obtain ⟨hcy, hfy, hst, hbt⟩ := o6.store j hlt (word6 x ms (j : Int) s)
            rw [hfs] at hst
            have HST := hidden hst
            have HB : Hid (Below w2.heap.size w2 (w6.setCell ⟨w2.heap.size, j, none⟩ (.int .i64 (word6 x ms (j : Int) s)))) := B6.setCell (Nat.le_refl _) _
            have hj0 : (0 : Int) ≤ (j : Int) := Int.natCast_nonneg _
            clear hst hbt hfs
            generalize (wordL x ms s j ++ List.replicate (n - j) 0).getD j 0 = old at hcy
            cases hh : has6 x ms (j : Int) s
            · have hmn := missL_no hh
              rcases list_cases hm1 with h00 | ⟨p, hp⟩
              · have hl0 : lostN (missL x ms s j) = -1 := by rw [h00]; rfl
                have hl1 : lostN (missL x ms s (j + 1)) = (j : Int) := by rw [hmn, h00]; rfl
                have hc1 : (missL x ms s (j + 1)).length ≤ 1 := by rw [hmn, h00]; exact Nat.le_refl _
                have HL1 := hidden hl1
                have HC1 := hidden hc1
                rw [hl0]
                clear hmn h00 hl0 hl1 hc1 B6 o6
                generalize word6 x ms (j : Int) s = y at HST HB ⊢
                go_wp2
                go_roundw
                case rel => exact ⟨j + 1, by omega, by go_num, by rw [HL1.out], HC1.out, HST.out, HB.out⟩
                case measure => simp [intOf]; omega
              · have hl0 : lostN (missL x ms s j) = (p : Int) := by rw [hp]; rfl
                obtain ⟨t1, t2⟩ := words_two (x := x) (ms := ms) (s := s) (j := j + 1) (by rw [hmn, hp]; exact Nat.le_refl _) (by have := HNT.out; omega)
                have HT1 := hidden t1
                have HT2 := hidden t2
                rw [hl0]
                have hp0 : ((p : Int) != -1) = true := by simp
                have hp1 : ((p : Int) == -1) = false := by simp
                clear hmn hp hl0 t1 t2 HST HB
                have FO := hidden ((own_ints (Owns.lit .i64 3 w6 [] 0 #[] rfl rfl (by unfold maxLen; omega))).widen (lo' := w.heap.size) (Nat.le_trans B2.size B6.size) (Nat.le_refl _))
                have FB := hidden (B2.trans ((B6.alloc B6.size (.cells #[] 3)).mono B2.size))
                clear B6 o6
                go_wp2
                refine bodyPost_ret (v := .tuple #[.slice (some ⟨w6.heap.size, 0, none⟩) 0 0, .bool false]) (by simp [results, Tryz.results103, go_sem]) rfl ?_
                exact ⟨_, _, _, by rw [HF.out.1, HT1.out], by rw [HF.out.2, HT2.out]; exact FO.out, FB.out⟩
            · have hmy := missL_yes hh
              have HL1 : Hid (lostN (missL x ms s (j + 1)) = lostN (missL x ms s j)) := by unfold Hid; rw [hmy]
              have HC1 : Hid ((missL x ms s (j + 1)).length ≤ 1) := by unfold Hid; rw [hmy]; exact hm1
              clear hmy B6 o6
              generalize word6 x ms (j : Int) s = y at HST HB ⊢
              go_wp2
              go_roundw
              case rel => exact ⟨j + 1, by omega, by go_num, by rw [HL1.out], HC1.out, HST.out, HB.out⟩
              case measure => simp [intOf]; omega
          · have ej : j = n := by omega
            subst ej
            rw [Nat.sub_self, List.replicate_zero, List.append_nil] at ho
            have hlen := wordL_len x ms s j
            rcases list_cases hm1 with h00 | ⟨p, hp⟩
            · have hl0 : lostN (missL x ms s j) = -1 := by rw [h00]; rfl
              obtain ⟨t1, t2⟩ := words_none (x := x) (ms := ms) (s := s) (by rw [HNT.out]; exact h00)
              rw [HNT.out] at t2
              have HT1 := hidden t1
              have HT2 := hidden t2
              rw [hl0]
              clear h00 hl0 t1 t2
              have FO := hidden ((own_ints ho.1).widen (lo' := w.heap.size) B2.size (Nat.le_refl _))
              have FB := hidden (B2.trans (hb.mono B2.size))
              clear ho hb Xr hlen hm1 hj hlt
              go_wp2
              refine bodyPost_ret (v := .tuple #[.slice (some ⟨w2.heap.size, 0, none⟩) j j, .bool true]) (by simp [results, Tryz.results103, go_sem]) rfl ?_
              exact ⟨_, _, _, by rw [HF.out.1, HT1.out], by rw [HF.out.2, HT2.out]; exact FO.out, FB.out⟩
            · have hl0 : lostN (missL x ms s j) = (p : Int) := by rw [hp]; rfl
              have hpj : p < j := missL_lt (x := x) (ms := ms) (s := s) (by rw [hp]; simp)
              obtain ⟨t1, t2⟩ := words_one (x := x) (ms := ms) (s := s) (p := p) (by rw [HNT.out]; exact hp)
              rw [HNT.out] at t2
              have HT1 := hidden t1
              have HT2 := hidden t2
              rw [hl0]
              clear hp hl0 t1 t2
              have hp0 : ((p : Int) != -1) = true := by simp
              have hp1 : ((p : Int) == -1) = false := by simp
              have hp2 : (0 : Int) ≤ (p : Int) := by omega
              have hp3 : (p : Int) < (j : Int) := by omega
              go_wp2_with fail
              refine (implMissingWord_any _ _ _ _ (wordL x ms s j) (p : Int) hlen ho.reads (by omega)).mono ?_
              rintro e w7 ⟨rfl, hs7⟩
              have O1 := ho.same hs7
              have B7 := hb.trans (hs7.below _)
              obtain ⟨c1, f1, O2, t2⟩ := O1.store p hpj (skipL (wordL x ms s j) (p : Int) j)
              have FO := hidden ((own_ints O2.1).widen (lo' := w.heap.size) B2.size (Nat.le_refl _))
              have FB := hidden (B2.trans ((B7.setCell (p := ⟨w2.heap.size, p, none⟩) (Nat.le_refl _) (.int .i64 (skipL (wordL x ms s j) (p : Int) j))).mono B2.size))
              generalize (wordL x ms s j).getD p 0 = y at c1
              generalize skipL (wordL x ms s j) (p : Int) j = q at FO FB HT2 ⊢
              clear O1 O2 t2 ho hb hs7 Xr B7
              go_wp2
              refine bodyPost_ret (v := .tuple #[.slice (some ⟨w2.heap.size, 0, none⟩) j j, .bool true]) (by simp [results, Tryz.results103, go_sem]) rfl ?_
              exact ⟨_, _, _, by rw [HF.out.1, HT1.out], by rw [HF.out.2, HT2.out]; exact FO.out, FB.out⟩
    · rw [hbr] at k12
      have HF : Hid (wordsOk6 x ms ds s = false ∧ wordsL6 x ms ds s = []) := by unfold Hid wordsOk6 wordsL6 okB6; simp [hbr]
      have FO := hidden ((own_ints (Owns.lit .i64 3 w1 [] 0 #[] rfl rfl (by unfold maxLen; omega))).widen (lo' := w.heap.size) B1.size (Nat.le_refl _))
      have FB := hidden (B1.alloc B1.size (.cells #[] 3))
      go_wp2
      refine bodyPost_ret (v := .tuple #[.slice (some ⟨w1.heap.size, 0, none⟩) 0 0, .bool false]) (by simp [results, Tryz.results103, go_sem]) rfl ?_
      exact ⟨_, _, _, by rw [HF.out.1], by rw [HF.out.2]; exact FO.out, FB.out⟩

end Go.Proofs.YtjmjianlcoleaaaGreat

/-
  The walks of the program's StripeOf, IndexOf and BlockAt. No condition.
-/
namespace Go.Proofs.YtjmjianlcoleaaaGreat
open Go.RowKit

set_option maxRecDepth 20000 in
theorem place_stripe (a b : Int) (w : World) : Sem.run Tryz.prog (Instr.field 91 (.agg #[.int .i64 a, .int .i64 b]) 0) w = .ok (.int .i64 a) w := rfl
set_option maxRecDepth 20000 in
theorem place_index (a b : Int) (w : World) : Sem.run Tryz.prog (Instr.field 91 (.agg #[.int .i64 a, .int .i64 b]) 1) w = .ok (.int .i64 b) w := rfl

set_option maxRecDepth 20000 in
set_option maxHeartbeats 800000 in
theorem implStripeOf_any (w : World) (n s b : Int) : Calls Tryz.prog 29 #[.agg #[.int .i64 n, .int .i64 s], .int .i64 b] w fun e w' => e = .returned (.int .i64 (stripeN n s b)) ∧ Below w.heap.size w w' := by
  have hA := new_below w (.cells #[.int .i64 n, .int .i64 s] 31)
  obtain ⟨k0, k1⟩ := (Gbox.new w 31 n s).cells
  go_enter Tryz.func29, Tryz.ntmps29
  go_wp2_with fail
  refine (placeOf_any _ _ _ _).mono ?_
  rintro e w1 ⟨rfl, b1⟩
  have hf := place_stripe (stripeN n s b) (indexN n s b) w1
  go_wp2
  go_ret
  exact ⟨rfl, Below.andThen hA b1⟩

set_option maxRecDepth 20000 in
set_option maxHeartbeats 800000 in
theorem implIndexOf_any (w : World) (n s b : Int) : Calls Tryz.prog 32 #[.agg #[.int .i64 n, .int .i64 s], .int .i64 b] w fun e w' => e = .returned (.int .i64 (indexN n s b)) ∧ Below w.heap.size w w' := by
  have hA := new_below w (.cells #[.int .i64 n, .int .i64 s] 31)
  obtain ⟨k0, k1⟩ := (Gbox.new w 31 n s).cells
  go_enter Tryz.func32, Tryz.ntmps32
  go_wp2_with fail
  refine (placeOf_any _ _ _ _).mono ?_
  rintro e w1 ⟨rfl, b1⟩
  have hf := place_index (stripeN n s b) (indexN n s b) w1
  go_wp2
  go_ret
  exact ⟨rfl, Below.andThen hA b1⟩

set_option maxRecDepth 20000 in
/-- The block at a spot is the one of that stripe and index. -/
theorem spot_block {n s t i : Int} : spotB n s t i = true ↔ ∃ b, blockB n s b = true ∧ stripeN n s b = t ∧ indexN n s b = i := by
  constructor
  · intro h
    unfold spotB at h
    rw [Bool.and_eq_true, stripeB_of, inB_iff] at h
    obtain ⟨⟨hg, h1, h2⟩, h3, h4⟩ := h
    obtain ⟨g1, g2, g3, g4⟩ := geoB_iff.1 hg
    have hb : blockB n s (t * (n - 1) + i) = true := by
      rw [blockB_of, blocksN_of hg]
      have : n = 3 ∨ n = 4 ∨ n = 5 := by omega
      rcases this with rfl | rfl | rfl <;> omega
    refine ⟨t * (n - 1) + i, hb, ?_, ?_⟩
    · unfold stripeN
      rw [if_pos hb]
      have : n = 3 ∨ n = 4 ∨ n = 5 := by omega
      rcases this with rfl | rfl | rfl <;> omega
    · unfold indexN
      rw [if_pos hb]
      have : n = 3 ∨ n = 4 ∨ n = 5 := by omega
      rcases this with rfl | rfl | rfl <;> omega
  · rintro ⟨b, hb, rfl, rfl⟩
    have hg := blockB_geo hb
    have hb' := blockB_of.1 hb
    rw [blocksN_of hg] at hb'
    obtain ⟨g1, g2, g3, g4⟩ := geoB_iff.1 hg
    unfold spotB
    rw [Bool.and_eq_true, stripeB_of, inB_iff]
    unfold stripeN indexN
    rw [if_pos hb, if_pos hb]
    have : n = 3 ∨ n = 4 ∨ n = 5 := by omega
    rcases this with rfl | rfl | rfl <;> exact ⟨⟨hg, by omega⟩, by omega⟩

set_option maxRecDepth 20000 in
theorem block_at {n s b : Int} (hb : blockB n s b = true) : blockN n s (stripeN n s b) (indexN n s b) = b := by
  have h := spot_block.2 ⟨b, hb, rfl, rfl⟩
  unfold blockN
  rw [if_pos h]
  obtain ⟨g1, g2, g3, g4⟩ := geoB_iff.1 (blockB_geo hb)
  have hb' := blockB_of.1 hb
  unfold stripeN indexN
  rw [if_pos hb, if_pos hb]
  have : n = 3 ∨ n = 4 ∨ n = 5 := by omega
  rcases this with rfl | rfl | rfl <;> omega

set_option maxRecDepth 20000 in
set_option maxHeartbeats 1600000 in
theorem implBlockAt_any (w : World) (n s t i : Int) : Calls Tryz.prog 140 #[.agg #[.int .i64 n, .int .i64 s], .int .i64 t, .int .i64 i] w fun e w' => e = .returned (.int .i64 (blockN n s t i)) ∧ Below w.heap.size w w' := by
  have hA : Below w.heap.size w ((w.alloc (.cells #[.int .i64 n, .int .i64 s] 31)).alloc (.cells #[.int .i64 t, .int .i64 i] 91)) := (new_below w _).alloc (by simp) _
  have X : Gbox ((w.alloc (.cells #[.int .i64 n, .int .i64 s] 31)).alloc (.cells #[.int .i64 t, .int .i64 i] 91)) w.heap.size 31 n s := (Gbox.new w 31 n s).below (new_below _ _) (by simp)
  have Y : Gbox ((w.alloc (.cells #[.int .i64 n, .int .i64 s] 31)).alloc (.cells #[.int .i64 t, .int .i64 i] 91)) (w.heap.size + 1) 91 t i := by
    have := Gbox.new (w.alloc (.cells #[.int .i64 n, .int .i64 s] 31)) 91 t i
    simpa using this
  obtain ⟨k0, k1⟩ := X.cells
  obtain ⟨x0, x1⟩ := (Gbox.new w 31 n s).cells
  go_enter Tryz.func140, Tryz.ntmps140
  go_wp2_with fail
  refine (implBlocks_any _ _ _).mono ?_
  rintro e w1 ⟨rfl, b1⟩
  have hz : w.heap.size + 1 < ((w.alloc (.cells #[.int .i64 n, .int .i64 s] 31)).alloc (.cells #[.int .i64 t, .int .i64 i] 91)).heap.size := by simp
  have X1 := X.below b1 (by omega)
  have Y1 := Y.below b1 hz
  have B1 := hA.trans (b1.mono hA.size)
  have hr := blocksN_range n s
  obtain ⟨nb, hnb⟩ := Int.eq_ofNat_of_zero_le hr.1
  have HNB := hidden hnb
  rw [hnb] at hr ⊢
  clear k0 k1 x0 x1 X Y hA b1 hz hnb
  go_wp2_with fail
  go_loopw [14] (fun c wr => ∃ j : Nat, j ≤ nb ∧ c = .int .i64 j ∧ (∀ k : Nat, k < j → ¬ (stripeN n s k = t ∧ indexN n s k = i)) ∧ Gbox wr w.heap.size 31 n s ∧ Gbox wr (w.heap.size + 1) 91 t i ∧ Below w.heap.size w wr) (fun c _ => nb - (intOf c).toNat)
  case atStart => exact ⟨0, Nat.zero_le _, rfl, by omega, X1, Y1, B1⟩
  case round =>
    obtain ⟨j, hj, rfl, hk, X2, Y2, B2⟩ := hrel
    have HK := hidden hk
    clear hk X1 Y1 B1
    by_cases hlt : j < nb
    · have hb : blockB n s j = true := blockB_of.2 ⟨by omega, by rw [HNB.out]; omega⟩
      have HBA := hidden (block_at hb)
      obtain ⟨k0, k1⟩ := X2.cells
      obtain ⟨j0, j1⟩ := Y2.cells
      generalize hS : stripeN n s j = S at HBA HK
      generalize hI : indexN n s j = I at HBA HK
      have HP : ∀ W : World, Calls Tryz.prog 62 #[.agg #[.int .i64 n, .int .i64 s], .int .i64 (j : Int)] W fun e w' => e = .returned (.agg #[.int .i64 S, .int .i64 I]) ∧ Below W.heap.size W w' := by
        intro W
        rw [← hS, ← hI]
        exact placeOf_any _ _ _ _
      have HS := hidden hS
      have HI := hidden hI
      clear hS hI
      by_cases h1 : S = t
      · by_cases h2 : I = i
        · subst h1 h2
          go_wp2_with fail
          go_region_held3 (fun w' => w'.cell? ⟨w.heap.size, 0, none⟩ = some (.int .i64 n) ∧ w'.cell? ⟨w.heap.size, 1, none⟩ = some (.int .i64 s) ∧ w'.cell? ⟨w.heap.size + 1, 0, none⟩ = some (.int .i64 S) ∧ w'.cell? ⟨w.heap.size + 1, 1, none⟩ = some (.int .i64 I))
            (first | (exact ⟨X3.cells.1, X3.cells.2, Y3.cells.1, Y3.cells.2⟩) | (exact ⟨k0, k1, j0, j1⟩) | go_keep)
            (first
              | (go_at_call 62; refine (HP _).mono ?_; rintro e w3 ⟨rfl, b3⟩; have B3 := Below.andThen B2.drew b3; have X3 := X2.drew.below b3 X2.lt; have Y3 := Y2.drew.below b3 Y2.lt))
          go_wp2
          go_ret
          exact ⟨ret_int HBA.out.symm, B3⟩
        · have n2 : (I == i) = false := by simpa using h2
          subst h1
          go_wp2_with fail
          go_region_held3 (fun w' => w'.cell? ⟨w.heap.size, 0, none⟩ = some (.int .i64 n) ∧ w'.cell? ⟨w.heap.size, 1, none⟩ = some (.int .i64 s) ∧ w'.cell? ⟨w.heap.size + 1, 0, none⟩ = some (.int .i64 S) ∧ w'.cell? ⟨w.heap.size + 1, 1, none⟩ = some (.int .i64 i))
            (first | (exact ⟨X3.cells.1, X3.cells.2, Y3.cells.1, Y3.cells.2⟩) | (exact ⟨k0, k1, j0, j1⟩) | go_keep)
            (first
              | (go_at_call 62; refine (HP _).mono ?_; rintro e w3 ⟨rfl, b3⟩; have B3 := Below.andThen B2.drew b3; have X3 := X2.drew.below b3 X2.lt; have Y3 := Y2.drew.below b3 Y2.lt))
          go_wp2
          go_roundw
          case rel => exact ⟨j + 1, by omega, by go_num, fun k hk h => by
            by_cases hkj : k < j
            · exact HK.out k hkj h
            · have : k = j := by omega
              subst this
              exact h2 (HI.out ▸ h.2), X3, Y3, B3⟩
          case measure => simp [intOf]; omega
      · have n1 : (S == t) = false := by simpa using h1
        go_wp2_with fail
        go_region_held3 (fun w' => w'.cell? ⟨w.heap.size, 0, none⟩ = some (.int .i64 n) ∧ w'.cell? ⟨w.heap.size, 1, none⟩ = some (.int .i64 s) ∧ w'.cell? ⟨w.heap.size + 1, 0, none⟩ = some (.int .i64 t) ∧ w'.cell? ⟨w.heap.size + 1, 1, none⟩ = some (.int .i64 i))
          (first | (exact ⟨X3.cells.1, X3.cells.2, Y3.cells.1, Y3.cells.2⟩) | (exact ⟨k0, k1, j0, j1⟩) | go_keep)
          (first
            | (go_at_call 62; refine (HP _).mono ?_; rintro e w3 ⟨rfl, b3⟩; have B3 := Below.andThen B2.drew b3; have X3 := X2.drew.below b3 X2.lt; have Y3 := Y2.drew.below b3 Y2.lt))
        go_wp2
        go_roundw
        case rel => exact ⟨j + 1, by omega, by go_num, fun k hk h => by
          by_cases hkj : k < j
          · exact HK.out k hkj h
          · have : k = j := by omega
            subst this
            exact h1 (HS.out ▸ h.1), X3, Y3, B3⟩
        case measure => simp [intOf]; omega
    · go_wp2
      go_ret
      have e : j = nb := by omega
      subst e
      refine ⟨ret_int ?_, B2⟩
      unfold blockN
      rw [if_neg]
      intro h
      obtain ⟨b, hb, h1, h2⟩ := spot_block.1 h
      obtain ⟨hb0, hb1⟩ := blockB_of.1 hb
      obtain ⟨b, rfl⟩ := Int.eq_ofNat_of_zero_le hb0
      rw [HNB.out] at hb1
      exact HK.out b (by omega) ⟨h1, h2⟩

end Go.Proofs.YtjmjianlcoleaaaGreat

/-
  The walks of both DiskOf, and of the specification's Blocks, ParityOf, StripeOf, IndexOf and BlockAt. No condition.
-/
namespace Go.Proofs.YtjmjianlcoleaaaGreat
open Go.RowKit

theorem blockN_ok {n s t i : Int} (h : spotB n s t i = true) : 0 ≤ blockN n s t i := by
  unfold blockN
  rw [if_pos h]
  unfold spotB at h
  rw [Bool.and_eq_true, stripeB_of, inB_iff] at h
  obtain ⟨⟨hg, h1, h2⟩, h3, h4⟩ := h
  obtain ⟨g1, g2, g3, g4⟩ := geoB_iff.1 hg
  have : n = 3 ∨ n = 4 ∨ n = 5 := by omega
  rcases this with rfl | rfl | rfl <;> omega

theorem spotB_of {n s t i : Int} : spotB n s t i = true ↔ geoB n s = true ∧ 0 ≤ t ∧ t < s ∧ 0 ≤ i ∧ i ≤ n - 2 := by
  unfold spotB
  rw [Bool.and_eq_true, stripeB_of, inB_iff]
  constructor
  · rintro ⟨⟨a, b, c⟩, d, e⟩
    exact ⟨a, b, c, d, e⟩
  · rintro ⟨a, b, c, d, e⟩
    exact ⟨⟨a, b, c⟩, d, e⟩

set_option maxHeartbeats 1600000 in
theorem implDiskOf_any (w : World) (n s t i : Int) : Calls Tryz.prog 104 #[.agg #[.int .i64 n, .int .i64 s], .int .i64 t, .int .i64 i] w fun e w' => e = .returned (.int .i64 (diskN n s t i)) ∧ Below w.heap.size w w' := by
  have hA := new_below w (.cells #[.int .i64 n, .int .i64 s] 31)
  have X := Gbox.new w 31 n s
  obtain ⟨k0, k1⟩ := X.cells
  have zA := X.lt
  go_enter Tryz.func104, Tryz.ntmps104
  go_wp2_with fail
  refine (implBlockAt_any _ _ _ _ _).mono ?_
  rintro e w1 ⟨rfl, b1⟩
  have X1 := X.below b1 zA
  have B1 := Below.andThen hA b1
  clear k0 k1 X b1 hA zA
  obtain ⟨k0, k1⟩ := X1.cells
  by_cases hs : spotB n s t i = true
  · have h0 := blockN_ok hs
    obtain ⟨hg, h1, h2, h3, h4⟩ := spotB_of.1 hs
    obtain ⟨g1, g2, g3, g4⟩ := geoB_iff.1 hg
    have hm1 : 0 ≤ t % n := Int.emod_nonneg _ (by omega)
    have hm2 : t % n < n := Int.emod_lt_of_pos _ (by omega)
    have HP : parN n s t = n - 1 - t % n := by unfold parN; rw [if_pos (stripeB_of.2 ⟨hg, h1, h2⟩)]
    have HPar : ∀ W : World, Calls Tryz.prog 141 #[.agg #[.int .i64 n, .int .i64 s], .int .i64 t] W fun e w' => e = .returned (.int .i64 (n - 1 - t % n)) ∧ Below W.heap.size W w' := by
      intro W
      rw [← HP]
      exact implParityOf_any _ _ _ _
    have HD : Hid (diskN n s t i = (n - 1 - t % n + 1 + i) % n) := by unfold Hid diskN; rw [if_pos hs]
    clear HP
    generalize t % n = r at hm1 hm2 HPar HD
    have e0 : ¬ blockN n s t i = -1 := by omega
    have e1 : ¬ n = 0 := by omega
    have e2 : (n - 1 - r + 1 + i).tmod n = (n - 1 - r + 1 + i) % n := Int.tmod_eq_emod_of_nonneg (by omega)
    have e3 : IntKind.i64.wrap (n - 1 - r + 1) = n - 1 - r + 1 := IntWalk.i64_in _ (by omega)
    have e4 : IntKind.i64.wrap (n - 1 - r + 1 + i) = n - 1 - r + 1 + i := IntWalk.i64_in _ (by omega)
    have e5 : (blockN n s t i == -1) = false := by simpa using e0
    go_wp2_with fail
    go_region_held3 (fun w' => w'.cell? ⟨w.heap.size, 0, none⟩ = some (.int .i64 n) ∧ w'.cell? ⟨w.heap.size, 1, none⟩ = some (.int .i64 s))
      (first | (exact X2.cells) | (exact X1.cells) | go_keep)
      (first
        | (go_at_call 141; refine (HPar _).mono ?_; rintro e w2 ⟨rfl, b2⟩; have B2 := Below.andThen B1.drew b2; have X2 := X1.drew.below b2 X1.lt))
    go_wp2
    go_ret
    exact ⟨ret_int HD.out.symm, B2⟩
  · have e0 : blockN n s t i = -1 := by unfold blockN; rw [if_neg hs]
    have e5 : (blockN n s t i == -1) = true := by simpa using e0
    go_wp2
    go_ret
    exact ⟨ret_int (by unfold diskN; rw [if_neg hs]), B1⟩

end Go.Proofs.YtjmjianlcoleaaaGreat

/-
  The walk of the program's look for the words of a stripe's blocks. Condition: the array weighs at most 2097152.
-/
namespace Go.Proofs.YtjmjianlcoleaaaGreat
open Go.RowKit

theorem dfill6 (x : ArrN) (s : Int) (l : List Int) (n j : Nat) (h : j < n) : (pickL x s l j ++ List.replicate (n - j) (0 : Int)).set j (l.getD (diskN x.n x.s s (j : Int)).toNat 0) = pickL x s l (j + 1) ++ List.replicate (n - (j + 1)) (0 : Int) := by
  have e : n - j = (n - (j + 1)) + 1 := by omega
  rw [List.set_append, if_neg (by rw [pickL_len]; omega), pickL_len, Nat.sub_self, e, List.replicate_succ, List.set_cons_zero, pickL_succ, List.append_assoc]
  rfl

set_option linter.unusedSimpArgs false in
set_option maxRecDepth 20000 in
set_option maxHeartbeats 3200000 in
theorem implDataOf_any (w : World) (E F G : TypeId) (x : ArrN) (am ad : Option Addr) (nm cm nd cd : Nat) (ms : List MemD) (ds : List (Int × List Int)) (s : Int) (h0 : (tMemS E F).Rd w [.slice am nm cm] ms) (h1 : (tWrS G).Rd w [.slice ad nd cd] ds) (hw : wtArr ms ds ≤ 2097152) :
    Calls Tryz.prog 65 #[.agg #[.int .i64 x.id, .int .i64 x.n, .int .i64 x.s, .slice am nm cm, .int .i64 x.lost, .int .i64 x.built, .int .i64 x.seq, .int .i64 x.tail, .int .i64 x.gen, .slice ad nd cd, .int .i64 x.fuse, .bool x.down, .bool x.broken], .int .i64 s] w fun e w' => ∃ a' l' c', e = .returned (.tuple #[.slice a' l' c', .bool (wordsOk6 x ms ds s)]) ∧ tIntS.Own w' w.heap.size w'.heap.size [.slice a' l' c'] (dataL6 x ms ds s) ∧ Below w.heap.size w w' := by
  obtain ⟨i0, hi, hz0, hz1, hz2⟩ := info_parts Tryz.info3
  have hA := new_below w (.cells #[.int .i64 x.id, .int .i64 x.n, .int .i64 x.s, .slice am nm cm, .int .i64 x.lost, .int .i64 x.built, .int .i64 x.seq, .int .i64 x.tail, .int .i64 x.gen, .slice ad nd cd, .int .i64 x.fuse, .bool x.down, .bool x.broken] 35)
  have X := Box.new w 35 #[.int .i64 x.id, .int .i64 x.n, .int .i64 x.s, .slice am nm cm, .int .i64 x.lost, .int .i64 x.built, .int .i64 x.seq, .int .i64 x.tail, .int .i64 x.gen, .slice ad nd cd, .int .i64 x.fuse, .bool x.down, .bool x.broken]
  obtain ⟨k0, k1, k2, k3, k4, k5, k6, k7, k8, k9, k10, k11, k12⟩ := X.cells13
  have zA := X.lt
  have r0 := h0.below hA
  have r1 := h1.below hA
  go_enter Tryz.func65, Tryz.ntmps65
  go_wp2_with fail
  generalize w.alloc (.cells #[.int .i64 x.id, .int .i64 x.n, .int .i64 x.s, .slice am nm cm, .int .i64 x.lost, .int .i64 x.built, .int .i64 x.seq, .int .i64 x.tail, .int .i64 x.gen, .slice ad nd cd, .int .i64 x.fuse, .bool x.down, .bool x.broken] 35) = W at hA X zA r0 r1 k0 k1 k2 k3 k4 k5 k6 k7 k8 k9 k10 k11 k12 ⊢
  refine (implWords_any _ E F G x _ _ _ _ _ _ ms ds s r0 r1 hw).mono ?_
  rintro e w1 ⟨a', l', c', rfl, o1, b1⟩
  have X1 := X.below b1 zA
  have B1 := Below.andThen hA b1
  clear k0 k1 k2 k3 k4 k5 k6 k7 k8 k9 k10 k11 k12 X b1 r0 r1
  cases hok : wordsOk6 x ms ds s
  · have HF : Hid (dataL6 x ms ds s = []) := by
      unfold Hid
      unfold wordsOk6 at hok
      unfold dataL6
      cases hk : okB6 x ms ds s
      · rfl
      · rw [hk, Bool.true_and] at hok
        rw [if_pos rfl]
        unfold data6
        rw [hok]
        rfl
    have FO := hidden ((own_ints (Owns.lit .i64 3 w1 [] 0 #[] rfl rfl (by unfold maxLen; omega))).widen (lo' := w.heap.size) B1.size (Nat.le_refl _))
    have FB := hidden (B1.alloc B1.size (.cells #[] 3))
    clear o1
    go_wp2
    refine bodyPost_ret (v := .tuple #[.slice (some ⟨w1.heap.size, 0, none⟩) 0 0, .bool false]) (by simp [results, Tryz.results65, go_sem]) rfl ?_
    exact ⟨_, _, _, by rw [hok], by rw [HF.out]; exact FO.out, FB.out⟩
  · have hk : okB6 x ms ds s = true := by unfold wordsOk6 at hok; simp only [Bool.and_eq_true] at hok; exact hok.1
    have hwb : wordsB x ms s = true := by unfold wordsOk6 at hok; simp only [Bool.and_eq_true] at hok; exact hok.2
    have hin : inB s 0 (x.s - 1) = true := by unfold okB6 at hk; simp only [Bool.and_eq_true] at hk; exact hk.2.2
    have hg : geoB x.n x.s = true := by unfold okB6 arrB at hk; simp only [Bool.and_eq_true] at hk; exact hk.1.1
    obtain ⟨g1, g2, g3, g4⟩ := geoB_iff.1 hg
    have hL : wordsL6 x ms ds s = words6 x ms s := by unfold wordsL6; rw [if_pos hk]; rfl
    have hD : dataL6 x ms ds s = pickL x s (words6 x ms s) (x.n.toNat - 1) := by
      unfold dataL6
      rw [if_pos hk]
      unfold data6
      rw [if_pos (show wordsB {x with broken := false} ms s = true from hwb)]
      rfl
    have hwl := words6_len hwb
    rw [hL] at o1
    generalize words6 x ms s = ps at o1 hD hwl
    obtain ⟨hr1, hln, hcap, hmax⟩ := ints_rd o1.rd
    obtain ⟨m, hm⟩ : ∃ m : Nat, x.n = (m : Int) + 1 := ⟨x.n.toNat - 1, by omega⟩
    have hm5 : m ≤ 4 := by omega
    have hm2 : 2 ≤ m := by omega
    have hl5 : l' = m + 1 := by omega
    subst hl5
    have HD : Hid (dataL6 x ms ds s = pickL x s ps m) := by unfold Hid; rw [hD]; congr 1; omega
    have HM := hidden hm
    have HOK := hidden hok
    have HIN := hidden hin
    have HG := hidden hg
    clear hD hm hwl hok hk hwb hL hin hg
    rcases hr1 with hnil | ⟨b, off, rfl, hbl, hcs⟩
    · rw [hnil] at hln; simp at hln
    have HCS := hidden hcs
    clear hcs
    obtain ⟨k0, k1, k2, k3, k4, k5, k6, k7, k8, k9, k10, k11, k12⟩ := X1.cells13
    go_wp2_with fail
    refine (perStripe_any _ x.n x.s g1 g2).mono ?_
    rintro e w2 ⟨rfl, b2⟩
    have X2 := X1.below b2 X1.lt
    have B2 := Below.andThen B1 b2
    have zb2 := b2.size
    have hC2 : ∀ i, i < ps.length → w2.cell? ⟨b, off + i, none⟩ = some (.int .i64 (ps.getD i 0)) := fun i h => (b2.cell (p := ⟨b, off + i, none⟩) hbl).trans (HCS.out i h)
    have HC2 := hidden hC2
    have hbl2 : b < w2.heap.size := Nat.lt_of_lt_of_le hbl b2.size
    clear k0 k1 k2 k3 k4 k5 k6 k7 k8 k9 k10 k11 k12 X1 b2 B1 hC2 HCS hbl o1
    have hb3 : i0.bytes * m ≤ 281474976710656 := by rw [hz2]; omega
    have hm3 : m ≤ maxLen := by unfold maxLen; omega
    rw [show x.n - 1 = (m : Int) from by have := HM.out; omega]
    go_wp2_with (at_make; refine wpList_make_full _ rfl _ _ 48 rfl w2.heap.size 3 i0 (.int .i64 0) 1 Tryz.underlying48 hi hz0 hz1 _ _ _ _ m rfl rfl rfl rfl hb3 hm3 (Nat.le_refl _) ?_; intro w3 hown hgrow)
    have hO : Owns .i64 3 w3 w2.heap.size (.slice (some ⟨w2.heap.size, 0, none⟩) m m) (List.replicate m 0) := by
      rw [made_ints] at hown
      unfold Owns
      rw [List.length_replicate]
      exact hown
    have hO1 := hO.own
    have hB1 : Below w2.heap.size w2 w3 := (Below.refl _ _).grown hgrow (Nat.le_refl _) (by simp)
    generalize w3.heap.size = hi1 at hO1
    clear hown hgrow hO
    go_loopw [25] (fun i wr => ∃ j : Nat, j ≤ m ∧ i = .int .i64 j ∧ Own .i64 3 wr w2.heap.size hi1 (.slice (some ⟨w2.heap.size, 0, none⟩) m m) (pickL x s ps j ++ List.replicate (m - j) 0) ∧ Below w2.heap.size w2 wr) (fun i _ => m - (intOf i).toNat)
    case atStart => exact ⟨0, Nat.zero_le _, rfl, by simpa [pickL] using hO1, hB1⟩
    case round =>
      clear hO1 hB1
      obtain ⟨j, hj, rfl, ho, hb⟩ := hrel
      by_cases hlt : j < m
      · have Xr := X2.below hb X2.lt
        obtain ⟨k0, k1, k2, k3, k4, k5, k6, k7, k8, k9, k10, k11, k12⟩ := Xr.cells13
        obtain ⟨d1, d2⟩ := disk_in (i := (j : Int)) HG.out HIN.out (by omega) (by have := HM.out; omega)
        have hfs := dfill6 x s ps m j hlt
        go_wp2_with fail
        refine (implDiskOf_any _ x.n x.s s (j : Int)).mono ?_
        rintro e w5 ⟨rfl, b5⟩
        obtain ⟨d, hd⟩ := Int.eq_ofNat_of_zero_le d1
        rw [hd] at d2 hfs ⊢
        rw [Int.toNat_natCast] at hfs
        have hdn : d < m + 1 := by have := HM.out; omega
        have hcd := (b5.cell (p := ⟨b, off + d, none⟩) (Nat.lt_of_lt_of_le hbl2 hb.size)).trans ((hb.cell (p := ⟨b, off + d, none⟩) hbl2).trans (HC2.out d (by omega)))
        have o5 := ho.below b5
        have B5 := hb.trans (b5.mono hb.size)
        obtain ⟨hcy, hfy, hst, hbt⟩ := o5.store j hlt (ps.getD d 0)
        rw [hfs] at hst
        have HST := hidden hst
        have HB : Hid (Below w2.heap.size w2 (w5.setCell ⟨w2.heap.size, j, none⟩ (.int .i64 (ps.getD d 0)))) := B5.setCell (Nat.le_refl _) _
        generalize ps.getD d 0 = y at hcd HST HB
        generalize (pickL x s ps j ++ List.replicate (m - j) 0).getD j 0 = old at hcy
        have i1 : (0 : Int) ≤ (d : Int) := by omega
        have i2 : (d : Int) < ((m + 1 : Nat) : Int) := by omega
        have i3 : (0 : Int) ≤ (j : Int) := by omega
        have i4 : (j : Int) < (m : Int) := by omega
        clear k0 k1 k2 k3 k4 k5 k6 k7 k8 k9 k10 k11 k12 Xr b5 ho hb hst hbt o5 B5 hfs d1 d2 hd
        go_wp2
        go_roundw
        case rel => exact ⟨j + 1, by omega, by go_num, HST.out, HB.out⟩
        case measure => simp [intOf]; omega
      · have ej : j = m := by omega
        subst ej
        rw [Nat.sub_self, List.replicate_zero, List.append_nil] at ho
        have FO := hidden ((own_ints ho.1).widen (lo' := w.heap.size) B2.size (Nat.le_refl _))
        have FB := hidden (B2.trans (hb.mono B2.size))
        clear ho hb
        go_wp2
        refine bodyPost_ret (v := .tuple #[.slice (some ⟨w2.heap.size, 0, none⟩) j j, .bool true]) (by simp [results, Tryz.results65, go_sem]) rfl ?_
        exact ⟨_, _, _, by rw [HOK.out], by rw [HD.out]; exact FO.out, FB.out⟩

end Go.Proofs.YtjmjianlcoleaaaGreat

/-
  The codes of both sides, and a stripe as it is to be, by the program. Condition: the array weighs at most 2097152.
-/
namespace Go.Proofs.YtjmjianlcoleaaaGreat
open Go.RowKit

set_option linter.unusedSimpArgs false in
set_option maxRecDepth 20000 in
set_option maxHeartbeats 3200000 in
theorem l8May_any (w : World) (E F G : TypeId) (x : ArrN) (am ad : Option Addr) (nm cm nd cd : Nat) (ms : List MemD) (ds : List (Int × List Int)) (h0 : (tMemS E F).Rd w [.slice am nm cm] ms) (h1 : (tWrS G).Rd w [.slice ad nd cd] ds) (hw : wtArr ms ds ≤ 2097152) :
    Calls Tryz.prog 46 #[.agg #[.int .i64 x.id, .int .i64 x.n, .int .i64 x.s, .slice am nm cm, .int .i64 x.lost, .int .i64 x.built, .int .i64 x.seq, .int .i64 x.tail, .int .i64 x.gen, .slice ad nd cd, .int .i64 x.fuse, .bool x.down, .bool x.broken]] w fun e w' => e = .returned (.int .i64 (ask8 x ms ds)) ∧ Below w.heap.size w w' := by
  have hA := new_below w (.cells #[.int .i64 x.id, .int .i64 x.n, .int .i64 x.s, .slice am nm cm, .int .i64 x.lost, .int .i64 x.built, .int .i64 x.seq, .int .i64 x.tail, .int .i64 x.gen, .slice ad nd cd, .int .i64 x.fuse, .bool x.down, .bool x.broken] 35)
  have X := Box.new w 35 #[.int .i64 x.id, .int .i64 x.n, .int .i64 x.s, .slice am nm cm, .int .i64 x.lost, .int .i64 x.built, .int .i64 x.seq, .int .i64 x.tail, .int .i64 x.gen, .slice ad nd cd, .int .i64 x.fuse, .bool x.down, .bool x.broken]
  have zX := X.lt
  obtain ⟨k0, k1, k2, k3, k4, k5, k6, k7, k8, k9, k10, k11, k12⟩ := X.cells13
  have r0 := h0.below hA
  have r1 := h1.below hA
  have HV : Hid (ask8 x ms ds = if arrB x ms ds = true then (if x.down = true then 6 else 0) else 1) := rfl
  go_enter Tryz.func46, Tryz.ntmps46
  go_wp2_with fail
  generalize w.alloc (.cells #[.int .i64 x.id, .int .i64 x.n, .int .i64 x.s, .slice am nm cm, .int .i64 x.lost, .int .i64 x.built, .int .i64 x.seq, .int .i64 x.tail, .int .i64 x.gen, .slice ad nd cd, .int .i64 x.fuse, .bool x.down, .bool x.broken] 35) = W at hA X zX r0 r1 k0 k1 k2 k3 k4 k5 k6 k7 k8 k9 k10 k11 k12 ⊢
  refine (specArrOk_any _ E F G x _ _ _ _ _ _ ms ds r0 r1 hw).mono ?_
  rintro e w1 ⟨rfl, b1⟩
  have X1 := X.below b1 zX
  have HB := hidden (Below.andThen hA b1)
  clear k0 k1 k2 k3 k4 k5 k6 k7 k8 k9 k10 k11 k12 X r0 r1 b1 hA
  obtain ⟨k0, k1, k2, k3, k4, k5, k6, k7, k8, k9, k10, k11, k12⟩ := X1.cells13
  clear X1
  cases ha : arrB x ms ds
  · have HR : Hid (1 = ask8 x ms ds) := by unfold Hid; rw [HV.out, if_neg (by simp [ha])]
    clear ha
    go_wp2
    go_ret
    exact ⟨ret_int HR.out, HB.out⟩
  · cases hd : x.down
    · have HR : Hid (0 = ask8 x ms ds) := by unfold Hid; rw [HV.out, if_pos ha, if_neg (by simp [hd])]
      rw [hd] at k11
      clear ha hd
      go_wp2
      go_ret
      exact ⟨ret_int HR.out, HB.out⟩
    · have HR : Hid (6 = ask8 x ms ds) := by unfold Hid; rw [HV.out, if_pos ha, if_pos hd]
      rw [hd] at k11
      clear ha hd
      go_wp2
      go_ret
      exact ⟨ret_int HR.out, HB.out⟩

set_option linter.unusedSimpArgs false in
set_option maxRecDepth 20000 in
set_option maxHeartbeats 3200000 in
theorem askCode_any (w : World) (E F G : TypeId) (x : ArrN) (am ad : Option Addr) (nm cm nd cd : Nat) (ms : List MemD) (ds : List (Int × List Int)) (h0 : (tMemS E F).Rd w [.slice am nm cm] ms) (h1 : (tWrS G).Rd w [.slice ad nd cd] ds) (hw : wtArr ms ds ≤ 2097152) :
    Calls Tryz.prog 53 #[.agg #[.int .i64 x.id, .int .i64 x.n, .int .i64 x.s, .slice am nm cm, .int .i64 x.lost, .int .i64 x.built, .int .i64 x.seq, .int .i64 x.tail, .int .i64 x.gen, .slice ad nd cd, .int .i64 x.fuse, .bool x.down, .bool x.broken]] w fun e w' => e = .returned (.int .i64 (ask8 x ms ds)) ∧ Below w.heap.size w w' := by
  have hA := new_below w (.cells #[.int .i64 x.id, .int .i64 x.n, .int .i64 x.s, .slice am nm cm, .int .i64 x.lost, .int .i64 x.built, .int .i64 x.seq, .int .i64 x.tail, .int .i64 x.gen, .slice ad nd cd, .int .i64 x.fuse, .bool x.down, .bool x.broken] 35)
  have X := Box.new w 35 #[.int .i64 x.id, .int .i64 x.n, .int .i64 x.s, .slice am nm cm, .int .i64 x.lost, .int .i64 x.built, .int .i64 x.seq, .int .i64 x.tail, .int .i64 x.gen, .slice ad nd cd, .int .i64 x.fuse, .bool x.down, .bool x.broken]
  have zX := X.lt
  obtain ⟨k0, k1, k2, k3, k4, k5, k6, k7, k8, k9, k10, k11, k12⟩ := X.cells13
  have r0 := h0.below hA
  have r1 := h1.below hA
  have HV : Hid (ask8 x ms ds = if arrB x ms ds = true then (if x.down = true then 6 else 0) else 1) := rfl
  go_enter Tryz.func53, Tryz.ntmps53
  go_wp2_with fail
  generalize w.alloc (.cells #[.int .i64 x.id, .int .i64 x.n, .int .i64 x.s, .slice am nm cm, .int .i64 x.lost, .int .i64 x.built, .int .i64 x.seq, .int .i64 x.tail, .int .i64 x.gen, .slice ad nd cd, .int .i64 x.fuse, .bool x.down, .bool x.broken] 35) = W at hA X zX r0 r1 k0 k1 k2 k3 k4 k5 k6 k7 k8 k9 k10 k11 k12 ⊢
  refine (implArrOk_any _ E F G x _ _ _ _ _ _ ms ds r0 r1 hw).mono ?_
  rintro e w1 ⟨rfl, b1⟩
  have X1 := X.below b1 zX
  have HB := hidden (Below.andThen hA b1)
  clear k0 k1 k2 k3 k4 k5 k6 k7 k8 k9 k10 k11 k12 X r0 r1 b1 hA
  obtain ⟨k0, k1, k2, k3, k4, k5, k6, k7, k8, k9, k10, k11, k12⟩ := X1.cells13
  clear X1
  cases ha : arrB x ms ds
  · have HR : Hid (1 = ask8 x ms ds) := by unfold Hid; rw [HV.out, if_neg (by simp [ha])]
    clear ha
    go_wp2
    go_ret
    exact ⟨ret_int HR.out, HB.out⟩
  · cases hd : x.down
    · have HR : Hid (0 = ask8 x ms ds) := by unfold Hid; rw [HV.out, if_pos ha, if_neg (by simp [hd])]
      rw [hd] at k11
      clear ha hd
      go_wp2
      go_ret
      exact ⟨ret_int HR.out, HB.out⟩
    · have HR : Hid (6 = ask8 x ms ds) := by unfold Hid; rw [HV.out, if_pos ha, if_pos hd]
      rw [hd] at k11
      clear ha hd
      go_wp2
      go_ret
      exact ⟨ret_int HR.out, HB.out⟩

set_option linter.unusedSimpArgs false in
set_option maxRecDepth 20000 in
set_option maxHeartbeats 3200000 in
theorem stripeCode_any (w : World) (E F G : TypeId) (x : ArrN) (am ad : Option Addr) (nm cm nd cd : Nat) (ms : List MemD) (ds : List (Int × List Int)) (s : Int) (h0 : (tMemS E F).Rd w [.slice am nm cm] ms) (h1 : (tWrS G).Rd w [.slice ad nd cd] ds) (hw : wtArr ms ds ≤ 2097152) :
    Calls Tryz.prog 30 #[.agg #[.int .i64 x.id, .int .i64 x.n, .int .i64 x.s, .slice am nm cm, .int .i64 x.lost, .int .i64 x.built, .int .i64 x.seq, .int .i64 x.tail, .int .i64 x.gen, .slice ad nd cd, .int .i64 x.fuse, .bool x.down, .bool x.broken], .int .i64 s] w fun e w' => e = .returned (.int .i64 (scode8 x ms ds s)) ∧ Below w.heap.size w w' := by
  have hA := new_below w (.cells #[.int .i64 x.id, .int .i64 x.n, .int .i64 x.s, .slice am nm cm, .int .i64 x.lost, .int .i64 x.built, .int .i64 x.seq, .int .i64 x.tail, .int .i64 x.gen, .slice ad nd cd, .int .i64 x.fuse, .bool x.down, .bool x.broken] 35)
  have X := Box.new w 35 #[.int .i64 x.id, .int .i64 x.n, .int .i64 x.s, .slice am nm cm, .int .i64 x.lost, .int .i64 x.built, .int .i64 x.seq, .int .i64 x.tail, .int .i64 x.gen, .slice ad nd cd, .int .i64 x.fuse, .bool x.down, .bool x.broken]
  have zX := X.lt
  obtain ⟨k0, k1, k2, k3, k4, k5, k6, k7, k8, k9, k10, k11, k12⟩ := X.cells13
  have r0 := h0.below hA
  have r1 := h1.below hA
  have HV : Hid (scode8 x ms ds s = if ask8 x ms ds = 0 then (if stripeB x.n x.s s = true then 0 else 2) else ask8 x ms ds) := rfl
  go_enter Tryz.func30, Tryz.ntmps30
  go_wp2_with fail
  generalize w.alloc (.cells #[.int .i64 x.id, .int .i64 x.n, .int .i64 x.s, .slice am nm cm, .int .i64 x.lost, .int .i64 x.built, .int .i64 x.seq, .int .i64 x.tail, .int .i64 x.gen, .slice ad nd cd, .int .i64 x.fuse, .bool x.down, .bool x.broken] 35) = W at hA X zX r0 r1 k0 k1 k2 k3 k4 k5 k6 k7 k8 k9 k10 k11 k12 ⊢
  refine (askCode_any _ E F G x _ _ _ _ _ _ ms ds r0 r1 hw).mono ?_
  rintro e w1 ⟨rfl, b1⟩
  have X1 := X.below b1 zX
  have zX1 := X1.lt
  have HB := hidden (Below.andThen hA b1)
  clear k0 k1 k2 k3 k4 k5 k6 k7 k8 k9 k10 k11 k12 X r0 r1 b1 hA
  obtain ⟨k0, k1, k2, k3, k4, k5, k6, k7, k8, k9, k10, k11, k12⟩ := X1.cells13
  clear X1
  generalize ask8 x ms ds = q at HV ⊢
  by_cases hq : q = 0
  · subst hq
    have HV2 : Hid (scode8 x ms ds s = if stripeB x.n x.s s = true then 0 else 2) := by unfold Hid; rw [HV.out, if_pos rfl]
    clear HV
    go_wp2_with fail
    refine (hasStripe_any _ x.n x.s s).mono ?_
    rintro e w2 ⟨rfl, b2⟩
    have HB2 := hidden (Below.andThen HB.out b2)
    clear k0 k1 k2 k3 k4 k5 k6 k7 k8 k9 k10 k11 k12 b2 HB
    cases hb : stripeB x.n x.s s
    · have HR : Hid (2 = scode8 x ms ds s) := by unfold Hid; rw [HV2.out, if_neg (by simp [hb])]
      clear hb
      go_wp2
      go_ret
      exact ⟨ret_int HR.out, HB2.out⟩
    · have HR : Hid (0 = scode8 x ms ds s) := by unfold Hid; rw [HV2.out, if_pos hb]
      clear hb
      go_wp2
      go_ret
      exact ⟨ret_int HR.out, HB2.out⟩
  · have HR : Hid (q = scode8 x ms ds s) := by unfold Hid; rw [HV.out, if_neg hq]
    have e0 : (q != 0) = true := by simpa using hq
    clear hq HV
    go_wp2
    go_ret
    exact ⟨ret_int HR.out, HB.out⟩

set_option linter.unusedSimpArgs false in
set_option maxRecDepth 20000 in
set_option maxHeartbeats 3200000 in
theorem l8Code_any (w : World) (E F G : TypeId) (x : ArrN) (am ad : Option Addr) (nm cm nd cd : Nat) (ms : List MemD) (ds : List (Int × List Int)) (b : Int) (h0 : (tMemS E F).Rd w [.slice am nm cm] ms) (h1 : (tWrS G).Rd w [.slice ad nd cd] ds) (hw : wtArr ms ds ≤ 2097152) :
    Calls Tryz.prog 22 #[.agg #[.int .i64 x.id, .int .i64 x.n, .int .i64 x.s, .slice am nm cm, .int .i64 x.lost, .int .i64 x.built, .int .i64 x.seq, .int .i64 x.tail, .int .i64 x.gen, .slice ad nd cd, .int .i64 x.fuse, .bool x.down, .bool x.broken], .int .i64 b] w fun e w' => e = .returned (.int .i64 (code8 x ms ds b)) ∧ Below w.heap.size w w' := by
  have hA := new_below w (.cells #[.int .i64 x.id, .int .i64 x.n, .int .i64 x.s, .slice am nm cm, .int .i64 x.lost, .int .i64 x.built, .int .i64 x.seq, .int .i64 x.tail, .int .i64 x.gen, .slice ad nd cd, .int .i64 x.fuse, .bool x.down, .bool x.broken] 35)
  have X := Box.new w 35 #[.int .i64 x.id, .int .i64 x.n, .int .i64 x.s, .slice am nm cm, .int .i64 x.lost, .int .i64 x.built, .int .i64 x.seq, .int .i64 x.tail, .int .i64 x.gen, .slice ad nd cd, .int .i64 x.fuse, .bool x.down, .bool x.broken]
  have zX := X.lt
  obtain ⟨k0, k1, k2, k3, k4, k5, k6, k7, k8, k9, k10, k11, k12⟩ := X.cells13
  have r0 := h0.below hA
  have r1 := h1.below hA
  have HV : Hid (code8 x ms ds b = if ask8 x ms ds = 0 then (if blockB x.n x.s b = true then 0 else 2) else ask8 x ms ds) := rfl
  have HU : Hid (ask8 x ms ds = if arrB x ms ds = true then (if x.down = true then 6 else 0) else 1) := rfl
  go_enter Tryz.func22, Tryz.ntmps22
  go_wp2_with fail
  generalize w.alloc (.cells #[.int .i64 x.id, .int .i64 x.n, .int .i64 x.s, .slice am nm cm, .int .i64 x.lost, .int .i64 x.built, .int .i64 x.seq, .int .i64 x.tail, .int .i64 x.gen, .slice ad nd cd, .int .i64 x.fuse, .bool x.down, .bool x.broken] 35) = W at hA X zX r0 r1 k0 k1 k2 k3 k4 k5 k6 k7 k8 k9 k10 k11 k12 ⊢
  refine (specArrOk_any _ E F G x _ _ _ _ _ _ ms ds r0 r1 hw).mono ?_
  rintro e w1 ⟨rfl, b1⟩
  have X1 := X.below b1 zX
  have zX1 := X1.lt
  have HB := hidden (Below.andThen hA b1)
  clear k0 k1 k2 k3 k4 k5 k6 k7 k8 k9 k10 k11 k12 X r0 r1 b1 hA
  obtain ⟨k0, k1, k2, k3, k4, k5, k6, k7, k8, k9, k10, k11, k12⟩ := X1.cells13
  clear X1
  cases ha : arrB x ms ds
  · have HR : Hid (1 = code8 x ms ds b) := by unfold Hid; rw [HV.out, HU.out, if_neg (show ¬ arrB x ms ds = true by simp [ha])]; rfl
    clear ha
    go_wp2
    go_ret
    exact ⟨ret_int HR.out, HB.out⟩
  · cases hd : x.down
    · have hq0 : ask8 x ms ds = 0 := by rw [HU.out, if_pos ha, if_neg (by simp [hd])]
      have HV2 : Hid (code8 x ms ds b = if blockB x.n x.s b = true then 0 else 2) := by unfold Hid; rw [HV.out, if_pos hq0]
      clear hq0
      have hg := arr_geo ha
      have hbn : 1 ≤ blocksN x.n x.s ∧ blocksN x.n x.s ≤ 1000 := by
        obtain ⟨g1, g2, g3, g4⟩ := geoB_iff.1 hg
        unfold blocksN
        rw [if_pos hg]
        have h1 : 1 * 2 ≤ x.s * (x.n - 1) := Int.mul_le_mul g3 (by omega) (by omega) (by omega)
        have h2 : x.s * (x.n - 1) ≤ 8 * 4 := Int.mul_le_mul g4 (by omega) (by omega) (by omega)
        omega
      rw [hd] at k11
      have HBB : Hid (blockB x.n x.s b = inB b 0 (blocksN x.n x.s - 1)) := rfl
      clear ha hd HV HU hg
      go_wp2_with fail
      refine (specBlocks_any _ x.n x.s).mono ?_
      rintro e w2 ⟨rfl, b2⟩
      have HB2 := hidden (Below.andThen HB.out b2)
      clear k0 k1 k2 k3 k4 k5 k6 k7 k8 k9 k10 k11 k12 b2 HB
      generalize blocksN x.n x.s = bn at hbn HBB ⊢
      have gw : IntKind.i64.wrap (bn - 1) = bn - 1 := IntWalk.i64_in _ (by omega)
      go_wp2_with fail
      refine (l1In_any _ _ _ _).mono ?_
      rintro e w3 ⟨rfl, hw3⟩
      subst w3
      rw [← HBB.out]
      cases hb : blockB x.n x.s b
      · have HR : Hid (2 = code8 x ms ds b) := by unfold Hid; rw [HV2.out, if_neg (by simp [hb])]
        clear hb
        go_wp2
        go_ret
        exact ⟨ret_int HR.out, HB2.out⟩
      · have HR : Hid (0 = code8 x ms ds b) := by unfold Hid; rw [HV2.out, if_pos hb]
        clear hb
        go_wp2
        go_ret
        exact ⟨ret_int HR.out, HB2.out⟩
    · have HR : Hid (6 = code8 x ms ds b) := by unfold Hid; rw [HV.out, HU.out, if_pos ha, if_pos hd]; rfl
      rw [hd] at k11
      clear ha hd
      go_wp2
      go_ret
      exact ⟨ret_int HR.out, HB.out⟩

set_option linter.unusedSimpArgs false in
set_option maxRecDepth 20000 in
set_option maxHeartbeats 3200000 in
theorem dataNow_any (w : World) (E F G : TypeId) (x : ArrN) (am ad : Option Addr) (nm cm nd cd : Nat) (ms : List MemD) (ds : List (Int × List Int)) (s : Int) (h0 : (tMemS E F).Rd w [.slice am nm cm] ms) (h1 : (tWrS G).Rd w [.slice ad nd cd] ds) (hw : wtArr ms ds ≤ 2097152) (ha : arrB x ms ds = true) (hs : inB s 0 (x.s - 1) = true) :
    Calls Tryz.prog 31 #[.agg #[.int .i64 x.id, .int .i64 x.n, .int .i64 x.s, .slice am nm cm, .int .i64 x.lost, .int .i64 x.built, .int .i64 x.seq, .int .i64 x.tail, .int .i64 x.gen, .slice ad nd cd, .int .i64 x.fuse, .bool x.down, .bool x.broken], .int .i64 s] w fun e w' => ∃ a' l' c', e = .returned (.tuple #[.slice a' l' c', .bool (ok8 x ms ds s)]) ∧ tIntS.Own w' w.heap.size w'.heap.size [.slice a' l' c'] (dat8 x ms ds s) ∧ Below w.heap.size w w' := by
  have hwd : wtWrS ds ≤ 2097152 := by unfold wtArr at hw; omega
  obtain ⟨hl1, _, _⟩ := row_length h1
  have hnd : nd ≤ 2097152 := by unfold wtWrS at hwd; omega
  obtain ⟨_, _, _, g4⟩ := geoB_iff.1 (arr_geo ha)
  have hsr : 0 ≤ s ∧ s ≤ 100 := by have := inB_iff.1 hs; omega
  have HASC := hidden (arr_asc ha)
  have HE : Hid (at8 ds s = -1 → ok8 x ms ds s = wordsOk6 x ms ds s ∧ dat8 x ms ds s = dataL6 x ms ds s) := fun hat => by
    unfold ok8 dat8 wordsOk6 dataL6 okB6
    rw [if_pos hat, if_pos hat, ha, hs]
    cases x.broken <;> exact ⟨rfl, rfl⟩
  have HI : Hid (∀ (k : Nat) (ys : List Int), at8 ds s = (k : Int) → ds[k]? = some (s, ys) → ok8 x ms ds s = true ∧ dat8 x ms ds s = ys ∧ ys.length ≤ 2097152) := fun k ys hat hk => by
    have hil : ys.length ≤ wtWrS ds := inner_le' hk
    unfold ok8 dat8
    rw [if_neg (by omega), if_neg (by omega), hat, Int.toNat_natCast, List.getD_eq_getElem?_getD, hk]
    exact ⟨rfl, rfl, by show ys.length ≤ _; omega⟩
  have hA := new_below w (.cells #[.int .i64 x.id, .int .i64 x.n, .int .i64 x.s, .slice am nm cm, .int .i64 x.lost, .int .i64 x.built, .int .i64 x.seq, .int .i64 x.tail, .int .i64 x.gen, .slice ad nd cd, .int .i64 x.fuse, .bool x.down, .bool x.broken] 35)
  have X := Box.new w 35 #[.int .i64 x.id, .int .i64 x.n, .int .i64 x.s, .slice am nm cm, .int .i64 x.lost, .int .i64 x.built, .int .i64 x.seq, .int .i64 x.tail, .int .i64 x.gen, .slice ad nd cd, .int .i64 x.fuse, .bool x.down, .bool x.broken]
  have zX := X.lt
  obtain ⟨k0, k1, k2, k3, k4, k5, k6, k7, k8, k9, k10, k11, k12⟩ := X.cells13
  have r0 := h0.below hA
  have r1 := h1.below hA
  go_enter Tryz.func31, Tryz.ntmps31
  go_wp2_with fail
  generalize w.alloc (.cells #[.int .i64 x.id, .int .i64 x.n, .int .i64 x.s, .slice am nm cm, .int .i64 x.lost, .int .i64 x.built, .int .i64 x.seq, .int .i64 x.tail, .int .i64 x.gen, .slice ad nd cd, .int .i64 x.fuse, .bool x.down, .bool x.broken] 35) = W at hA X zX r0 r1 k0 k1 k2 k3 k4 k5 k6 k7 k8 k9 k10 k11 k12 ⊢
  refine (of_any _ G _ _ _ ds s r1 hnd HASC.out hsr _ (ents_so r1)).mono ?_
  rintro e w1 ⟨hcase, b1⟩
  have z1 := b1.size
  have B1 := Below.andThen hA b1
  rcases hcase with ⟨hat, rfl⟩ | ⟨k, ys, a1, c1, hat, hk, rfl, hq⟩
  · have HV := hidden (HE.out hat)
    have X1 := (X.below b1 zX).alloc (.cells #[.int .i64 0, .slice none 0 0] 65)
    have BN := new_below w1 (.cells #[.int .i64 0, .slice none 0 0] 65)
    have B2 := Below.andThen B1 BN
    have r0' := (r0.below b1).below BN
    have r1' := (r1.below b1).below BN
    clear k0 k1 k2 k3 k4 k5 k6 k7 k8 k9 k10 k11 k12 X r0 r1 b1 hA hat HE HI B1 BN
    obtain ⟨k0, k1, k2, k3, k4, k5, k6, k7, k8, k9, k10, k11, k12⟩ := X1.cells13
    clear X1
    go_wp2_with fail
    generalize w1.alloc (.cells #[.int .i64 0, .slice none 0 0] 65) = w2 at B2 r0' r1' k0 k1 k2 k3 k4 k5 k6 k7 k8 k9 k10 k11 k12 ⊢
    refine (implDataOf_any _ E F G x _ _ _ _ _ _ ms ds s r0' r1' hw).mono ?_
    rintro e w3 ⟨a3, l3, c3, rfl, o3, b3⟩
    have HB := hidden (Below.andThen B2 b3)
    have HO := hidden (o3.widen (lo' := w.heap.size) B2.size (Nat.le_refl _))
    clear k0 k1 k2 k3 k4 k5 k6 k7 k8 k9 k10 k11 k12 r0' r1' b3 o3 B2
    go_wp2
    go_ret2
    rw [HV.out.1, HV.out.2]
    exact ⟨a3, l3, c3, rfl, HO.out, HB.out⟩
  · have HV := hidden (HI.out k ys hat hk)
    have BN := new_below w1 (.cells #[.int .i64 s, .slice a1 ys.length c1] 65)
    have N1 := Box.new w1 65 #[.int .i64 s, .slice a1 ys.length c1]
    have n1 := N1.cell 1
    have B2 := Below.andThen B1 BN
    have q2 := (hq.below b1).below BN
    clear k0 k1 k2 k3 k4 k5 k6 k7 k8 k9 k10 k11 k12 X r0 r1 b1 hA hat hk HE HI B1 BN N1 hq
    go_wp2_with fail
    generalize w1.alloc (.cells #[.int .i64 s, .slice a1 ys.length c1] 65) = w2 at B2 q2 n1 ⊢
    refine (copyWords_any _ _ _ _ ys q2 HV.out.2.2).mono ?_
    rintro e w3 ⟨a3, c3, rfl, o3, b3⟩
    have HB := hidden (Below.andThen B2 b3)
    have HO := hidden (o3.widen (lo' := w.heap.size) B2.size (Nat.le_refl _))
    clear q2 n1 b3 o3 B2
    go_wp2
    go_ret2
    rw [HV.out.1, HV.out.2.1]
    exact ⟨a3, ys.length, c3, rfl, HO.out, HB.out⟩

end Go.Proofs.YtjmjianlcoleaaaGreat

/-
  GetBlock of both sides walked. Condition: the array weighs at most 2097152.
-/
namespace Go.Proofs.YtjmjianlcoleaaaGreat
open Go.RowKit

set_option linter.unusedSimpArgs false in
set_option maxRecDepth 20000 in
set_option maxHeartbeats 3200000 in
theorem specGetBlock_any (w : World) (E F G : TypeId) (x : ArrN) (am ad : Option Addr) (nm cm nd cd : Nat) (ms : List MemD) (ds : List (Int × List Int)) (b : Int) (h0 : (tMemS E F).Rd w [.slice am nm cm] ms) (h1 : (tWrS G).Rd w [.slice ad nd cd] ds) (hw : wtArr ms ds ≤ 2097152) :
    Calls Tryz.prog 8 #[.agg #[.int .i64 x.id, .int .i64 x.n, .int .i64 x.s, .slice am nm cm, .int .i64 x.lost, .int .i64 x.built, .int .i64 x.seq, .int .i64 x.tail, .int .i64 x.gen, .slice ad nd cd, .int .i64 x.fuse, .bool x.down, .bool x.broken], .int .i64 b] w fun e w' => e = .returned (.tuple #[.int .i64 (get8 x ms ds b), .int .i64 (get8C x ms ds b)]) ∧ Below w.heap.size w w' := by
  have hA := new_below w (.cells #[.int .i64 x.id, .int .i64 x.n, .int .i64 x.s, .slice am nm cm, .int .i64 x.lost, .int .i64 x.built, .int .i64 x.seq, .int .i64 x.tail, .int .i64 x.gen, .slice ad nd cd, .int .i64 x.fuse, .bool x.down, .bool x.broken] 35)
  have X := Box.new w 35 #[.int .i64 x.id, .int .i64 x.n, .int .i64 x.s, .slice am nm cm, .int .i64 x.lost, .int .i64 x.built, .int .i64 x.seq, .int .i64 x.tail, .int .i64 x.gen, .slice ad nd cd, .int .i64 x.fuse, .bool x.down, .bool x.broken]
  have zX := X.lt
  obtain ⟨k0, k1, k2, k3, k4, k5, k6, k7, k8, k9, k10, k11, k12⟩ := X.cells13
  have r0 := h0.below hA
  have r1 := h1.below hA
  have HC : Hid (get8C x ms ds b = if code8 x ms ds b = 0 then (if ok8 x ms ds (stripeN x.n x.s b) = true then 0 else 5) else code8 x ms ds b) := rfl
  have HV : Hid (get8 x ms ds b = if code8 x ms ds b = 0 ∧ ok8 x ms ds (stripeN x.n x.s b) = true then (dat8 x ms ds (stripeN x.n x.s b)).getD (indexN x.n x.s b).toNat 0 else 0) := rfl
  go_enter Tryz.func8, Tryz.ntmps8
  go_wp2_with fail
  generalize w.alloc (.cells #[.int .i64 x.id, .int .i64 x.n, .int .i64 x.s, .slice am nm cm, .int .i64 x.lost, .int .i64 x.built, .int .i64 x.seq, .int .i64 x.tail, .int .i64 x.gen, .slice ad nd cd, .int .i64 x.fuse, .bool x.down, .bool x.broken] 35) = W at hA X zX r0 r1 k0 k1 k2 k3 k4 k5 k6 k7 k8 k9 k10 k11 k12 ⊢
  refine (l8Code_any _ E F G x _ _ _ _ _ _ ms ds b r0 r1 hw).mono ?_
  rintro e w1 ⟨rfl, b1⟩
  have X1 := X.below b1 zX
  have zX1 := X1.lt
  have p0 := r0.below b1
  have p1 := r1.below b1
  have HB1 := hidden (Below.andThen hA b1)
  clear k0 k1 k2 k3 k4 k5 k6 k7 k8 k9 k10 k11 k12 X r0 r1 b1 hA
  obtain ⟨k0, k1, k2, k3, k4, k5, k6, k7, k8, k9, k10, k11, k12⟩ := X1.cells13
  by_cases hc : code8 x ms ds b = 0
  · skip
    have HX0 := hidden (code_gb hc)
    have HC2 : Hid (get8C x ms ds b = if ok8 x ms ds (stripeN x.n x.s b) = true then 0 else 5) := by unfold Hid; rw [HC.out, if_pos hc]
    have HV2 : Hid (get8 x ms ds b = if ok8 x ms ds (stripeN x.n x.s b) = true then (dat8 x ms ds (stripeN x.n x.s b)).getD (indexN x.n x.s b).toNat 0 else 0) := by
      unfold Hid
      rw [HV.out]
      by_cases hk : ok8 x ms ds (stripeN x.n x.s b) = true
      · rw [if_pos ⟨hc, hk⟩, if_pos hk]
      · rw [if_neg (fun h => hk h.2), if_neg hk]
    obtain ⟨s1, s2, i1, i2⟩ := block_in (arr_geo HX0.out.2.1) HX0.out.2.2.2
    have ht : inB (stripeN x.n x.s b) 0 (x.s - 1) = true := inB_iff.2 ⟨s1, s2⟩
    have hg := arr_geo HX0.out.2.1
    have HDL := hidden (fun hk => dat8_len (s := stripeN x.n x.s b) HX0.out.2.1 hk)
    rw [hc]
    clear hc HC HV HX0
    have hS : w1.drew.cell? ⟨w.heap.size, 0, none⟩ = some (.int .i64 x.id) ∧ w1.drew.cell? ⟨w.heap.size, 1, none⟩ = some (.int .i64 x.n) ∧ w1.drew.cell? ⟨w.heap.size, 2, none⟩ = some (.int .i64 x.s) ∧ w1.drew.cell? ⟨w.heap.size, 3, none⟩ = some (.slice am nm cm) ∧ w1.drew.cell? ⟨w.heap.size, 4, none⟩ = some (.int .i64 x.lost) ∧ w1.drew.cell? ⟨w.heap.size, 5, none⟩ = some (.int .i64 x.built) ∧ w1.drew.cell? ⟨w.heap.size, 6, none⟩ = some (.int .i64 x.seq) ∧ w1.drew.cell? ⟨w.heap.size, 7, none⟩ = some (.int .i64 x.tail) ∧ w1.drew.cell? ⟨w.heap.size, 8, none⟩ = some (.int .i64 x.gen) ∧ w1.drew.cell? ⟨w.heap.size, 9, none⟩ = some (.slice ad nd cd) ∧ w1.drew.cell? ⟨w.heap.size, 10, none⟩ = some (.int .i64 x.fuse) ∧ w1.drew.cell? ⟨w.heap.size, 11, none⟩ = some (.bool x.down) ∧ w1.drew.cell? ⟨w.heap.size, 12, none⟩ = some (.bool x.broken) := ⟨k0, k1, k2, k3, k4, k5, k6, k7, k8, k9, k10, k11, k12⟩
    go_wp2_with fail
    refine wp_region_held_drew (S := fun w' => w'.cell? ⟨w.heap.size, 0, none⟩ = some (.int .i64 x.id) ∧ w'.cell? ⟨w.heap.size, 1, none⟩ = some (.int .i64 x.n) ∧ w'.cell? ⟨w.heap.size, 2, none⟩ = some (.int .i64 x.s) ∧ w'.cell? ⟨w.heap.size, 3, none⟩ = some (.slice am nm cm) ∧ w'.cell? ⟨w.heap.size, 4, none⟩ = some (.int .i64 x.lost) ∧ w'.cell? ⟨w.heap.size, 5, none⟩ = some (.int .i64 x.built) ∧ w'.cell? ⟨w.heap.size, 6, none⟩ = some (.int .i64 x.seq) ∧ w'.cell? ⟨w.heap.size, 7, none⟩ = some (.int .i64 x.tail) ∧ w'.cell? ⟨w.heap.size, 8, none⟩ = some (.int .i64 x.gen) ∧ w'.cell? ⟨w.heap.size, 9, none⟩ = some (.slice ad nd cd) ∧ w'.cell? ⟨w.heap.size, 10, none⟩ = some (.int .i64 x.fuse) ∧ w'.cell? ⟨w.heap.size, 11, none⟩ = some (.bool x.down) ∧ w'.cell? ⟨w.heap.size, 12, none⟩ = some (.bool x.broken)) (by kernel_rfl) ?_ (fun hHeld => ?_)
    · exact hS
    refine held_t 0 hHeld ?_
    refine held_t 1 hHeld ?_
    refine held_t 2 hHeld ?_
    refine held_t 3 hHeld ?_
    refine held_one (i := 4) (by kernel_rfl) rfl (by kernel_rfl) (fun K hK => ?_)
    go_simp
    refine (specStripeOf_any _ x.n x.s b).mono ?_
    rintro e w2 ⟨rfl, b2⟩
    have b2' : Below w1.heap.size w1 w2 := (Below.refl w1.heap.size w1).drew.trans b2
    go_wp2_with fail
    clear hHeld
    refine hK.out _ _ ?_ (fun hHeld => ?_)
    · exact ⟨(b2'.cell (p := ⟨w.heap.size, 0, none⟩) zX1).trans k0, (b2'.cell (p := ⟨w.heap.size, 1, none⟩) zX1).trans k1, (b2'.cell (p := ⟨w.heap.size, 2, none⟩) zX1).trans k2, (b2'.cell (p := ⟨w.heap.size, 3, none⟩) zX1).trans k3, (b2'.cell (p := ⟨w.heap.size, 4, none⟩) zX1).trans k4, (b2'.cell (p := ⟨w.heap.size, 5, none⟩) zX1).trans k5, (b2'.cell (p := ⟨w.heap.size, 6, none⟩) zX1).trans k6, (b2'.cell (p := ⟨w.heap.size, 7, none⟩) zX1).trans k7, (b2'.cell (p := ⟨w.heap.size, 8, none⟩) zX1).trans k8, (b2'.cell (p := ⟨w.heap.size, 9, none⟩) zX1).trans k9, (b2'.cell (p := ⟨w.heap.size, 10, none⟩) zX1).trans k10, (b2'.cell (p := ⟨w.heap.size, 11, none⟩) zX1).trans k11, (b2'.cell (p := ⟨w.heap.size, 12, none⟩) zX1).trans k12⟩
    clear hK K
    refine held_one (i := 5) (by kernel_rfl) rfl (by kernel_rfl) (fun K hK => ?_)
    go_simp
    refine (l8Stripe_any _ E F G x _ _ _ _ _ _ ms ds (stripeN x.n x.s b) (p0.below b2') (p1.below b2') hw hg ht).mono ?_
    rintro e w4 ⟨a4, l4, c4, rfl, o4, b4⟩
    have b4' : Below w1.heap.size w1 w4 := Below.andThen b2' b4
    go_wp2_with fail
    clear hHeld
    refine hK.out _ _ ?_ (fun hHeld => ?_)
    · exact ⟨(b4'.cell (p := ⟨w.heap.size, 0, none⟩) zX1).trans k0, (b4'.cell (p := ⟨w.heap.size, 1, none⟩) zX1).trans k1, (b4'.cell (p := ⟨w.heap.size, 2, none⟩) zX1).trans k2, (b4'.cell (p := ⟨w.heap.size, 3, none⟩) zX1).trans k3, (b4'.cell (p := ⟨w.heap.size, 4, none⟩) zX1).trans k4, (b4'.cell (p := ⟨w.heap.size, 5, none⟩) zX1).trans k5, (b4'.cell (p := ⟨w.heap.size, 6, none⟩) zX1).trans k6, (b4'.cell (p := ⟨w.heap.size, 7, none⟩) zX1).trans k7, (b4'.cell (p := ⟨w.heap.size, 8, none⟩) zX1).trans k8, (b4'.cell (p := ⟨w.heap.size, 9, none⟩) zX1).trans k9, (b4'.cell (p := ⟨w.heap.size, 10, none⟩) zX1).trans k10, (b4'.cell (p := ⟨w.heap.size, 11, none⟩) zX1).trans k11, (b4'.cell (p := ⟨w.heap.size, 12, none⟩) zX1).trans k12⟩
    clear hK K
    refine held_t 6 hHeld ?_
    refine held_t 7 hHeld ?_
    refine held_t 8 hHeld ?_
    refine held_t 9 hHeld ?_
    refine held_t 10 hHeld ?_
    refine wpAnyH_done (by kernel_rfl) ?_ _
    clear hHeld hS
    have BX := Below.andThen HB1.out b4'
    have X4 := X1.below b4' zX1
    have z4 := b4'.size
    clear k0 k1 k2 k3 k4 k5 k6 k7 k8 k9 k10 k11 k12 X1 p0 p1 HB1 b2 b2' b4 b4' hg ht
    generalize stripeN x.n x.s b = s at s1 s2 HC2 HV2 HDL o4 ⊢
    cases hok : ok8 x ms ds s
    · have HR : Hid (get8C x ms ds b = 5 ∧ get8 x ms ds b = 0) := by unfold Hid; rw [HC2.out, HV2.out, hok]; exact ⟨rfl, rfl⟩
      have HBX := hidden BX
      clear hok BX o4 HDL
      go_wp2
      go_ret2
      rw [HR.out.1, HR.out.2]
      exact ⟨rfl, HBX.out⟩
    · have HR : Hid (get8C x ms ds b = 0 ∧ get8 x ms ds b = (dat8 x ms ds s).getD (indexN x.n x.s b).toNat 0) := by unfold Hid; rw [HC2.out, HV2.out, hok]; exact ⟨rfl, rfl⟩
      have hlen := HDL.out hok
      clear hok HDL HC2 HV2
      obtain ⟨k0, k1, k2, k3, k4, k5, k6, k7, k8, k9, k10, k11, k12⟩ := X4.cells13
      go_wp2_with fail
      refine (specIndexOf_any _ x.n x.s b).mono ?_
      rintro e w5 ⟨rfl, b5⟩
      have o5 := o4.rd.below b5
      have HBX := hidden (Below.andThen BX b5)
      clear k0 k1 k2 k3 k4 k5 k6 k7 k8 k9 k10 k11 k12 b5 BX o4 X4
      generalize indexN x.n x.s b = ix at i1 i2 HR ⊢
      obtain ⟨i, rfl⟩ := Int.eq_ofNat_of_zero_le i1
      rw [Int.toNat_natCast] at HR
      generalize dat8 x ms ds s = zs at o5 hlen HR ⊢
      obtain ⟨hr5, hl5, _, _⟩ := ints_rd o5
      rcases hr5.cases with h0' | ⟨bb, off, rfl, hbl, hcz⟩
      · omega
      have hci := hcz i (by omega)
      have i3 : (i : Int) < (l4 : Int) := by omega
      generalize zs.getD i 0 = v at hci HR
      clear hcz hr5 o5
      go_wp2
      go_ret2
      rw [HR.out.1, HR.out.2]
      exact ⟨rfl, HBX.out⟩
  · have HR : Hid (get8C x ms ds b = code8 x ms ds b ∧ get8 x ms ds b = 0) := by unfold Hid; rw [HC.out, HV.out, if_neg hc, if_neg (fun h => hc h.1)]; exact ⟨rfl, rfl⟩
    skip
    have e0 : (code8 x ms ds b != 0) = true := by simpa using hc
    clear hc
    generalize code8 x ms ds b = q at e0 HR ⊢
    go_wp2
    go_ret2
    rw [HR.out.1, HR.out.2]
    exact ⟨rfl, HB1.out⟩

set_option linter.unusedSimpArgs false in
set_option maxRecDepth 20000 in
set_option maxHeartbeats 3200000 in
theorem implGetBlock_any (w : World) (E F G : TypeId) (x : ArrN) (am ad : Option Addr) (nm cm nd cd : Nat) (ms : List MemD) (ds : List (Int × List Int)) (b : Int) (h0 : (tMemS E F).Rd w [.slice am nm cm] ms) (h1 : (tWrS G).Rd w [.slice ad nd cd] ds) (hw : wtArr ms ds ≤ 2097152) :
    Calls Tryz.prog 10 #[.agg #[.int .i64 x.id, .int .i64 x.n, .int .i64 x.s, .slice am nm cm, .int .i64 x.lost, .int .i64 x.built, .int .i64 x.seq, .int .i64 x.tail, .int .i64 x.gen, .slice ad nd cd, .int .i64 x.fuse, .bool x.down, .bool x.broken], .int .i64 b] w fun e w' => e = .returned (.tuple #[.int .i64 (get8 x ms ds b), .int .i64 (get8C x ms ds b)]) ∧ Below w.heap.size w w' := by
  have hA := new_below w (.cells #[.int .i64 x.id, .int .i64 x.n, .int .i64 x.s, .slice am nm cm, .int .i64 x.lost, .int .i64 x.built, .int .i64 x.seq, .int .i64 x.tail, .int .i64 x.gen, .slice ad nd cd, .int .i64 x.fuse, .bool x.down, .bool x.broken] 35)
  have X := Box.new w 35 #[.int .i64 x.id, .int .i64 x.n, .int .i64 x.s, .slice am nm cm, .int .i64 x.lost, .int .i64 x.built, .int .i64 x.seq, .int .i64 x.tail, .int .i64 x.gen, .slice ad nd cd, .int .i64 x.fuse, .bool x.down, .bool x.broken]
  have zX := X.lt
  obtain ⟨k0, k1, k2, k3, k4, k5, k6, k7, k8, k9, k10, k11, k12⟩ := X.cells13
  have r0 := h0.below hA
  have r1 := h1.below hA
  have HC : Hid (get8C x ms ds b = if code8 x ms ds b = 0 then (if ok8 x ms ds (stripeN x.n x.s b) = true then 0 else 5) else code8 x ms ds b) := rfl
  have HV : Hid (get8 x ms ds b = if code8 x ms ds b = 0 ∧ ok8 x ms ds (stripeN x.n x.s b) = true then (dat8 x ms ds (stripeN x.n x.s b)).getD (indexN x.n x.s b).toNat 0 else 0) := rfl
  go_enter Tryz.func10, Tryz.ntmps10
  go_wp2_with fail
  generalize w.alloc (.cells #[.int .i64 x.id, .int .i64 x.n, .int .i64 x.s, .slice am nm cm, .int .i64 x.lost, .int .i64 x.built, .int .i64 x.seq, .int .i64 x.tail, .int .i64 x.gen, .slice ad nd cd, .int .i64 x.fuse, .bool x.down, .bool x.broken] 35) = W at hA X zX r0 r1 k0 k1 k2 k3 k4 k5 k6 k7 k8 k9 k10 k11 k12 ⊢
  refine (implStripeOf_any _ x.n x.s b).mono ?_
  rintro e wa ⟨rfl, ba⟩
  have Xa := X.below ba zX
  have zXa := Xa.lt
  have q0 := r0.below ba
  have q1 := r1.below ba
  have HBa := hidden (Below.andThen hA ba)
  clear k0 k1 k2 k3 k4 k5 k6 k7 k8 k9 k10 k11 k12 X r0 r1 ba hA
  obtain ⟨k0, k1, k2, k3, k4, k5, k6, k7, k8, k9, k10, k11, k12⟩ := Xa.cells13
  go_wp2_with fail
  refine (stripeCode_any _ E F G x _ _ _ _ _ _ ms ds (stripeN x.n x.s b) q0 q1 hw).mono ?_
  rintro e w1 ⟨rfl, b1⟩
  rw [code_same b]
  have X1 := Xa.below b1 zXa
  have zX1 := X1.lt
  have p0 := q0.below b1
  have p1 := q1.below b1
  have HB1 := hidden (Below.andThen HBa.out b1)
  clear k0 k1 k2 k3 k4 k5 k6 k7 k8 k9 k10 k11 k12 Xa q0 q1 b1 HBa
  obtain ⟨k0, k1, k2, k3, k4, k5, k6, k7, k8, k9, k10, k11, k12⟩ := X1.cells13
  by_cases hc : code8 x ms ds b = 0
  · skip
    have HX0 := hidden (code_gb hc)
    have HC2 : Hid (get8C x ms ds b = if ok8 x ms ds (stripeN x.n x.s b) = true then 0 else 5) := by unfold Hid; rw [HC.out, if_pos hc]
    have HV2 : Hid (get8 x ms ds b = if ok8 x ms ds (stripeN x.n x.s b) = true then (dat8 x ms ds (stripeN x.n x.s b)).getD (indexN x.n x.s b).toNat 0 else 0) := by
      unfold Hid
      rw [HV.out]
      by_cases hk : ok8 x ms ds (stripeN x.n x.s b) = true
      · rw [if_pos ⟨hc, hk⟩, if_pos hk]
      · rw [if_neg (fun h => hk h.2), if_neg hk]
    obtain ⟨s1, s2, i1, i2⟩ := block_in (arr_geo HX0.out.2.1) HX0.out.2.2.2
    have ht : inB (stripeN x.n x.s b) 0 (x.s - 1) = true := inB_iff.2 ⟨s1, s2⟩
    have hg := arr_geo HX0.out.2.1
    have HDL := hidden (fun hk => dat8_len (s := stripeN x.n x.s b) HX0.out.2.1 hk)
    rw [hc]
    clear hc HC HV
    generalize hS : stripeN x.n x.s b = s at s1 s2 HC2 HV2 HDL ht ⊢
    clear hS
    go_wp2_with fail
    refine (dataNow_any _ E F G x _ _ _ _ _ _ ms ds s p0 p1 hw HX0.out.2.1 ht).mono ?_
    rintro e w4 ⟨a4, l4, c4, rfl, o4, b4⟩
    have BX := Below.andThen HB1.out b4
    have X4 := X1.below b4 zX1
    have z4 := b4.size
    clear k0 k1 k2 k3 k4 k5 k6 k7 k8 k9 k10 k11 k12 X1 p0 p1 HB1 b4 hg ht HX0
    cases hok : ok8 x ms ds s
    · have HR : Hid (get8C x ms ds b = 5 ∧ get8 x ms ds b = 0) := by unfold Hid; rw [HC2.out, HV2.out, hok]; exact ⟨rfl, rfl⟩
      have HBX := hidden BX
      clear hok BX o4 HDL
      go_wp2
      go_ret2
      rw [HR.out.1, HR.out.2]
      exact ⟨rfl, HBX.out⟩
    · have HR : Hid (get8C x ms ds b = 0 ∧ get8 x ms ds b = (dat8 x ms ds s).getD (indexN x.n x.s b).toNat 0) := by unfold Hid; rw [HC2.out, HV2.out, hok]; exact ⟨rfl, rfl⟩
      have hlen := HDL.out hok
      clear hok HDL HC2 HV2
      obtain ⟨k0, k1, k2, k3, k4, k5, k6, k7, k8, k9, k10, k11, k12⟩ := X4.cells13
      go_wp2_with fail
      refine (implIndexOf_any _ x.n x.s b).mono ?_
      rintro e w5 ⟨rfl, b5⟩
      have o5 := o4.rd.below b5
      have HBX := hidden (Below.andThen BX b5)
      clear k0 k1 k2 k3 k4 k5 k6 k7 k8 k9 k10 k11 k12 b5 BX o4 X4
      generalize indexN x.n x.s b = ix at i1 i2 HR ⊢
      obtain ⟨i, rfl⟩ := Int.eq_ofNat_of_zero_le i1
      rw [Int.toNat_natCast] at HR
      generalize dat8 x ms ds s = zs at o5 hlen HR ⊢
      obtain ⟨hr5, hl5, _, _⟩ := ints_rd o5
      rcases hr5.cases with h0' | ⟨bb, off, rfl, hbl, hcz⟩
      · omega
      have hci := hcz i (by omega)
      have i3 : (i : Int) < (l4 : Int) := by omega
      generalize zs.getD i 0 = v at hci HR
      clear hcz hr5 o5
      go_wp2
      go_ret2
      rw [HR.out.1, HR.out.2]
      exact ⟨rfl, HBX.out⟩
  · have HR : Hid (get8C x ms ds b = code8 x ms ds b ∧ get8 x ms ds b = 0) := by unfold Hid; rw [HC.out, HV.out, if_neg hc, if_neg (fun h => hc h.1)]; exact ⟨rfl, rfl⟩
    skip
    have e0 : (code8 x ms ds b != 0) = true := by simpa using hc
    clear hc
    generalize code8 x ms ds b = q at e0 HR ⊢
    go_wp2
    go_ret2
    rw [HR.out.1, HR.out.2]
    exact ⟨rfl, HB1.out⟩

end Go.Proofs.YtjmjianlcoleaaaGreat

/-
  The walk of the exact law of GetBlock: at every array it answers true, and nothing that was there has turned. No condition.
-/
namespace Go.Proofs.YtjmjianlcoleaaaGreat
open Go.RowKit

set_option linter.unusedSimpArgs false in
set_option maxRecDepth 20000 in
set_option maxHeartbeats 4000000 in
theorem fnExactGetBlock_walk (x : ArrN) (am ad : Option Addr) (nm cm nd cd : Nat) (ms : List MemD) (ds : List (Int × List Int)) (b : Int) (w : World) (h0 : (tMemS 141 80).Rd w [.slice am nm cm] ms) (h1 : (tWrS 82).Rd w [.slice ad nd cd] ds) :
    Calls Tryz.prog 3 #[.agg #[.int .i64 x.id, .int .i64 x.n, .int .i64 x.s, .slice am nm cm, .int .i64 x.lost, .int .i64 x.built, .int .i64 x.seq, .int .i64 x.tail, .int .i64 x.gen, .slice ad nd cd, .int .i64 x.fuse, .bool x.down, .bool x.broken], .int .i64 b] w fun e w' => e = .returned (.bool true) ∧ Below w.heap.size w w' := by
  have hA := new_below w (.cells #[.int .i64 x.id, .int .i64 x.n, .int .i64 x.s, .slice am nm cm, .int .i64 x.lost, .int .i64 x.built, .int .i64 x.seq, .int .i64 x.tail, .int .i64 x.gen, .slice ad nd cd, .int .i64 x.fuse, .bool x.down, .bool x.broken] 27)
  have xm := Box.new w 27 #[.int .i64 x.id, .int .i64 x.n, .int .i64 x.s, .slice am nm cm, .int .i64 x.lost, .int .i64 x.built, .int .i64 x.seq, .int .i64 x.tail, .int .i64 x.gen, .slice ad nd cd, .int .i64 x.fuse, .bool x.down, .bool x.broken]
  have z0 := xm.lt
  have B0 := hidden hA
  have BR0 := hidden xm
  obtain ⟨l0, l1, l2, l3, l4, l5, l6, l7, l8, l9, l10, l11, l12⟩ := xm.cells13
  go_enter Tryz.func3, Tryz.ntmps3
  go_wp2_with fail
  generalize w.alloc (.cells #[.int .i64 x.id, .int .i64 x.n, .int .i64 x.s, .slice am nm cm, .int .i64 x.lost, .int .i64 x.built, .int .i64 x.seq, .int .i64 x.tail, .int .i64 x.gen, .slice ad nd cd, .int .i64 x.fuse, .bool x.down, .bool x.broken] 27) = w0 at hA xm z0 B0 BR0 l0 l1 l2 l3 l4 l5 l6 l7 l8 l9 l10 l11 l12 ⊢
  clear hA xm
  refine (szArr_any _ 141 80 82 x _ _ _ _ _ _ ms ds _ (h0.below B0.out) (h1.below B0.out) (by omega) (by omega)).mono ?_
  rintro e w1 ⟨rfl, hb1⟩
  clear l0 l1 l2 l3 l4 l5 l6 l7 l8 l9 l10 l11 l12
  have B1 := hidden (Below.andThen B0.out hb1)
  have BR1 := hidden (BR0.out.below hb1 (by omega))
  have z1 := hb1.size
  clear B0 BR0 hb1
  by_cases hwt : (wtArr ms ds : Int) ≤ 1048576
  · have hq := leftOf_pos hwt
    have hwt' : wtArr ms ds ≤ 1048576 := by omega
    have hwt2 : wtArr ms ds ≤ 2097152 := by omega
    obtain ⟨gv, hgv⟩ : ∃ gv, get8 x ms ds b = gv := ⟨_, rfl⟩
    obtain ⟨gc, hgc⟩ : ∃ gc, get8C x ms ds b = gc := ⟨_, rfl⟩
    have HGV := hidden hgv
    have HGC := hidden hgc
    clear hgv hgc
    have hv : (gv != gv) = false := by simp
    have hv' : (gc != gc) = false := by simp
    obtain ⟨l0, l1, l2, l3, l4, l5, l6, l7, l8, l9, l10, l11, l12⟩ := BR1.out.cells13
    go_wp2_with fail
    refine (toArr_any _ 141 80 82 x _ _ _ _ _ _ ms ds (h0.below B1.out) (h1.below B1.out) hwt').mono ?_
    rintro e w2 ⟨bm2, bd2, rfl, om2, od2, ya2, yb2, hb2⟩
    clear l0 l1 l2 l3 l4 l5 l6 l7 l8 l9 l10 l11 l12
    have B2 := hidden (Below.andThen B1.out hb2)
    have BR2 := hidden (BR1.out.below hb2 (by omega))
    have z2 := hb2.size
    clear B1 BR1 hb2
    have Cm2 := hidden om2
    clear om2
    have Cd2 := hidden od2
    clear od2
    go_wp2_with fail
    refine (specGetBlock_any _ 123 87 65 x _ _ _ _ _ _ ms ds b Cm2.out.rd Cd2.out.rd hwt2).mono ?_
    rintro e w3 ⟨rfl, hb3⟩
    rw [HGV.out, HGC.out]
    clear Cm2
    clear Cd2
    have B3 := hidden (Below.andThen B2.out hb3)
    have BR3 := hidden (BR2.out.below hb3 (by omega))
    have z3 := hb3.size
    clear B2 BR2 hb3
    obtain ⟨l0, l1, l2, l3, l4, l5, l6, l7, l8, l9, l10, l11, l12⟩ := BR3.out.cells13
    go_wp2_with fail
    refine (toArr_any _ 141 80 82 x _ _ _ _ _ _ ms ds (h0.below B3.out) (h1.below B3.out) hwt').mono ?_
    rintro e w4 ⟨bm4, bd4, rfl, om4, od4, ya4, yb4, hb4⟩
    clear l0 l1 l2 l3 l4 l5 l6 l7 l8 l9 l10 l11 l12
    have B4 := hidden (Below.andThen B3.out hb4)
    have BR4 := hidden (BR3.out.below hb4 (by omega))
    have z4 := hb4.size
    clear B3 BR3 hb4
    have Dm4 := hidden om4
    clear om4
    have Dd4 := hidden od4
    clear od4
    have ba : Below w4.heap.size w4 (w4.alloc (.cells #[.int .i64 x.id, .int .i64 x.n, .int .i64 x.s, .slice (some ⟨bm4, 0, none⟩) nm nm, .int .i64 x.lost, .int .i64 x.built, .int .i64 x.seq, .int .i64 x.tail, .int .i64 x.gen, .slice (some ⟨bd4, 0, none⟩) nd nd, .int .i64 x.fuse, .bool x.down, .bool x.broken] 35)) := (Below.refl _ _).alloc (Nat.le_refl _) _
    have xb := Box.new w4 35 #[.int .i64 x.id, .int .i64 x.n, .int .i64 x.s, .slice (some ⟨bm4, 0, none⟩) nm nm, .int .i64 x.lost, .int .i64 x.built, .int .i64 x.seq, .int .i64 x.tail, .int .i64 x.gen, .slice (some ⟨bd4, 0, none⟩) nd nd, .int .i64 x.fuse, .bool x.down, .bool x.broken]
    have zx := xb.lt
    have B5 := hidden (Below.andThen B4.out ba)
    have BR5 := hidden (BR4.out.below ba (by omega))
    have Dm5 := hidden (Dm4.out.below ba)
    have Dd5 := hidden (Dd4.out.below ba)
    have z5 := ba.size
    clear B4 BR4 Dm4 Dd4 ba
    have BX5 := hidden xb
    clear xb
    obtain ⟨q0, q1, q2, q3, q4, q5, q6, q7, q8, q9, q10, q11, q12⟩ := BX5.out.cells13
    go_wp2_with fail
    generalize w4.alloc (.cells #[.int .i64 x.id, .int .i64 x.n, .int .i64 x.s, .slice (some ⟨bm4, 0, none⟩) nm nm, .int .i64 x.lost, .int .i64 x.built, .int .i64 x.seq, .int .i64 x.tail, .int .i64 x.gen, .slice (some ⟨bd4, 0, none⟩) nd nd, .int .i64 x.fuse, .bool x.down, .bool x.broken] 35) = w5 at B5 BR5 Dm5 Dd5 BX5 z5 zx q0 q1 q2 q3 q4 q5 q6 q7 q8 q9 q10 q11 q12 ⊢
    refine (implGetBlock_any _ 123 87 65 x _ _ _ _ _ _ ms ds b Dm5.out.rd Dd5.out.rd hwt2).mono ?_
    rintro e w6 ⟨rfl, hb6⟩
    rw [HGV.out, HGC.out]
    clear q0 q1 q2 q3 q4 q5 q6 q7 q8 q9 q10 q11 q12
    have B6 := hidden (Below.andThen B5.out hb6)
    have BR6 := hidden (BR5.out.below hb6 (by omega))
    have Dm6 := hidden (Dm5.out.below hb6)
    have Dd6 := hidden (Dd5.out.below hb6)
    have BX6 := hidden (BX5.out.below hb6 (by omega))
    have z6 := hb6.size
    clear B5 BR5 Dm5 Dd5 BX5 hb6
    obtain ⟨y0, y1, y2, y3, y4, y5, y6, y7, y8, y9, y10, y11, y12⟩ := BX6.out.cells13
    obtain ⟨l0, l1, l2, l3, l4, l5, l6, l7, l8, l9, l10, l11, l12⟩ := BR6.out.cells13
    have zl := BR6.out.lt
    have zy := BX6.out.lt
    go_wp2_with fail
    refine wp_region_held_drew (S := fun w' => w'.cell? ⟨w4.heap.size, 0, none⟩ = some (.int .i64 x.id) ∧ w'.cell? ⟨w4.heap.size, 1, none⟩ = some (.int .i64 x.n) ∧ w'.cell? ⟨w4.heap.size, 2, none⟩ = some (.int .i64 x.s) ∧ w'.cell? ⟨w4.heap.size, 3, none⟩ = some (.slice (some ⟨bm4, 0, none⟩) nm nm) ∧ w'.cell? ⟨w4.heap.size, 4, none⟩ = some (.int .i64 x.lost) ∧ w'.cell? ⟨w4.heap.size, 5, none⟩ = some (.int .i64 x.built) ∧ w'.cell? ⟨w4.heap.size, 6, none⟩ = some (.int .i64 x.seq) ∧ w'.cell? ⟨w4.heap.size, 7, none⟩ = some (.int .i64 x.tail) ∧ w'.cell? ⟨w4.heap.size, 8, none⟩ = some (.int .i64 x.gen) ∧ w'.cell? ⟨w4.heap.size, 9, none⟩ = some (.slice (some ⟨bd4, 0, none⟩) nd nd) ∧ w'.cell? ⟨w4.heap.size, 10, none⟩ = some (.int .i64 x.fuse) ∧ w'.cell? ⟨w4.heap.size, 11, none⟩ = some (.bool x.down) ∧ w'.cell? ⟨w4.heap.size, 12, none⟩ = some (.bool x.broken) ∧ w'.cell? ⟨w.heap.size, 0, none⟩ = some (.int .i64 x.id) ∧ w'.cell? ⟨w.heap.size, 1, none⟩ = some (.int .i64 x.n) ∧ w'.cell? ⟨w.heap.size, 2, none⟩ = some (.int .i64 x.s) ∧ w'.cell? ⟨w.heap.size, 3, none⟩ = some (.slice am nm cm) ∧ w'.cell? ⟨w.heap.size, 4, none⟩ = some (.int .i64 x.lost) ∧ w'.cell? ⟨w.heap.size, 5, none⟩ = some (.int .i64 x.built) ∧ w'.cell? ⟨w.heap.size, 6, none⟩ = some (.int .i64 x.seq) ∧ w'.cell? ⟨w.heap.size, 7, none⟩ = some (.int .i64 x.tail) ∧ w'.cell? ⟨w.heap.size, 8, none⟩ = some (.int .i64 x.gen) ∧ w'.cell? ⟨w.heap.size, 9, none⟩ = some (.slice ad nd cd) ∧ w'.cell? ⟨w.heap.size, 10, none⟩ = some (.int .i64 x.fuse) ∧ w'.cell? ⟨w.heap.size, 11, none⟩ = some (.bool x.down) ∧ w'.cell? ⟨w.heap.size, 12, none⟩ = some (.bool x.broken)) (by kernel_rfl) ?_ (fun hHeld => ?_)
    · exact ⟨y0, y1, y2, y3, y4, y5, y6, y7, y8, y9, y10, y11, y12, l0, l1, l2, l3, l4, l5, l6, l7, l8, l9, l10, l11, l12⟩
    refine held_take (i := 0) (v := ?_) rfl (by kernel_rfl) (by kernel_rfl) (by kernel_rfl) (fun _ _ _ h => h) (by kernel_rfl) ?_ hHeld ?_
    rotate_left 1
    · (intro w hSw; (try dsimp only at hSw); go_split_ands; go_simp; first | done | with_reducible rfl)
    simp only [Act.put, List.setIfInBounds_toArray, List.set_cons_zero, List.set_cons_succ]
    refine held_take (i := 1) (v := ?_) rfl (by kernel_rfl) (by kernel_rfl) (by kernel_rfl) (fun _ _ _ h => h) (by kernel_rfl) ?_ hHeld ?_
    rotate_left 1
    · (intro w hSw; (try dsimp only at hSw); go_split_ands; go_simp; first | done | with_reducible rfl)
    simp only [Act.put, List.setIfInBounds_toArray, List.set_cons_zero, List.set_cons_succ]
    refine held_one (i := 2) (by kernel_rfl) rfl (by kernel_rfl) (fun K hK => ?_)
    go_simp
    refine (toArr_any _ 141 80 82 x _ _ _ _ _ _ ms ds (h0.below B6.out).drew (h1.below B6.out).drew hwt').mono ?_
    rintro e w7 ⟨bm7, bd7, rfl, om7, od7, ya7, yb7, hb7⟩
    have hb7' : Below w6.heap.size w6 w7 := (Below.refl w6.heap.size w6).drew.trans hb7
    go_wp2_with fail
    clear hHeld
    refine hK.out _ _ ?_ (fun hHeld => ?_)
    · exact ⟨(hb7'.cell (p := ⟨w4.heap.size, 0, none⟩) zy).trans y0, (hb7'.cell (p := ⟨w4.heap.size, 1, none⟩) zy).trans y1, (hb7'.cell (p := ⟨w4.heap.size, 2, none⟩) zy).trans y2, (hb7'.cell (p := ⟨w4.heap.size, 3, none⟩) zy).trans y3, (hb7'.cell (p := ⟨w4.heap.size, 4, none⟩) zy).trans y4, (hb7'.cell (p := ⟨w4.heap.size, 5, none⟩) zy).trans y5, (hb7'.cell (p := ⟨w4.heap.size, 6, none⟩) zy).trans y6, (hb7'.cell (p := ⟨w4.heap.size, 7, none⟩) zy).trans y7, (hb7'.cell (p := ⟨w4.heap.size, 8, none⟩) zy).trans y8, (hb7'.cell (p := ⟨w4.heap.size, 9, none⟩) zy).trans y9, (hb7'.cell (p := ⟨w4.heap.size, 10, none⟩) zy).trans y10, (hb7'.cell (p := ⟨w4.heap.size, 11, none⟩) zy).trans y11, (hb7'.cell (p := ⟨w4.heap.size, 12, none⟩) zy).trans y12, (hb7'.cell (p := ⟨w.heap.size, 0, none⟩) zl).trans l0, (hb7'.cell (p := ⟨w.heap.size, 1, none⟩) zl).trans l1, (hb7'.cell (p := ⟨w.heap.size, 2, none⟩) zl).trans l2, (hb7'.cell (p := ⟨w.heap.size, 3, none⟩) zl).trans l3, (hb7'.cell (p := ⟨w.heap.size, 4, none⟩) zl).trans l4, (hb7'.cell (p := ⟨w.heap.size, 5, none⟩) zl).trans l5, (hb7'.cell (p := ⟨w.heap.size, 6, none⟩) zl).trans l6, (hb7'.cell (p := ⟨w.heap.size, 7, none⟩) zl).trans l7, (hb7'.cell (p := ⟨w.heap.size, 8, none⟩) zl).trans l8, (hb7'.cell (p := ⟨w.heap.size, 9, none⟩) zl).trans l9, (hb7'.cell (p := ⟨w.heap.size, 10, none⟩) zl).trans l10, (hb7'.cell (p := ⟨w.heap.size, 11, none⟩) zl).trans l11, (hb7'.cell (p := ⟨w.heap.size, 12, none⟩) zl).trans l12⟩
    clear hK K
    refine held_one (i := 3) (by kernel_rfl) rfl (by kernel_rfl) (fun K hK => ?_)
    go_simp
    refine (eqArr_same _ 123 123 87 87 65 65 x _ _ _ _ _ _ _ _ _ _ _ _ ms ds (Dm6.out.below hb7').rd (Dd6.out.below hb7').rd om7.rd od7.rd hwt2).mono ?_
    rintro e w8 ⟨rfl, hb8⟩
    have hb8' : Below w6.heap.size w6 w8 := Below.andThen hb7' hb8
    go_wp2_with fail
    clear hHeld
    refine hK.out _ _ ?_ (fun hHeld => ?_)
    · exact ⟨(hb8'.cell (p := ⟨w4.heap.size, 0, none⟩) zy).trans y0, (hb8'.cell (p := ⟨w4.heap.size, 1, none⟩) zy).trans y1, (hb8'.cell (p := ⟨w4.heap.size, 2, none⟩) zy).trans y2, (hb8'.cell (p := ⟨w4.heap.size, 3, none⟩) zy).trans y3, (hb8'.cell (p := ⟨w4.heap.size, 4, none⟩) zy).trans y4, (hb8'.cell (p := ⟨w4.heap.size, 5, none⟩) zy).trans y5, (hb8'.cell (p := ⟨w4.heap.size, 6, none⟩) zy).trans y6, (hb8'.cell (p := ⟨w4.heap.size, 7, none⟩) zy).trans y7, (hb8'.cell (p := ⟨w4.heap.size, 8, none⟩) zy).trans y8, (hb8'.cell (p := ⟨w4.heap.size, 9, none⟩) zy).trans y9, (hb8'.cell (p := ⟨w4.heap.size, 10, none⟩) zy).trans y10, (hb8'.cell (p := ⟨w4.heap.size, 11, none⟩) zy).trans y11, (hb8'.cell (p := ⟨w4.heap.size, 12, none⟩) zy).trans y12, (hb8'.cell (p := ⟨w.heap.size, 0, none⟩) zl).trans l0, (hb8'.cell (p := ⟨w.heap.size, 1, none⟩) zl).trans l1, (hb8'.cell (p := ⟨w.heap.size, 2, none⟩) zl).trans l2, (hb8'.cell (p := ⟨w.heap.size, 3, none⟩) zl).trans l3, (hb8'.cell (p := ⟨w.heap.size, 4, none⟩) zl).trans l4, (hb8'.cell (p := ⟨w.heap.size, 5, none⟩) zl).trans l5, (hb8'.cell (p := ⟨w.heap.size, 6, none⟩) zl).trans l6, (hb8'.cell (p := ⟨w.heap.size, 7, none⟩) zl).trans l7, (hb8'.cell (p := ⟨w.heap.size, 8, none⟩) zl).trans l8, (hb8'.cell (p := ⟨w.heap.size, 9, none⟩) zl).trans l9, (hb8'.cell (p := ⟨w.heap.size, 10, none⟩) zl).trans l10, (hb8'.cell (p := ⟨w.heap.size, 11, none⟩) zl).trans l11, (hb8'.cell (p := ⟨w.heap.size, 12, none⟩) zl).trans l12⟩
    clear hK K
    refine held_take (i := 4) (v := ?_) rfl (by kernel_rfl) (by kernel_rfl) (by kernel_rfl) (fun _ _ _ h => h) (by kernel_rfl) ?_ hHeld ?_
    rotate_left 1
    · (intro w hSw; (try dsimp only at hSw); go_split_ands; go_simp; first | done | with_reducible rfl)
    simp only [Act.put, List.setIfInBounds_toArray, List.set_cons_zero, List.set_cons_succ]
    refine wpAnyH_done (by kernel_rfl) ?_ _
    clear hHeld
    clear y0 y1 y2 y3 y4 y5 y6 y7 y8 y9 y10 y11 y12 l0 l1 l2 l3 l4 l5 l6 l7 l8 l9 l10 l11 l12
    clear zl zy om7 od7 ya7 yb7 hb7 hb8 hb7'
    have B8 := hidden (Below.andThen B6.out hb8')
    have BR8 := hidden (BR6.out.below hb8' (by omega))
    have Dm8 := hidden (Dm6.out.below hb8')
    have Dd8 := hidden (Dd6.out.below hb8')
    have BX8 := hidden (BX6.out.below hb8' (by omega))
    have z8 := hb8'.size
    clear B6 BR6 Dm6 Dd6 BX6 hb8'
    go_wp2
    go_ret
    exact ⟨rfl, B8.out⟩
  · have hq := leftOf_neg (left := 1048576) (wt := wtArr ms ds) (by omega)
    go_wp2
    go_ret
    exact ⟨rfl, B1.out⟩

end Go.Proofs.YtjmjianlcoleaaaGreat

/-
  What the row's reading says of arguments with depth, in these texts' own words. No condition.
-/
namespace Go.Proofs.YtjmjianlcoleaaaGreat
open Go.RowKit Go.ChangeShapes Go.WideShapes Go.ChangeAt Go.Joins Go.Deep

section
variable {H : Type} {enc : TypeId × Value → H} {P : Program} {w : World} {held : Bool}

theorem rdInts_of {t q : TypeId} {fuel : Nat} {v : Value} {x : DataW H × List MemPlace} (ht : P.underlying t = some (.slice q)) (hq : P.underlying q = some (.int .i64)) (cq : P.cellsOf q = 1)
    (h : DataW.trod enc P w 0 (fun _ => true) held fuel t [v] = some x) : ∃ zs, tIntS.Rd w [v] zs := by
  rcases open_ints ht hq cq h with ⟨hcs, _⟩ | ⟨a, len, cap, zs, hcs, _, hl, hm, hz, _, hcell, hwz⟩
  · simp at hcs
    subst hcs
    exact ⟨[], ints_rd_of (.inl rfl) (Nat.le_refl _) (by simp) (fun _ => rfl)⟩
  · simp at hcs
    subst hcs
    have hr : IsRow .i64 w (some a) len cap zs := .inr ⟨_, rfl, hl, hm, by simpa using hz, hcell, hwz⟩
    obtain ⟨h1, h2, _, _⟩ := hr.reads
    refine ⟨zs.take len, ?_⟩
    have := ints_rd_of (E := 3) (cap := cap) h1 (by omega) (by unfold maxLen at hm; omega) (by simp)
    rw [h2] at this
    exact this

/-- A slice by its elements. -/
theorem rd_row {t : Ty} {E : TypeId} {a : Addr} {len cap : Nat} (hl : len ≤ cap) (hm : cap ≤ 9223372036854775807) (cs : Nat → List Value) (hn : 0 < t.n) (hcl : ∀ i, i < len → (cs i).length = t.n)
    (hc : ∀ i, i < len → ∀ j, j < t.n → w.cell? (a.add (i * t.n + j)) = (cs i)[j]?) (hx : ∀ i, i < len → ∃ x, t.Rd w (cs i) x) : ∃ d, (rowTy t E).Rd w [.slice (some a) len cap] d := by
  have each : ∀ i, i < len → ∃ y : t.D × List Nat, t.rd w (cs i) y.1 y.2 := by
    intro i hi
    obtain ⟨x, fp, h⟩ := hx i hi
    exact ⟨(x, fp), h⟩
  by_cases h0 : len = 0
  · subst h0
    exact ⟨[], [], some a, cap, rfl, by simp, hm, .inl ⟨rfl, rfl, by simp⟩⟩
  · have hne : Nonempty (t.D × List Nat) := by
      obtain ⟨y, _⟩ := each 0 (by omega)
      exact ⟨y⟩
    have hch : ∃ f : Nat → t.D × List Nat, ∀ i, i < len → t.rd w (cs i) (f i).1 (f i).2 := by
      refine ⟨fun i => if h : i < len then Classical.choose (each i h) else Classical.choice hne, fun i hi => ?_⟩
      simp only [dif_pos hi]
      exact Classical.choose_spec (each i hi)
    obtain ⟨f, hf⟩ := hch
    obtain ⟨b, off, spot⟩ := a
    have hc0 := hc 0 (by omega) 0 hn
    have hsome : ∃ v0, (cs 0)[0]? = some v0 := ⟨(cs 0)[0]'(by rw [hcl 0 (by omega)]; exact hn), List.getElem?_eq_getElem _⟩
    obtain ⟨v0, hv0⟩ := hsome
    rw [hv0] at hc0
    have hspot : spot = none := by simpa [Addr.add] using World.cell?_spot hc0
    subst hspot
    have ea : ∀ k, (⟨b, off, none⟩ : Addr).add k = ⟨b, off + k, none⟩ := by
      intro k
      unfold Addr.add
      split <;> simp_all
    rw [ea] at hc0
    have hblt : b < w.heap.size := World.block_lt_of_cell? w _ hc0
    refine ⟨(List.range len).map fun i => (f i).1, b :: ((List.range len).map fun i => (f i).2).flatten, _, cap, by simp, by simpa using hl, hm, .inr ⟨b, off, (List.range len).map fun i => (f i).2, rfl, hblt, rfl, by simp, fun i x hxi => ?_⟩⟩
    have hi : i < len := by
      have := (List.getElem?_eq_some_iff.1 hxi).1
      simpa using this
    rw [List.getElem?_map, List.getElem?_range hi] at hxi
    simp at hxi
    subst hxi
    refine ⟨(f i).2, cs i, by rw [List.getElem?_map, List.getElem?_range hi]; rfl, hf i hi, fun j hj => ?_⟩
    rw [← ea]
    exact hc i hi j hj

theorem rdIntSS_of {t e q : TypeId} {fuel : Nat} {v : Value} {x : DataW H × List MemPlace} (ht : P.underlying t = some (.slice e)) (he : P.underlying e = some (.slice q)) (hq : P.underlying q = some (.int .i64)) (ce : P.cellsOf e = 1) (cq : P.cellsOf q = 1)
    (h : DataW.trod enc P w 0 (fun _ => true) held fuel t [v] = some x) : ∃ d, tIntSS.Rd w [v] d := by
  rcases open_slice1 ht ce h with ⟨hcs, _⟩ | ⟨a, len, cap, m, n, V, D, Pl, hcs, _, hl, hm, hmm, _, hx⟩
  · simp at hcs
    subst hcs
    exact ⟨[], [], none, 0, rfl, by simp, by simp, .inl ⟨rfl, rfl, fun _ => rfl⟩⟩
  · simp at hcs
    subst hcs
    simp only [if_true] at hmm
    refine rd_row hl (by unfold maxLen at hm; omega) (fun i => [V i]) (by decide) (fun _ _ => rfl) (fun i hi j hj => ?_) (fun i hi => rdInts_of he hq cq (hx i (by omega)).2)
    have hj0 : j = 0 := by have : j < 1 := hj; omega
    subst hj0
    have := (hx i (by omega)).1
    show w.cell? (a.add (i * 1 + 0)) = some (V i)
    rw [Nat.mul_one, Nat.add_zero]
    exact this

theorem rdWrS_of {t e q : TypeId} {f0 f1 : Field} {E : TypeId} {fuel : Nat} {v : Value} {x : DataW H × List MemPlace} (ht : P.underlying t = some (.slice e)) (he : P.underlying e = some (.struct #[f0, f1])) (ce : P.cellsOf e = 2) (o0 : f0.offset = 0) (o1 : f1.offset = 1) (c0 : P.cellsOf f0.type = 1) (c1 : P.cellsOf f1.type = 1)
    (hi0 : P.underlying f0.type = some (.int .i64)) (hi1 : P.underlying f1.type = some (.slice q)) (hq : P.underlying q = some (.int .i64)) (cq : P.cellsOf q = 1)
    (h : DataW.trod enc P w 0 (fun _ => true) held fuel t [v] = some x) : ∃ d, (tWrS E).Rd w [v] d := by
  rcases open_slice_pairs ht he ce o0 o1 c0 c1 h with ⟨hcs, _⟩ | ⟨a, len, cap, m, n, V0, V1, D0, D1, P0, P1, hcs, _, hl, hm, hmm, _, hx⟩
  · simp at hcs
    subst hcs
    exact ⟨[], [], none, 0, rfl, by simp, by simp, .inl ⟨rfl, rfl, fun _ => rfl⟩⟩
  · simp at hcs
    subst hcs
    simp only [if_true] at hmm
    refine rd_row hl (by unfold maxLen at hm; omega) (fun i => [V0 i, V1 i]) (by decide) (fun _ _ => rfl) (fun i hi j hj => ?_) (fun i hi => ?_)
    · have hj2 : j < 2 := hj
      obtain ⟨h0, h1, _⟩ := hx i (by omega)
      match j, hj2 with
      | 0, _ => exact h0
      | 1, _ => exact h1
    · obtain ⟨_, _, h2, h3⟩ := hx i (by omega)
      obtain ⟨y, hy, _, _⟩ := DataW.trod_int hi0 h2
      obtain ⟨zs, hzs⟩ := rdInts_of hi1 hq cq h3
      simp at hy
      exact ⟨(y, zs), by rw [hy]; exact pair_rd_of (t := intTy) (vs := [_]) ⟨[], rfl, rfl⟩ hzs⟩

end
end Go.Proofs.YtjmjianlcoleaaaGreat

/-
  What the row's reading says of an array that came in, in these texts' own words: its numbers and flags, and what its two slices read. No condition.
-/
namespace Go.Proofs.YtjmjianlcoleaaaGreat
open Go.RowKit Go.ChangeShapes Go.WideShapes Go.ChangeAt Go.Joins Go.Deep

section
variable {H : Type} {enc : TypeId × Value → H} {w : World} {held : Bool}

/-- A slice whose elements are read one by one. -/
theorem rdRow_of {P : Program} {t e E : TypeId} {u : Ty} {fuel : Nat} {v : Value} {x : DataW H × List MemPlace} (ht : P.underlying t = some (.slice e)) (ce : P.cellsOf e = u.n) (hn : 0 < u.n)
    (each : ∀ (n : Nat) (cs : List Value) (y : DataW H × List MemPlace), cs.length = u.n → DataW.trod enc P w 0 (fun _ => true) held n e cs = some y → ∃ d, u.Rd w cs d)
    (h : DataW.trod enc P w 0 (fun _ => true) held fuel t [v] = some x) : ∃ d, (rowTy u E).Rd w [v] d := by
  rcases open_slice ht h with ⟨hcs, _⟩ | ⟨a, len, cap, m, n, D, Pl, hcs, _, hl, hm, hmm, _, hx⟩
  · simp at hcs
    subst hcs
    exact ⟨[], [], none, 0, rfl, by simp, by simp, .inl ⟨rfl, rfl, fun _ => rfl⟩⟩
  · simp at hcs
    subst hcs
    simp only [if_true] at hmm
    have one : ∀ i, i < len → ∃ cs : List Value, cs.length = u.n ∧ (∀ j, j < u.n → w.cell? (a.add (i * u.n + j)) = cs[j]?) ∧ ∃ d, u.Rd w cs d := by
      intro i hi
      obtain ⟨cs', h1, h2⟩ := hx i (by omega)
      rw [ce] at h1
      obtain ⟨_, hlen, hcell⟩ := World.cells?_some h1
      refine ⟨cs', hlen, fun j hj => ?_, each n cs' _ hlen h2⟩
      have := hcell j hj
      rw [add_add] at this
      exact this
    obtain ⟨q, hq⟩ := choose_lt one
    exact rd_row hl (by unfold maxLen at hm; omega) q hn (fun i hi => (hq i hi).1) (fun i hi => (hq i hi).2.1) (fun i hi => (hq i hi).2.2)

theorem rdMemS_of {fuel : Nat} {v : Value} {x : DataW H × List MemPlace} (h : DataW.trod enc Tryz.prog w 0 (fun _ => true) held fuel 24 [v] = some x) : ∃ d, (tMemS 141 80).Rd w [v] d := by
  refine rdRow_of (e := 80) Tryz.underlying24 (by kernel_rfl) (by decide) (fun n cs y hl hy => ?_) h
  match cs, hl with
  | [v0, v1, v2, v3], _ =>
    obtain ⟨xs, k, _, _, _, hxl, hf⟩ := DataW.trod_struct Tryz.underlying80 hy
    have c1 : Tryz.prog.cellsOf 77 = 1 := by kernel_rfl
    have c2 : Tryz.prog.cellsOf 78 = 1 := by kernel_rfl
    have c3 : Tryz.prog.cellsOf 4 = 1 := by kernel_rfl
    have c4 : Tryz.prog.cellsOf 48 = 1 := by kernel_rfl
    match xs, hxl with
    | [y0, y1, y2, y3], _ =>
      have g0 := hf 0 _ rfl
      have g1 := hf 1 _ rfl
      have g2 := hf 2 _ rfl
      have g3 := hf 3 _ rfl
      simp [c1] at g0
      simp [c2] at g1
      simp [c3] at g2
      simp [c4] at g3
      obtain ⟨ss, r0⟩ := rdIntSS_of Tryz.underlying77 Tryz.underlying48 Tryz.underlying3 (by kernel_rfl) (by kernel_rfl) g0
      obtain ⟨ws, r1⟩ := rdWrS_of (E := 141) Tryz.underlying78 Tryz.underlying141 (by kernel_rfl) rfl rfl (by kernel_rfl) (by kernel_rfl) Tryz.underlying3 Tryz.underlying48 Tryz.underlying3 (by kernel_rfl) g1
      obtain ⟨f, hfb, _⟩ := DataW.trod_bool Tryz.underlying4 g2
      obtain ⟨bs, r3⟩ := rdInts_of Tryz.underlying48 Tryz.underlying3 (by kernel_rfl) g3
      simp at hfb
      subst hfb
      exact ⟨(ss, ws, f, bs), pair_rd_of (vs := [v0]) r0 (pair_rd_of (vs := [v1]) r1 (pair_rd_of (t := boolTy) (vs := [.bool f]) ⟨[], rfl, rfl⟩ r3))⟩

set_option maxRecDepth 20000 in
theorem array13 {cs : Array Value} (h : cs.size = 13) : ∃ c0 c1 c2 c3 c4 c5 c6 c7 c8 c9 c10 c11 c12, cs = #[c0, c1, c2, c3, c4, c5, c6, c7, c8, c9, c10, c11, c12] := by
  obtain ⟨l⟩ := cs
  match l, h with
  | [c0, c1, c2, c3, c4, c5, c6, c7, c8, c9, c10, c11, c12], _ => exact ⟨c0, c1, c2, c3, c4, c5, c6, c7, c8, c9, c10, c11, c12, rfl⟩

set_option maxRecDepth 20000 in
set_option maxHeartbeats 1600000 in
theorem open_arr {r : Reach} {b0 : Nat} {v : Value} {d : DataW H} {p : List MemPlace} (hv : Value.okWide Tryz.prog w r b0 27 v) (h : DataW.Trod enc Tryz.prog w 0 (fun _ => true) held 27 v d p) :
    ∃ (x : ArrN) (am ad : Option Addr) (cm cd : Nat) (ms : List MemD) (ds : List (Int × List Int)), v = .agg #[.int .i64 x.id, .int .i64 x.n, .int .i64 x.s, .slice am ms.length cm, .int .i64 x.lost, .int .i64 x.built, .int .i64 x.seq, .int .i64 x.tail, .int .i64 x.gen, .slice ad ds.length cd, .int .i64 x.fuse, .bool x.down, .bool x.broken] ∧ (tMemS 141 80).Rd w [.slice am ms.length cm] ms ∧ (tWrS 82).Rd w [.slice ad ds.length cd] ds := by
  obtain ⟨cs, rfl, hsz⟩ := okWide_struct Tryz.underlying27 hv
  obtain ⟨c0, c1, c2, c3, c4, c5, c6, c7, c8, c9, c10, c11, c12, rfl⟩ := array13 (hsz.trans (by kernel_rfl))
  obtain ⟨fuel, hf⟩ := h
  obtain ⟨xs, n, _, _, _, hxl, hx⟩ := DataW.trod_struct Tryz.underlying27 hf
  have k3 : Tryz.prog.cellsOf 3 = 1 := by kernel_rfl
  have k4 : Tryz.prog.cellsOf 4 = 1 := by kernel_rfl
  have kG : Tryz.prog.cellsOf 23 = 2 := by kernel_rfl
  have kM : Tryz.prog.cellsOf 24 = 1 := by kernel_rfl
  have kE : Tryz.prog.cellsOf 25 = 1 := by kernel_rfl
  match xs, hxl with
  | [y0, y1, y2, y3, y4, y5, y6, y7, y8, y9, y10, y11], _ =>
    have g0 := hx 0 _ rfl
    have g1 := hx 1 _ rfl
    have g2 := hx 2 _ rfl
    have g3 := hx 3 _ rfl
    have g4 := hx 4 _ rfl
    have g5 := hx 5 _ rfl
    have g6 := hx 6 _ rfl
    have g7 := hx 7 _ rfl
    have g8 := hx 8 _ rfl
    have g9 := hx 9 _ rfl
    have g10 := hx 10 _ rfl
    have g11 := hx 11 _ rfl
    simp [Value.cells, k3] at g0
    simp [Value.cells, kG] at g1
    simp [Value.cells, kM] at g2
    simp [Value.cells, k3] at g3
    simp [Value.cells, k3] at g4
    simp [Value.cells, k3] at g5
    simp [Value.cells, k3] at g6
    simp [Value.cells, k3] at g7
    simp [Value.cells, kE] at g8
    simp [Value.cells, k3] at g9
    simp [Value.cells, k4] at g10
    simp [Value.cells, k4] at g11
    obtain ⟨n0, e0, _, _⟩ := DataW.trod_int Tryz.underlying3 g0
    simp at e0
    subst e0
    obtain ⟨zs, m, _, _, _, hzl, hz⟩ := DataW.trod_struct Tryz.underlying23 g1
    match zs, hzl with
    | [z0, z1], _ =>
    have q0 := hz 0 _ rfl
    have q1 := hz 1 _ rfl
    simp [k3] at q0 q1
    obtain ⟨nn, en, _, _⟩ := DataW.trod_int Tryz.underlying3 q0
    obtain ⟨ns, es, _, _⟩ := DataW.trod_int Tryz.underlying3 q1
    simp at en es
    subst en es
    obtain ⟨ms, r2⟩ := rdMemS_of g2
    obtain ⟨am, cm, rfl⟩ := row_shape r2
    obtain ⟨n3, e3, _, _⟩ := DataW.trod_int Tryz.underlying3 g3
    simp at e3
    subst e3
    obtain ⟨n4, e4, _, _⟩ := DataW.trod_int Tryz.underlying3 g4
    simp at e4
    subst e4
    obtain ⟨n5, e5, _, _⟩ := DataW.trod_int Tryz.underlying3 g5
    simp at e5
    subst e5
    obtain ⟨n6, e6, _, _⟩ := DataW.trod_int Tryz.underlying3 g6
    simp at e6
    subst e6
    obtain ⟨n7, e7, _, _⟩ := DataW.trod_int Tryz.underlying3 g7
    simp at e7
    subst e7
    obtain ⟨ds, r8⟩ := rdWrS_of (E := 82) Tryz.underlying25 Tryz.underlying82 (by kernel_rfl) rfl rfl (by kernel_rfl) (by kernel_rfl) Tryz.underlying3 Tryz.underlying48 Tryz.underlying3 (by kernel_rfl) g8
    obtain ⟨ad, cd, rfl⟩ := row_shape r8
    obtain ⟨n9, e9, _, _⟩ := DataW.trod_int Tryz.underlying3 g9
    simp at e9
    subst e9
    obtain ⟨n10, e10, _⟩ := DataW.trod_bool Tryz.underlying4 g10
    simp at e10
    subst e10
    obtain ⟨n11, e11, _⟩ := DataW.trod_bool Tryz.underlying4 g11
    simp at e11
    subst e11
    exact ⟨⟨n0, nn, ns, n3, n4, n5, n6, n7, n9, n10, n11⟩, am, ad, cm, cd, ms, ds, rfl, r2, r8⟩

end
end Go.Proofs.YtjmjianlcoleaaaGreat

namespace Go.Proofs.YtjmjianlcoleaaaGreat.fnExactGetBlock
open Go.ChangeShapes Go.WideShapes Go.ChangeAt Go.RowKit Go.Joins
open Go.ChangeMaps (open_string shut_string)
set_option linter.unusedVariables false

theorem own : ownKnob Tryz.prog.godebug = none := by kernel_rfl
theorem laidOut : laidOutB Tryz.prog = true := by kernel_rfl

set_option maxRecDepth 100000 in
theorem lifted (os : Os) (started : os.Started) (H : Type) (enc : TypeId × Value → H) :
    ReturnsInHanded {} Tryz.checked os 3 .any (Rows.fnExactGetBlockSpec.pre6 enc Tryz.prog Tryz.f3 Rows.fnExactGetBlockRow.domain false) (Rows.fnExactGetBlockSpec.post enc Tryz.prog Tryz.f3 false true false false) := by
  refine returnsInHanded_of_change (C := Tryz.checked) own started (by kernel_rfl) Tryz.func3
    (ChangeSpec.witness6 (enc := enc) (C := Tryz.checked) false ⟨#[], #[.agg #[.int .i64 0, .int .i64 0, .int .i64 0, .slice none 0 0, .int .i64 0, .int .i64 0, .int .i64 0, .int .i64 0, .int .i64 0, .slice none 0 0, .int .i64 0, .bool false, .bool false], .int .i64 0], []⟩ 8 (by kernel_rfl) (by kernel_rfl) (by kernel_rfl) (by kernel_rfl)) ?_
  intro W base args ds gs before hval0 hW hcnd _
  have hval : ∀ (j : Nat) t v, Tryz.f3.params[j]? = some t → args[j]? = some v → Value.okWide Tryz.prog W .any base t v := hval0
  have hW' := hW
  obtain ⟨p, q, hA0, hV, rfl, hfz, hnd⟩ := hW
  have hA : DataW.TrodAll enc Tryz.prog W 0 (fun _ => true) true Tryz.f3.params.toList args.toList ds p := hA0
  rw [Tryz.params3] at hA hval
  obtain ⟨v0, vs0, d0, ds0, p0, q0, hargs0, rfl, rfl, h0, r0⟩ := trodAll_cons hA
  obtain ⟨v1, vs1, d1, ds1, p1, q1, hargs1, rfl, rfl, h1, r1⟩ := trodAll_cons r0
  obtain ⟨rfl, rfl, rfl⟩ := trodAll_nil r1
  obtain rfl : args = #[v0, v1] := by cases args; simp_all
  obtain ⟨rfl, rfl⟩ := trodVars_none hV
  have k0 := h0
  have lt0 : ∀ x ∈ p0, x.block < W.heap.size := by obtain ⟨m, hm⟩ := k0; exact DataW.trod_lt m _ _ _ hm
  obtain ⟨x0, am0, ad0, cm0, cd0, ms0, ds0, rfl, g0m, g0d⟩ := open_arr (hval 0 27 v0 rfl rfl) h0
  have k1 := h1
  have lt1 : ∀ x ∈ p1, x.block < W.heap.size := by obtain ⟨m, hm⟩ := k1; exact DataW.trod_lt m _ _ _ hm
  obtain ⟨x1, hv1, _, _, wf1⟩ := open_int Tryz.underlying3 (hval 1 3 v1 rfl rfl) h1
  subst hv1
  clear hA0 hval0
  refine (fnExactGetBlock_walk x0 am0 ad0 ms0.length cm0 ds0.length cd0 ms0 ds0 x1 W g0m g0d).mono fun e W' ⟨he, bel⟩ => ?_
  subst he
  exact ⟨_, rfl, _, _, _, [], _, [], hW', trodAll_mk1 (shut_bool Tryz.underlying4 _), (trodAll_cons_mk (Below.trod laidOut (by kernel_rfl) (of_decide_eq_true (by kernel_rfl)) k0 bel lt0) (trodAll_cons_mk (Below.trod laidOut (by kernel_rfl) (of_decide_eq_true (by kernel_rfl)) k1 bel lt1) trodAll_mk0)), rfl, bel.frame _, fun h => by cases h⟩

theorem over : Rows.fnExactGetBlockRow.holds Tryz.pinned (OpenSpec.ofChange Rows.fnExactGetBlockSpec) :=
  OpenClaim.holds_of_wide 3 Tryz.f3 rfl rfl rfl rfl rfl rfl rfl ⟨rfl, rfl, rfl, rfl, rfl⟩ rfl rfl rfl rfl rfl (by kernel_rfl) Tryz.func3 (by kernel_rfl)
    (of_decide_eq_true (by kernel_rfl)) (by unfold Func.isWrapper; first | (rw [if_pos (by decide +kernel)]; kernel_rfl) | (rw [if_neg (by decide +kernel)]; exact ⟨rfl, rfl⟩))
    (fun os started H enc _ => lifted os started H enc)
end Go.Proofs.YtjmjianlcoleaaaGreat.fnExactGetBlock

namespace Go.Proofs.YtjmjianlcoleaaaGreat
/-- The given statement. -/
theorem fnExactGetBlock_holds : Rows.FnExactGetBlockSaid := fnExactGetBlock.over
#print axioms fnExactGetBlock_holds
end Go.Proofs.YtjmjianlcoleaaaGreat

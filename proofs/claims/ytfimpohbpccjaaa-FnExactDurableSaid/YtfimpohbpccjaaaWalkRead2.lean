/-
  The walks of both ReadSec (the program's and the specification's): what a sector reads as, in memory of its own. Condition: the disk weighs at most 2097152.
-/
import Derived.Test.YtfimpohbpccjaaaWalkRead
import Derived.Test.YtfimpohbpccjaaaWalkL2Has
import Derived.Test.YtfimpohbpccjaaaWalkNewest
import Derived.Test.YtfimpohbpccjaaaWalkCopyWords
namespace Go.Proofs.Ytfimpohbpccjaaa
open Go.RowKit

theorem slicesIndex_any (w : World) (a : Option Addr) (len cap : Nat) (zs : List Int) (n : Int) (hz : zs.length = len) (hr : Reads .i64 w a zs) (hlen : len ≤ 2097152) :
    Calls Try.prog 126 #[.slice a len cap, .int .i64 n] w fun e w' => ∃ r : Int, e = .returned (.int .i64 r) ∧ decide (0 ≤ r) = inL zs n ∧ Same w w' := by
  go_enter Try.func126, Try.ntmps126
  go_wp2
  go_loop [8] (fun i => ∃ j : Nat, j ≤ len ∧ i = .int .i64 j ∧ inL (zs.take j) n = false) (fun i => len - (intOf i).toNat)
  case atStart => exact ⟨0, Nat.zero_le _, rfl, rfl⟩
  case round =>
    obtain ⟨j, hj, rfl, ht⟩ := hrel
    by_cases hlt : j < len
    · rcases hr.cases with h0 | ⟨b, off, rfl, hbl, hc⟩
      · omega
      have hc1 := hc j (by omega)
      have hd := inL_step (zs := zs) (n := n) (j := j) (by omega) rfl
      generalize zs.getD j 0 = x at hc1 hd
      have HT := hidden ht
      clear hc ht
      by_cases hx : x = n
      · have HD := hidden (hd.1 hx)
        subst hx
        clear hd
        go_wp2
        go_ret
        exact ⟨_, rfl, by rw [HD.out]; simp, Same.refl _⟩
      · have HD := hidden (hd.2 hx HT.out)
        have hx' : ¬ n = x := fun e => hx e.symm
        clear hd
        go_wp2
        go_round
        case rel => exact ⟨j + 1, by omega, by go_num, HD.out⟩
        case measure => simp [intOf]; omega
    · go_wp2
      go_ret
      have e : j = len := by omega
      subst e
      rw [List.take_of_length_le (by omega)] at ht
      exact ⟨_, rfl, by rw [ht]; rfl, Same.refl _⟩

theorem slicesContains_any (w : World) (a : Option Addr) (len cap : Nat) (zs : List Int) (n : Int) (hz : zs.length = len) (hr : Reads .i64 w a zs) (hlen : len ≤ 2097152) :
    Calls Try.prog 123 #[.slice a len cap, .int .i64 n] w fun e w' => e = .returned (.bool (inL zs n)) ∧ Same w w' := by
  go_enter Try.func123, Try.ntmps123
  go_wp2_with fail
  refine (slicesIndex_any _ _ _ _ zs n hz hr hlen).mono ?_
  rintro e w1 ⟨r, rfl, hr1, hs1⟩
  go_wp2
  go_ret
  exact ⟨ret_bool (by rw [← hr1]), hs1⟩

set_option maxHeartbeats 3200000 in
theorem implReadSec_any (w : World) (E : TypeId) (a0 a1 a3 : Option Addr) (n0 c0 n1 c1 n3 c3 : Nat) (ss : List (List Int)) (cs : List (Int × List Int)) (f : Bool) (bs : List Int) (n : Int) (h0 : tIntSS.Rd w [.slice a0 n0 c0] ss) (h1 : (tWrS E).Rd w [.slice a1 n1 c1] cs) (h3 : tIntS.Rd w [.slice a3 n3 c3] bs) (hw : wtMem (ss, cs, f, bs) ≤ 2097152) :
    Calls Try.prog 122 #[.agg #[.slice a0 n0 c0, .slice a1 n1 c1, .bool f, .slice a3 n3 c3], .int .i64 n] w fun e w' => ∃ a' l c', e = .returned (.tuple #[.slice a' l c', .bool (readOk ss cs f bs n)]) ∧ tIntS.Own w' w.heap.size w'.heap.size [.slice a' l c'] (readD ss cs f bs n) ∧ Below w.heap.size w w' := by
  obtain ⟨hl0, _, hm0⟩ := row_length h0
  obtain ⟨hl1, _, hm1⟩ := row_length h1
  obtain ⟨hl3, _, hm3⟩ := row_length h3
  have hw3 : n3 ≤ 2097152 := by unfold wtMem at hw; simp only at hw; omega
  have hw0 : wtIntSS ss ≤ 2097152 := by unfold wtMem at hw; simp only at hw; omega
  have hw1 : wtWrS cs ≤ 2097152 := by unfold wtMem at hw; simp only at hw; omega
  have hn0 : n0 ≤ 2097152 := by unfold wtIntSS at hw0; omega
  have hn1 : n1 ≤ 2097152 := by unfold wtWrS at hw1; omega
  have hA : Below w.heap.size w (w.alloc (.cells #[.slice a0 n0 c0, .slice a1 n1 c1, .bool f, .slice a3 n3 c3] 54)) := (Below.refl _ _).alloc (Nat.le_refl _) _
  have xm := Box.new w 54 #[.slice a0 n0 c0, .slice a1 n1 c1, .bool f, .slice a3 n3 c3]
  have g0 := h0.below hA
  have g1 := h1.below hA
  have g3 := h3.below hA
  obtain ⟨q0, q1, q2, q3⟩ := xm.cells4
  have zm := xm.lt
  have fin : ∀ w1, Below w.heap.size w w1 → tIntS.Own (w1.alloc (.cells #[] 3)) w.heap.size (w1.alloc (.cells #[] 3)).heap.size [.slice (some ⟨w1.heap.size, 0, none⟩) 0 0] [] ∧ Below w.heap.size w (w1.alloc (.cells #[] 3)) := by
    intro w1 hb
    have hs := hb.size
    exact ⟨(own_ints (Owns.lit .i64 3 w1 [] 0 #[] rfl rfl (by unfold maxLen; omega))).widen hs (Nat.le_refl _), hb.alloc hb.size _⟩
  by_cases hM : memB ss cs bs = true
  · by_cases hf : f = true
    · subst hf
      have hro : readOk ss cs true bs n = false := by unfold readOk; rw [hM]; rfl
      have hrd : readD ss cs true bs n = [] := by unfold readD; rw [hro]; rfl
      rw [hro, hrd]
      clear hro hrd
      go_enter Try.func122, Try.ntmps122
      go_wp2_with fail
      generalize hW : w.alloc (.cells #[.slice a0 n0 c0, .slice a1 n1 c1, .bool true, .slice a3 n3 c3] 54) = W at hA g0 g1 g3 q0 q1 q2 q3 zm ⊢
      clear hW xm
      refine (implMemOk_any _ E _ _ _ _ _ _ _ _ _ ss cs true bs g0 g1 g3 hw).mono ?_
      rintro e w1 ⟨rfl, b1⟩
      have r0 := (b1.cell (p := ⟨w.heap.size, 0, none⟩) zm).trans q0
      have r1 := (b1.cell (p := ⟨w.heap.size, 1, none⟩) zm).trans q1
      have r2 := (b1.cell (p := ⟨w.heap.size, 2, none⟩) zm).trans q2
      have r3 := (b1.cell (p := ⟨w.heap.size, 3, none⟩) zm).trans q3
      have B1 := Below.andThen hA b1
      have z1 := Nat.lt_of_lt_of_le zm b1.size
      clear q0 q1 q2 q3
      go_wp2
      go_ret2
      exact ⟨_, _, _, rfl, (fin _ B1).1, (fin _ B1).2⟩
    · have hf : f = false := by simpa using hf
      subst hf
      by_cases hI : inB n 0 ((n0 : Int) - 1) = true
      · by_cases hB : inL bs n = true
        · have hro : readOk ss cs false bs n = false := by unfold readOk; rw [hM, hl0, hI, hB]; rfl
          have hrd : readD ss cs false bs n = [] := by unfold readD; rw [hro]; rfl
          rw [hro, hrd]
          clear hro hrd
          go_enter Try.func122, Try.ntmps122
          go_wp2_with fail
          generalize hW : w.alloc (.cells #[.slice a0 n0 c0, .slice a1 n1 c1, .bool false, .slice a3 n3 c3] 54) = W at hA g0 g1 g3 q0 q1 q2 q3 zm ⊢
          clear hW xm
          refine (implMemOk_any _ E _ _ _ _ _ _ _ _ _ ss cs false bs g0 g1 g3 hw).mono ?_
          rintro e w1 ⟨rfl, b1⟩
          have r0 := (b1.cell (p := ⟨w.heap.size, 0, none⟩) zm).trans q0
          have r1 := (b1.cell (p := ⟨w.heap.size, 1, none⟩) zm).trans q1
          have r2 := (b1.cell (p := ⟨w.heap.size, 2, none⟩) zm).trans q2
          have r3 := (b1.cell (p := ⟨w.heap.size, 3, none⟩) zm).trans q3
          have B1 := Below.andThen hA b1
          have z1 := Nat.lt_of_lt_of_le zm b1.size
          clear q0 q1 q2 q3
          go_wp2_with fail
          refine (hasSec_any _ _ _ _ _ _ _ _).mono ?_
          rintro e w2 ⟨rfl, b2⟩
          have t0 := (b2.cell (p := ⟨w.heap.size, 0, none⟩) z1).trans r0
          have t1 := (b2.cell (p := ⟨w.heap.size, 1, none⟩) z1).trans r1
          have t3 := (b2.cell (p := ⟨w.heap.size, 3, none⟩) z1).trans r3
          have B2 := Below.andThen B1 b2
          have z2 := Nat.lt_of_lt_of_le z1 b2.size
          have k3 := g3.below (Below.andThen b1 b2)
          clear r0 r1 r2 r3
          go_wp2_with fail
          refine (slicesContains_any _ _ _ _ bs _ hl3 (ints_rd k3).1 hw3).mono ?_
          rintro e w3 ⟨rfl, s3⟩
          have B3 := Below.andSame B2 s3
          go_wp2
          go_ret2
          exact ⟨_, _, _, rfl, (fin _ B3).1, (fin _ B3).2⟩
        · have hB : inL bs n = false := by simpa using hB
          have hro : readOk ss cs false bs n = true := by unfold readOk; rw [hM, hl0, hI, hB]; rfl
          have hrd : readD ss cs false bs n = (lastW cs n).getD (secAt ss n) := by unfold readD; rw [hro]; rfl
          rw [hro, hrd]
          clear hro hrd
          have hI' : 0 ≤ n ∧ n ≤ (n0 : Int) - 1 := by unfold inB at hI; simpa using hI
          obtain ⟨k, rfl⟩ : ∃ k : Nat, n = (k : Int) := ⟨n.toNat, by omega⟩
          have hk : k < n0 := by omega
          go_enter Try.func122, Try.ntmps122
          go_wp2_with fail
          generalize hW : w.alloc (.cells #[.slice a0 n0 c0, .slice a1 n1 c1, .bool false, .slice a3 n3 c3] 54) = W at hA g0 g1 g3 q0 q1 q2 q3 zm ⊢
          clear hW xm
          refine (implMemOk_any _ E _ _ _ _ _ _ _ _ _ ss cs false bs g0 g1 g3 hw).mono ?_
          rintro e w1 ⟨rfl, b1⟩
          have r0 := (b1.cell (p := ⟨w.heap.size, 0, none⟩) zm).trans q0
          have r1 := (b1.cell (p := ⟨w.heap.size, 1, none⟩) zm).trans q1
          have r2 := (b1.cell (p := ⟨w.heap.size, 2, none⟩) zm).trans q2
          have r3 := (b1.cell (p := ⟨w.heap.size, 3, none⟩) zm).trans q3
          have B1 := Below.andThen hA b1
          have z1 := Nat.lt_of_lt_of_le zm b1.size
          clear q0 q1 q2 q3
          go_wp2_with fail
          refine (hasSec_any _ _ _ _ _ _ _ _).mono ?_
          rintro e w2 ⟨rfl, b2⟩
          have t0 := (b2.cell (p := ⟨w.heap.size, 0, none⟩) z1).trans r0
          have t1 := (b2.cell (p := ⟨w.heap.size, 1, none⟩) z1).trans r1
          have t3 := (b2.cell (p := ⟨w.heap.size, 3, none⟩) z1).trans r3
          have B2 := Below.andThen B1 b2
          have z2 := Nat.lt_of_lt_of_le z1 b2.size
          have k3 := g3.below (Below.andThen b1 b2)
          clear r0 r1 r2 r3
          go_wp2_with fail
          refine (slicesContains_any _ _ _ _ bs _ hl3 (ints_rd k3).1 hw3).mono ?_
          rintro e w3 ⟨rfl, s3⟩
          have B3 := Below.andSame B2 s3
          have m0 := (s3.cell _).trans t0
          have m1 := (s3.cell _).trans t1
          have b3 := Below.andSame (Below.andThen b1 b2) s3
          have y1 := g1.below b3
          rcases rows_at rfl g0 with h0' | ⟨b, off, rfl, hbl, hcs⟩
          · omega
          have hdj : ss[k]? = some (ss[k]'(by omega)) := List.getElem?_eq_getElem (by omega)
          generalize ss[k]'(by omega) = x at hdj
          have hil := inner_le hdj
          obtain ⟨v, hv, hrv⟩ := hcs k x hdj
          obtain ⟨av, cv, rfl⟩ := row_shape hrv
          have mv := (b3.cell (p := ⟨b, off + k, none⟩) hbl).trans hv
          have hrx := hrv.below b3
          have hgx : secAt ss (k : Int) = x := by unfold secAt; rw [Int.toNat_natCast, List.getD_eq_getElem?_getD, hdj]; rfl
          have HGX := hidden hgx
          have HX := hidden hrx
          have HB3 := hidden B3
          have i1 : (0 : Int) ≤ (k : Int) := by omega
          have i2 : (k : Int) < (n0 : Int) := by omega
          have zb3 : b < w3.heap.size := Nat.lt_of_lt_of_le hbl b3.size
          have z3 : w.heap.size < w3.heap.size := Nat.lt_of_lt_of_le zm b3.size
          have hwr := mem_writes hM
          have hk20 := mem_secs hM
          clear hcs hdj hv hrv hgx hrx B3 b3 t0 t1 t3 g0 g1 g3 k3 B1 B2 b1 b2 s3 hA fin hB hI hI' hM
          go_wp2_with fail
          refine (newest_any _ E _ _ _ cs y1 hn1 hwr).mono ?_
          rintro e w4 ⟨rfl, b4, D, hown, hL⟩
          have n0' := (b4.cell (p := ⟨w.heap.size, 0, none⟩) z3).trans m0
          have nv := (b4.cell (p := ⟨b, off + k, none⟩) zb3).trans mv
          have HB4 := hidden (Below.andThen HB3.out b4)
          have HX4 := hidden (HX.out.below b4)
          have HOW := hidden hown
          have HL := hidden hL
          have HKEY := hidden (key_int (q := (k : Int)) (by omega) (by omega))
          have B4L := hidden b4
          clear m0 m1 mv b4 hown hL y1 HB3 HX
          cases hlw : lastW cs (k : Int) with
          | none =>
            have HZ : Hid ((lastW cs (k : Int)).getD (secAt ss (k : Int)) = x) := by unfold Hid; rw [hlw, HGX.out]; rfl
            have HLW := hidden hlw
            clear hlw
            have hX : Below w4.heap.size w4 (w4.alloc (.cells #[.int .i64 0, .slice none 0 0] 114)) := (Below.refl _ _).alloc (Nat.le_refl _) _
            have z4 := HB4.out.size
            have z34 := B4L.out.size
            have p0 := (hX.cell (p := ⟨w.heap.size, 0, none⟩) (by simp only; omega)).trans n0'
            have pv := (hX.cell (p := ⟨b, off + k, none⟩) (by simp only; omega)).trans nv
            have HX5 := hidden (HX4.out.below hX)
            have HB5 := hidden (Below.andThen HB4.out hX)
            clear hX
            go_wp2_with (at_lookup; refine look_none rfl _ _ rfl w3.heap.size n1 D w3 cs (k : Int) rfl HOW.out rfl HKEY.out HL.out HLW.out ?_)
            refine (copyWords_any _ _ _ _ x HX5.out (by omega)).mono ?_
            rintro e w5 ⟨a5, c5, rfl, o5, b5⟩
            have hsz := HB5.out.size
            go_wp2
            go_ret2
            exact ⟨_, _, _, rfl, by rw [HZ.out]; exact o5.widen hsz (Nat.le_refl _), Below.andThen HB5.out b5⟩
          | some zs =>
            have HZ : Hid ((lastW cs (k : Int)).getD (secAt ss (k : Int)) = zs) := by unfold Hid; rw [hlw]; rfl
            have HLW := hidden hlw
            have hzl : zs.length ≤ 2097152 := lastW_le hw1 hlw
            clear hlw
            go_wp2_with (at_lookup; refine look_some rfl _ _ rfl w3.heap.size n1 D w3 cs (k : Int) zs rfl HOW.out rfl HKEY.out HL.out HLW.out ?_; intro a9 c9 h9; have H9 := hidden (h9.below B4L.out); clear h9)
            have hX : Below w4.heap.size w4 (w4.alloc (.cells #[.int .i64 (k : Int), .slice a9 zs.length c9] 114)) := (Below.refl _ _).alloc (Nat.le_refl _) _
            have HB5 := hidden (Below.andThen HB4.out hX)
            refine (copyWords_any _ _ _ _ zs (H9.out.below hX) (by omega)).mono ?_
            rintro e w5 ⟨a5, c5, rfl, o5, b5⟩
            have hsz := HB5.out.size
            go_wp2
            go_ret2
            exact ⟨_, _, _, rfl, by rw [HZ.out]; exact o5.widen hsz (Nat.le_refl _), Below.andThen HB5.out b5⟩
      · have hI : inB n 0 ((n0 : Int) - 1) = false := by simpa using hI
        have hro : readOk ss cs false bs n = false := by unfold readOk; rw [hM, hl0, hI]; rfl
        have hrd : readD ss cs false bs n = [] := by unfold readD; rw [hro]; rfl
        rw [hro, hrd]
        clear hro hrd
        go_enter Try.func122, Try.ntmps122
        go_wp2_with fail
        generalize hW : w.alloc (.cells #[.slice a0 n0 c0, .slice a1 n1 c1, .bool false, .slice a3 n3 c3] 54) = W at hA g0 g1 g3 q0 q1 q2 q3 zm ⊢
        clear hW xm
        refine (implMemOk_any _ E _ _ _ _ _ _ _ _ _ ss cs false bs g0 g1 g3 hw).mono ?_
        rintro e w1 ⟨rfl, b1⟩
        have r0 := (b1.cell (p := ⟨w.heap.size, 0, none⟩) zm).trans q0
        have r1 := (b1.cell (p := ⟨w.heap.size, 1, none⟩) zm).trans q1
        have r2 := (b1.cell (p := ⟨w.heap.size, 2, none⟩) zm).trans q2
        have r3 := (b1.cell (p := ⟨w.heap.size, 3, none⟩) zm).trans q3
        have B1 := Below.andThen hA b1
        have z1 := Nat.lt_of_lt_of_le zm b1.size
        clear q0 q1 q2 q3
        go_wp2_with fail
        refine (hasSec_any _ _ _ _ _ _ _ _).mono ?_
        rintro e w2 ⟨rfl, b2⟩
        have t0 := (b2.cell (p := ⟨w.heap.size, 0, none⟩) z1).trans r0
        have t1 := (b2.cell (p := ⟨w.heap.size, 1, none⟩) z1).trans r1
        have t3 := (b2.cell (p := ⟨w.heap.size, 3, none⟩) z1).trans r3
        have B2 := Below.andThen B1 b2
        have z2 := Nat.lt_of_lt_of_le z1 b2.size
        have k3 := g3.below (Below.andThen b1 b2)
        clear r0 r1 r2 r3
        go_wp2
        go_ret2
        exact ⟨_, _, _, rfl, (fin _ B2).1, (fin _ B2).2⟩
  · have hM : memB ss cs bs = false := by simpa using hM
    have hro : readOk ss cs f bs n = false := by unfold readOk; rw [hM]; rfl
    have hrd : readD ss cs f bs n = [] := by unfold readD; rw [hro]; rfl
    rw [hro, hrd]
    clear hro hrd
    go_enter Try.func122, Try.ntmps122
    go_wp2_with fail
    generalize hW : w.alloc (.cells #[.slice a0 n0 c0, .slice a1 n1 c1, .bool f, .slice a3 n3 c3] 54) = W at hA g0 g1 g3 q0 q1 q2 q3 zm ⊢
    clear hW xm
    refine (implMemOk_any _ E _ _ _ _ _ _ _ _ _ ss cs f bs g0 g1 g3 hw).mono ?_
    rintro e w1 ⟨rfl, b1⟩
    have r0 := (b1.cell (p := ⟨w.heap.size, 0, none⟩) zm).trans q0
    have r1 := (b1.cell (p := ⟨w.heap.size, 1, none⟩) zm).trans q1
    have r2 := (b1.cell (p := ⟨w.heap.size, 2, none⟩) zm).trans q2
    have r3 := (b1.cell (p := ⟨w.heap.size, 3, none⟩) zm).trans q3
    have B1 := Below.andThen hA b1
    have z1 := Nat.lt_of_lt_of_le zm b1.size
    clear q0 q1 q2 q3
    go_wp2
    go_ret2
    exact ⟨_, _, _, rfl, (fin _ B1).1, (fin _ B1).2⟩

end Go.Proofs.Ytfimpohbpccjaaa

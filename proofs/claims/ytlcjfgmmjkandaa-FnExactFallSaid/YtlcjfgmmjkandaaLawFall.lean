/-
  The walk of the exact law of Fall: at every list of disks and every slice of int it answers true, and nothing that was there has turned. No condition.
-/
import Derived.Test.YtlcjfgmmjkandaaWalkFall9S
import Derived.Test.YtlcjfgmmjkandaaWalkFall9I
import Derived.Test.YtlcjfgmmjkandaaWalkHeldArr
import Derived.Test.YtlcjfgmmjkandaaWalkMarkMems
namespace Go.Proofs.Ytlcjfgmmjkandaa
open Go.RowKit

set_option linter.unusedSimpArgs false in
set_option maxRecDepth 20000 in
set_option maxHeartbeats 4000000 in
theorem fnExactFall_walk (am : Option Addr) (nm cm : Nat) (ms : List MemD) (a5 : Option Addr) (n5 c5 : Nat) (sw : List Int) (w : World) (h0 : (tMemS 122 70).Rd w [.slice am nm cm] ms) (h5 : tIntS.Rd w [.slice a5 n5 c5] sw) :
    Calls Try.prog 4 #[.slice am nm cm, .slice a5 n5 c5] w fun e w' => e = .returned (.bool true) ∧ Below w.heap.size w w' := by
  obtain ⟨_, hl5, _, hm5⟩ := ints_rd h5
  by_cases hbig : n5 ≤ 1048576
  case neg =>
    have hbg : (1048576 : Int) < (n5 : Int) := by omega
    go_enter Try.func4, Try.ntmps4
    go_wp2
    go_ret
    exact ⟨rfl, Below.refl _ _⟩
  have hbg : ¬ (1048576 : Int) < (n5 : Int) := by omega
  go_enter Try.func4, Try.ntmps4
  go_wp2_with fail
  refine (szMemS_any _ 122 70 _ _ _ ms _ h0 (by omega) (by omega)).mono ?_
  rintro e w1 ⟨rfl, hb1⟩
  have B1 := hidden hb1
  have z1 := hb1.size
  clear hb1
  by_cases hwt : (wtMemS ms : Int) ≤ 1048576
  · have hq := leftOf_pos hwt
    have hwt' : wtMemS ms ≤ 1048576 := by omega
    have hwt2 : wtMemS ms ≤ 2097152 := by omega
    have hd : decide (sw = sw) = true := by simp
    have hwq := Nat.le_trans (fallL_wt ms sw) hwt'
    have HLQ := hidden (fallL_length ms sw)
    have hcq := cntMS_le (fallL ms sw)
    have hcp := cntMS_le ms
    generalize hQ : fallL ms sw = Q at hwq HLQ hcq
    have HQ := hidden hQ
    clear hQ
    go_wp2_with fail
    refine (toMemS_any _ 122 70 _ _ _ ms (h0.below B1.out) hwt').mono ?_
    rintro e w2 ⟨rfl, o2, hb2⟩
    have B2 := hidden (Below.andThen B1.out hb2)
    have z2 := hb2.size
    clear B1 hb2
    have Y2 := hidden o2
    clear o2
    go_wp2_with fail
    refine (toIntS_any _ _ _ _ sw hl5 (ints_rd (h5.below B2.out)).1 (by omega)).mono ?_
    rintro e w3 ⟨rfl, o3, hb3⟩
    have B3 := hidden (Below.andThen B2.out hb3)
    have Y3 := hidden (Y2.out.below hb3)
    have z3 := hb3.size
    clear B2 Y2 hb3
    have YS3 := hidden (own_ints o3)
    clear o3
    go_wp2_with fail
    refine (specFall_any _ 108 73 _ _ _ _ _ _ ms sw Y3.out.rd YS3.out.rd hwt2).mono ?_
    rintro e w4 ho4
    rw [HQ.out] at ho4
    obtain ⟨b4, c4, rfl, o4, hb4⟩ := ho4
    have B4 := hidden (Below.andThen B3.out hb4)
    have Y4 := hidden (Y3.out.below hb4)
    have YS4 := hidden (YS3.out.below hb4)
    have z4 := hb4.size
    clear B3 Y3 YS3 hb4
    have W4 := hidden o4
    clear o4
    clear Y4
    clear YS4
    go_wp2_with fail
    refine (toMemS_any _ 122 70 _ _ _ ms (h0.below B4.out) hwt').mono ?_
    rintro e w5 ⟨rfl, o5, hb5⟩
    have B5 := hidden (Below.andThen B4.out hb5)
    have W5 := hidden (W4.out.below hb5)
    have z5 := hb5.size
    clear B4 W4 hb5
    have X5 := hidden o5
    clear o5
    go_wp2_with fail
    refine (toIntS_any _ _ _ _ sw hl5 (ints_rd (h5.below B5.out)).1 (by omega)).mono ?_
    rintro e w6 ⟨rfl, o6, hb6⟩
    have B6 := hidden (Below.andThen B5.out hb6)
    have W6 := hidden (W5.out.below hb6)
    have X6 := hidden (X5.out.below hb6)
    have z6 := hb6.size
    clear B5 W5 X5 hb6
    have XS6 := hidden (own_ints o6)
    clear o6
    go_wp2_with fail
    refine (implFall_any _ 108 73 _ _ _ _ _ _ ms sw X6.out.rd XS6.out.rd hwt2).mono ?_
    rintro e w7 ho7
    rw [HQ.out] at ho7
    obtain ⟨b7, c7, rfl, o7, hb7⟩ := ho7
    have B7 := hidden (Below.andThen B6.out hb7)
    have W7 := hidden (W6.out.below hb7)
    have X7 := hidden (X6.out.below hb7)
    have XS7 := hidden (XS6.out.below hb7)
    have z7 := hb7.size
    clear B6 W6 X6 XS6 hb7
    have G7 := hidden o7
    clear o7
    go_wp2_with fail
    refine (eqMemS_same _ 108 108 73 73 _ _ _ _ _ _ Q G7.out.rd W7.out.rd (by omega)).mono ?_
    rintro e w8 ⟨rfl, hb8⟩
    have B8 := hidden (Below.andThen B7.out hb8)
    have W8 := hidden (W7.out.below hb8)
    have X8 := hidden (X7.out.below hb8)
    have XS8 := hidden (XS7.out.below hb8)
    have G8 := hidden (G7.out.below hb8)
    have z8 := hb8.size
    clear B7 W7 X7 XS7 G7 hb8
    go_wp2_with fail
    refine (toMemS_any _ 122 70 _ _ _ ms (h0.below B8.out) hwt').mono ?_
    rintro e w9 ⟨rfl, o9, hb9⟩
    have B9 := hidden (Below.andThen B8.out hb9)
    have W9 := hidden (W8.out.below hb9)
    have X9 := hidden (X8.out.below hb9)
    have XS9 := hidden (XS8.out.below hb9)
    have G9 := hidden (G8.out.below hb9)
    have z9 := hb9.size
    clear B8 W8 X8 XS8 G8 hb9
    have Y9 := hidden o9
    clear o9
    go_wp2_with fail
    refine (eqMemS_same _ 108 108 73 73 _ _ _ _ _ _ ms X9.out.rd Y9.out.rd hwt2).mono ?_
    rintro e w10 ⟨rfl, hb10⟩
    have B10 := hidden (Below.andThen B9.out hb10)
    have W10 := hidden (W9.out.below hb10)
    have X10 := hidden (X9.out.below hb10)
    have XS10 := hidden (XS9.out.below hb10)
    have G10 := hidden (G9.out.below hb10)
    have Y10 := hidden (Y9.out.below hb10)
    have z10 := hb10.size
    clear B9 W9 X9 XS9 G9 Y9 hb10
    clear Y10
    go_wp2_with fail
    refine (toIntS_any _ _ _ _ sw hl5 (ints_rd (h5.below B10.out)).1 (by omega)).mono ?_
    rintro e w11 ⟨rfl, o11, hb11⟩
    have B11 := hidden (Below.andThen B10.out hb11)
    have W11 := hidden (W10.out.below hb11)
    have X11 := hidden (X10.out.below hb11)
    have XS11 := hidden (XS10.out.below hb11)
    have G11 := hidden (G10.out.below hb11)
    have z11 := hb11.size
    clear B10 W10 X10 XS10 G10 hb11
    have YS11 := hidden (own_ints o11)
    clear o11
    go_wp2_with fail
    refine (eqIntS_any _ _ _ _ _ _ _ sw sw hl5 hl5 (ints_rd XS11.out.rd).1 (ints_rd YS11.out.rd).1 (by omega)).mono ?_
    rintro e w12 ⟨rfl, hs12⟩
    clear YS11
    have B12 := hidden (Below.andSame B11.out hs12)
    have W12 := hidden (W11.out.same hs12)
    have X12 := hidden (X11.out.same hs12)
    have XS12 := hidden (XS11.out.same hs12)
    have G12 := hidden (G11.out.same hs12)
    have z12 := Nat.le_of_eq hs12.size.symm
    clear B11 W11 X11 XS11 G11 hs12
    obtain ⟨fpX, mX, rX⟩ := X12.out.mine
    go_wp2_with fail
    refine (markMemS_fp _ _ _ _ ms _ fpX mX hwt2 (by omega) (by omega)).mono ?_
    rintro e w13 ⟨rfl, m13, t13⟩
    clear X12
    have hb13 := t13.but rX
    clear mX m13 t13 rX
    have B13 := hidden (Below.andBut B12.out hb13 (by omega))
    have W13 := hidden (W12.out.but hb13 (by omega))
    have XS13 := hidden (XS12.out.but hb13 (by omega))
    have G13 := hidden (G12.out.but hb13 (by omega))
    have z13 := hb13.size
    clear B12 W12 XS12 G12 hb13
    generalize hC : cntMS ms = C at hcp ⊢
    clear hC
    obtain ⟨fpS, mS, rS⟩ := XS13.out.mine
    go_wp2_with fail
    refine (markIntS_fp _ _ _ _ sw _ fpS mS (by omega) (by omega) (by omega)).mono ?_
    rintro e w14 ⟨rfl, m14, t14⟩
    clear XS13
    have hb14 := t14.but rS
    clear mS m14 t14 rS
    have B14 := hidden (Below.andBut B13.out hb14 (by omega))
    have W14 := hidden (W13.out.but hb14 (by omega))
    have G14 := hidden (G13.out.but hb14 (by omega))
    have z14 := hb14.size
    clear B13 W13 G13 hb14
    go_wp2_with fail
    refine (eqMemS_same _ 108 108 73 73 _ _ _ _ _ _ Q G14.out.rd W14.out.rd (by omega)).mono ?_
    rintro e w15 ⟨rfl, hb15⟩
    have B15 := hidden (Below.andThen B14.out hb15)
    have W15 := hidden (W14.out.below hb15)
    have G15 := hidden (G14.out.below hb15)
    have z15 := hb15.size
    clear B14 W14 G14 hb15
    obtain ⟨fpG, mG, rG⟩ := G15.out.mine
    go_wp2_with fail
    refine (markMemS_fp _ _ _ _ Q _ fpG mG (by omega) (by omega) (by omega)).mono ?_
    rintro e w16 ⟨rfl, m16, t16⟩
    clear G15
    have hb16 := t16.but rG
    have o16 := m16.own rG
    clear mG m16 t16 rG
    have B16 := hidden (Below.andBut B15.out hb16 (by omega))
    have W16 := hidden (W15.out.but hb16 (by omega))
    have z16 := hb16.size
    clear B15 W15 hb16
    have G16 := hidden o16
    clear o16
    go_wp2_with fail
    refine (heldMemS_any _ 108 73 _ _ _ Q _ G16.out.rd (by omega) (by omega) (by omega)).mono ?_
    rintro e w17 ⟨rfl, hs17⟩
    have B17 := hidden (Below.andSame B16.out hs17)
    have W17 := hidden (W16.out.same hs17)
    have G17 := hidden (G16.out.same hs17)
    have z17 := Nat.le_of_eq hs17.size.symm
    clear B16 W16 G16 hs17
    generalize hE : cntMS Q = CE at hcq ⊢
    have HE := hidden hE
    clear hE
    go_wp2_with fail
    refine (toMemS_any _ 122 70 _ _ _ ms (h0.below B17.out) hwt').mono ?_
    rintro e w18 ⟨rfl, o18, hb18⟩
    have B18 := hidden (Below.andThen B17.out hb18)
    have W18 := hidden (W17.out.below hb18)
    have G18 := hidden (G17.out.below hb18)
    have z18 := hb18.size
    clear B17 W17 G17 hb18
    have Y18 := hidden o18
    clear o18
    go_wp2_with fail
    refine (toIntS_any _ _ _ _ sw hl5 (ints_rd (h5.below B18.out)).1 (by omega)).mono ?_
    rintro e w19 ⟨rfl, o19, hb19⟩
    have B19 := hidden (Below.andThen B18.out hb19)
    have W19 := hidden (W18.out.below hb19)
    have G19 := hidden (G18.out.below hb19)
    have Y19 := hidden (Y18.out.below hb19)
    have z19 := hb19.size
    clear B18 W18 G18 Y18 hb19
    have YS19 := hidden (own_ints o19)
    clear o19
    go_wp2_with fail
    refine (implFall_any _ 108 73 _ _ _ _ _ _ ms sw Y19.out.rd YS19.out.rd hwt2).mono ?_
    rintro e w20 ho20
    rw [HQ.out] at ho20
    obtain ⟨b20, c20, rfl, o20, hb20⟩ := ho20
    have B20 := hidden (Below.andThen B19.out hb20)
    have W20 := hidden (W19.out.below hb20)
    have G20 := hidden (G19.out.below hb20)
    have Y20 := hidden (Y19.out.below hb20)
    have YS20 := hidden (YS19.out.below hb20)
    have z20 := hb20.size
    clear B19 W19 G19 Y19 YS19 hb20
    have H20 := hidden o20
    clear o20
    clear Y20
    clear YS20
    go_wp2_with fail
    refine (eqMemS_same _ 108 108 73 73 _ _ _ _ _ _ Q H20.out.rd W20.out.rd (by omega)).mono ?_
    rintro e w21 ⟨rfl, hb21⟩
    have B21 := hidden (Below.andThen B20.out hb21)
    have W21 := hidden (W20.out.below hb21)
    have G21 := hidden (G20.out.below hb21)
    have H21 := hidden (H20.out.below hb21)
    have z21 := hb21.size
    clear B20 W20 G20 H20 hb21
    clear H21
    clear W21
    go_wp2_with fail
    refine (heldMemS_any _ 108 73 _ _ _ Q _ G21.out.rd (by omega) (by omega) (by omega)).mono ?_
    rintro e w22 ⟨rfl, hs22⟩
    have B22 := hidden (Below.andSame B21.out hs22)
    have G22 := hidden (G21.out.same hs22)
    have z22 := Nat.le_of_eq hs22.size.symm
    clear B21 G21 hs22
    rw [HE.out]
    go_wp2
    go_ret
    exact ⟨rfl, B22.out⟩
  · have hq := leftOf_neg (left := 1048576) (wt := wtMemS ms) (by omega)
    go_wp2
    go_ret
    exact ⟨rfl, B1.out⟩

end Go.Proofs.Ytlcjfgmmjkandaa

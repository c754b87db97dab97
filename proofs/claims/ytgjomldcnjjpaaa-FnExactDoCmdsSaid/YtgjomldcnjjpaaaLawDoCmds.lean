/-
  The walk of the exact law of DoCmds: at every argument it answers true, and nothing that was there has turned. No condition.
-/
import Derived.Test.YtgjomldcnjjpaaaWalkDosS
import Derived.Test.YtgjomldcnjjpaaaAnsS14
import Derived.Test.YtgjomldcnjjpaaaWalkToGeo
namespace Go.Proofs.Ytgjomldcnjjpaaa
open Go.RowKit

theorem doS_wt (gn gs : Int) (ls : List Int) (cs : List CmdD) : wttAnsS (doS gn gs ls cs).2 ≤ 2800 := by
  have h1 := (doS_len gn gs ls cs).2
  have h2 := doL_wt gn gs ls (cs.take 400)
  rw [List.length_take] at h2
  unfold wttAnsS
  unfold doS at h1 ⊢
  omega
theorem implDoCmds_v (w : World) (E : TypeId) (gn gs : Int) (al : Option Addr) (nl cl : Nat) (ls : List Int) (hls : tIntS.Rd w [.slice al nl cl] ls) (hnl : nl ≤ 2097152) (ac : Option Addr) (nc cc : Nat) (cs : List CmdD) (hcs : (tCmdS E).Rd w [.slice ac nc cc] cs) (hw : wttCmdS cs ≤ 1048576) {xs : List Int} {ys : List AnsD} {yn : Nat} (hx : doS gn gs ls cs = (xs, ys)) (hy : ys.length = yn) :
    Calls Try.prog 9 #[.agg #[.int .i64 gn, .int .i64 gs], .slice al nl cl, .slice ac nc cc] w fun e w' => ∃ mid a1 c1 a2 c2, e = .returned (.tuple #[.slice a1 nl c1, .slice a2 yn c2]) ∧ tIntS.Own w' w.heap.size mid [.slice a1 nl c1] xs ∧ (tAnsS 44).Own w' mid w'.heap.size [.slice a2 yn c2] ys ∧ w.heap.size ≤ mid ∧ mid ≤ w'.heap.size ∧ Below w.heap.size w w' := by
  refine (implDoCmds_any w E gn gs al nl cl ls hls hnl ac nc cc cs hcs hw).mono ?_
  rintro e w' ⟨mid, a1, c1, a2, m2, c2, rfl, o1, o2, h1, h2, hb⟩
  rw [hx] at o1 o2
  obtain rfl : m2 = yn := slice_len o2 hy
  exact ⟨mid, a1, c1, a2, c2, rfl, o1, o2, h1, h2, hb⟩
theorem specDoCmds_v (w : World) (E : TypeId) (gn gs : Int) (al : Option Addr) (nl cl : Nat) (ls : List Int) (hls : tIntS.Rd w [.slice al nl cl] ls) (hnl : nl ≤ 2097152) (ac : Option Addr) (nc cc : Nat) (cs : List CmdD) (hcs : (tCmdS E).Rd w [.slice ac nc cc] cs) (hw : wttCmdS cs ≤ 1048576) {xs : List Int} {ys : List AnsD} {yn : Nat} (hx : doS gn gs ls cs = (xs, ys)) (hy : ys.length = yn) :
    Calls Try.prog 34 #[.agg #[.int .i64 gn, .int .i64 gs], .slice al nl cl, .slice ac nc cc] w fun e w' => ∃ a1 c1 a2 c2, e = .returned (.tuple #[.slice a1 nl c1, .slice a2 yn c2]) ∧ tIntS.Own w' w.heap.size w'.heap.size [.slice a1 nl c1] xs ∧ (tAnsS 44).Own w' w.heap.size w'.heap.size [.slice a2 yn c2] ys ∧ Below w.heap.size w w' := by
  refine (specDoCmds_any w E gn gs al nl cl ls hls hnl ac nc cc cs hcs hw).mono ?_
  rintro e w' ⟨a1, c1, a2, m2, c2, rfl, o1, o2, hb⟩
  rw [hx] at o1 o2
  obtain rfl : m2 = yn := slice_len o2 hy
  exact ⟨a1, c1, a2, c2, rfl, o1, o2, hb⟩

set_option maxRecDepth 20000 in
set_option maxHeartbeats 4000000 in
theorem fnExactDoCmds_walk (gn gs : Int) (al : Option Addr) (nl cl : Nat) (ls : List Int) (ac : Option Addr) (nc cc : Nat) (cs : List CmdD) (w : World) (hL : tIntS.Rd w [.slice al nl cl] ls) (hC : (tCmdS 49).Rd w [.slice ac nc cc] cs) :
    Calls Try.prog 6 #[.agg #[.int .i64 gn, .int .i64 gs], .slice al nl cl, .slice ac nc cc] w fun e w' => e = .returned (.bool true) ∧ Below w.heap.size w w' := by
  obtain ⟨hrL, hlL, hncL, hcmL⟩ := ints_rd hL
  have hA := new_below w (.cells #[.int .i64 gn, .int .i64 gs] 45)
  have xG := Box.new w 45 #[.int .i64 gn, .int .i64 gs]
  have z0 := xG.lt
  have B0 := hidden hA
  have BG0 := hidden xG
  have HC := hidden hC
  clear hA xG hC hL
  have hyw := doS_wt gn gs ls cs
  have hlen := doS_len gn gs ls cs
  obtain ⟨xs, ys, hx⟩ : ∃ xs ys, doS gn gs ls cs = (xs, ys) := ⟨_, _, rfl⟩
  rw [hx] at hyw hlen
  simp only at hyw hlen
  rw [hlL] at hlen
  obtain ⟨yn, hyn⟩ : ∃ yn, ys.length = yn := ⟨_, rfl⟩
  have hcy := cnttAnsS_le ys
  have hcc := cnttCmdS_le cs
  have HX := hidden hx
  have HY := hidden hyn
  have HXL := hidden hlen.1
  clear hx hyn hlen
  have hdl : decide (ls = ls) = true := by simp
  have hdx : decide (xs = xs) = true := by simp
  by_cases hbig : nl ≤ 1048576
  case neg =>
    have hbg : (1048576 : Int) < (nl : Int) := by omega
    go_enter Try.func6, Try.ntmps6
    go_wp2
    go_ret
    exact ⟨rfl, B0.out⟩
  have hbg : ¬ (1048576 : Int) < (nl : Int) := by omega
  go_enter Try.func6, Try.ntmps6
  go_wp2_with fail
  generalize w.alloc (.cells #[.int .i64 gn, .int .i64 gs] 45) = w0 at B0 BG0 z0 ⊢
  refine (szCmdS_any _ 49 _ _ _ cs _ (HC.out.below B0.out) (by omega) (by omega)).mono ?_
  rintro e w1 ⟨rfl, hb1⟩
  have B1 := hidden (Below.andThen B0.out hb1)
  have BG1 := hidden (BG0.out.below hb1 (by omega))
  have z1 := hb1.size
  clear B0 BG0 hb1
  by_cases hwt : (wttCmdS cs : Int) ≤ 1048576
  rotate_left
  · have hq := leftOf_neg (left := 1048576) (wt := wttCmdS cs) (by omega)
    go_wp2
    go_ret
    exact ⟨rfl, B1.out⟩
  have hq0 := leftOf_pos hwt
  have hwt' : wttCmdS cs ≤ 1048576 := by omega
  generalize hcA : cnttAnsS ys = ca at hcy
  have HCA := hidden hcA
  generalize hcC : cnttCmdS cs = cb at hcc
  have HCC := hidden hcC
  clear hcA hcC
  obtain ⟨l0, l1⟩ := BG1.out.cells2
  go_wp2_with fail
  refine (toGeo_any _ _ _).mono ?_
  rintro e w2 ⟨rfl, hb2⟩
  clear l0 l1
  have B2 := hidden (Below.andThen B1.out hb2)
  have BG2 := hidden (BG1.out.below hb2 (by omega))
  have z2 := hb2.size
  clear B1 BG1 hb2
  go_wp2_with fail
  refine (toIntS_ex _ _ _ _ ls hlL (hrL.below B2.out) (by omega)).mono ?_
  rintro e w3 ⟨aL3, rfl, o3, hb3⟩
  have B3 := hidden (Below.andThen B2.out hb3)
  have BG3 := hidden (BG2.out.below hb3 (by omega))
  have z3 := hb3.size
  clear B2 BG2 hb3
  have P3 := hidden o3
  clear o3
  go_wp2_with fail
  refine (toCmdS_any _ 49 _ _ _ cs (HC.out.below B3.out) hwt').mono ?_
  rintro e w4 ⟨aC4, rfl, o4, hb4⟩
  have B4 := hidden (Below.andThen B3.out hb4)
  have BG4 := hidden (BG3.out.below hb4 (by omega))
  have P4 := hidden (P3.out.below hb4)
  have z4 := hb4.size
  clear B3 BG3 P3 hb4
  have Q4 := hidden o4
  clear o4
  go_wp2_with fail
  refine (specDoCmds_v _ 37 gn gs _ _ _ ls P4.out.rd (by omega) _ _ _ cs Q4.out.rd hwt' HX.out HY.out).mono ?_
  rintro e w5 ⟨ag5, cg5, au5, cu5, rfl, ox5, oy5, hb5⟩
  have B5 := hidden (Below.andThen B4.out hb5)
  have BG5 := hidden (BG4.out.below hb5 (by omega))
  have P5 := hidden (P4.out.below hb5)
  have Q5 := hidden (Q4.out.below hb5)
  have z5 := hb5.size
  clear B4 BG4 P4 Q4 hb5
  have W5 := hidden ox5
  clear ox5
  have V5 := hidden oy5
  clear oy5
  clear P5
  clear Q5
  go_wp2_with fail
  refine (toIntS_ex _ _ _ _ ls hlL (hrL.below B5.out) (by omega)).mono ?_
  rintro e w6 ⟨aL6, rfl, o6, hb6⟩
  have B6 := hidden (Below.andThen B5.out hb6)
  have BG6 := hidden (BG5.out.below hb6 (by omega))
  have W6 := hidden (W5.out.below hb6)
  have V6 := hidden (V5.out.below hb6)
  have z6 := hb6.size
  clear B5 BG5 W5 V5 hb6
  have XL6 := hidden o6
  clear o6
  go_wp2_with fail
  refine (toCmdS_any _ 49 _ _ _ cs (HC.out.below B6.out) hwt').mono ?_
  rintro e w7 ⟨aC7, rfl, o7, hb7⟩
  have B7 := hidden (Below.andThen B6.out hb7)
  have BG7 := hidden (BG6.out.below hb7 (by omega))
  have W7 := hidden (W6.out.below hb7)
  have V7 := hidden (V6.out.below hb7)
  have XL7 := hidden (XL6.out.below hb7)
  have z7 := hb7.size
  clear B6 BG6 W6 V6 XL6 hb7
  have D7 := hidden o7
  clear o7
  obtain ⟨l0, l1⟩ := BG7.out.cells2
  go_wp2_with fail
  refine (toGeo_any _ _ _).mono ?_
  rintro e w8 ⟨rfl, hb8⟩
  clear l0 l1
  have B8 := hidden (Below.andThen B7.out hb8)
  have BG8 := hidden (BG7.out.below hb8 (by omega))
  have W8 := hidden (W7.out.below hb8)
  have V8 := hidden (V7.out.below hb8)
  have XL8 := hidden (XL7.out.below hb8)
  have D8 := hidden (D7.out.below hb8)
  have z8 := hb8.size
  clear B7 BG7 W7 V7 XL7 D7 hb8
  go_wp2_with fail
  refine (implDoCmds_v _ 37 gn gs _ _ _ ls XL8.out.rd (by omega) _ _ _ cs D8.out.rd hwt' HX.out HY.out).mono ?_
  rintro e w9 ⟨mid9, ag9, cg9, au9, cu9, rfl, ox9, oy9, hm9a, hm9b, hb9⟩
  have B9 := hidden (Below.andThen B8.out hb9)
  have BG9 := hidden (BG8.out.below hb9 (by omega))
  have W9 := hidden (W8.out.below hb9)
  have V9 := hidden (V8.out.below hb9)
  have XL9 := hidden (XL8.out.below hb9)
  have D9 := hidden (D8.out.below hb9)
  have z9 := hb9.size
  clear B8 BG8 W8 V8 XL8 D8 hb9
  have G9 := hidden ox9
  clear ox9
  have U9 := hidden oy9
  clear oy9
  go_wp2_with fail
  refine (eqIntS_any _ _ _ _ _ _ _ xs xs HXL.out HXL.out (ints_rd G9.out.rd).1 (ints_rd W9.out.rd).1 (by omega)).mono ?_
  rintro e w10 ⟨rfl, hs10⟩
  have B10 := hidden (Below.andSame B9.out hs10)
  have BG10 := hidden (BG9.out.same hs10)
  have W10 := hidden (W9.out.same hs10)
  have V10 := hidden (V9.out.same hs10)
  have XL10 := hidden (XL9.out.same hs10)
  have D10 := hidden (D9.out.same hs10)
  have G10 := hidden (G9.out.same hs10)
  have U10 := hidden (U9.out.same hs10)
  have z10 := Nat.le_of_eq hs10.size.symm
  clear B9 BG9 W9 V9 XL9 D9 G9 U9 hs10
  go_wp2_with fail
  refine (eqAnsS_same _ 44 44 _ _ _ _ _ ys U10.out.rd V10.out.rd (by omega)).mono ?_
  rintro e w11 ⟨rfl, hb11⟩
  have B11 := hidden (Below.andThen B10.out hb11)
  have BG11 := hidden (BG10.out.below hb11 (by omega))
  have W11 := hidden (W10.out.below hb11)
  have V11 := hidden (V10.out.below hb11)
  have XL11 := hidden (XL10.out.below hb11)
  have D11 := hidden (D10.out.below hb11)
  have G11 := hidden (G10.out.below hb11)
  have U11 := hidden (U10.out.below hb11)
  have z11 := hb11.size
  clear B10 BG10 W10 V10 XL10 D10 G10 U10 hb11
  go_wp2_with fail
  refine (toIntS_ex _ _ _ _ ls hlL (hrL.below B11.out) (by omega)).mono ?_
  rintro e w12 ⟨aL12, rfl, o12, hb12⟩
  have B12 := hidden (Below.andThen B11.out hb12)
  have BG12 := hidden (BG11.out.below hb12 (by omega))
  have W12 := hidden (W11.out.below hb12)
  have V12 := hidden (V11.out.below hb12)
  have XL12 := hidden (XL11.out.below hb12)
  have D12 := hidden (D11.out.below hb12)
  have G12 := hidden (G11.out.below hb12)
  have U12 := hidden (U11.out.below hb12)
  have z12 := hb12.size
  clear B11 BG11 W11 V11 XL11 D11 G11 U11 hb12
  have T12 := hidden o12
  clear o12
  go_wp2_with fail
  refine (eqIntS_any _ _ _ _ _ _ _ ls ls hlL hlL (ints_rd XL12.out.rd).1 (ints_rd T12.out.rd).1 (by omega)).mono ?_
  rintro e w13 ⟨rfl, hs13⟩
  have B13 := hidden (Below.andSame B12.out hs13)
  have BG13 := hidden (BG12.out.same hs13)
  have W13 := hidden (W12.out.same hs13)
  have V13 := hidden (V12.out.same hs13)
  have XL13 := hidden (XL12.out.same hs13)
  have D13 := hidden (D12.out.same hs13)
  have G13 := hidden (G12.out.same hs13)
  have U13 := hidden (U12.out.same hs13)
  have T13 := hidden (T12.out.same hs13)
  have z13 := Nat.le_of_eq hs13.size.symm
  clear B12 BG12 W12 V12 XL12 D12 G12 U12 T12 hs13
  clear T13
  go_wp2_with fail
  refine (toCmdS_any _ 49 _ _ _ cs (HC.out.below B13.out) hwt').mono ?_
  rintro e w14 ⟨aC14, rfl, o14, hb14⟩
  have B14 := hidden (Below.andThen B13.out hb14)
  have BG14 := hidden (BG13.out.below hb14 (by omega))
  have W14 := hidden (W13.out.below hb14)
  have V14 := hidden (V13.out.below hb14)
  have XL14 := hidden (XL13.out.below hb14)
  have D14 := hidden (D13.out.below hb14)
  have G14 := hidden (G13.out.below hb14)
  have U14 := hidden (U13.out.below hb14)
  have z14 := hb14.size
  clear B13 BG13 W13 V13 XL13 D13 G13 U13 hb14
  have T14 := hidden o14
  clear o14
  go_wp2_with fail
  refine (eqCmdS_same _ 37 37 _ _ _ _ _ cs D14.out.rd T14.out.rd (by omega)).mono ?_
  rintro e w15 ⟨rfl, hb15⟩
  have B15 := hidden (Below.andThen B14.out hb15)
  have BG15 := hidden (BG14.out.below hb15 (by omega))
  have W15 := hidden (W14.out.below hb15)
  have V15 := hidden (V14.out.below hb15)
  have XL15 := hidden (XL14.out.below hb15)
  have D15 := hidden (D14.out.below hb15)
  have G15 := hidden (G14.out.below hb15)
  have U15 := hidden (U14.out.below hb15)
  have T15 := hidden (T14.out.below hb15)
  have z15 := hb15.size
  clear B14 BG14 W14 V14 XL14 D14 G14 U14 T14 hb15
  clear T15
  go_wp2_with fail
  obtain ⟨fpM, mM, rM⟩ := XL15.out.mine
  refine (markIntS_fp _ _ _ _ ls _ fpM mM (by omega) (by omega) (by omega)).mono ?_
  rintro e w16 ⟨rfl, mN, tN⟩
  clear XL15
  have hb16 := tN.but rM
  clear mM mN tN rM
  have B16 := hidden (Below.andBut B15.out hb16 (by omega))
  have BG16 := hidden (BG15.out.kept (hb16.block _ (by omega) (by omega)))
  have W16 := hidden (W15.out.but hb16 (by omega))
  have V16 := hidden (V15.out.but hb16 (by omega))
  have D16 := hidden (D15.out.but hb16 (by omega))
  have G16 := hidden (G15.out.but hb16 (by omega))
  have U16 := hidden (U15.out.but hb16 (by omega))
  have z16 := hb16.size
  clear B15 BG15 W15 V15 D15 G15 U15 hb16
  go_wp2_with fail
  obtain ⟨fpM, mM, rM⟩ := D16.out.mine
  refine (markCmdS_fp _ _ _ _ cs _ fpM mM (by omega) (by omega) (by rw [HCC.out]; omega)).mono ?_
  rintro e w17 ⟨rfl, mN, tN⟩
  rw [HCC.out]
  clear D16
  have hb17 := tN.but rM
  clear mM mN tN rM
  have B17 := hidden (Below.andBut B16.out hb17 (by omega))
  have BG17 := hidden (BG16.out.kept (hb17.block _ (by omega) (by omega)))
  have W17 := hidden (W16.out.but hb17 (by omega))
  have V17 := hidden (V16.out.but hb17 (by omega))
  have G17 := hidden (G16.out.but hb17 (by omega))
  have U17 := hidden (U16.out.but hb17 (by omega))
  have z17 := hb17.size
  clear B16 BG16 W16 V16 G16 U16 hb17
  go_wp2_with fail
  refine (eqIntS_any _ _ _ _ _ _ _ xs xs HXL.out HXL.out (ints_rd G17.out.rd).1 (ints_rd W17.out.rd).1 (by omega)).mono ?_
  rintro e w18 ⟨rfl, hs18⟩
  have B18 := hidden (Below.andSame B17.out hs18)
  have BG18 := hidden (BG17.out.same hs18)
  have W18 := hidden (W17.out.same hs18)
  have V18 := hidden (V17.out.same hs18)
  have G18 := hidden (G17.out.same hs18)
  have U18 := hidden (U17.out.same hs18)
  have z18 := Nat.le_of_eq hs18.size.symm
  clear B17 BG17 W17 V17 G17 U17 hs18
  go_wp2_with fail
  refine (eqAnsS_same _ 44 44 _ _ _ _ _ ys U18.out.rd V18.out.rd (by omega)).mono ?_
  rintro e w19 ⟨rfl, hb19⟩
  have B19 := hidden (Below.andThen B18.out hb19)
  have BG19 := hidden (BG18.out.below hb19 (by omega))
  have W19 := hidden (W18.out.below hb19)
  have V19 := hidden (V18.out.below hb19)
  have G19 := hidden (G18.out.below hb19)
  have U19 := hidden (U18.out.below hb19)
  have z19 := hb19.size
  clear B18 BG18 W18 V18 G18 U18 hb19
  go_wp2_with fail
  obtain ⟨fpM, mM, rM⟩ := G19.out.mine
  refine (markIntS_fp _ _ _ _ xs _ fpM mM (by omega) (by omega) (by omega)).mono ?_
  rintro e w20 ⟨rfl, mN, tN⟩
  clear G19
  have hb20 := tN.but rM
  have gN := mN.own rM
  clear mM mN tN rM
  have B20 := hidden (Below.andBut B19.out hb20 (by omega))
  have BG20 := hidden (BG19.out.kept (hb20.block _ (by omega) (by omega)))
  have W20 := hidden (W19.out.but hb20 (by omega))
  have V20 := hidden (V19.out.but hb20 (by omega))
  have U20 := hidden (U19.out.but hb20 (by omega))
  have z20 := hb20.size
  clear B19 BG19 W19 V19 U19 hb20
  have G20 := hidden gN
  clear gN
  go_wp2_with fail
  obtain ⟨fpM, mM, rM⟩ := U20.out.mine
  refine (markAnsS_fp _ _ _ _ ys _ fpM mM (by omega) (by omega) (by rw [HCA.out]; omega)).mono ?_
  rintro e w21 ⟨rfl, mN, tN⟩
  rw [HCA.out]
  clear U20
  have hb21 := tN.but rM
  have gN := mN.own rM
  clear mM mN tN rM
  have B21 := hidden (Below.andBut B20.out hb21 (by omega))
  have BG21 := hidden (BG20.out.kept (hb21.block _ (by omega) (by omega)))
  have W21 := hidden (W20.out.but hb21 (by omega))
  have V21 := hidden (V20.out.but hb21 (by omega))
  have G21 := hidden (G20.out.but hb21 (by omega))
  have z21 := hb21.size
  clear B20 BG20 W20 V20 G20 hb21
  have U21 := hidden gN
  clear gN
  go_wp2_with fail
  refine (heldIntS_any _ _ _ _ _ (ints_rd G21.out.rd).1 (by omega) (by omega) (by omega)).mono ?_
  rintro e w22 ⟨rfl, hs22⟩
  have B22 := hidden (Below.andSame B21.out hs22)
  have BG22 := hidden (BG21.out.same hs22)
  have W22 := hidden (W21.out.same hs22)
  have V22 := hidden (V21.out.same hs22)
  have G22 := hidden (G21.out.same hs22)
  have U22 := hidden (U21.out.same hs22)
  have z22 := Nat.le_of_eq hs22.size.symm
  clear B21 BG21 W21 V21 G21 U21 hs22
  go_wp2_with fail
  refine (heldAnsS_any _ 44 _ _ _ ys _ U22.out.rd (by omega) (by omega) (by rw [HCA.out]; omega)).mono ?_
  rintro e w23 ⟨rfl, hs23⟩
  rw [HCA.out]
  have B23 := hidden (Below.andSame B22.out hs23)
  have BG23 := hidden (BG22.out.same hs23)
  have W23 := hidden (W22.out.same hs23)
  have V23 := hidden (V22.out.same hs23)
  have G23 := hidden (G22.out.same hs23)
  have U23 := hidden (U22.out.same hs23)
  have z23 := Nat.le_of_eq hs23.size.symm
  clear B22 BG22 W22 V22 G22 U22 hs23
  obtain ⟨l0, l1⟩ := BG23.out.cells2
  go_wp2_with fail
  refine (toGeo_any _ _ _).mono ?_
  rintro e w24 ⟨rfl, hb24⟩
  clear l0 l1
  have B24 := hidden (Below.andThen B23.out hb24)
  have BG24 := hidden (BG23.out.below hb24 (by omega))
  have W24 := hidden (W23.out.below hb24)
  have V24 := hidden (V23.out.below hb24)
  have G24 := hidden (G23.out.below hb24)
  have U24 := hidden (U23.out.below hb24)
  have z24 := hb24.size
  clear B23 BG23 W23 V23 G23 U23 hb24
  go_wp2_with fail
  refine (toIntS_ex _ _ _ _ ls hlL (hrL.below B24.out) (by omega)).mono ?_
  rintro e w25 ⟨aL25, rfl, o25, hb25⟩
  have B25 := hidden (Below.andThen B24.out hb25)
  have BG25 := hidden (BG24.out.below hb25 (by omega))
  have W25 := hidden (W24.out.below hb25)
  have V25 := hidden (V24.out.below hb25)
  have G25 := hidden (G24.out.below hb25)
  have U25 := hidden (U24.out.below hb25)
  have z25 := hb25.size
  clear B24 BG24 W24 V24 G24 U24 hb25
  have P25 := hidden o25
  clear o25
  go_wp2_with fail
  refine (toCmdS_any _ 49 _ _ _ cs (HC.out.below B25.out) hwt').mono ?_
  rintro e w26 ⟨aC26, rfl, o26, hb26⟩
  have B26 := hidden (Below.andThen B25.out hb26)
  have BG26 := hidden (BG25.out.below hb26 (by omega))
  have W26 := hidden (W25.out.below hb26)
  have V26 := hidden (V25.out.below hb26)
  have G26 := hidden (G25.out.below hb26)
  have U26 := hidden (U25.out.below hb26)
  have P26 := hidden (P25.out.below hb26)
  have z26 := hb26.size
  clear B25 BG25 W25 V25 G25 U25 P25 hb26
  have Q26 := hidden o26
  clear o26
  go_wp2_with fail
  refine (implDoCmds_v _ 37 gn gs _ _ _ ls P26.out.rd (by omega) _ _ _ cs Q26.out.rd hwt' HX.out HY.out).mono ?_
  rintro e w27 ⟨mid27, ag27, cg27, au27, cu27, rfl, ox27, oy27, hm27a, hm27b, hb27⟩
  have B27 := hidden (Below.andThen B26.out hb27)
  have BG27 := hidden (BG26.out.below hb27 (by omega))
  have W27 := hidden (W26.out.below hb27)
  have V27 := hidden (V26.out.below hb27)
  have G27 := hidden (G26.out.below hb27)
  have U27 := hidden (U26.out.below hb27)
  have P27 := hidden (P26.out.below hb27)
  have Q27 := hidden (Q26.out.below hb27)
  have z27 := hb27.size
  clear B26 BG26 W26 V26 G26 U26 P26 Q26 hb27
  have H27 := hidden ox27
  clear ox27
  have I27 := hidden oy27
  clear oy27
  clear P27
  clear Q27
  go_wp2_with fail
  refine (eqIntS_any _ _ _ _ _ _ _ xs xs HXL.out HXL.out (ints_rd H27.out.rd).1 (ints_rd W27.out.rd).1 (by omega)).mono ?_
  rintro e w28 ⟨rfl, hs28⟩
  have B28 := hidden (Below.andSame B27.out hs28)
  have BG28 := hidden (BG27.out.same hs28)
  have W28 := hidden (W27.out.same hs28)
  have V28 := hidden (V27.out.same hs28)
  have G28 := hidden (G27.out.same hs28)
  have U28 := hidden (U27.out.same hs28)
  have H28 := hidden (H27.out.same hs28)
  have I28 := hidden (I27.out.same hs28)
  have z28 := Nat.le_of_eq hs28.size.symm
  clear B27 BG27 W27 V27 G27 U27 H27 I27 hs28
  go_wp2_with fail
  refine (eqAnsS_same _ 44 44 _ _ _ _ _ ys I28.out.rd V28.out.rd (by omega)).mono ?_
  rintro e w29 ⟨rfl, hb29⟩
  have B29 := hidden (Below.andThen B28.out hb29)
  have BG29 := hidden (BG28.out.below hb29 (by omega))
  have W29 := hidden (W28.out.below hb29)
  have V29 := hidden (V28.out.below hb29)
  have G29 := hidden (G28.out.below hb29)
  have U29 := hidden (U28.out.below hb29)
  have H29 := hidden (H28.out.below hb29)
  have I29 := hidden (I28.out.below hb29)
  have z29 := hb29.size
  clear B28 BG28 W28 V28 G28 U28 H28 I28 hb29
  clear H29
  clear I29
  clear W29
  clear V29
  go_wp2_with fail
  refine (heldIntS_any _ _ _ _ _ (ints_rd G29.out.rd).1 (by omega) (by omega) (by omega)).mono ?_
  rintro e w30 ⟨rfl, hs30⟩
  have B30 := hidden (Below.andSame B29.out hs30)
  have BG30 := hidden (BG29.out.same hs30)
  have G30 := hidden (G29.out.same hs30)
  have U30 := hidden (U29.out.same hs30)
  have z30 := Nat.le_of_eq hs30.size.symm
  clear B29 BG29 G29 U29 hs30
  go_wp2_with fail
  refine (heldAnsS_any _ 44 _ _ _ ys _ U30.out.rd (by omega) (by omega) (by rw [HCA.out]; omega)).mono ?_
  rintro e w31 ⟨rfl, hs31⟩
  rw [HCA.out]
  have B31 := hidden (Below.andSame B30.out hs31)
  have BG31 := hidden (BG30.out.same hs31)
  have G31 := hidden (G30.out.same hs31)
  have U31 := hidden (U30.out.same hs31)
  have z31 := Nat.le_of_eq hs31.size.symm
  clear B30 BG30 G30 U30 hs31
  go_wp2
  go_ret
  exact ⟨rfl, B31.out⟩

end Go.Proofs.Ytgjomldcnjjpaaa

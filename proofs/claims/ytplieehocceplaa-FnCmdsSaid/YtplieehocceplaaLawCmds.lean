/-
  The walk of the law of commands: whatever bytes it draws from, it answers true, and nothing that was there has turned. No condition.
-/
import Derived.Test.YtplieehocceplaaLawGetCmd
import Derived.Test.YtplieehocceplaaWalkDrawPC
import Derived.Test.YtplieehocceplaaWalkBig
import Derived.Test.YtplieehocceplaaSameBytes
import Derived.Test.YtplieehocceplaaSameInts13
namespace Go.Proofs.Ytplieehocceplaa
open Go.RowKit

set_option maxHeartbeats 1600000 in
theorem sameCmd_same (w : World) (o d b k : Int) (a a' : Option Addr) (la ca cb : Nat) (zs : List Int) (hl : zs.length = la) (h : Reads .i64 w a zs) (h' : Reads .i64 w a' zs) (hla : la ≤ 2097152) :
    Calls Try.prog 17 #[.agg #[.int .i64 o, .int .i64 d, .int .i64 b, .int .i64 k, .slice a la ca], .agg #[.int .i64 o, .int .i64 d, .int .i64 b, .int .i64 k, .slice a' la cb]] w fun e w' => e = .returned (.bool true) ∧ Below w.heap.size w w' := by
  have hA : Below w.heap.size w ((w.alloc (.cells #[.int .i64 o, .int .i64 d, .int .i64 b, .int .i64 k, .slice a la ca] 26)).alloc (.cells #[.int .i64 o, .int .i64 d, .int .i64 b, .int .i64 k, .slice a' la cb] 26)) := ((Below.refl _ _).alloc (Nat.le_refl _) _).alloc (by simp) _
  have r1 := h.below hA
  have r2 := h'.below hA
  have hd : decide (zs = zs) = true := by simp
  go_enter Try.func17, Try.ntmps17
  go_wp2_with fail
  refine (sameInts_any _ _ _ _ _ _ _ zs zs hl hl r1 r2 hla).mono ?_
  rintro e w1 ⟨rfl, hs1⟩
  go_wp2
  go_ret
  exact ⟨rfl, Below.andSame hA hs1⟩

/-- What is read has these words. -/
theorem get_putC {cs rz : List Int} {r0 r1 r2 r3 : Int} (h : getCB cs = true) (hv : getCv cs = (r0, r1, r2, r3, rz)) : putC r0 r1 r2 r3 rz = cs := by
  match cs, h, hv with
  | z0 :: z1 :: z2 :: z3 :: z4 :: ds, h, hv =>
    rw [getCv_of h] at hv
    simp only [Prod.mk.injEq] at hv
    obtain ⟨rfl, rfl, rfl, rfl, rfl⟩ := hv
    have := getCB_same (z0 := z0) (z1 := z1) (z2 := z2) (z3 := z3) (z4 := z4) (ds := ds)
    rw [h] at this
    exact of_decide_eq_true this
/-- What is no command is the zero one. -/
theorem get_zeroC {cs rz : List Int} {r0 r1 r2 r3 : Int} (h : getCB cs = false) (hv : getCv cs = (r0, r1, r2, r3, rz)) : r0 = 0 := by
  rw [getCv_not h] at hv
  simp only [Prod.mk.injEq] at hv
  exact hv.1.symm
/-- A command comes back of its words. -/
theorem put_getC {o d b k : Int} {ds ps : List Int} (h : putC o d b k ds = ps) (hn : ¬ ps.length = 0) : getCB ps = true ∧ getCv ps = (o, d, b, k, ds) := by
  cases hp : putB o d b k ds
  · rw [putC_not hp] at h
    subst h
    exact absurd rfl hn
  · rw [putC_of hp] at h
    subst h
    have hB : getCB (putL o d b k ds) = true := getCB_put.trans hp
    exact ⟨hB, getCv_of hB⟩

set_option maxRecDepth 20000 in
set_option maxHeartbeats 8000000 in
theorem fnCmds_walk (a0 : Option Addr) (len0 cap0 : Nat) (z0 : List Int) (w : World) (w0 : IsRow .u8 w a0 len0 cap0 z0) :
    Calls Try.prog 3 #[.slice a0 len0 cap0] w fun e w' => e = .returned (.bool true) ∧ Below w.heap.size w w' := by
  obtain ⟨hr, hl, hwf, hml⟩ := w0.reads
  generalize z0.take len0 = zs at hr hl hwf
  unfold maxLen at hml
  have hby := bytes_of_wf hwf
  clear w0 hwf
  by_cases hbig : len0 ≤ 1048576
  rotate_left
  · go_enter Try.func3, Try.ntmps3
    go_wp2_with fail
    refine (big_any _ _ _ _).mono ?_
    rintro e wb ⟨rfl, rfl⟩
    go_wp2
    go_ret
    exact ⟨rfl, Below.refl _ _⟩
  have hlb : len0 ≤ 2097152 := by omega
  go_enter Try.func3, Try.ntmps3
  go_wp2_with fail
  refine (big_any _ _ _ _).mono ?_
  rintro e wb ⟨rfl, rfl⟩
  go_wp2_with fail
  refine (drawPutCmd_any _ _ _ _ zs hl hr hby hlb).mono ?_
  rintro e w1 ⟨x, y, p, q, av, cv, ds, rfl, hd7, D, B⟩
  have D := hidden D
  have B := hidden B
  have ba := new_below w1 (.cells #[.int .i64 x, .int .i64 y, .int .i64 p, .int .i64 q, .slice av ds.length cv] 26)
  have xb := hidden (Box.new w1 26 #[.int .i64 x, .int .i64 y, .int .i64 p, .int .i64 q, .slice av ds.length cv])
  have zb : w1.heap.size < (w1.alloc (.cells #[.int .i64 x, .int .i64 y, .int .i64 p, .int .i64 q, .slice av ds.length cv] 26)).heap.size := xb.out.lt
  have Dn := hidden (D.out.below ba)
  have Bn := hidden (Below.andThen B.out ba)
  have zn1 := ba.size
  clear D B ba
  have D := Dn
  clear Dn
  have B := Bn
  clear Bn
  have BR := xb
  clear xb
  obtain ⟨k0, k1, k2, k3, k4⟩ := BR.out.cells5
  go_wp2_with fail
  generalize w1.alloc (.cells #[.int .i64 x, .int .i64 y, .int .i64 p, .int .i64 q, .slice av ds.length cv] 26) = w2 at D B BR zn1 zb k0 k1 k2 k3 k4 ⊢
  obtain ⟨rb0, hrb0⟩ : ∃ b, b = w1.heap.size := ⟨_, rfl⟩
  rw [← hrb0] at BR zb
  simp only [← hrb0]
  have zlrb0 : rb0 < w2.heap.size := zb
  clear zb hrb0
  refine (implPutCmd_any _ x y p q _ _ _ ds D.out (by omega)).mono ?_
  rintro e w3 ⟨al, ll, cl, rfl, O3, bb⟩
  clear k0 k1 k2 k3 k4
  have hp11 := putC_le x y p q ds
  obtain ⟨ps, hps⟩ : ∃ ps, putC x y p q ds = ps := ⟨_, rfl⟩
  rw [hps] at O3 hp11
  have HP := hidden hps
  clear hps
  obtain ⟨_, hll, _, _⟩ := ints_rd O3.rd
  have hl11 : ll ≤ 11 := by omega
  have HL := hidden hll
  clear hll hp11
  have Dn := hidden (D.out.below bb)
  have Bn := hidden (Below.andThen B.out bb)
  have BRn := hidden (BR.out.below bb (by omega))
  have zn2 := bb.size
  clear D B BR bb
  have D := Dn
  clear Dn
  have B := Bn
  clear Bn
  have BR := BRn
  clear BRn
  have L := hidden O3.rd
  clear O3
  go_wp2_with fail
  refine (drawGetCmd_any _ _ _ _ zs hl (hr.below B.out) hby hlb).mono ?_
  rintro e w4 ⟨ac, nc, cc, cs, rfl, hn11, rc, bb⟩
  have Dn := hidden (D.out.below bb)
  have Bn := hidden (Below.andThen B.out bb)
  have BRn := hidden (BR.out.below bb (by omega))
  have Ln := hidden (L.out.below bb)
  have zn3 := bb.size
  clear D B BR L bb
  have D := Dn
  clear Dn
  have B := Bn
  clear Bn
  have BR := BRn
  clear BRn
  have L := Ln
  clear Ln
  have C := hidden rc
  clear rc
  obtain ⟨r0, r1, r2, r3, rz, hv⟩ : ∃ r0 r1 r2 r3 rz, getCv cs = (r0, r1, r2, r3, rz) := ⟨_, _, _, _, _, rfl⟩
  obtain ⟨rb, hrb⟩ : ∃ rb, getCB cs = rb := ⟨_, rfl⟩
  obtain ⟨rn, hrn⟩ : ∃ rn, rz.length = rn := ⟨_, rfl⟩
  have hg6 := getCv_le cs
  rw [hv] at hg6
  have hr6 : rn ≤ 6 := by rw [← hrn]; exact hg6
  have HV := hidden hv
  have HB := hidden hrb
  have HN := hidden hrn
  clear hv hrb hrn hg6
  go_wp2_with fail
  refine (implGetCmd_v _ _ _ _ cs C.out (by omega) HV.out HB.out HN.out).mono ?_
  rintro e w5 ⟨a5, c5, rfl, O5, bb⟩
  have Dn := hidden (D.out.below bb)
  have Bn := hidden (Below.andThen B.out bb)
  have BRn := hidden (BR.out.below bb (by omega))
  have Ln := hidden (L.out.below bb)
  have Cn := hidden (C.out.below bb)
  have zn4 := bb.size
  clear D B BR L C bb
  have D := Dn
  clear Dn
  have B := Bn
  clear Bn
  have BR := BRn
  clear BRn
  have L := Ln
  clear Ln
  have C := Cn
  clear Cn
  have Y := hidden O5.rd
  clear O5
  have ba := new_below w5 (.cells #[.int .i64 r0, .int .i64 r1, .int .i64 r2, .int .i64 r3, .slice a5 rn c5] 26)
  have xb := hidden (Box.new w5 26 #[.int .i64 r0, .int .i64 r1, .int .i64 r2, .int .i64 r3, .slice a5 rn c5])
  have zb : w5.heap.size < (w5.alloc (.cells #[.int .i64 r0, .int .i64 r1, .int .i64 r2, .int .i64 r3, .slice a5 rn c5] 26)).heap.size := xb.out.lt
  have Dn := hidden (D.out.below ba)
  have Bn := hidden (Below.andThen B.out ba)
  have BRn := hidden (BR.out.below ba (by omega))
  have Ln := hidden (L.out.below ba)
  have Cn := hidden (C.out.below ba)
  have Yn := hidden (Y.out.below ba)
  have zn5 := ba.size
  clear D B BR L C Y ba
  have D := Dn
  clear Dn
  have B := Bn
  clear Bn
  have BR := BRn
  clear BRn
  have L := Ln
  clear Ln
  have C := Cn
  clear Cn
  have Y := Yn
  clear Yn
  have BY := xb
  clear xb
  go_wp2_with fail
  generalize w5.alloc (.cells #[.int .i64 r0, .int .i64 r1, .int .i64 r2, .int .i64 r3, .slice a5 rn c5] 26) = w6 at D B BR L C Y BY zn5 zb  ⊢
  obtain ⟨yb0, hyb0⟩ : ∃ b, b = w5.heap.size := ⟨_, rfl⟩
  rw [← hyb0] at BY zb
  simp only [← hyb0]
  have zlyb0 : yb0 < w6.heap.size := zb
  clear zb hyb0
  refine (specGetCmd_v _ _ _ _ cs C.out (by omega) HV.out HB.out HN.out).mono ?_
  rintro e w7 ⟨a7, c7, rfl, O7, bb⟩
  clear O7
  have Dn := hidden (D.out.below bb)
  have Bn := hidden (Below.andThen B.out bb)
  have BRn := hidden (BR.out.below bb (by omega))
  have Ln := hidden (L.out.below bb)
  have Cn := hidden (C.out.below bb)
  have Yn := hidden (Y.out.below bb)
  have BYn := hidden (BY.out.below bb (by omega))
  have zn6 := bb.size
  clear D B BR L C Y BY bb
  have D := Dn
  clear Dn
  have B := Bn
  clear Bn
  have BR := BRn
  clear BRn
  have L := Ln
  clear Ln
  have C := Cn
  clear Cn
  have Y := Yn
  clear Yn
  have BY := BYn
  clear BYn
  have ba := new_below w7 (.cells #[.int .i64 r0, .int .i64 r1, .int .i64 r2, .int .i64 r3, .slice a7 rn c7] 26)
  have xb := hidden (Box.new w7 26 #[.int .i64 r0, .int .i64 r1, .int .i64 r2, .int .i64 r3, .slice a7 rn c7])
  have zb : w7.heap.size < (w7.alloc (.cells #[.int .i64 r0, .int .i64 r1, .int .i64 r2, .int .i64 r3, .slice a7 rn c7] 26)).heap.size := xb.out.lt
  have Dn := hidden (D.out.below ba)
  have Bn := hidden (Below.andThen B.out ba)
  have BRn := hidden (BR.out.below ba (by omega))
  have Ln := hidden (L.out.below ba)
  have Cn := hidden (C.out.below ba)
  have Yn := hidden (Y.out.below ba)
  have BYn := hidden (BY.out.below ba (by omega))
  have zn7 := ba.size
  clear D B BR L C Y BY ba
  have D := Dn
  clear Dn
  have B := Bn
  clear Bn
  have BR := BRn
  clear BRn
  have L := Ln
  clear Ln
  have C := Cn
  clear Cn
  have Y := Yn
  clear Yn
  have BY := BYn
  clear BYn
  have BU := xb
  clear xb
  have hpsd : decide (ps = ps) = true := by simp
  have hcsd : decide (cs = cs) = true := by simp
  cases rb
  · skip
    obtain ⟨k0, k1, k2, k3, k4⟩ := BR.out.cells5
    obtain ⟨y0, y1, y2, y3, y4⟩ := BY.out.cells5
    go_wp2_with fail
    generalize w7.alloc (.cells #[.int .i64 r0, .int .i64 r1, .int .i64 r2, .int .i64 r3, .slice a7 rn c7] 26) = w8 at D B BR L C Y BY BU zn7 zb k0 k1 k2 k3 k4 y0 y1 y2 y3 y4 ⊢
    obtain ⟨ub0, hub0⟩ : ∃ b, b = w7.heap.size := ⟨_, rfl⟩
    rw [← hub0] at BU zb
    simp only [← hub0]
    have zlub0 : ub0 < w8.heap.size := zb
    clear zb hub0
    refine (specPutCmd_any _ x y p q _ _ _ ds D.out (by omega)).mono ?_
    rintro e w11 ⟨a11, l11, c11, rfl, O11, bb⟩
    clear k0 k1 k2 k3 k4 y0 y1 y2 y3 y4
    rw [HP.out] at O11
    obtain ⟨r11, hl11x, _, _⟩ := ints_rd O11.rd
    clear O11
    have Dn := hidden (D.out.below bb)
    have Bn := hidden (Below.andThen B.out bb)
    have BRn := hidden (BR.out.below bb (by omega))
    have Ln := hidden (L.out.below bb)
    have Cn := hidden (C.out.below bb)
    have Yn := hidden (Y.out.below bb)
    have BYn := hidden (BY.out.below bb (by omega))
    have BUn := hidden (BU.out.below bb (by omega))
    have zn8 := bb.size
    clear D B BR L C Y BY BU bb
    have D := Dn
    clear Dn
    have B := Bn
    clear Bn
    have BR := BRn
    clear BRn
    have L := Ln
    clear Ln
    have C := Cn
    clear Cn
    have Y := Yn
    clear Yn
    have BY := BYn
    clear BYn
    have BU := BUn
    clear BUn
    obtain ⟨rls, _, _, _⟩ := ints_rd L.out
    go_wp2_with fail
    refine (sameInts_any _ _ _ _ _ _ _ ps ps HL.out hl11x rls r11 (by omega)).mono ?_
    rintro e w12 ⟨rfl, bb⟩
    clear rls r11 hl11x
    have Dn := hidden (D.out.same bb)
    have Bn := hidden (Below.andSame B.out bb)
    have BRn := hidden (BR.out.same bb)
    have Ln := hidden (L.out.same bb)
    have Cn := hidden (C.out.same bb)
    have Yn := hidden (Y.out.same bb)
    have BYn := hidden (BY.out.same bb)
    have BUn := hidden (BU.out.same bb)
    have zn9 := Nat.le_of_eq bb.size.symm
    clear D B BR L C Y BY BU bb
    have D := Dn
    clear Dn
    have B := Bn
    clear Bn
    have BR := BRn
    clear BRn
    have L := Ln
    clear Ln
    have C := Cn
    clear Cn
    have Y := Yn
    clear Yn
    have BY := BYn
    clear BYn
    have BU := BUn
    clear BUn
    obtain ⟨y0, y1, y2, y3, y4⟩ := BY.out.cells5
    by_cases hpl : ll = 0
    · have hq1 : ((ll : Int) == 0) = true := by simp; omega
      have hz := get_zeroC HB.out HV.out
      subst hz
      clear hpl
      go_wp2
      go_ret
      exact ⟨rfl, B.out⟩
    · have hq1 : ((ll : Int) == 0) = false := by simp; omega
      clear y0 y1 y2 y3 y4
      obtain ⟨hgb, hgv⟩ := put_getC HP.out (fun h => hpl (HL.out.symm.trans h))
      clear hpl
      go_wp2_with fail
      refine (implGetCmd_v _ _ _ _ ps L.out (by omega) hgv hgb rfl).mono ?_
      rintro e w13 ⟨a13, c13, rfl, O13, bb⟩
      have Dn := hidden (D.out.below bb)
      have Bn := hidden (Below.andThen B.out bb)
      have BRn := hidden (BR.out.below bb (by omega))
      have Ln := hidden (L.out.below bb)
      have Cn := hidden (C.out.below bb)
      have Yn := hidden (Y.out.below bb)
      have BYn := hidden (BY.out.below bb (by omega))
      have BUn := hidden (BU.out.below bb (by omega))
      have zn10 := bb.size
      clear D B BR L C Y BY BU bb
      have D := Dn
      clear Dn
      have B := Bn
      clear Bn
      have BR := BRn
      clear BRn
      have L := Ln
      clear Ln
      have C := Cn
      clear Cn
      have Y := Yn
      clear Yn
      have BY := BYn
      clear BYn
      have BU := BUn
      clear BUn
      have Z := hidden O13.rd
      clear O13 hgb hgv
      have ba := new_below w13 (.cells #[.int .i64 x, .int .i64 y, .int .i64 p, .int .i64 q, .slice a13 ds.length c13] 26)
      have xb := hidden (Box.new w13 26 #[.int .i64 x, .int .i64 y, .int .i64 p, .int .i64 q, .slice a13 ds.length c13])
      have zb : w13.heap.size < (w13.alloc (.cells #[.int .i64 x, .int .i64 y, .int .i64 p, .int .i64 q, .slice a13 ds.length c13] 26)).heap.size := xb.out.lt
      have Dn := hidden (D.out.below ba)
      have Bn := hidden (Below.andThen B.out ba)
      have BRn := hidden (BR.out.below ba (by omega))
      have Ln := hidden (L.out.below ba)
      have Cn := hidden (C.out.below ba)
      have Yn := hidden (Y.out.below ba)
      have BYn := hidden (BY.out.below ba (by omega))
      have BUn := hidden (BU.out.below ba (by omega))
      have Zn := hidden (Z.out.below ba)
      have zn11 := ba.size
      clear D B BR L C Y BY BU Z ba
      have D := Dn
      clear Dn
      have B := Bn
      clear Bn
      have BR := BRn
      clear BRn
      have L := Ln
      clear Ln
      have C := Cn
      clear Cn
      have Y := Yn
      clear Yn
      have BY := BYn
      clear BYn
      have BU := BUn
      clear BUn
      have Z := Zn
      clear Zn
      have BZ := xb
      clear xb
      obtain ⟨k0, k1, k2, k3, k4⟩ := BR.out.cells5
      obtain ⟨y0, y1, y2, y3, y4⟩ := BZ.out.cells5
      go_wp2_with fail
      generalize w13.alloc (.cells #[.int .i64 x, .int .i64 y, .int .i64 p, .int .i64 q, .slice a13 ds.length c13] 26) = w14 at D B BR L C Y BY BU Z BZ zn11 zb k0 k1 k2 k3 k4 y0 y1 y2 y3 y4 ⊢
      obtain ⟨zb0, hzb0⟩ : ∃ b, b = w13.heap.size := ⟨_, rfl⟩
      rw [← hzb0] at BZ zb
      simp only [← hzb0]
      have zlzb0 : zb0 < w14.heap.size := zb
      clear zb hzb0
      refine (sameCmd_same _ x y p q _ _ _ _ _ ds rfl (ints_rd Z.out).1 (ints_rd D.out).1 (by omega)).mono ?_
      rintro e w15 ⟨rfl, bb⟩
      clear k0 k1 k2 k3 k4 y0 y1 y2 y3 y4
      have Dn := hidden (D.out.below bb)
      have Bn := hidden (Below.andThen B.out bb)
      have BRn := hidden (BR.out.below bb (by omega))
      have Ln := hidden (L.out.below bb)
      have Cn := hidden (C.out.below bb)
      have Yn := hidden (Y.out.below bb)
      have BYn := hidden (BY.out.below bb (by omega))
      have BUn := hidden (BU.out.below bb (by omega))
      have Zn := hidden (Z.out.below bb)
      have BZn := hidden (BZ.out.below bb (by omega))
      have zn12 := bb.size
      clear D B BR L C Y BY BU Z BZ bb
      have D := Dn
      clear Dn
      have B := Bn
      clear Bn
      have BR := BRn
      clear BRn
      have L := Ln
      clear Ln
      have C := Cn
      clear Cn
      have Y := Yn
      clear Yn
      have BY := BYn
      clear BYn
      have BU := BUn
      clear BUn
      have Z := Zn
      clear Zn
      have BZ := BZn
      clear BZn
      go_wp2
      go_ret
      exact ⟨rfl, B.out⟩
  · skip
    obtain ⟨k0, k1, k2, k3, k4⟩ := BR.out.cells5
    obtain ⟨y0, y1, y2, y3, y4⟩ := BY.out.cells5
    go_wp2_with fail
    generalize w7.alloc (.cells #[.int .i64 r0, .int .i64 r1, .int .i64 r2, .int .i64 r3, .slice a7 rn c7] 26) = w8 at D B BR L C Y BY BU zn7 zb k0 k1 k2 k3 k4 y0 y1 y2 y3 y4 ⊢
    obtain ⟨ub0, hub0⟩ : ∃ b, b = w7.heap.size := ⟨_, rfl⟩
    rw [← hub0] at BU zb
    simp only [← hub0]
    have zlub0 : ub0 < w8.heap.size := zb
    clear zb hub0
    have hpc := get_putC HB.out HV.out
    have hyr : tIntS.Rd w8 [.slice a5 rn c5] rz := Y.out
    refine (implPutCmd_any _ r0 r1 r2 r3 _ _ _ rz hyr (by omega)).mono ?_
    rintro e w9 ⟨a9, l9, c9, rfl, O9, bb⟩
    clear k0 k1 k2 k3 k4 y0 y1 y2 y3 y4
    clear hyr
    rw [hpc] at O9
    clear hpc
    obtain ⟨r9, hl9, _, _⟩ := ints_rd O9.rd
    clear O9
    have Dn := hidden (D.out.below bb)
    have Bn := hidden (Below.andThen B.out bb)
    have BRn := hidden (BR.out.below bb (by omega))
    have Ln := hidden (L.out.below bb)
    have Cn := hidden (C.out.below bb)
    have Yn := hidden (Y.out.below bb)
    have BYn := hidden (BY.out.below bb (by omega))
    have BUn := hidden (BU.out.below bb (by omega))
    have zn8 := bb.size
    clear D B BR L C Y BY BU bb
    have D := Dn
    clear Dn
    have B := Bn
    clear Bn
    have BR := BRn
    clear BRn
    have L := Ln
    clear Ln
    have C := Cn
    clear Cn
    have Y := Yn
    clear Yn
    have BY := BYn
    clear BYn
    have BU := BUn
    clear BUn
    obtain ⟨rcs, hcs, _, _⟩ := ints_rd C.out
    obtain ⟨k0, k1, k2, k3, k4⟩ := BR.out.cells5
    go_wp2_with fail
    refine (sameInts_any _ _ _ _ _ _ _ cs cs hl9 hcs r9 rcs (by omega)).mono ?_
    rintro e w10 ⟨rfl, bb⟩
    clear k0 k1 k2 k3 k4
    clear r9 rcs hl9 hcs
    have Dn := hidden (D.out.same bb)
    have Bn := hidden (Below.andSame B.out bb)
    have BRn := hidden (BR.out.same bb)
    have Ln := hidden (L.out.same bb)
    have Cn := hidden (C.out.same bb)
    have Yn := hidden (Y.out.same bb)
    have BYn := hidden (BY.out.same bb)
    have BUn := hidden (BU.out.same bb)
    have zn9 := Nat.le_of_eq bb.size.symm
    clear D B BR L C Y BY BU bb
    have D := Dn
    clear Dn
    have B := Bn
    clear Bn
    have BR := BRn
    clear BRn
    have L := Ln
    clear Ln
    have C := Cn
    clear Cn
    have Y := Yn
    clear Yn
    have BY := BYn
    clear BYn
    have BU := BUn
    clear BUn
    obtain ⟨k0, k1, k2, k3, k4⟩ := BR.out.cells5
    go_wp2_with fail
    refine (specPutCmd_any _ x y p q _ _ _ ds D.out (by omega)).mono ?_
    rintro e w11 ⟨a11, l11, c11, rfl, O11, bb⟩
    clear k0 k1 k2 k3 k4
    rw [HP.out] at O11
    obtain ⟨r11, hl11x, _, _⟩ := ints_rd O11.rd
    clear O11
    have Dn := hidden (D.out.below bb)
    have Bn := hidden (Below.andThen B.out bb)
    have BRn := hidden (BR.out.below bb (by omega))
    have Ln := hidden (L.out.below bb)
    have Cn := hidden (C.out.below bb)
    have Yn := hidden (Y.out.below bb)
    have BYn := hidden (BY.out.below bb (by omega))
    have BUn := hidden (BU.out.below bb (by omega))
    have zn10 := bb.size
    clear D B BR L C Y BY BU bb
    have D := Dn
    clear Dn
    have B := Bn
    clear Bn
    have BR := BRn
    clear BRn
    have L := Ln
    clear Ln
    have C := Cn
    clear Cn
    have Y := Yn
    clear Yn
    have BY := BYn
    clear BYn
    have BU := BUn
    clear BUn
    obtain ⟨rls, _, _, _⟩ := ints_rd L.out
    go_wp2_with fail
    refine (sameInts_any _ _ _ _ _ _ _ ps ps HL.out hl11x rls r11 (by omega)).mono ?_
    rintro e w12 ⟨rfl, bb⟩
    clear rls r11 hl11x
    have Dn := hidden (D.out.same bb)
    have Bn := hidden (Below.andSame B.out bb)
    have BRn := hidden (BR.out.same bb)
    have Ln := hidden (L.out.same bb)
    have Cn := hidden (C.out.same bb)
    have Yn := hidden (Y.out.same bb)
    have BYn := hidden (BY.out.same bb)
    have BUn := hidden (BU.out.same bb)
    have zn11 := Nat.le_of_eq bb.size.symm
    clear D B BR L C Y BY BU bb
    have D := Dn
    clear Dn
    have B := Bn
    clear Bn
    have BR := BRn
    clear BRn
    have L := Ln
    clear Ln
    have C := Cn
    clear Cn
    have Y := Yn
    clear Yn
    have BY := BYn
    clear BYn
    have BU := BUn
    clear BUn
    obtain ⟨y0, y1, y2, y3, y4⟩ := BY.out.cells5
    by_cases hpl : ll = 0
    · have hq1 : ((ll : Int) == 0) = true := by simp; omega
      clear hpl
      go_wp2
      go_ret
      exact ⟨rfl, B.out⟩
    · have hq1 : ((ll : Int) == 0) = false := by simp; omega
      clear y0 y1 y2 y3 y4
      obtain ⟨hgb, hgv⟩ := put_getC HP.out (fun h => hpl (HL.out.symm.trans h))
      clear hpl
      go_wp2_with fail
      refine (implGetCmd_v _ _ _ _ ps L.out (by omega) hgv hgb rfl).mono ?_
      rintro e w13 ⟨a13, c13, rfl, O13, bb⟩
      have Dn := hidden (D.out.below bb)
      have Bn := hidden (Below.andThen B.out bb)
      have BRn := hidden (BR.out.below bb (by omega))
      have Ln := hidden (L.out.below bb)
      have Cn := hidden (C.out.below bb)
      have Yn := hidden (Y.out.below bb)
      have BYn := hidden (BY.out.below bb (by omega))
      have BUn := hidden (BU.out.below bb (by omega))
      have zn12 := bb.size
      clear D B BR L C Y BY BU bb
      have D := Dn
      clear Dn
      have B := Bn
      clear Bn
      have BR := BRn
      clear BRn
      have L := Ln
      clear Ln
      have C := Cn
      clear Cn
      have Y := Yn
      clear Yn
      have BY := BYn
      clear BYn
      have BU := BUn
      clear BUn
      have Z := hidden O13.rd
      clear O13 hgb hgv
      have ba := new_below w13 (.cells #[.int .i64 x, .int .i64 y, .int .i64 p, .int .i64 q, .slice a13 ds.length c13] 26)
      have xb := hidden (Box.new w13 26 #[.int .i64 x, .int .i64 y, .int .i64 p, .int .i64 q, .slice a13 ds.length c13])
      have zb : w13.heap.size < (w13.alloc (.cells #[.int .i64 x, .int .i64 y, .int .i64 p, .int .i64 q, .slice a13 ds.length c13] 26)).heap.size := xb.out.lt
      have Dn := hidden (D.out.below ba)
      have Bn := hidden (Below.andThen B.out ba)
      have BRn := hidden (BR.out.below ba (by omega))
      have Ln := hidden (L.out.below ba)
      have Cn := hidden (C.out.below ba)
      have Yn := hidden (Y.out.below ba)
      have BYn := hidden (BY.out.below ba (by omega))
      have BUn := hidden (BU.out.below ba (by omega))
      have Zn := hidden (Z.out.below ba)
      have zn13 := ba.size
      clear D B BR L C Y BY BU Z ba
      have D := Dn
      clear Dn
      have B := Bn
      clear Bn
      have BR := BRn
      clear BRn
      have L := Ln
      clear Ln
      have C := Cn
      clear Cn
      have Y := Yn
      clear Yn
      have BY := BYn
      clear BYn
      have BU := BUn
      clear BUn
      have Z := Zn
      clear Zn
      have BZ := xb
      clear xb
      obtain ⟨k0, k1, k2, k3, k4⟩ := BR.out.cells5
      obtain ⟨y0, y1, y2, y3, y4⟩ := BZ.out.cells5
      go_wp2_with fail
      generalize w13.alloc (.cells #[.int .i64 x, .int .i64 y, .int .i64 p, .int .i64 q, .slice a13 ds.length c13] 26) = w14 at D B BR L C Y BY BU Z BZ zn13 zb k0 k1 k2 k3 k4 y0 y1 y2 y3 y4 ⊢
      obtain ⟨zb0, hzb0⟩ : ∃ b, b = w13.heap.size := ⟨_, rfl⟩
      rw [← hzb0] at BZ zb
      simp only [← hzb0]
      have zlzb0 : zb0 < w14.heap.size := zb
      clear zb hzb0
      refine (sameCmd_same _ x y p q _ _ _ _ _ ds rfl (ints_rd Z.out).1 (ints_rd D.out).1 (by omega)).mono ?_
      rintro e w15 ⟨rfl, bb⟩
      clear k0 k1 k2 k3 k4 y0 y1 y2 y3 y4
      have Dn := hidden (D.out.below bb)
      have Bn := hidden (Below.andThen B.out bb)
      have BRn := hidden (BR.out.below bb (by omega))
      have Ln := hidden (L.out.below bb)
      have Cn := hidden (C.out.below bb)
      have Yn := hidden (Y.out.below bb)
      have BYn := hidden (BY.out.below bb (by omega))
      have BUn := hidden (BU.out.below bb (by omega))
      have Zn := hidden (Z.out.below bb)
      have BZn := hidden (BZ.out.below bb (by omega))
      have zn14 := bb.size
      clear D B BR L C Y BY BU Z BZ bb
      have D := Dn
      clear Dn
      have B := Bn
      clear Bn
      have BR := BRn
      clear BRn
      have L := Ln
      clear Ln
      have C := Cn
      clear Cn
      have Y := Yn
      clear Yn
      have BY := BYn
      clear BYn
      have BU := BUn
      clear BUn
      have Z := Zn
      clear Zn
      have BZ := BZn
      clear BZn
      go_wp2
      go_ret
      exact ⟨rfl, B.out⟩

end Go.Proofs.Ytplieehocceplaa

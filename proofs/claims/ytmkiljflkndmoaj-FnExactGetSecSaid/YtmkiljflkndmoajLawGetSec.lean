/-
  The walk of the exact law of GetSec: at every slice of bytes and every place it answers true, and nothing that was there has turned. No condition.
-/
import Derived.Test.YtmkiljflkndmoajWalkImplGet
import Derived.Test.YtmkiljflkndmoajWalkMarks
namespace Go.Proofs.Ytmkiljflkndmoaj
open Go.RowKit

theorem getL_length (b : List Int) (p : Int) : (getL b p).length ≤ 12 := by
  unfold getL
  split
  · rename_i h
    rw [getWs_length]
    unfold getOk at h
    simp only [Bool.and_eq_true, decide_eq_true_eq] at h
    omega
  · simp

theorem bytes_of_wf {zs : List Int} (h : ∀ n ∈ zs, (Lit.int .u8 n).wf = true) : ∀ n ∈ zs, 0 ≤ n ∧ n ≤ 255 := by
  intro n hn
  have := h n hn
  simp [Lit.wf, IntKind.min, IntKind.max, IntKind.signed, IntKind.bits] at this
  omega

theorem int_of_wf {n : Int} (h : (Lit.int .i64 n).wf = true) : -9223372036854775808 ≤ n ∧ n ≤ 9223372036854775807 := by
  simp [Lit.wf, IntKind.min, IntKind.max, IntKind.signed, IntKind.bits] at h
  omega

set_option maxHeartbeats 4000000 in
theorem fnExactGetSec_walk (a0 : Option Addr) (len0 cap0 : Nat) (z0 : List Int) (a1 : Int) (w : World) (w0 : IsRow .u8 w a0 len0 cap0 z0) (w1 : (Lit.int .i64 a1).wf = true) :
    Calls Try.prog 4 #[.slice a0 len0 cap0, .int .i64 a1] w fun e w' => e = .returned (.bool true) ∧ Below w.heap.size w w' := by
  obtain ⟨hr, hl, hwf, hml⟩ := w0.reads
  generalize z0.take len0 = zs at hr hl hwf
  unfold maxLen at hml
  have hby := bytes_of_wf hwf
  obtain ⟨hp0, hp1⟩ := int_of_wf w1
  clear w0 w1 hwf
  by_cases hbig : len0 ≤ 1048576
  · have hgl := getL_length zs a1
    generalize hP : getL zs a1 = ps at hgl
    generalize hn : ps.length = pl at hgl
    have HP : Hid (getL zs a1 = ps) := hP
    have HN : Hid (ps.length = pl) := hn
    clear hP hn
    go_enter Try.func4, Try.ntmps4
    go_wp2_with fail
    refine (toByteS_any _ _ _ _ zs hl hr (by omega)).mono ?_
    rintro e w1 ⟨rfl, ho1, hb1⟩
    have s1 := hb1.size
    go_wp2_with fail
    refine (specGetSec_any _ _ _ _ zs _ hl ho1.reads hby (by omega) hp0 hp1).mono ?_
    rintro e w2 ⟨v2, rfl, ho2, hb2⟩
    obtain ⟨a2, c2, rfl, W2⟩ := ho2.take HP.out HN.out
    have s2 := hb2.size
    have B2 := Below.andThen hb1 hb2
    clear ho1 ho2 hb1 hb2
    go_wp2_with fail
    refine (toByteS_any _ _ _ _ zs hl (hr.below B2) (by omega)).mono ?_
    rintro e w3 ⟨rfl, ho3, hb3⟩
    have X3 := ho3.own
    have s3 := hb3.size
    have B3 := Below.andThen B2 hb3
    have W3 := W2.below hb3
    clear W2 ho3 hb3 B2
    go_wp2_with fail
    refine (implGetSec_any _ _ _ _ zs _ hl X3.reads hby (by omega) (by omega) (by omega) hp0 hp1).mono ?_
    rintro e w4 ⟨v4, rfl, ho4, hb4⟩
    obtain ⟨a4, c4, rfl, G4⟩ := ho4.take HP.out HN.out
    have s4 := hb4.size
    have B4 := Below.andThen B3 hb4
    have W4 := W3.below hb4
    have X4 := X3.below hb4
    clear W3 X3 ho4 hb4 B3
    go_wp2_with fail
    refine (eqIntS_any _ _ _ _ _ _ _ ps ps HN.out HN.out G4.reads W4.reads (by omega)).mono ?_
    rintro e w5 ⟨rfl, hs5⟩
    have hd : decide (ps = ps) = true := by simp
    have hd1 : (getAt zs a1 == getAt zs a1) = true := by simp
    have hd2 : (getOk zs a1 != getOk zs a1) = false := by simp
    have B5 := Below.andSame B4 hs5
    have W5 := W4.same hs5
    have X5 := X4.same hs5
    have G5 := G4.same hs5
    have s5 := Nat.le_of_eq hs5.size.symm
    clear W4 X4 G4 hs5 B4
    go_wp2_with fail
    refine (toByteS_any _ _ _ _ zs hl (hr.below B5) (by omega)).mono ?_
    rintro e w6 ⟨rfl, ho6, hb6⟩
    have s6 := hb6.size
    have B6 := Below.andThen B5 hb6
    have W6 := W5.below hb6
    have X6 := X5.below hb6
    have G6 := G5.below hb6
    clear W5 X5 G5 hb6 B5
    go_wp2_with fail
    refine (eqByteS_any _ _ _ _ _ _ _ zs zs hl hl X6.reads ho6.reads (by omega)).mono ?_
    rintro e w7 ⟨rfl, hs7⟩
    have hd3 : decide (zs = zs) = true := by simp
    have B7 := Below.andSame B6 hs7
    have W7 := W6.same hs7
    have X7 := X6.same hs7
    have G7 := G6.same hs7
    have s7 := Nat.le_of_eq hs7.size.symm
    clear W6 X6 G6 hs7 B6 ho6
    go_wp2_with fail
    refine (markByteS_any _ _ _ _ _ _ zs _ X7 (by omega) (by omega) (by omega)).mono ?_
    rintro e w8 ⟨rfl, _, hb8⟩
    have s8 := hb8.size
    have B8 := Below.andBut B7 hb8 (by omega)
    have W8 := W7.but hb8 (by omega)
    have G8 := G7.but hb8 (by omega)
    clear W7 X7 G7 hb8 B7
    go_wp2_with fail
    refine (eqIntS_any _ _ _ _ _ _ _ ps ps HN.out HN.out G8.reads W8.reads (by omega)).mono ?_
    rintro e w9 ⟨rfl, hs9⟩
    have B9 := Below.andSame B8 hs9
    have W9 := W8.same hs9
    have G9 := G8.same hs9
    have s9 := Nat.le_of_eq hs9.size.symm
    clear W8 G8 hs9 B8
    go_wp2_with fail
    refine (markIntS_any _ _ _ _ _ _ ps _ G9 (by omega) (by omega) (by omega)).mono ?_
    rintro e w10 ⟨rfl, G10, hb10⟩
    have s10 := hb10.size
    have B10 := Below.andBut B9 hb10 (by omega)
    have W10 := W9.but hb10 (by omega)
    clear W9 G9 hb10 B9
    go_wp2_with fail
    refine (heldIntS_any _ _ _ _ _ G10.reads (by omega) (by omega) (by omega)).mono ?_
    rintro e w11 ⟨rfl, hs11⟩
    have B11 := Below.andSame B10 hs11
    have W11 := W10.same hs11
    have G11 := G10.same hs11
    have s11 := Nat.le_of_eq hs11.size.symm
    clear W10 G10 hs11 B10
    go_wp2_with fail
    refine (toByteS_any _ _ _ _ zs hl (hr.below B11) (by omega)).mono ?_
    rintro e w12 ⟨rfl, ho12, hb12⟩
    have s12 := hb12.size
    have B12 := Below.andThen B11 hb12
    have W12 := W11.below hb12
    have G12 := G11.below hb12
    clear W11 G11 hb12 B11
    go_wp2_with fail
    refine (implGetSec_any _ _ _ _ zs _ hl ho12.reads hby (by omega) (by omega) (by omega) hp0 hp1).mono ?_
    rintro e w13 ⟨v13, rfl, ho13, hb13⟩
    obtain ⟨a13, c13, rfl, H13⟩ := ho13.take HP.out HN.out
    have s13 := hb13.size
    have B13 := Below.andThen B12 hb13
    have W13 := W12.below hb13
    have G13 := G12.below hb13
    clear W12 G12 ho12 ho13 hb13 B12
    go_wp2_with fail
    refine (eqIntS_any _ _ _ _ _ _ _ ps ps HN.out HN.out H13.reads W13.reads (by omega)).mono ?_
    rintro e w14 ⟨rfl, hs14⟩
    have B14 := Below.andSame B13 hs14
    have G14 := G13.same hs14
    clear W13 G13 H13 hs14 B13
    go_wp2_with fail
    refine (heldIntS_any _ _ _ _ _ G14.reads (by omega) (by omega) (by omega)).mono ?_
    rintro e w15 ⟨rfl, hs15⟩
    have B15 := Below.andSame B14 hs15
    go_wp2
    go_ret
    exact ⟨rfl, B15⟩
  · go_enter Try.func4, Try.ntmps4
    go_wp2
    go_ret
    exact ⟨rfl, Below.refl _ _⟩

end Go.Proofs.Ytmkiljflkndmoaj

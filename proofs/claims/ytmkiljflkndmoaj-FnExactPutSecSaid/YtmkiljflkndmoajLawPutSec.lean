/-
  The walk of the exact law of PutSec: at every slice of bytes and every slice of int it answers true, and nothing that was there has turned. No condition.
-/
import Derived.Test.YtmkiljflkndmoajWalkSpecPut
import Derived.Test.YtmkiljflkndmoajWalkMarks
namespace Go.Proofs.Ytmkiljflkndmoaj
open Go.RowKit

theorem putL_length (b s : List Int) : (putL b s).length ≤ b.length + 25 := by
  unfold putL
  split
  · rename_i h
    have : s.length ≤ 12 := by simp [secB] at h; omega
    rw [List.length_append, List.length_cons, wordsL_length]
    omega
  · omega

set_option maxHeartbeats 4000000 in
theorem fnExactPutSec_walk (a0 : Option Addr) (len0 cap0 : Nat) (z0 : List Int) (a1 : Option Addr) (len1 cap1 : Nat) (z1 : List Int) (w : World) (w0 : IsRow .u8 w a0 len0 cap0 z0) (w1 : IsRow .i64 w a1 len1 cap1 z1) :
    Calls Try.prog 3 #[.slice a0 len0 cap0, .slice a1 len1 cap1] w fun e w' => e = .returned (.bool true) ∧ Below w.heap.size w w' := by
  obtain ⟨hr, hl, _, hml⟩ := w0.reads
  obtain ⟨kr, kl, _, kml⟩ := w1.reads
  generalize z0.take len0 = zs at hr hl
  generalize z1.take len1 = xs at kr kl
  unfold maxLen at hml kml
  clear w0 w1
  by_cases hbig : len0 ≤ 1048576
  · by_cases kbig : len1 ≤ 1048576
    · have hpl := putL_length zs xs
      generalize hP : putL zs xs = ps at hpl
      generalize hn : ps.length = pl at hpl
      have HP : Hid (putL zs xs = ps) := hP
      have HN : Hid (ps.length = pl) := hn
      clear hP hn
      have hpb : pl ≤ 2097152 := by omega
      clear hpl
      go_enter Try.func3, Try.ntmps3
      go_wp2_with fail
      refine (toByteS_any _ _ _ _ zs hl hr (by omega)).mono ?_
      rintro e w1 ⟨rfl, ho1, hb1⟩
      have s1 := hb1.size
      go_wp2_with fail
      refine (toIntS_any _ _ _ _ xs kl (kr.below hb1) (by omega)).mono ?_
      rintro e w2 ⟨rfl, ho2, hb2⟩
      have s2 := hb2.size
      have B2 := Below.andThen hb1 hb2
      go_wp2_with fail
      refine (specPutSec_any _ _ _ _ zs _ _ _ xs hl (ho1.reads.below hb2) kl ho2.reads ho2.own.bound (by omega) (by omega)).mono ?_
      rintro e w3 ⟨v3, rfl, ho3, hb3⟩
      obtain ⟨a3, c3, rfl, W3⟩ := ho3.take HP.out HN.out
      have s3 := hb3.size
      have B3 := Below.andThen B2 hb3
      clear ho1 ho2 ho3 hb1 hb2 hb3 B2
      go_wp2_with fail
      refine (toByteS_any _ _ _ _ zs hl (hr.below B3) (by omega)).mono ?_
      rintro e w4 ⟨rfl, ho4, hb4⟩
      have X4 := ho4.own
      have s4 := hb4.size
      have B4 := Below.andThen B3 hb4
      have W4 := W3.below hb4
      clear W3 ho4 hb4 B3
      go_wp2_with fail
      refine (toIntS_any _ _ _ _ xs kl (kr.below B4) (by omega)).mono ?_
      rintro e w5 ⟨rfl, ho5, hb5⟩
      have Y5 := ho5.own
      have s5 := hb5.size
      have B5 := Below.andThen B4 hb5
      have W5 := W4.below hb5
      have X5 := X4.below hb5
      clear W4 X4 ho5 hb5 B4
      go_wp2_with fail
      refine (implPutSec_any _ _ _ _ zs _ _ _ xs hl X5.reads kl Y5.reads Y5.bound (by omega) (by omega)).mono ?_
      rintro e w6 ⟨v6, rfl, ho6, hb6⟩
      obtain ⟨a6, c6, rfl, G6⟩ := ho6.take HP.out HN.out
      have s6 := hb6.size
      have B6 := Below.andThen B5 hb6
      have W6 := W5.below hb6
      have X6 := X5.below hb6
      have Y6 := Y5.below hb6
      clear W5 X5 Y5 ho6 hb6 B5
      go_wp2_with fail
      refine (eqByteS_any _ _ _ _ _ _ _ ps ps HN.out HN.out G6.reads W6.reads hpb).mono ?_
      rintro e w7 ⟨rfl, hs7⟩
      have hd : decide (ps = ps) = true := by simp
      have B7 := Below.andSame B6 hs7
      have W7 := W6.same hs7
      have X7 := X6.same hs7
      have Y7 := Y6.same hs7
      have G7 := G6.same hs7
      have s7 := Nat.le_of_eq hs7.size.symm
      clear W6 X6 Y6 G6 hs7 B6
      go_wp2_with fail
      refine (toByteS_any _ _ _ _ zs hl (hr.below B7) (by omega)).mono ?_
      rintro e w8 ⟨rfl, ho8, hb8⟩
      have s8 := hb8.size
      have B8 := Below.andThen B7 hb8
      have W8 := W7.below hb8
      have X8 := X7.below hb8
      have Y8 := Y7.below hb8
      have G8 := G7.below hb8
      clear W7 X7 Y7 G7 hb8 B7
      go_wp2_with fail
      refine (eqByteS_any _ _ _ _ _ _ _ zs zs hl hl X8.reads ho8.reads (by omega)).mono ?_
      rintro e w9 ⟨rfl, hs9⟩
      have hd2 : decide (zs = zs) = true := by simp
      have B9 := Below.andSame B8 hs9
      have W9 := W8.same hs9
      have X9 := X8.same hs9
      have Y9 := Y8.same hs9
      have G9 := G8.same hs9
      have s9 := Nat.le_of_eq hs9.size.symm
      clear W8 X8 Y8 G8 hs9 B8 ho8
      go_wp2_with fail
      refine (toIntS_any _ _ _ _ xs kl (kr.below B9) (by omega)).mono ?_
      rintro e w10 ⟨rfl, ho10, hb10⟩
      have s10 := hb10.size
      have B10 := Below.andThen B9 hb10
      have W10 := W9.below hb10
      have X10 := X9.below hb10
      have Y10 := Y9.below hb10
      have G10 := G9.below hb10
      clear W9 X9 Y9 G9 hb10 B9
      go_wp2_with fail
      refine (eqIntS_any _ _ _ _ _ _ _ xs xs kl kl Y10.reads ho10.reads (by omega)).mono ?_
      rintro e w11 ⟨rfl, hs11⟩
      have hd3 : decide (xs = xs) = true := by simp
      have B11 := Below.andSame B10 hs11
      have W11 := W10.same hs11
      have X11 := X10.same hs11
      have Y11 := Y10.same hs11
      have G11 := G10.same hs11
      have s11 := Nat.le_of_eq hs11.size.symm
      clear W10 X10 Y10 G10 hs11 B10 ho10
      go_wp2_with fail
      refine (markByteS_any _ _ _ _ _ _ zs _ X11 (by omega) (by omega) (by omega)).mono ?_
      rintro e w12 ⟨rfl, _, hb12⟩
      have s12 := hb12.size
      have B12 := Below.andBut B11 hb12 (by omega)
      have W12 := W11.but hb12 (by omega)
      have Y12 := Y11.but hb12 (by omega)
      have G12 := G11.but hb12 (by omega)
      clear W11 X11 Y11 G11 hb12 B11
      go_wp2_with fail
      refine (markIntS_any _ _ _ _ _ _ xs _ Y12 (by omega) (by omega) (by omega)).mono ?_
      rintro e w13 ⟨rfl, _, hb13⟩
      have s13 := hb13.size
      have B13 := Below.andBut B12 hb13 (by omega)
      have W13 := W12.but hb13 (by omega)
      have G13 := G12.but hb13 (by omega)
      clear W12 Y12 G12 hb13 B12
      go_wp2_with fail
      refine (eqByteS_any _ _ _ _ _ _ _ ps ps HN.out HN.out G13.reads W13.reads hpb).mono ?_
      rintro e w14 ⟨rfl, hs14⟩
      have B14 := Below.andSame B13 hs14
      have W14 := W13.same hs14
      have G14 := G13.same hs14
      have s14 := Nat.le_of_eq hs14.size.symm
      clear W13 G13 hs14 B13
      go_wp2_with fail
      refine (markByteS_any _ _ _ _ _ _ ps _ G14 (by omega) (by omega) (by omega)).mono ?_
      rintro e w15 ⟨rfl, G15, hb15⟩
      have s15 := hb15.size
      have B15 := Below.andBut B14 hb15 (by omega)
      have W15 := W14.but hb15 (by omega)
      clear W14 G14 hb15 B14
      go_wp2_with fail
      refine (heldByteS_any _ _ _ _ _ G15.reads (by omega) (by omega) (by omega)).mono ?_
      rintro e w16 ⟨rfl, hs16⟩
      have B16 := Below.andSame B15 hs16
      have W16 := W15.same hs16
      have G16 := G15.same hs16
      have s16 := Nat.le_of_eq hs16.size.symm
      clear W15 G15 hs16 B15
      go_wp2_with fail
      refine (toByteS_any _ _ _ _ zs hl (hr.below B16) (by omega)).mono ?_
      rintro e w17 ⟨rfl, ho17, hb17⟩
      have s17 := hb17.size
      have B17 := Below.andThen B16 hb17
      have W17 := W16.below hb17
      have G17 := G16.below hb17
      clear W16 G16 hb17 B16
      go_wp2_with fail
      refine (toIntS_any _ _ _ _ xs kl (kr.below B17) (by omega)).mono ?_
      rintro e w18 ⟨rfl, ho18, hb18⟩
      have s18 := hb18.size
      have B18 := Below.andThen B17 hb18
      have W18 := W17.below hb18
      have G18 := G17.below hb18
      have X18 := ho17.own.below hb18
      clear W17 G17 hb18 B17 ho17
      go_wp2_with fail
      refine (implPutSec_any _ _ _ _ zs _ _ _ xs hl X18.reads kl ho18.reads ho18.own.bound (by omega) (by omega)).mono ?_
      rintro e w19 ⟨v19, rfl, ho19, hb19⟩
      obtain ⟨a19, c19, rfl, H19⟩ := ho19.take HP.out HN.out
      have s19 := hb19.size
      have B19 := Below.andThen B18 hb19
      have W19 := W18.below hb19
      have G19 := G18.below hb19
      clear W18 G18 hb19 B18 ho18 X18 ho19
      go_wp2_with fail
      refine (eqByteS_any _ _ _ _ _ _ _ ps ps HN.out HN.out H19.reads W19.reads hpb).mono ?_
      rintro e w20 ⟨rfl, hs20⟩
      have B20 := Below.andSame B19 hs20
      have G20 := G19.same hs20
      clear W19 G19 hs20 B19 H19
      go_wp2_with fail
      refine (heldByteS_any _ _ _ _ _ G20.reads (by omega) (by omega) (by omega)).mono ?_
      rintro e w21 ⟨rfl, hs21⟩
      have B21 := Below.andSame B20 hs21
      go_wp2
      go_ret
      exact ⟨rfl, B21⟩
    · go_enter Try.func3, Try.ntmps3
      go_wp2
      go_ret
      exact ⟨rfl, Below.refl _ _⟩
  · go_enter Try.func3, Try.ntmps3
    go_wp2
    go_ret
    exact ⟨rfl, Below.refl _ _⟩

end Go.Proofs.Ytmkiljflkndmoaj

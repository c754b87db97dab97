/-
  The walk of the law of sectors: whatever bytes it draws from, it answers true, and nothing that was there has turned. No condition.
-/
import Derived.Test.YtmkiljflkndmoaaSectors
import Derived.Test.YtmkiljflkndmoaaWalkImplGet
namespace Go.Proofs.Ytmkiljflkndmoaa
open Go.RowKit

theorem bytes_of_wf {zs : List Int} (h : ∀ n ∈ zs, (Lit.int .u8 n).wf = true) : ∀ n ∈ zs, 0 ≤ n ∧ n ≤ 255 := by
  intro n hn
  have := h n hn
  simp [Lit.wf, IntKind.min, IntKind.max, IntKind.signed, IntKind.bits] at this
  omega

theorem big_any (a : Option Addr) (len cap : Nat) (w : World) : Calls Try.prog 8 #[.slice a len cap] w fun e w' => e = .returned (.bool (decide (1048576 < (len : Int)))) ∧ w = w' := by
  go_enter Try.func8, Try.ntmps8
  go_wp2
  go_ret
  exact ⟨rfl, rfl⟩

set_option maxHeartbeats 4000000 in
theorem fnSectors_walk (a0 : Option Addr) (len0 cap0 : Nat) (z0 : List Int) (w : World) (w0 : IsRow .u8 w a0 len0 cap0 z0) :
    Calls Try.prog 3 #[.slice a0 len0 cap0] w fun e w' => e = .returned (.bool true) ∧ Below w.heap.size w w' := by
  obtain ⟨hr, hl, hwf, hml⟩ := w0.reads
  generalize z0.take len0 = zs at hr hl hwf
  unfold maxLen at hml
  have hby := bytes_of_wf hwf
  clear w0 hwf
  by_cases hbig : len0 ≤ 1048576
  · go_enter Try.func3, Try.ntmps3
    go_wp2_with fail
    refine (big_any _ _ _ _).mono ?_
    rintro e wb ⟨rfl, rfl⟩
    go_wp2_with fail
    refine (drawPutSec_any _ _ _ _ zs hl hr hby (by omega)).mono ?_
    rintro e w1 ⟨ad, n, cap, v, bs, xs, rfl, hn3, hbn, hbs, hxl, ho1, hx1, hb1⟩
    obtain ⟨a1, c1, rfl, X1⟩ := hx1.take rfl rfl
    have O1 := ho1.own
    have s1 := hb1.size
    clear ho1 hx1
    go_wp2_with fail
    refine (implPutSec_any _ _ _ _ bs _ _ _ xs hbn O1.reads rfl X1.reads X1.bound (by omega) (by omega)).mono ?_
    rintro e w2 ⟨v2, rfl, ho2, hb2⟩
    have hpb := putL_bytes (xs := xs) hbs
    have hpl := putL_length bs xs
    have hT : secB xs = true → 1 ≤ (putL bs xs).length ∧ getOk (putL bs xs) (n : Int) = true ∧ getL (putL bs xs) (n : Int) = xs ∧ getAt (putL bs xs) (n : Int) = ((putL bs xs).length : Int) ∧ getOk ((putL bs xs).take ((putL bs xs).length - 1)) (n : Int) = false := by
      intro h
      have h1 := comes_back (bs := bs) h
      have h2 := cut_not (bs := bs) h
      rw [hbn] at h1 h2
      exact ⟨putL_some h, h1.1, h1.2.1, h1.2.2, h2⟩
    have hF : secB xs = false → putL bs xs = bs := putL_none
    generalize putL bs xs = ps at ho2 hpb hpl hT hF
    generalize hn : ps.length = pl at hpl hT
    have hpl28 : pl ≤ 28 := by omega
    obtain ⟨a2, c2, rfl, P2⟩ := ho2.take rfl hn
    have HN : Hid (ps.length = pl) := hn
    clear hn hpl
    have X2 := X1.below hb2
    have O2 := O1.below hb2
    have B2 := Below.andThen hb1 hb2
    clear hb1 hb2 X1 O1 ho2
    go_wp2_with fail
    refine (drawGetSec_any _ _ _ _ zs hl (hr.below B2) hby (by omega)).mono ?_
    rintro e w3 ⟨a3, m, c3, p, cs, rfl, hcm, hm9, hmc, hc3, hcs, hp0, hp1, hr3, hb3⟩
    have X3 := X2.below hb3
    have O3 := O2.below hb3
    have P3 := P2.below hb3
    have B3 := Below.andThen B2 hb3
    clear X2 O2 P2 B2 hb3
    go_wp2_with fail
    refine (implGetSec_any _ _ _ _ cs _ hcm hr3 hcs (by omega) hmc hc3 hp0 hp1).mono ?_
    rintro e w4 ⟨v4, rfl, ho4, hb4⟩
    obtain ⟨a4, c4, rfl, Y4⟩ := ho4.take rfl rfl
    have X4 := X3.below hb4
    have O4 := O3.below hb4
    have P4 := P3.below hb4
    have C4 := hr3.below hb4
    have B4 := Below.andThen B3 hb4
    clear X3 O3 P3 B3 hb4 hr3 ho4
    go_wp2_with fail
    refine (specGetSec_any _ _ _ _ cs _ hcm C4 hcs (by omega) hp0 hp1).mono ?_
    rintro e w5 ⟨v5, rfl, _, hb5⟩
    have X5 := X4.below hb5
    have O5 := O4.below hb5
    have P5 := P4.below hb5
    have Y5 := Y4.below hb5
    have C5 := C4.below hb5
    have B5 := Below.andThen B4 hb5
    have s5 := hb5.size
    have hgl := getL_length cs p
    clear X4 O4 P4 B4 Y4 hb5 C4
    by_cases hok : getOk cs p = true
    · have hp0' : 0 ≤ p := by
        unfold getOk at hok
        simp only [Bool.and_eq_true, decide_eq_true_eq] at hok
        exact hok.1.1.1
      obtain ⟨p, rfl⟩ := Int.eq_ofNat_of_zero_le hp0'
      obtain ⟨hpl, q, hq12, hpq, hat, hput⟩ := put_again hcs p hok
      rcases C5.cases with h0 | ⟨b, off, rfl, hbl, _⟩
      · omega
      have hne : ¬ c3 = p := by omega
      have i1 : (0 : Int) ≤ (p : Int) := by omega
      have i2 : (p : Int) ≤ (p : Int) + 1 + 2 * (q : Int) := by omega
      have i3 : (p : Int) + 1 + 2 * (q : Int) ≤ (c3 : Int) := by omega
      have i4 : ((p : Int) + 1 + 2 * (q : Int)).toNat = p + 1 + 2 * q := by omega
      have R5 := C5.sub p (1 + 2 * q)
      rw [← hput] at R5
      have HP : Hid (putL [] (getL cs (p : Int)) = (cs.drop p).take (1 + 2 * q)) := hput
      have HL : Hid ((putL [] (getL cs (p : Int))).length = p + 1 + 2 * q - p) := by
        unfold Hid
        rw [hput, List.length_take, List.length_drop]
        omega
      have hd0 : decide (putL [] (getL cs (p : Int)) = putL [] (getL cs (p : Int))) = true := by simp
      clear hput
      go_wp2_with fail
      go_region_held3 (fun _ => True) (exact trivial)
        (first
          | (go_at_call 10; refine (implPutSec_any _ _ 0 _ [] _ _ _ (getL cs (p : Int)) rfl (.inl rfl) rfl (by exact (Y5.alloc _).reads) (by exact fun x hx => Nat.lt_of_lt_of_le (Y5.bound x hx) (by simp; omega)) (by omega) (by omega)).mono ?_; rintro e wP ⟨vP, rfl, hoP, hbP⟩; obtain ⟨aP, cP, rfl, oP⟩ := hoP.take rfl rfl)
          | (go_at_call 14; refine (sameBytes_any _ _ _ _ _ _ _ (putL [] (getL cs (p : Int))) (putL [] (getL cs (p : Int))) rfl HL.out oP.reads (by exact ((R5.below ((Below.refl _ _).alloc (Nat.le_refl _) _)).draw).below hbP) (by rw [HL.out]; omega)).mono ?_; rintro e wQ ⟨rfl, hsQ⟩))
      have hA : Below w5.heap.size w5 (w5.alloc (.cells #[] 5)).drew := ((Below.refl _ _).alloc (Nat.le_refl _) _).drew
      have hAQ := Below.andSame (Below.andThen hA hbP) hsQ
      have X6 := X5.below hAQ
      have O6 := O5.below hAQ
      have P6 := P5.below hAQ
      have B6 := Below.andThen B5 hAQ
      clear hA hAQ hsQ hbP oP hoP X5 O5 P5 B5 R5 C5 Y5 HL HP hok hat hd0 i1 i2 i3 i4 hne
      by_cases hs : secB xs = true
      · obtain ⟨hT1, hT2, hT3, hT4, hT5⟩ := hT hs
        have HT3 : Hid (getL ps (n : Int) = xs) := hT3
        clear hT hF hT3
        go_wp2_with fail
        refine (specSecOk_any _ _ _ _ xs rfl X6.reads (by omega)).mono ?_
        rintro e w7 ⟨rfl, hs7⟩
        have X7 := X6.same hs7
        have O7 := O6.same hs7
        have P7 := P6.same hs7
        have B7 := Below.andSame B6 hs7
        clear X6 O6 P6 B6 hs7
        have hcap := P7.cap
        go_wp2_with fail
        refine (implGetSec_any _ _ _ _ ps _ HN.out P7.reads hpb (by omega) hcap.1 hcap.2 (by omega) (by omega)).mono ?_
        rintro e w8 ⟨v8, rfl, ho8, hb8⟩
        obtain ⟨a8, c8, rfl, Z8⟩ := ho8.take HT3.out rfl
        have X8 := X7.below hb8
        have P8 := P7.below hb8
        have B8 := Below.andThen B7 hb8
        clear X7 O7 P7 B7 hb8 ho8
        rcases P8.reads.cases with h0 | ⟨bq, oq, rfl, hbq, _⟩
        · have := HN.out; omega
        have i1 : (0 : Int) ≤ (pl : Int) - 1 := by omega
        have i3 : (pl : Int) - 1 ≤ (c2 : Int) := by omega
        have i4 : ((pl : Int) - 1).toNat = pl - 1 := by omega
        have hlc : (ps.take (pl - 1)).length = pl - 1 := by have := HN.out; simp; omega
        have HLC : Hid ((ps.take (pl - 1)).length = pl - 1) := hlc
        clear hlc
        go_wp2_with fail
        refine (implGetSec_any _ _ _ _ (ps.take (pl - 1)) _ HLC.out (P8.reads.take _) (fun x hx => hpb x (List.mem_of_mem_take hx)) (by omega) (by omega) hcap.2 (by omega) (by omega)).mono ?_
        rintro e w9 ⟨v9, rfl, _, hb9⟩
        have X9 := X8.below hb9
        have Z9 := Z8.below hb9
        have B9 := Below.andThen B8 hb9
        clear X8 P8 B8 Z8 hb9
        go_wp2_with fail
        refine (sameInts_any _ _ _ _ _ _ _ xs xs rfl rfl Z9.reads X9.reads (by omega)).mono ?_
        rintro e w10 ⟨rfl, hs10⟩
        have hd1 : decide (xs = xs) = true := by simp
        have hd2 : ((pl : Int) == (pl : Int)) = true := by simp
        have X10 := X9.same hs10
        have B10 := Below.andSame B9 hs10
        clear X9 Z9 B9 hs10
        go_wp2_with fail
        refine (implSecOk_any _ _ _ _ xs rfl X10.reads (by omega)).mono ?_
        rintro e w11 ⟨rfl, hs11⟩
        have B11 := Below.andSame B10 hs11
        go_wp2
        go_ret
        exact ⟨rfl, B11⟩
      · have hs : secB xs = false := by simpa using hs
        have HF : Hid (ps = bs) := hF hs
        clear hT hF
        go_wp2_with fail
        refine (specSecOk_any _ _ _ _ xs rfl X6.reads (by omega)).mono ?_
        rintro e w7 ⟨rfl, hs7⟩
        have X7 := X6.same hs7
        have O7 := O6.same hs7
        have P7 := P6.same hs7
        have B7 := Below.andSame B6 hs7
        clear X6 O6 P6 B6 hs7
        go_wp2_with fail
        refine (sameBytes_any _ _ _ _ _ _ _ ps bs HN.out hbn P7.reads O7.reads (by omega)).mono ?_
        rintro e w8 ⟨rfl, hs8⟩
        have hd1 : decide (ps = bs) = true := by rw [HF.out]; simp
        have X8 := X7.same hs8
        have B8 := Below.andSame B7 hs8
        clear X7 O7 P7 B7 hs8
        go_wp2_with fail
        refine (implSecOk_any _ _ _ _ xs rfl X8.reads (by omega)).mono ?_
        rintro e w9 ⟨rfl, hs9⟩
        have B9 := Below.andSame B8 hs9
        go_wp2
        go_ret
        exact ⟨rfl, B9⟩
    · have hok : getOk cs p = false := by simpa using hok
      go_wp2_with fail
      go_quiet (fail)
      have X6 := X5.same ((Same.refl _).drewN nq)
      have O6 := O5.same ((Same.refl _).drewN nq)
      have P6 := P5.same ((Same.refl _).drewN nq)
      have B6 := Below.andSame B5 ((Same.refl _).drewN nq)
      clear X5 O5 P5 B5 C5 Y5 hok
      by_cases hs : secB xs = true
      · obtain ⟨hT1, hT2, hT3, hT4, hT5⟩ := hT hs
        have HT3 : Hid (getL ps (n : Int) = xs) := hT3
        clear hT hF hT3
        go_wp2_with fail
        refine (specSecOk_any _ _ _ _ xs rfl X6.reads (by omega)).mono ?_
        rintro e w7 ⟨rfl, hs7⟩
        have X7 := X6.same hs7
        have O7 := O6.same hs7
        have P7 := P6.same hs7
        have B7 := Below.andSame B6 hs7
        clear X6 O6 P6 B6 hs7
        have hcap := P7.cap
        go_wp2_with fail
        refine (implGetSec_any _ _ _ _ ps _ HN.out P7.reads hpb (by omega) hcap.1 hcap.2 (by omega) (by omega)).mono ?_
        rintro e w8 ⟨v8, rfl, ho8, hb8⟩
        obtain ⟨a8, c8, rfl, Z8⟩ := ho8.take HT3.out rfl
        have X8 := X7.below hb8
        have P8 := P7.below hb8
        have B8 := Below.andThen B7 hb8
        clear X7 O7 P7 B7 hb8 ho8
        rcases P8.reads.cases with h0 | ⟨bq, oq, rfl, hbq, _⟩
        · have := HN.out; omega
        have i1 : (0 : Int) ≤ (pl : Int) - 1 := by omega
        have i3 : (pl : Int) - 1 ≤ (c2 : Int) := by omega
        have i4 : ((pl : Int) - 1).toNat = pl - 1 := by omega
        have hlc : (ps.take (pl - 1)).length = pl - 1 := by have := HN.out; simp; omega
        have HLC : Hid ((ps.take (pl - 1)).length = pl - 1) := hlc
        clear hlc
        go_wp2_with fail
        refine (implGetSec_any _ _ _ _ (ps.take (pl - 1)) _ HLC.out (P8.reads.take _) (fun x hx => hpb x (List.mem_of_mem_take hx)) (by omega) (by omega) hcap.2 (by omega) (by omega)).mono ?_
        rintro e w9 ⟨v9, rfl, _, hb9⟩
        have X9 := X8.below hb9
        have Z9 := Z8.below hb9
        have B9 := Below.andThen B8 hb9
        clear X8 P8 B8 Z8 hb9
        go_wp2_with fail
        refine (sameInts_any _ _ _ _ _ _ _ xs xs rfl rfl Z9.reads X9.reads (by omega)).mono ?_
        rintro e w10 ⟨rfl, hs10⟩
        have hd1 : decide (xs = xs) = true := by simp
        have hd2 : ((pl : Int) == (pl : Int)) = true := by simp
        have X10 := X9.same hs10
        have B10 := Below.andSame B9 hs10
        clear X9 Z9 B9 hs10
        go_wp2_with fail
        refine (implSecOk_any _ _ _ _ xs rfl X10.reads (by omega)).mono ?_
        rintro e w11 ⟨rfl, hs11⟩
        have B11 := Below.andSame B10 hs11
        go_wp2
        go_ret
        exact ⟨rfl, B11⟩
      · have hs : secB xs = false := by simpa using hs
        have HF : Hid (ps = bs) := hF hs
        clear hT hF
        go_wp2_with fail
        refine (specSecOk_any _ _ _ _ xs rfl X6.reads (by omega)).mono ?_
        rintro e w7 ⟨rfl, hs7⟩
        have X7 := X6.same hs7
        have O7 := O6.same hs7
        have P7 := P6.same hs7
        have B7 := Below.andSame B6 hs7
        clear X6 O6 P6 B6 hs7
        go_wp2_with fail
        refine (sameBytes_any _ _ _ _ _ _ _ ps bs HN.out hbn P7.reads O7.reads (by omega)).mono ?_
        rintro e w8 ⟨rfl, hs8⟩
        have hd1 : decide (ps = bs) = true := by rw [HF.out]; simp
        have X8 := X7.same hs8
        have B8 := Below.andSame B7 hs8
        clear X7 O7 P7 B7 hs8
        go_wp2_with fail
        refine (implSecOk_any _ _ _ _ xs rfl X8.reads (by omega)).mono ?_
        rintro e w9 ⟨rfl, hs9⟩
        have B9 := Below.andSame B8 hs9
        go_wp2
        go_ret
        exact ⟨rfl, B9⟩
  · go_enter Try.func3, Try.ntmps3
    go_wp2_with fail
    refine (big_any _ _ _ _).mono ?_
    rintro e wb ⟨rfl, rfl⟩
    go_wp2
    go_ret
    exact ⟨rfl, Below.refl _ _⟩

end Go.Proofs.Ytmkiljflkndmoaa

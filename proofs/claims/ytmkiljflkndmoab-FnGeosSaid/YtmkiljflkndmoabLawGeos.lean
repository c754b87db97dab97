/-
  The walk of the law of places: whatever bytes it draws from, it answers true, and nothing that was there has turned. No condition.
-/
import Derived.Test.YtmkiljflkndmoabWalkDrawGeo3
import Derived.Test.YtmkiljflkndmoabWalkDisk
import Derived.Test.YtmkiljflkndmoabWalkBig
namespace Go.Proofs.Ytmkiljflkndmoab
open Go.RowKit

/-- The disks that were seen, as bits: the parity's, and of j blocks behind it. -/
def seenN (n p : Nat) : Nat → Int
  | 0 => wrap64 (2 ^ p)
  | j + 1 => bits BinOp.or IntKind.i64 (seenN n p j) (wrap64 (2 ^ ((p + 1 + j) % n)))

theorem seen3 : ∀ p, p < 3 → (∀ j, j < 2 → (bits BinOp.and IntKind.i64 (seenN 3 p j / 2 ^ ((p + 1 + j) % 3)) 1 == 1) = false) ∧ seenN 3 p 2 = 7 := by decide +kernel
theorem seen4 : ∀ p, p < 4 → (∀ j, j < 3 → (bits BinOp.and IntKind.i64 (seenN 4 p j / 2 ^ ((p + 1 + j) % 4)) 1 == 1) = false) ∧ seenN 4 p 3 = 15 := by decide +kernel
theorem seen5 : ∀ p, p < 5 → (∀ j, j < 4 → (bits BinOp.and IntKind.i64 (seenN 5 p j / 2 ^ ((p + 1 + j) % 5)) 1 == 1) = false) ∧ seenN 5 p 4 = 31 := by decide +kernel

theorem blockN_back {n s t i : Int} (h : spotB n s t i = true) : blockB n s (blockN n s t i) = true ∧ stripeN n s (blockN n s t i) = t ∧ indexN n s (blockN n s t i) = i := by
  obtain ⟨b, hb, h1, h2⟩ := spot_block.1 h
  have := block_at hb
  rw [h1, h2] at this
  rw [this]
  exact ⟨hb, h1, h2⟩

set_option maxHeartbeats 8000000 in
theorem fnGeos_walk (a0 : Option Addr) (len0 cap0 : Nat) (z0 : List Int) (w : World) (w0 : IsRow .u8 w a0 len0 cap0 z0) :
    Calls Try.prog 3 #[.slice a0 len0 cap0] w fun e w' => e = .returned (.bool true) ∧ Below w.heap.size w w' := by
  obtain ⟨R, hl, hwf, hml⟩ := w0.reads
  generalize z0.take len0 = zs at R hl hwf
  unfold maxLen at hml
  have hby := bytes_of_wf hwf
  clear w0 hwf
  by_cases hbig : len0 ≤ 1048576
  rotate_left
  · go_enter Try.func3, Try.ntmps3
    go_wp2_with fail
    refine (big_any _ _ _ _).mono ?_
    rintro e wb ⟨rfl, rfl⟩
    go_wp2
    go_ret
    exact ⟨rfl, Below.refl _ _⟩
  have hlb : len0 ≤ 2097152 := by omega
  go_enter Try.func3, Try.ntmps3
  go_wp2_with fail
  refine (big_any _ _ _ _).mono ?_
  rintro e wb ⟨rfl, rfl⟩
  go_wp2_with fail
  refine (dDrawGeo_any _ _ _ _ zs hl R hby hlb).mono ?_
  rintro e w1 ⟨n, s, t, i, rfl, hgeo, ht0, ht1, hi0, hi1, B1⟩
  obtain ⟨g1, g2, g3, g4⟩ := geoB_iff.1 hgeo
  have X := Gbox.new w1 25 n s
  have B2 := B1.alloc B1.size (.cells #[.int .i64 n, .int .i64 s] 25)
  clear B1
  obtain ⟨k0, k1⟩ := X.cells
  go_wp2_with fail
  generalize w1.alloc (.cells #[.int .i64 n, .int .i64 s] 25) = W at X B2 k0 k1 ⊢
  refine (implBlockAt_any _ _ _ _ _).mono ?_
  rintro e w3 ⟨rfl, b3⟩
  have X3 := X.below b3 X.lt
  have B3 := Below.andThen B2 b3
  clear k0 k1 X B2 b3
  obtain ⟨k0, k1⟩ := X3.cells
  go_wp2_with fail
  refine (implParityOf_any _ _ _ _).mono ?_
  rintro e w4 ⟨rfl, b4⟩
  have X4 := X3.below b4 X3.lt
  have B4 := Below.andThen B3 b4
  clear k0 k1 X3 B3 b4
  obtain ⟨k0, k1⟩ := X4.cells
  have hn : n = 3 ∨ n = 4 ∨ n = 5 := by omega
  rcases hn with hn | hn | hn
  · obtain rfl : n = 3 := hn
    have hm1 : 0 ≤ t % 3 := Int.emod_nonneg _ (by omega)
    have hm2 : t % 3 < 3 := Int.emod_lt_of_pos _ (by omega)
    have HP : parN 3 s t = 3 - 1 - t % 3 := by unfold parN; rw [if_pos (stripeB_of.2 ⟨hgeo, ht0, ht1⟩)]
    rw [HP]
    obtain ⟨p, hp⟩ := Int.eq_ofNat_of_zero_le (show 0 ≤ 3 - 1 - t % 3 by omega)
    have HPP := hidden hp
    have hpn : p < 3 := by omega
    have HS := hidden (seen3 p hpn)
    rw [hp]
    clear hp HP
    have u1 : IntKind.u64.wrap (p : Int) = p := by rw [IntKind.wrap_u64]; omega
    have hspot : spotB 3 s t i = true := spotB_of.2 ⟨hgeo, ht0, ht1, hi0, by omega⟩
    obtain ⟨hb, hbs, hbi⟩ := blockN_back hspot
    obtain ⟨hb0, hb1⟩ := blockB_of.1 hb
    generalize blockN 3 s t i = bn at hb hbs hbi hb0 hb1 ⊢
    go_wp2_with fail
    go_loopw [8, 9] (fun c k wr => ∃ j : Nat, j ≤ 2 ∧ k = .int .i64 j ∧ c = .int .i64 (seenN 3 p j) ∧ Gbox wr w1.heap.size 25 3 s ∧ Below w.heap.size w wr) (fun _ k _ => 2 - (intOf k).toNat)
    case atStart => exact ⟨0, Nat.zero_le _, rfl, rfl, X4, B4⟩
    case round =>
      obtain ⟨j, hj, rfl, rfl, X5, B5⟩ := hrel
      clear X4 B4 k0 k1
      obtain ⟨k0, k1⟩ := X5.cells
      by_cases hlt : j < 2
      · obtain ⟨d, hd⟩ : ∃ d : Nat, d = (p + 1 + j) % 3 := ⟨_, rfl⟩
        have HD : Hid (diskN 3 s t j = (d : Int)) := by
          unfold Hid diskN
          rw [if_pos (spotB_of.2 ⟨hgeo, ht0, ht1, by omega, by omega⟩)]
          have := HPP.out
          omega
        have hdn : d < 3 := by omega
        have HX : Hid (seenN 3 p (j + 1) = bits BinOp.or IntKind.i64 (seenN 3 p j) (wrap64 (2 ^ d))) := by unfold Hid; rw [hd]; rfl
        have hbit : (bits BinOp.and IntKind.i64 (seenN 3 p j / 2 ^ d) 1 == 1) = false := by rw [hd]; exact HS.out.1 j hlt
        have u2 : IntKind.u64.wrap (d : Int) = d := by rw [IntKind.wrap_u64]; omega
        have HDI : ∀ W : World, Calls Try.prog 9 #[.agg #[.int .i64 3, .int .i64 s], .int .i64 t, .int .i64 (j : Int)] W fun e w' => e = .returned (.int .i64 (d : Int)) ∧ Below W.heap.size W w' := by
          intro W
          rw [← HD.out]
          exact implDiskOf_any _ _ _ _ _
        clear hd HD
        generalize seenN 3 p j = x at HX hbit ⊢
        have jlt : (j : Int) < 2 := by omega
        go_wp2_with fail
        refine (HDI _).mono ?_
        rintro e w6 ⟨rfl, b6⟩
        have X6 := X5.below b6 X5.lt
        have B6 := Below.andThen B5 b6
        clear k0 k1 X5 B5 b6
        obtain ⟨k0, k1⟩ := X6.cells
        go_wp2
        go_roundw
        case rel => exact ⟨j + 1, by omega, by go_num, by rw [HX.out], X6, B6⟩
        case measure => simp [intOf]; omega
      · obtain rfl : j = 2 := by omega
        have HSF := hidden HS.out.2
        rw [HSF.out]
        have tw : IntKind.i64.wrap (t + 1) = t + 1 := IntWalk.i64_in _ (by omega)
        have e1 : (stripeN 3 s bn == t) = true := by rw [hbs]; simp
        have e2 : (indexN 3 s bn == i) = true := by rw [hbi]; simp
        have e3 : decide (0 ≤ bn) = true := decide_eq_true hb0
        have e4 : decide (bn < blocksN 3 s) = true := decide_eq_true hb1
        have HST : ∀ W : World, Calls Try.prog 10 #[.agg #[.int .i64 3, .int .i64 s], .int .i64 bn] W fun e w' => e = .returned (.int .i64 t) ∧ Below W.heap.size W w' := by
          intro W
          rw [← hbs]
          exact implStripeOf_any _ _ _ _
        have HIN : ∀ W : World, Calls Try.prog 11 #[.agg #[.int .i64 3, .int .i64 s], .int .i64 bn] W fun e w' => e = .returned (.int .i64 i) ∧ Below W.heap.size W w' := by
          intro W
          rw [← hbi]
          exact implIndexOf_any _ _ _ _
        by_cases hlast : t + 1 = s
        · have HQ : ∀ W : World, Calls Try.prog 8 #[.agg #[.int .i64 3, .int .i64 s], .int .i64 (t + 1)] W fun e w' => e = .returned (.int .i64 (-1)) ∧ Below W.heap.size W w' := by
            intro W
            have : parN 3 s (t + 1) = -1 := by unfold parN; rw [if_neg (by rw [stripeB_of]; omega)]
            rw [← this]
            exact implParityOf_any _ _ _ _
          have e5 : (t + 1 == s) = true := by simpa using hlast
          have ett : (t == t) = true := by simp
          have eii : (i == i) = true := by simp
          have ep : (p : Int) < 3 := by omega
          have ep0 : (0 : Int) ≤ (p : Int) := by omega
          clear hbs hbi HS HPP hlast
          go_wp2_with fail
          refine (HQ _).mono ?_
          rintro e w6 ⟨rfl, b6⟩
          have X6 := X5.below b6 X5.lt
          have B6 := Below.andThen B5 b6
          clear k0 k1 X5 B5 b6
          obtain ⟨k0, k1⟩ := X6.cells
          go_wp2_with fail
          refine (HST _).mono ?_
          rintro e w7 ⟨rfl, b7⟩
          have X7 := X6.below b7 X6.lt
          have B7 := Below.andThen B6 b7
          clear k0 k1 X6 B6 b7
          obtain ⟨k0, k1⟩ := X7.cells
          go_wp2_with fail
          refine (HIN _).mono ?_
          rintro e w8 ⟨rfl, b8⟩
          have X8 := X7.below b8 X7.lt
          have B8 := Below.andThen B7 b8
          clear k0 k1 X7 B7 b8
          obtain ⟨k0, k1⟩ := X8.cells
          go_wp2_with fail
          refine (implBlocks_any _ _ _).mono ?_
          rintro e w9 ⟨rfl, b9⟩
          have X9 := X8.below b9 X8.lt
          have B9 := Below.andThen B8 b9
          clear k0 k1 X8 B8 b9
          obtain ⟨k0, k1⟩ := X9.cells
          go_wp2_with fail
          refine (implGeoOk_any _ _ _).mono ?_
          rintro e w10 ⟨rfl, b10⟩
          have B10 := Below.andThen B9 b10
          go_wp2
          go_ret
          exact ⟨rfl, B10⟩
        · have hm3 := HPP.out
          obtain ⟨q, hq⟩ : ∃ q : Nat, (q : Int) = ((p : Int) + 3 - 1) % 3 := ⟨(((p : Int) + 3 - 1) % 3).toNat, by omega⟩
          have HQ : ∀ W : World, Calls Try.prog 8 #[.agg #[.int .i64 3, .int .i64 s], .int .i64 (t + 1)] W fun e w' => e = .returned (.int .i64 (q : Int)) ∧ Below W.heap.size W w' := by
            intro W
            have : parN 3 s (t + 1) = q := by
              unfold parN
              rw [if_pos (by rw [stripeB_of]; exact ⟨hgeo, by omega, by omega⟩)]
              omega
            rw [← this]
            exact implParityOf_any _ _ _ _
          have e5 : (t + 1 == s) = false := by simpa using hlast
          have e6 : ((q : Int) == -1) = false := by simp
          have e7 : ((q : Int) == ((p : Int) + 3 - 1) % 3) = true := by rw [hq]; simp
          have e8 : ((p : Int) + 3 - 1).tmod 3 = ((p : Int) + 3 - 1) % 3 := Int.tmod_eq_emod_of_nonneg (by omega)
          have ett : (t == t) = true := by simp
          have eii : (i == i) = true := by simp
          have ep : (p : Int) < 3 := by omega
          have ep0 : (0 : Int) ≤ (p : Int) := by omega
          clear hbs hbi HS HPP hlast hm3 hq
          go_wp2_with fail
          refine (HQ _).mono ?_
          rintro e w6 ⟨rfl, b6⟩
          have X6 := X5.below b6 X5.lt
          have B6 := Below.andThen B5 b6
          clear k0 k1 X5 B5 b6
          obtain ⟨k0, k1⟩ := X6.cells
          go_wp2_with fail
          refine (HST _).mono ?_
          rintro e w7 ⟨rfl, b7⟩
          have X7 := X6.below b7 X6.lt
          have B7 := Below.andThen B6 b7
          clear k0 k1 X6 B6 b7
          obtain ⟨k0, k1⟩ := X7.cells
          go_wp2_with fail
          refine (HIN _).mono ?_
          rintro e w8 ⟨rfl, b8⟩
          have X8 := X7.below b8 X7.lt
          have B8 := Below.andThen B7 b8
          clear k0 k1 X7 B7 b8
          obtain ⟨k0, k1⟩ := X8.cells
          go_wp2_with fail
          refine (implBlocks_any _ _ _).mono ?_
          rintro e w9 ⟨rfl, b9⟩
          have X9 := X8.below b9 X8.lt
          have B9 := Below.andThen B8 b9
          clear k0 k1 X8 B8 b9
          obtain ⟨k0, k1⟩ := X9.cells
          go_wp2_with fail
          refine (implGeoOk_any _ _ _).mono ?_
          rintro e w10 ⟨rfl, b10⟩
          have B10 := Below.andThen B9 b10
          go_wp2
          go_ret
          exact ⟨rfl, B10⟩
  · obtain rfl : n = 4 := hn
    have hm1 : 0 ≤ t % 4 := Int.emod_nonneg _ (by omega)
    have hm2 : t % 4 < 4 := Int.emod_lt_of_pos _ (by omega)
    have HP : parN 4 s t = 4 - 1 - t % 4 := by unfold parN; rw [if_pos (stripeB_of.2 ⟨hgeo, ht0, ht1⟩)]
    rw [HP]
    obtain ⟨p, hp⟩ := Int.eq_ofNat_of_zero_le (show 0 ≤ 4 - 1 - t % 4 by omega)
    have HPP := hidden hp
    have hpn : p < 4 := by omega
    have HS := hidden (seen4 p hpn)
    rw [hp]
    clear hp HP
    have u1 : IntKind.u64.wrap (p : Int) = p := by rw [IntKind.wrap_u64]; omega
    have hspot : spotB 4 s t i = true := spotB_of.2 ⟨hgeo, ht0, ht1, hi0, by omega⟩
    obtain ⟨hb, hbs, hbi⟩ := blockN_back hspot
    obtain ⟨hb0, hb1⟩ := blockB_of.1 hb
    generalize blockN 4 s t i = bn at hb hbs hbi hb0 hb1 ⊢
    go_wp2_with fail
    go_loopw [8, 9] (fun c k wr => ∃ j : Nat, j ≤ 3 ∧ k = .int .i64 j ∧ c = .int .i64 (seenN 4 p j) ∧ Gbox wr w1.heap.size 25 4 s ∧ Below w.heap.size w wr) (fun _ k _ => 3 - (intOf k).toNat)
    case atStart => exact ⟨0, Nat.zero_le _, rfl, rfl, X4, B4⟩
    case round =>
      obtain ⟨j, hj, rfl, rfl, X5, B5⟩ := hrel
      clear X4 B4 k0 k1
      obtain ⟨k0, k1⟩ := X5.cells
      by_cases hlt : j < 3
      · obtain ⟨d, hd⟩ : ∃ d : Nat, d = (p + 1 + j) % 4 := ⟨_, rfl⟩
        have HD : Hid (diskN 4 s t j = (d : Int)) := by
          unfold Hid diskN
          rw [if_pos (spotB_of.2 ⟨hgeo, ht0, ht1, by omega, by omega⟩)]
          have := HPP.out
          omega
        have hdn : d < 4 := by omega
        have HX : Hid (seenN 4 p (j + 1) = bits BinOp.or IntKind.i64 (seenN 4 p j) (wrap64 (2 ^ d))) := by unfold Hid; rw [hd]; rfl
        have hbit : (bits BinOp.and IntKind.i64 (seenN 4 p j / 2 ^ d) 1 == 1) = false := by rw [hd]; exact HS.out.1 j hlt
        have u2 : IntKind.u64.wrap (d : Int) = d := by rw [IntKind.wrap_u64]; omega
        have HDI : ∀ W : World, Calls Try.prog 9 #[.agg #[.int .i64 4, .int .i64 s], .int .i64 t, .int .i64 (j : Int)] W fun e w' => e = .returned (.int .i64 (d : Int)) ∧ Below W.heap.size W w' := by
          intro W
          rw [← HD.out]
          exact implDiskOf_any _ _ _ _ _
        clear hd HD
        generalize seenN 4 p j = x at HX hbit ⊢
        have jlt : (j : Int) < 3 := by omega
        go_wp2_with fail
        refine (HDI _).mono ?_
        rintro e w6 ⟨rfl, b6⟩
        have X6 := X5.below b6 X5.lt
        have B6 := Below.andThen B5 b6
        clear k0 k1 X5 B5 b6
        obtain ⟨k0, k1⟩ := X6.cells
        go_wp2
        go_roundw
        case rel => exact ⟨j + 1, by omega, by go_num, by rw [HX.out], X6, B6⟩
        case measure => simp [intOf]; omega
      · obtain rfl : j = 3 := by omega
        have HSF := hidden HS.out.2
        rw [HSF.out]
        have tw : IntKind.i64.wrap (t + 1) = t + 1 := IntWalk.i64_in _ (by omega)
        have e1 : (stripeN 4 s bn == t) = true := by rw [hbs]; simp
        have e2 : (indexN 4 s bn == i) = true := by rw [hbi]; simp
        have e3 : decide (0 ≤ bn) = true := decide_eq_true hb0
        have e4 : decide (bn < blocksN 4 s) = true := decide_eq_true hb1
        have HST : ∀ W : World, Calls Try.prog 10 #[.agg #[.int .i64 4, .int .i64 s], .int .i64 bn] W fun e w' => e = .returned (.int .i64 t) ∧ Below W.heap.size W w' := by
          intro W
          rw [← hbs]
          exact implStripeOf_any _ _ _ _
        have HIN : ∀ W : World, Calls Try.prog 11 #[.agg #[.int .i64 4, .int .i64 s], .int .i64 bn] W fun e w' => e = .returned (.int .i64 i) ∧ Below W.heap.size W w' := by
          intro W
          rw [← hbi]
          exact implIndexOf_any _ _ _ _
        by_cases hlast : t + 1 = s
        · have HQ : ∀ W : World, Calls Try.prog 8 #[.agg #[.int .i64 4, .int .i64 s], .int .i64 (t + 1)] W fun e w' => e = .returned (.int .i64 (-1)) ∧ Below W.heap.size W w' := by
            intro W
            have : parN 4 s (t + 1) = -1 := by unfold parN; rw [if_neg (by rw [stripeB_of]; omega)]
            rw [← this]
            exact implParityOf_any _ _ _ _
          have e5 : (t + 1 == s) = true := by simpa using hlast
          have ett : (t == t) = true := by simp
          have eii : (i == i) = true := by simp
          have ep : (p : Int) < 4 := by omega
          have ep0 : (0 : Int) ≤ (p : Int) := by omega
          clear hbs hbi HS HPP hlast
          go_wp2_with fail
          refine (HQ _).mono ?_
          rintro e w6 ⟨rfl, b6⟩
          have X6 := X5.below b6 X5.lt
          have B6 := Below.andThen B5 b6
          clear k0 k1 X5 B5 b6
          obtain ⟨k0, k1⟩ := X6.cells
          go_wp2_with fail
          refine (HST _).mono ?_
          rintro e w7 ⟨rfl, b7⟩
          have X7 := X6.below b7 X6.lt
          have B7 := Below.andThen B6 b7
          clear k0 k1 X6 B6 b7
          obtain ⟨k0, k1⟩ := X7.cells
          go_wp2_with fail
          refine (HIN _).mono ?_
          rintro e w8 ⟨rfl, b8⟩
          have X8 := X7.below b8 X7.lt
          have B8 := Below.andThen B7 b8
          clear k0 k1 X7 B7 b8
          obtain ⟨k0, k1⟩ := X8.cells
          go_wp2_with fail
          refine (implBlocks_any _ _ _).mono ?_
          rintro e w9 ⟨rfl, b9⟩
          have X9 := X8.below b9 X8.lt
          have B9 := Below.andThen B8 b9
          clear k0 k1 X8 B8 b9
          obtain ⟨k0, k1⟩ := X9.cells
          go_wp2_with fail
          refine (implGeoOk_any _ _ _).mono ?_
          rintro e w10 ⟨rfl, b10⟩
          have B10 := Below.andThen B9 b10
          go_wp2
          go_ret
          exact ⟨rfl, B10⟩
        · have hm3 := HPP.out
          obtain ⟨q, hq⟩ : ∃ q : Nat, (q : Int) = ((p : Int) + 4 - 1) % 4 := ⟨(((p : Int) + 4 - 1) % 4).toNat, by omega⟩
          have HQ : ∀ W : World, Calls Try.prog 8 #[.agg #[.int .i64 4, .int .i64 s], .int .i64 (t + 1)] W fun e w' => e = .returned (.int .i64 (q : Int)) ∧ Below W.heap.size W w' := by
            intro W
            have : parN 4 s (t + 1) = q := by
              unfold parN
              rw [if_pos (by rw [stripeB_of]; exact ⟨hgeo, by omega, by omega⟩)]
              omega
            rw [← this]
            exact implParityOf_any _ _ _ _
          have e5 : (t + 1 == s) = false := by simpa using hlast
          have e6 : ((q : Int) == -1) = false := by simp
          have e7 : ((q : Int) == ((p : Int) + 4 - 1) % 4) = true := by rw [hq]; simp
          have e8 : ((p : Int) + 4 - 1).tmod 4 = ((p : Int) + 4 - 1) % 4 := Int.tmod_eq_emod_of_nonneg (by omega)
          have ett : (t == t) = true := by simp
          have eii : (i == i) = true := by simp
          have ep : (p : Int) < 4 := by omega
          have ep0 : (0 : Int) ≤ (p : Int) := by omega
          clear hbs hbi HS HPP hlast hm3 hq
          go_wp2_with fail
          refine (HQ _).mono ?_
          rintro e w6 ⟨rfl, b6⟩
          have X6 := X5.below b6 X5.lt
          have B6 := Below.andThen B5 b6
          clear k0 k1 X5 B5 b6
          obtain ⟨k0, k1⟩ := X6.cells
          go_wp2_with fail
          refine (HST _).mono ?_
          rintro e w7 ⟨rfl, b7⟩
          have X7 := X6.below b7 X6.lt
          have B7 := Below.andThen B6 b7
          clear k0 k1 X6 B6 b7
          obtain ⟨k0, k1⟩ := X7.cells
          go_wp2_with fail
          refine (HIN _).mono ?_
          rintro e w8 ⟨rfl, b8⟩
          have X8 := X7.below b8 X7.lt
          have B8 := Below.andThen B7 b8
          clear k0 k1 X7 B7 b8
          obtain ⟨k0, k1⟩ := X8.cells
          go_wp2_with fail
          refine (implBlocks_any _ _ _).mono ?_
          rintro e w9 ⟨rfl, b9⟩
          have X9 := X8.below b9 X8.lt
          have B9 := Below.andThen B8 b9
          clear k0 k1 X8 B8 b9
          obtain ⟨k0, k1⟩ := X9.cells
          go_wp2_with fail
          refine (implGeoOk_any _ _ _).mono ?_
          rintro e w10 ⟨rfl, b10⟩
          have B10 := Below.andThen B9 b10
          go_wp2
          go_ret
          exact ⟨rfl, B10⟩
  · obtain rfl : n = 5 := hn
    have hm1 : 0 ≤ t % 5 := Int.emod_nonneg _ (by omega)
    have hm2 : t % 5 < 5 := Int.emod_lt_of_pos _ (by omega)
    have HP : parN 5 s t = 5 - 1 - t % 5 := by unfold parN; rw [if_pos (stripeB_of.2 ⟨hgeo, ht0, ht1⟩)]
    rw [HP]
    obtain ⟨p, hp⟩ := Int.eq_ofNat_of_zero_le (show 0 ≤ 5 - 1 - t % 5 by omega)
    have HPP := hidden hp
    have hpn : p < 5 := by omega
    have HS := hidden (seen5 p hpn)
    rw [hp]
    clear hp HP
    have u1 : IntKind.u64.wrap (p : Int) = p := by rw [IntKind.wrap_u64]; omega
    have hspot : spotB 5 s t i = true := spotB_of.2 ⟨hgeo, ht0, ht1, hi0, by omega⟩
    obtain ⟨hb, hbs, hbi⟩ := blockN_back hspot
    obtain ⟨hb0, hb1⟩ := blockB_of.1 hb
    generalize blockN 5 s t i = bn at hb hbs hbi hb0 hb1 ⊢
    go_wp2_with fail
    go_loopw [8, 9] (fun c k wr => ∃ j : Nat, j ≤ 4 ∧ k = .int .i64 j ∧ c = .int .i64 (seenN 5 p j) ∧ Gbox wr w1.heap.size 25 5 s ∧ Below w.heap.size w wr) (fun _ k _ => 4 - (intOf k).toNat)
    case atStart => exact ⟨0, Nat.zero_le _, rfl, rfl, X4, B4⟩
    case round =>
      obtain ⟨j, hj, rfl, rfl, X5, B5⟩ := hrel
      clear X4 B4 k0 k1
      obtain ⟨k0, k1⟩ := X5.cells
      by_cases hlt : j < 4
      · obtain ⟨d, hd⟩ : ∃ d : Nat, d = (p + 1 + j) % 5 := ⟨_, rfl⟩
        have HD : Hid (diskN 5 s t j = (d : Int)) := by
          unfold Hid diskN
          rw [if_pos (spotB_of.2 ⟨hgeo, ht0, ht1, by omega, by omega⟩)]
          have := HPP.out
          omega
        have hdn : d < 5 := by omega
        have HX : Hid (seenN 5 p (j + 1) = bits BinOp.or IntKind.i64 (seenN 5 p j) (wrap64 (2 ^ d))) := by unfold Hid; rw [hd]; rfl
        have hbit : (bits BinOp.and IntKind.i64 (seenN 5 p j / 2 ^ d) 1 == 1) = false := by rw [hd]; exact HS.out.1 j hlt
        have u2 : IntKind.u64.wrap (d : Int) = d := by rw [IntKind.wrap_u64]; omega
        have HDI : ∀ W : World, Calls Try.prog 9 #[.agg #[.int .i64 5, .int .i64 s], .int .i64 t, .int .i64 (j : Int)] W fun e w' => e = .returned (.int .i64 (d : Int)) ∧ Below W.heap.size W w' := by
          intro W
          rw [← HD.out]
          exact implDiskOf_any _ _ _ _ _
        clear hd HD
        generalize seenN 5 p j = x at HX hbit ⊢
        have jlt : (j : Int) < 4 := by omega
        go_wp2_with fail
        refine (HDI _).mono ?_
        rintro e w6 ⟨rfl, b6⟩
        have X6 := X5.below b6 X5.lt
        have B6 := Below.andThen B5 b6
        clear k0 k1 X5 B5 b6
        obtain ⟨k0, k1⟩ := X6.cells
        go_wp2
        go_roundw
        case rel => exact ⟨j + 1, by omega, by go_num, by rw [HX.out], X6, B6⟩
        case measure => simp [intOf]; omega
      · obtain rfl : j = 4 := by omega
        have HSF := hidden HS.out.2
        rw [HSF.out]
        have tw : IntKind.i64.wrap (t + 1) = t + 1 := IntWalk.i64_in _ (by omega)
        have e1 : (stripeN 5 s bn == t) = true := by rw [hbs]; simp
        have e2 : (indexN 5 s bn == i) = true := by rw [hbi]; simp
        have e3 : decide (0 ≤ bn) = true := decide_eq_true hb0
        have e4 : decide (bn < blocksN 5 s) = true := decide_eq_true hb1
        have HST : ∀ W : World, Calls Try.prog 10 #[.agg #[.int .i64 5, .int .i64 s], .int .i64 bn] W fun e w' => e = .returned (.int .i64 t) ∧ Below W.heap.size W w' := by
          intro W
          rw [← hbs]
          exact implStripeOf_any _ _ _ _
        have HIN : ∀ W : World, Calls Try.prog 11 #[.agg #[.int .i64 5, .int .i64 s], .int .i64 bn] W fun e w' => e = .returned (.int .i64 i) ∧ Below W.heap.size W w' := by
          intro W
          rw [← hbi]
          exact implIndexOf_any _ _ _ _
        by_cases hlast : t + 1 = s
        · have HQ : ∀ W : World, Calls Try.prog 8 #[.agg #[.int .i64 5, .int .i64 s], .int .i64 (t + 1)] W fun e w' => e = .returned (.int .i64 (-1)) ∧ Below W.heap.size W w' := by
            intro W
            have : parN 5 s (t + 1) = -1 := by unfold parN; rw [if_neg (by rw [stripeB_of]; omega)]
            rw [← this]
            exact implParityOf_any _ _ _ _
          have e5 : (t + 1 == s) = true := by simpa using hlast
          have ett : (t == t) = true := by simp
          have eii : (i == i) = true := by simp
          have ep : (p : Int) < 5 := by omega
          have ep0 : (0 : Int) ≤ (p : Int) := by omega
          clear hbs hbi HS HPP hlast
          go_wp2_with fail
          refine (HQ _).mono ?_
          rintro e w6 ⟨rfl, b6⟩
          have X6 := X5.below b6 X5.lt
          have B6 := Below.andThen B5 b6
          clear k0 k1 X5 B5 b6
          obtain ⟨k0, k1⟩ := X6.cells
          go_wp2_with fail
          refine (HST _).mono ?_
          rintro e w7 ⟨rfl, b7⟩
          have X7 := X6.below b7 X6.lt
          have B7 := Below.andThen B6 b7
          clear k0 k1 X6 B6 b7
          obtain ⟨k0, k1⟩ := X7.cells
          go_wp2_with fail
          refine (HIN _).mono ?_
          rintro e w8 ⟨rfl, b8⟩
          have X8 := X7.below b8 X7.lt
          have B8 := Below.andThen B7 b8
          clear k0 k1 X7 B7 b8
          obtain ⟨k0, k1⟩ := X8.cells
          go_wp2_with fail
          refine (implBlocks_any _ _ _).mono ?_
          rintro e w9 ⟨rfl, b9⟩
          have X9 := X8.below b9 X8.lt
          have B9 := Below.andThen B8 b9
          clear k0 k1 X8 B8 b9
          obtain ⟨k0, k1⟩ := X9.cells
          go_wp2_with fail
          refine (implGeoOk_any _ _ _).mono ?_
          rintro e w10 ⟨rfl, b10⟩
          have B10 := Below.andThen B9 b10
          go_wp2
          go_ret
          exact ⟨rfl, B10⟩
        · have hm3 := HPP.out
          obtain ⟨q, hq⟩ : ∃ q : Nat, (q : Int) = ((p : Int) + 5 - 1) % 5 := ⟨(((p : Int) + 5 - 1) % 5).toNat, by omega⟩
          have HQ : ∀ W : World, Calls Try.prog 8 #[.agg #[.int .i64 5, .int .i64 s], .int .i64 (t + 1)] W fun e w' => e = .returned (.int .i64 (q : Int)) ∧ Below W.heap.size W w' := by
            intro W
            have : parN 5 s (t + 1) = q := by
              unfold parN
              rw [if_pos (by rw [stripeB_of]; exact ⟨hgeo, by omega, by omega⟩)]
              omega
            rw [← this]
            exact implParityOf_any _ _ _ _
          have e5 : (t + 1 == s) = false := by simpa using hlast
          have e6 : ((q : Int) == -1) = false := by simp
          have e7 : ((q : Int) == ((p : Int) + 5 - 1) % 5) = true := by rw [hq]; simp
          have e8 : ((p : Int) + 5 - 1).tmod 5 = ((p : Int) + 5 - 1) % 5 := Int.tmod_eq_emod_of_nonneg (by omega)
          have ett : (t == t) = true := by simp
          have eii : (i == i) = true := by simp
          have ep : (p : Int) < 5 := by omega
          have ep0 : (0 : Int) ≤ (p : Int) := by omega
          clear hbs hbi HS HPP hlast hm3 hq
          go_wp2_with fail
          refine (HQ _).mono ?_
          rintro e w6 ⟨rfl, b6⟩
          have X6 := X5.below b6 X5.lt
          have B6 := Below.andThen B5 b6
          clear k0 k1 X5 B5 b6
          obtain ⟨k0, k1⟩ := X6.cells
          go_wp2_with fail
          refine (HST _).mono ?_
          rintro e w7 ⟨rfl, b7⟩
          have X7 := X6.below b7 X6.lt
          have B7 := Below.andThen B6 b7
          clear k0 k1 X6 B6 b7
          obtain ⟨k0, k1⟩ := X7.cells
          go_wp2_with fail
          refine (HIN _).mono ?_
          rintro e w8 ⟨rfl, b8⟩
          have X8 := X7.below b8 X7.lt
          have B8 := Below.andThen B7 b8
          clear k0 k1 X7 B7 b8
          obtain ⟨k0, k1⟩ := X8.cells
          go_wp2_with fail
          refine (implBlocks_any _ _ _).mono ?_
          rintro e w9 ⟨rfl, b9⟩
          have X9 := X8.below b9 X8.lt
          have B9 := Below.andThen B8 b9
          clear k0 k1 X8 B8 b9
          obtain ⟨k0, k1⟩ := X9.cells
          go_wp2_with fail
          refine (implGeoOk_any _ _ _).mono ?_
          rintro e w10 ⟨rfl, b10⟩
          have B10 := Below.andThen B9 b10
          go_wp2
          go_ret
          exact ⟨rfl, B10⟩

end Go.Proofs.Ytmkiljflkndmoab

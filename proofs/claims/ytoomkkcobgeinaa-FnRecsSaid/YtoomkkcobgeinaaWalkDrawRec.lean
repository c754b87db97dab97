/-
  The walks of the specification's draws for the law of records: a record of at most five words, the words of one, bent or not, a number, a stripe. Condition: at most 2097152 bytes to draw from.
-/
import Derived.Test.YtoomkkcobgeinaaWalkL5Any
import Derived.Test.YtoomkkcobgeinaaWalkPutRec
namespace Go.Proofs.Ytoomkkcobgeinaa
open Go.RowKit

set_option maxHeartbeats 1600000 in
theorem drawPutRec_any (w : World) (a : Option Addr) (lb cb : Nat) (zs : List Int) (hz : zs.length = lb) (hr : Reads .u8 w a zs) (hby : ∀ n ∈ zs, 0 ≤ n ∧ n ≤ 255) (hlb : lb ≤ 2097152) :
    Calls Try.prog 10 #[.slice a lb cb] w fun e w' => ∃ (x y : Int) (a' : Option Addr) (c' : Nat) (ds : List Int), e = .returned (.agg #[.int .i64 x, .int .i64 y, .slice a' ds.length c']) ∧ ds.length ≤ 5 ∧ Reads .i64 w' a' ds ∧ Below w.heap.size w w' := by
  have hA := new_below w (.cells #[.int .i64 0, .int .i64 0, .slice none 0 0] 26)
  have X := Box.new w 26 #[.int .i64 0, .int .i64 0, .slice none 0 0]
  have z0 := X.lt
  have hr0 := hr.below hA
  go_enter Try.func10, Try.ntmps10
  go_wp2_with fail
  generalize w.alloc (.cells #[.int .i64 0, .int .i64 0, .slice none 0 0] 26) = W at hA X z0 hr0 ⊢
  refine (l1New_any _ _ _ _ zs hz hr0 hlb).mono ?_
  rintro e w1 ⟨rfl, hc1, hb1⟩
  have hd1 : Draws w1 W.heap.size a lb cb zs := ⟨hc1, hz, hr0.below hb1, hby, hlb, hr0.ahead hz⟩
  have X1 := X.below hb1 z0
  have B1 := hA.trans (hb1.mono hA.size)
  have z1 := hd1.lt
  clear hc1 X hr0
  go_wp2_with fail
  refine (l5Any_any hd1).mono ?_
  rintro e w2 ⟨x, y, a', c', ds, rfl, hl5, R2, hq, b2⟩
  have X2 := X1.kept (b2.block _ (by omega) (by omega))
  have B2 := B1.trans (b2.below (B := w.heap.size) (by omega) (by omega))
  have z2 := b2.size
  obtain ⟨p0, p1, p2⟩ := X2.cells3
  have fz := X2.frozen
  have hbf := set3_but5 w2 w.heap.size (.int .i64 x) (.int .i64 y) (.slice a' ds.length c')
  have FB := hidden (B2.trans (hbf.below (B := w.heap.size) (Nat.le_refl _) (by omega)))
  have FR : Hid (Reads .i64 (((w2.setCell ⟨w.heap.size, 0, none⟩ (.int .i64 x)).setCell ⟨w.heap.size, 1, none⟩ (.int .i64 y)).setCell ⟨w.heap.size, 2, none⟩ (.slice a' ds.length c')) a' ds) := by
    unfold Hid
    rcases R2 with h | ⟨b, off, rfl, hlt, hc⟩
    · exact .inl h
    · have hb := hq _ rfl
      refine .inr ⟨b, off, rfl, Nat.lt_of_lt_of_le hlt hbf.size, fun i hi => ?_⟩
      rw [World.cell?_of_block (w := w2) (hbf.block b hlt (.inr (by simp only at hb; omega)))]
      exact hc i hi
  clear hbf X2 B2 b2 X1 B1 hd1 hb1 hA
  go_wp2
  refine bodyPost_ret (v := .agg #[.int .i64 x, .int .i64 y, .slice a' ds.length c']) (by simp [results, Try.results10, go_sem, p0, p1, p2]) rfl ?_
  exact ⟨x, y, a', c', ds, rfl, hl5, FR.out, FB.out⟩

set_option maxHeartbeats 1600000 in
theorem drawSlotOf_any (w : World) (a : Option Addr) (lb cb : Nat) (zs : List Int) (hz : zs.length = lb) (hr : Reads .u8 w a zs) (hby : ∀ n ∈ zs, 0 ≤ n ∧ n ≤ 255) (hlb : lb ≤ 2097152) :
    Calls Try.prog 15 #[.slice a lb cb] w fun e w' => ∃ x : Int, e = .returned (.int .i64 x) ∧ Below w.heap.size w w' := by
  go_enter Try.func15, Try.ntmps15
  go_wp2_with fail
  refine (l1New_any _ _ _ _ zs hz hr hlb).mono ?_
  rintro e w1 ⟨rfl, hc1, hb1⟩
  have hd1 : Draws w1 w.heap.size a lb cb zs := ⟨hc1, hz, hr.below hb1, hby, hlb, hr.ahead hz⟩
  have z1 := hd1.lt
  clear hc1
  go_wp2_with fail
  refine (dInt (hd1.alloc _) _ 7 _ [0, 1, 3, 4, 60000, -1, 9223372036854775807] rfl (Reads.new _ _ _ _ _ rfl) (fun q hq => by simp at hq; subst hq; exact z1) (by omega) (by omega)).mono ?_
  rintro e w2 ⟨x, rfl, _, _, b2⟩
  have B2 := Below.andBut (hb1.alloc hb1.size _) b2 (Nat.le_refl _)
  go_wp2
  go_ret
  exact ⟨x, rfl, B2⟩

set_option maxHeartbeats 1600000 in
theorem drawDataAt_any (w : World) (a : Option Addr) (lb cb : Nat) (zs : List Int) (hz : zs.length = lb) (hr : Reads .u8 w a zs) (hby : ∀ n ∈ zs, 0 ≤ n ∧ n ≤ 255) (hlb : lb ≤ 2097152) :
    Calls Try.prog 16 #[.slice a lb cb] w fun e w' => ∃ x : Int, e = .returned (.int .i64 x) ∧ Below w.heap.size w w' := by
  go_enter Try.func16, Try.ntmps16
  go_wp2_with fail
  refine (l1New_any _ _ _ _ zs hz hr hlb).mono ?_
  rintro e w1 ⟨rfl, hc1, hb1⟩
  have hd1 : Draws w1 w.heap.size a lb cb zs := ⟨hc1, hz, hr.below hb1, hby, hlb, hr.ahead hz⟩
  have z1 := hd1.lt
  clear hc1
  go_wp2_with fail
  refine (dInt (hd1.alloc _) _ 5 _ [0, 1, 7, 8, -1] rfl (Reads.new _ _ _ _ _ rfl) (fun q hq => by simp at hq; subst hq; exact z1) (by omega) (by omega)).mono ?_
  rintro e w2 ⟨x, rfl, _, _, b2⟩
  have B2 := Below.andBut (hb1.alloc hb1.size _) b2 (Nat.le_refl _)
  go_wp2
  go_ret
  exact ⟨x, rfl, B2⟩

set_option maxHeartbeats 3200000 in
theorem drawGetRec_any (w : World) (a : Option Addr) (lb cb : Nat) (zs : List Int) (hz : zs.length = lb) (hr : Reads .u8 w a zs) (hby : ∀ n ∈ zs, 0 ≤ n ∧ n ≤ 255) (hlb : lb ≤ 2097152) :
    Calls Try.prog 12 #[.slice a lb cb] w fun e w' => ∃ (a' : Option Addr) (n' c' : Nat) (cs : List Int), e = .returned (.slice a' n' c') ∧ n' ≤ 8 ∧ tIntS.Rd w' [.slice a' n' c'] cs ∧ Below w.heap.size w w' := by
  go_enter Try.func12, Try.ntmps12
  go_wp2_with fail
  refine (l1New_any _ _ _ _ zs hz hr hlb).mono ?_
  rintro e w1 ⟨rfl, hc1, hb1⟩
  have hd1 : Draws w1 w.heap.size a lb cb zs := ⟨hc1, hz, hr.below hb1, hby, hlb, hr.ahead hz⟩
  have z1 := hd1.lt
  clear hc1
  go_wp2_with fail
  refine (l5Draw_any hd1).mono ?_
  rintro e w2 ⟨x, y, av, cv, ds, rfl, hrec, O2, D2, b2⟩
  have hpl := putR_of hrec
  obtain ⟨_, _, hrn, _⟩ := recB_of.1 hrec
  have B2 := Below.andBut hb1 b2 (Nat.le_refl _)
  have z2 := b2.size
  clear hb1 b2 hd1
  go_wp2_with fail
  refine (specPutRec_any _ x y _ _ _ ds rfl (ints_rd O2.rd).1 (by omega)).mono ?_
  rintro e w3 ⟨a3, l3, c3, rfl, O3, b3⟩
  have D3 := D2.lower b3 D2.lt
  have B3 := B2.trans (b3.mono B2.size)
  have z3 := b3.size
  rw [hpl] at O3
  obtain ⟨L, hL, hL8⟩ : ∃ L : List Int, (21322 :: x :: y :: (ds.length : Int) :: ds) = L ∧ (6 ≤ L.length ∧ L.length ≤ 8) := ⟨_, rfl, by simp; omega⟩
  rw [hL] at O3
  clear hL hpl b3 B2 D2 O2
  obtain ⟨rd3, hl3, hnc3, hcm3⟩ := ints_rd O3.rd
  have hl6 : 6 ≤ l3 ∧ l3 ≤ 8 := by omega
  go_wp2_with fail
  refine (dBelow D3 4 (by omega) (by omega)).mono ?_
  rintro e w4 ⟨n, rfl, hn0, hn1, D4, b4⟩
  have O4 := O3.but b4 (.inr (by omega))
  have B4 := Below.andBut B3 b4 (Nat.le_refl _)
  have z4 := b4.size
  clear O3 D3 B3 b4 rd3
  obtain ⟨fp, M4, hfp⟩ := O4.mine
  rcases ints_ow M4.1 with ⟨hv, _, _⟩ | ⟨g1, cap1, hv, hf, Q4⟩
  · simp only [Value.slice.injEq] at hv
    omega
  simp only [Value.slice.injEq] at hv
  obtain ⟨rfl, hv2, rfl⟩ := hv
  have hg1 : w2.heap.size ≤ g1 := (hfp g1 (by rw [hf]; simp)).1
  clear hv2 O4 M4 hfp hf
  by_cases e0 : n = 0
  · subst e0
    go_wp2_with fail
    refine (dBelow D4 4 (by omega) (by omega)).mono ?_
    rintro e w5 ⟨k, rfl, hk0, hk1, D5, b5⟩
    obtain ⟨k, rfl⟩ := Int.eq_ofNat_of_zero_le hk0
    have hk : k ≤ 3 := by omega
    have Q5 := Q4.but b5 (.inr (by omega))
    have B5 := Below.andBut B4 b5 (Nat.le_refl _)
    have z5 := b5.size
    have hg5 := D5.lt
    clear Q4 D4 B4 b5 hk0 hk1
    go_wp2_with fail
    refine (dInt (D5.alloc _) _ 7 _ [0, 1, 2, 4, 8, 60001, -1] rfl (Reads.new _ _ _ _ _ rfl) (fun q hq => by simp at hq; subst hq; exact hg5) (by omega) (by omega)).mono ?_
    rintro e w6 ⟨u, rfl, _, _, b6⟩
    have b6' := ((But.refl w.heap.size (w.heap.size + 1) w5).alloc _).trans b6
    have Q6 := Q5.but b6' (.inr (by omega))
    have B6 := Below.andBut B5 b6' (Nat.le_refl _)
    clear Q5 B5 b6 b6' D5
    have eL : L.length = l3 := hl3
    obtain ⟨c6, f6, Q7, t7⟩ := Q6.store k (by omega) u
    have B7 := hidden (Below.andBut B6 t7 (by omega))
    have R7 := hidden (own_ints Q7.1).rd
    have i0 : (0 : Int) ≤ (k : Int) := by omega
    have i1 : (k : Int) < (L.length : Int) := by omega
    have i2 : k < L.length := by omega
    generalize L.getD k 0 = o at c6
    clear Q6 B6 Q7 t7 hn0 hn1
    rw [← eL]
    go_wp2
    go_ret
    exact ⟨_, _, _, L.set k u, rfl, by omega, R7.out, B7.out⟩
  · by_cases e1 : n = 1
    · subst e1
      have n0 : ((1 : Int) == 0) = false := by decide
      go_wp2_with fail
      refine (dBelow D4 (l3 : Int) (by omega) (by omega)).mono ?_
      rintro e w5 ⟨k, rfl, hk0, hk1, D5, b5⟩
      obtain ⟨k, rfl⟩ := Int.eq_ofNat_of_zero_le hk0
      have hk : k < l3 := by omega
      have Q5 := Q4.but b5 (.inr (by omega))
      have B5 := Below.andBut B4 b5 (Nat.le_refl _)
      have rk : Reads .i64 w5 (some ⟨g1, 0, none⟩) (L.take k) := Q5.reads.take k
      have ek : (L.take k).length = k := by simp; omega
      have RK : tIntS.Rd w5 [.slice (some ⟨g1, 0, none⟩) (L.take k).length c3] (L.take k) := ints_rd_of rk (by omega) hcm3 (by simp)
      rw [ek] at RK
      have i0 : (0 : Int) ≤ (k : Int) := by omega
      have i1 : (k : Int) ≤ (c3 : Int) := by omega
      have i2 : k ≤ c3 := by omega
      have i3 : ¬ c3 = 0 := by omega
      clear Q4 Q5 D4 B4 b5 hk0 hk1 rk ek D5
      go_wp2
      go_ret
      exact ⟨_, _, _, L.take k, rfl, by omega, RK, B5⟩
    · have n0 : (n == 0) = false := by simpa using e0
      have n1 : (n == 1) = false := by simpa using e1
      have R4 := (own_ints Q4.1).rd
      go_wp2
      go_ret
      exact ⟨_, _, _, L, rfl, by omega, R4, B4⟩

end Go.Proofs.Ytoomkkcobgeinaa

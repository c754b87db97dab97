/-
  What spec.DrawPutCmd and spec.DrawGetCmd draw: a command of at most seven words; the words of one, bent or not. Condition: at most 2097152 bytes to draw from.
-/
import Derived.Test.YtplieehocceplaaWalkL13Any
import Derived.Test.YtplieehocceplaaWalkMark
namespace Go.Proofs.Ytplieehocceplaa
open Go.RowKit

theorem Reads.take13 {k : IntKind} {w : World} {a : Option Addr} {zs : List Int} (h : Reads k w a zs) (n : Nat) : Reads k w a (zs.take n) := by
  rcases h with rfl | ⟨b, off, ha, hlt, hc⟩
  · exact .inl (by simp)
  · refine .inr ⟨b, off, ha, hlt, fun i hi => ?_⟩
    have hl : i < n ∧ i < zs.length := by simp at hi; omega
    rw [hc i hl.2, List.getD_eq_getElem?_getD, List.getD_eq_getElem?_getD, List.getElem?_take, if_pos hl.1]

set_option maxRecDepth 20000 in
set_option maxHeartbeats 3200000 in
theorem drawPutCmd_any (w : World) (a : Option Addr) (lb cb : Nat) (zs : List Int) (hz : zs.length = lb) (hr : Reads .u8 w a zs) (hby : ∀ n ∈ zs, 0 ≤ n ∧ n ≤ 255) (hlb : lb ≤ 2097152) :
    Calls Try.prog 10 #[.slice a lb cb] w fun e w' => ∃ (o d b k : Int) (a' : Option Addr) (c' : Nat) (ds : List Int), e = .returned (.agg #[.int .i64 o, .int .i64 d, .int .i64 b, .int .i64 k, .slice a' ds.length c']) ∧ ds.length ≤ 7 ∧ tIntS.Rd w' [.slice a' ds.length c'] ds ∧ Below w.heap.size w w' := by
  have hA := new_below w (.cells #[.int .i64 0, .int .i64 0, .int .i64 0, .int .i64 0, .slice none 0 0] 26)
  have X := Box.new w 26 #[.int .i64 0, .int .i64 0, .int .i64 0, .int .i64 0, .slice none 0 0]
  have z0 := X.lt
  have hr0 := hr.below hA
  go_enter Try.func10, Try.ntmps10
  go_wp2_with fail
  generalize w.alloc (.cells #[.int .i64 0, .int .i64 0, .int .i64 0, .int .i64 0, .slice none 0 0] 26) = W at hA X z0 hr0 ⊢
  refine (l1New_any _ _ _ _ zs hz hr0 hlb).mono ?_
  rintro e w1 ⟨rfl, hc1, hb1⟩
  have D1 : Draws w1 W.heap.size a lb cb zs := ⟨hc1, hz, hr0.below hb1, hby, hlb, hr0.ahead hz⟩
  have X1 := X.below hb1 z0
  have B1 := hA.trans (hb1.mono hA.size)
  have z1 := D1.lt
  obtain ⟨g, hg⟩ : ∃ g, g = W.heap.size := ⟨_, rfl⟩
  rw [← hg] at D1 z1 z0
  simp only [← hg]
  clear hc1 X hr0 hg hb1 hA
  go_wp2_with fail
  refine (l3Geo_any D1).mono ?_
  rintro e w2 ⟨gn, gs, rfl, hgeo, D2, b2⟩
  have X2 := X1.kept (b2.block _ (by omega) (by omega))
  have B2 := B1.trans (b2.below (B := w.heap.size) (by omega) (by omega))
  have z2 := b2.size
  clear X1 B1 D1 b2
  have G3 := Box.new w2 35 #[.int .i64 gn, .int .i64 gs]
  have X3 := X2.alloc (.cells #[.int .i64 gn, .int .i64 gs] 35)
  have D3 := D2.alloc (.cells #[.int .i64 gn, .int .i64 gs] 35)
  have B3 := B2.alloc B2.size (.cells #[.int .i64 gn, .int .i64 gs] 35)
  have z3 : w2.heap.size < (w2.alloc (.cells #[.int .i64 gn, .int .i64 gs] 35)).heap.size := G3.lt
  obtain ⟨g0, g1⟩ := G3.cells2
  clear X2 B2 D2
  go_wp2_with fail
  generalize w2.alloc (.cells #[.int .i64 gn, .int .i64 gs] 35) = w3 at G3 X3 D3 B3 z3 g0 g1 ⊢
  refine (l13Any_any D3 hgeo).mono ?_
  rintro e w4 ⟨o, d, b, k, a', c', ds, rfl, hl7, O4, D4, b4⟩
  have X4 := X3.kept (b4.block _ (by omega) (by omega))
  have B4 := B3.trans (b4.below (B := w.heap.size) (by omega) (by omega))
  have z4 := b4.size
  obtain ⟨p0, p1, p2, p3, p4⟩ := X4.cells5
  have fz := X4.frozen
  have hbf := set5_but w4 w.heap.size (.int .i64 o) (.int .i64 d) (.int .i64 b) (.int .i64 k) (.slice a' ds.length c')
  have FB := hidden (B4.trans (hbf.below (B := w.heap.size) (Nat.le_refl _) (by omega)))
  have FR := hidden (O4.but hbf (.inr (by omega))).rd
  unfold set5 at FB FR
  clear hbf X4 B4 b4 X3 B3 D3 G3 O4 D4 g0 g1
  go_wp2
  refine bodyPost_ret (v := .agg #[.int .i64 o, .int .i64 d, .int .i64 b, .int .i64 k, .slice a' ds.length c']) (by simp [results, Try.results10, go_sem, p0, p1, p2, p3, p4]) rfl ?_
  exact ⟨o, d, b, k, a', c', ds, rfl, hl7, FR.out, FB.out⟩

set_option maxRecDepth 20000 in
set_option maxHeartbeats 3200000 in
theorem drawGetCmd_any (w : World) (a : Option Addr) (lb cb : Nat) (zs : List Int) (hz : zs.length = lb) (hr : Reads .u8 w a zs) (hby : ∀ n ∈ zs, 0 ≤ n ∧ n ≤ 255) (hlb : lb ≤ 2097152) :
    Calls Try.prog 12 #[.slice a lb cb] w fun e w' => ∃ (a' : Option Addr) (n' c' : Nat) (xs : List Int), e = .returned (.slice a' n' c') ∧ n' ≤ 11 ∧ tIntS.Rd w' [.slice a' n' c'] xs ∧ Below w.heap.size w w' := by
  go_enter Try.func12, Try.ntmps12
  go_wp2_with fail
  refine (l1New_any _ _ _ _ zs hz hr hlb).mono ?_
  rintro e w1 ⟨rfl, hc1, hb1⟩
  have hd1 : Draws w1 w.heap.size a lb cb zs := ⟨hc1, hz, hr.below hb1, hby, hlb, hr.ahead hz⟩
  have z1 := hd1.lt
  clear hc1
  go_wp2_with fail
  refine (l3Geo_any hd1).mono ?_
  rintro e v1 ⟨gn, gs, rfl, hgeo, D1, b1⟩
  have B1 := Below.andBut hb1 b1 (Nat.le_refl _)
  have zv := b1.size
  clear hb1 b1 hd1
  have G2 := Box.new v1 35 #[.int .i64 gn, .int .i64 gs]
  have D2 := D1.alloc (.cells #[.int .i64 gn, .int .i64 gs] 35)
  have B2 := B1.alloc B1.size (.cells #[.int .i64 gn, .int .i64 gs] 35)
  obtain ⟨g0, g1⟩ := G2.cells2
  have zv2 : v1.heap.size < (v1.alloc (.cells #[.int .i64 gn, .int .i64 gs] 35)).heap.size := G2.lt
  clear D1 B1
  go_wp2_with fail
  generalize v1.alloc (.cells #[.int .i64 gn, .int .i64 gs] 35) = v2 at G2 D2 B2 g0 g1 zv2 ⊢
  refine (l13Draw_put D2 hgeo).mono ?_
  rintro e w2 ⟨x, y, p, q, av, cv, ds, rfl, _, hput, hl6', O2, D3, b2⟩
  have hpl := putC_of hput
  have B3' := Below.andBut B2 b2 (Nat.le_refl _)
  have z2 := b2.size
  clear b2 B2 D2 G2 g0 g1
  have B2 := B3'
  have D2 := D3
  clear B3' D3
  go_wp2_with fail
  refine (specPutCmd_any _ x y p q _ _ _ ds O2.rd (by omega)).mono ?_
  rintro e w3 ⟨a3, l3, c3, rfl, O3, b3⟩
  have D3 := D2.lower b3 D2.lt
  have B3 := B2.trans (b3.mono B2.size)
  have z3 := b3.size
  rw [hpl] at O3
  obtain ⟨L, hL, hL8⟩ : ∃ L : List Int, putL x y p q ds = L ∧ (5 ≤ L.length ∧ L.length ≤ 11) := ⟨_, rfl, by rw [putL_len]; omega⟩
  rw [hL] at O3
  clear hL hpl b3 B2 D2 O2
  obtain ⟨rd3, hl3, hnc3, hcm3⟩ := ints_rd O3.rd
  have hl6 : 5 ≤ l3 ∧ l3 ≤ 11 := by omega
  go_wp2_with fail
  refine (dBelow D3 4 (by omega) (by omega)).mono ?_
  rintro e w4 ⟨n, rfl, hn0, hn1, D4, b4⟩
  have O4 := O3.but b4 (.inr (by omega))
  have B4 := Below.andBut B3 b4 (Nat.le_refl _)
  have z4 := b4.size
  clear O3 D3 B3 b4 rd3
  obtain ⟨fp, M4, hfp⟩ := O4.mine
  rcases ints_ow M4.1 with ⟨hv, _, _⟩ | ⟨g1, cap1, hv, hf, Q4⟩
  · simp only [Value.slice.injEq] at hv
    omega
  simp only [Value.slice.injEq] at hv
  obtain ⟨rfl, hv2, rfl⟩ := hv
  have hg1 : w2.heap.size ≤ g1 := (hfp g1 (by rw [hf]; simp)).1
  clear hv2 O4 M4 hfp hf
  by_cases e0 : n = 0
  · subst e0
    go_wp2_with fail
    refine (dBelow D4 5 (by omega) (by omega)).mono ?_
    rintro e w5 ⟨k, rfl, hk0, hk1, D5, b5⟩
    obtain ⟨k, rfl⟩ := Int.eq_ofNat_of_zero_le hk0
    have hk : k ≤ 4 := by omega
    have Q5 := Q4.but b5 (.inr (by omega))
    have B5 := Below.andBut B4 b5 (Nat.le_refl _)
    have z5 := b5.size
    have hg5 := D5.lt
    clear Q4 D4 B4 b5 hk0 hk1
    go_wp2_with fail
    refine (dInt (D5.alloc _) _ 6 _ [0, 1, 2, 7, 65536, -1] rfl (Reads.new _ _ _ _ _ rfl) (fun q hq => by simp at hq; subst hq; exact hg5) (by omega) (by omega)).mono ?_
    rintro e w6 ⟨u, rfl, _, _, b6⟩
    have b6' := ((But.refl w.heap.size (w.heap.size + 1) w5).alloc _).trans b6
    have Q6 := Q5.but b6' (.inr (by omega))
    have B6 := Below.andBut B5 b6' (Nat.le_refl _)
    clear Q5 B5 b6 b6' D5
    have eL : L.length = l3 := hl3
    obtain ⟨c6, f6, Q7, t7⟩ := Q6.store k (by omega) u
    have B7 := hidden (Below.andBut B6 t7 (by omega))
    have R7 := hidden (own_ints Q7.1).rd
    have i0 : (0 : Int) ≤ (k : Int) := by omega
    have i1 : (k : Int) < (L.length : Int) := by omega
    have i2 : k < L.length := by omega
    generalize L.getD k 0 = o at c6
    clear Q6 B6 Q7 t7 hn0 hn1
    rw [← eL]
    go_wp2
    go_ret
    exact ⟨_, _, _, L.set k u, rfl, by omega, R7.out, B7.out⟩
  · by_cases e1 : n = 1
    · subst e1
      have n0 : ((1 : Int) == 0) = false := by decide
      go_wp2_with fail
      refine (dBelow D4 (l3 : Int) (by omega) (by omega)).mono ?_
      rintro e w5 ⟨k, rfl, hk0, hk1, D5, b5⟩
      obtain ⟨k, rfl⟩ := Int.eq_ofNat_of_zero_le hk0
      have hk : k < l3 := by omega
      have Q5 := Q4.but b5 (.inr (by omega))
      have B5 := Below.andBut B4 b5 (Nat.le_refl _)
      have rk : Reads .i64 w5 (some ⟨g1, 0, none⟩) (L.take k) := Q5.reads.take13 k
      have ek : (L.take k).length = k := by simp; omega
      have RK : tIntS.Rd w5 [.slice (some ⟨g1, 0, none⟩) (L.take k).length c3] (L.take k) := ints_rd_of rk (by omega) hcm3 (by simp)
      rw [ek] at RK
      have i0 : (0 : Int) ≤ (k : Int) := by omega
      have i1 : (k : Int) ≤ (c3 : Int) := by omega
      have i2 : k ≤ c3 := by omega
      have i3 : ¬ c3 = 0 := by omega
      clear Q4 Q5 D4 B4 b5 hk0 hk1 rk ek D5
      go_wp2
      go_ret
      exact ⟨_, _, _, L.take k, rfl, by omega, RK, B5⟩
    · have n0 : (n == 0) = false := by simpa using e0
      have n1 : (n == 1) = false := by simpa using e1
      have R4 := (own_ints Q4.1).rd
      go_wp2
      go_ret
      exact ⟨_, _, _, L, rfl, by omega, R4, B4⟩

end Go.Proofs.Ytplieehocceplaa

/-
  The walk of the law of xor: whatever bytes it draws from, it answers true, and nothing that was there has turned. No condition.
-/
import Derived.Test.YtmkiljflkndmoaaWalkDrawXor
import Derived.Test.YtmkiljflkndmoaaWalkMissing
import Derived.Test.YtmkiljflkndmoaaWalkSame
import Derived.Test.YtmkiljflkndmoaaWalkAt
import Derived.Test.YtmkiljflkndmoaaWalkBig
namespace Go.Proofs.Ytmkiljflkndmoaa
open Go.RowKit

set_option maxHeartbeats 8000000 in
theorem fnXors_walk (a0 : Option Addr) (len0 cap0 : Nat) (z0 : List Int) (w : World) (w0 : IsRow .u8 w a0 len0 cap0 z0) :
    Calls Try.prog 4 #[.slice a0 len0 cap0] w fun e w' => e = .returned (.bool true) ∧ Below w.heap.size w w' := by
  obtain ⟨hr, hl, hwf, hml⟩ := w0.reads
  generalize z0.take len0 = zs at hr hl hwf
  unfold maxLen at hml
  have hby := bytes_of_wf hwf
  clear w0 hwf
  by_cases hbig : len0 ≤ 1048576
  rotate_left
  · go_enter Try.func4, Try.ntmps4
    go_wp2_with fail
    refine (big_any _ _ _ _).mono ?_
    rintro e wb ⟨rfl, rfl⟩
    go_wp2
    go_ret
    exact ⟨rfl, Below.refl _ _⟩
  have hlb : len0 ≤ 2097152 := by omega
  obtain ⟨i0, hi, hz0, hz1, hz2⟩ := info_parts Try.info3
  go_enter Try.func4, Try.ntmps4
  go_wp2_with fail
  refine (big_any _ _ _ _).mono ?_
  rintro e wb ⟨rfl, rfl⟩
  go_wp2_with fail
  refine (drawXorOf_any _ _ _ _ zs hl hr hby hlb).mono ?_
  rintro e w1 ⟨v, xs, rfl, hx13, ho1, B1⟩
  have O1 := ho1.own
  go_wp2_with fail
  refine (at_any _ _ _ _ zs 2 hl (hr.below B1) hby hlb (by omega)).mono ?_
  rintro e w2 ⟨p, rfl, hp0, hp1, hs2⟩
  have O2 := O1.same hs2
  have B2 := Below.andSame B1 hs2
  have z12 := Nat.le_of_eq hs2.size.symm
  clear O1 B1 hs2 ho1
  go_wp2_with fail
  refine (at_any _ _ _ _ zs 3 hl (hr.below B2) hby hlb (by omega)).mono ?_
  rintro e w3 ⟨q, rfl, hq0, hq1, hs3⟩
  have O3 := O2.same hs3
  have B3 := Below.andSame B2 hs3
  have z23 := Nat.le_of_eq hs3.size.symm
  have hz13 : w1.heap.size ≤ w3.heap.size := by omega
  clear O2 B2 hs3 z12 z23
  have hn : p * 256 + q ≤ 65535 ∧ 0 ≤ p * 256 + q := by omega
  generalize hN : p * 256 + q = n at hn
  have hO : Owns .i64 3 (w3.alloc (.cells #[] 3)) w3.heap.size (.slice (some ⟨w3.heap.size, 0, none⟩) 0 0) [] := Owns.lit .i64 3 w3 [] 0 #[] rfl rfl (by unfold maxLen; omega)
  have O4 := O3.below ((Below.refl _ _).alloc (Nat.le_refl _) (.cells #[] 3))
  have B4 := B3.alloc B3.size (.cells #[] 3)
  have T1 := hidden (xor_twice xs n)
  have T2 := hidden (xor_one (n := n) (by omega) (by omega))
  have hs13 := B3.size
  rcases O3.1.2 with ⟨hv, hn0⟩ | ⟨g, cap, cur, hv, hgb, hgs, _⟩
  · subst hv
    have hx0 : xs = [] := List.eq_nil_of_length_eq_zero hn0
    subst hx0
    have hz5 : w3.heap.size < (w3.alloc (.cells #[] 3)).heap.size := by simp
    have H5 := hidden (hO.alloc (.cells #[.int .i64 n, .int .i64 n] 3))
    have H5s : Hid (w3.heap.size ≤ ((w3.alloc (.cells #[] 3)).alloc (.cells #[.int .i64 n, .int .i64 n] 3)).heap.size) := by unfold Hid; simp; omega
    have HR : Hid (Reads .i64 ((w3.alloc (.cells #[] 3)).alloc (.cells #[.int .i64 n, .int .i64 n] 3)) (some ⟨w3.heap.size + 1, 0, none⟩) [n, n]) := by
      have := Reads.new .i64 (w3.alloc (.cells #[] 3)) 3 [n, n] #[.int .i64 n, .int .i64 n] rfl
      rw [show (w3.alloc (.cells #[] 3)).heap.size = w3.heap.size + 1 from by simp] at this
      exact this
    go_wp2_with (first
      | (at_builtin; (refine wpList_app .i64 rfl _ _ 24 rfl w3.heap.size 3 i0 (.int .i64 0) 8 Try.underlying24 hi hz0 hz1 hz2 rfl _ [] rfl H5.out ⟨w3.heap.size + 1, 0, none⟩ 2 2 [n, n] rfl rfl HR.out (by unfold maxLen; first | omega | (simp; omega) | simp) (by first | omega | (simp; omega) | simp) H5s.out ?_; intro v6 w6 ho6 hb6; obtain ⟨a6, c6, hv6, hr6, _⟩ := ho6.shape; subst hv6))
      | fail)
    have B6 := hidden (((B4.alloc B4.size (.cells #[.int .i64 n, .int .i64 n] 3))).trans (hb6.mono (by omega)))
    have O6 := hidden (((O4.below ((Below.refl _ _).alloc (Nat.le_refl _) (.cells #[.int .i64 n, .int .i64 n] 3))).under hb6 hz13))
    refine (implXorOf_any _ _ _ _ ([] ++ [n, n]) (by simp) hr6 (by first | omega | (simp; omega) | simp)).mono ?_
    rintro e w7 ⟨rfl, hs7⟩
    rw [T1.out]
    have O7 := hidden (O6.out.same hs7)
    have B7 := hidden (Below.andSame B6.out hs7)
    clear O6 B6 hs7 hr6 ho6 hb6 H5 H5s HR hO O4 B4
    go_wp2_with fail
    refine (drawSameSec_any _ _ _ _ zs hl (hr.below B7.out) hby hlb).mono ?_
    rintro e w8 ⟨u, v, ys, us, rfl, hy, hu, oU, oV, b8⟩
    have O8 := hidden (O7.out.below b8)
    have B8 := hidden (Below.andThen B7.out b8)
    obtain ⟨au, cu, rfl, U8⟩ := oU.take rfl rfl
    obtain ⟨av, cv, rfl, V8⟩ := oV.take rfl rfl
    clear O7 B7 b8 oU oV
    go_wp2_with fail
    refine (implXorOf_any _ _ _ _ [] rfl O8.out.reads (by first | omega | (simp; omega) | simp)).mono ?_
    rintro e w9 ⟨rfl, hs9⟩
    have O9 := hidden (O8.out.same hs9)
    have B9 := hidden (Below.andSame B8.out hs9)
    have U9 := U8.same hs9
    have V9 := V8.same hs9
    have hq : (xorL [] == xorL []) = true := by simp
    clear O8 B8 U8 V8 hs9
    go_wp2_with fail
    refine (implSameSec_any _ _ _ _ _ _ _ ys us rfl rfl U9.reads V9.reads (by omega)).mono ?_
    rintro e w10 ⟨rfl, hs10⟩
    have O10 := hidden (O9.out.same hs10)
    have B10 := hidden (Below.andSame B9.out hs10)
    have U10 := U9.same hs10
    have V10 := V9.same hs10
    clear O9 B9 U9 V9 hs10
    go_wp2_with fail
    refine (sameInts_any _ _ _ _ _ _ _ ys us rfl rfl U10.reads V10.reads (by omega)).mono ?_
    rintro e w11 ⟨rfl, hs11⟩
    have O11 := hidden (O10.out.same hs11)
    have B11 := hidden (Below.andSame B10.out hs11)
    have hq2 : (decide (ys = us) != decide (ys = us)) = false := by simp
    clear O10 B10 U10 V10 hs11
    go_wp2_with fail
    refine (implParityWord_any _ _ _ _ [] rfl O11.out.reads (by first | omega | (simp; omega) | simp)).mono ?_
    rintro e w12 ⟨rfl, hs12⟩
    have O12 := hidden (O11.out.same hs12)
    have B12 := hidden (Below.andSame B11.out hs12)
    clear O11 B11 hs12
    go_wp2_with fail
    refine (implXorOf_any _ _ _ _ [] rfl O12.out.reads (by first | omega | (simp; omega) | simp)).mono ?_
    rintro e w13 ⟨rfl, hs13'⟩
    have O13 := hidden (O12.out.same hs13')
    have B13 := hidden (Below.andSame B12.out hs13')
    clear O12 B12 hs13'
    go_wp2_with fail
    go_loopw [8] (fun i wr => ∃ j : Nat, j ≤ 0 ∧ i = .int .i64 j ∧ Hid (Own .i64 3 wr w.heap.size w1.heap.size (.slice none 0 0) []) ∧ Hid (Below w.heap.size w wr)) (fun i _ => 0 - (intOf i).toNat)
    case atStart => exact ⟨0, Nat.zero_le _, rfl, O13, B13⟩
    case round =>
      obtain ⟨j, hj, rfl, OR, BR⟩ := hrel
      clear O13 B13
      by_cases hlt : j < 0
      · omega
      · go_wp2_with fail
        refine (implXorOf_any _ _ 1 _ [n] rfl (Reads.new _ _ _ _ _ rfl) (by omega)).mono ?_
        rintro e w14 ⟨rfl, hs14⟩
        rw [T2.out]
        go_wp2
        go_ret
        exact ⟨ret_bool (by simp), Below.andSame (BR.out.alloc BR.out.size _) hs14⟩
  · subst hv
    have R4 := O4.reads
    go_wp2_with (first
      | (at_builtin; (refine wpList_app .i64 rfl _ _ 24 rfl w3.heap.size 3 i0 (.int .i64 0) 8 Try.underlying24 hi hz0 hz1 hz2 rfl _ xs rfl H5.out ⟨w5.heap.size, 0, none⟩ 2 2 [n, n] rfl rfl HR.out (by unfold maxLen; first | omega | (simp; omega) | simp) (by first | omega | (simp; omega) | simp) H5s.out ?_; intro v6 w6 ho6 hb6; obtain ⟨a6, c6, hv6, hr6, _⟩ := ho6.shape; subst hv6))
      | (at_builtin; refine wpList_app .i64 rfl _ _ 24 rfl w3.heap.size 3 i0 (.int .i64 0) 8 Try.underlying24 hi hz0 hz1 hz2 rfl _ [] rfl hO ⟨g, 0, none⟩ xs.length cap xs rfl rfl R4 (by unfold maxLen; simp; omega) (by simp; omega) (by simp) ?_; intro v5 w5 ho5 hb5; obtain ⟨a5, c5, hv5, _⟩ := ho5.shape; rw [List.nil_append] at ho5 hv5; subst hv5; have B4 := B4.trans (hb5.mono hs13); have O4 := O4.under hb5 hz13; have z5 := hb5.size; have H5 := hidden (ho5.alloc (.cells #[.int .i64 n, .int .i64 n] 3)); have H5s : Hid (w3.heap.size ≤ (w5.alloc (.cells #[.int .i64 n, .int .i64 n] 3)).heap.size) := (by unfold Hid; simp at z5 ⊢; omega); have HR := hidden (Reads.new .i64 w5 3 [n, n] _ rfl)))
    have B6 := hidden (((B4.alloc B4.size (.cells #[.int .i64 n, .int .i64 n] 3))).trans (hb6.mono (by omega)))
    have O6 := hidden (((O4.below ((Below.refl _ _).alloc (Nat.le_refl _) (.cells #[.int .i64 n, .int .i64 n] 3))).under hb6 hz13))
    refine (implXorOf_any _ _ _ _ (xs ++ [n, n]) (by simp) hr6 (by first | omega | (simp; omega) | simp)).mono ?_
    rintro e w7 ⟨rfl, hs7⟩
    rw [T1.out]
    have O7 := hidden (O6.out.same hs7)
    have B7 := hidden (Below.andSame B6.out hs7)
    clear O6 B6 hs7 hr6 ho6 hb6 H5 H5s HR hO O4 B4
    go_wp2_with fail
    refine (drawSameSec_any _ _ _ _ zs hl (hr.below B7.out) hby hlb).mono ?_
    rintro e w8 ⟨u, v, ys, us, rfl, hy, hu, oU, oV, b8⟩
    have O8 := hidden (O7.out.below b8)
    have B8 := hidden (Below.andThen B7.out b8)
    obtain ⟨au, cu, rfl, U8⟩ := oU.take rfl rfl
    obtain ⟨av, cv, rfl, V8⟩ := oV.take rfl rfl
    clear O7 B7 b8 oU oV
    go_wp2_with fail
    refine (implXorOf_any _ _ _ _ xs rfl O8.out.reads (by first | omega | (simp; omega) | simp)).mono ?_
    rintro e w9 ⟨rfl, hs9⟩
    have O9 := hidden (O8.out.same hs9)
    have B9 := hidden (Below.andSame B8.out hs9)
    have U9 := U8.same hs9
    have V9 := V8.same hs9
    have hq : (xorL xs == xorL xs) = true := by simp
    clear O8 B8 U8 V8 hs9
    go_wp2_with fail
    refine (implSameSec_any _ _ _ _ _ _ _ ys us rfl rfl U9.reads V9.reads (by omega)).mono ?_
    rintro e w10 ⟨rfl, hs10⟩
    have O10 := hidden (O9.out.same hs10)
    have B10 := hidden (Below.andSame B9.out hs10)
    have U10 := U9.same hs10
    have V10 := V9.same hs10
    clear O9 B9 U9 V9 hs10
    go_wp2_with fail
    refine (sameInts_any _ _ _ _ _ _ _ ys us rfl rfl U10.reads V10.reads (by omega)).mono ?_
    rintro e w11 ⟨rfl, hs11⟩
    have O11 := hidden (O10.out.same hs11)
    have B11 := hidden (Below.andSame B10.out hs11)
    have hq2 : (decide (ys = us) != decide (ys = us)) = false := by simp
    clear O10 B10 U10 V10 hs11
    go_wp2_with fail
    refine (implParityWord_any _ _ _ _ xs rfl O11.out.reads (by first | omega | (simp; omega) | simp)).mono ?_
    rintro e w12 ⟨rfl, hs12⟩
    have O12 := hidden (O11.out.same hs12)
    have B12 := hidden (Below.andSame B11.out hs12)
    clear O11 B11 hs12
    go_wp2_with fail
    refine (implXorOf_any _ _ _ _ xs rfl O12.out.reads (by first | omega | (simp; omega) | simp)).mono ?_
    rintro e w13 ⟨rfl, hs13'⟩
    have O13 := hidden (O12.out.same hs13')
    have B13 := hidden (Below.andSame B12.out hs13')
    clear O12 B12 hs13'
    go_wp2_with fail
    go_loopw [8] (fun i wr => ∃ j : Nat, j ≤ xs.length ∧ i = .int .i64 j ∧ Hid (Own .i64 3 wr w.heap.size w1.heap.size (.slice (some ⟨g, 0, none⟩) xs.length cap) xs) ∧ Hid (Below w.heap.size w wr)) (fun i _ => xs.length - (intOf i).toNat)
    case atStart => exact ⟨0, Nat.zero_le _, rfl, O13, B13⟩
    case round =>
      obtain ⟨j, hj, rfl, OR, BR⟩ := hrel
      clear O13 B13
      by_cases hlt : j < xs.length
      · have SB := hidden (skip_back xs j hlt)
        rcases OR.out.reads.cases with h0 | ⟨b, off, hab, hbl, hc⟩
        · omega
        simp at hab
        obtain ⟨rfl, rfl⟩ := hab
        have hc1 := hc j (by omega)
        rw [Nat.zero_add] at hc1
        have OD := hidden (OR.out.same ((Same.refl _).drew))
        have BD := hidden (Below.andSame BR.out ((Same.refl _).drew))
        have i1 : (0 : Int) ≤ (j : Int) := by omega
        have i2 : (j : Int) < (xs.length : Int) := by omega
        generalize hy0 : xs.getD j 0 = y at hc1 SB
        have hc2 : wr.drew.cell? ⟨g, j, none⟩ = some (.int .i64 y) := hc1
        clear hc
        have hqx : (bits BinOp.xor IntKind.i64 (skipL xs j xs.length) y == xorL xs) = true := by rw [SB.out]; simp
        go_wp2_with fail
        go_region_held3 (fun w' => w'.cell? ⟨g, j, none⟩ = some (.int .i64 y))
          (first | (with_reducible exact C2.out) | (with_reducible exact C1.out) | (with_reducible exact hc2) | (with_reducible exact hc1) | go_keep)
          (first
            | (go_at_call 24; refine (implMissingWord_any _ _ _ _ xs _ rfl OD.out.reads (by omega)).mono ?_; rintro e u1 ⟨rfl, hs1⟩; have O1 := hidden (OD.out.same hs1); have B1 := hidden (Below.andSame BD.out hs1); have C1 := hidden ((hs1.cell ⟨g, j, none⟩).trans hc2); clear hs1)
            | (go_at_call 20; refine (implXorOf_any _ _ _ _ xs rfl O1.out.reads (by omega)).mono ?_; rintro e u2 ⟨rfl, hs2⟩; have O2 := hidden (O1.out.same hs2); have B2 := hidden (Below.andSame B1.out hs2); have C2 := hidden ((hs2.cell ⟨g, j, none⟩).trans C1.out); clear hs2))
        go_wp2
        go_roundw
        case rel => exact ⟨j + 1, by omega, by go_num, O2, B2⟩
        case measure => simp [intOf]; omega
      · go_wp2_with fail
        refine (implXorOf_any _ _ 1 _ [n] rfl (Reads.new _ _ _ _ _ rfl) (by omega)).mono ?_
        rintro e w14 ⟨rfl, hs14⟩
        rw [T2.out]
        go_wp2
        go_ret
        exact ⟨ret_bool (by simp), Below.andSame (BR.out.alloc BR.out.size _) hs14⟩

end Go.Proofs.Ytmkiljflkndmoaa

/-
  The walk of the specification's PutSec. Conditions: the slices lie within the laws' own bound on their length.
-/
import Derived.Test.YtmkiljflkndmoajWalkPut
namespace Go.Proofs.Ytmkiljflkndmoaj
open Go.RowKit

set_option maxHeartbeats 1600000 in
theorem specPutSec_any (w : World) (ad : Addr) (lb cb : Nat) (zs : List Int) (a : Option Addr) (len cap : Nat) (xs : List Int) (hzb : zs.length = lb) (hrb : Reads .u8 w (some ad) zs) (hz : xs.length = len) (hr : Reads .i64 w a xs)
    (ha : ∀ x, a = some x → x.block < w.heap.size) (hlb : lb ≤ 2097152) (hlen : len ≤ 2097152) :
    Calls Try.prog 9 #[.slice (some ad) lb cb, .slice a len cap] w fun e w' => ∃ v', e = .returned v' ∧ Owns .u8 5 w' w.heap.size v' (putL zs xs) ∧ Below w.heap.size w w' := by
  obtain ⟨i0, hi, hz0, hz1, hz2⟩ := info_parts Try.info5
  have hown0 : Owns .u8 5 (w.alloc (.cells #[] 5)) w.heap.size (.slice (some ⟨w.heap.size, 0, none⟩) 0 0) [] := Owns.lit .u8 5 w [] 0 #[] rfl rfl (by unfold maxLen; omega)
  have hb0 : Below w.heap.size w (w.alloc (.cells #[] 5)) := (Below.refl _ _).alloc (Nat.le_refl _) _
  have hr0 := hrb.below hb0
  by_cases hs : secB xs = true
  · have hl12 : len ≤ 12 := by simp [secB] at hs; omega
    have hW : allW xs = true := by simp [secB] at hs; exact hs.2
    go_enter Try.func9, Try.ntmps9
    go_wp2_with (at_builtin; refine wpList_app .u8 (by rfl) (.tmp 7) (.tmp 8) 22 (by rfl) w.heap.size 5 i0 _ 1 Try.underlying22 hi hz0 hz1 hz2 rfl _ [] (by rfl) hown0 ad lb cb zs (by rfl) hzb hr0 ?h1 ?h2 ?h3 ?_)
    case h1 => simp; unfold maxLen; omega
    case h2 => simp; omega
    case h3 => simp
    intro v1 w1 ho1 hb1
    have hB1 : Below w.heap.size w w1 := hb0.trans hb1
    clear hb1 hown0 hb0 hr0
    go_wp2_with fail
    refine (specSecOk_any _ _ _ _ xs hz (hr.below hB1) hlen).mono ?_
    rintro e w2 ⟨rfl, hs2⟩
    have ho2 := ho1.below (hs2.below w1.heap.size) (Nat.le_refl _)
    have hB2 := Below.andSame hB1 hs2
    have hsz2 := hB2.size
    clear ho1 hs2
    go_wp2_with (at_builtin; refine wpList_app .u8 (by rfl) (.tmp 14) (.tmp 18) 22 (by rfl) w.heap.size 5 i0 _ 1 Try.underlying22 hi hz0 hz1 hz2 rfl _ zs (by rfl) (ho2.alloc _) ⟨w2.heap.size, 0, none⟩ 1 1 [(len : Int)] (by rfl) rfl (Reads.new _ _ _ _ _ rfl) ?h4 ?h5 ?h6 ?_)
    case h4 => unfold maxLen; omega
    case h5 => omega
    case h6 => simp; omega
    intro v3 w3 ho3 hb3
    have hB3 : Below w.heap.size w w3 := (hB2.alloc hsz2 _).trans hb3
    clear hb3 ho2
    go_wp2
    go_loopw [5, 6] (fun o i wr => ∃ j : Nat, j ≤ len ∧ i = .int .i64 j ∧ Owns .u8 5 wr w.heap.size o (zs ++ ((len : Int) :: wordsL (xs.take j))) ∧ Below w.heap.size w wr) (fun _ i _ => len - (intOf i).toNat)
    case atStart => exact ⟨0, Nat.zero_le _, rfl, by simpa [wordsL] using ho3, hB3⟩
    case round =>
      clear ho3 hB3 hB2 hB1
      obtain ⟨j, hj, rfl, ho, hb⟩ := hrel
      by_cases hlt : j < len
      · rcases hr.cases with h0 | ⟨b, off, rfl, hbl, hc⟩
        · omega
        have hc1 : wr.cell? ⟨b, off + j, none⟩ = some (.int .i64 (xs.getD j 0)) := (hb.cell (p := ⟨b, off + j, none⟩) hbl).trans (hc j (by omega))
        have hsz : (wordsL (xs.take j)).length = 2 * j := by rw [wordsL_length]; simp; omega
        obtain ⟨hx0, hx1⟩ := allW_at (xs := xs) (j := j) (by omega) rfl hW
        have HS : Hid (wordsL (xs.take (j + 1)) = wordsL (xs.take j) ++ [xs.getD j 0 / 256, xs.getD j 0 % 256]) := wordsL_step (by omega) rfl
        generalize xs.getD j 0 = x at hc1 hx0 hx1 HS
        have hj0 : (0 : Int) ≤ (j : Int) := Int.natCast_nonneg _
        have hj1 : (j : Int) < (len : Int) := by omega
        have hbw : b < wr.heap.size := by have := hb.size; omega
        have hsw := hb.size
        have hn1 : (zs ++ ((len : Int) :: wordsL (xs.take j))).length + 2 ≤ maxLen := by rw [List.length_append, List.length_cons, hsz]; unfold maxLen; omega
        have hn2 : ((zs ++ ((len : Int) :: wordsL (xs.take j))).length + 2) * 1 ≤ 140737488355328 := by rw [List.length_append, List.length_cons, hsz]; omega
        have HB : Hid (Below w.heap.size w wr) := hb
        have HO : Hid (Owns .u8 5 wr w.heap.size u5 (zs ++ ((len : Int) :: wordsL (xs.take j)))) := ho
        have HN1 : Hid ((zs ++ ((len : Int) :: wordsL (xs.take j))).length + 2 ≤ maxLen) := hn1
        have HN2 : Hid (((zs ++ ((len : Int) :: wordsL (xs.take j))).length + 2) * 1 ≤ 140737488355328) := hn2
        have HC : Hid (#[Value.int IntKind.u8 (IntKind.u8.wrap (x / 256)), Value.int IntKind.u8 (IntKind.u8.wrap x)] = ([x / 256, x % 256].map (Value.int .u8)).toArray) := by
          have e1 : IntKind.u8.wrap (x / 256) = x / 256 := by rw [IntKind.wrap_u8]; omega
          have e2 : IntKind.u8.wrap x = x % 256 := by rw [IntKind.wrap_u8]
          unfold Hid
          rw [e1, e2]
          rfl
        clear hc hn1 hn2 hb ho
        go_wp2_with fail
        go_region_held3 (fun w' => w'.cell? ⟨b, off + j, none⟩ = some (.int .i64 x)) (first | go_keep | (exact (hbA.cell (p := ⟨b, off + j, none⟩) hbl).trans (by assumption)))
          ((refine step_app .u8 (by rfl) _ _ 22 (by rfl) w.heap.size 5 i0 _ 1 Try.underlying22 hi hz0 hz1 hz2 rfl u5 (zs ++ ((len : Int) :: wordsL (xs.take j))) (by rfl) ((HO.out.alloc _).drew) ⟨wr.heap.size, 0, none⟩ 2 2 [x / 256, x % 256] (by rfl) rfl (Reads.new _ _ _ _ _ HC.out).draw (by omega) HN1.out HN2.out (by simp; omega) ?_; intro v' wA hoA hbA))
        have hB : Below w.heap.size w wA := ((HB.out.alloc hsw _).drew).trans hbA
        rw [List.append_assoc, List.cons_append, ← HS.out] at hoA
        clear hbA
        go_wp2
        go_roundw
        case rel => exact ⟨j + 1, by omega, by go_num, hoA, hB⟩
        case measure => simp [intOf]; omega
      · go_wp2
        go_ret
        have e : j = len := by omega
        subst e
        rw [List.take_of_length_le (by omega)] at ho
        exact ⟨_, rfl, by unfold putL; rw [if_pos hs, hz]; exact ho, hb⟩
  · have hs : secB xs = false := by simpa using hs
    go_enter Try.func9, Try.ntmps9
    go_wp2_with (at_builtin; refine wpList_app .u8 (by rfl) (.tmp 7) (.tmp 8) 22 (by rfl) w.heap.size 5 i0 _ 1 Try.underlying22 hi hz0 hz1 hz2 rfl _ [] (by rfl) hown0 ad lb cb zs (by rfl) hzb hr0 ?h1 ?h2 ?h3 ?_)
    case h1 => simp; unfold maxLen; omega
    case h2 => simp; omega
    case h3 => simp
    intro v1 w1 ho1 hb1
    have hB1 : Below w.heap.size w w1 := hb0.trans hb1
    clear hb1 hown0 hb0 hr0
    go_wp2_with fail
    refine (specSecOk_any _ _ _ _ xs hz (hr.below hB1) hlen).mono ?_
    rintro e w2 ⟨rfl, hs2⟩
    have ho2 := ho1.below (hs2.below w1.heap.size) (Nat.le_refl _)
    have hB2 := Below.andSame hB1 hs2
    clear ho1 hs2
    go_wp2
    go_ret
    exact ⟨_, rfl, by unfold putL; rw [if_neg (by simp [hs])]; exact ho2, hB2⟩

end Go.Proofs.Ytmkiljflkndmoaj

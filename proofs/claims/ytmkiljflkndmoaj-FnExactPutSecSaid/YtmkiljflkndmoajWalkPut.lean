/-
  The walks of both PutSec (the program's and the specification's) and of what they call. Conditions: the slices lie within the laws' own bound on their length.
-/
import Derived.Test.YtmkiljflkndmoajWalkBytes
import Derived.Test.YtmkiljflkndmoajWalkSecOk
namespace Go.Proofs.Ytmkiljflkndmoaj
open Go.RowKit

/-- Each word in two bytes, the higher first. -/
def wordsL (l : List Int) : List Int := l.flatMap fun n => [n / 256, n % 256]

theorem wordsL_step {xs : List Int} {j : Nat} {x : Int} (h : j < xs.length) (hx : xs.getD j 0 = x) : wordsL (xs.take (j + 1)) = wordsL (xs.take j) ++ [x / 256, x % 256] := by
  have e : xs[j] = x := by rw [← hx]; simp [List.getElem?_eq_getElem h]
  unfold wordsL
  rw [List.take_succ_eq_append_getElem h, List.flatMap_append, e]
  rfl

theorem wordsL_length (l : List Int) : (wordsL l).length = 2 * l.length := by
  induction l with
  | nil => rfl
  | cons x l ih => unfold wordsL at *; rw [List.flatMap_cons, List.length_append, ih]; simp; omega

theorem allW_at {xs : List Int} {j : Nat} {x : Int} (h : j < xs.length) (hx : xs.getD j 0 = x) (hw : allW xs = true) : 0 ≤ x ∧ x ≤ 65535 := by
  have e : xs[j] = x := by rw [← hx]; simp [List.getElem?_eq_getElem h]
  unfold allW at hw
  rw [List.all_eq_true] at hw
  have := hw x (by rw [← e]; exact List.getElem_mem h)
  simpa [isW] using this

set_option maxHeartbeats 400000 in
theorem putWords_any (w : World) (lo : Nat) (v : Value) (zs : List Int) (a : Option Addr) (len cap : Nat) (xs : List Int) (hv : Owns .u8 5 w lo v zs) (hz : xs.length = len) (hr : Reads .i64 w a xs)
    (ha : ∀ x, a = some x → x.block < lo) (hlo : lo ≤ w.heap.size) (hW : allW xs = true) (hlen : len ≤ 2097152) (hzl : zs.length ≤ 2097200) :
    Calls Try.prog 37 #[v, .slice a len cap] w fun e w' => ∃ v', e = .returned v' ∧ Owns .u8 5 w' lo v' (zs ++ wordsL xs) ∧ Below lo w w' := by
  obtain ⟨i0, hi, hz0, hz1, hz2⟩ := info_parts Try.info5
  go_enter Try.func37, Try.ntmps37
  go_wp2
  go_loopw [0, 9] (fun o i wr => ∃ j : Nat, j ≤ len ∧ i = .int .i64 j ∧ Owns .u8 5 wr lo o (zs ++ wordsL (xs.take j)) ∧ Below lo w wr) (fun _ i _ => len - (intOf i).toNat)
  case atStart => exact ⟨0, Nat.zero_le _, rfl, by simpa [wordsL] using hv, Below.refl _ _⟩
  case round =>
    obtain ⟨j, hj, rfl, ho, hb⟩ := hrel
    by_cases hlt : j < len
    · rcases hr.cases with h0 | ⟨b, off, rfl, hbl, hc⟩
      · omega
      have hbb : b < lo := ha _ rfl
      have hc1 : wr.cell? ⟨b, off + j, none⟩ = some (.int .i64 (xs.getD j 0)) := (hb.cell (p := ⟨b, off + j, none⟩) hbb).trans (hc j (by omega))
      have hsz : (wordsL (xs.take j)).length = 2 * j := by rw [wordsL_length]; simp; omega
      obtain ⟨hx0, hx1⟩ := allW_at (xs := xs) (j := j) (by omega) rfl hW
      have HS : Hid (wordsL (xs.take (j + 1)) = wordsL (xs.take j) ++ [xs.getD j 0 / 256, xs.getD j 0 % 256]) := wordsL_step (by omega) rfl
      generalize xs.getD j 0 = x at hc1 hx0 hx1 HS
      clear hc
      go_wp2_with (at_builtin; refine wpList_app .u8 rfl (.tmp 13) (.tmp 19) 22 rfl lo 5 i0 _ 1 Try.underlying22 hi hz0 hz1 hz2 rfl _ (zs ++ wordsL (xs.take j)) rfl (ho.alloc _) _ 2 2 [x / 256, x % 256] rfl rfl (Reads.new _ _ _ _ _ rfl) ?h1 ?h2 ?h3 ?_)
      case h1 => rw [List.length_append, hsz]; unfold maxLen; omega
      case h2 => rw [List.length_append, hsz]; omega
      case h3 => have := hb.size; simp; omega
      intro v' w1 ho1 hb1
      have hB : Below lo w w1 := (hb.alloc (by have := hb.size; omega) _).trans hb1
      rw [← HS.out] at ho1
      clear hb1 hb ho HS hc1
      go_wp2
      go_roundw
      case rel => exact ⟨j + 1, by omega, by go_num, ho1, hB⟩
      case measure => simp [intOf]; omega
    · go_wp2
      go_ret
      have e : j = len := by omega
      subst e
      rw [List.take_of_length_le (by omega)] at ho
      exact ⟨_, rfl, ho, hb⟩

/-- The bytes behind b that say the sector s; b where it is none. -/
def putL (b s : List Int) : List Int := if secB s = true then b ++ ((s.length : Int) :: wordsL s) else b

set_option maxHeartbeats 400000 in
theorem roomBehind_any (w : World) (ad : Addr) (len cap : Nat) (zs : List Int) (more : Int) (hz : zs.length = len) (hr : Reads .u8 w (some ad) zs) (hlen : len ≤ 2097200) (h0 : 0 ≤ more) (h1 : more ≤ 4194304) :
    Calls Try.prog 36 #[.slice (some ad) len cap, .int .i64 more] w fun e w' => ∃ v', e = .returned v' ∧ Owns .u8 5 w' w.heap.size v' zs ∧ Below w.heap.size w w' := by
  obtain ⟨i0, hi, hz0, hz1, hz2⟩ := info_parts Try.info5
  obtain ⟨mo, rfl⟩ := Int.eq_ofNat_of_zero_le h0
  have hb3 : i0.bytes * (len + mo) ≤ 281474976710656 := by rw [hz2]; omega
  have hm3 : len + mo ≤ maxLen := by unfold maxLen; omega
  have hn : len ≤ maxLen := by unfold maxLen; omega
  go_enter Try.func36, Try.ntmps36
  go_wp2_with (first | (at_make; refine wpList_make_own _ rfl _ _ 22 rfl w.heap.size 5 i0 (.int .u8 0) 1 Try.underlying22 hi hz0 hz1 _ _ _ (len + mo) rfl rfl (by omega) hb3 hm3 (Nat.le_refl _) ?_; intro w1 hown hgrow; have hown' : Owns .u8 5 w1 w.heap.size (.slice (some ⟨w.heap.size, 0, none⟩) 0 (len + mo)) [] := hown; have hr1 := hr.below ((Below.refl w.heap.size w).grown hgrow (Nat.le_refl _) (by simp)); clear hown) | (at_builtin; refine wpList_app .u8 (by rfl) _ _ 22 (by rfl) w.heap.size 5 i0 _ 1 Try.underlying22 hi hz0 hz1 hz2 rfl _ [] (by rfl) hown' ad len cap zs (by rfl) hz hr1 ?h1 ?h2 ?h3 ?_))
  case h1 => simpa using hn
  case h2 => simp; omega
  case h3 => exact hgrow.size
  intro v' w2 ho hb
  have hB : Below w.heap.size w w2 := ((Below.refl _ _).grown hgrow (Nat.le_refl _) (by simp)).trans hb
  clear hb hown' hgrow
  go_wp2
  go_ret
  exact ⟨_, rfl, by simpa using ho, hB⟩

set_option maxHeartbeats 1000000 in
theorem implPutSec_any (w : World) (ad : Addr) (lb cb : Nat) (zs : List Int) (a : Option Addr) (len cap : Nat) (xs : List Int) (hzb : zs.length = lb) (hrb : Reads .u8 w (some ad) zs) (hz : xs.length = len) (hr : Reads .i64 w a xs)
    (ha : ∀ x, a = some x → x.block < w.heap.size) (hlb : lb ≤ 2097152) (hlen : len ≤ 2097152) :
    Calls Try.prog 12 #[.slice (some ad) lb cb, .slice a len cap] w fun e w' => ∃ v', e = .returned v' ∧ Owns .u8 5 w' w.heap.size v' (putL zs xs) ∧ Below w.heap.size w w' := by
  obtain ⟨i0, hi, hz0, hz1, hz2⟩ := info_parts Try.info5
  by_cases hs : secB xs = true
  · have hl12 : len ≤ 12 := by simp [secB] at hs; omega
    have hW : allW xs = true := by simp [secB] at hs; exact hs.2
    go_enter Try.func12, Try.ntmps12
    go_wp2_with fail
    refine (implSecOk_any _ _ _ _ xs hz hr hlen).mono ?_
    rintro e w1 ⟨rfl, hs1⟩
    have hw1 := hs1.size
    go_wp2_with fail
    refine (roomBehind_any _ ad _ _ zs _ hzb (hrb.same hs1) (by omega) (by omega) (by omega)).mono ?_
    rintro e w2 ⟨v2, rfl, ho2, hb2⟩
    rw [hw1] at ho2
    have hB2 : Below w.heap.size w w2 := (hs1.below _).trans (hb2.mono (by omega))
    have hsz2 := hB2.size
    clear hb2
    go_wp2_with (at_builtin; refine wpList_app .u8 (by rfl) _ _ 22 (by rfl) w.heap.size 5 i0 _ 1 Try.underlying22 hi hz0 hz1 hz2 rfl _ zs (by rfl) (ho2.alloc _) ⟨w2.heap.size, 0, none⟩ 1 1 [(len : Int)] (by rfl) rfl (Reads.new _ _ _ _ _ rfl) ?h1 ?h2 ?h3 ?_)
    case h1 => unfold maxLen; omega
    case h2 => omega
    case h3 => simp; omega
    intro v3 w3 ho3 hb3
    have hB3 : Below w.heap.size w w3 := (hB2.alloc hsz2 _).trans hb3
    clear hb3 ho2
    go_wp2_with fail
    refine (putWords_any _ w.heap.size _ _ _ _ _ xs ho3 hz (hr.below hB3) ha hB3.size hW hlen ?h4).mono ?_
    case h4 => simp; omega
    rintro e w4 ⟨v4, rfl, ho4, hb4⟩
    have hB4 : Below w.heap.size w w4 := hB3.trans hb4
    go_wp2
    go_ret
    refine ⟨_, rfl, ?_, hB4⟩
    unfold putL
    rw [if_pos hs, hz]
    simpa using ho4
  · have hs : secB xs = false := by simpa using hs
    go_enter Try.func12, Try.ntmps12
    go_wp2_with fail
    refine (implSecOk_any _ _ _ _ xs hz hr hlen).mono ?_
    rintro e w1 ⟨rfl, hs1⟩
    have hw1 := hs1.size
    go_wp2_with fail
    refine (roomBehind_any _ ad _ _ zs _ hzb (hrb.same hs1) (by omega) (by omega) (by omega)).mono ?_
    rintro e w2 ⟨v2, rfl, ho2, hb2⟩
    rw [hw1] at ho2
    have hB2 : Below w.heap.size w w2 := (hs1.below _).trans (hb2.mono (by omega))
    go_wp2
    go_ret
    refine ⟨_, rfl, ?_, hB2⟩
    unfold putL
    rw [if_neg (by simp [hs])]
    exact ho2

end Go.Proofs.Ytmkiljflkndmoaj

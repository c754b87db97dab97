/-
  The walk of the program's GetSec. Conditions: the slice lies within the laws' own bound on its length, and holds bytes.
-/
import Derived.Test.YtmkiljflkndmoajWalkGet
namespace Go.Proofs.Ytmkiljflkndmoaj
open Go.RowKit

theorem filled_step (zs : List Int) (p n j : Nat) (h : j < n) :
    (getWs zs p j ++ List.replicate (n - j) (0 : Int)).set j (orW (zs.getD (p + 1 + 2 * j) 0) (zs.getD (p + 2 + 2 * j) 0)) = getWs zs p (j + 1) ++ List.replicate (n - (j + 1)) (0 : Int) := by
  have e : n - j = (n - (j + 1)) + 1 := by omega
  rw [List.set_append, if_neg (by rw [getWs_length]; omega), getWs_length, Nat.sub_self, e, List.replicate_succ, List.set_cons_zero, getWs_succ, List.append_assoc]
  rfl

set_option maxHeartbeats 1600000 in
theorem implGetSec_any (w : World) (a : Option Addr) (lb cb : Nat) (zs : List Int) (p : Int) (hz : zs.length = lb) (hr : Reads .u8 w a zs) (hby : ∀ n ∈ zs, 0 ≤ n ∧ n ≤ 255) (hlb : lb ≤ 2097152) (hcb : lb ≤ cb) (hcm : cb ≤ 9223372036854775807) (hp0 : -9223372036854775808 ≤ p) (hp1 : p ≤ 9223372036854775807) :
    Calls Try.prog 19 #[.slice a lb cb, .int .i64 p] w fun e w' => ∃ v', e = .returned (.tuple #[v', .int .i64 (getAt zs p), .bool (getOk zs p)]) ∧ Owns .i64 3 w' w.heap.size v' (getL zs p) ∧ Below w.heap.size w w' := by
  obtain ⟨i0, hi, hz0, hz1, hz2⟩ := info_parts Try.info3
  have hown0 : Owns .i64 3 (w.alloc (.cells #[] 3)) w.heap.size (.slice (some ⟨w.heap.size, 0, none⟩) 0 0) [] := Owns.lit .i64 3 w [] 0 #[] rfl rfl (by unfold maxLen; omega)
  have hb0 : Below w.heap.size w (w.alloc (.cells #[] 3)) := (Below.refl _ _).alloc (Nat.le_refl _) _
  by_cases hin : 0 ≤ p ∧ p < (lb : Int)
  · obtain ⟨h0, h1⟩ := hin
    obtain ⟨p, rfl⟩ := Int.eq_ofNat_of_zero_le h0
    rcases hr.cases with hn | ⟨b, off, rfl, hbl, hc⟩
    · omega
    have hc0 := hc p (by omega)
    have hbp := byte_at hby p
    have hok : getOk zs (p : Int) = (decide (zs.getD p 0 ≤ 12) && decide (2 * zs.getD p 0 ≤ (lb : Int) - p - 1)) := by
      unfold getOk; rw [hz]; simp [h1]
    generalize hn : zs.getD p 0 = n at hc0 hbp hok
    obtain ⟨n, rfl⟩ := Int.eq_ofNat_of_zero_le hbp.1
    by_cases hC : n ≤ 12 ∧ 2 * (n : Int) ≤ (lb : Int) - p - 1
    · obtain ⟨hC1, hC2⟩ := hC
      have hok : getOk zs (p : Int) = true := by rw [hok]; simp; omega
      have hga : getAt zs (p : Int) = (p : Int) + 1 + 2 * (n : Int) := by simp only [getAt, hok, if_true, Int.toNat_natCast, hn]
      have hgl : getL zs (p : Int) = getWs zs p n := by simp only [getL, hok, if_true, Int.toNat_natCast, hn]
      simp only [hga, hgl, hok]
      clear hga hgl hok hn hown0 hb0
      have hb3 : i0.bytes * n ≤ 281474976710656 := by rw [hz2]; omega
      have hm3 : n ≤ maxLen := by unfold maxLen; omega
      by_cases hn0 : n = 0
      · subst hn0
        go_enter Try.func19, Try.ntmps19
        go_wp2_with (at_make; refine wpList_make_full _ rfl _ _ 23 rfl w.heap.size 3 i0 (.int .i64 0) 1 Try.underlying23 hi hz0 hz1 _ _ _ _ 0 rfl rfl rfl rfl hb3 hm3 (Nat.le_refl _) ?_; intro w1 hown hgrow)
        all_goals (refine wp_loop_rounds 1 ?_; rw [rounds_succ]; go_wp2; go_ret3)
        all_goals exact ⟨_, rfl, by rw [made_ints] at hown; exact hown, (Below.refl _ _).grown hgrow (Nat.le_refl _) (by simp)⟩
      · have hne : ¬ cb = p + 1 := by omega
        go_enter Try.func19, Try.ntmps19
        go_wp2_with (at_make; refine wpList_make_full _ rfl _ _ 23 rfl w.heap.size 3 i0 (.int .i64 0) 1 Try.underlying23 hi hz0 hz1 _ _ _ _ n rfl rfl rfl rfl hb3 hm3 (Nat.le_refl _) ?_; intro w1 hown hgrow)
        have hO : Owns .i64 3 w1 w.heap.size (.slice (some ⟨w.heap.size, 0, none⟩) n n) (List.replicate n 0) := by
          rw [made_ints] at hown
          unfold Owns
          rw [List.length_replicate]
          exact hown
        have hO1 := hO.own
        have hB1 : Below w.heap.size w w1 := (Below.refl _ _).grown hgrow (Nat.le_refl _) (by simp)
        generalize w1.heap.size = hi1 at hO1
        clear hown hgrow hO
        go_loopw [43] (fun i wr => ∃ j : Nat, j ≤ n ∧ i = .int .i64 j ∧ Own .i64 3 wr w.heap.size hi1 (.slice (some ⟨w.heap.size, 0, none⟩) n n) (getWs zs p j ++ List.replicate (n - j) 0) ∧ Below w.heap.size w wr) (fun i _ => n - (intOf i).toNat)
        case atStart => exact ⟨0, Nat.zero_le _, rfl, by simpa [getWs] using hO1, hB1⟩
        case round =>
          clear hO1 hB1
          obtain ⟨j, hj, rfl, ho, hb⟩ := hrel
          by_cases hlt : j < n
          · have HC1 : Hid (w.cell? ⟨b, off + (p + 1) + 2 * j, none⟩ = some (.int .u8 (zs.getD (p + 1 + 2 * j) 0))) := by
              unfold Hid; rw [Nat.add_assoc off]; exact hc _ (by omega)
            have HC2 : Hid (w.cell? ⟨b, off + (p + 1) + (2 * j + 1), none⟩ = some (.int .u8 (zs.getD (p + 2 + 2 * j) 0))) := by
              unfold Hid; rw [show off + (p + 1) + (2 * j + 1) = off + (p + 2 + 2 * j) by omega]; exact hc _ (by omega)
            have hc1 := (hb.cell (p := ⟨b, off + (p + 1) + 2 * j, none⟩) hbl).trans HC1.out
            have hc2 := (hb.cell (p := ⟨b, off + (p + 1) + (2 * j + 1), none⟩) hbl).trans HC2.out
            have hq1 := byte_at hby (p + 1 + 2 * j)
            have hq2 := byte_at hby (p + 2 + 2 * j)
            have HS : Hid ((getWs zs p j ++ List.replicate (n - j) 0).set j (orW (zs.getD (p + 1 + 2 * j) 0) (zs.getD (p + 2 + 2 * j) 0)) = getWs zs p (j + 1) ++ List.replicate (n - (j + 1)) 0) := filled_step zs p n j hlt
            generalize zs.getD (p + 1 + 2 * j) 0 = x at hc1 hq1 HS HC1
            generalize zs.getD (p + 2 + 2 * j) 0 = y at hc2 hq2 HS HC2
            obtain ⟨hcy, hfy, hst, hbt⟩ := ho.store j hlt (orW x y)
            have HST : Hid (Own .i64 3 (wr.setCell ⟨w.heap.size, j, none⟩ (.int .i64 (orW x y))) w.heap.size hi1 (.slice (some ⟨w.heap.size, 0, none⟩) n n) (getWs zs p (j + 1) ++ List.replicate (n - (j + 1)) 0)) := by rw [← HS.out]; exact hst
            have HB : Hid (Below w.heap.size w wr) := hb
            generalize (getWs zs p j ++ List.replicate (n - j) 0).getD j 0 = old at hcy
            have hbn : ¬ b = w.heap.size := by omega
            have hj0 : (0 : Int) ≤ (j : Int) := Int.natCast_nonneg _
            have hj1 : (j : Int) < (n : Int) := by omega
            clear hst hbt ho hb hc hc0
            go_wp2_with fail
            have g2 : IntKind.i64.wrap (2 * (j : Int)) = 2 * (j : Int) := IntWalk.i64_in _ (by omega)
            have g3 : IntKind.i64.wrap (2 * (j : Int) + 1) = 2 * (j : Int) + 1 := IntWalk.i64_in _ (by omega)
            have g4 : (0 : Int) ≤ 2 * (j : Int) := by omega
            have g5 : (0 : Int) ≤ 2 * (j : Int) + 1 := by omega
            have g6 : 2 * (j : Int) < ((lb - (p + 1) : Nat) : Int) := by omega
            have g7 : 2 * (j : Int) + 1 < ((lb - (p + 1) : Nat) : Int) := by omega
            have g8 : (2 * (j : Int)).toNat = 2 * j := by omega
            have g9 : (2 * (j : Int) + 1).toNat = 2 * j + 1 := by omega
            go_region_held3 (fun w' => w'.cell? ⟨b, off + (p + 1) + 2 * j, none⟩ = some (.int .u8 x) ∧ w'.cell? ⟨b, off + (p + 1) + (2 * j + 1), none⟩ = some (.int .u8 y)) (first | (exact ⟨(((HB.out.setCell (p := ⟨w.heap.size, j, none⟩) (Nat.le_refl _) _).drew).cell (p := ⟨b, off + (p + 1) + 2 * j, none⟩) hbl).trans HC1.out, (((HB.out.setCell (p := ⟨w.heap.size, j, none⟩) (Nat.le_refl _) _).drew).cell (p := ⟨b, off + (p + 1) + (2 * j + 1), none⟩) hbl).trans HC2.out⟩) | go_keep) (fail)
            clear g2 g3 g4 g5 g6 g7 g8 g9
            go_wp2
            go_roundw
            case rel => exact ⟨j + 1, by omega, by go_num, HST.out, (HB.out.setCell (p := ⟨w.heap.size, j, none⟩) (Nat.le_refl _) _).drew⟩
            case measure => simp [intOf]; omega
          · go_wp2
            go_ret3
            have e : j = n := by omega
            subst e
            rw [Nat.sub_self, List.replicate_zero, List.append_nil] at ho
            exact ⟨_, rfl, ho.1, hb⟩
    · have hok : getOk zs (p : Int) = false := by
        rw [hok]
        by_cases h : n ≤ 12
        · have h2 : ¬ 2 * (n : Int) ≤ (lb : Int) - p - 1 := fun h' => hC ⟨h, h'⟩
          simp [h2]
        · have h2 : ¬ (n : Int) ≤ 12 := by omega
          simp [h2]
      have hga : getAt zs (p : Int) = 0 := by simp [getAt, hok]
      have hgl : getL zs (p : Int) = [] := by simp [getL, hok]
      simp only [hga, hgl, hok]
      clear hga hgl hok hn
      by_cases hC1 : n ≤ 12
      · have hC2 : ¬ 2 * (n : Int) ≤ (lb : Int) - p - 1 := fun h' => hC ⟨hC1, h'⟩
        clear hC
        go_enter Try.func19, Try.ntmps19
        go_wp2
        all_goals go_ret3
        all_goals exact ⟨_, rfl, hown0, hb0⟩
      · clear hC
        go_enter Try.func19, Try.ntmps19
        go_wp2
        all_goals go_ret3
        all_goals exact ⟨_, rfl, hown0, hb0⟩
  · have hok : getOk zs p = false := by
      unfold getOk
      rw [hz]
      by_cases h : 0 ≤ p
      · have h2 : ¬ p < (lb : Int) := by omega
        simp [h2]
      · simp [h]
    have hga : getAt zs p = 0 := by simp [getAt, hok]
    have hgl : getL zs p = [] := by simp [getL, hok]
    simp only [hga, hgl, hok]
    clear hga hgl hok
    by_cases h0 : 0 ≤ p
    · have h1 : (lb : Int) ≤ p := by omega
      clear hin
      go_enter Try.func19, Try.ntmps19
      go_wp2
      go_ret3
      exact ⟨_, rfl, hown0, hb0⟩
    · clear hin
      go_enter Try.func19, Try.ntmps19
      go_wp2
      go_ret3
      exact ⟨_, rfl, hown0, hb0⟩

end Go.Proofs.Ytmkiljflkndmoaj

/-
  The walks of both GetSec (the program's and the specification's). Conditions: the slice lies within the laws' own bound on its length, and holds bytes.
-/
import Derived.Test.YtmkiljflkndmoajWalkBytes
import Derived.Test.YtmkiljflkndmoajWalkSecOk
namespace Go.Proofs.Ytmkiljflkndmoaj
open Go.RowKit

/-- Whether a sector is read at this place. -/
def getOk (b : List Int) (p : Int) : Bool := decide (0 ≤ p) && decide (p < (b.length : Int)) && decide (b.getD p.toNat 0 ≤ 12) && decide (2 * b.getD p.toNat 0 ≤ (b.length : Int) - p - 1)
/-- A word of two bytes. -/
def orW (h l : Int) : Int := bits BinOp.or IntKind.i64 (h * 256) l
/-- The words that stand behind the place p. -/
def getWs (b : List Int) (p n : Nat) : List Int := (List.range n).map fun i => orW (b.getD (p + 1 + 2 * i) 0) (b.getD (p + 2 + 2 * i) 0)
def getL (b : List Int) (p : Int) : List Int := if getOk b p = true then getWs b p.toNat (b.getD p.toNat 0).toNat else []
def getAt (b : List Int) (p : Int) : Int := if getOk b p = true then p + 1 + 2 * b.getD p.toNat 0 else 0

theorem getWs_succ (b : List Int) (p n : Nat) : getWs b p (n + 1) = getWs b p n ++ [orW (b.getD (p + 1 + 2 * n) 0) (b.getD (p + 2 + 2 * n) 0)] := by
  unfold getWs
  rw [List.range_succ, List.map_append]
  rfl
theorem getWs_length (b : List Int) (p n : Nat) : (getWs b p n).length = n := by simp [getWs]

set_option maxHeartbeats 1600000 in
theorem specGetSec_any (w : World) (a : Option Addr) (lb cb : Nat) (zs : List Int) (p : Int) (hz : zs.length = lb) (hr : Reads .u8 w a zs) (hby : ∀ n ∈ zs, 0 ≤ n ∧ n ≤ 255) (hlb : lb ≤ 2097152) (hp0 : -9223372036854775808 ≤ p) (hp1 : p ≤ 9223372036854775807) :
    Calls Try.prog 18 #[.slice a lb cb, .int .i64 p] w fun e w' => ∃ v', e = .returned (.tuple #[v', .int .i64 (getAt zs p), .bool (getOk zs p)]) ∧ Owns .i64 3 w' w.heap.size v' (getL zs p) ∧ Below w.heap.size w w' := by
  obtain ⟨i0, hi, hz0, hz1, hz2⟩ := info_parts Try.info3
  have hown0 : Owns .i64 3 (w.alloc (.cells #[] 3)) w.heap.size (.slice (some ⟨w.heap.size, 0, none⟩) 0 0) [] := Owns.lit .i64 3 w [] 0 #[] rfl rfl (by unfold maxLen; omega)
  have hb0 : Below w.heap.size w (w.alloc (.cells #[] 3)) := (Below.refl _ _).alloc (Nat.le_refl _) _
  by_cases hin : 0 ≤ p ∧ p < (lb : Int)
  · obtain ⟨h0, h1⟩ := hin
    obtain ⟨p, rfl⟩ := Int.eq_ofNat_of_zero_le h0
    have hI : inB (p : Int) 0 ((lb : Int) - 1) = true := by simp [inB]; omega
    rcases hr.cases with hn | ⟨b, off, rfl, hbl, hc⟩
    · omega
    have hc0 := hc p (by omega)
    have hbp := byte_at hby p
    have hok : getOk zs (p : Int) = (decide (zs.getD p 0 ≤ 12) && decide (2 * zs.getD p 0 ≤ (lb : Int) - p - 1)) := by
      unfold getOk; rw [hz]; simp [h1]
    generalize hn : zs.getD p 0 = n at hc0 hbp hok
    obtain ⟨n, rfl⟩ := Int.eq_ofNat_of_zero_le hbp.1
    by_cases hC : n ≤ 12 ∧ 2 * (n : Int) ≤ (lb : Int) - p - 1
    · obtain ⟨hC1, hC2⟩ := hC
      have hok : getOk zs (p : Int) = true := by rw [hok]; simp; omega
      have hga : getAt zs (p : Int) = (p : Int) + 1 + 2 * (n : Int) := by simp only [getAt, hok, if_true, Int.toNat_natCast, hn]
      have hgl : getL zs (p : Int) = getWs zs p n := by simp only [getL, hok, if_true, Int.toNat_natCast, hn]
      simp only [hga, hgl, hok]
      clear hga hgl hok hn
      go_enter Try.func18, Try.ntmps18
      go_wp2_with (go_at_call 38; refine (l1In_any _ _ _ _).mono ?_; rintro e w' ⟨rfl, hw'⟩; subst w')
      go_loopw [8, 9] (fun o i wr => ∃ j : Nat, j ≤ n ∧ i = .int .i64 j ∧ Owns .i64 3 wr w.heap.size o (getWs zs p j) ∧ Below w.heap.size w wr) (fun _ i _ => n - (intOf i).toNat)
      case atStart => exact ⟨0, Nat.zero_le _, rfl, hown0, hb0⟩
      case round =>
        clear hown0 hb0
        obtain ⟨j, hj, rfl, ho, hb⟩ := hrel
        by_cases hlt : j < n
        · have hc1 : wr.cell? ⟨b, off + (p + 1 + 2 * j), none⟩ = some (.int .u8 (zs.getD (p + 1 + 2 * j) 0)) := (hb.cell (p := ⟨b, off + (p + 1 + 2 * j), none⟩) hbl).trans (hc _ (by omega))
          have hc2 : wr.cell? ⟨b, off + (p + 2 + 2 * j), none⟩ = some (.int .u8 (zs.getD (p + 2 + 2 * j) 0)) := (hb.cell (p := ⟨b, off + (p + 2 + 2 * j), none⟩) hbl).trans (hc _ (by omega))
          have hsz := getWs_length zs p j
          have hq1 := byte_at hby (p + 1 + 2 * j)
          have hq2 := byte_at hby (p + 2 + 2 * j)
          have HS : Hid (getWs zs p (j + 1) = getWs zs p j ++ [orW (zs.getD (p + 1 + 2 * j) 0) (zs.getD (p + 2 + 2 * j) 0)]) := getWs_succ zs p j
          have HC1 : Hid (w.cell? ⟨b, off + (p + 1 + 2 * j), none⟩ = some (.int .u8 (zs.getD (p + 1 + 2 * j) 0))) := hc _ (by omega)
          have HC2 : Hid (w.cell? ⟨b, off + (p + 2 + 2 * j), none⟩ = some (.int .u8 (zs.getD (p + 2 + 2 * j) 0))) := hc _ (by omega)
          generalize zs.getD (p + 1 + 2 * j) 0 = x at hc1 hq1 HS HC1
          generalize zs.getD (p + 2 + 2 * j) 0 = y at hc2 hq2 HS HC2
          have hj0 : (0 : Int) ≤ (j : Int) := Int.natCast_nonneg _
          have hi1 : (p : Int) + 1 + 2 * (j : Int) < (lb : Int) := by omega
          have hi2 : (p : Int) + 2 + 2 * (j : Int) < (lb : Int) := by omega
          have hsw := hb.size
          have HB : Hid (Below w.heap.size w wr) := hb
          have HO : Hid (Owns .i64 3 wr w.heap.size u8 (getWs zs p j)) := ho
          have HN1 : Hid ((getWs zs p j).length + 1 ≤ maxLen) := by unfold Hid maxLen; omega
          have HN2 : Hid (((getWs zs p j).length + 1) * 8 ≤ 140737488355328) := by unfold Hid; omega
          have HC : Hid (#[Value.int IntKind.i64 (bits BinOp.or IntKind.i64 (IntKind.i64.wrap (IntKind.i64.wrap x * 256)) (IntKind.i64.wrap y))] = ([orW x y].map (Value.int .i64)).toArray) := by
            unfold Hid
            rw [IntWalk.i64_in x (by omega), IntWalk.i64_in y (by omega), IntWalk.i64_in (x * 256) (by omega)]
            rfl
          clear hsz hb ho hc hc0
          go_wp2_with fail
          have g1 : IntKind.i64.wrap ((p : Int) + 1) = (p : Int) + 1 := IntWalk.i64_in _ (by omega)
          have g2 : IntKind.i64.wrap (2 * (j : Int)) = 2 * (j : Int) := IntWalk.i64_in _ (by omega)
          have g3 : IntKind.i64.wrap ((p : Int) + 1 + 2 * (j : Int)) = (p : Int) + 1 + 2 * (j : Int) := IntWalk.i64_in _ (by omega)
          have g4 : IntKind.i64.wrap ((p : Int) + 2) = (p : Int) + 2 := IntWalk.i64_in _ (by omega)
          have g5 : IntKind.i64.wrap ((p : Int) + 2 + 2 * (j : Int)) = (p : Int) + 2 + 2 * (j : Int) := IntWalk.i64_in _ (by omega)
          have g6 : (0 : Int) ≤ (p : Int) + 1 + 2 * (j : Int) := by omega
          have g7 : (0 : Int) ≤ (p : Int) + 2 + 2 * (j : Int) := by omega
          have g8 : ((p : Int) + 1 + 2 * (j : Int)).toNat = p + 1 + 2 * j := by omega
          have g9 : ((p : Int) + 2 + 2 * (j : Int)).toNat = p + 2 + 2 * j := by omega
          go_region_held3 (fun w' => w'.cell? ⟨b, off + (p + 1 + 2 * j), none⟩ = some (.int .u8 x) ∧ w'.cell? ⟨b, off + (p + 2 + 2 * j), none⟩ = some (.int .u8 y)) (first | go_keep | (exact ⟨((((HB.out.alloc hsw _).drew).trans hbA).cell (p := ⟨b, off + (p + 1 + 2 * j), none⟩) hbl).trans HC1.out, ((((HB.out.alloc hsw _).drew).trans hbA).cell (p := ⟨b, off + (p + 2 + 2 * j), none⟩) hbl).trans HC2.out⟩))
            ((refine step_app .i64 (by rfl) _ _ 23 (by rfl) w.heap.size 3 i0 _ 8 Try.underlying23 hi hz0 hz1 hz2 rfl u8 (getWs zs p j) (by rfl) ((HO.out.alloc _).drew) ⟨wr.heap.size, 0, none⟩ 1 1 [orW x y] (by rfl) rfl (Reads.new _ _ _ _ _ HC.out).draw (by omega) HN1.out HN2.out (by simp; omega) ?_; intro v' wA hoA hbA))
          have hB : Below w.heap.size w wA := ((HB.out.alloc hsw _).drew).trans hbA
          rw [← HS.out] at hoA
          clear hbA g1 g2 g3 g4 g5 g6 g7 g8 g9
          go_wp2
          go_roundw
          case rel => exact ⟨j + 1, by omega, by go_num, hoA, hB⟩
          case measure => simp [intOf]; omega
        · go_wp2
          go_ret3
          have e : j = n := by omega
          subst e
          exact ⟨_, rfl, ho, hb⟩
    · have hok : getOk zs (p : Int) = false := by
        rw [hok]
        by_cases h : n ≤ 12
        · have h2 : ¬ 2 * (n : Int) ≤ (lb : Int) - p - 1 := fun h' => hC ⟨h, h'⟩
          simp [h2]
        · have h2 : ¬ (n : Int) ≤ 12 := by omega
          simp [h2]
      have hga : getAt zs (p : Int) = 0 := by simp [getAt, hok]
      have hgl : getL zs (p : Int) = [] := by simp [getL, hok]
      simp only [hga, hgl, hok]
      clear hga hgl hok hn
      by_cases hC1 : n ≤ 12
      · have hC2 : ¬ 2 * (n : Int) ≤ (lb : Int) - p - 1 := fun h' => hC ⟨hC1, h'⟩
        clear hC
        go_enter Try.func18, Try.ntmps18
        go_wp2_with (go_at_call 38; refine (l1In_any _ _ _ _).mono ?_; rintro e w' ⟨rfl, hw'⟩; subst w')
        go_ret3
        exact ⟨_, rfl, hown0, hb0⟩
      · clear hC
        go_enter Try.func18, Try.ntmps18
        go_wp2_with (go_at_call 38; refine (l1In_any _ _ _ _).mono ?_; rintro e w' ⟨rfl, hw'⟩; subst w')
        go_ret3
        exact ⟨_, rfl, hown0, hb0⟩
  · have hI : inB p 0 ((lb : Int) - 1) = false := by
      unfold inB
      by_cases h : 0 ≤ p
      · have h2 : ¬ p ≤ (lb : Int) - 1 := by omega
        simp [h2]
      · simp [h]
    have hok : getOk zs p = false := by
      unfold getOk
      rw [hz]
      by_cases h : 0 ≤ p
      · have h2 : ¬ p < (lb : Int) := by omega
        simp [h2]
      · simp [h]
    have hga : getAt zs p = 0 := by simp [getAt, hok]
    have hgl : getL zs p = [] := by simp [getL, hok]
    simp only [hga, hgl, hok]
    clear hga hgl hok
    go_enter Try.func18, Try.ntmps18
    go_wp2_with (go_at_call 38; refine (l1In_any _ _ _ _).mono ?_; rintro e w' ⟨rfl, hw'⟩; subst w')
    go_ret3
    exact ⟨_, rfl, hown0, hb0⟩

end Go.Proofs.Ytmkiljflkndmoaj

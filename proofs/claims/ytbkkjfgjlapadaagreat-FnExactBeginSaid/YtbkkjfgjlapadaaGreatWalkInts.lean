/-
  The walks of the laws' own helpers over slices of int: the copy is the same numbers in memory of its own, and the comparison tells whether two slices read alike. Condition: at most 2097152 elements.
-/
import Derived.Test.YtbkkjfgjlapadaaGreatInfo
namespace Go.Proofs.YtbkkjfgjlapadaaGreat
open Go.RowKit


set_option maxHeartbeats 400000 in
theorem toIntS_any (w : World) (a : Option Addr) (len cap : Nat) (zs : List Int) (hz : zs.length = len) (hr : Reads .i64 w a zs) (hlen : len ≤ 2097152) :
    Calls Tryz.prog 93 #[.slice a len cap] w fun e w' =>
      e = .returned (.slice (some ⟨w.heap.size, 0, none⟩) len len) ∧ Owns .i64 3 w' w.heap.size (.slice (some ⟨w.heap.size, 0, none⟩) len len) zs ∧ Below w.heap.size w w' := by
  obtain ⟨i0, hi, hz0, hz1, hz2⟩ := info_parts Tryz.info3
  have hb3 : i0.bytes * len ≤ 281474976710656 := by rw [hz2]; omega
  have hm3 : len ≤ maxLen := by unfold maxLen; omega
  go_enter Tryz.func93, Tryz.ntmps93
  go_wp2_with (at_make; refine wpList_make_full _ rfl _ _ 36 rfl w.heap.size 3 i0 (.int .i64 0) 1 Tryz.underlying36 hi hz0 hz1 _ _ _ _ len rfl rfl rfl rfl hb3 hm3 (Nat.le_refl _) ?_; intro w1 hown hgrow)
  go_loopw [4] (fun i wr => ∃ j : Nat, j ≤ len ∧ i = .int .i64 j ∧ wr.ownsRow w.heap.size 3 1 (.slice (some ⟨w.heap.size, 0, none⟩) len len) len ((zs.take j ++ List.replicate (len - j) (0 : Int)).map (Value.int .i64)) ∧ Below w.heap.size w wr)
    (fun i _ => len - (intOf i).toNat)
  case atStart => exact ⟨0, Nat.zero_le _, rfl, by rw [made_ints] at hown; simpa using hown, (Below.refl _ _).grown hgrow (Nat.le_refl _) (by simp)⟩
  case round =>
    obtain ⟨j, hj, rfl, ho, hb⟩ := hrel
    by_cases hlt : j < len
    · rcases hr.cases with h0 | ⟨b, off, rfl, hbl, hc⟩
      · omega
      have hcx : wr.cell? ⟨b, off + j, none⟩ = some (.int .i64 (zs.getD j 0)) := (hb.cell (p := ⟨b, off + j, none⟩) hbl).trans (hc j (by omega))
      generalize hx : zs.getD j 0 = x at hcx
      obtain ⟨hcy, hfy, R⟩ := copied_own hx hz hlt ho
      clear hc hown hgrow ho hx
      go_wp2
      go_roundw
      case rel => exact ⟨j + 1, by omega, by go_num, R, hb.setCell (Nat.le_refl _) _⟩
      case measure => simp [intOf]; omega
    · go_wp2
      go_ret
      have e : j = len := by omega
      subst e
      refine ⟨rfl, ?_, hb⟩
      unfold Owns
      rw [hz]
      simpa [List.take_of_length_le (Nat.le_of_eq hz)] using ho

set_option maxHeartbeats 400000 in
theorem eqIntS_any (w : World) (a b : Option Addr) (la lb ca cb : Nat) (xs ys : List Int) (hla : xs.length = la) (hlb : ys.length = lb) (hx : Reads .i64 w a xs) (hy : Reads .i64 w b ys) (hlen : la ≤ 2097152) :
    Calls Tryz.prog 99 #[.slice a la ca, .slice b lb cb] w fun e w' => e = .returned (.bool (decide (xs = ys))) ∧ Same w w' := by
  by_cases hl : la = lb
  · subst hl
    go_enter Tryz.func99, Tryz.ntmps99
    go_wp2
    go_loopw [5] (fun i wr => ∃ j : Nat, j ≤ la ∧ i = .int .i64 j ∧ xs.take j = ys.take j ∧ Same w wr) (fun i _ => la - (intOf i).toNat)
    case atStart => exact ⟨0, Nat.zero_le _, rfl, rfl, Same.refl _⟩
    case round =>
      obtain ⟨j, hj, rfl, ht, hs⟩ := hrel
      by_cases hlt : j < la
      · rcases hx.cases with h0 | ⟨bx, ox, rfl, hbx, hcx⟩
        · omega
        rcases hy.cases with h0 | ⟨bz, oy, rfl, hby, hcy⟩
        · omega
        have hx1 := (hs.cell ⟨bx, ox + j, none⟩).trans (hcx j (by omega))
        have hy1 := (hs.cell ⟨bz, oy + j, none⟩).trans (hcy j (by omega))
        have hd := heads_alike (xs := xs) (ys := ys) (j := j) (by omega) (by omega)
        generalize xs.getD j 0 = x at hx1 hd
        generalize ys.getD j 0 = y at hy1 hd
        have HT : Hid (xs.take j = ys.take j) := ht
        clear hcx hcy ht
        by_cases hxy : x = y
        · subst hxy
          have HD := hd.1 rfl HT.out
          clear hd
          go_wp2
          go_quiet (fail)
          go_wp2
          go_roundw
          case rel => exact ⟨j + 1, by omega, by go_num, HD, hs.drewN _⟩
          case measure => simp [intOf]; omega
        · have hne : (x == y) = false := by simpa using hxy
          have HN := hd.2 hxy
          clear hd
          go_wp2
          go_quiet (fail)
          go_wp2
          go_ret
          exact ⟨ret_bool (by simpa using HN), hs.drewN _⟩
      · go_wp2
        go_ret
        have e : j = la := by omega
        subst e
        rw [List.take_of_length_le (by omega), List.take_of_length_le (by omega)] at ht
        exact ⟨ret_bool (by simp [ht]), hs⟩
  · have hne : ((la : Int) == (lb : Int)) = false := by simp; omega
    go_enter Tryz.func99, Tryz.ntmps99
    go_wp2
    go_ret
    exact ⟨ret_bool (by simp; intro h; apply hl; rw [← hla, ← hlb, h]), Same.refl _⟩



set_option maxHeartbeats 400000 in
theorem sameInts_any (w : World) (a b : Option Addr) (la lb ca cb : Nat) (xs ys : List Int) (hla : xs.length = la) (hlb : ys.length = lb) (hx : Reads .i64 w a xs) (hy : Reads .i64 w b ys) (hlen : la ≤ 2097152) :
    Calls Tryz.prog 56 #[.slice a la ca, .slice b lb cb] w fun e w' => e = .returned (.bool (decide (xs = ys))) ∧ Same w w' := by
  by_cases hl : la = lb
  · subst hl
    go_enter Tryz.func56, Tryz.ntmps56
    go_wp2
    go_loopw [5] (fun i wr => ∃ j : Nat, j ≤ la ∧ i = .int .i64 j ∧ xs.take j = ys.take j ∧ Same w wr) (fun i _ => la - (intOf i).toNat)
    case atStart => exact ⟨0, Nat.zero_le _, rfl, rfl, Same.refl _⟩
    case round =>
      obtain ⟨j, hj, rfl, ht, hs⟩ := hrel
      by_cases hlt : j < la
      · rcases hx.cases with h0 | ⟨bx, ox, rfl, hbx, hcx⟩
        · omega
        rcases hy.cases with h0 | ⟨bz, oy, rfl, hby, hcy⟩
        · omega
        have hx1 := (hs.cell ⟨bx, ox + j, none⟩).trans (hcx j (by omega))
        have hy1 := (hs.cell ⟨bz, oy + j, none⟩).trans (hcy j (by omega))
        have hd := heads_alike (xs := xs) (ys := ys) (j := j) (by omega) (by omega)
        generalize xs.getD j 0 = x at hx1 hd
        generalize ys.getD j 0 = y at hy1 hd
        have HT : Hid (xs.take j = ys.take j) := ht
        clear hcx hcy ht
        by_cases hxy : x = y
        · subst hxy
          have HD := hd.1 rfl HT.out
          clear hd
          go_wp2
          go_quiet (fail)
          go_wp2
          go_roundw
          case rel => exact ⟨j + 1, by omega, by go_num, HD, hs.drewN _⟩
          case measure => simp [intOf]; omega
        · have hne : (x == y) = false := by simpa using hxy
          have HN := hd.2 hxy
          clear hd
          go_wp2
          go_quiet (fail)
          go_wp2
          go_ret
          exact ⟨ret_bool (by simpa using HN), hs.drewN _⟩
      · go_wp2
        go_ret
        have e : j = la := by omega
        subst e
        rw [List.take_of_length_le (by omega), List.take_of_length_le (by omega)] at ht
        exact ⟨ret_bool (by simp [ht]), hs⟩
  · have hne : ((la : Int) == (lb : Int)) = false := by simp; omega
    go_enter Tryz.func56, Tryz.ntmps56
    go_wp2
    go_ret
    exact ⟨ret_bool (by simp; intro h; apply hl; rw [← hla, ← hlb, h]), Same.refl _⟩

end Go.Proofs.YtbkkjfgjlapadaaGreat

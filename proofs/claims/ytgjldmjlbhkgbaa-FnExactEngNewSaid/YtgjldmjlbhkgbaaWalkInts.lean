/-
  The walks of the laws' own helpers over slices of int: the copy is the same numbers in memory of its own, and the comparison tells whether two slices read alike. Condition: at most 2097152 elements.
-/
import Derived.Test.YtgjldmjlbhkgbaaInfo
namespace Go.Proofs.Ytgjldmjlbhkgbaa
open Go.RowKit


set_option maxHeartbeats 400000 in
theorem eqIntS_any (w : World) (a b : Option Addr) (la lb ca cb : Nat) (xs ys : List Int) (hla : xs.length = la) (hlb : ys.length = lb) (hx : Reads .i64 w a xs) (hy : Reads .i64 w b ys) (hlen : la ≤ 2097152) :
    Calls Try.prog 58 #[.slice a la ca, .slice b lb cb] w fun e w' => e = .returned (.bool (decide (xs = ys))) ∧ Same w w' := by
  by_cases hl : la = lb
  · subst hl
    go_enter Try.func58, Try.ntmps58
    go_wp2
    go_loopw [5] (fun i wr => ∃ j : Nat, j ≤ la ∧ i = .int .i64 j ∧ xs.take j = ys.take j ∧ Same w wr) (fun i _ => la - (intOf i).toNat)
    case atStart => exact ⟨0, Nat.zero_le _, rfl, rfl, Same.refl _⟩
    case round =>
      obtain ⟨j, hj, rfl, ht, hs⟩ := hrel
      by_cases hlt : j < la
      · rcases hx.cases with h0 | ⟨bx, ox, rfl, hbx, hcx⟩
        · omega
        rcases hy.cases with h0 | ⟨bz, oy, rfl, hby, hcy⟩
        · omega
        have hx1 := (hs.cell ⟨bx, ox + j, none⟩).trans (hcx j (by omega))
        have hy1 := (hs.cell ⟨bz, oy + j, none⟩).trans (hcy j (by omega))
        have hd := heads_alike (xs := xs) (ys := ys) (j := j) (by omega) (by omega)
        generalize xs.getD j 0 = x at hx1 hd
        generalize ys.getD j 0 = y at hy1 hd
        have HT : Hid (xs.take j = ys.take j) := ht
        clear hcx hcy ht
        by_cases hxy : x = y
        · subst hxy
          have HD := hd.1 rfl HT.out
          clear hd
          go_wp2
          go_quiet (fail)
          go_wp2
          go_roundw
          case rel => exact ⟨j + 1, by omega, by go_num, HD, hs.drewN _⟩
          case measure => simp [intOf]; omega
        · have hne : (x == y) = false := by simpa using hxy
          have HN := hd.2 hxy
          clear hd
          go_wp2
          go_quiet (fail)
          go_wp2
          go_ret
          exact ⟨ret_bool (by simpa using HN), hs.drewN _⟩
      · go_wp2
        go_ret
        have e : j = la := by omega
        subst e
        rw [List.take_of_length_le (by omega), List.take_of_length_le (by omega)] at ht
        exact ⟨ret_bool (by simp [ht]), hs⟩
  · have hne : ((la : Int) == (lb : Int)) = false := by simp; omega
    go_enter Try.func58, Try.ntmps58
    go_wp2
    go_ret
    exact ⟨ret_bool (by simp; intro h; apply hl; rw [← hla, ← hlb, h]), Same.refl _⟩

end Go.Proofs.Ytgjldmjlbhkgbaa

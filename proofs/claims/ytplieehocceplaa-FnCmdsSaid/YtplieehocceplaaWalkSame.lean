/-
  The walks of both SameSec (the program's and the specification's): each answers whether two slices of int read alike. Condition: at most 2097152 elements in the first.
-/
import Derived.Test.YtplieehocceplaaWalkInts
namespace Go.Proofs.Ytplieehocceplaa
open Go.RowKit


set_option maxHeartbeats 400000 in
theorem equal_any (w : World) (a b : Option Addr) (la lb ca cb : Nat) (xs ys : List Int) (hla : xs.length = la) (hlb : ys.length = lb) (hx : Reads .i64 w a xs) (hy : Reads .i64 w b ys) (hlen : la ≤ 2097152) :
    Calls Try.prog 60 #[.slice a la ca, .slice b lb cb] w fun e w' => e = .returned (.bool (decide (xs = ys))) ∧ Same w w' := by
  by_cases hl : la = lb
  · subst hl
    go_enter Try.func60, Try.ntmps60
    go_wp2
    go_loopw [13] (fun i wr => ∃ j : Nat, j ≤ la ∧ i = .int .i64 j ∧ xs.take j = ys.take j ∧ Same w wr) (fun i _ => la - (intOf i).toNat)
    case atStart => exact ⟨0, Nat.zero_le _, rfl, rfl, Same.refl _⟩
    case round =>
      obtain ⟨j, hj, rfl, ht, hs⟩ := hrel
      by_cases hlt : j < la
      · rcases hx.cases with h0 | ⟨bx, ox, rfl, hbx, hcx⟩
        · omega
        rcases hy.cases with h0 | ⟨bz, oy, rfl, hby, hcy⟩
        · omega
        have hx1 := (hs.cell ⟨bx, ox + j, none⟩).trans (hcx j (by omega))
        have hy1 := (hs.cell ⟨bz, oy + j, none⟩).trans (hcy j (by omega))
        have hd := heads_alike (xs := xs) (ys := ys) (j := j) (by omega) (by omega)
        generalize xs.getD j 0 = x at hx1 hd
        generalize ys.getD j 0 = y at hy1 hd
        have HT : Hid (xs.take j = ys.take j) := ht
        clear hcx hcy ht
        by_cases hxy : x = y
        · subst hxy
          have HD := hd.1 rfl HT.out
          clear hd
          go_wp2
          go_quiet (fail)
          go_wp2
          go_roundw
          case rel => exact ⟨j + 1, by omega, by go_num, HD, hs.drewN _⟩
          case measure => simp [intOf]; omega
        · have hne : (x == y) = false := by simpa using hxy
          have HN := hd.2 hxy
          clear hd
          go_wp2
          go_quiet (fail)
          go_wp2
          go_ret
          exact ⟨ret_bool (by simpa using HN), hs.drewN _⟩
      · go_wp2
        go_ret
        have e : j = la := by omega
        subst e
        rw [List.take_of_length_le (by omega), List.take_of_length_le (by omega)] at ht
        exact ⟨ret_bool (by simp [ht]), hs⟩
  · have hne : ((la : Int) == (lb : Int)) = false := by simp; omega
    go_enter Try.func60, Try.ntmps60
    go_wp2
    go_ret
    exact ⟨ret_bool (by simp; intro h; apply hl; rw [← hla, ← hlb, h]), Same.refl _⟩

theorem implSameSec_any (w : World) (a b : Option Addr) (la lb ca cb : Nat) (xs ys : List Int) (hla : xs.length = la) (hlb : ys.length = lb) (hx : Reads .i64 w a xs) (hy : Reads .i64 w b ys) (hlen : la ≤ 2097152) :
    Calls Try.prog 42 #[.slice a la ca, .slice b lb cb] w fun e w' => e = .returned (.bool (decide (xs = ys))) ∧ Same w w' := by
  go_enter Try.func42, Try.ntmps42
  go_wp2_with fail
  refine (equal_any _ _ _ _ _ _ _ xs ys hla hlb hx hy hlen).mono ?_
  rintro e w1 ⟨rfl, hs⟩
  go_wp2
  go_ret
  exact ⟨rfl, hs⟩

end Go.Proofs.Ytplieehocceplaa

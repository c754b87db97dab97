/-
  The walks of the laws' helpers that mark a slice (each place gets the next number) and ask whether the marks are held. Conditions: at most 2097152 elements, and the first number between 0 and 16777216.
-/
import Derived.Test.YtbkkjfgjlapadaaGreatWalkInts
namespace Go.Proofs.YtbkkjfgjlapadaaGreat
open Go.RowKit

set_option maxHeartbeats 400000 in
theorem markIntS_any (w : World) (lo hi : Nat) (a : Option Addr) (len cap : Nat) (zs : List Int) (k0 : Int) (h : Own .i64 3 w lo hi (.slice a len cap) zs) (hlen : len ≤ 2097152) (hk : 0 ≤ k0) (hk' : k0 ≤ 16777216) :
    Calls Tryz.prog 105 #[.slice a len cap, .int .i64 k0] w fun e w' =>
      e = .returned (.int .i64 (k0 + len)) ∧ Own .i64 3 w' lo hi (.slice a len cap) (marks id k0 len) ∧ But lo hi w w' := by
  have hz := h.length
  go_enter Tryz.func105, Tryz.ntmps105
  go_wp2
  go_loopw [1, 5] (fun kk i wr => ∃ j : Nat, j ≤ len ∧ i = .int .i64 j ∧ kk = .int .i64 (k0 + j) ∧ Own .i64 3 wr lo hi (.slice a len cap) (marks id k0 j ++ zs.drop j) ∧ But lo hi w wr)
    (fun _ i _ => len - (intOf i).toNat)
  case atStart => exact ⟨0, Nat.zero_le _, rfl, by simp, by simpa [marks] using h, But.refl _ _ _⟩
  case round =>
    obtain ⟨j, hj, rfl, rfl, ho, hb⟩ := hrel
    by_cases hlt : j < len
    · rcases h.cases with h0 | ⟨g, rfl, hg1, hg2⟩
      · omega
      obtain ⟨hc, hf, hst, hbt⟩ := ho.store j hlt (k0 + j)
      have R := marks_step id k0 zs j (by omega)
      simp only [id] at R
      rw [R] at hst
      have HS : Hid (Own .i64 3 (wr.setCell ⟨g, j, none⟩ (.int .i64 (k0 + j))) lo hi (.slice (some ⟨g, 0, none⟩) len cap) (marks id k0 (j + 1) ++ zs.drop (j + 1))) := hst
      have HB : Hid (But lo hi wr (wr.setCell ⟨g, j, none⟩ (.int .i64 (k0 + j)))) := hbt
      clear hst hbt R ho
      generalize (marks id k0 j ++ zs.drop j).getD j 0 = x at hc
      go_wp2
      go_roundw
      case rel => exact ⟨j + 1, by omega, by go_num, by go_num, HS.out, hb.trans HB.out⟩
      case measure => simp [intOf]; omega
    · go_wp2
      go_ret
      have e : j = len := by omega
      subst e
      rw [List.drop_of_length_le (by omega), List.append_nil] at ho
      exact ⟨rfl, ho, hb⟩

set_option maxHeartbeats 400000 in
theorem heldIntS_any (w : World) (a : Option Addr) (len cap : Nat) (k0 : Int) (h : Reads .i64 w a (marks id k0 len)) (hlen : len ≤ 2097152) (hk : 0 ≤ k0) (hk' : k0 ≤ 16777216) :
    Calls Tryz.prog 183 #[.slice a len cap, .int .i64 k0] w fun e w' => e = .returned (.int .i64 (k0 + len)) ∧ Same w w' := by
  go_enter Tryz.func183, Tryz.ntmps183
  go_wp2
  go_loop [1, 5] (fun kk i => ∃ j : Nat, j ≤ len ∧ i = .int .i64 j ∧ kk = .int .i64 (k0 + j)) (fun _ i => len - (intOf i).toNat)
  case atStart => exact ⟨0, Nat.zero_le _, rfl, by simp⟩
  case round =>
    obtain ⟨j, hj, rfl, rfl⟩ := hrel
    by_cases hlt : j < len
    · rcases h.cases with h0 | ⟨b, off, rfl, hbl, hc⟩
      · rw [marks_length] at h0; omega
      have hc1 := hc j (by rw [marks_length]; exact hlt)
      rw [marks_getD _ _ _ _ hlt] at hc1
      simp only [id] at hc1
      clear hc
      go_wp2
      go_round
      case rel => exact ⟨j + 1, by omega, by go_num, by go_num⟩
      case measure => simp [intOf]; omega
    · go_wp2
      go_ret
      have e : j = len := by omega
      subst e
      exact ⟨rfl, Same.refl _⟩

end Go.Proofs.YtbkkjfgjlapadaaGreat

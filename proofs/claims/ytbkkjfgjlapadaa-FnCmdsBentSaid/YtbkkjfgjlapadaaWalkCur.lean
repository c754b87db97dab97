/-
  The walks of the specification's cursor over the bytes of a draw: making one, the next byte, a number below another, one of a list. Condition: at most 2097152 bytes.
-/
import Derived.Test.YtbkkjfgjlapadaaInfo
namespace Go.Proofs.Ytbkkjfgjlapadaa
open Go.RowKit

/-- The cursor in block g: the bytes, how many of them are used, and a number that is mixed. -/
def Cur (w : World) (g : Nat) (a : Option Addr) (lb cb : Nat) : Prop :=
  ∃ (i : Nat) (h : Int), i ≤ lb ∧ w.heap[g]? = some (.cells #[.slice a lb cb, .int .i64 i, .int .i64 h] 59 (0, 0))

theorem Cur.lt {w : World} {g lb cb : Nat} {a : Option Addr} (h : Cur w g a lb cb) : g < w.heap.size := by
  obtain ⟨_, _, _, hg⟩ := h
  exact (Array.getElem?_eq_some_iff.1 hg).1

theorem Cur.but {w w' : World} {g lb cb l h' : Nat} {a : Option Addr} (h : Cur w g a lb cb) (hb : But l h' w w') (hd : g < l ∨ h' ≤ g) : Cur w' g a lb cb := by
  have hlt := h.lt
  obtain ⟨i, x, hi, hg⟩ := h
  exact ⟨i, x, hi, by rw [hb.block g hlt hd]; exact hg⟩

theorem Cur.below {w w' : World} {g lb cb : Nat} {a : Option Addr} (h : Cur w g a lb cb) (hb : Below w.heap.size w w') : Cur w' g a lb cb := by
  have hlt := h.lt
  obtain ⟨i, x, hi, hg⟩ := h
  exact ⟨i, x, hi, by rw [hb.block g hlt]; exact hg⟩

theorem i64_and255 (n : Int) : bits .and .i64 n 255 = n % 256 := by
  have h255 : (BitVec.ofInt 64 255).toNat = 2 ^ 8 - 1 := by decide
  have key : (BitVec.ofInt 64 n &&& BitVec.ofInt 64 255).toNat = (n % ((2 ^ 64 : Nat) : Int)).toNat % 2 ^ 8 := by
    rw [BitVec.toNat_and, BitVec.toNat_ofInt, h255, Nat.and_two_pow_sub_one_eq_mod]
  show IntKind.i64.wrap ((BitVec.ofInt 64 n &&& BitVec.ofInt 64 255).toNat : Nat) = n % 256
  rw [key, IntKind.wrap_i64]
  omega

theorem cur_mixed {w : World} {g lb cb i : Nat} {a : Option Addr} {h : Int} (hi : i ≤ lb) (hg : w.heap[g]? = some (.cells #[.slice a lb cb, .int .i64 i, .int .i64 h] 59 (0, 0))) (h' : Int) (n m : Nat) :
    Cur (((w.setCell ⟨g, 2, none⟩ (.int .i64 h')).drewN n).drewN m) g a lb cb := ⟨i, h', hi, heap_setCell_same w g 2 _ _ _ hg⟩
theorem cur_used {w : World} {g lb cb i : Nat} {a : Option Addr} {h : Int} (hi : i < lb) (hg : w.heap[g]? = some (.cells #[.slice a lb cb, .int .i64 i, .int .i64 h] 59 (0, 0))) (h' : Int) (n : Nat) :
    Cur (((w.setCell ⟨g, 2, none⟩ (.int .i64 h')).drewN n).setCell ⟨g, 1, none⟩ (.int .i64 ((i : Int) + 1))) g a lb cb := by
  have h1 : (((w.setCell ⟨g, 2, none⟩ (.int .i64 h')).drewN n)).heap[g]? = some (.cells #[.slice a lb cb, .int .i64 i, .int .i64 h'] 59 (0, 0)) := heap_setCell_same w g 2 _ _ _ hg
  exact ⟨i + 1, h', by omega, heap_setCell_same _ g 1 _ _ _ h1⟩

set_option maxHeartbeats 1600000 in
theorem l1Byte_any (w : World) (g : Nat) (a : Option Addr) (lb cb : Nat) (zs : List Int) (hc : Cur w g a lb cb) (hz : zs.length = lb) (hr : Reads .u8 w a zs) (hby : ∀ n ∈ zs, 0 ≤ n ∧ n ≤ 255) (hlb : lb ≤ 2097152) (ha : 0 < lb → ∀ x, a = some x → x.block < g) :
    Calls Try.prog 48 #[.pointer (some ⟨g, 0, none⟩)] w fun e w' => ∃ x : Int, e = .returned (.int .i64 x) ∧ 0 ≤ x ∧ x ≤ 255 ∧ Cur w' g a lb cb ∧ But g (g + 1) w w' := by
  obtain ⟨i, h, hi, hg⟩ := hc
  have hc0 : w.cell? ⟨g, 0, none⟩ = some (.slice a lb cb) := by rw [cell_of_row w g 0 _ _ _ hg]; rfl
  have hc1 : w.cell? ⟨g, 1, none⟩ = some (.int .i64 i) := by rw [cell_of_row w g 1 _ _ _ hg]; rfl
  have hc2 : w.cell? ⟨g, 2, none⟩ = some (.int .i64 h) := by rw [cell_of_row w g 2 _ _ _ hg]; rfl
  have hf1 : w.frozen? ⟨g, 1, none⟩ = false := frozen_of_row w g 1 _ _ hg
  have hf2 : w.frozen? ⟨g, 2, none⟩ = false := frozen_of_row w g 2 _ _ hg
  have HG : Hid (w.heap[g]? = some (.cells #[.slice a lb cb, .int .i64 i, .int .i64 h] 59 (0, 0))) := hg
  clear hg
  by_cases hlt : i < lb
  · rcases hr.cases with h0 | ⟨b, off, rfl, hbl, hcz⟩
    · omega
    have hbg : b < g := ha (by omega) _ rfl
    have hcx := hcz i (by omega)
    have hbx := byte_at hby i
    generalize zs.getD i 0 = y at hcx hbx
    clear hcz
    go_enter Try.func48, Try.ntmps48
    go_wp2
    go_quiet (fail)
    go_wp2
    go_quiet (fail)
    go_wp2
    go_quiet (fail)
    go_wp2
    go_ret
    exact ⟨_, rfl, by rw [i64_and255]; omega, by rw [i64_and255]; omega, cur_used hlt HG.out _ _, ((But.setCell (Nat.le_refl _) (by omega) _).drewN _).trans (But.setCell (Nat.le_refl _) (by omega) _)⟩
  · go_enter Try.func48, Try.ntmps48
    go_wp2
    go_quiet (fail)
    go_wp2
    go_quiet (fail)
    go_wp2
    go_ret
    exact ⟨_, rfl, by rw [i64_and255]; omega, by rw [i64_and255]; omega, cur_mixed hi HG.out _ _ _, ((But.setCell (Nat.le_refl _) (by omega) _).drewN _).drewN _⟩

set_option maxHeartbeats 1600000 in
theorem l1New_any (w : World) (a : Option Addr) (lb cb : Nat) (zs : List Int) (hz : zs.length = lb) (hr : Reads .u8 w a zs) (hlb : lb ≤ 2097152) :
    Calls Try.prog 21 #[.slice a lb cb] w fun e w' => e = .returned (.pointer (some ⟨w.heap.size, 0, none⟩)) ∧ Cur w' w.heap.size a lb cb ∧ Below w.heap.size w w' := by
  go_enter Try.func21, Try.ntmps21
  go_wp2
  go_loop [3, 4] (fun h i => ∃ (j : Nat) (x : Int), j ≤ lb ∧ i = .int .i64 j ∧ h = .int .i64 x) (fun _ i => lb - (intOf i).toNat)
  case atStart => exact ⟨0, _, Nat.zero_le _, rfl, rfl⟩
  case round =>
    obtain ⟨j, x, hj, rfl, rfl⟩ := hrel
    by_cases hlt : j < lb
    · by_cases h4 : (j : Int) < 4000
      · rcases hr.cases with h0 | ⟨b, off, rfl, hbl, hc⟩
        · omega
        have hc1 := hc j (by omega)
        generalize zs.getD j 0 = y at hc1
        clear hc
        go_wp2
        go_round
        case rel => exact ⟨j + 1, _, by omega, by go_num, rfl⟩
        case measure => simp [intOf]; omega
      · go_wp2
        go_ret
        exact ⟨rfl, ⟨0, _, Nat.zero_le _, heap_alloc_new w _⟩, (Below.refl _ _).alloc (Nat.le_refl _) _⟩
    · go_wp2
      go_ret
      exact ⟨rfl, ⟨0, _, Nat.zero_le _, heap_alloc_new w _⟩, (Below.refl _ _).alloc (Nat.le_refl _) _⟩

set_option maxHeartbeats 1600000 in
theorem l1Below_any (w : World) (g : Nat) (a : Option Addr) (lb cb : Nat) (zs : List Int) (n : Int) (hc : Cur w g a lb cb) (hz : zs.length = lb) (hr : Reads .u8 w a zs) (hby : ∀ n ∈ zs, 0 ≤ n ∧ n ≤ 255) (hlb : lb ≤ 2097152) (ha : 0 < lb → ∀ x, a = some x → x.block < g) (hn : 0 ≤ n) (hn' : n ≤ 256) :
    Calls Try.prog 41 #[.pointer (some ⟨g, 0, none⟩), .int .i64 n] w fun e w' => ∃ x : Int, e = .returned (.int .i64 x) ∧ 0 ≤ x ∧ (x < n ∨ x = 0) ∧ Cur w' g a lb cb ∧ But g (g + 1) w w' := by
  by_cases h0 : n = 0
  · subst h0
    go_enter Try.func41, Try.ntmps41
    go_wp2
    go_ret
    exact ⟨_, rfl, by omega, by omega, hc, But.refl _ _ _⟩
  · have h1 : 1 ≤ n := by omega
    go_enter Try.func41, Try.ntmps41
    go_wp2_with fail
    refine (l1Byte_any _ g a lb cb zs hc hz hr hby hlb ha).mono ?_
    rintro e w1 ⟨x, rfl, hx0, hx1, hc1, hb1⟩
    go_wp2
    go_ret
    exact ⟨_, rfl, Int.emod_nonneg _ (by omega), .inl (Int.emod_lt_of_pos _ (by omega)), hc1, hb1⟩

set_option maxHeartbeats 1600000 in
theorem l1Int_any (w : World) (g : Nat) (a : Option Addr) (lb cb : Nat) (zs : List Int) (la : Option Addr) (ll lc : Nat) (ls : List Int) (hc : Cur w g a lb cb) (hz : zs.length = lb) (hr : Reads .u8 w a zs) (hby : ∀ n ∈ zs, 0 ≤ n ∧ n ≤ 255) (hlb : lb ≤ 2097152) (ha : 0 < lb → ∀ x, a = some x → x.block < g)
    (hl : ls.length = ll) (hlr : Reads .i64 w la ls) (hla : ∀ x, la = some x → g + 1 ≤ x.block) (h1 : 1 ≤ ll) (h2 : ll ≤ 256) :
    Calls Try.prog 42 #[.pointer (some ⟨g, 0, none⟩), .slice la ll lc] w fun e w' => ∃ x : Int, e = .returned (.int .i64 x) ∧ x ∈ ls ∧ Cur w' g a lb cb ∧ But g (g + 1) w w' := by
  rcases hlr.cases with h0 | ⟨b, off, rfl, hbl, hcs⟩
  · omega
  have hbg : g + 1 ≤ b := hla _ rfl
  go_enter Try.func42, Try.ntmps42
  go_wp2_with fail
  refine (l1Below_any _ g a lb cb zs _ hc hz hr hby hlb ha (by omega) (by omega)).mono ?_
  rintro e w1 ⟨x, rfl, hx0, hx1, hc1, hb1⟩
  obtain ⟨x, rfl⟩ := Int.eq_ofNat_of_zero_le hx0
  have hxl : x < ll := by omega
  have hcx : w1.cell? ⟨b, off + x, none⟩ = some (.int .i64 (ls.getD x 0)) := by
    rw [World.cell?_of_block (w := w) (hb1.block b hbl (.inr hbg))]
    exact hcs x (by omega)
  have HM : Hid (ls.getD x 0 ∈ ls) := by
    unfold Hid
    rw [List.getD_eq_getElem?_getD, List.getElem?_eq_getElem (by omega)]
    exact List.getElem_mem _
  generalize ls.getD x 0 = y at hcx HM
  clear hcs
  go_wp2
  go_ret
  exact ⟨_, rfl, HM.out, hc1, hb1⟩

end Go.Proofs.Ytbkkjfgjlapadaa

/-
  The walks of the specification's DrawXorOf and DrawSameSec: some numbers, at most thirteen of them, in memory of their own. Condition: at most 2097152 bytes to draw from.
-/
import Derived.Test.YtmkiljflkndmoaaWalkDraw2
namespace Go.Proofs.Ytmkiljflkndmoaa
open Go.RowKit

theorem Own.under {k : IntKind} {E : TypeId} {w w' : World} {lo hi N : Nat} {v : Value} {zs : List Int} (h : Own k E w lo hi v zs) (hb : Below N w w') (hN : hi ≤ N) : Own k E w' lo hi v zs := by
  refine ⟨⟨h.1.1, ?_⟩, h.2⟩
  rcases h.1.2 with h2 | ⟨g, cap, cur, hv, hbg, hg, r⟩
  · exact .inl h2
  · have hhi : g < hi := h.2 g (by rw [hv]; rfl)
    exact .inr ⟨g, cap, cur, hv, hbg, by rw [hb.block g (by omega)]; exact hg, r⟩

theorem l1Once_any {w : World} {g lb cb : Nat} {a : Option Addr} {zs : List Int} (h : Draws w g a lb cb zs) (n : Int) (hn : 0 ≤ n) (hn' : n ≤ 256) :
    Calls Try.prog 61 #[.pointer (some ⟨g, 0, none⟩), .int .i64 n] w fun e w' => ∃ b : Bool, e = .returned (.bool b) ∧ Draws w' g a lb cb zs ∧ But g (g + 1) w w' := by
  go_enter Try.func61, Try.ntmps61
  go_wp2_with fail
  refine (dBelow h n hn hn').mono ?_
  rintro e w1 ⟨x, rfl, _, _, D1, b1⟩
  go_wp2
  go_ret
  exact ⟨_, rfl, D1, b1⟩

theorem drawXorOf_any (w : World) (a : Option Addr) (lb cb : Nat) (zs : List Int) (hz : zs.length = lb) (hr : Reads .u8 w a zs) (hby : ∀ n ∈ zs, 0 ≤ n ∧ n ≤ 255) (hlb : lb ≤ 2097152) :
    Calls Try.prog 18 #[.slice a lb cb] w fun e w' => ∃ (v : Value) (xs : List Int), e = .returned v ∧ xs.length ≤ 13 ∧ Owns .i64 3 w' w.heap.size v xs ∧ Below w.heap.size w w' := by
  go_enter Try.func18, Try.ntmps18
  go_wp2_with fail
  refine (l1New_any _ _ _ _ zs hz hr hlb).mono ?_
  rintro e w1 ⟨rfl, hc1, hb1⟩
  have D1 : Draws w1 w.heap.size a lb cb zs := ⟨hc1, hz, hr.below hb1, hby, hlb, hr.ahead hz⟩
  clear hc1
  go_wp2_with fail
  refine (l1Any_any D1).mono ?_
  rintro e w2 ⟨v, xs, rfl, hl, ho, D2, b2⟩
  have s1 := D1.lt
  go_wp2
  go_ret
  exact ⟨_, xs, rfl, hl, ho.lower (by omega), Below.andBut hb1 b2 (Nat.le_refl _)⟩

set_option maxHeartbeats 3200000 in
theorem drawSameSec_any (w : World) (a : Option Addr) (lb cb : Nat) (zs : List Int) (hz : zs.length = lb) (hr : Reads .u8 w a zs) (hby : ∀ n ∈ zs, 0 ≤ n ∧ n ≤ 255) (hlb : lb ≤ 2097152) :
    Calls Try.prog 21 #[.slice a lb cb] w fun e w' => ∃ (u v : Value) (xs ys : List Int), e = .returned (.tuple #[u, v]) ∧ xs.length ≤ 13 ∧ ys.length ≤ 13 ∧ Owns .i64 3 w' w.heap.size u xs ∧ Owns .i64 3 w' w.heap.size v ys ∧ Below w.heap.size w w' := by
  obtain ⟨i0, hi, hz0, hz1, hz2⟩ := info_parts Try.info3
  go_enter Try.func21, Try.ntmps21
  go_wp2_with fail
  refine (l1New_any _ _ _ _ zs hz hr hlb).mono ?_
  rintro e w1 ⟨rfl, hc1, hb1⟩
  have D1 : Draws w1 w.heap.size a lb cb zs := ⟨hc1, hz, hr.below hb1, hby, hlb, hr.ahead hz⟩
  clear hc1
  go_wp2_with fail
  refine (l1Any_any D1).mono ?_
  rintro e w2 ⟨v, xs, rfl, hl, ho, D2, b2⟩
  have s1 := D1.lt
  have B2 := Below.andBut hb1 b2 (Nat.le_refl _)
  have s2 := D2.lt
  have s12 := b2.size
  clear hb1 b2 D1
  go_wp2_with fail
  refine (l1Once_any D2 2 (by omega) (by omega)).mono ?_
  rintro e w3 ⟨b, rfl, D3, b3⟩
  have O3 := ho.but b3 (by omega)
  have B3 := Below.andBut B2 b3 (Nat.le_refl _)
  have s3 := b3.size
  clear ho B2 b3 D2
  cases b
  · obtain ⟨av, cv, hv, _, _⟩ := O3.shape
    subst hv
    go_wp2_with fail
    refine (l1Any_any D3).mono ?_
    rintro e w4 ⟨v4, ys, rfl, hl4, ho4, D4, b4⟩
    have O4 := O3.but b4 (by omega)
    have B4 := Below.andBut B3 b4 (Nat.le_refl _)
    obtain ⟨aw, cw, hw, _, _⟩ := ho4.shape
    subst hw
    clear O3 B3 b4 D3 D4
    go_wp2
    refine bodyPost_ret (v := .tuple #[.slice av xs.length cv, .slice aw ys.length cw]) (by simp [results, Try.results21, go_sem]) rfl ?_
    exact ⟨_, _, xs, ys, rfl, hl, hl4, O4.lower (by omega), ho4.lower (by omega), B4⟩
  · have hO : Owns .i64 3 (w3.alloc (.cells #[] 3)) w3.heap.size (.slice (some ⟨w3.heap.size, 0, none⟩) 0 0) [] := Owns.lit .i64 3 w3 [] 0 #[] rfl rfl (by unfold maxLen; omega)
    have O4 := O3.alloc (.cells #[] 3)
    have B4 := B3.alloc B3.size (.cells #[] 3)
    rcases O3.2 with ⟨hv, hn⟩ | ⟨g, cap, cur, hv, _⟩
    · subst hv
      have hx0 : xs = [] := List.eq_nil_of_length_eq_zero hn
      subst hx0
      go_wp2_with (at_builtin; refine wpList_append_own_none rfl _ _ 24 rfl w3.heap.size 3 i0 1 Try.underlying24 hi _ 0 [] rfl hO rfl ?_)
      refine bodyPost_ret (v := .tuple #[.slice none 0 0, .slice (some ⟨w3.heap.size, 0, none⟩) 0 0]) (by simp [results, Try.results21, go_sem]) rfl ?_
      exact ⟨_, _, [], [], rfl, by simp, by simp, O4.lower (by omega), hO.lower (by omega), B4⟩
    · subst hv
      have R4 := O4.reads
      go_wp2_with (at_builtin; refine wpList_app .i64 rfl _ _ 24 rfl w3.heap.size 3 i0 (.int .i64 0) 8 Try.underlying24 hi hz0 hz1 hz2 rfl _ [] rfl hO ⟨g, 0, none⟩ xs.length cap xs rfl rfl R4 (by unfold maxLen; simp; omega) (by simp; omega) (by simp) ?_; intro v' w5 ho5 hb5; obtain ⟨a5, c5, hv5, _⟩ := ho5.shape; rw [List.nil_append] at ho5 hv5; subst hv5)
      refine bodyPost_ret (v := .tuple #[.slice (some ⟨g, 0, none⟩) xs.length cap, .slice a5 xs.length c5]) (by simp [results, Try.results21, go_sem]) rfl ?_
      have O5 := ((O3.own.below ((Below.refl _ _).alloc (Nat.le_refl _) _)).under hb5 (Nat.le_refl _)).1
      exact ⟨_, _, xs, xs, rfl, hl, hl, O5.lower (by omega), ho5.lower (by omega), B4.trans (hb5.mono B3.size)⟩

end Go.Proofs.Ytmkiljflkndmoaa

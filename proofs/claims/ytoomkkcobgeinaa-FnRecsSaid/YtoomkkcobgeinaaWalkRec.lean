/-
  A record is two numbers and a slice of them; both looks whether it is right (the program's and the specification's) answer as the definition here says, and the laws' helpers over one record: its weight, its copy, whether two are the same, its marks. Conditions: at most 2097152 words (1048576 for a copy).
-/
import Derived.Test.YtoomkkcobgeinaaWalkEq
import Derived.Test.YtoomkkcobgeinaaWalkMark
import Derived.Test.YtoomkkcobgeinaaWalkSecOk
import Derived.Test.YtoomkkcobgeinaaBox
namespace Go.Proofs.Ytoomkkcobgeinaa
open Go.RowKit

def recB (x y : Int) (zs : List Int) : Bool := inB x 0 60000 && (inB y 0 7 && (inB (zs.length : Int) 2 4 && allW zs))
theorem recB_x {x y : Int} {zs : List Int} (h : inB x 0 60000 = false) : recB x y zs = false := by unfold recB; rw [h]; rfl
theorem recB_y {x y : Int} {zs : List Int} (h : inB y 0 7 = false) : recB x y zs = false := by unfold recB; rw [h]; simp
theorem recB_n {x y : Int} {zs : List Int} (h : inB (zs.length : Int) 2 4 = false) : recB x y zs = false := by unfold recB; rw [h]; simp
theorem recB_w {x y : Int} {zs : List Int} (h1 : inB x 0 60000 = true) (h2 : inB y 0 7 = true) (h3 : inB (zs.length : Int) 2 4 = true) : recB x y zs = allW zs := by unfold recB; rw [h1, h2, h3]; rfl
theorem recB_of {x y : Int} {zs : List Int} : recB x y zs = true ↔ (0 ≤ x ∧ x ≤ 60000) ∧ (0 ≤ y ∧ y ≤ 7) ∧ (2 ≤ zs.length ∧ zs.length ≤ 4) ∧ allW zs = true := by
  unfold recB inB
  simp only [Bool.and_eq_true, decide_eq_true_eq]
  constructor
  · rintro ⟨h1, h2, h3, h4⟩
    exact ⟨h1, h2, by omega, h4⟩
  · rintro ⟨h1, h2, h3, h4⟩
    exact ⟨h1, h2, by omega, h4⟩
theorem secB_short {zs : List Int} (h : inB (zs.length : Int) 2 4 = true) : secB zs = allW zs := by
  unfold inB at h
  simp at h
  unfold secB
  rw [decide_eq_true (by omega)]
  rfl
theorem Box.cells3 {w : World} {B : Nat} {T : TypeId} {v0 v1 v2 : Value} (h : Box w B T #[v0, v1, v2]) : w.cell? ⟨B, 0, none⟩ = some v0 ∧ w.cell? ⟨B, 1, none⟩ = some v1 ∧ w.cell? ⟨B, 2, none⟩ = some v2 := ⟨h.cell 0, h.cell 1, h.cell 2⟩

set_option maxHeartbeats 1600000 in
theorem specRecOk_any (w : World) (x y : Int) (a : Option Addr) (n cap : Nat) (zs : List Int) (hz : zs.length = n) (hr : Reads .i64 w a zs) (hn : n ≤ 2097152) :
    Calls Try.prog 24 #[.agg #[.int .i64 x, .int .i64 y, .slice a n cap]] w fun e w' => e = .returned (.bool (recB x y zs)) ∧ Below w.heap.size w w' := by
  have hA := new_below w (.cells #[.int .i64 x, .int .i64 y, .slice a n cap] 26)
  have hr' := hr.below hA
  subst hz
  go_enter Try.func24, Try.ntmps24
  go_wp2_with fail
  refine (l1In_any _ _ _ _).mono ?_
  rintro e w1 ⟨rfl, rfl⟩
  cases hx : inB x 0 60000
  · go_wp2
    go_ret
    exact ⟨ret_bool (recB_x hx).symm, hA⟩
  · go_wp2_with fail
    refine (l1In_any _ _ _ _).mono ?_
    rintro e w1 ⟨rfl, rfl⟩
    cases hy : inB y 0 7
    · go_wp2
      go_ret
      exact ⟨ret_bool (recB_y hy).symm, hA⟩
    · go_wp2_with fail
      refine (l1In_any _ _ _ _).mono ?_
      rintro e w1 ⟨rfl, rfl⟩
      cases hl : inB (zs.length : Int) 2 4
      · go_wp2
        go_ret
        exact ⟨ret_bool (recB_n hl).symm, hA⟩
      · go_wp2_with fail
        refine (l1Words_any _ _ _ _ zs rfl hr' hn).mono ?_
        rintro e w1 ⟨rfl, rfl⟩
        go_wp2
        go_ret
        exact ⟨ret_bool (recB_w hx hy hl).symm, hA⟩

set_option maxHeartbeats 1600000 in
theorem implRecOk_any (w : World) (x y : Int) (a : Option Addr) (n cap : Nat) (zs : List Int) (hz : zs.length = n) (hr : Reads .i64 w a zs) (hn : n ≤ 2097152) :
    Calls Try.prog 17 #[.agg #[.int .i64 x, .int .i64 y, .slice a n cap]] w fun e w' => e = .returned (.bool (recB x y zs)) ∧ Below w.heap.size w w' := by
  have hA := new_below w (.cells #[.int .i64 x, .int .i64 y, .slice a n cap] 26)
  have hr' := hr.below hA
  subst hz
  go_enter Try.func17, Try.ntmps17
  go_wp2_with fail
  refine (within_any _ _ _ _).mono ?_
  rintro e w1 ⟨rfl, rfl⟩
  cases hx : inB x 0 60000
  · go_wp2
    go_ret
    exact ⟨ret_bool (recB_x hx).symm, hA⟩
  · go_wp2_with fail
    refine (within_any _ _ _ _).mono ?_
    rintro e w1 ⟨rfl, rfl⟩
    cases hy : inB y 0 7
    · go_wp2
      go_ret
      exact ⟨ret_bool (recB_y hy).symm, hA⟩
    · go_wp2_with fail
      refine (within_any _ _ _ _).mono ?_
      rintro e w1 ⟨rfl, rfl⟩
      cases hl : inB (zs.length : Int) 2 4
      · go_wp2
        go_ret
        exact ⟨ret_bool (recB_n hl).symm, hA⟩
      · have HS := secB_short hl
        go_wp2_with fail
        refine (implSecOk_any _ _ _ _ zs rfl hr' hn).mono ?_
        rintro e w1 ⟨rfl, hs⟩
        go_wp2
        go_ret
        exact ⟨ret_bool (recB_w hx hy hl).symm, Below.andSame hA hs⟩

theorem szRec_any (w : World) (x y : Int) (a : Option Addr) (n cap : Nat) (left : Int) (hn : n ≤ 9223372036854775807) (h0 : 0 ≤ left) (h1 : left ≤ 1048576) :
    Calls Try.prog 27 #[.agg #[.int .i64 x, .int .i64 y, .slice a n cap], .int .i64 left] w fun e w' => e = .returned (.int .i64 (leftOf left n)) ∧ Below w.heap.size w w' := by
  by_cases h : (n : Int) ≤ left
  · have hq := leftOf_pos h
    go_enter Try.func27, Try.ntmps27
    go_wp2_with fail
    refine (szIntS_any _ _ _ _ _ hn h0 h1).mono ?_
    rintro e w1 ⟨rfl, rfl⟩
    go_wp2
    go_ret
    exact ⟨ret_int (by omega), (Below.refl _ _).alloc (Nat.le_refl _) _⟩
  · have hq := leftOf_neg (left := left) (wt := n) (by omega)
    go_enter Try.func27, Try.ntmps27
    go_wp2_with fail
    refine (szIntS_any _ _ _ _ _ hn h0 h1).mono ?_
    rintro e w1 ⟨rfl, rfl⟩
    go_wp2
    go_ret
    exact ⟨ret_int (by omega), (Below.refl _ _).alloc (Nat.le_refl _) _⟩

set_option maxHeartbeats 1600000 in
theorem toRec_any (w : World) (x y : Int) (a : Option Addr) (n cap : Nat) (zs : List Int) (hl : zs.length = n) (hr : Reads .i64 w a zs) (hn : n ≤ 1048576) :
    Calls Try.prog 28 #[.agg #[.int .i64 x, .int .i64 y, .slice a n cap]] w fun e w' => ∃ g, e = .returned (.agg #[.int .i64 x, .int .i64 y, .slice (some ⟨g, 0, none⟩) n n]) ∧ tIntS.Own w' w.heap.size w'.heap.size [.slice (some ⟨g, 0, none⟩) n n] zs ∧ Below w.heap.size w w' := by
  go_enter Try.func28, Try.ntmps28
  have hA : Below w.heap.size w (((w.alloc (.cells #[.int .i64 x, .int .i64 y, .slice a n cap] 39)).alloc (.cells #[.int .i64 0, .int .i64 0, .slice none 0 0] 26)).alloc (.cells #[.int .i64 x, .int .i64 y, .slice none 0 0] 26)) :=
    (((Below.refl _ _).alloc (Nat.le_refl _) _).alloc (by simp) _).alloc (by simp; omega) _
  have hr3 := hr.below hA
  go_wp2_with fail
  refine (toIntS_any _ _ _ _ zs hl hr3 (by omega)).mono ?_
  rintro e w4 ⟨rfl, ho4, hb4⟩
  obtain ⟨hc, hf⟩ := bcell hb4
  have hz : w.heap.size + 1 + 1 < w4.heap.size := by have := hb4.size; simp at this; omega
  have HO := own_ints ho4
  have HB := hA.trans (hb4.mono (by simp; omega))
  have e3 : (((w.alloc (.cells #[.int .i64 x, .int .i64 y, .slice a n cap] 39)).alloc (.cells #[.int .i64 0, .int .i64 0, .slice none 0 0] 26)).alloc (.cells #[.int .i64 x, .int .i64 y, .slice none 0 0] 26)).heap.size = w.heap.size + 1 + 1 + 1 := by simp
  rw [e3] at HO
  have HO' := hidden HO
  clear HO ho4 hb4 hA hr3 e3
  go_wp2
  have hbt : But w.heap.size (w.heap.size + 1 + 1 + 1) w4 ((((w4.setCell ⟨w.heap.size + 1 + 1, 2, none⟩ (.slice (some ⟨w.heap.size + 1 + 1 + 1, 0, none⟩) n n)).setCell ⟨w.heap.size + 1, 0, none⟩ (.int .i64 x)).setCell ⟨w.heap.size + 1, 1, none⟩ (.int .i64 y)).setCell ⟨w.heap.size + 1, 2, none⟩ (.slice (some ⟨w.heap.size + 1 + 1 + 1, 0, none⟩) n n)) :=
    (((But.setCell (by omega) (by omega) _).trans (But.setCell (by omega) (by omega) _)).trans (But.setCell (by omega) (by omega) _)).trans (But.setCell (by omega) (by omega) _)
  have hO := HO'.out.but hbt (.inr (Nat.le_refl _))
  have hB := Below.andBut HB hbt (Nat.le_refl _)
  have hS := hbt.size
  refine bodyPost_ret (v := .agg #[.int .i64 x, .int .i64 y, .slice (some ⟨w.heap.size + 1 + 1 + 1, 0, none⟩) n n]) (by simp [results, Try.results28, go_sem, hc]) rfl ⟨_, rfl, ?_, hB⟩
  exact hO.widen (lo' := w.heap.size) (by omega) hS

set_option maxHeartbeats 800000 in
theorem eqRec_same (w : World) (x y : Int) (a b : Option Addr) (la ca cb : Nat) (zs : List Int) (hl : zs.length = la) (h : Reads .i64 w a zs) (h' : Reads .i64 w b zs) (hla : la ≤ 2097152) :
    Calls Try.prog 29 #[.agg #[.int .i64 x, .int .i64 y, .slice a la ca], .agg #[.int .i64 x, .int .i64 y, .slice b la cb]] w fun e w' => e = .returned (.bool true) ∧ Below w.heap.size w w' := by
  have hA : Below w.heap.size w ((w.alloc (.cells #[.int .i64 x, .int .i64 y, .slice a la ca] 26)).alloc (.cells #[.int .i64 x, .int .i64 y, .slice b la cb] 26)) := ((Below.refl _ _).alloc (Nat.le_refl _) _).alloc (by simp) _
  have r1 := h.below hA
  have r2 := h'.below hA
  have hd : decide (zs = zs) = true := by simp
  go_enter Try.func29, Try.ntmps29
  go_wp2_with fail
  refine (eqIntS_any _ _ _ _ _ _ _ zs zs hl hl r1 r2 hla).mono ?_
  rintro e w1 ⟨rfl, hs1⟩
  go_wp2
  go_ret
  exact ⟨rfl, Below.andSame hA hs1⟩

theorem markRec_fp (w : World) (x y : Int) (a : Option Addr) (n cap : Nat) (zs : List Int) (k0 : Int) (fp : List Nat) (h : tIntS.Mine w [.slice a n cap] zs fp) (hlen : n ≤ 2097152) (hk : 0 ≤ k0) (hk' : k0 ≤ 4194304) :
    Calls Try.prog 32 #[.agg #[.int .i64 x, .int .i64 y, .slice a n cap], .int .i64 k0] w fun e w' => e = .returned (.int .i64 (k0 + (n : Int))) ∧ tIntS.Mine w' [.slice a n cap] (marks id k0 n) fp ∧ Turned fp w w' := by
  have h1 := h.alloc (.cells #[.int .i64 x, .int .i64 y, .slice a n cap] 26)
  go_enter Try.func32, Try.ntmps32
  go_wp2_with fail
  refine (markIntS_fp _ _ _ _ zs _ fp h1 hlen hk hk').mono ?_
  rintro e w1 ⟨rfl, m1, t1⟩
  go_wp2
  go_ret
  exact ⟨rfl, m1, ((Turned.refl fp w).alloc _).trans t1⟩

theorem heldRec_any (w : World) (x y : Int) (a : Option Addr) (n cap : Nat) (k0 : Int) (h : Reads .i64 w a (marks id k0 n)) (hlen : n ≤ 2097152) (hk : 0 ≤ k0) (hk' : k0 ≤ 4194304) :
    Calls Try.prog 36 #[.agg #[.int .i64 x, .int .i64 y, .slice a n cap], .int .i64 k0] w fun e w' => e = .returned (.int .i64 (k0 + (n : Int))) ∧ Below w.heap.size w w' := by
  have hA := new_below w (.cells #[.int .i64 x, .int .i64 y, .slice a n cap] 26)
  have h1 := h.below hA
  go_enter Try.func36, Try.ntmps36
  go_wp2_with fail
  refine (heldIntS_any _ _ _ _ _ h1 hlen hk hk').mono ?_
  rintro e w1 ⟨rfl, hs1⟩
  have hB := Below.andSame hA hs1
  go_wp2
  go_ret
  exact ⟨rfl, hB⟩

end Go.Proofs.Ytoomkkcobgeinaa

/-
  A command is four numbers and a slice of them: what both sides answer of its size, its code, its span, as plain definitions; and the laws' helpers over one command: its weight, its copy, whether two are the same, its marks. Conditions: at most 2097152 words (1048576 for a copy).
-/
import Derived.Test.YtbkkjfgjlapadaaGreatWalkEq
import Derived.Test.YtbkkjfgjlapadaaGreatWalkMark
import Derived.Test.YtbkkjfgjlapadaaGreatWalkSecOk
import Derived.Test.YtbkkjfgjlapadaaGreatWalkBlocks
import Derived.Test.YtbkkjfgjlapadaaGreatBox
namespace Go.Proofs.YtbkkjfgjlapadaaGreat
open Go.RowKit

/-- How many blocks a command has. -/
def lenC (o k : Int) (zs : List Int) : Int := if o = 1 ∨ o = 6 then k else if o = 2 ∨ o = 3 then (zs.length : Int) else if o = 5 then 1 else 0
def sizeC (o k : Int) (zs : List Int) : Bool := if o = 1 ∨ o = 6 then inB k 1 6 else if o = 2 ∨ o = 3 then inB (zs.length : Int) 1 6 && allW zs else if o = 5 then zs.length == 2 && allW zs else true
def formC (gn gs o d : Int) : Bool := geoB gn gs && inB o 1 6 && inB d 1 999
/-- Whether its blocks are there (of what names blocks). -/
def roomC (gn gs o b k : Int) (zs : List Int) : Bool := inB b 0 (blocksN gn gs - lenC o k zs)
def restC (gn gs o b k : Int) (zs : List Int) : Int := if sizeC o k zs = true then (if o = 4 ∨ roomC gn gs o b k zs = true then 0 else 2) else 3
def codeC (gn gs o d b k : Int) (zs : List Int) : Int := if formC gn gs o d = true then restC gn gs o b k zs else 1
def spanC (gn gs o d b k : Int) (zs : List Int) : Int × Int := if codeC gn gs o d b k zs = 0 then (if o = 4 then (0, blocksN gn gs) else (b, b + lenC o k zs)) else (0, 0)
/-- Whether two spans have a block in common. -/
def metC (x y : Int × Int) : Bool := decide (x.1 < y.2) && decide (y.1 < x.2)

theorem len1 {o k : Int} {zs : List Int} (h : o = 1 ∨ o = 6) : lenC o k zs = k := by unfold lenC; rw [if_pos h]
theorem len2 {o k : Int} {zs : List Int} (h : o = 2 ∨ o = 3) : lenC o k zs = zs.length := by unfold lenC; rw [if_neg (by omega), if_pos h]
theorem len5 {k : Int} {zs : List Int} : lenC 5 k zs = 1 := by simp [lenC]
theorem len0 {o k : Int} {zs : List Int} (h : ¬ (o = 1 ∨ o = 6)) (h2 : ¬ (o = 2 ∨ o = 3)) (h5 : ¬ o = 5) : lenC o k zs = 0 := by unfold lenC; rw [if_neg h, if_neg h2, if_neg h5]
theorem size1 {o k : Int} {zs : List Int} (h : o = 1 ∨ o = 6) : sizeC o k zs = inB k 1 6 := by unfold sizeC; rw [if_pos h]
theorem size2 {o k : Int} {zs : List Int} (h : o = 2 ∨ o = 3) : sizeC o k zs = (inB (zs.length : Int) 1 6 && allW zs) := by unfold sizeC; rw [if_neg (by omega), if_pos h]
theorem size5 {k : Int} {zs : List Int} : sizeC 5 k zs = (zs.length == 2 && allW zs) := by simp [sizeC]
theorem size0 {o k : Int} {zs : List Int} (h : ¬ (o = 1 ∨ o = 6)) (h2 : ¬ (o = 2 ∨ o = 3)) (h5 : ¬ o = 5) : sizeC o k zs = true := by unfold sizeC; rw [if_neg h, if_neg h2, if_neg h5]
theorem size_room {o k : Int} {zs : List Int} (h : o = 1 ∨ o = 6) : sizeC o k zs = inB (lenC o k zs) 1 6 := by rw [size1 h, len1 h]
/-- What is of a right size has at most six blocks. -/
theorem size_len {o k : Int} {zs : List Int} (h : sizeC o k zs = true) : 0 ≤ lenC o k zs ∧ lenC o k zs ≤ 6 ∧ (o ≠ 4 → inB o 1 6 = true → 1 ≤ lenC o k zs) := by
  by_cases h1 : o = 1 ∨ o = 6
  · rw [size1 h1, inB_iff] at h
    rw [len1 h1]
    omega
  · by_cases h2 : o = 2 ∨ o = 3
    · rw [size2 h2, Bool.and_eq_true, inB_iff] at h
      rw [len2 h2]
      omega
    · by_cases h5 : o = 5
      · subst h5
        rw [len5]
        omega
      · rw [len0 h1 h2 h5]
        refine ⟨by omega, by omega, fun h4 h => ?_⟩
        rw [inB_iff] at h
        omega
theorem rest_bad13 {gn gs o b k : Int} {zs : List Int} (h : sizeC o k zs = false) : restC gn gs o b k zs = 3 := by unfold restC; rw [if_neg (by simp [h])]
theorem rest_flush {gn gs b k : Int} {zs : List Int} : restC gn gs 4 b k zs = 0 := by simp [restC, sizeC]
theorem rest_in {gn gs o b k : Int} {zs : List Int} (h : sizeC o k zs = true) (h2 : roomC gn gs o b k zs = true) : restC gn gs o b k zs = 0 := by unfold restC; rw [if_pos h, if_pos (.inr h2)]
theorem rest_out {gn gs o b k : Int} {zs : List Int} (h : sizeC o k zs = true) (h4 : ¬ o = 4) (h2 : roomC gn gs o b k zs = false) : restC gn gs o b k zs = 2 := by unfold restC; rw [if_pos h, if_neg (by simp [h4, h2])]
theorem code_form {gn gs o d b k : Int} {zs : List Int} (h : formC gn gs o d = false) : codeC gn gs o d b k zs = 1 := by unfold codeC; rw [if_neg (by simp [h])]
theorem code_rest {gn gs o d b k : Int} {zs : List Int} (h : formC gn gs o d = true) : codeC gn gs o d b k zs = restC gn gs o b k zs := by unfold codeC; rw [if_pos h]
theorem form_geo {gn gs o d : Int} (h : geoB gn gs = false) : formC gn gs o d = false := by unfold formC; rw [h]; rfl
theorem form_op {gn gs o d : Int} (h : inB o 1 6 = false) : formC gn gs o d = false := by unfold formC; rw [h]; simp
theorem form_id {gn gs o d : Int} (h : inB d 1 999 = false) : formC gn gs o d = false := by unfold formC; rw [h]; simp
theorem form_all {gn gs o d : Int} (h1 : geoB gn gs = true) (h2 : inB o 1 6 = true) (h3 : inB d 1 999 = true) : formC gn gs o d = true := by unfold formC; rw [h1, h2, h3]; rfl
theorem code_range (gn gs o d b k : Int) (zs : List Int) : 0 ≤ codeC gn gs o d b k zs ∧ codeC gn gs o d b k zs ≤ 3 := by
  unfold codeC restC
  split <;> (try split) <;> (try split) <;> omega
theorem code_good13 {gn gs o d b k : Int} {zs : List Int} (h : codeC gn gs o d b k zs = 0) : formC gn gs o d = true ∧ sizeC o k zs = true ∧ (o = 4 ∨ (0 ≤ b ∧ b + lenC o k zs ≤ blocksN gn gs)) := by
  unfold codeC restC at h
  split at h
  · rename_i hf
    split at h
    · rename_i hs
      split at h
      · rename_i hr
        refine ⟨hf, hs, ?_⟩
        rcases hr with h4 | hr
        · exact .inl h4
        · unfold roomC at hr
          rw [inB_iff] at hr
          exact .inr (by omega)
      · omega
    · omega
  · omega
theorem span_bad {gn gs o d b k : Int} {zs : List Int} (h : ¬ codeC gn gs o d b k zs = 0) : spanC gn gs o d b k zs = (0, 0) := by unfold spanC; rw [if_neg h]
theorem span_flush {gn gs d b k : Int} {zs : List Int} (h : codeC gn gs 4 d b k zs = 0) : spanC gn gs 4 d b k zs = (0, blocksN gn gs) := by unfold spanC; rw [if_pos h, if_pos rfl]
theorem span_own {gn gs o d b k : Int} {zs : List Int} (h : codeC gn gs o d b k zs = 0) (h4 : ¬ o = 4) : spanC gn gs o d b k zs = (b, b + lenC o k zs) := by unfold spanC; rw [if_pos h, if_neg h4]
theorem span_range (gn gs o d b k : Int) (zs : List Int) : 0 ≤ (spanC gn gs o d b k zs).1 ∧ (spanC gn gs o d b k zs).1 ≤ (spanC gn gs o d b k zs).2 ∧ (spanC gn gs o d b k zs).2 ≤ blocksN gn gs := by
  have hr := blocksN_range gn gs
  by_cases h : codeC gn gs o d b k zs = 0
  · obtain ⟨_, hs, hr'⟩ := code_good13 h
    obtain ⟨hl, _, _⟩ := size_len hs
    by_cases h4 : o = 4
    · subst h4
      rw [span_flush h]
      exact ⟨Int.le_refl _, hr.1, Int.le_refl _⟩
    · rw [span_own h h4]
      rcases hr' with h4' | hr'
      · exact absurd h4' h4
      · exact ⟨hr'.1, by show b ≤ b + lenC o k zs; omega, hr'.2⟩
  · rw [span_bad h]
    exact ⟨Int.le_refl _, Int.le_refl _, hr.1⟩
theorem secB_six {zs : List Int} (h : inB (zs.length : Int) 1 6 = true) : secB zs = allW zs := by
  rw [inB_iff] at h
  unfold secB
  rw [decide_eq_true (by omega)]
  rfl
theorem secB_two {zs : List Int} (h : zs.length = 2) : secB zs = allW zs := secB_six (by rw [inB_iff]; omega)

theorem two_len {zs : List Int} (h : zs.length = 2) : ((zs.length : Int) == 2) = true ∧ ((zs.length : Int) != 2) = false := by rw [h]; exact ⟨rfl, rfl⟩
theorem two_len' {zs : List Int} (h : ¬ zs.length = 2) : ((zs.length : Int) == 2) = false ∧ ((zs.length : Int) != 2) = true := by
  have : ((zs.length : Int) == 2) = false := by simp; omega
  exact ⟨this, by unfold bne; rw [this]; rfl⟩

theorem Box.cells5 {w : World} {B : Nat} {T : TypeId} {v0 v1 v2 v3 v4 : Value} (h : Box w B T #[v0, v1, v2, v3, v4]) : w.cell? ⟨B, 0, none⟩ = some v0 ∧ w.cell? ⟨B, 1, none⟩ = some v1 ∧ w.cell? ⟨B, 2, none⟩ = some v2 ∧ w.cell? ⟨B, 3, none⟩ = some v3 ∧ w.cell? ⟨B, 4, none⟩ = some v4 := ⟨h.cell 0, h.cell 1, h.cell 2, h.cell 3, h.cell 4⟩

theorem szCmd_any (w : World) (o d b k : Int) (a : Option Addr) (n cap : Nat) (left : Int) (hn : n ≤ 9223372036854775807) (h0 : 0 ≤ left) (h1 : left ≤ 1048576) :
    Calls Tryz.prog 36 #[.agg #[.int .i64 o, .int .i64 d, .int .i64 b, .int .i64 k, .slice a n cap], .int .i64 left] w fun e w' => e = .returned (.int .i64 (leftOf left n)) ∧ Below w.heap.size w w' := by
  by_cases h : (n : Int) ≤ left
  · have hq := leftOf_pos h
    go_enter Tryz.func36, Tryz.ntmps36
    go_wp2_with fail
    refine (szIntS_any _ _ _ _ _ hn h0 h1).mono ?_
    rintro e w1 ⟨rfl, rfl⟩
    go_wp2
    go_ret
    exact ⟨ret_int (by omega), (Below.refl _ _).alloc (Nat.le_refl _) _⟩
  · have hq := leftOf_neg (left := left) (wt := n) (by omega)
    go_enter Tryz.func36, Tryz.ntmps36
    go_wp2_with fail
    refine (szIntS_any _ _ _ _ _ hn h0 h1).mono ?_
    rintro e w1 ⟨rfl, rfl⟩
    go_wp2
    go_ret
    exact ⟨ret_int (by omega), (Below.refl _ _).alloc (Nat.le_refl _) _⟩

set_option maxHeartbeats 3200000 in
theorem toCmd_any (w : World) (o d b k : Int) (a : Option Addr) (n cap : Nat) (zs : List Int) (hl : zs.length = n) (hr : Reads .i64 w a zs) (hn : n ≤ 1048576) :
    Calls Tryz.prog 38 #[.agg #[.int .i64 o, .int .i64 d, .int .i64 b, .int .i64 k, .slice a n cap]] w fun e w' => ∃ g, e = .returned (.agg #[.int .i64 o, .int .i64 d, .int .i64 b, .int .i64 k, .slice (some ⟨g, 0, none⟩) n n]) ∧ tIntS.Own w' w.heap.size w'.heap.size [.slice (some ⟨g, 0, none⟩) n n] zs ∧ Below w.heap.size w w' := by
  go_enter Tryz.func38, Tryz.ntmps38
  have hA : Below w.heap.size w (((w.alloc (.cells #[.int .i64 o, .int .i64 d, .int .i64 b, .int .i64 k, .slice a n cap] 72)).alloc (.cells #[.int .i64 0, .int .i64 0, .int .i64 0, .int .i64 0, .slice none 0 0] 38)).alloc (.cells #[.int .i64 o, .int .i64 d, .int .i64 b, .int .i64 k, .slice none 0 0] 38)) :=
    (((Below.refl _ _).alloc (Nat.le_refl _) _).alloc (by simp) _).alloc (by simp; omega) _
  have hr3 := hr.below hA
  go_wp2_with fail
  refine (toIntS_any _ _ _ _ zs hl hr3 (by omega)).mono ?_
  rintro e w4 ⟨rfl, ho4, hb4⟩
  obtain ⟨hc, hf⟩ := bcell hb4
  have hz : w.heap.size + 1 + 1 < w4.heap.size := by have := hb4.size; simp at this; omega
  have HO := own_ints ho4
  have HB := hA.trans (hb4.mono (by simp; omega))
  have e3 : (((w.alloc (.cells #[.int .i64 o, .int .i64 d, .int .i64 b, .int .i64 k, .slice a n cap] 72)).alloc (.cells #[.int .i64 0, .int .i64 0, .int .i64 0, .int .i64 0, .slice none 0 0] 38)).alloc (.cells #[.int .i64 o, .int .i64 d, .int .i64 b, .int .i64 k, .slice none 0 0] 38)).heap.size = w.heap.size + 1 + 1 + 1 := by simp
  rw [e3] at HO
  have HO' := hidden HO
  clear HO ho4 hb4 hA hr3 e3
  go_wp2
  have hbt : But w.heap.size (w.heap.size + 1 + 1 + 1) w4 ((((((w4.setCell ⟨w.heap.size + 1 + 1, 4, none⟩ (.slice (some ⟨w.heap.size + 1 + 1 + 1, 0, none⟩) n n)).setCell ⟨w.heap.size + 1, 0, none⟩ (.int .i64 o)).setCell ⟨w.heap.size + 1, 1, none⟩ (.int .i64 d)).setCell ⟨w.heap.size + 1, 2, none⟩ (.int .i64 b)).setCell ⟨w.heap.size + 1, 3, none⟩ (.int .i64 k)).setCell ⟨w.heap.size + 1, 4, none⟩ (.slice (some ⟨w.heap.size + 1 + 1 + 1, 0, none⟩) n n)) :=
    (((((But.setCell (by omega) (by omega) _).trans (But.setCell (by omega) (by omega) _)).trans (But.setCell (by omega) (by omega) _)).trans (But.setCell (by omega) (by omega) _)).trans (But.setCell (by omega) (by omega) _)).trans (But.setCell (by omega) (by omega) _)
  have hO := HO'.out.but hbt (.inr (Nat.le_refl _))
  have hB := Below.andBut HB hbt (Nat.le_refl _)
  have hS := hbt.size
  refine bodyPost_ret (v := .agg #[.int .i64 o, .int .i64 d, .int .i64 b, .int .i64 k, .slice (some ⟨w.heap.size + 1 + 1 + 1, 0, none⟩) n n]) (by simp [results, Tryz.results38, go_sem, hc]) rfl ⟨_, rfl, ?_, hB⟩
  exact hO.widen (lo' := w.heap.size) (by omega) hS

set_option maxHeartbeats 1600000 in
theorem eqCmd_same (w : World) (o d b k : Int) (a a' : Option Addr) (la ca cb : Nat) (zs : List Int) (hl : zs.length = la) (h : Reads .i64 w a zs) (h' : Reads .i64 w a' zs) (hla : la ≤ 2097152) :
    Calls Tryz.prog 40 #[.agg #[.int .i64 o, .int .i64 d, .int .i64 b, .int .i64 k, .slice a la ca], .agg #[.int .i64 o, .int .i64 d, .int .i64 b, .int .i64 k, .slice a' la cb]] w fun e w' => e = .returned (.bool true) ∧ Below w.heap.size w w' := by
  have hA : Below w.heap.size w ((w.alloc (.cells #[.int .i64 o, .int .i64 d, .int .i64 b, .int .i64 k, .slice a la ca] 38)).alloc (.cells #[.int .i64 o, .int .i64 d, .int .i64 b, .int .i64 k, .slice a' la cb] 38)) := ((Below.refl _ _).alloc (Nat.le_refl _) _).alloc (by simp) _
  have r1 := h.below hA
  have r2 := h'.below hA
  have hd : decide (zs = zs) = true := by simp
  go_enter Tryz.func40, Tryz.ntmps40
  go_wp2_with fail
  refine (eqIntS_any _ _ _ _ _ _ _ zs zs hl hl r1 r2 hla).mono ?_
  rintro e w1 ⟨rfl, hs1⟩
  go_wp2
  go_ret
  exact ⟨rfl, Below.andSame hA hs1⟩

theorem markCmd_fp (w : World) (o d b k : Int) (a : Option Addr) (n cap : Nat) (zs : List Int) (k0 : Int) (fp : List Nat) (h : tIntS.Mine w [.slice a n cap] zs fp) (hlen : n ≤ 2097152) (hk : 0 ≤ k0) (hk' : k0 ≤ 16777216) :
    Calls Tryz.prog 42 #[.agg #[.int .i64 o, .int .i64 d, .int .i64 b, .int .i64 k, .slice a n cap], .int .i64 k0] w fun e w' => e = .returned (.int .i64 (k0 + (n : Int))) ∧ tIntS.Mine w' [.slice a n cap] (marks id k0 n) fp ∧ Turned fp w w' := by
  have h1 := h.alloc (.cells #[.int .i64 o, .int .i64 d, .int .i64 b, .int .i64 k, .slice a n cap] 38)
  go_enter Tryz.func42, Tryz.ntmps42
  go_wp2_with fail
  refine (markIntS_fp _ _ _ _ zs _ fp h1 hlen hk hk').mono ?_
  rintro e w1 ⟨rfl, m1, t1⟩
  go_wp2
  go_ret
  exact ⟨rfl, m1, ((Turned.refl fp w).alloc _).trans t1⟩

end Go.Proofs.YtbkkjfgjlapadaaGreat

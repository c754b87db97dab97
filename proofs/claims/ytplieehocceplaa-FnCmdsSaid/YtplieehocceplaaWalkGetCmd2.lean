/-
  The program's GetCmd answers as the definitions of WalkGetCmd say. Condition: at most 1500000 words.
-/
import Derived.Test.YtplieehocceplaaWalkGetCmd
namespace Go.Proofs.Ytplieehocceplaa
open Go.RowKit

set_option maxRecDepth 20000 in
set_option maxHeartbeats 8000000 in
theorem implGetCmd_any (w : World) (a : Option Addr) (n cap : Nat) (zs : List Int) (h : tIntS.Rd w [.slice a n cap] zs) (hn : n ≤ 1500000) :
    Calls Try.prog 13 #[.slice a n cap] w fun e w' => ∃ a' l' c', e = .returned (.tuple #[cmdV (getCv zs) (.slice a' l' c'), .bool (getCB zs)]) ∧ tIntS.Own w' w.heap.size w'.heap.size [.slice a' l' c'] (getCv zs).2.2.2.2 ∧ Below w.heap.size w w' := by
  obtain ⟨hr, hl, hnc, hcm⟩ := ints_rd h
  have hA := new_below w (.cells #[.int .i64 0, .int .i64 0, .int .i64 0, .int .i64 0, .slice none 0 0] 26)
  have xr := Box.new w 26 #[.int .i64 0, .int .i64 0, .int .i64 0, .int .i64 0, .slice none 0 0]
  have zA : (w.alloc (.cells #[.int .i64 0, .int .i64 0, .int .i64 0, .int .i64 0, .slice none 0 0] 26)).heap.size = w.heap.size + 1 := by simp
  have ZA := hidden zA
  clear zA
  have XR := hidden xr
  by_cases h4 : 5 ≤ n
  · obtain ⟨z0, z1, z2, z3, z4, ds, rfl⟩ := five_of (zs := zs) (by omega)
    have hl' : ds.length + 5 = n := by simpa using hl
    rcases hr.cases with hx | ⟨b, off, rfl, hb, hc⟩
    · simp at hx
    have q0 : (w.alloc (.cells #[.int .i64 0, .int .i64 0, .int .i64 0, .int .i64 0, .slice none 0 0] 26)).cell? ⟨b, off, none⟩ = some (.int .i64 z0) := (hA.cell (p := ⟨b, off, none⟩) hb).trans (hc 0 (by simp))
    have q1 : (w.alloc (.cells #[.int .i64 0, .int .i64 0, .int .i64 0, .int .i64 0, .slice none 0 0] 26)).cell? ⟨b, off + 1, none⟩ = some (.int .i64 z1) := (hA.cell (p := ⟨b, off + 1, none⟩) hb).trans (hc 1 (by simp))
    have q2 : (w.alloc (.cells #[.int .i64 0, .int .i64 0, .int .i64 0, .int .i64 0, .slice none 0 0] 26)).cell? ⟨b, off + 2, none⟩ = some (.int .i64 z2) := (hA.cell (p := ⟨b, off + 2, none⟩) hb).trans (hc 2 (by simp))
    have q3 : (w.alloc (.cells #[.int .i64 0, .int .i64 0, .int .i64 0, .int .i64 0, .slice none 0 0] 26)).cell? ⟨b, off + 3, none⟩ = some (.int .i64 z3) := (hA.cell (p := ⟨b, off + 3, none⟩) hb).trans (hc 3 (by simp))
    have hsame := getCB_same (z0 := z0) (z1 := z1) (z2 := z2) (z3 := z3) (z4 := z4) (ds := ds)
    have HSAME := hidden hsame
    clear hc hsame
    have hlw : Reads .i64 (w.alloc (.cells #[.int .i64 0, .int .i64 0, .int .i64 0, .int .i64 0, .slice none 0 0] 26)) (some ⟨b, off, none⟩) (z0 :: z1 :: z2 :: z3 :: z4 :: ds) := hr.below hA
    by_cases hc4 : cap = 5
    · subst hc4
      have hds : ds = [] := List.eq_nil_of_length_eq_zero (by omega)
      subst hds
      obtain rfl : n = 5 := by simpa using hl'.symm
      have hrd : tIntS.Rd (w.alloc (.cells #[.int .i64 0, .int .i64 0, .int .i64 0, .int .i64 0, .slice none 0 0] 26)) [.slice (some ⟨b, off, none⟩) 0 0] [] := ints_rd_of (zs := []) (.inl rfl) (by simp) (by omega) (by simp)
      go_enter Try.func13, Try.ntmps13
      go_wp2_with fail
      generalize w.alloc (.cells #[.int .i64 0, .int .i64 0, .int .i64 0, .int .i64 0, .slice none 0 0] 26) = w1 at hA xr q0 q1 q2 q3 hrd hlw ZA XR ⊢
      have z1s : w.heap.size + 1 ≤ w1.heap.size := by have := ZA.out; omega
      have b2 := (new_below w1 (.cells #[.int .i64 z0, .int .i64 z1, .int .i64 z2, .int .i64 z3, .slice (some ⟨b, off, none⟩) 0 0] 26)).drew
      have B2 : Hid (Below w.heap.size w (w1.alloc (.cells #[.int .i64 z0, .int .i64 z1, .int .i64 z2, .int .i64 z3, .slice (some ⟨b, off, none⟩) 0 0] 26)).drew) := (hA.trans (b2.mono hA.size))
      have R2 : Hid (Box (w1.alloc (.cells #[.int .i64 z0, .int .i64 z1, .int .i64 z2, .int .i64 z3, .slice (some ⟨b, off, none⟩) 0 0] 26)).drew w.heap.size 26 #[.int .i64 0, .int .i64 0, .int .i64 0, .int .i64 0, .slice none 0 0]) := XR.out.below b2 XR.out.lt
      have X2 : Hid (Box (w1.alloc (.cells #[.int .i64 z0, .int .i64 z1, .int .i64 z2, .int .i64 z3, .slice (some ⟨b, off, none⟩) 0 0] 26)).drew w1.heap.size 26 #[.int .i64 z0, .int .i64 z1, .int .i64 z2, .int .i64 z3, .slice (some ⟨b, off, none⟩) 0 0]) := Box.new w1 _ _
      have D2 : Hid (tIntS.Rd (w1.alloc (.cells #[.int .i64 z0, .int .i64 z1, .int .i64 z2, .int .i64 z3, .slice (some ⟨b, off, none⟩) 0 0] 26)).drew [.slice (some ⟨b, off, none⟩) 0 0] []) := hrd.below b2
      have L2 : Hid (Reads .i64 (w1.alloc (.cells #[.int .i64 z0, .int .i64 z1, .int .i64 z2, .int .i64 z3, .slice (some ⟨b, off, none⟩) 0 0] 26)).drew (some ⟨b, off, none⟩) (z0 :: z1 :: z2 :: z3 :: z4 :: [])) := hlw.below b2
      have Z2 : Hid (w1.heap.size < (w1.alloc (.cells #[.int .i64 z0, .int .i64 z1, .int .i64 z2, .int .i64 z3, .slice (some ⟨b, off, none⟩) 0 0] 26)).drew.heap.size) := X2.out.lt
      clear b2 hA xr XR ZA hrd hlw
      go_region_held3 (fun w' => w'.cell? ⟨b, off, none⟩ = some (.int .i64 z0) ∧ w'.cell? ⟨b, off + 1, none⟩ = some (.int .i64 z1) ∧ w'.cell? ⟨b, off + 2, none⟩ = some (.int .i64 z2) ∧ w'.cell? ⟨b, off + 3, none⟩ = some (.int .i64 z3)) (first | (exact ⟨q0, q1, q2, q3⟩) | go_keep) (fail)
      generalize (w1.alloc (.cells #[.int .i64 z0, .int .i64 z1, .int .i64 z2, .int .i64 z3, .slice (some ⟨b, off, none⟩) 0 0] 26)).drew = w2 at B2 R2 X2 D2 L2 Z2 ⊢
      clear q0 q1 q2 q3
      obtain ⟨x0, x1, x2, x3, x4⟩ := X2.out.cells5
      have k2 := Z2.out
      go_wp2_with fail
      refine (implPutCmd_any _ z0 z1 z2 z3 _ _ _ [] D2.out (by omega)).mono ?_
      rintro e w3 ⟨a3, l3, c3, rfl, o3, b3⟩
      have B3 := hidden (B2.out.trans (b3.mono B2.out.size))
      have R3 := R2.out.below b3 R2.out.lt
      have X3 := X2.out.below b3 X2.out.lt
      have D3 := hidden (D2.out.below b3)
      have L3 := L2.out.below b3
      have k3 := b3.size
      obtain ⟨r3, hl3, _, _⟩ := ints_rd o3.rd
      have hpl := putC_le z0 z1 z2 z3 []
      clear x0 x1 x2 x3 x4 b3 o3 D2 L2 B2
      go_wp2_with fail
      refine (implSameSec_any _ _ _ _ _ _ _ (putC z0 z1 z2 z3 []) (z0 :: z1 :: z2 :: z3 :: z4 :: []) hl3 (by first | exact hl | (simp; omega)) r3 L3 (by omega)).mono ?_
      rintro e w4 ⟨rfl, s4⟩
      rw [HSAME.out]
      have B4 := hidden (Below.andSame B3.out s4)
      have R4 := R3.same s4
      have X4 := X3.same s4
      have D4 := hidden (D3.out.same s4)
      have k4 := s4.size
      clear R3 X3 r3 L3 hl3 hpl s4 B3 D3
      obtain ⟨x0, x1, x2, x3, x4⟩ := X4.cells5
      obtain ⟨p0, p1, p2, p3, p4⟩ := R4.cells5
      have fz := R4.frozen
      have fx := X4.frozen
      cases hB : getCB (z0 :: z1 :: z2 :: z3 :: z4 :: [])
      · have HRET := hidden (ret_cnone hB)
        have HOWN := hidden (own_cnone hB)
        clear hB
        have hbt := set5_but w4 w.heap.size (.int .i64 0) (.int .i64 0) (.int .i64 0) (.int .i64 0) (.slice none 0 0)
        have FBB := hidden (B4.out.trans (hbt.below (B := w.heap.size) (Nat.le_refl _) B4.out.size))
        unfold set5 at FBB
        clear hbt
        go_wp2
        refine bodyPost_ret (v := .tuple #[.agg #[.int .i64 0, .int .i64 0, .int .i64 0, .int .i64 0, .slice none 0 0], .bool false]) (by simp [results, Try.results13, go_sem, p0, p1, p2, p3, p4]) rfl ?_
        exact ⟨_, _, _, HRET.out, HOWN.out _ _ _, FBB.out⟩
      · have HRET := fun v => hidden (ret_cwell (v := v) hB)
        have HOWN := hidden (own_cwell hB)
        clear hB
        go_wp2_with fail
        refine (copyWords_any _ _ _ _ [] D4.out (by omega)).mono ?_
        rintro e w5 ⟨a5, c5, rfl, o5, b5⟩
        have B5 := B4.out.trans (b5.mono B4.out.size)
        have zR := R4.lt
        have zX := X4.lt
        have R5 := R4.below b5 zR
        have X5 := X4.below b5 zX
        have k5 := b5.size
        clear x0 x1 x2 x3 x4 p0 p1 p2 p3 p4 fz fx R4 X4 D4 B4
        have t5 : But w1.heap.size (w1.heap.size + 1) w5 (w5.setCell ⟨w1.heap.size, 4, none⟩ (.slice a5 0 c5)) := But.setCell (by omega) (by omega) _
        have t6 := set5_but (w5.setCell ⟨w1.heap.size, 4, none⟩ (.slice a5 0 c5)) w.heap.size (.int .i64 z0) (.int .i64 z1) (.int .i64 z2) (.int .i64 z3) (.slice a5 0 c5)
        have s5 := t5.size
        have s6 := t6.size
        have FBB := hidden ((B5.trans (t5.below (B := w.heap.size) (by omega) B5.size)).trans (t6.below (B := w.heap.size) (Nat.le_refl _) (by omega)))
        have FOW := hidden (((o5.but t5 (.inr (by omega))).but t6 (.inr (by omega))).widen (lo' := w.heap.size) (by omega) (by omega : w5.heap.size ≤ (set5 (w5.setCell ⟨w1.heap.size, 4, none⟩ (.slice a5 0 c5)) w.heap.size (.int .i64 z0) (.int .i64 z1) (.int .i64 z2) (.int .i64 z3) (.slice a5 0 c5)).heap.size))
        unfold set5 at FBB FOW
        obtain ⟨x0, x1, x2, x3, x4⟩ := X5.cells5
        obtain ⟨p0, p1, p2, p3, p4⟩ := R5.cells5
        have fz := R5.frozen
        have fx := X5.frozen
        have hne : ¬ w1.heap.size = w.heap.size := by omega
        have hne' : ¬ w.heap.size = w1.heap.size := by omega
        clear t5 t6 s5 s6 o5 b5 B5 R5 X5 R2 X2 Z2
        go_wp2
        refine bodyPost_ret (v := .tuple #[.agg #[.int .i64 z0, .int .i64 z1, .int .i64 z2, .int .i64 z3, .slice a5 0 c5], .bool true]) (by simp [results, Try.results13, go_sem, p0, p1, p2, p3, p4]) rfl ?_
        refine ⟨_, _, _, (HRET _).out, ?_, FBB.out⟩
        rw [HOWN.out]
        exact FOW.out
    · skip
      have hln : n - 5 = ds.length := by omega
      have ii0 : (0 : Int) < (n : Int) := by omega
      have ii1 : (1 : Int) < (n : Int) := by omega
      have ii2 : (2 : Int) < (n : Int) := by omega
      have ii3 : (3 : Int) < (n : Int) := by omega
      have ii4 : (4 : Int) < (n : Int) := by omega
      have jj0 : 0 < n := by omega
      have ii5 : (5 : Int) ≤ (n : Int) := by omega
      have ii6 : (n : Int) ≤ (cap : Int) := by omega
      have ii7 : (5 : Int) ≤ (cap : Int) := by omega
      have ii8 : 5 ≤ cap := by omega
      have hrd : tIntS.Rd (w.alloc (.cells #[.int .i64 0, .int .i64 0, .int .i64 0, .int .i64 0, .slice none 0 0] 26)) [.slice (some ⟨b, off + 5, none⟩) ds.length (cap - 5)] ds := ints_rd_of (hr.below hA).drop5 (by omega) (by omega) (by simp)
      go_enter Try.func13, Try.ntmps13
      go_wp2_with fail
      generalize w.alloc (.cells #[.int .i64 0, .int .i64 0, .int .i64 0, .int .i64 0, .slice none 0 0] 26) = w1 at hA xr q0 q1 q2 q3 hrd hlw ZA XR ⊢
      have z1s : w.heap.size + 1 ≤ w1.heap.size := by have := ZA.out; omega
      have b2 := (new_below w1 (.cells #[.int .i64 z0, .int .i64 z1, .int .i64 z2, .int .i64 z3, .slice (some ⟨b, off + 5, none⟩) ds.length (cap - 5)] 26)).drew
      have B2 : Hid (Below w.heap.size w (w1.alloc (.cells #[.int .i64 z0, .int .i64 z1, .int .i64 z2, .int .i64 z3, .slice (some ⟨b, off + 5, none⟩) ds.length (cap - 5)] 26)).drew) := (hA.trans (b2.mono hA.size))
      have R2 : Hid (Box (w1.alloc (.cells #[.int .i64 z0, .int .i64 z1, .int .i64 z2, .int .i64 z3, .slice (some ⟨b, off + 5, none⟩) ds.length (cap - 5)] 26)).drew w.heap.size 26 #[.int .i64 0, .int .i64 0, .int .i64 0, .int .i64 0, .slice none 0 0]) := XR.out.below b2 XR.out.lt
      have X2 : Hid (Box (w1.alloc (.cells #[.int .i64 z0, .int .i64 z1, .int .i64 z2, .int .i64 z3, .slice (some ⟨b, off + 5, none⟩) ds.length (cap - 5)] 26)).drew w1.heap.size 26 #[.int .i64 z0, .int .i64 z1, .int .i64 z2, .int .i64 z3, .slice (some ⟨b, off + 5, none⟩) ds.length (cap - 5)]) := Box.new w1 _ _
      have D2 : Hid (tIntS.Rd (w1.alloc (.cells #[.int .i64 z0, .int .i64 z1, .int .i64 z2, .int .i64 z3, .slice (some ⟨b, off + 5, none⟩) ds.length (cap - 5)] 26)).drew [.slice (some ⟨b, off + 5, none⟩) ds.length (cap - 5)] ds) := hrd.below b2
      have L2 : Hid (Reads .i64 (w1.alloc (.cells #[.int .i64 z0, .int .i64 z1, .int .i64 z2, .int .i64 z3, .slice (some ⟨b, off + 5, none⟩) ds.length (cap - 5)] 26)).drew (some ⟨b, off, none⟩) (z0 :: z1 :: z2 :: z3 :: z4 :: ds)) := hlw.below b2
      have Z2 : Hid (w1.heap.size < (w1.alloc (.cells #[.int .i64 z0, .int .i64 z1, .int .i64 z2, .int .i64 z3, .slice (some ⟨b, off + 5, none⟩) ds.length (cap - 5)] 26)).drew.heap.size) := X2.out.lt
      clear b2 hA xr XR ZA hrd hlw
      go_region_held3 (fun w' => w'.cell? ⟨b, off, none⟩ = some (.int .i64 z0) ∧ w'.cell? ⟨b, off + 1, none⟩ = some (.int .i64 z1) ∧ w'.cell? ⟨b, off + 2, none⟩ = some (.int .i64 z2) ∧ w'.cell? ⟨b, off + 3, none⟩ = some (.int .i64 z3)) (first | (exact ⟨q0, q1, q2, q3⟩) | go_keep) (fail)
      generalize (w1.alloc (.cells #[.int .i64 z0, .int .i64 z1, .int .i64 z2, .int .i64 z3, .slice (some ⟨b, off + 5, none⟩) ds.length (cap - 5)] 26)).drew = w2 at B2 R2 X2 D2 L2 Z2 ⊢
      clear q0 q1 q2 q3
      obtain ⟨x0, x1, x2, x3, x4⟩ := X2.out.cells5
      have k2 := Z2.out
      go_wp2_with fail
      refine (implPutCmd_any _ z0 z1 z2 z3 _ _ _ ds D2.out (by omega)).mono ?_
      rintro e w3 ⟨a3, l3, c3, rfl, o3, b3⟩
      have B3 := hidden (B2.out.trans (b3.mono B2.out.size))
      have R3 := R2.out.below b3 R2.out.lt
      have X3 := X2.out.below b3 X2.out.lt
      have D3 := hidden (D2.out.below b3)
      have L3 := L2.out.below b3
      have k3 := b3.size
      obtain ⟨r3, hl3, _, _⟩ := ints_rd o3.rd
      have hpl := putC_le z0 z1 z2 z3 ds
      clear x0 x1 x2 x3 x4 b3 o3 D2 L2 B2
      go_wp2_with fail
      refine (implSameSec_any _ _ _ _ _ _ _ (putC z0 z1 z2 z3 ds) (z0 :: z1 :: z2 :: z3 :: z4 :: ds) hl3 (by first | exact hl | (simp; omega)) r3 L3 (by omega)).mono ?_
      rintro e w4 ⟨rfl, s4⟩
      rw [HSAME.out]
      have B4 := hidden (Below.andSame B3.out s4)
      have R4 := R3.same s4
      have X4 := X3.same s4
      have D4 := hidden (D3.out.same s4)
      have k4 := s4.size
      clear R3 X3 r3 L3 hl3 hpl s4 B3 D3
      obtain ⟨x0, x1, x2, x3, x4⟩ := X4.cells5
      obtain ⟨p0, p1, p2, p3, p4⟩ := R4.cells5
      have fz := R4.frozen
      have fx := X4.frozen
      cases hB : getCB (z0 :: z1 :: z2 :: z3 :: z4 :: ds)
      · have HRET := hidden (ret_cnone hB)
        have HOWN := hidden (own_cnone hB)
        clear hB
        have hbt := set5_but w4 w.heap.size (.int .i64 0) (.int .i64 0) (.int .i64 0) (.int .i64 0) (.slice none 0 0)
        have FBB := hidden (B4.out.trans (hbt.below (B := w.heap.size) (Nat.le_refl _) B4.out.size))
        unfold set5 at FBB
        clear hbt
        go_wp2
        refine bodyPost_ret (v := .tuple #[.agg #[.int .i64 0, .int .i64 0, .int .i64 0, .int .i64 0, .slice none 0 0], .bool false]) (by simp [results, Try.results13, go_sem, p0, p1, p2, p3, p4]) rfl ?_
        exact ⟨_, _, _, HRET.out, HOWN.out _ _ _, FBB.out⟩
      · have HRET := fun v => hidden (ret_cwell (v := v) hB)
        have HOWN := hidden (own_cwell hB)
        clear hB
        go_wp2_with fail
        refine (copyWords_any _ _ _ _ ds D4.out (by omega)).mono ?_
        rintro e w5 ⟨a5, c5, rfl, o5, b5⟩
        have B5 := B4.out.trans (b5.mono B4.out.size)
        have zR := R4.lt
        have zX := X4.lt
        have R5 := R4.below b5 zR
        have X5 := X4.below b5 zX
        have k5 := b5.size
        clear x0 x1 x2 x3 x4 p0 p1 p2 p3 p4 fz fx R4 X4 D4 B4
        have t5 : But w1.heap.size (w1.heap.size + 1) w5 (w5.setCell ⟨w1.heap.size, 4, none⟩ (.slice a5 ds.length c5)) := But.setCell (by omega) (by omega) _
        have t6 := set5_but (w5.setCell ⟨w1.heap.size, 4, none⟩ (.slice a5 ds.length c5)) w.heap.size (.int .i64 z0) (.int .i64 z1) (.int .i64 z2) (.int .i64 z3) (.slice a5 ds.length c5)
        have s5 := t5.size
        have s6 := t6.size
        have FBB := hidden ((B5.trans (t5.below (B := w.heap.size) (by omega) B5.size)).trans (t6.below (B := w.heap.size) (Nat.le_refl _) (by omega)))
        have FOW := hidden (((o5.but t5 (.inr (by omega))).but t6 (.inr (by omega))).widen (lo' := w.heap.size) (by omega) (by omega : w5.heap.size ≤ (set5 (w5.setCell ⟨w1.heap.size, 4, none⟩ (.slice a5 ds.length c5)) w.heap.size (.int .i64 z0) (.int .i64 z1) (.int .i64 z2) (.int .i64 z3) (.slice a5 ds.length c5)).heap.size))
        unfold set5 at FBB FOW
        obtain ⟨x0, x1, x2, x3, x4⟩ := X5.cells5
        obtain ⟨p0, p1, p2, p3, p4⟩ := R5.cells5
        have fz := R5.frozen
        have fx := X5.frozen
        have hne : ¬ w1.heap.size = w.heap.size := by omega
        have hne' : ¬ w.heap.size = w1.heap.size := by omega
        clear t5 t6 s5 s6 o5 b5 B5 R5 X5 R2 X2 Z2
        go_wp2
        refine bodyPost_ret (v := .tuple #[.agg #[.int .i64 z0, .int .i64 z1, .int .i64 z2, .int .i64 z3, .slice a5 ds.length c5], .bool true]) (by simp [results, Try.results13, go_sem, p0, p1, p2, p3, p4]) rfl ?_
        refine ⟨_, _, _, (HRET _).out, ?_, FBB.out⟩
        rw [HOWN.out]
        exact FOW.out
  · have hB := getCB_short (zs := zs) (by omega)
    have HRET := hidden (ret_cnone hB)
    have HOWN := hidden (own_cnone hB)
    clear hB
    go_enter Try.func13, Try.ntmps13
    go_wp2
    refine bodyPost_ret (v := .tuple #[.agg #[.int .i64 0, .int .i64 0, .int .i64 0, .int .i64 0, .slice none 0 0], .bool false]) (by simp [results, Try.results13, go_sem]) rfl ?_
    exact ⟨_, _, _, HRET.out, HOWN.out _ _ _, hA⟩

end Go.Proofs.Ytplieehocceplaa

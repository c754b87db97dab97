/-
  The program's GetRec answers as the definitions of WalkGetRec say. Condition: at most 2097152 words.
-/
import Derived.Test.YtoomkkcobgeinaaWalkGetRec
namespace Go.Proofs.Ytoomkkcobgeinaa
open Go.RowKit

theorem Reads.cut4 {w : World} {b off n : Nat} {z0 z1 z2 z3 : Int} {ds : List Int} (h : Reads .i64 w (some ⟨b, off, none⟩) (z0 :: z1 :: z2 :: z3 :: ds)) (hn : ds.length + 4 = n) : Reads .i64 w (some ⟨b, cutO off n, none⟩) ds := by
  unfold cutO
  by_cases h4 : n = 4
  · exact .inl (List.eq_nil_of_length_eq_zero (by omega))
  · rw [if_neg h4]
    exact h.drop4

set_option maxHeartbeats 8000000 in
theorem implGetRec_any (w : World) (a : Option Addr) (n cap : Nat) (zs : List Int) (h : tIntS.Rd w [.slice a n cap] zs) (hn : n ≤ 2097152) :
    Calls Try.prog 13 #[.slice a n cap] w fun e w' => ∃ a' l' c', e = .returned (.tuple #[.agg #[.int .i64 (getRv zs).1, .int .i64 (getRv zs).2.1, .slice a' l' c'], .bool (getRB zs)]) ∧ tIntS.Own w' w.heap.size w'.heap.size [.slice a' l' c'] (getRv zs).2.2 ∧ Below w.heap.size w w' := by
  obtain ⟨hr, hl, hnc, hcm⟩ := ints_rd h
  clear h
  have hA := new_below w (.cells #[.int .i64 0, .int .i64 0, .slice none 0 0] 26)
  have xr := Box.new w 26 #[.int .i64 0, .int .i64 0, .slice none 0 0]
  have zA : (w.alloc (.cells #[.int .i64 0, .int .i64 0, .slice none 0 0] 26)).heap.size = w.heap.size + 1 := by simp
  have ZA := hidden zA
  clear zA
  have XR := hidden xr
  by_cases h4 : 4 ≤ n
  · obtain ⟨z0, z1, z2, z3, ds, rfl⟩ := four_of (zs := zs) (by omega)
    have hl' : ds.length + 4 = n := by simpa using hl
    rcases hr.cases with hx | ⟨b, off, rfl, hb, hc⟩
    · simp at hx
    have q0 : w.cell? ⟨b, off, none⟩ = some (.int .i64 z0) := hc 0 (by simp)
    have q1 : w.cell? ⟨b, off + 1, none⟩ = some (.int .i64 z1) := hc 1 (by simp)
    have q2 : w.cell? ⟨b, off + 2, none⟩ = some (.int .i64 z2) := hc 2 (by simp)
    have q3 : w.cell? ⟨b, off + 3, none⟩ = some (.int .i64 z3) := hc 3 (by simp)
    clear hc
    have hln : n - 4 = ds.length := by omega
    have rdw := hr.cut4 (n := n) hl'
    go_enter Try.func13, Try.ntmps13
    go_wp2_with fail
    generalize w.alloc (.cells #[.int .i64 0, .int .i64 0, .slice none 0 0] 26) = W at hA xr ZA XR ⊢
    refine (cutSlot_any _ _ _ _ _ h4 hnc hn).mono ?_
    rintro e w1 ⟨rfl, hs1⟩
    rw [hln]
    generalize cutO off n = oo at rdw ⊢
    have B1 := Below.andSame hA hs1
    have R1 := XR.out.same hs1
    have zs1 := hs1.size
    have z1s : w.heap.size + 1 ≤ w1.heap.size := by have := ZA.out; omega
    have c0 : w1.cell? ⟨b, off, none⟩ = some (.int .i64 z0) := (B1.cell (p := ⟨b, off, none⟩) hb).trans q0
    have c1 : w1.cell? ⟨b, off + 1, none⟩ = some (.int .i64 z1) := (B1.cell (p := ⟨b, off + 1, none⟩) hb).trans q1
    have c2 : w1.cell? ⟨b, off + 2, none⟩ = some (.int .i64 z2) := (B1.cell (p := ⟨b, off + 2, none⟩) hb).trans q2
    have c3 : w1.cell? ⟨b, off + 3, none⟩ = some (.int .i64 z3) := (B1.cell (p := ⟨b, off + 3, none⟩) hb).trans q3
    have rd1 := rdw.below B1
    clear hs1 hA xr XR ZA zs1 rdw hln
    have b2 := (new_below w1 (.cells #[.int .i64 z1, .int .i64 z2, .slice (some ⟨b, oo, none⟩) ds.length ds.length] 26)).drew
    have B2 : Hid (Below w.heap.size w (w1.alloc (.cells #[.int .i64 z1, .int .i64 z2, .slice (some ⟨b, oo, none⟩) ds.length ds.length] 26)).drew) := (B1.trans (b2.mono B1.size))
    have R2 : Hid (Box (w1.alloc (.cells #[.int .i64 z1, .int .i64 z2, .slice (some ⟨b, oo, none⟩) ds.length ds.length] 26)).drew w.heap.size 26 #[.int .i64 0, .int .i64 0, .slice none 0 0]) := R1.below b2 R1.lt
    have X2 : Hid (Box (w1.alloc (.cells #[.int .i64 z1, .int .i64 z2, .slice (some ⟨b, oo, none⟩) ds.length ds.length] 26)).drew w1.heap.size 26 #[.int .i64 z1, .int .i64 z2, .slice (some ⟨b, oo, none⟩) ds.length ds.length]) := Box.new w1 _ _
    have D2 : Hid (Reads .i64 (w1.alloc (.cells #[.int .i64 z1, .int .i64 z2, .slice (some ⟨b, oo, none⟩) ds.length ds.length] 26)).drew (some ⟨b, oo, none⟩) ds) := rd1.below b2
    have Z2 : Hid (w1.heap.size < (w1.alloc (.cells #[.int .i64 z1, .int .i64 z2, .slice (some ⟨b, oo, none⟩) ds.length ds.length] 26)).drew.heap.size) := X2.out.lt
    have C0 : Hid ((w1.alloc (.cells #[.int .i64 z1, .int .i64 z2, .slice (some ⟨b, oo, none⟩) ds.length ds.length] 26)).drew.cell? ⟨b, off, none⟩ = some (.int .i64 z0)) := (b2.cell (p := ⟨b, off, none⟩) (by show b < w1.heap.size; omega)).trans c0
    have C3 : Hid ((w1.alloc (.cells #[.int .i64 z1, .int .i64 z2, .slice (some ⟨b, oo, none⟩) ds.length ds.length] 26)).drew.cell? ⟨b, off + 3, none⟩ = some (.int .i64 z3)) := (b2.cell (p := ⟨b, off + 3, none⟩) (by show b < w1.heap.size; omega)).trans c3
    clear b2 R1 rd1 c0 c3 B1
    go_wp2_with fail
    go_region_held3 (fun w' => w'.cell? ⟨b, off + 1, none⟩ = some (.int .i64 z1) ∧ w'.cell? ⟨b, off + 2, none⟩ = some (.int .i64 z2)) (first | (exact ⟨c1, c2⟩) | go_keep) (fail)
    generalize (w1.alloc (.cells #[.int .i64 z1, .int .i64 z2, .slice (some ⟨b, oo, none⟩) ds.length ds.length] 26)).drew = w2 at B2 R2 X2 D2 Z2 C0 C3 ⊢
    clear c1 c2 q0 q1 q2 q3
    have c0 := C0.out
    have c3 := C3.out
    obtain ⟨x0, x1, x2⟩ := X2.out.cells3
    obtain ⟨p0, p1, p2⟩ := R2.out.cells3
    have fz := R2.out.frozen
    have k2 := Z2.out
    by_cases h0 : z0 = 21322
    · subst h0
      by_cases h3 : z3 = (ds.length : Int)
      · subst h3
        have rd2 := D2.out
        go_wp2_with fail
        refine (implRecOk_any _ z1 z2 _ _ _ ds rfl rd2 (by omega)).mono ?_
        rintro e w3 ⟨rfl, b3⟩
        have B3 := hidden (B2.out.trans (b3.mono B2.out.size))
        have R3 := R2.out.below b3 R2.out.lt
        have X3 := X2.out.below b3 X2.out.lt
        have d3 := rd2.below b3
        have k3 := b3.size
        clear x0 x1 x2 p0 p1 p2 fz c0 c3 C0 C3 rd2 b3
        obtain ⟨x0, x1, x2⟩ := X3.cells3
        obtain ⟨p0, p1, p2⟩ := R3.cells3
        have fz := R3.frozen
        have fx := X3.frozen
        by_cases hrec : recB z1 z2 ds = true
        · have HRET := fun v => hidden (ret_rec (v := v) hrec)
          have HOWN := hidden (own_rec hrec)
          have hR3 : tIntS.Rd w3 [.slice (some ⟨b, oo, none⟩) ds.length ds.length] ds := ints_rd_of d3 (Nat.le_refl _) (by omega) (by simp)
          go_wp2_with fail
          refine (copyWords_any _ _ _ _ ds hR3 (by omega)).mono ?_
          rintro e w4 ⟨a5, c5, rfl, o4, b4⟩
          have B4 := B3.out.trans (b4.mono B3.out.size)
          have R4 := R3.below b4 R3.lt
          have X4 := X3.below b4 X3.lt
          have k4 := b4.size
          have zR := R3.lt
          have zX := X3.lt
          clear x0 x1 x2 p0 p1 p2 fz fx R3 X3 hR3 d3
          have t5 : But w1.heap.size (w1.heap.size + 1) w4 (w4.setCell ⟨w1.heap.size, 2, none⟩ (.slice a5 ds.length c5)) := But.setCell (by omega) (by omega) _
          have t6 := set3_but (w4.setCell ⟨w1.heap.size, 2, none⟩ (.slice a5 ds.length c5)) w.heap.size (.int .i64 z1) (.int .i64 z2) (.slice a5 ds.length c5)
          have s5 := t5.size
          have s6 := t6.size
          have FBB := hidden ((B4.trans (t5.below (B := w.heap.size) (by omega) B4.size)).trans (t6.below (B := w.heap.size) (Nat.le_refl _) (by omega)))
          have FOW := hidden (((o4.but t5 (.inr (by omega))).but t6 (.inr (by omega))).widen (lo' := w.heap.size) (by omega) (by omega : w4.heap.size ≤ (set3 (w4.setCell ⟨w1.heap.size, 2, none⟩ (.slice a5 ds.length c5)) w.heap.size (.int .i64 z1) (.int .i64 z2) (.slice a5 ds.length c5)).heap.size))
          unfold set3 at FBB FOW
          obtain ⟨x0, x1, x2⟩ := X4.cells3
          obtain ⟨p0, p1, p2⟩ := R4.cells3
          have fz := R4.frozen
          have fx := X4.frozen
          have hne : ¬ w1.heap.size = w.heap.size := by omega
          have hne' : ¬ w.heap.size = w1.heap.size := by omega
          clear t5 t6 s5 s6 o4 b4 B4 R4 X4 B3 R2 X2 D2 Z2 B2
          go_wp2
          refine bodyPost_ret (v := .tuple #[.agg #[.int .i64 z1, .int .i64 z2, .slice a5 ds.length c5], .bool true]) (by simp [results, Try.results13, go_sem, p0, p1, p2]) rfl ?_
          refine ⟨_, _, _, (HRET _).out, ?_, FBB.out⟩
          rw [HOWN.out]
          exact FOW.out
        · have hrec' : recB z1 z2 ds = false := by simpa using hrec
          have hB := getRB_rec.trans hrec'
          have HRET := hidden (ret_none hB)
          have HOWN := hidden (own_none hB)
          clear hB
          have hbt := set3_but w3 w.heap.size (.int .i64 0) (.int .i64 0) (.slice none 0 0)
          have FBB := hidden (B3.out.trans (hbt.below (B := w.heap.size) (Nat.le_refl _) B3.out.size))
          unfold set3 at FBB
          clear hbt
          go_wp2
          refine bodyPost_ret (v := .tuple #[.agg #[.int .i64 0, .int .i64 0, .slice none 0 0], .bool false]) (by simp [results, Try.results13, go_sem, p0, p1, p2]) rfl ?_
          exact ⟨_, _, _, HRET.out, HOWN.out _ _ _, FBB.out⟩
      · have hne : (z3 == (ds.length : Int)) = false := by simpa using h3
        have hne' : (z3 != (ds.length : Int)) = true := by simpa using h3
        have hB := getRB_many (z0 := 21322) (z1 := z1) (z2 := z2) h3
        have HRET := hidden (ret_none hB)
        have HOWN := hidden (own_none hB)
        clear hB
        have hbt := set3_but w2 w.heap.size (.int .i64 0) (.int .i64 0) (.slice none 0 0)
        have FBB := hidden (B2.out.trans (hbt.below (B := w.heap.size) (Nat.le_refl _) B2.out.size))
        unfold set3 at FBB
        clear hbt
        go_wp2
        refine bodyPost_ret (v := .tuple #[.agg #[.int .i64 0, .int .i64 0, .slice none 0 0], .bool false]) (by simp [results, Try.results13, go_sem, p0, p1, p2]) rfl ?_
        exact ⟨_, _, _, HRET.out, HOWN.out _ _ _, FBB.out⟩
    · have hne : (z0 == 21322) = false := by simpa using h0
      have hB := getRB_head (z1 := z1) (z2 := z2) (z3 := z3) (ds := ds) h0
      have HRET := hidden (ret_none hB)
      have HOWN := hidden (own_none hB)
      clear hB
      have hbt := set3_but w2 w.heap.size (.int .i64 0) (.int .i64 0) (.slice none 0 0)
      have FBB := hidden (B2.out.trans (hbt.below (B := w.heap.size) (Nat.le_refl _) B2.out.size))
      unfold set3 at FBB
      clear hbt
      go_wp2
      refine bodyPost_ret (v := .tuple #[.agg #[.int .i64 0, .int .i64 0, .slice none 0 0], .bool false]) (by simp [results, Try.results13, go_sem, p0, p1, p2]) rfl ?_
      exact ⟨_, _, _, HRET.out, HOWN.out _ _ _, FBB.out⟩
  · skip
    have hB := getRB_short (zs := zs) (by omega)
    have HRET := hidden (ret_none hB)
    have HOWN := hidden (own_none hB)
    clear hB
    go_enter Try.func13, Try.ntmps13
    go_wp2
    refine bodyPost_ret (v := .tuple #[.agg #[.int .i64 0, .int .i64 0, .slice none 0 0], .bool false]) (by simp [results, Try.results13, go_sem]) rfl ?_
    exact ⟨_, _, _, HRET.out, HOWN.out _ _ _, hA⟩

end Go.Proofs.Ytoomkkcobgeinaa

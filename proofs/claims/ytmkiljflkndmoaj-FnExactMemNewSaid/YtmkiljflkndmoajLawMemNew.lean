/-
  The walk of the exact law of MemNew: at every number it answers true, and nothing that was there has turned. No condition.
-/
import Derived.Test.YtmkiljflkndmoajWalkMemRd
import Derived.Test.YtmkiljflkndmoajWalkMemNew
namespace Go.Proofs.Ytmkiljflkndmoaj
open Go.RowKit

theorem newSS_wt (n : Int) : wtMem (newSS n, ([] : List (Int × List Int)), false, ([] : List Int)) ≤ 2097152 := by
  have h0 : ∀ k : Nat, sumL (List.replicate k 0) = 0 := by
    intro k
    induction k with
    | zero => rfl
    | succ k ih => simpa [List.replicate_succ, sumL] using ih
  unfold wtMem wtIntSS wtWrS newSS
  by_cases h : 1 ≤ n ∧ n ≤ 20
  · rw [if_pos h]
    have h1 : sumL ((List.replicate n.toNat ([] : List Int)).map List.length) = 0 := by rw [List.map_replicate]; exact h0 _
    simp only [h1, List.length_replicate, List.map_nil, List.length_nil]
    have h2 : sumL [] = 0 := rfl
    omega
  · rw [if_neg h]
    simp [sumL]

set_option maxHeartbeats 3200000 in
theorem fnExactMemNew_walk (n : Int) (w : World) :
    Calls Try.prog 6 #[.int .i64 n] w fun e w' => e = .returned (.bool true) ∧ Below w.heap.size w w' := by
  have hwt := newSS_wt n
  have hcp := cntM_pos (newSS n) [] []
  go_enter Try.func6, Try.ntmps6
  go_wp2_with fail
  refine (specMemNew_any _ _).mono ?_
  rintro e w1 ⟨a0, c0, rfl, p1, hb1⟩
  have o1 := mem_own_of (E := 65) (f := false) p1 (nil_own w1 w1.heap.size w1.heap.size) (nil_own w1 w1.heap.size w1.heap.size) hb1.size (Nat.le_refl _) (Nat.le_refl _)
  clear p1
  have xa := Box.new w1 40 #[.slice a0 (newSS n).length c0, .slice none 0 0, .bool false, .slice none 0 0]
  have ba : Below w1.heap.size w1 (w1.alloc (.cells #[.slice a0 (newSS n).length c0, .slice none 0 0, .bool false, .slice none 0 0] 40)) := (Below.refl _ _).alloc (Nat.le_refl _) _
  have hs2 : (w1.alloc (.cells #[.slice a0 (newSS n).length c0, .slice none 0 0, .bool false, .slice none 0 0] 40)).heap.size = w1.heap.size + 1 := by simp
  have B2 := hidden (Below.andThen hb1 ba)
  have o2 := hidden (o1.below ba)
  have XA := hidden xa
  have HS2 := hidden hs2
  have hs1 := hb1.size
  clear o1 ba hb1 xa hs2
  go_wp2_with fail
  generalize w1.alloc (.cells #[.slice a0 (newSS n).length c0, .slice none 0 0, .bool false, .slice none 0 0] 40) = w2 at B2 o2 XA HS2 ⊢
  refine (implMemNew_any _ _).mono ?_
  rintro e w3 ⟨b0, d0, rfl, p3, hb3⟩
  have o3 := mem_own_of (E := 65) (f := false) p3 (nil_own w3 w3.heap.size w3.heap.size) (nil_own w3 w3.heap.size w3.heap.size) hb3.size (Nat.le_refl _) (Nat.le_refl _)
  clear p3
  have hs3 := hb3.size
  have s2 := HS2.out
  have ba : Below w3.heap.size w3 (w3.alloc (.cells #[.slice b0 (newSS n).length d0, .slice none 0 0, .bool false, .slice none 0 0] 40)) := (Below.refl _ _).alloc (Nat.le_refl _) _
  have xb := Box.new w3 40 #[.slice b0 (newSS n).length d0, .slice none 0 0, .bool false, .slice none 0 0]
  have hs4 : (w3.alloc (.cells #[.slice b0 (newSS n).length d0, .slice none 0 0, .bool false, .slice none 0 0] 40)).heap.size = w3.heap.size + 1 := by simp
  have bb := Below.andThen hb3 ba
  have xa := XA.out.below bb (by omega)
  have O2 := hidden (o2.out.below bb)
  have O3 := hidden (o3.below ba)
  have B4 := hidden (Below.andThen B2.out bb)
  have z2 : w1.heap.size + 1 ≤ w2.heap.size := by omega
  obtain ⟨f0, f1, f2, f3⟩ := xa.cells4
  obtain ⟨g0, g1, g2, g3⟩ := xb.cells4
  have XA4 := hidden xa
  have XB4 := hidden xb
  have HS4 := hidden hs4
  clear xa xb ba bb hb3 o3 o2 B2 XA HS2 s2 hs4
  go_wp2_with fail
  generalize w3.alloc (.cells #[.slice b0 (newSS n).length d0, .slice none 0 0, .bool false, .slice none 0 0] 40) = w4 at B4 O2 O3 XA4 XB4 HS4 f0 f1 f2 f3 g0 g1 g2 g3 ⊢
  have z4 : w3.heap.size + 1 ≤ w4.heap.size := by have := HS4.out; omega
  refine (eqMem_rd _ 65 65 _ _ _ _ _ _ _ (newSS n) [] [] O3.out.rd O2.out.rd hwt).mono ?_
  rintro e w5 ⟨rfl, hb5⟩
  have xb := XB4.out.below hb5 (by omega)
  have xa := XA4.out.below hb5 (by omega)
  have o2 := hidden (O2.out.below hb5)
  have o3 := hidden (O3.out.below hb5)
  have B5 := hidden (Below.andThen B4.out hb5)
  have z5 := hb5.size
  clear f0 f1 f2 f3 g0 g1 g2 g3 O2 O3 XA4 XB4 HS4 B4 hb5
  obtain ⟨g0, g1, g2, g3⟩ := xb.cells4
  have XA5 := hidden xa
  have XB5 := hidden xb
  clear xa xb
  go_wp2_with fail
  refine (markMem_own _ _ _ _ _ _ _ (newSS n) [] [] o3.out (by omega) hwt).mono ?_
  rintro e w6 ⟨rfl, o6, hb6⟩
  have z6 := hb6.size
  have B6 := hidden (Below.andBut B5.out hb6 (by omega))
  have o2' := hidden (o2.out.but hb6 (.inl (by omega)))
  have xa : Box w6 w1.heap.size 40 _ := XA5.out.kept (hb6.block _ (by omega) (.inl (by omega)))
  have xb : Box w6 w3.heap.size 40 _ := XB5.out.kept (hb6.block _ (by omega) (.inr (by omega)))
  have HO6 := hidden o6
  clear g0 g1 g2 g3 XA5 XB5 o2 o3 B5 hb6 o6
  obtain ⟨g0, g1, g2, g3⟩ := xb.cells4
  have XA6 := hidden xa
  have XB6 := hidden xb
  clear xa xb
  go_wp2_with fail
  refine (heldMem_rd _ 65 _ _ _ _ (newSS n) [] [] HO6.out.rd hwt).mono ?_
  rintro e w7 ⟨rfl, hb7⟩
  have z7 := hb7.size
  have B7 := hidden (Below.andThen B6.out hb7)
  have o2 := hidden (o2'.out.below hb7)
  have xa := XA6.out.below hb7 (by omega)
  have xb := XB6.out.below hb7 (by omega)
  have O7 := hidden (HO6.out.below hb7)
  have XA7 := hidden xa
  have XB7 := hidden xb
  generalize hC : cntM (newSS n) [] [] = C at hcp ⊢
  have HC := hidden hC
  clear hC
  clear g0 g1 g2 g3 XA6 XB6 o2' B6 hb7 HO6 xa xb
  go_wp2_with fail
  refine (implMemNew_any _ _).mono ?_
  rintro e w8 ⟨e0, k0, rfl, p8, hb8⟩
  have o8 := mem_own_of (E := 65) (f := false) p8 (nil_own w8 w8.heap.size w8.heap.size) (nil_own w8 w8.heap.size w8.heap.size) hb8.size (Nat.le_refl _) (Nat.le_refl _)
  clear p8
  have z8 := hb8.size
  have ba : Below w8.heap.size w8 (w8.alloc (.cells #[.slice e0 (newSS n).length k0, .slice none 0 0, .bool false, .slice none 0 0] 40)) := (Below.refl _ _).alloc (Nat.le_refl _) _
  have xc := Box.new w8 40 #[.slice e0 (newSS n).length k0, .slice none 0 0, .bool false, .slice none 0 0]
  have hs9 : (w8.alloc (.cells #[.slice e0 (newSS n).length k0, .slice none 0 0, .bool false, .slice none 0 0] 40)).heap.size = w8.heap.size + 1 := by simp
  have bb := Below.andThen hb8 ba
  have xa := XA7.out.below bb (by omega)
  have xb := XB7.out.below bb (by omega)
  have O2 := hidden (o2.out.below bb)
  have O8 := hidden (o8.below ba)
  have O9 := hidden (O7.out.below bb)
  have B9 := hidden (Below.andThen B7.out bb)
  obtain ⟨f0, f1, f2, f3⟩ := xa.cells4
  obtain ⟨g0, g1, g2, g3⟩ := xc.cells4
  have XB9 := hidden xb
  have HS9 := hidden hs9
  clear xa xb xc ba bb hb8 o8 o2 B7 O7 XA7 XB7 hs9
  go_wp2_with fail
  generalize w8.alloc (.cells #[.slice e0 (newSS n).length k0, .slice none 0 0, .bool false, .slice none 0 0] 40) = w9 at B9 O2 O8 O9 XB9 HS9 f0 f1 f2 f3 g0 g1 g2 g3 ⊢
  have z9 : w8.heap.size + 1 ≤ w9.heap.size := by have := HS9.out; omega
  refine (eqMem_rd _ 65 65 _ _ _ _ _ _ _ (newSS n) [] [] O8.out.rd O2.out.rd hwt).mono ?_
  rintro e w10 ⟨rfl, hb10⟩
  have xb := XB9.out.below hb10 (by omega)
  have O10 := hidden (O9.out.below hb10)
  have B10 := hidden (Below.andThen B9.out hb10)
  clear f0 f1 f2 f3 g0 g1 g2 g3 O2 O8 O9 XB9 HS9 B9 hb10
  obtain ⟨g0, g1, g2, g3⟩ := xb.cells4
  clear xb
  go_wp2_with fail
  refine (heldMem_rd _ 65 _ _ _ _ (newSS n) [] [] O10.out.rd hwt).mono ?_
  rintro e w11 ⟨rfl, hb11⟩
  have B11 := hidden (Below.andThen B10.out hb11)
  rw [HC.out]
  clear g0 g1 g2 g3 O10 B10 hb11
  go_wp2
  go_ret
  exact ⟨rfl, B11.out⟩

end Go.Proofs.Ytmkiljflkndmoaj

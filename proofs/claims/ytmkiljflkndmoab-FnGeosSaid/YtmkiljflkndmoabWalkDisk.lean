/-
  The walks of both DiskOf, and of the specification's Blocks, ParityOf, StripeOf, IndexOf and BlockAt. No condition.
-/
import Derived.Test.YtmkiljflkndmoabWalkBlockAt
namespace Go.Proofs.Ytmkiljflkndmoab
open Go.RowKit

theorem blockN_ok {n s t i : Int} (h : spotB n s t i = true) : 0 ≤ blockN n s t i := by
  unfold blockN
  rw [if_pos h]
  unfold spotB at h
  rw [Bool.and_eq_true, stripeB_of, inB_iff] at h
  obtain ⟨⟨hg, h1, h2⟩, h3, h4⟩ := h
  obtain ⟨g1, g2, g3, g4⟩ := geoB_iff.1 hg
  have : n = 3 ∨ n = 4 ∨ n = 5 := by omega
  rcases this with rfl | rfl | rfl <;> omega

theorem spotB_of {n s t i : Int} : spotB n s t i = true ↔ geoB n s = true ∧ 0 ≤ t ∧ t < s ∧ 0 ≤ i ∧ i ≤ n - 2 := by
  unfold spotB
  rw [Bool.and_eq_true, stripeB_of, inB_iff]
  constructor
  · rintro ⟨⟨a, b, c⟩, d, e⟩
    exact ⟨a, b, c, d, e⟩
  · rintro ⟨a, b, c, d, e⟩
    exact ⟨⟨a, b, c⟩, d, e⟩

set_option maxHeartbeats 1600000 in
theorem implDiskOf_any (w : World) (n s t i : Int) : Calls Try.prog 9 #[.agg #[.int .i64 n, .int .i64 s], .int .i64 t, .int .i64 i] w fun e w' => e = .returned (.int .i64 (diskN n s t i)) ∧ Below w.heap.size w w' := by
  have hA := new_below w (.cells #[.int .i64 n, .int .i64 s] 25)
  have X := Gbox.new w 25 n s
  obtain ⟨k0, k1⟩ := X.cells
  have zA := X.lt
  go_enter Try.func9, Try.ntmps9
  go_wp2_with fail
  refine (implBlockAt_any _ _ _ _ _).mono ?_
  rintro e w1 ⟨rfl, b1⟩
  have X1 := X.below b1 zA
  have B1 := Below.andThen hA b1
  clear k0 k1 X b1 hA zA
  obtain ⟨k0, k1⟩ := X1.cells
  by_cases hs : spotB n s t i = true
  · have h0 := blockN_ok hs
    obtain ⟨hg, h1, h2, h3, h4⟩ := spotB_of.1 hs
    obtain ⟨g1, g2, g3, g4⟩ := geoB_iff.1 hg
    have hm1 : 0 ≤ t % n := Int.emod_nonneg _ (by omega)
    have hm2 : t % n < n := Int.emod_lt_of_pos _ (by omega)
    have HP : parN n s t = n - 1 - t % n := by unfold parN; rw [if_pos (stripeB_of.2 ⟨hg, h1, h2⟩)]
    have HPar : ∀ W : World, Calls Try.prog 8 #[.agg #[.int .i64 n, .int .i64 s], .int .i64 t] W fun e w' => e = .returned (.int .i64 (n - 1 - t % n)) ∧ Below W.heap.size W w' := by
      intro W
      rw [← HP]
      exact implParityOf_any _ _ _ _
    have HD : Hid (diskN n s t i = (n - 1 - t % n + 1 + i) % n) := by unfold Hid diskN; rw [if_pos hs]
    clear HP
    generalize t % n = r at hm1 hm2 HPar HD
    have e0 : ¬ blockN n s t i = -1 := by omega
    have e1 : ¬ n = 0 := by omega
    have e2 : (n - 1 - r + 1 + i).tmod n = (n - 1 - r + 1 + i) % n := Int.tmod_eq_emod_of_nonneg (by omega)
    have e3 : IntKind.i64.wrap (n - 1 - r + 1) = n - 1 - r + 1 := IntWalk.i64_in _ (by omega)
    have e4 : IntKind.i64.wrap (n - 1 - r + 1 + i) = n - 1 - r + 1 + i := IntWalk.i64_in _ (by omega)
    have e5 : (blockN n s t i == -1) = false := by simpa using e0
    go_wp2_with fail
    go_region_held3 (fun w' => w'.cell? ⟨w.heap.size, 0, none⟩ = some (.int .i64 n) ∧ w'.cell? ⟨w.heap.size, 1, none⟩ = some (.int .i64 s))
      (first | (exact X2.cells) | (exact X1.cells) | go_keep)
      (first
        | (go_at_call 8; refine (HPar _).mono ?_; rintro e w2 ⟨rfl, b2⟩; have B2 := Below.andThen B1.drew b2; have X2 := X1.drew.below b2 X1.lt))
    go_wp2
    go_ret
    exact ⟨ret_int HD.out.symm, B2⟩
  · have e0 : blockN n s t i = -1 := by unfold blockN; rw [if_neg hs]
    have e5 : (blockN n s t i == -1) = true := by simpa using e0
    go_wp2
    go_ret
    exact ⟨ret_int (by unfold diskN; rw [if_neg hs]), B1⟩

end Go.Proofs.Ytmkiljflkndmoab

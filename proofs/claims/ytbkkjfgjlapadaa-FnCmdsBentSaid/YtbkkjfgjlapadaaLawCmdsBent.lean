/-
  The walk of the law of commands, bent or not: whatever bytes it draws from, it answers true, and nothing that was there has turned. No condition.
-/
import Derived.Test.YtbkkjfgjlapadaaWalkDrawBent16
import Derived.Test.YtbkkjfgjlapadaaWalkStepsI
import Derived.Test.YtbkkjfgjlapadaaWalkStepsS
import Derived.Test.YtbkkjfgjlapadaaWalkBig
namespace Go.Proofs.Ytbkkjfgjlapadaa
open Go.RowKit

theorem steps_pos {gn gs o d b k : Int} {zs : List Int} (h : codeC gn gs o d b k zs = 0) : 0 < stepsC gn gs o d b k zs := by
  rw [steps_good h]
  obtain ⟨h1, h2, h3⟩ := code_good13 h
  obtain ⟨l0, l1, l2⟩ := size_len h2
  obtain ⟨_, _, e0, _, _⟩ := good_small h
  have hin : inB o 1 6 = true := by
    unfold formC at h1
    simp only [Bool.and_eq_true] at h1
    exact h1.1.2
  unfold partsC
  split
  · rename_i h3o
    have l3 := l2 (by omega) hin
    rcases h3 with h3 | ⟨hb0, hb1⟩
    · omega
    · generalize lenC o k zs = m at *
      have hg : geoB gn gs = true := by
        unfold formC at h1
        simp only [Bool.and_eq_true] at h1
        exact h1.1.1
      have hb : blockB gn gs b = true := blockB_of.2 ⟨hb0, by omega⟩
      have hb' : blockB gn gs (b + m - 1) = true := blockB_of.2 ⟨by omega, by omega⟩
      unfold stripeN
      rw [if_pos hb, if_pos hb']
      obtain ⟨g1, g2, _, _⟩ := geoB_iff.1 hg
      have : gn = 3 ∨ gn = 4 ∨ gn = 5 := by omega
      rcases this with rfl | rfl | rfl <;> omega
  · split
    · omega
    · split
      · omega
      · have := l2 (by assumption) hin
        omega

set_option maxRecDepth 20000 in
set_option maxHeartbeats 8000000 in
theorem fnCmdsBent_walk (a0 : Option Addr) (len0 cap0 : Nat) (z0 : List Int) (w : World) (w0 : IsRow .u8 w a0 len0 cap0 z0) :
    Calls Try.prog 3 #[.slice a0 len0 cap0] w fun e w' => e = .returned (.bool true) ∧ Below w.heap.size w w' := by
  obtain ⟨hr, hl, hwf, hml⟩ := w0.reads
  generalize z0.take len0 = zs at hr hl hwf
  unfold maxLen at hml
  have hby := bytes_of_wf hwf
  clear w0 hwf
  by_cases hbig : len0 ≤ 1048576
  rotate_left
  · go_enter Try.func3, Try.ntmps3
    go_wp2_with fail
    refine (big_any _ _ _ _).mono ?_
    rintro e wb ⟨rfl, rfl⟩
    go_wp2
    go_ret
    exact ⟨rfl, Below.refl _ _⟩
  have hlb : len0 ≤ 2097152 := by omega
  go_enter Try.func3, Try.ntmps3
  go_wp2_with fail
  refine (big_any _ _ _ _).mono ?_
  rintro e wb ⟨rfl, rfl⟩
  have HBY := hidden hby
  have HR := hidden hr
  clear hml hby hr
  go_wp2_with fail
  clear hbig
  refine (drawCmdCode_any _ _ _ _ zs hl HR.out HBY.out hlb).mono ?_
  rintro e w1 ⟨gn1, gs1, o1, d1, b1, k1, a1, c1, ds1, rfl, hl1, O, B⟩
  have O1 := hidden O
  clear O
  go_wp2_with fail
  refine seal_new2 ?_
  intro V1 G1 C1 b
  have O1 := hidden (O1.out.below b)
  have B := Below.andThen B b
  clear b
  have hP1 : ∃ P, spanC gn1 gs1 o1 d1 b1 k1 ds1 = P := ⟨_, rfl⟩
  obtain ⟨P, hP⟩ := hP1
  have HP := hidden hP
  clear hP
  obtain ⟨p0, p1⟩ := P
  refine (implSpanOf_any _ gn1 gs1 o1 d1 b1 k1 _ _ _ ds1 rfl (ints_rd O1.out.rd).1 (by omega)).mono ?_
  rintro e w2 ⟨rfl, b⟩
  rw [HP.out]
  have G1 := G1.below b G1.lt
  have C1 := C1.below b C1.lt
  have O1 := hidden (O1.out.below b)
  have B := Below.andThen B b
  clear b
  go_wp2_with (first | (refine wpList_load_box rfl _ _ rfl rfl G1 _ Try.underlying25 rfl Try.szGeo16 ?_) | (refine wpList_load_box rfl _ _ rfl rfl C1 _ Try.underlying28 rfl Try.szCmd15 ?_) | fail)
  refine (specSpanOf_any _ gn1 gs1 o1 d1 b1 k1 _ _ _ ds1 rfl (ints_rd O1.out.rd).1 (by omega)).mono ?_
  rintro e w3 ⟨rfl, b⟩
  rw [HP.out]
  have G1 := G1.below b G1.lt
  have C1 := C1.below b C1.lt
  have O1 := hidden (O1.out.below b)
  have B := Below.andThen B b
  clear b
  go_wp2_with fail
  refine (drawClash_any _ _ _ _ zs hl (HR.out.below B) HBY.out hlb).mono ?_
  rintro e w4 ⟨gn2, gs2, o2, d2, b2, k2, a2, c2, ds2, o3, d3, b3, k3, a3, c3, ds3, rfl, hl2, hl3, Oa, Ob, b⟩
  have G1 := G1.below b G1.lt
  have C1 := C1.below b C1.lt
  have O1 := hidden (O1.out.below b)
  have B := Below.andThen B b
  have O2 := hidden Oa
  have O3 := hidden Ob
  clear Oa Ob b
  go_wp2_with fail
  refine seal_new3 ?_
  intro V2 G2 C2 C3 b
  have G1 := G1.below b G1.lt
  have C1 := C1.below b C1.lt
  have O1 := hidden (O1.out.below b)
  have O2 := hidden (O2.out.below b)
  have O3 := hidden (O3.out.below b)
  have B := Below.andThen B b
  clear b
  refine (drawStepsOf_any _ _ _ _ zs hl (HR.out.below B) HBY.out hlb).mono ?_
  rintro e w5 ⟨gn3, gs3, o4, d4, b4, k4, a4, c4, ds4, rfl, hl4, Oa, b⟩
  have G1 := G1.below b G1.lt
  have C1 := C1.below b C1.lt
  have G2 := G2.below b G2.lt
  have C2 := C2.below b C2.lt
  have C3 := C3.below b C3.lt
  have O1 := hidden (O1.out.below b)
  have O2 := hidden (O2.out.below b)
  have O3 := hidden (O3.out.below b)
  have B := Below.andThen B b
  have O4 := hidden Oa
  clear Oa b
  go_wp2_with fail
  refine seal_new2C ?_
  intro W G3 C4 b
  have G1 := G1.below b G1.lt
  have C1 := C1.below b C1.lt
  have G2 := G2.below b G2.lt
  have C2 := C2.below b C2.lt
  have C3 := C3.below b C3.lt
  have O1 := hidden (O1.out.below b)
  have O2 := hidden (O2.out.below b)
  have O3 := hidden (O3.out.below b)
  have O4 := hidden (O4.out.below b)
  have B := Below.andThen B b
  clear b
  have hpos := @steps_pos gn1 gs1 o1 d1 b1 k1 ds1
  have hbad := @steps_bad gn1 gs1 o1 d1 b1 k1 ds1
  obtain ⟨x1, hx1⟩ : ∃ x1, codeC gn1 gs1 o1 d1 b1 k1 ds1 = x1 := ⟨_, rfl⟩
  obtain ⟨x2, hx2⟩ : ∃ x2, metC (spanC gn2 gs2 o2 d2 b2 k2 ds2) (spanC gn2 gs2 o3 d3 b3 k3 ds3) = x2 := ⟨_, rfl⟩
  obtain ⟨x3, hx3⟩ : ∃ x3, stepsC gn3 gs3 o4 d4 b4 k4 ds4 = x3 := ⟨_, rfl⟩
  obtain ⟨x4, hx4⟩ : ∃ x4, stepsC gn1 gs1 o1 d1 b1 k1 ds1 = x4 := ⟨_, rfl⟩
  rw [hx1, hx4] at hpos hbad
  have H1 := hidden hx1
  have H2 := hidden hx2
  have H3 := hidden hx3
  have H4 := hidden hx4
  clear hx1 hx2 hx3 hx4 HP
  have e2 : (x2 == x2) = true := by cases x2 <;> rfl
  have hg : ∃ q : Bool, decide (0 < x4) = q ∧ (x1 == 0) = q := by
    by_cases h : x1 = 0
    · exact ⟨true, by simpa using hpos h, by simpa using h⟩
    · exact ⟨false, by rw [hbad h]; rfl, by simpa using h⟩
  obtain ⟨q, hq4, hq1⟩ := hg
  clear hpos hbad
  have eq : (q == q) = true := by cases q <;> rfl
  have hall : Box W w1.heap.size 25 #[.int .i64 gn1, .int .i64 gs1] ∧ Box W (w1.heap.size + 1) 28 #[.int .i64 o1, .int .i64 d1, .int .i64 b1, .int .i64 k1, .slice a1 ds1.length c1] ∧ Box W w4.heap.size 25 #[.int .i64 gn2, .int .i64 gs2] ∧ Box W (w4.heap.size + 1) 28 #[.int .i64 o2, .int .i64 d2, .int .i64 b2, .int .i64 k2, .slice a2 ds2.length c2] ∧ Box W (w4.heap.size + 1 + 1) 28 #[.int .i64 o3, .int .i64 d3, .int .i64 b3, .int .i64 k3, .slice a3 ds3.length c3] ∧ Box W w5.heap.size 25 #[.int .i64 gn3, .int .i64 gs3] ∧ Box W (w5.heap.size + 1) 28 #[.int .i64 o4, .int .i64 d4, .int .i64 b4, .int .i64 k4, .slice a4 ds4.length c4] := ⟨G1, C1, G2, C2, C3, G3, C4⟩
  refine wp_region_held_drew (S := fun w' => Box w' w1.heap.size 25 #[.int .i64 gn1, .int .i64 gs1] ∧ Box w' (w1.heap.size + 1) 28 #[.int .i64 o1, .int .i64 d1, .int .i64 b1, .int .i64 k1, .slice a1 ds1.length c1] ∧ Box w' w4.heap.size 25 #[.int .i64 gn2, .int .i64 gs2] ∧ Box w' (w4.heap.size + 1) 28 #[.int .i64 o2, .int .i64 d2, .int .i64 b2, .int .i64 k2, .slice a2 ds2.length c2] ∧ Box w' (w4.heap.size + 1 + 1) 28 #[.int .i64 o3, .int .i64 d3, .int .i64 b3, .int .i64 k3, .slice a3 ds3.length c3] ∧ Box w' w5.heap.size 25 #[.int .i64 gn3, .int .i64 gs3] ∧ Box w' (w5.heap.size + 1) 28 #[.int .i64 o4, .int .i64 d4, .int .i64 b4, .int .i64 k4, .slice a4 ds4.length c4]) (by kernel_rfl) hall (fun hHeld => ?_)
  clear hall
  have bq : Below W.heap.size W W.drew := (Below.refl _ _).drew
  have O1 := hidden (O1.out.below bq)
  have O2 := hidden (O2.out.below bq)
  have O3 := hidden (O3.out.below bq)
  have O4 := hidden (O4.out.below bq)
  have B := Below.andThen B bq
  clear bq
  have G1 : Box W.drew _ _ _ := G1
  have C1 : Box W.drew _ _ _ := C1
  have G2 : Box W.drew _ _ _ := G2
  have C2 : Box W.drew _ _ _ := C2
  have C3 : Box W.drew _ _ _ := C3
  have G3 : Box W.drew _ _ _ := G3
  have C4 : Box W.drew _ _ _ := C4
  generalize W.drew = W at O1 O2 O3 O4 G1 C1 G2 C2 C3 G3 C4 B hHeld ⊢
  refine held_load 0 (fun _ h => h.1) Try.underlying25 Try.szGeo16 hHeld ?_
  refine held_load 1 (fun _ h => h.2.1) Try.underlying28 Try.szCmd15 hHeld ?_
  refine held_load 3 (fun _ h => h.1) Try.underlying25 Try.szGeo16 hHeld ?_
  refine held_load 4 (fun _ h => h.2.1) Try.underlying28 Try.szCmd15 hHeld ?_
  refine held_one (i := 2) (by kernel_rfl) rfl (by kernel_rfl) (fun K hK => ?_)
  go_simp
  refine (implCmdCode_any _ gn1 gs1 o1 d1 b1 k1 _ _ _ ds1 rfl (ints_rd O1.out.rd).1 (by omega)).mono ?_
  rintro e w6 ⟨rfl, b⟩
  rw [H1.out]
  have G1 := G1.below b G1.lt
  have C1 := C1.below b C1.lt
  have G2 := G2.below b G2.lt
  have C2 := C2.below b C2.lt
  have C3 := C3.below b C3.lt
  have G3 := G3.below b G3.lt
  have C4 := C4.below b C4.lt
  have O1 := hidden (O1.out.below b)
  have O2 := hidden (O2.out.below b)
  have O3 := hidden (O3.out.below b)
  have O4 := hidden (O4.out.below b)
  have B := Below.andThen B b
  clear b hHeld
  go_wp2_with fail
  refine hK.out _ _ ⟨G1, C1, G2, C2, C3, G3, C4⟩ (fun hHeld => ?_)
  clear hK K
  refine held_one (i := 5) (by kernel_rfl) rfl (by kernel_rfl) (fun K hK => ?_)
  go_simp
  refine (specCmdCode_any _ gn1 gs1 o1 d1 b1 k1 _ _ _ ds1 rfl (ints_rd O1.out.rd).1 (by omega)).mono ?_
  rintro e w7 ⟨rfl, b⟩
  rw [H1.out]
  have G1 := G1.below b G1.lt
  have C1 := C1.below b C1.lt
  have G2 := G2.below b G2.lt
  have C2 := C2.below b C2.lt
  have C3 := C3.below b C3.lt
  have G3 := G3.below b G3.lt
  have C4 := C4.below b C4.lt
  have O1 := hidden (O1.out.below b)
  have O2 := hidden (O2.out.below b)
  have O3 := hidden (O3.out.below b)
  have O4 := hidden (O4.out.below b)
  have B := Below.andThen B b
  clear b hHeld
  go_wp2_with fail
  refine hK.out _ _ ⟨G1, C1, G2, C2, C3, G3, C4⟩ (fun hHeld => ?_)
  clear hK K
  refine held_t 6 hHeld ?_
  refine held_t 7 hHeld ?_
  refine held_t 8 hHeld ?_
  refine held_t 9 hHeld ?_
  refine held_t 10 hHeld ?_
  refine held_t 11 hHeld ?_
  refine held_t 12 hHeld ?_
  refine held_t 13 hHeld ?_
  refine held_t 14 hHeld ?_
  refine held_t 15 hHeld ?_
  refine held_t 16 hHeld ?_
  refine held_t 17 hHeld ?_
  refine held_load 18 (fun _ h => h.2.2.1) Try.underlying25 Try.szGeo16 hHeld ?_
  refine held_load 19 (fun _ h => h.2.2.2.1) Try.underlying28 Try.szCmd15 hHeld ?_
  refine held_load 20 (fun _ h => h.2.2.2.2.1) Try.underlying28 Try.szCmd15 hHeld ?_
  refine held_load 22 (fun _ h => h.2.2.1) Try.underlying25 Try.szGeo16 hHeld ?_
  refine held_load 23 (fun _ h => h.2.2.2.1) Try.underlying28 Try.szCmd15 hHeld ?_
  refine held_load 24 (fun _ h => h.2.2.2.2.1) Try.underlying28 Try.szCmd15 hHeld ?_
  refine held_one (i := 21) (by kernel_rfl) rfl (by kernel_rfl) (fun K hK => ?_)
  go_simp
  refine (implClash_any _ gn2 gs2 o2 d2 b2 k2 _ _ _ ds2 o3 d3 b3 k3 _ _ _ ds3 rfl (ints_rd O2.out.rd).1 (by omega) rfl (ints_rd O3.out.rd).1 (by omega)).mono ?_
  rintro e w8 ⟨rfl, b⟩
  rw [H2.out]
  have G1 := G1.below b G1.lt
  have C1 := C1.below b C1.lt
  have G2 := G2.below b G2.lt
  have C2 := C2.below b C2.lt
  have C3 := C3.below b C3.lt
  have G3 := G3.below b G3.lt
  have C4 := C4.below b C4.lt
  have O1 := hidden (O1.out.below b)
  have O2 := hidden (O2.out.below b)
  have O3 := hidden (O3.out.below b)
  have O4 := hidden (O4.out.below b)
  have B := Below.andThen B b
  clear b hHeld
  go_wp2_with fail
  refine hK.out _ _ ⟨G1, C1, G2, C2, C3, G3, C4⟩ (fun hHeld => ?_)
  clear hK K
  refine held_one (i := 25) (by kernel_rfl) rfl (by kernel_rfl) (fun K hK => ?_)
  go_simp
  refine (specClash_any _ gn2 gs2 o2 d2 b2 k2 _ _ _ ds2 o3 d3 b3 k3 _ _ _ ds3 rfl (ints_rd O2.out.rd).1 (by omega) rfl (ints_rd O3.out.rd).1 (by omega)).mono ?_
  rintro e w9 ⟨rfl, b⟩
  rw [H2.out]
  have G1 := G1.below b G1.lt
  have C1 := C1.below b C1.lt
  have G2 := G2.below b G2.lt
  have C2 := C2.below b C2.lt
  have C3 := C3.below b C3.lt
  have G3 := G3.below b G3.lt
  have C4 := C4.below b C4.lt
  have O1 := hidden (O1.out.below b)
  have O2 := hidden (O2.out.below b)
  have O3 := hidden (O3.out.below b)
  have O4 := hidden (O4.out.below b)
  have B := Below.andThen B b
  clear b hHeld
  go_wp2_with fail
  refine hK.out _ _ ⟨G1, C1, G2, C2, C3, G3, C4⟩ (fun hHeld => ?_)
  clear hK K
  refine held_t 26 hHeld ?_
  refine held_t 27 hHeld ?_
  refine held_t 28 hHeld ?_
  refine held_load 29 (fun _ h => h.2.2.2.2.2.1) Try.underlying25 Try.szGeo16 hHeld ?_
  refine held_load 30 (fun _ h => h.2.2.2.2.2.2) Try.underlying28 Try.szCmd15 hHeld ?_
  refine held_load 32 (fun _ h => h.2.2.2.2.2.1) Try.underlying25 Try.szGeo16 hHeld ?_
  refine held_load 33 (fun _ h => h.2.2.2.2.2.2) Try.underlying28 Try.szCmd15 hHeld ?_
  refine held_one (i := 31) (by kernel_rfl) rfl (by kernel_rfl) (fun K hK => ?_)
  go_simp
  refine (implStepsOf_any _ gn3 gs3 o4 d4 b4 k4 _ _ _ ds4 rfl (ints_rd O4.out.rd).1 (by omega)).mono ?_
  rintro e w10 ⟨rfl, b⟩
  rw [H3.out]
  have G1 := G1.below b G1.lt
  have C1 := C1.below b C1.lt
  have G2 := G2.below b G2.lt
  have C2 := C2.below b C2.lt
  have C3 := C3.below b C3.lt
  have G3 := G3.below b G3.lt
  have C4 := C4.below b C4.lt
  have O1 := hidden (O1.out.below b)
  have O2 := hidden (O2.out.below b)
  have O3 := hidden (O3.out.below b)
  have O4 := hidden (O4.out.below b)
  have B := Below.andThen B b
  clear b hHeld
  go_wp2_with fail
  refine hK.out _ _ ⟨G1, C1, G2, C2, C3, G3, C4⟩ (fun hHeld => ?_)
  clear hK K
  refine held_one (i := 34) (by kernel_rfl) rfl (by kernel_rfl) (fun K hK => ?_)
  go_simp
  refine (specStepsOf_any _ gn3 gs3 o4 d4 b4 k4 _ _ _ ds4 rfl (ints_rd O4.out.rd).1 (by omega)).mono ?_
  rintro e w11 ⟨rfl, b⟩
  rw [H3.out]
  have G1 := G1.below b G1.lt
  have C1 := C1.below b C1.lt
  have G2 := G2.below b G2.lt
  have C2 := C2.below b C2.lt
  have C3 := C3.below b C3.lt
  have G3 := G3.below b G3.lt
  have C4 := C4.below b C4.lt
  have O1 := hidden (O1.out.below b)
  have O2 := hidden (O2.out.below b)
  have O3 := hidden (O3.out.below b)
  have O4 := hidden (O4.out.below b)
  have B := Below.andThen B b
  clear b hHeld
  go_wp2_with fail
  refine hK.out _ _ ⟨G1, C1, G2, C2, C3, G3, C4⟩ (fun hHeld => ?_)
  clear hK K
  refine held_t 35 hHeld ?_
  refine held_t 36 hHeld ?_
  refine held_t 37 hHeld ?_
  refine held_load 38 (fun _ h => h.1) Try.underlying25 Try.szGeo16 hHeld ?_
  refine held_load 39 (fun _ h => h.2.1) Try.underlying28 Try.szCmd15 hHeld ?_
  refine held_load 42 (fun _ h => h.1) Try.underlying25 Try.szGeo16 hHeld ?_
  refine held_load 43 (fun _ h => h.2.1) Try.underlying28 Try.szCmd15 hHeld ?_
  refine held_one (i := 40) (by kernel_rfl) rfl (by kernel_rfl) (fun K hK => ?_)
  go_simp
  refine (implStepsOf_any _ gn1 gs1 o1 d1 b1 k1 _ _ _ ds1 rfl (ints_rd O1.out.rd).1 (by omega)).mono ?_
  rintro e w12 ⟨rfl, b⟩
  rw [H4.out]
  have G1 := G1.below b G1.lt
  have C1 := C1.below b C1.lt
  have G2 := G2.below b G2.lt
  have C2 := C2.below b C2.lt
  have C3 := C3.below b C3.lt
  have G3 := G3.below b G3.lt
  have C4 := C4.below b C4.lt
  have O1 := hidden (O1.out.below b)
  have O2 := hidden (O2.out.below b)
  have O3 := hidden (O3.out.below b)
  have O4 := hidden (O4.out.below b)
  have B := Below.andThen B b
  clear b hHeld
  go_wp2_with fail
  refine hK.out _ _ ⟨G1, C1, G2, C2, C3, G3, C4⟩ (fun hHeld => ?_)
  clear hK K
  refine held_t 41 hHeld ?_
  refine held_one (i := 44) (by kernel_rfl) rfl (by kernel_rfl) (fun K hK => ?_)
  go_simp
  refine (implCmdCode_any _ gn1 gs1 o1 d1 b1 k1 _ _ _ ds1 rfl (ints_rd O1.out.rd).1 (by omega)).mono ?_
  rintro e w13 ⟨rfl, b⟩
  rw [H1.out]
  have G1 := G1.below b G1.lt
  have C1 := C1.below b C1.lt
  have G2 := G2.below b G2.lt
  have C2 := C2.below b C2.lt
  have C3 := C3.below b C3.lt
  have G3 := G3.below b G3.lt
  have C4 := C4.below b C4.lt
  have O1 := hidden (O1.out.below b)
  have O2 := hidden (O2.out.below b)
  have O3 := hidden (O3.out.below b)
  have O4 := hidden (O4.out.below b)
  have B := Below.andThen B b
  clear b hHeld
  go_wp2_with fail
  refine hK.out _ _ ⟨G1, C1, G2, C2, C3, G3, C4⟩ (fun hHeld => ?_)
  clear hK K
  refine held_t 45 hHeld ?_
  refine held_t 46 hHeld ?_
  refine held_t 47 hHeld ?_
  refine held_t 48 hHeld ?_
  refine wpAnyH_done (by kernel_rfl) ?_ _
  clear hHeld G1 C1 G2 C2 C3 G3 C4
  have HB := hidden B
  clear B
  go_wp2
  go_ret
  exact ⟨rfl, HB.out⟩

end Go.Proofs.Ytbkkjfgjlapadaa

/-
  What spec.DrawCmdCode, DrawClash and DrawStepsOf draw: a Geo and commands, right or not. Condition: at most 2097152 bytes to draw from.
-/
import Derived.Test.YtbkkjfgjlapadaaWalkL13Any
import Derived.Test.YtbkkjfgjlapadaaWalkDrawGeo
import Derived.Test.YtbkkjfgjlapadaaSealC15
import Derived.Test.YtbkkjfgjlapadaaHeldLoad15
import Derived.Test.YtbkkjfgjlapadaaCopy15
namespace Go.Proofs.Ytbkkjfgjlapadaa
open Go.RowKit

theorem Try.szGeo16 : (Try.prog.info? 25).map (·.size) = some 2 := by kernel_rfl
theorem But.ofDrewB {lo hi : Nat} {w w' : World} (h : But lo hi w.drew w') : But lo hi w w' := ⟨h.os, h.tape, h.output, h.size, h.block⟩

set_option maxRecDepth 20000 in
set_option maxHeartbeats 4000000 in
theorem drawCmdCode_any (w : World) (a : Option Addr) (lb cb : Nat) (zs : List Int) (hz : zs.length = lb) (hr : Reads .u8 w a zs) (hby : ∀ n ∈ zs, 0 ≤ n ∧ n ≤ 255) (hlb : lb ≤ 2097152) :
    Calls Try.prog 6 #[.slice a lb cb] w fun e w' => ∃ (gn gs : Int) (o1 d1 b1 k1 : Int) (a1 : Option Addr) (c1 : Nat) (ds1 : List Int), e = .returned (.tuple #[.agg #[.int .i64 gn, .int .i64 gs], .agg #[.int .i64 o1, .int .i64 d1, .int .i64 b1, .int .i64 k1, .slice a1 ds1.length c1]]) ∧ ds1.length ≤ 7 ∧ tIntS.Own w' w.heap.size w'.heap.size [.slice a1 ds1.length c1] ds1 ∧ Below w.heap.size w w' := by
  go_enter Try.func6, Try.ntmps6
  go_wp2_with fail
  refine seal_new2 ?_
  intro V P Q B
  have zB := B.size
  have zP := P.lt
  have zQ := Q.lt
  refine (l1New_any _ _ _ _ zs hz (hr.below B) hlb).mono ?_
  rintro e w1 ⟨rfl, hc1, b1⟩
  have hR := (hr.below B).below b1
  have D : Draws w1 V.heap.size a lb cb zs := ⟨hc1, hz, hR, hby, hlb, (hr.below B).ahead hz⟩
  clear hc1 hR
  have P := P.below b1 zP
  have Q := Q.below b1 zQ
  have B := Below.andThen B b1
  have z1 := D.lt
  clear b1 hr hby
  obtain ⟨g, hg⟩ : ∃ g, g = V.heap.size := ⟨_, rfl⟩
  rw [← hg] at D z1 zP zQ
  simp only [← hg]
  clear hg
  go_wp2_with fail
  refine (l3Any_any D).mono ?_
  rintro e w2 ⟨gn, gs, rfl, _, D, b2⟩
  have P := P.kept (b2.block _ (by omega) (by omega))
  have Q := Q.kept (b2.block _ (by omega) (by omega))
  have B := B.trans (b2.below (B := w.heap.size) (by omega) (by omega))
  have z2 := b2.size
  clear b2
  go_wp2_with fail
  refine seal_newC ?_
  intro W G b3
  have zG := G.lt
  have D := D.lower b3 D.lt
  have P := P.below b3 (by omega)
  have Q := Q.below b3 (by omega)
  have B := Below.andThen B b3
  have z3 := b3.size
  clear b3
  have nG : ¬ w2.heap.size = g := by omega
  refine wp_region_held_drew (S := fun w' => Box w' w2.heap.size 25 #[.int .i64 gn, .int .i64 gs]) (by kernel_rfl) G (fun hHeld => ?_)
  refine held_load 0 (fun _ h => h) Try.underlying25 Try.szGeo16 hHeld ?_
  refine held_t 1 hHeld ?_
  refine held_load 2 (fun _ h => h) Try.underlying25 Try.szGeo16 hHeld ?_
  refine held_one (i := 3) (by kernel_rfl) rfl (by kernel_rfl) (fun K hK => ?_)
  go_simp
  refine (l13Any_any D.drew gn gs).mono ?_
  rintro e w6 ⟨o1, d1, b1, k1, a1, c1, ds1, rfl, hl1, O1, _, b6⟩
  have b6 := But.ofDrewB b6
  have O1 : tIntS.Own w6 W.heap.size w6.heap.size _ _ := O1
  have P := P.kept (b6.block _ (by omega) (by omega))
  have Q := Q.kept (b6.block _ (by omega) (by omega))
  have G := G.kept (b6.block _ (by omega) (by omega))
  have B := B.trans (b6.below (B := w.heap.size) (by omega) (by omega))
  have z6 := b6.size
  go_wp2_with fail
  clear hHeld b6
  refine hK.out _ _ G (fun hHeld => ?_)
  clear hK K
  refine held_one (i := 4) (by kernel_rfl) rfl (by kernel_rfl) (fun K hK => ?_)
  refine wp_store_box _ _ _ rfl rfl rfl P rfl Try.szGeo16 (by rfl) (fun W7 N7 h7 s7 => ?_)
  clear hHeld
  have Q := Q.kept (h7.block _ (by have := Q.lt; omega) (by omega))
  have G := G.kept (h7.block _ (by have := G.lt; omega) (by omega))
  have P := N7
  have O1 := O1.but h7 (by omega)
  have B := Below.andBut B h7 (by omega)
  clear N7 h7
  refine hK.out _ _ G (fun hHeld => ?_)
  clear hK K
  refine held_one (i := 5) (by kernel_rfl) rfl (by kernel_rfl) (fun K hK => ?_)
  refine wp_store_box _ _ _ rfl rfl rfl Q rfl Try.szCmd15 (by rfl) (fun W8 N8 h8 s8 => ?_)
  clear hHeld
  have P := P.kept (h8.block _ (by have := P.lt; omega) (by omega))
  have G := G.kept (h8.block _ (by have := G.lt; omega) (by omega))
  have Q := N8
  have O1 := O1.but h8 (by omega)
  have B := Below.andBut B h8 (by omega)
  clear N8 h8
  refine hK.out _ _ G (fun hHeld => ?_)
  clear hK K
  clear hHeld
  refine wpAnyH_done (by kernel_rfl) ?_ _
  obtain ⟨p0, p1⟩ := P.cells2
  obtain ⟨q0, q1, q2, q3, q4⟩ := Q.cells5
  have KB := hidden B
  have KO1 := hidden (O1.widen (show w.heap.size ≤ W.heap.size by omega) (show w6.heap.size ≤ W8.heap.size by omega))
  clear P Q G B O1 D
  go_wp2
  refine bodyPost_ret (v := .tuple #[.agg #[.int .i64 gn, .int .i64 gs], .agg #[.int .i64 o1, .int .i64 d1, .int .i64 b1, .int .i64 k1, .slice a1 ds1.length c1]]) (by simp [results, Try.results6, go_sem, p0, p1, q0, q1, q2, q3, q4]) rfl ⟨gn, gs, o1, d1, b1, k1, a1, c1, ds1, rfl, hl1, KO1.out, KB.out⟩

set_option maxRecDepth 20000 in
set_option maxHeartbeats 4000000 in
theorem drawClash_any (w : World) (a : Option Addr) (lb cb : Nat) (zs : List Int) (hz : zs.length = lb) (hr : Reads .u8 w a zs) (hby : ∀ n ∈ zs, 0 ≤ n ∧ n ≤ 255) (hlb : lb ≤ 2097152) :
    Calls Try.prog 9 #[.slice a lb cb] w fun e w' => ∃ (gn gs : Int) (o1 d1 b1 k1 : Int) (a1 : Option Addr) (c1 : Nat) (ds1 : List Int) (o2 d2 b2 k2 : Int) (a2 : Option Addr) (c2 : Nat) (ds2 : List Int), e = .returned (.tuple #[.agg #[.int .i64 gn, .int .i64 gs], .agg #[.int .i64 o1, .int .i64 d1, .int .i64 b1, .int .i64 k1, .slice a1 ds1.length c1], .agg #[.int .i64 o2, .int .i64 d2, .int .i64 b2, .int .i64 k2, .slice a2 ds2.length c2]]) ∧ ds1.length ≤ 7 ∧ ds2.length ≤ 7 ∧ tIntS.Own w' w.heap.size w'.heap.size [.slice a1 ds1.length c1] ds1 ∧ tIntS.Own w' w.heap.size w'.heap.size [.slice a2 ds2.length c2] ds2 ∧ Below w.heap.size w w' := by
  go_enter Try.func9, Try.ntmps9
  go_wp2_with fail
  refine seal_new3 ?_
  intro V P Q R B
  have zB := B.size
  have zP := P.lt
  have zQ := Q.lt
  have zR := R.lt
  refine (l1New_any _ _ _ _ zs hz (hr.below B) hlb).mono ?_
  rintro e w1 ⟨rfl, hc1, b1⟩
  have hR := (hr.below B).below b1
  have D : Draws w1 V.heap.size a lb cb zs := ⟨hc1, hz, hR, hby, hlb, (hr.below B).ahead hz⟩
  clear hc1 hR
  have P := P.below b1 zP
  have Q := Q.below b1 zQ
  have R := R.below b1 zR
  have B := Below.andThen B b1
  have z1 := D.lt
  clear b1 hr hby
  obtain ⟨g, hg⟩ : ∃ g, g = V.heap.size := ⟨_, rfl⟩
  rw [← hg] at D z1 zP zQ zR
  simp only [← hg]
  clear hg
  go_wp2_with fail
  refine (l3Any_any D).mono ?_
  rintro e w2 ⟨gn, gs, rfl, _, D, b2⟩
  have P := P.kept (b2.block _ (by omega) (by omega))
  have Q := Q.kept (b2.block _ (by omega) (by omega))
  have R := R.kept (b2.block _ (by omega) (by omega))
  have B := B.trans (b2.below (B := w.heap.size) (by omega) (by omega))
  have z2 := b2.size
  clear b2
  go_wp2_with fail
  refine seal_new ?_
  intro V3 G b3
  have zG := G.lt
  have D := D.lower b3 D.lt
  have P := P.below b3 (by omega)
  have Q := Q.below b3 (by omega)
  have R := R.below b3 (by omega)
  have B := Below.andThen B b3
  have z3 := b3.size
  clear b3
  refine (l13Any_any D gn gs).mono ?_
  rintro e w4 ⟨o1, d1, b1, k1, a1, c1, ds1, rfl, hl1, O, D, b4⟩
  have P := P.kept (b4.block _ (by omega) (by omega))
  have Q := Q.kept (b4.block _ (by omega) (by omega))
  have R := R.kept (b4.block _ (by omega) (by omega))
  have G := G.kept (b4.block _ (by omega) (by omega))
  have B := B.trans (b4.below (B := w.heap.size) (by omega) (by omega))
  have z4 := b4.size
  clear b4
  go_wp2_with fail
  refine seal_newC ?_
  intro W X b5
  have zX := X.lt
  have D := D.lower b5 D.lt
  have O := O.below b5
  have P := P.below b5 (by omega)
  have Q := Q.below b5 (by omega)
  have R := R.below b5 (by omega)
  have G := G.below b5 (by omega)
  have B := Below.andThen B b5
  have z5 := b5.size
  clear b5
  refine wp_region_held_drew (S := fun w' => Box w' w2.heap.size 25 #[.int .i64 gn, .int .i64 gs] ∧ Box w' w4.heap.size 28 #[.int .i64 o1, .int .i64 d1, .int .i64 b1, .int .i64 k1, .slice a1 ds1.length c1]) (by kernel_rfl) ⟨G, X⟩ (fun hHeld => ?_)
  refine held_load 0 (fun _ h => h.1) Try.underlying25 Try.szGeo16 hHeld ?_
  refine held_load 1 (fun _ h => h.2) Try.underlying28 Try.szCmd15 hHeld ?_
  refine held_t 2 hHeld ?_
  refine held_load 3 (fun _ h => h.1) Try.underlying25 Try.szGeo16 hHeld ?_
  refine held_one (i := 4) (by kernel_rfl) rfl (by kernel_rfl) (fun K hK => ?_)
  go_simp
  refine (l13Any_any D.drew gn gs).mono ?_
  rintro e w6 ⟨o2, d2, b2, k2, a2, c2, ds2, rfl, hl2, O2, _, b6⟩
  have b6 := But.ofDrewB b6
  have O2 : tIntS.Own w6 W.heap.size w6.heap.size _ _ := O2
  have P := P.kept (b6.block _ (by omega) (by omega))
  have Q := Q.kept (b6.block _ (by omega) (by omega))
  have R := R.kept (b6.block _ (by omega) (by omega))
  have G := G.kept (b6.block _ (by omega) (by omega))
  have X := X.kept (b6.block _ (by omega) (by omega))
  have O := O.but b6 (by omega)
  have B := B.trans (b6.below (B := w.heap.size) (by omega) (by omega))
  have z6 := b6.size
  go_wp2_with fail
  clear hHeld b6
  refine hK.out _ _ ⟨G, X⟩ (fun hHeld => ?_)
  clear hK K
  refine held_one (i := 5) (by kernel_rfl) rfl (by kernel_rfl) (fun K hK => ?_)
  refine wp_store_box _ _ _ rfl rfl rfl P rfl Try.szGeo16 (by rfl) (fun W7 N7 h7 s7 => ?_)
  clear hHeld
  have Q := Q.kept (h7.block _ (by have := Q.lt; omega) (by omega))
  have R := R.kept (h7.block _ (by have := R.lt; omega) (by omega))
  have G := G.kept (h7.block _ (by have := G.lt; omega) (by omega))
  have X := X.kept (h7.block _ (by have := X.lt; omega) (by omega))
  have P := N7
  have O2 := O2.but h7 (by omega)
  have O := O.but h7 (by omega)
  have B := Below.andBut B h7 (by omega)
  clear N7 h7
  refine hK.out _ _ ⟨G, X⟩ (fun hHeld => ?_)
  clear hK K
  refine held_one (i := 6) (by kernel_rfl) rfl (by kernel_rfl) (fun K hK => ?_)
  refine wp_store_box _ _ _ rfl rfl rfl Q rfl Try.szCmd15 (by rfl) (fun W8 N8 h8 s8 => ?_)
  clear hHeld
  have P := P.kept (h8.block _ (by have := P.lt; omega) (by omega))
  have R := R.kept (h8.block _ (by have := R.lt; omega) (by omega))
  have G := G.kept (h8.block _ (by have := G.lt; omega) (by omega))
  have X := X.kept (h8.block _ (by have := X.lt; omega) (by omega))
  have Q := N8
  have O2 := O2.but h8 (by omega)
  have O := O.but h8 (by omega)
  have B := Below.andBut B h8 (by omega)
  clear N8 h8
  refine hK.out _ _ ⟨G, X⟩ (fun hHeld => ?_)
  clear hK K
  refine held_one (i := 7) (by kernel_rfl) rfl (by kernel_rfl) (fun K hK => ?_)
  refine wp_store_box _ _ _ rfl rfl rfl R rfl Try.szCmd15 (by rfl) (fun W9 N9 h9 s9 => ?_)
  clear hHeld
  have P := P.kept (h9.block _ (by have := P.lt; omega) (by omega))
  have Q := Q.kept (h9.block _ (by have := Q.lt; omega) (by omega))
  have G := G.kept (h9.block _ (by have := G.lt; omega) (by omega))
  have X := X.kept (h9.block _ (by have := X.lt; omega) (by omega))
  have R := N9
  have O2 := O2.but h9 (by omega)
  have O := O.but h9 (by omega)
  have B := Below.andBut B h9 (by omega)
  clear N9 h9
  refine hK.out _ _ ⟨G, X⟩ (fun hHeld => ?_)
  clear hK K
  clear hHeld
  refine wpAnyH_done (by kernel_rfl) ?_ _
  obtain ⟨p0, p1⟩ := P.cells2
  obtain ⟨q0, q1, q2, q3, q4⟩ := Q.cells5
  obtain ⟨r0, r1, r2, r3, r4⟩ := R.cells5
  have KB := hidden B
  have KO2 := hidden (O2.widen (show w.heap.size ≤ W.heap.size by omega) (show w6.heap.size ≤ W9.heap.size by omega))
  have KO := hidden (O.widen (show w.heap.size ≤ V3.heap.size by omega) (show w4.heap.size ≤ W9.heap.size by omega))
  clear P Q R G X B O2 O D
  go_wp2
  refine bodyPost_ret (v := .tuple #[.agg #[.int .i64 gn, .int .i64 gs], .agg #[.int .i64 o1, .int .i64 d1, .int .i64 b1, .int .i64 k1, .slice a1 ds1.length c1], .agg #[.int .i64 o2, .int .i64 d2, .int .i64 b2, .int .i64 k2, .slice a2 ds2.length c2]]) (by simp [results, Try.results9, go_sem, p0, p1, q0, q1, q2, q3, q4, r0, r1, r2, r3, r4]) rfl ⟨gn, gs, o1, d1, b1, k1, a1, c1, ds1, o2, d2, b2, k2, a2, c2, ds2, rfl, hl1, hl2, KO.out, KO2.out, KB.out⟩

set_option maxRecDepth 20000 in
set_option maxHeartbeats 4000000 in
theorem drawStepsOf_any (w : World) (a : Option Addr) (lb cb : Nat) (zs : List Int) (hz : zs.length = lb) (hr : Reads .u8 w a zs) (hby : ∀ n ∈ zs, 0 ≤ n ∧ n ≤ 255) (hlb : lb ≤ 2097152) :
    Calls Try.prog 10 #[.slice a lb cb] w fun e w' => ∃ (gn gs : Int) (o1 d1 b1 k1 : Int) (a1 : Option Addr) (c1 : Nat) (ds1 : List Int), e = .returned (.tuple #[.agg #[.int .i64 gn, .int .i64 gs], .agg #[.int .i64 o1, .int .i64 d1, .int .i64 b1, .int .i64 k1, .slice a1 ds1.length c1]]) ∧ ds1.length ≤ 7 ∧ tIntS.Own w' w.heap.size w'.heap.size [.slice a1 ds1.length c1] ds1 ∧ Below w.heap.size w w' := by
  go_enter Try.func10, Try.ntmps10
  go_wp2_with fail
  refine seal_new2 ?_
  intro V P Q B
  have zP := P.lt
  have zQ := Q.lt
  refine (drawCmdCode_any _ _ _ _ zs hz (hr.below B) hby hlb).mono ?_
  rintro e w1 ⟨gn, gs, o1, d1, b1, k1, a1, c1, ds1, rfl, hl1, O, b1⟩
  have P := P.below b1 zP
  have Q := Q.below b1 zQ
  have B := Below.andThen B b1
  have z1 := b1.size
  clear b1
  go_wp2_with (first | (refine wpList_store_box rfl _ _ _ rfl rfl rfl P rfl Try.szGeo16 (by rfl) ?_; intro V2 P2 h2 s2; have Q := Q.kept (h2.block _ Q.lt (by omega)); have B := Below.andBut B h2 (by omega); have O := O.but h2 (by omega); clear P h2) | (refine wpList_store_box rfl _ _ _ rfl rfl rfl Q rfl Try.szCmd15 (by rfl) ?_; intro V3 Q3 h3 s3; have P3 := P2.kept (h3.block _ P2.lt (by omega)); have B := Below.andBut B h3 (by omega); have O := O.but h3 (by omega); clear P2 Q h3; obtain ⟨p0, p1⟩ := P3.cells2; obtain ⟨q0, q1, q2, q3, q4⟩ := Q3.cells5; have KB := hidden B; have KO := hidden (O.widen (show w.heap.size ≤ V.heap.size by omega) (show w1.heap.size ≤ V3.heap.size by omega)); clear P3 Q3 B O) | fail)
  refine bodyPost_ret (v := .tuple #[.agg #[.int .i64 gn, .int .i64 gs], .agg #[.int .i64 o1, .int .i64 d1, .int .i64 b1, .int .i64 k1, .slice a1 ds1.length c1]]) (by simp [results, Try.results10, go_sem, p0, p1, q0, q1, q2, q3, q4]) rfl ⟨gn, gs, o1, d1, b1, k1, a1, c1, ds1, rfl, hl1, KO.out, KB.out⟩

end Go.Proofs.Ytbkkjfgjlapadaa

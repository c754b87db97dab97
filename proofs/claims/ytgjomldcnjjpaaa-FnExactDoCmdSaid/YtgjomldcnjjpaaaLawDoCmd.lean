/-
  The walk of the exact law of DoCmd: at every argument it answers true, and nothing that was there has turned. No condition.
-/
import Derived.Test.YtgjomldcnjjpaaaGot14
import Derived.Test.YtgjomldcnjjpaaaHeld2
import Derived.Deep.DeepCutAuto
import Derived.Test.YtgjomldcnjjpaaaAnsLaw14
import Derived.Test.YtgjomldcnjjpaaaWalkToGeo
import Derived.Test.YtgjomldcnjjpaaaWalkInts
namespace Go.Proofs.Ytgjomldcnjjpaaa
open Go.RowKit

theorem slice_len {t : Ty} {E : TypeId} {w : World} {lo hi n m cap : Nat} {a : Option Addr} {d : List t.D} (h : (rowTy t E).Own w lo hi [.slice a n cap] d) (hl : d.length = m) : n = m := (row_length h.rd).1.symm.trans hl
/-- What DoCmd answers, by its parts. -/
theorem specDoCmd_v (w : World) (gn gs : Int) (al : Option Addr) (nl cl : Nat) (ls : List Int) (hls : tIntS.Rd w [.slice al nl cl] ls) (hnl : nl ≤ 2097152) (o d b k : Int) (a : Option Addr) (n cap : Nat) (zs : List Int) (h : tIntS.Rd w [.slice a n cap] zs) (hn : n ≤ 2097152) {xs vs : List Int} {cc : Int} {vn : Nat} (hx : doC gn gs ls o d b k zs = (xs, cc, vs)) (hv : vs.length = vn) :
    Calls Try.prog 24 #[.agg #[.int .i64 gn, .int .i64 gs], .slice al nl cl, .agg #[.int .i64 o, .int .i64 d, .int .i64 b, .int .i64 k, .slice a n cap]] w fun e w' => ∃ mid a1 c1 a2 c2, e = .returned (.tuple #[.slice a1 nl c1, .agg #[.int .i64 d, .int .i64 cc, .slice a2 vn c2]]) ∧ tIntS.Own w' w.heap.size mid [.slice a1 nl c1] xs ∧ tIntS.Own w' mid w'.heap.size [.slice a2 vn c2] vs ∧ w.heap.size ≤ mid ∧ mid ≤ w'.heap.size ∧ Below w.heap.size w w' := by
  refine (specDoCmd_any w gn gs al nl cl ls hls hnl o d b k a n cap zs h hn).mono ?_
  rintro e w' ⟨mid, a1, c1, a2, m2, c2, rfl, o1, o2, h1, h2, hb⟩
  rw [hx] at o1 o2 ⊢
  obtain rfl : m2 = vn := slice_len o2 hv
  exact ⟨mid, a1, c1, a2, c2, rfl, o1, o2, h1, h2, hb⟩
/-- What DoCmd answers, by its parts. -/
theorem implDoCmd_v (w : World) (gn gs : Int) (al : Option Addr) (nl cl : Nat) (ls : List Int) (hls : tIntS.Rd w [.slice al nl cl] ls) (hnl : nl ≤ 2097152) (o d b k : Int) (a : Option Addr) (n cap : Nat) (zs : List Int) (h : tIntS.Rd w [.slice a n cap] zs) (hn : n ≤ 2097152) {xs vs : List Int} {cc : Int} {vn : Nat} (hx : doC gn gs ls o d b k zs = (xs, cc, vs)) (hv : vs.length = vn) :
    Calls Try.prog 27 #[.agg #[.int .i64 gn, .int .i64 gs], .slice al nl cl, .agg #[.int .i64 o, .int .i64 d, .int .i64 b, .int .i64 k, .slice a n cap]] w fun e w' => ∃ mid a1 c1 a2 c2, e = .returned (.tuple #[.slice a1 nl c1, .agg #[.int .i64 d, .int .i64 cc, .slice a2 vn c2]]) ∧ tIntS.Own w' w.heap.size mid [.slice a1 nl c1] xs ∧ tIntS.Own w' mid w'.heap.size [.slice a2 vn c2] vs ∧ w.heap.size ≤ mid ∧ mid ≤ w'.heap.size ∧ Below w.heap.size w w' := by
  refine (implDoCmd_any w gn gs al nl cl ls hls hnl o d b k a n cap zs h hn).mono ?_
  rintro e w' ⟨mid, a1, c1, a2, m2, c2, rfl, o1, o2, h1, h2, hb⟩
  rw [hx] at o1 o2 ⊢
  obtain rfl : m2 = vn := slice_len o2 hv
  exact ⟨mid, a1, c1, a2, c2, rfl, o1, o2, h1, h2, hb⟩

set_option maxRecDepth 20000 in
set_option maxHeartbeats 4000000 in
theorem fnExactDoCmd_walk (gn gs : Int) (al : Option Addr) (nl cl : Nat) (ls : List Int) (o d b k : Int) (a : Option Addr) (n cap : Nat) (zs : List Int) (w : World) (hL : tIntS.Rd w [.slice al nl cl] ls) (h : tIntS.Rd w [.slice a n cap] zs) :
    Calls Try.prog 5 #[.agg #[.int .i64 gn, .int .i64 gs], .slice al nl cl, .agg #[.int .i64 o, .int .i64 d, .int .i64 b, .int .i64 k, .slice a n cap]] w fun e w' => e = .returned (.bool true) ∧ Below w.heap.size w w' := by
  obtain ⟨hr, hl, hnc0, hcm0⟩ := ints_rd h
  obtain ⟨hrL, hlL, hncL, hcmL⟩ := ints_rd hL
  have hnm0 : n ≤ 9223372036854775807 := by omega
  have hA : Below w.heap.size w ((w.alloc (.cells #[.int .i64 gn, .int .i64 gs] 45)).alloc (.cells #[.int .i64 o, .int .i64 d, .int .i64 b, .int .i64 k, .slice a n cap] 49)) := (new_below w _).alloc (by simp) _
  have xBG : Box ((w.alloc (.cells #[.int .i64 gn, .int .i64 gs] 45)).alloc (.cells #[.int .i64 o, .int .i64 d, .int .i64 b, .int .i64 k, .slice a n cap] 49)) w.heap.size 45 #[.int .i64 gn, .int .i64 gs] := (Box.new w _ _).below (new_below _ _) (by simp)
  have xBC : Box ((w.alloc (.cells #[.int .i64 gn, .int .i64 gs] 45)).alloc (.cells #[.int .i64 o, .int .i64 d, .int .i64 b, .int .i64 k, .slice a n cap] 49)) (w.heap.size + 1) 49 #[.int .i64 o, .int .i64 d, .int .i64 b, .int .i64 k, .slice a n cap] := by
    have := Box.new (w.alloc (.cells #[.int .i64 gn, .int .i64 gs] 45)) 49 #[.int .i64 o, .int .i64 d, .int .i64 b, .int .i64 k, .slice a n cap]
    simpa using this
  have zA : w.heap.size + 2 ≤ ((w.alloc (.cells #[.int .i64 gn, .int .i64 gs] 45)).alloc (.cells #[.int .i64 o, .int .i64 d, .int .i64 b, .int .i64 k, .slice a n cap] 49)).heap.size := by simp
  have B0 := hidden hA
  have BG0 := hidden xBG
  have BC0 := hidden xBC
  clear hA xBG xBC h hL hncL hnc0
  have hvl := doC_vals gn gs ls o d b k zs
  have hxl := doC_len gn gs ls o d b k zs
  obtain ⟨xs, cc, vs, hx⟩ : ∃ xs cc vs, doC gn gs ls o d b k zs = (xs, cc, vs) := ⟨_, _, _, rfl⟩
  rw [hx] at hvl hxl
  simp only at hvl hxl
  rw [hlL] at hxl
  obtain ⟨vn, hvn⟩ : ∃ vn, vs.length = vn := ⟨_, rfl⟩
  rw [hvn] at hvl
  have HX := hidden hx
  have HV := hidden hvn
  have HXL := hidden hxl
  clear hx hvn hxl
  by_cases hbig : nl ≤ 1048576
  case neg =>
    have hbg : (1048576 : Int) < (nl : Int) := by omega
    go_enter Try.func5, Try.ntmps5
    go_wp2
    go_ret
    exact ⟨rfl, B0.out⟩
  have hbg : ¬ (1048576 : Int) < (nl : Int) := by omega
  have hd : decide (zs = zs) = true := by simp
  have hdl : decide (ls = ls) = true := by simp
  have hdx : decide (xs = xs) = true := by simp
  go_enter Try.func5, Try.ntmps5
  obtain ⟨l0, l1, l2, l3, l4⟩ := BC0.out.cells5
  go_wp2_with fail
  generalize ((w.alloc (.cells #[.int .i64 gn, .int .i64 gs] 45)).alloc (.cells #[.int .i64 o, .int .i64 d, .int .i64 b, .int .i64 k, .slice a n cap] 49)) = w0 at zA B0 BG0 BC0 l0 l1 l2 l3 l4 ⊢
  have z0 := zA
  clear zA
  refine (szCmd_any _ o d b k _ _ _ _ hnm0 (by omega) (by omega)).mono ?_
  rintro e w1 ⟨rfl, hb1⟩
  clear l0 l1 l2 l3 l4
  have B1 := hidden (Below.andThen B0.out hb1)
  have BG1 := hidden (BG0.out.below hb1 (by omega))
  have BC1 := hidden (BC0.out.below hb1 (by omega))
  have z1 := hb1.size
  clear B0 BG0 BC0 hb1
  by_cases hwt : (n : Int) ≤ 1048576
  rotate_left
  · have hq := leftOf_neg (left := 1048576) (wt := n) (by omega)
    go_wp2
    go_ret
    exact ⟨rfl, B1.out⟩
  have hq0 := leftOf_pos hwt
  have hwt' : n ≤ 1048576 := by omega
  obtain ⟨m0, m1⟩ := BG1.out.cells2
  obtain ⟨l0, l1, l2, l3, l4⟩ := BC1.out.cells5
  have zm := BG1.out.lt
  have zl := BC1.out.lt
  go_upto_region 7 with fail
  go_cut [8, 9] (fun v8 v9 wx => Got14 w1 nl vn d cc xs vs v8 v9 wx)
  case first =>
    have qc : Below w1.heap.size w1 w1.drew := (Below.refl _ _).drew
    have g0 : w1.drew.cell? ⟨w.heap.size, 0, none⟩ = some (.int .i64 gn) ∧ w1.drew.cell? ⟨w.heap.size, 1, none⟩ = some (.int .i64 gs) ∧ w1.drew.cell? ⟨w.heap.size + 1, 0, none⟩ = some (.int .i64 o) ∧ w1.drew.cell? ⟨w.heap.size + 1, 1, none⟩ = some (.int .i64 d) ∧ w1.drew.cell? ⟨w.heap.size + 1, 2, none⟩ = some (.int .i64 b) ∧ w1.drew.cell? ⟨w.heap.size + 1, 3, none⟩ = some (.int .i64 k) ∧ w1.drew.cell? ⟨w.heap.size + 1, 4, none⟩ = some (.slice a n cap) := ⟨(qc.cell (p := ⟨w.heap.size, 0, none⟩) zm).trans m0, (qc.cell (p := ⟨w.heap.size, 1, none⟩) zm).trans m1, (qc.cell (p := ⟨w.heap.size + 1, 0, none⟩) zl).trans l0, (qc.cell (p := ⟨w.heap.size + 1, 1, none⟩) zl).trans l1, (qc.cell (p := ⟨w.heap.size + 1, 2, none⟩) zl).trans l2, (qc.cell (p := ⟨w.heap.size + 1, 3, none⟩) zl).trans l3, (qc.cell (p := ⟨w.heap.size + 1, 4, none⟩) zl).trans l4⟩
    refine wp_region_held_drew (S := fun w' => w'.cell? ⟨w.heap.size, 0, none⟩ = some (.int .i64 gn) ∧ w'.cell? ⟨w.heap.size, 1, none⟩ = some (.int .i64 gs) ∧ w'.cell? ⟨w.heap.size + 1, 0, none⟩ = some (.int .i64 o) ∧ w'.cell? ⟨w.heap.size + 1, 1, none⟩ = some (.int .i64 d) ∧ w'.cell? ⟨w.heap.size + 1, 2, none⟩ = some (.int .i64 b) ∧ w'.cell? ⟨w.heap.size + 1, 3, none⟩ = some (.int .i64 k) ∧ w'.cell? ⟨w.heap.size + 1, 4, none⟩ = some (.slice a n cap)) (by kernel_rfl) ?_ (fun hHeld => ?_)
    · exact g0
    clear g0
    refine held_t 0 hHeld ?_
    refine held_t 2 hHeld ?_
    refine held_t 4 hHeld ?_
    generalize w1.drew = wn at qc hHeld ⊢
    refine held_two (i := 1) (i' := 10) (by kernel_rfl) rfl rfl (by kernel_rfl) (by kernel_rfl) (fun K hK => ?_) (fun K hK => ?_)
    · skip
      go_simp
      refine (toGeo_any _ _ _).mono ?_
      rintro e wn1 ⟨rfl, pn⟩
      replace qc := Below.andThen qc pn
      clear hHeld pn
      go_wp2_with fail
      refine hK.out _ _ ⟨(qc.cell (p := ⟨w.heap.size, 0, none⟩) zm).trans m0, (qc.cell (p := ⟨w.heap.size, 1, none⟩) zm).trans m1, (qc.cell (p := ⟨w.heap.size + 1, 0, none⟩) zl).trans l0, (qc.cell (p := ⟨w.heap.size + 1, 1, none⟩) zl).trans l1, (qc.cell (p := ⟨w.heap.size + 1, 2, none⟩) zl).trans l2, (qc.cell (p := ⟨w.heap.size + 1, 3, none⟩) zl).trans l3, (qc.cell (p := ⟨w.heap.size + 1, 4, none⟩) zl).trans l4⟩ (fun hHeld => ?_)
      clear hK K
      refine held_two (i := 3) (i' := 10) (by kernel_rfl) rfl rfl (by kernel_rfl) (by kernel_rfl) (fun K hK => ?_) (fun K hK => ?_)
      · skip
        go_simp
        refine (toIntS_ex _ _ _ _ ls hlL (hrL.below (Below.andThen B1.out qc)) (by omega)).mono ?_
        rintro e wn2 ⟨aL, rfl, iL, pn⟩
        replace qc := Below.andThen qc pn
        clear hHeld pn
        go_wp2_with fail
        refine hK.out _ _ ⟨(qc.cell (p := ⟨w.heap.size, 0, none⟩) zm).trans m0, (qc.cell (p := ⟨w.heap.size, 1, none⟩) zm).trans m1, (qc.cell (p := ⟨w.heap.size + 1, 0, none⟩) zl).trans l0, (qc.cell (p := ⟨w.heap.size + 1, 1, none⟩) zl).trans l1, (qc.cell (p := ⟨w.heap.size + 1, 2, none⟩) zl).trans l2, (qc.cell (p := ⟨w.heap.size + 1, 3, none⟩) zl).trans l3, (qc.cell (p := ⟨w.heap.size + 1, 4, none⟩) zl).trans l4⟩ (fun hHeld => ?_)
        clear hK K
        refine held_two (i := 5) (i' := 10) (by kernel_rfl) rfl rfl (by kernel_rfl) (by kernel_rfl) (fun K hK => ?_) (fun K hK => ?_)
        · skip
          go_simp
          refine (toCmd_any _ o d b k _ _ _ zs hl (hr.below (Below.andThen B1.out qc)) hwt').mono ?_
          rintro e wn3 ⟨g2, rfl, iC, pn⟩
          replace qc := Below.andThen qc pn
          replace iL := iL.below pn
          clear hHeld pn
          go_wp2_with fail
          refine hK.out _ _ ⟨(qc.cell (p := ⟨w.heap.size, 0, none⟩) zm).trans m0, (qc.cell (p := ⟨w.heap.size, 1, none⟩) zm).trans m1, (qc.cell (p := ⟨w.heap.size + 1, 0, none⟩) zl).trans l0, (qc.cell (p := ⟨w.heap.size + 1, 1, none⟩) zl).trans l1, (qc.cell (p := ⟨w.heap.size + 1, 2, none⟩) zl).trans l2, (qc.cell (p := ⟨w.heap.size + 1, 3, none⟩) zl).trans l3, (qc.cell (p := ⟨w.heap.size + 1, 4, none⟩) zl).trans l4⟩ (fun hHeld => ?_)
          clear hK K
          refine held_two (i := 6) (i' := 10) (by kernel_rfl) rfl rfl (by kernel_rfl) (by kernel_rfl) (fun K hK => ?_) (fun K hK => ?_)
          · skip
            have hlo := qc.size
            go_simp
            refine (specDoCmd_v _ gn gs _ _ _ ls iL.rd (by omega) o d b k _ _ _ zs iC.rd (by omega) HX.out HV.out).mono ?_
            rintro e wn4 ⟨mid, a1, c1, a2, c2, rfl, oX, oV, hm1, hm2, pn⟩
            replace qc := Below.andThen qc pn
            clear iL
            clear iC
            clear hHeld
            go_wp2_with fail
            refine hK.out _ _ ⟨(qc.cell (p := ⟨w.heap.size, 0, none⟩) zm).trans m0, (qc.cell (p := ⟨w.heap.size, 1, none⟩) zm).trans m1, (qc.cell (p := ⟨w.heap.size + 1, 0, none⟩) zl).trans l0, (qc.cell (p := ⟨w.heap.size + 1, 1, none⟩) zl).trans l1, (qc.cell (p := ⟨w.heap.size + 1, 2, none⟩) zl).trans l2, (qc.cell (p := ⟨w.heap.size + 1, 3, none⟩) zl).trans l3, (qc.cell (p := ⟨w.heap.size + 1, 4, none⟩) zl).trans l4⟩ (fun hHeld => ?_)
            clear hK K
            refine held_t 7 hHeld ?_
            refine held_t 8 hHeld ?_
            refine held_t 9 hHeld ?_
            refine held_one (i := 10) (by kernel_rfl) rfl (by kernel_rfl) (fun K hK => ?_)
            go_simp
            have xa := Box.new wn4 44 #[.int .i64 0, .int .i64 0, .slice none 0 0]
            have hNw := qc.size
            replace qc := qc.alloc qc.size (.cells #[.int .i64 0, .int .i64 0, .slice none 0 0] 44)
            replace oX := oX.below (new_below wn4 (.cells #[.int .i64 0, .int .i64 0, .slice none 0 0] 44))
            replace oV := oV.below (new_below wn4 (.cells #[.int .i64 0, .int .i64 0, .slice none 0 0] 44))
            clear hHeld
            refine hK.out _ _ ⟨(qc.cell (p := ⟨w.heap.size, 0, none⟩) zm).trans m0, (qc.cell (p := ⟨w.heap.size, 1, none⟩) zm).trans m1, (qc.cell (p := ⟨w.heap.size + 1, 0, none⟩) zl).trans l0, (qc.cell (p := ⟨w.heap.size + 1, 1, none⟩) zl).trans l1, (qc.cell (p := ⟨w.heap.size + 1, 2, none⟩) zl).trans l2, (qc.cell (p := ⟨w.heap.size + 1, 3, none⟩) zl).trans l3, (qc.cell (p := ⟨w.heap.size + 1, 4, none⟩) zl).trans l4⟩ (fun hHeld => ?_)
            clear hK K
            have hNx := (new_below wn4 (.cells #[.int .i64 0, .int .i64 0, .slice none 0 0] 44)).size
            generalize wn4.alloc (.cells #[.int .i64 0, .int .i64 0, .slice none 0 0] 44) = wn4a at hNx qc xa oX oV hHeld ⊢
            generalize hNe : wn4.heap.size = NB at xa hNw ⊢
            have hNl := Nat.le_of_eq hNe
            clear hNe
            refine held_t 11 hHeld ?_
            obtain ⟨n0, n1, n2⟩ := xa.cells3
            have fz := xa.frozen
            refine held_one (i := 12) (by kernel_rfl) rfl (by kernel_rfl) (fun K hK => ?_)
            clear hHeld
            go_simp
            refine hK.out _ _ ⟨((below_put qc NB hNw _ _ _).cell (p := ⟨w.heap.size, 0, none⟩) zm).trans m0, ((below_put qc NB hNw _ _ _).cell (p := ⟨w.heap.size, 1, none⟩) zm).trans m1, ((below_put qc NB hNw _ _ _).cell (p := ⟨w.heap.size + 1, 0, none⟩) zl).trans l0, ((below_put qc NB hNw _ _ _).cell (p := ⟨w.heap.size + 1, 1, none⟩) zl).trans l1, ((below_put qc NB hNw _ _ _).cell (p := ⟨w.heap.size + 1, 2, none⟩) zl).trans l2, ((below_put qc NB hNw _ _ _).cell (p := ⟨w.heap.size + 1, 3, none⟩) zl).trans l3, ((below_put qc NB hNw _ _ _).cell (p := ⟨w.heap.size + 1, 4, none⟩) zl).trans l4⟩ (fun hHeld => ?_)
            clear hK K hHeld
            refine wpAnyH_done (by kernel_rfl) ?_ _
            go_wp2_with fail
            go_meet
            first | exact got_old qc xa oX oV hNw (.inl hN) hlo hm1 hm2 (Nat.le_refl _) | exact got_old qc xa oX oV hNw (.inr hNl) hlo hm1 hm2 hNx
          · skip
            go_simp
            have xa := Box.new wn3 44 #[.int .i64 0, .int .i64 0, .slice none 0 0]
            have hNw := qc.size
            replace qc := qc.alloc qc.size (.cells #[.int .i64 0, .int .i64 0, .slice none 0 0] 44)
            replace iL := iL.below (new_below wn3 (.cells #[.int .i64 0, .int .i64 0, .slice none 0 0] 44))
            replace iC := iC.below (new_below wn3 (.cells #[.int .i64 0, .int .i64 0, .slice none 0 0] 44))
            clear hHeld
            refine hK.out _ _ ⟨(qc.cell (p := ⟨w.heap.size, 0, none⟩) zm).trans m0, (qc.cell (p := ⟨w.heap.size, 1, none⟩) zm).trans m1, (qc.cell (p := ⟨w.heap.size + 1, 0, none⟩) zl).trans l0, (qc.cell (p := ⟨w.heap.size + 1, 1, none⟩) zl).trans l1, (qc.cell (p := ⟨w.heap.size + 1, 2, none⟩) zl).trans l2, (qc.cell (p := ⟨w.heap.size + 1, 3, none⟩) zl).trans l3, (qc.cell (p := ⟨w.heap.size + 1, 4, none⟩) zl).trans l4⟩ (fun hHeld => ?_)
            clear hK K
            have hNx := (new_below wn3 (.cells #[.int .i64 0, .int .i64 0, .slice none 0 0] 44)).size
            generalize wn3.alloc (.cells #[.int .i64 0, .int .i64 0, .slice none 0 0] 44) = wn3a at hNx qc xa iL iC hHeld ⊢
            generalize hNe : wn3.heap.size = NB at xa hNw ⊢
            have hNl := Nat.le_of_eq hNe
            clear hNe
            refine held_one (i := 6) (by kernel_rfl) rfl (by kernel_rfl) (fun K hK => ?_)
            have hN := xa.lt
            have hlo := qc.size
            go_simp
            refine (specDoCmd_v _ gn gs _ _ _ ls iL.rd (by omega) o d b k _ _ _ zs iC.rd (by omega) HX.out HV.out).mono ?_
            rintro e wn4 ⟨mid, a1, c1, a2, c2, rfl, oX, oV, hm1, hm2, pn⟩
            replace qc := Below.andThen qc pn
            replace xa := xa.below pn hN
            clear iL
            clear iC
            clear hHeld
            go_wp2_with fail
            refine hK.out _ _ ⟨(qc.cell (p := ⟨w.heap.size, 0, none⟩) zm).trans m0, (qc.cell (p := ⟨w.heap.size, 1, none⟩) zm).trans m1, (qc.cell (p := ⟨w.heap.size + 1, 0, none⟩) zl).trans l0, (qc.cell (p := ⟨w.heap.size + 1, 1, none⟩) zl).trans l1, (qc.cell (p := ⟨w.heap.size + 1, 2, none⟩) zl).trans l2, (qc.cell (p := ⟨w.heap.size + 1, 3, none⟩) zl).trans l3, (qc.cell (p := ⟨w.heap.size + 1, 4, none⟩) zl).trans l4⟩ (fun hHeld => ?_)
            clear hK K
            refine held_t 7 hHeld ?_
            refine held_t 8 hHeld ?_
            refine held_t 9 hHeld ?_
            refine held_t 11 hHeld ?_
            obtain ⟨n0, n1, n2⟩ := xa.cells3
            have fz := xa.frozen
            refine held_one (i := 12) (by kernel_rfl) rfl (by kernel_rfl) (fun K hK => ?_)
            clear hHeld
            go_simp
            refine hK.out _ _ ⟨((below_put qc NB hNw _ _ _).cell (p := ⟨w.heap.size, 0, none⟩) zm).trans m0, ((below_put qc NB hNw _ _ _).cell (p := ⟨w.heap.size, 1, none⟩) zm).trans m1, ((below_put qc NB hNw _ _ _).cell (p := ⟨w.heap.size + 1, 0, none⟩) zl).trans l0, ((below_put qc NB hNw _ _ _).cell (p := ⟨w.heap.size + 1, 1, none⟩) zl).trans l1, ((below_put qc NB hNw _ _ _).cell (p := ⟨w.heap.size + 1, 2, none⟩) zl).trans l2, ((below_put qc NB hNw _ _ _).cell (p := ⟨w.heap.size + 1, 3, none⟩) zl).trans l3, ((below_put qc NB hNw _ _ _).cell (p := ⟨w.heap.size + 1, 4, none⟩) zl).trans l4⟩ (fun hHeld => ?_)
            clear hK K hHeld
            refine wpAnyH_done (by kernel_rfl) ?_ _
            go_wp2_with fail
            go_meet
            first | exact got_old qc xa oX oV hNw (.inl hN) hlo hm1 hm2 (Nat.le_refl _) | exact got_old qc xa oX oV hNw (.inr hNl) hlo hm1 hm2 hNx
        · skip
          go_simp
          have xa := Box.new wn2 44 #[.int .i64 0, .int .i64 0, .slice none 0 0]
          have hNw := qc.size
          replace qc := qc.alloc qc.size (.cells #[.int .i64 0, .int .i64 0, .slice none 0 0] 44)
          replace iL := iL.below (new_below wn2 (.cells #[.int .i64 0, .int .i64 0, .slice none 0 0] 44))
          clear hHeld
          refine hK.out _ _ ⟨(qc.cell (p := ⟨w.heap.size, 0, none⟩) zm).trans m0, (qc.cell (p := ⟨w.heap.size, 1, none⟩) zm).trans m1, (qc.cell (p := ⟨w.heap.size + 1, 0, none⟩) zl).trans l0, (qc.cell (p := ⟨w.heap.size + 1, 1, none⟩) zl).trans l1, (qc.cell (p := ⟨w.heap.size + 1, 2, none⟩) zl).trans l2, (qc.cell (p := ⟨w.heap.size + 1, 3, none⟩) zl).trans l3, (qc.cell (p := ⟨w.heap.size + 1, 4, none⟩) zl).trans l4⟩ (fun hHeld => ?_)
          clear hK K
          have hNx := (new_below wn2 (.cells #[.int .i64 0, .int .i64 0, .slice none 0 0] 44)).size
          generalize wn2.alloc (.cells #[.int .i64 0, .int .i64 0, .slice none 0 0] 44) = wn2a at hNx qc xa iL hHeld ⊢
          generalize hNe : wn2.heap.size = NB at xa hNw ⊢
          have hNl := Nat.le_of_eq hNe
          clear hNe
          refine held_one (i := 5) (by kernel_rfl) rfl (by kernel_rfl) (fun K hK => ?_)
          have hN := xa.lt
          go_simp
          refine (toCmd_any _ o d b k _ _ _ zs hl (hr.below (Below.andThen B1.out qc)) hwt').mono ?_
          rintro e wn3 ⟨g2, rfl, iC, pn⟩
          replace qc := Below.andThen qc pn
          replace xa := xa.below pn hN
          replace iL := iL.below pn
          clear hHeld pn
          go_wp2_with fail
          refine hK.out _ _ ⟨(qc.cell (p := ⟨w.heap.size, 0, none⟩) zm).trans m0, (qc.cell (p := ⟨w.heap.size, 1, none⟩) zm).trans m1, (qc.cell (p := ⟨w.heap.size + 1, 0, none⟩) zl).trans l0, (qc.cell (p := ⟨w.heap.size + 1, 1, none⟩) zl).trans l1, (qc.cell (p := ⟨w.heap.size + 1, 2, none⟩) zl).trans l2, (qc.cell (p := ⟨w.heap.size + 1, 3, none⟩) zl).trans l3, (qc.cell (p := ⟨w.heap.size + 1, 4, none⟩) zl).trans l4⟩ (fun hHeld => ?_)
          clear hK K
          refine held_one (i := 6) (by kernel_rfl) rfl (by kernel_rfl) (fun K hK => ?_)
          have hN := xa.lt
          have hlo := qc.size
          go_simp
          refine (specDoCmd_v _ gn gs _ _ _ ls iL.rd (by omega) o d b k _ _ _ zs iC.rd (by omega) HX.out HV.out).mono ?_
          rintro e wn4 ⟨mid, a1, c1, a2, c2, rfl, oX, oV, hm1, hm2, pn⟩
          replace qc := Below.andThen qc pn
          replace xa := xa.below pn hN
          clear iL
          clear iC
          clear hHeld
          go_wp2_with fail
          refine hK.out _ _ ⟨(qc.cell (p := ⟨w.heap.size, 0, none⟩) zm).trans m0, (qc.cell (p := ⟨w.heap.size, 1, none⟩) zm).trans m1, (qc.cell (p := ⟨w.heap.size + 1, 0, none⟩) zl).trans l0, (qc.cell (p := ⟨w.heap.size + 1, 1, none⟩) zl).trans l1, (qc.cell (p := ⟨w.heap.size + 1, 2, none⟩) zl).trans l2, (qc.cell (p := ⟨w.heap.size + 1, 3, none⟩) zl).trans l3, (qc.cell (p := ⟨w.heap.size + 1, 4, none⟩) zl).trans l4⟩ (fun hHeld => ?_)
          clear hK K
          refine held_t 7 hHeld ?_
          refine held_t 8 hHeld ?_
          refine held_t 9 hHeld ?_
          refine held_t 11 hHeld ?_
          obtain ⟨n0, n1, n2⟩ := xa.cells3
          have fz := xa.frozen
          refine held_one (i := 12) (by kernel_rfl) rfl (by kernel_rfl) (fun K hK => ?_)
          clear hHeld
          go_simp
          refine hK.out _ _ ⟨((below_put qc NB hNw _ _ _).cell (p := ⟨w.heap.size, 0, none⟩) zm).trans m0, ((below_put qc NB hNw _ _ _).cell (p := ⟨w.heap.size, 1, none⟩) zm).trans m1, ((below_put qc NB hNw _ _ _).cell (p := ⟨w.heap.size + 1, 0, none⟩) zl).trans l0, ((below_put qc NB hNw _ _ _).cell (p := ⟨w.heap.size + 1, 1, none⟩) zl).trans l1, ((below_put qc NB hNw _ _ _).cell (p := ⟨w.heap.size + 1, 2, none⟩) zl).trans l2, ((below_put qc NB hNw _ _ _).cell (p := ⟨w.heap.size + 1, 3, none⟩) zl).trans l3, ((below_put qc NB hNw _ _ _).cell (p := ⟨w.heap.size + 1, 4, none⟩) zl).trans l4⟩ (fun hHeld => ?_)
          clear hK K hHeld
          refine wpAnyH_done (by kernel_rfl) ?_ _
          go_wp2_with fail
          go_meet
          first | exact got_old qc xa oX oV hNw (.inl hN) hlo hm1 hm2 (Nat.le_refl _) | exact got_old qc xa oX oV hNw (.inr hNl) hlo hm1 hm2 hNx
      · skip
        go_simp
        have xa := Box.new wn1 44 #[.int .i64 0, .int .i64 0, .slice none 0 0]
        have hNw := qc.size
        replace qc := qc.alloc qc.size (.cells #[.int .i64 0, .int .i64 0, .slice none 0 0] 44)
        clear hHeld
        refine hK.out _ _ ⟨(qc.cell (p := ⟨w.heap.size, 0, none⟩) zm).trans m0, (qc.cell (p := ⟨w.heap.size, 1, none⟩) zm).trans m1, (qc.cell (p := ⟨w.heap.size + 1, 0, none⟩) zl).trans l0, (qc.cell (p := ⟨w.heap.size + 1, 1, none⟩) zl).trans l1, (qc.cell (p := ⟨w.heap.size + 1, 2, none⟩) zl).trans l2, (qc.cell (p := ⟨w.heap.size + 1, 3, none⟩) zl).trans l3, (qc.cell (p := ⟨w.heap.size + 1, 4, none⟩) zl).trans l4⟩ (fun hHeld => ?_)
        clear hK K
        have hNx := (new_below wn1 (.cells #[.int .i64 0, .int .i64 0, .slice none 0 0] 44)).size
        generalize wn1.alloc (.cells #[.int .i64 0, .int .i64 0, .slice none 0 0] 44) = wn1a at hNx qc xa hHeld ⊢
        generalize hNe : wn1.heap.size = NB at xa hNw ⊢
        have hNl := Nat.le_of_eq hNe
        clear hNe
        refine held_one (i := 3) (by kernel_rfl) rfl (by kernel_rfl) (fun K hK => ?_)
        have hN := xa.lt
        go_simp
        refine (toIntS_ex _ _ _ _ ls hlL (hrL.below (Below.andThen B1.out qc)) (by omega)).mono ?_
        rintro e wn2 ⟨aL, rfl, iL, pn⟩
        replace qc := Below.andThen qc pn
        replace xa := xa.below pn hN
        clear hHeld pn
        go_wp2_with fail
        refine hK.out _ _ ⟨(qc.cell (p := ⟨w.heap.size, 0, none⟩) zm).trans m0, (qc.cell (p := ⟨w.heap.size, 1, none⟩) zm).trans m1, (qc.cell (p := ⟨w.heap.size + 1, 0, none⟩) zl).trans l0, (qc.cell (p := ⟨w.heap.size + 1, 1, none⟩) zl).trans l1, (qc.cell (p := ⟨w.heap.size + 1, 2, none⟩) zl).trans l2, (qc.cell (p := ⟨w.heap.size + 1, 3, none⟩) zl).trans l3, (qc.cell (p := ⟨w.heap.size + 1, 4, none⟩) zl).trans l4⟩ (fun hHeld => ?_)
        clear hK K
        refine held_one (i := 5) (by kernel_rfl) rfl (by kernel_rfl) (fun K hK => ?_)
        have hN := xa.lt
        go_simp
        refine (toCmd_any _ o d b k _ _ _ zs hl (hr.below (Below.andThen B1.out qc)) hwt').mono ?_
        rintro e wn3 ⟨g2, rfl, iC, pn⟩
        replace qc := Below.andThen qc pn
        replace xa := xa.below pn hN
        replace iL := iL.below pn
        clear hHeld pn
        go_wp2_with fail
        refine hK.out _ _ ⟨(qc.cell (p := ⟨w.heap.size, 0, none⟩) zm).trans m0, (qc.cell (p := ⟨w.heap.size, 1, none⟩) zm).trans m1, (qc.cell (p := ⟨w.heap.size + 1, 0, none⟩) zl).trans l0, (qc.cell (p := ⟨w.heap.size + 1, 1, none⟩) zl).trans l1, (qc.cell (p := ⟨w.heap.size + 1, 2, none⟩) zl).trans l2, (qc.cell (p := ⟨w.heap.size + 1, 3, none⟩) zl).trans l3, (qc.cell (p := ⟨w.heap.size + 1, 4, none⟩) zl).trans l4⟩ (fun hHeld => ?_)
        clear hK K
        refine held_one (i := 6) (by kernel_rfl) rfl (by kernel_rfl) (fun K hK => ?_)
        have hN := xa.lt
        have hlo := qc.size
        go_simp
        refine (specDoCmd_v _ gn gs _ _ _ ls iL.rd (by omega) o d b k _ _ _ zs iC.rd (by omega) HX.out HV.out).mono ?_
        rintro e wn4 ⟨mid, a1, c1, a2, c2, rfl, oX, oV, hm1, hm2, pn⟩
        replace qc := Below.andThen qc pn
        replace xa := xa.below pn hN
        clear iL
        clear iC
        clear hHeld
        go_wp2_with fail
        refine hK.out _ _ ⟨(qc.cell (p := ⟨w.heap.size, 0, none⟩) zm).trans m0, (qc.cell (p := ⟨w.heap.size, 1, none⟩) zm).trans m1, (qc.cell (p := ⟨w.heap.size + 1, 0, none⟩) zl).trans l0, (qc.cell (p := ⟨w.heap.size + 1, 1, none⟩) zl).trans l1, (qc.cell (p := ⟨w.heap.size + 1, 2, none⟩) zl).trans l2, (qc.cell (p := ⟨w.heap.size + 1, 3, none⟩) zl).trans l3, (qc.cell (p := ⟨w.heap.size + 1, 4, none⟩) zl).trans l4⟩ (fun hHeld => ?_)
        clear hK K
        refine held_t 7 hHeld ?_
        refine held_t 8 hHeld ?_
        refine held_t 9 hHeld ?_
        refine held_t 11 hHeld ?_
        obtain ⟨n0, n1, n2⟩ := xa.cells3
        have fz := xa.frozen
        refine held_one (i := 12) (by kernel_rfl) rfl (by kernel_rfl) (fun K hK => ?_)
        clear hHeld
        go_simp
        refine hK.out _ _ ⟨((below_put qc NB hNw _ _ _).cell (p := ⟨w.heap.size, 0, none⟩) zm).trans m0, ((below_put qc NB hNw _ _ _).cell (p := ⟨w.heap.size, 1, none⟩) zm).trans m1, ((below_put qc NB hNw _ _ _).cell (p := ⟨w.heap.size + 1, 0, none⟩) zl).trans l0, ((below_put qc NB hNw _ _ _).cell (p := ⟨w.heap.size + 1, 1, none⟩) zl).trans l1, ((below_put qc NB hNw _ _ _).cell (p := ⟨w.heap.size + 1, 2, none⟩) zl).trans l2, ((below_put qc NB hNw _ _ _).cell (p := ⟨w.heap.size + 1, 3, none⟩) zl).trans l3, ((below_put qc NB hNw _ _ _).cell (p := ⟨w.heap.size + 1, 4, none⟩) zl).trans l4⟩ (fun hHeld => ?_)
        clear hK K hHeld
        refine wpAnyH_done (by kernel_rfl) ?_ _
        go_wp2_with fail
        go_meet
        first | exact got_old qc xa oX oV hNw (.inl hN) hlo hm1 hm2 (Nat.le_refl _) | exact got_old qc xa oX oV hNw (.inr hNl) hlo hm1 hm2 hNx
    · skip
      go_simp
      have xa := Box.new wn 44 #[.int .i64 0, .int .i64 0, .slice none 0 0]
      have hNw := qc.size
      replace qc := qc.alloc qc.size (.cells #[.int .i64 0, .int .i64 0, .slice none 0 0] 44)
      clear hHeld
      refine hK.out _ _ ⟨(qc.cell (p := ⟨w.heap.size, 0, none⟩) zm).trans m0, (qc.cell (p := ⟨w.heap.size, 1, none⟩) zm).trans m1, (qc.cell (p := ⟨w.heap.size + 1, 0, none⟩) zl).trans l0, (qc.cell (p := ⟨w.heap.size + 1, 1, none⟩) zl).trans l1, (qc.cell (p := ⟨w.heap.size + 1, 2, none⟩) zl).trans l2, (qc.cell (p := ⟨w.heap.size + 1, 3, none⟩) zl).trans l3, (qc.cell (p := ⟨w.heap.size + 1, 4, none⟩) zl).trans l4⟩ (fun hHeld => ?_)
      clear hK K
      have hNx := (new_below wn (.cells #[.int .i64 0, .int .i64 0, .slice none 0 0] 44)).size
      generalize wn.alloc (.cells #[.int .i64 0, .int .i64 0, .slice none 0 0] 44) = wna at hNx qc xa hHeld ⊢
      generalize hNe : wn.heap.size = NB at xa hNw ⊢
      have hNl := Nat.le_of_eq hNe
      clear hNe
      refine held_one (i := 1) (by kernel_rfl) rfl (by kernel_rfl) (fun K hK => ?_)
      have hN := xa.lt
      go_simp
      refine (toGeo_any _ _ _).mono ?_
      rintro e wn1 ⟨rfl, pn⟩
      replace qc := Below.andThen qc pn
      replace xa := xa.below pn hN
      clear hHeld pn
      go_wp2_with fail
      refine hK.out _ _ ⟨(qc.cell (p := ⟨w.heap.size, 0, none⟩) zm).trans m0, (qc.cell (p := ⟨w.heap.size, 1, none⟩) zm).trans m1, (qc.cell (p := ⟨w.heap.size + 1, 0, none⟩) zl).trans l0, (qc.cell (p := ⟨w.heap.size + 1, 1, none⟩) zl).trans l1, (qc.cell (p := ⟨w.heap.size + 1, 2, none⟩) zl).trans l2, (qc.cell (p := ⟨w.heap.size + 1, 3, none⟩) zl).trans l3, (qc.cell (p := ⟨w.heap.size + 1, 4, none⟩) zl).trans l4⟩ (fun hHeld => ?_)
      clear hK K
      refine held_one (i := 3) (by kernel_rfl) rfl (by kernel_rfl) (fun K hK => ?_)
      have hN := xa.lt
      go_simp
      refine (toIntS_ex _ _ _ _ ls hlL (hrL.below (Below.andThen B1.out qc)) (by omega)).mono ?_
      rintro e wn2 ⟨aL, rfl, iL, pn⟩
      replace qc := Below.andThen qc pn
      replace xa := xa.below pn hN
      clear hHeld pn
      go_wp2_with fail
      refine hK.out _ _ ⟨(qc.cell (p := ⟨w.heap.size, 0, none⟩) zm).trans m0, (qc.cell (p := ⟨w.heap.size, 1, none⟩) zm).trans m1, (qc.cell (p := ⟨w.heap.size + 1, 0, none⟩) zl).trans l0, (qc.cell (p := ⟨w.heap.size + 1, 1, none⟩) zl).trans l1, (qc.cell (p := ⟨w.heap.size + 1, 2, none⟩) zl).trans l2, (qc.cell (p := ⟨w.heap.size + 1, 3, none⟩) zl).trans l3, (qc.cell (p := ⟨w.heap.size + 1, 4, none⟩) zl).trans l4⟩ (fun hHeld => ?_)
      clear hK K
      refine held_one (i := 5) (by kernel_rfl) rfl (by kernel_rfl) (fun K hK => ?_)
      have hN := xa.lt
      go_simp
      refine (toCmd_any _ o d b k _ _ _ zs hl (hr.below (Below.andThen B1.out qc)) hwt').mono ?_
      rintro e wn3 ⟨g2, rfl, iC, pn⟩
      replace qc := Below.andThen qc pn
      replace xa := xa.below pn hN
      replace iL := iL.below pn
      clear hHeld pn
      go_wp2_with fail
      refine hK.out _ _ ⟨(qc.cell (p := ⟨w.heap.size, 0, none⟩) zm).trans m0, (qc.cell (p := ⟨w.heap.size, 1, none⟩) zm).trans m1, (qc.cell (p := ⟨w.heap.size + 1, 0, none⟩) zl).trans l0, (qc.cell (p := ⟨w.heap.size + 1, 1, none⟩) zl).trans l1, (qc.cell (p := ⟨w.heap.size + 1, 2, none⟩) zl).trans l2, (qc.cell (p := ⟨w.heap.size + 1, 3, none⟩) zl).trans l3, (qc.cell (p := ⟨w.heap.size + 1, 4, none⟩) zl).trans l4⟩ (fun hHeld => ?_)
      clear hK K
      refine held_one (i := 6) (by kernel_rfl) rfl (by kernel_rfl) (fun K hK => ?_)
      have hN := xa.lt
      have hlo := qc.size
      go_simp
      refine (specDoCmd_v _ gn gs _ _ _ ls iL.rd (by omega) o d b k _ _ _ zs iC.rd (by omega) HX.out HV.out).mono ?_
      rintro e wn4 ⟨mid, a1, c1, a2, c2, rfl, oX, oV, hm1, hm2, pn⟩
      replace qc := Below.andThen qc pn
      replace xa := xa.below pn hN
      clear iL
      clear iC
      clear hHeld
      go_wp2_with fail
      refine hK.out _ _ ⟨(qc.cell (p := ⟨w.heap.size, 0, none⟩) zm).trans m0, (qc.cell (p := ⟨w.heap.size, 1, none⟩) zm).trans m1, (qc.cell (p := ⟨w.heap.size + 1, 0, none⟩) zl).trans l0, (qc.cell (p := ⟨w.heap.size + 1, 1, none⟩) zl).trans l1, (qc.cell (p := ⟨w.heap.size + 1, 2, none⟩) zl).trans l2, (qc.cell (p := ⟨w.heap.size + 1, 3, none⟩) zl).trans l3, (qc.cell (p := ⟨w.heap.size + 1, 4, none⟩) zl).trans l4⟩ (fun hHeld => ?_)
      clear hK K
      refine held_t 7 hHeld ?_
      refine held_t 8 hHeld ?_
      refine held_t 9 hHeld ?_
      refine held_t 11 hHeld ?_
      obtain ⟨n0, n1, n2⟩ := xa.cells3
      have fz := xa.frozen
      refine held_one (i := 12) (by kernel_rfl) rfl (by kernel_rfl) (fun K hK => ?_)
      clear hHeld
      go_simp
      refine hK.out _ _ ⟨((below_put qc NB hNw _ _ _).cell (p := ⟨w.heap.size, 0, none⟩) zm).trans m0, ((below_put qc NB hNw _ _ _).cell (p := ⟨w.heap.size, 1, none⟩) zm).trans m1, ((below_put qc NB hNw _ _ _).cell (p := ⟨w.heap.size + 1, 0, none⟩) zl).trans l0, ((below_put qc NB hNw _ _ _).cell (p := ⟨w.heap.size + 1, 1, none⟩) zl).trans l1, ((below_put qc NB hNw _ _ _).cell (p := ⟨w.heap.size + 1, 2, none⟩) zl).trans l2, ((below_put qc NB hNw _ _ _).cell (p := ⟨w.heap.size + 1, 3, none⟩) zl).trans l3, ((below_put qc NB hNw _ _ _).cell (p := ⟨w.heap.size + 1, 4, none⟩) zl).trans l4⟩ (fun hHeld => ?_)
      clear hK K hHeld
      refine wpAnyH_done (by kernel_rfl) ?_ _
      go_wp2_with fail
      go_meet
      first | exact got_old qc xa oX oV hNw (.inl hN) hlo hm1 hm2 (Nat.le_refl _) | exact got_old qc xa oX oV hNw (.inr hNl) hlo hm1 hm2 hNx
  case rest =>
    clear m0 m1 l0 l1 l2 l3 l4 zm zl
    revert wc
    intro w2 hcut
    obtain ⟨N2, lo2, mid2, hi2, a2, c2, av2, cv2, rfl, rfl, bx2, oX2, oV2, hb2, hN2a, hN2b, hN2c, hN2d, hN2e, hN2f⟩ := hcut
    have zN2 := bx2.lt
    have B2 := hidden (Below.andThen B1.out hb2)
    have BG2 := hidden (BG1.out.below hb2 (by omega))
    have BC2 := hidden (BC1.out.below hb2 (by omega))
    have z2 := hb2.size
    clear B1 BG1 BC1 hb2
    have W2 := hidden oX2
    clear oX2
    have V2 := hidden oV2
    clear oV2
    have BW2 := hidden bx2
    clear bx2
    go_wp2_with fail
    refine (toIntS_ex _ _ _ _ ls hlL (hrL.below B2.out) (by omega)).mono ?_
    rintro e w3 ⟨aL, rfl, o3, hb3⟩
    have B3 := hidden (Below.andThen B2.out hb3)
    have BG3 := hidden (BG2.out.below hb3 (by omega))
    have BC3 := hidden (BC2.out.below hb3 (by omega))
    have W3 := hidden (W2.out.below hb3)
    have V3 := hidden (V2.out.below hb3)
    have BW3 := hidden (BW2.out.below hb3 (by omega))
    have z3 := hb3.size
    clear B2 BG2 BC2 W2 V2 BW2 hb3
    have XL3 := hidden o3
    clear o3
    obtain ⟨l0, l1, l2, l3, l4⟩ := BC3.out.cells5
    go_wp2_with fail
    refine (toCmd_any _ o d b k _ _ _ zs hl (hr.below B3.out) hwt').mono ?_
    rintro e w4 ⟨g4, rfl, o4, hb4⟩
    clear l0 l1 l2 l3 l4
    have B4 := hidden (Below.andThen B3.out hb4)
    have BG4 := hidden (BG3.out.below hb4 (by omega))
    have BC4 := hidden (BC3.out.below hb4 (by omega))
    have W4 := hidden (W3.out.below hb4)
    have V4 := hidden (V3.out.below hb4)
    have BW4 := hidden (BW3.out.below hb4 (by omega))
    have XL4 := hidden (XL3.out.below hb4)
    have z4 := hb4.size
    clear B3 BG3 BC3 W3 V3 BW3 XL3 hb4
    have D4 := hidden o4
    clear o4
    have ba : Below w4.heap.size w4 (w4.alloc (.cells #[.int .i64 o, .int .i64 d, .int .i64 b, .int .i64 k, .slice (some ⟨g4, 0, none⟩) n n] 37)) := (Below.refl _ _).alloc (Nat.le_refl _) _
    have xb := Box.new w4 37 #[.int .i64 o, .int .i64 d, .int .i64 b, .int .i64 k, .slice (some ⟨g4, 0, none⟩) n n]
    have zx := xb.lt
    have B5 := hidden (Below.andThen B4.out ba)
    have BG5 := hidden (BG4.out.below ba (by omega))
    have BC5 := hidden (BC4.out.below ba (by omega))
    have W5 := hidden (W4.out.below ba)
    have V5 := hidden (V4.out.below ba)
    have BW5 := hidden (BW4.out.below ba (by omega))
    have XL5 := hidden (XL4.out.below ba)
    have D5 := hidden (D4.out.below ba)
    have z5 := ba.size
    clear B4 BG4 BC4 W4 V4 BW4 XL4 D4 ba
    have BX5 := hidden xb
    clear xb
    have zz : w4.heap.size < (w4.alloc (.cells #[.int .i64 o, .int .i64 d, .int .i64 b, .int .i64 k, .slice (some ⟨g4, 0, none⟩) n n] 37)).heap.size := zx
    go_wp2_with fail
    generalize w4.alloc (.cells #[.int .i64 o, .int .i64 d, .int .i64 b, .int .i64 k, .slice (some ⟨g4, 0, none⟩) n n] 37) = w5 at B5 BG5 BC5 W5 V5 BW5 XL5 D5 BX5 z5 zx zz ⊢
    clear zx
    have zb5 := zz
    clear zz
    obtain ⟨m0, m1⟩ := BG5.out.cells2
    obtain ⟨y0, y1, y2, y3, y4⟩ := BX5.out.cells5
    have zm := BG5.out.lt
    have zy := BX5.out.lt
    go_upto_region 10 with fail
    go_cut [12, 13] (fun v8 v9 wx => Got14 w5 nl vn d cc xs vs v8 v9 wx)
    case first =>
      have qc : Below w5.heap.size w5 w5.drew := (Below.refl _ _).drew
      have g0 : w5.drew.cell? ⟨w.heap.size, 0, none⟩ = some (.int .i64 gn) ∧ w5.drew.cell? ⟨w.heap.size, 1, none⟩ = some (.int .i64 gs) ∧ w5.drew.cell? ⟨w4.heap.size, 0, none⟩ = some (.int .i64 o) ∧ w5.drew.cell? ⟨w4.heap.size, 1, none⟩ = some (.int .i64 d) ∧ w5.drew.cell? ⟨w4.heap.size, 2, none⟩ = some (.int .i64 b) ∧ w5.drew.cell? ⟨w4.heap.size, 3, none⟩ = some (.int .i64 k) ∧ w5.drew.cell? ⟨w4.heap.size, 4, none⟩ = some (.slice (some ⟨g4, 0, none⟩) n n) := ⟨(qc.cell (p := ⟨w.heap.size, 0, none⟩) zm).trans m0, (qc.cell (p := ⟨w.heap.size, 1, none⟩) zm).trans m1, (qc.cell (p := ⟨w4.heap.size, 0, none⟩) zy).trans y0, (qc.cell (p := ⟨w4.heap.size, 1, none⟩) zy).trans y1, (qc.cell (p := ⟨w4.heap.size, 2, none⟩) zy).trans y2, (qc.cell (p := ⟨w4.heap.size, 3, none⟩) zy).trans y3, (qc.cell (p := ⟨w4.heap.size, 4, none⟩) zy).trans y4⟩
      refine wp_region_held_drew (S := fun w' => w'.cell? ⟨w.heap.size, 0, none⟩ = some (.int .i64 gn) ∧ w'.cell? ⟨w.heap.size, 1, none⟩ = some (.int .i64 gs) ∧ w'.cell? ⟨w4.heap.size, 0, none⟩ = some (.int .i64 o) ∧ w'.cell? ⟨w4.heap.size, 1, none⟩ = some (.int .i64 d) ∧ w'.cell? ⟨w4.heap.size, 2, none⟩ = some (.int .i64 b) ∧ w'.cell? ⟨w4.heap.size, 3, none⟩ = some (.int .i64 k) ∧ w'.cell? ⟨w4.heap.size, 4, none⟩ = some (.slice (some ⟨g4, 0, none⟩) n n)) (by kernel_rfl) ?_ (fun hHeld => ?_)
      · exact g0
      clear g0
      refine held_t 0 hHeld ?_
      refine held_t 2 hHeld ?_
      refine held_t 3 hHeld ?_
      generalize w5.drew = wn at qc hHeld ⊢
      refine held_two (i := 1) (i' := 8) (by kernel_rfl) rfl rfl (by kernel_rfl) (by kernel_rfl) (fun K hK => ?_) (fun K hK => ?_)
      · skip
        go_simp
        refine (toGeo_any _ _ _).mono ?_
        rintro e wn1 ⟨rfl, pn⟩
        replace qc := Below.andThen qc pn
        clear hHeld pn
        go_wp2_with fail
        refine hK.out _ _ ⟨(qc.cell (p := ⟨w.heap.size, 0, none⟩) zm).trans m0, (qc.cell (p := ⟨w.heap.size, 1, none⟩) zm).trans m1, (qc.cell (p := ⟨w4.heap.size, 0, none⟩) zy).trans y0, (qc.cell (p := ⟨w4.heap.size, 1, none⟩) zy).trans y1, (qc.cell (p := ⟨w4.heap.size, 2, none⟩) zy).trans y2, (qc.cell (p := ⟨w4.heap.size, 3, none⟩) zy).trans y3, (qc.cell (p := ⟨w4.heap.size, 4, none⟩) zy).trans y4⟩ (fun hHeld => ?_)
        clear hK K
        refine held_two (i := 4) (i' := 8) (by kernel_rfl) rfl rfl (by kernel_rfl) (by kernel_rfl) (fun K hK => ?_) (fun K hK => ?_)
        · skip
          have hlo := qc.size
          go_simp
          refine (implDoCmd_v _ gn gs _ _ _ ls (XL5.out.rd.below qc) (by omega) o d b k _ _ _ zs (D5.out.rd.below qc) (by omega) HX.out HV.out).mono ?_
          rintro e wn2 ⟨mid, a1, c1, a2, c2, rfl, oX, oV, hm1, hm2, pn⟩
          replace qc := Below.andThen qc pn
          clear hHeld
          go_wp2_with fail
          refine hK.out _ _ ⟨(qc.cell (p := ⟨w.heap.size, 0, none⟩) zm).trans m0, (qc.cell (p := ⟨w.heap.size, 1, none⟩) zm).trans m1, (qc.cell (p := ⟨w4.heap.size, 0, none⟩) zy).trans y0, (qc.cell (p := ⟨w4.heap.size, 1, none⟩) zy).trans y1, (qc.cell (p := ⟨w4.heap.size, 2, none⟩) zy).trans y2, (qc.cell (p := ⟨w4.heap.size, 3, none⟩) zy).trans y3, (qc.cell (p := ⟨w4.heap.size, 4, none⟩) zy).trans y4⟩ (fun hHeld => ?_)
          clear hK K
          refine held_t 5 hHeld ?_
          refine held_t 6 hHeld ?_
          refine held_t 7 hHeld ?_
          refine held_one (i := 8) (by kernel_rfl) rfl (by kernel_rfl) (fun K hK => ?_)
          go_simp
          have xa := Box.new wn2 44 #[.int .i64 0, .int .i64 0, .slice none 0 0]
          have hNw := qc.size
          replace qc := qc.alloc qc.size (.cells #[.int .i64 0, .int .i64 0, .slice none 0 0] 44)
          replace oX := oX.below (new_below wn2 (.cells #[.int .i64 0, .int .i64 0, .slice none 0 0] 44))
          replace oV := oV.below (new_below wn2 (.cells #[.int .i64 0, .int .i64 0, .slice none 0 0] 44))
          clear hHeld
          refine hK.out _ _ ⟨(qc.cell (p := ⟨w.heap.size, 0, none⟩) zm).trans m0, (qc.cell (p := ⟨w.heap.size, 1, none⟩) zm).trans m1, (qc.cell (p := ⟨w4.heap.size, 0, none⟩) zy).trans y0, (qc.cell (p := ⟨w4.heap.size, 1, none⟩) zy).trans y1, (qc.cell (p := ⟨w4.heap.size, 2, none⟩) zy).trans y2, (qc.cell (p := ⟨w4.heap.size, 3, none⟩) zy).trans y3, (qc.cell (p := ⟨w4.heap.size, 4, none⟩) zy).trans y4⟩ (fun hHeld => ?_)
          clear hK K
          have hNx := (new_below wn2 (.cells #[.int .i64 0, .int .i64 0, .slice none 0 0] 44)).size
          generalize wn2.alloc (.cells #[.int .i64 0, .int .i64 0, .slice none 0 0] 44) = wn2a at hNx qc xa oX oV hHeld ⊢
          generalize hNe : wn2.heap.size = NB at xa hNw ⊢
          have hNl := Nat.le_of_eq hNe
          clear hNe
          refine held_t 9 hHeld ?_
          obtain ⟨n0, n1, n2⟩ := xa.cells3
          have fz := xa.frozen
          refine held_one (i := 10) (by kernel_rfl) rfl (by kernel_rfl) (fun K hK => ?_)
          clear hHeld
          go_simp
          refine hK.out _ _ ⟨((below_put qc NB hNw _ _ _).cell (p := ⟨w.heap.size, 0, none⟩) zm).trans m0, ((below_put qc NB hNw _ _ _).cell (p := ⟨w.heap.size, 1, none⟩) zm).trans m1, ((below_put qc NB hNw _ _ _).cell (p := ⟨w4.heap.size, 0, none⟩) zy).trans y0, ((below_put qc NB hNw _ _ _).cell (p := ⟨w4.heap.size, 1, none⟩) zy).trans y1, ((below_put qc NB hNw _ _ _).cell (p := ⟨w4.heap.size, 2, none⟩) zy).trans y2, ((below_put qc NB hNw _ _ _).cell (p := ⟨w4.heap.size, 3, none⟩) zy).trans y3, ((below_put qc NB hNw _ _ _).cell (p := ⟨w4.heap.size, 4, none⟩) zy).trans y4⟩ (fun hHeld => ?_)
          clear hK K hHeld
          refine wpAnyH_done (by kernel_rfl) ?_ _
          go_wp2_with fail
          go_meet
          first | exact got_old qc xa oX oV hNw (.inl hN) hlo hm1 hm2 (Nat.le_refl _) | exact got_old qc xa oX oV hNw (.inr hNl) hlo hm1 hm2 hNx
        · skip
          go_simp
          have xa := Box.new wn1 44 #[.int .i64 0, .int .i64 0, .slice none 0 0]
          have hNw := qc.size
          replace qc := qc.alloc qc.size (.cells #[.int .i64 0, .int .i64 0, .slice none 0 0] 44)
          clear hHeld
          refine hK.out _ _ ⟨(qc.cell (p := ⟨w.heap.size, 0, none⟩) zm).trans m0, (qc.cell (p := ⟨w.heap.size, 1, none⟩) zm).trans m1, (qc.cell (p := ⟨w4.heap.size, 0, none⟩) zy).trans y0, (qc.cell (p := ⟨w4.heap.size, 1, none⟩) zy).trans y1, (qc.cell (p := ⟨w4.heap.size, 2, none⟩) zy).trans y2, (qc.cell (p := ⟨w4.heap.size, 3, none⟩) zy).trans y3, (qc.cell (p := ⟨w4.heap.size, 4, none⟩) zy).trans y4⟩ (fun hHeld => ?_)
          clear hK K
          have hNx := (new_below wn1 (.cells #[.int .i64 0, .int .i64 0, .slice none 0 0] 44)).size
          generalize wn1.alloc (.cells #[.int .i64 0, .int .i64 0, .slice none 0 0] 44) = wn1a at hNx qc xa hHeld ⊢
          generalize hNe : wn1.heap.size = NB at xa hNw ⊢
          have hNl := Nat.le_of_eq hNe
          clear hNe
          refine held_one (i := 4) (by kernel_rfl) rfl (by kernel_rfl) (fun K hK => ?_)
          have hN := xa.lt
          have hlo := qc.size
          go_simp
          refine (implDoCmd_v _ gn gs _ _ _ ls (XL5.out.rd.below qc) (by omega) o d b k _ _ _ zs (D5.out.rd.below qc) (by omega) HX.out HV.out).mono ?_
          rintro e wn2 ⟨mid, a1, c1, a2, c2, rfl, oX, oV, hm1, hm2, pn⟩
          replace qc := Below.andThen qc pn
          replace xa := xa.below pn hN
          clear hHeld
          go_wp2_with fail
          refine hK.out _ _ ⟨(qc.cell (p := ⟨w.heap.size, 0, none⟩) zm).trans m0, (qc.cell (p := ⟨w.heap.size, 1, none⟩) zm).trans m1, (qc.cell (p := ⟨w4.heap.size, 0, none⟩) zy).trans y0, (qc.cell (p := ⟨w4.heap.size, 1, none⟩) zy).trans y1, (qc.cell (p := ⟨w4.heap.size, 2, none⟩) zy).trans y2, (qc.cell (p := ⟨w4.heap.size, 3, none⟩) zy).trans y3, (qc.cell (p := ⟨w4.heap.size, 4, none⟩) zy).trans y4⟩ (fun hHeld => ?_)
          clear hK K
          refine held_t 5 hHeld ?_
          refine held_t 6 hHeld ?_
          refine held_t 7 hHeld ?_
          refine held_t 9 hHeld ?_
          obtain ⟨n0, n1, n2⟩ := xa.cells3
          have fz := xa.frozen
          refine held_one (i := 10) (by kernel_rfl) rfl (by kernel_rfl) (fun K hK => ?_)
          clear hHeld
          go_simp
          refine hK.out _ _ ⟨((below_put qc NB hNw _ _ _).cell (p := ⟨w.heap.size, 0, none⟩) zm).trans m0, ((below_put qc NB hNw _ _ _).cell (p := ⟨w.heap.size, 1, none⟩) zm).trans m1, ((below_put qc NB hNw _ _ _).cell (p := ⟨w4.heap.size, 0, none⟩) zy).trans y0, ((below_put qc NB hNw _ _ _).cell (p := ⟨w4.heap.size, 1, none⟩) zy).trans y1, ((below_put qc NB hNw _ _ _).cell (p := ⟨w4.heap.size, 2, none⟩) zy).trans y2, ((below_put qc NB hNw _ _ _).cell (p := ⟨w4.heap.size, 3, none⟩) zy).trans y3, ((below_put qc NB hNw _ _ _).cell (p := ⟨w4.heap.size, 4, none⟩) zy).trans y4⟩ (fun hHeld => ?_)
          clear hK K hHeld
          refine wpAnyH_done (by kernel_rfl) ?_ _
          go_wp2_with fail
          go_meet
          first | exact got_old qc xa oX oV hNw (.inl hN) hlo hm1 hm2 (Nat.le_refl _) | exact got_old qc xa oX oV hNw (.inr hNl) hlo hm1 hm2 hNx
      · skip
        go_simp
        have xa := Box.new wn 44 #[.int .i64 0, .int .i64 0, .slice none 0 0]
        have hNw := qc.size
        replace qc := qc.alloc qc.size (.cells #[.int .i64 0, .int .i64 0, .slice none 0 0] 44)
        clear hHeld
        refine hK.out _ _ ⟨(qc.cell (p := ⟨w.heap.size, 0, none⟩) zm).trans m0, (qc.cell (p := ⟨w.heap.size, 1, none⟩) zm).trans m1, (qc.cell (p := ⟨w4.heap.size, 0, none⟩) zy).trans y0, (qc.cell (p := ⟨w4.heap.size, 1, none⟩) zy).trans y1, (qc.cell (p := ⟨w4.heap.size, 2, none⟩) zy).trans y2, (qc.cell (p := ⟨w4.heap.size, 3, none⟩) zy).trans y3, (qc.cell (p := ⟨w4.heap.size, 4, none⟩) zy).trans y4⟩ (fun hHeld => ?_)
        clear hK K
        have hNx := (new_below wn (.cells #[.int .i64 0, .int .i64 0, .slice none 0 0] 44)).size
        generalize wn.alloc (.cells #[.int .i64 0, .int .i64 0, .slice none 0 0] 44) = wna at hNx qc xa hHeld ⊢
        generalize hNe : wn.heap.size = NB at xa hNw ⊢
        have hNl := Nat.le_of_eq hNe
        clear hNe
        refine held_one (i := 1) (by kernel_rfl) rfl (by kernel_rfl) (fun K hK => ?_)
        have hN := xa.lt
        go_simp
        refine (toGeo_any _ _ _).mono ?_
        rintro e wn1 ⟨rfl, pn⟩
        replace qc := Below.andThen qc pn
        replace xa := xa.below pn hN
        clear hHeld pn
        go_wp2_with fail
        refine hK.out _ _ ⟨(qc.cell (p := ⟨w.heap.size, 0, none⟩) zm).trans m0, (qc.cell (p := ⟨w.heap.size, 1, none⟩) zm).trans m1, (qc.cell (p := ⟨w4.heap.size, 0, none⟩) zy).trans y0, (qc.cell (p := ⟨w4.heap.size, 1, none⟩) zy).trans y1, (qc.cell (p := ⟨w4.heap.size, 2, none⟩) zy).trans y2, (qc.cell (p := ⟨w4.heap.size, 3, none⟩) zy).trans y3, (qc.cell (p := ⟨w4.heap.size, 4, none⟩) zy).trans y4⟩ (fun hHeld => ?_)
        clear hK K
        refine held_one (i := 4) (by kernel_rfl) rfl (by kernel_rfl) (fun K hK => ?_)
        have hN := xa.lt
        have hlo := qc.size
        go_simp
        refine (implDoCmd_v _ gn gs _ _ _ ls (XL5.out.rd.below qc) (by omega) o d b k _ _ _ zs (D5.out.rd.below qc) (by omega) HX.out HV.out).mono ?_
        rintro e wn2 ⟨mid, a1, c1, a2, c2, rfl, oX, oV, hm1, hm2, pn⟩
        replace qc := Below.andThen qc pn
        replace xa := xa.below pn hN
        clear hHeld
        go_wp2_with fail
        refine hK.out _ _ ⟨(qc.cell (p := ⟨w.heap.size, 0, none⟩) zm).trans m0, (qc.cell (p := ⟨w.heap.size, 1, none⟩) zm).trans m1, (qc.cell (p := ⟨w4.heap.size, 0, none⟩) zy).trans y0, (qc.cell (p := ⟨w4.heap.size, 1, none⟩) zy).trans y1, (qc.cell (p := ⟨w4.heap.size, 2, none⟩) zy).trans y2, (qc.cell (p := ⟨w4.heap.size, 3, none⟩) zy).trans y3, (qc.cell (p := ⟨w4.heap.size, 4, none⟩) zy).trans y4⟩ (fun hHeld => ?_)
        clear hK K
        refine held_t 5 hHeld ?_
        refine held_t 6 hHeld ?_
        refine held_t 7 hHeld ?_
        refine held_t 9 hHeld ?_
        obtain ⟨n0, n1, n2⟩ := xa.cells3
        have fz := xa.frozen
        refine held_one (i := 10) (by kernel_rfl) rfl (by kernel_rfl) (fun K hK => ?_)
        clear hHeld
        go_simp
        refine hK.out _ _ ⟨((below_put qc NB hNw _ _ _).cell (p := ⟨w.heap.size, 0, none⟩) zm).trans m0, ((below_put qc NB hNw _ _ _).cell (p := ⟨w.heap.size, 1, none⟩) zm).trans m1, ((below_put qc NB hNw _ _ _).cell (p := ⟨w4.heap.size, 0, none⟩) zy).trans y0, ((below_put qc NB hNw _ _ _).cell (p := ⟨w4.heap.size, 1, none⟩) zy).trans y1, ((below_put qc NB hNw _ _ _).cell (p := ⟨w4.heap.size, 2, none⟩) zy).trans y2, ((below_put qc NB hNw _ _ _).cell (p := ⟨w4.heap.size, 3, none⟩) zy).trans y3, ((below_put qc NB hNw _ _ _).cell (p := ⟨w4.heap.size, 4, none⟩) zy).trans y4⟩ (fun hHeld => ?_)
        clear hK K hHeld
        refine wpAnyH_done (by kernel_rfl) ?_ _
        go_wp2_with fail
        go_meet
        first | exact got_old qc xa oX oV hNw (.inl hN) hlo hm1 hm2 (Nat.le_refl _) | exact got_old qc xa oX oV hNw (.inr hNl) hlo hm1 hm2 hNx
    case rest =>
      clear m0 m1 y0 y1 y2 y3 y4 zm zy
      revert wc
      intro w6 hcut
      obtain ⟨N6, lo6, mid6, hi6, a6, c6, av6, cv6, rfl, rfl, bx6, oX6, oV6, hb6, hN6a, hN6b, hN6c, hN6d, hN6e, hN6f⟩ := hcut
      have zN6 := bx6.lt
      have B6 := hidden (Below.andThen B5.out hb6)
      have BG6 := hidden (BG5.out.below hb6 (by omega))
      have BC6 := hidden (BC5.out.below hb6 (by omega))
      have W6 := hidden (W5.out.below hb6)
      have V6 := hidden (V5.out.below hb6)
      have BW6 := hidden (BW5.out.below hb6 (by omega))
      have XL6 := hidden (XL5.out.below hb6)
      have D6 := hidden (D5.out.below hb6)
      have BX6 := hidden (BX5.out.below hb6 (by omega))
      have z6 := hb6.size
      clear B5 BG5 BC5 W5 V5 BW5 XL5 D5 BX5 hb6
      have G6 := hidden oX6
      clear oX6
      have U6 := hidden oV6
      clear oV6
      have BA6 := hidden bx6
      clear bx6
      go_wp2_with fail
      refine (eqIntS_any _ _ _ _ _ _ _ xs xs HXL.out HXL.out (ints_rd G6.out.rd).1 (ints_rd W6.out.rd).1 (by omega)).mono ?_
      rintro e w7 ⟨rfl, hs7⟩
      have B7 := hidden (Below.andSame B6.out hs7)
      have BG7 := hidden (BG6.out.same hs7)
      have BC7 := hidden (BC6.out.same hs7)
      have W7 := hidden (W6.out.same hs7)
      have V7 := hidden (V6.out.same hs7)
      have BW7 := hidden (BW6.out.same hs7)
      have XL7 := hidden (XL6.out.same hs7)
      have D7 := hidden (D6.out.same hs7)
      have BX7 := hidden (BX6.out.same hs7)
      have G7 := hidden (G6.out.same hs7)
      have U7 := hidden (U6.out.same hs7)
      have BA7 := hidden (BA6.out.same hs7)
      have z7 := Nat.le_of_eq hs7.size.symm
      clear B6 BG6 BC6 W6 V6 BW6 XL6 D6 BX6 G6 U6 BA6 hs7
      obtain ⟨p0, p1, p2⟩ := BA7.out.cells3
      obtain ⟨q0, q1, q2⟩ := BW7.out.cells3
      go_wp2_with fail
      refine (eqAns_same _ d cc _ _ _ _ _ vs U7.out.rd V7.out.rd (by omega)).mono ?_
      rintro e w8 ⟨rfl, hb8⟩
      clear p0 p1 p2 q0 q1 q2
      have B8 := hidden (Below.andThen B7.out hb8)
      have BG8 := hidden (BG7.out.below hb8 (by omega))
      have BC8 := hidden (BC7.out.below hb8 (by omega))
      have W8 := hidden (W7.out.below hb8)
      have V8 := hidden (V7.out.below hb8)
      have BW8 := hidden (BW7.out.below hb8 (by omega))
      have XL8 := hidden (XL7.out.below hb8)
      have D8 := hidden (D7.out.below hb8)
      have BX8 := hidden (BX7.out.below hb8 (by omega))
      have G8 := hidden (G7.out.below hb8)
      have U8 := hidden (U7.out.below hb8)
      have BA8 := hidden (BA7.out.below hb8 (by omega))
      have z8 := hb8.size
      clear B7 BG7 BC7 W7 V7 BW7 XL7 D7 BX7 G7 U7 BA7 hb8
      go_wp2_with fail
      refine (toIntS_ex _ _ _ _ ls hlL (hrL.below B8.out) (by omega)).mono ?_
      rintro e w9 ⟨aT, rfl, o9, hb9⟩
      have B9 := hidden (Below.andThen B8.out hb9)
      have BG9 := hidden (BG8.out.below hb9 (by omega))
      have BC9 := hidden (BC8.out.below hb9 (by omega))
      have W9 := hidden (W8.out.below hb9)
      have V9 := hidden (V8.out.below hb9)
      have BW9 := hidden (BW8.out.below hb9 (by omega))
      have XL9 := hidden (XL8.out.below hb9)
      have D9 := hidden (D8.out.below hb9)
      have BX9 := hidden (BX8.out.below hb9 (by omega))
      have G9 := hidden (G8.out.below hb9)
      have U9 := hidden (U8.out.below hb9)
      have BA9 := hidden (BA8.out.below hb9 (by omega))
      have z9 := hb9.size
      clear B8 BG8 BC8 W8 V8 BW8 XL8 D8 BX8 G8 U8 BA8 hb9
      have T9 := hidden o9
      clear o9
      go_wp2_with fail
      refine (eqIntS_any _ _ _ _ _ _ _ ls ls hlL hlL (ints_rd XL9.out.rd).1 (ints_rd T9.out.rd).1 (by omega)).mono ?_
      rintro e w10 ⟨rfl, hs10⟩
      have B10 := hidden (Below.andSame B9.out hs10)
      have BG10 := hidden (BG9.out.same hs10)
      have BC10 := hidden (BC9.out.same hs10)
      have W10 := hidden (W9.out.same hs10)
      have V10 := hidden (V9.out.same hs10)
      have BW10 := hidden (BW9.out.same hs10)
      have XL10 := hidden (XL9.out.same hs10)
      have D10 := hidden (D9.out.same hs10)
      have BX10 := hidden (BX9.out.same hs10)
      have G10 := hidden (G9.out.same hs10)
      have U10 := hidden (U9.out.same hs10)
      have BA10 := hidden (BA9.out.same hs10)
      have T10 := hidden (T9.out.same hs10)
      have z10 := Nat.le_of_eq hs10.size.symm
      clear B9 BG9 BC9 W9 V9 BW9 XL9 D9 BX9 G9 U9 BA9 T9 hs10
      clear T10
      obtain ⟨y0, y1, y2, y3, y4⟩ := BX10.out.cells5
      have zy := BX10.out.lt
      obtain ⟨l0, l1, l2, l3, l4⟩ := BC10.out.cells5
      have zl := BC10.out.lt
      go_wp2_with fail
      have q0 : Below w10.heap.size w10 w10.drew := (Below.refl _ _).drew
      go_region_held3 (fun w' => w'.cell? ⟨w4.heap.size, 0, none⟩ = some (.int .i64 o) ∧ w'.cell? ⟨w4.heap.size, 1, none⟩ = some (.int .i64 d) ∧ w'.cell? ⟨w4.heap.size, 2, none⟩ = some (.int .i64 b) ∧ w'.cell? ⟨w4.heap.size, 3, none⟩ = some (.int .i64 k) ∧ w'.cell? ⟨w4.heap.size, 4, none⟩ = some (.slice (some ⟨g4, 0, none⟩) n n) ∧ w'.cell? ⟨w.heap.size + 1, 0, none⟩ = some (.int .i64 o) ∧ w'.cell? ⟨w.heap.size + 1, 1, none⟩ = some (.int .i64 d) ∧ w'.cell? ⟨w.heap.size + 1, 2, none⟩ = some (.int .i64 b) ∧ w'.cell? ⟨w.heap.size + 1, 3, none⟩ = some (.int .i64 k) ∧ w'.cell? ⟨w.heap.size + 1, 4, none⟩ = some (.slice a n cap))
        (first | (exact ⟨(q2.cell (p := ⟨w4.heap.size, 0, none⟩) zy).trans y0, (q2.cell (p := ⟨w4.heap.size, 1, none⟩) zy).trans y1, (q2.cell (p := ⟨w4.heap.size, 2, none⟩) zy).trans y2, (q2.cell (p := ⟨w4.heap.size, 3, none⟩) zy).trans y3, (q2.cell (p := ⟨w4.heap.size, 4, none⟩) zy).trans y4, (q2.cell (p := ⟨w.heap.size + 1, 0, none⟩) zl).trans l0, (q2.cell (p := ⟨w.heap.size + 1, 1, none⟩) zl).trans l1, (q2.cell (p := ⟨w.heap.size + 1, 2, none⟩) zl).trans l2, (q2.cell (p := ⟨w.heap.size + 1, 3, none⟩) zl).trans l3, (q2.cell (p := ⟨w.heap.size + 1, 4, none⟩) zl).trans l4⟩) | (exact ⟨(q1.cell (p := ⟨w4.heap.size, 0, none⟩) zy).trans y0, (q1.cell (p := ⟨w4.heap.size, 1, none⟩) zy).trans y1, (q1.cell (p := ⟨w4.heap.size, 2, none⟩) zy).trans y2, (q1.cell (p := ⟨w4.heap.size, 3, none⟩) zy).trans y3, (q1.cell (p := ⟨w4.heap.size, 4, none⟩) zy).trans y4, (q1.cell (p := ⟨w.heap.size + 1, 0, none⟩) zl).trans l0, (q1.cell (p := ⟨w.heap.size + 1, 1, none⟩) zl).trans l1, (q1.cell (p := ⟨w.heap.size + 1, 2, none⟩) zl).trans l2, (q1.cell (p := ⟨w.heap.size + 1, 3, none⟩) zl).trans l3, (q1.cell (p := ⟨w.heap.size + 1, 4, none⟩) zl).trans l4⟩) | (exact ⟨y0, y1, y2, y3, y4, l0, l1, l2, l3, l4⟩) | go_keep)
        (first | (have gq := q1; clear gq; go_at_call 29; refine (eqCmd_same _ o d b k _ _ _ _ _ zs hl (by exact (ints_rd (D10.out.below q1).rd).1) (by exact (ints_rd ow1.rd).1) (by omega)).mono ?_; rintro e w12 ⟨rfl, p2⟩; have q2 : Below w10.heap.size w10 w12 := Below.andThen q1 p2) | (have gq := q0; clear gq; go_at_call 26; refine (toCmd_any _ o d b k _ _ _ zs hl (by exact (hr.below B10.out).below q0) hwt').mono ?_; rintro e w11 ⟨t1, rfl, ow1, p1⟩; have q1 : Below w10.heap.size w10 w11 := Below.andThen q0 p1))
      clear q0 q1 p1 p2 zy y0 y1 y2 y3 y4 zl l0 l1 l2 l3 l4
      have B12 := hidden (Below.andThen B10.out q2)
      have BG12 := hidden (BG10.out.below q2 (by omega))
      have BC12 := hidden (BC10.out.below q2 (by omega))
      have W12 := hidden (W10.out.below q2)
      have V12 := hidden (V10.out.below q2)
      have BW12 := hidden (BW10.out.below q2 (by omega))
      have XL12 := hidden (XL10.out.below q2)
      have D12 := hidden (D10.out.below q2)
      have BX12 := hidden (BX10.out.below q2 (by omega))
      have G12 := hidden (G10.out.below q2)
      have U12 := hidden (U10.out.below q2)
      have BA12 := hidden (BA10.out.below q2 (by omega))
      have z12 := q2.size
      clear B10 BG10 BC10 W10 V10 BW10 XL10 D10 BX10 G10 U10 BA10 q2
      clear ow1
      go_wp2_with fail
      obtain ⟨fpM, mM, rM⟩ := XL12.out.mine
      refine (markIntS_fp _ _ _ _ ls _ fpM mM (by omega) (by omega) (by omega)).mono ?_
      rintro e w13 ⟨rfl, mN, tN⟩
      clear XL12
      have hb13 := tN.but rM
      clear mM mN tN rM
      have B13 := hidden (Below.andBut B12.out hb13 (by omega))
      have BG13 := hidden (BG12.out.kept (hb13.block _ (by omega) (by omega)))
      have BC13 := hidden (BC12.out.kept (hb13.block _ (by omega) (by omega)))
      have W13 := hidden (W12.out.but hb13 (by omega))
      have V13 := hidden (V12.out.but hb13 (by omega))
      have BW13 := hidden (BW12.out.kept (hb13.block _ (by omega) (by omega)))
      have D13 := hidden (D12.out.but hb13 (by omega))
      have BX13 := hidden (BX12.out.kept (hb13.block _ (by omega) (by omega)))
      have G13 := hidden (G12.out.but hb13 (by omega))
      have U13 := hidden (U12.out.but hb13 (by omega))
      have BA13 := hidden (BA12.out.kept (hb13.block _ (by omega) (by omega)))
      have z13 := hb13.size
      clear B12 BG12 BC12 W12 V12 BW12 D12 BX12 G12 U12 BA12 hb13
      obtain ⟨y0, y1, y2, y3, y4⟩ := BX13.out.cells5
      go_wp2_with fail
      obtain ⟨fpM, mM, rM⟩ := D13.out.mine
      refine (markCmd_fp _ o d b k _ _ _ zs _ fpM mM (by omega) (by omega) (by omega)).mono ?_
      rintro e w14 ⟨rfl, mN, tN⟩
      clear y0 y1 y2 y3 y4
      clear D13
      have hb14 := tN.but rM
      clear mM mN tN rM
      have B14 := hidden (Below.andBut B13.out hb14 (by omega))
      have BG14 := hidden (BG13.out.kept (hb14.block _ (by omega) (by omega)))
      have BC14 := hidden (BC13.out.kept (hb14.block _ (by omega) (by omega)))
      have W14 := hidden (W13.out.but hb14 (by omega))
      have V14 := hidden (V13.out.but hb14 (by omega))
      have BW14 := hidden (BW13.out.kept (hb14.block _ (by omega) (by omega)))
      have BX14 := hidden (BX13.out.kept (hb14.block _ (by omega) (by omega)))
      have G14 := hidden (G13.out.but hb14 (by omega))
      have U14 := hidden (U13.out.but hb14 (by omega))
      have BA14 := hidden (BA13.out.kept (hb14.block _ (by omega) (by omega)))
      have z14 := hb14.size
      clear B13 BG13 BC13 W13 V13 BW13 BX13 G13 U13 BA13 hb14
      clear BX14
      go_wp2_with fail
      refine (eqIntS_any _ _ _ _ _ _ _ xs xs HXL.out HXL.out (ints_rd G14.out.rd).1 (ints_rd W14.out.rd).1 (by omega)).mono ?_
      rintro e w15 ⟨rfl, hs15⟩
      have B15 := hidden (Below.andSame B14.out hs15)
      have BG15 := hidden (BG14.out.same hs15)
      have BC15 := hidden (BC14.out.same hs15)
      have W15 := hidden (W14.out.same hs15)
      have V15 := hidden (V14.out.same hs15)
      have BW15 := hidden (BW14.out.same hs15)
      have G15 := hidden (G14.out.same hs15)
      have U15 := hidden (U14.out.same hs15)
      have BA15 := hidden (BA14.out.same hs15)
      have z15 := Nat.le_of_eq hs15.size.symm
      clear B14 BG14 BC14 W14 V14 BW14 G14 U14 BA14 hs15
      obtain ⟨p0, p1, p2⟩ := BA15.out.cells3
      obtain ⟨q0, q1, q2⟩ := BW15.out.cells3
      go_wp2_with fail
      refine (eqAns_same _ d cc _ _ _ _ _ vs U15.out.rd V15.out.rd (by omega)).mono ?_
      rintro e w16 ⟨rfl, hb16⟩
      clear p0 p1 p2 q0 q1 q2
      have B16 := hidden (Below.andThen B15.out hb16)
      have BG16 := hidden (BG15.out.below hb16 (by omega))
      have BC16 := hidden (BC15.out.below hb16 (by omega))
      have W16 := hidden (W15.out.below hb16)
      have V16 := hidden (V15.out.below hb16)
      have BW16 := hidden (BW15.out.below hb16 (by omega))
      have G16 := hidden (G15.out.below hb16)
      have U16 := hidden (U15.out.below hb16)
      have BA16 := hidden (BA15.out.below hb16 (by omega))
      have z16 := hb16.size
      clear B15 BG15 BC15 W15 V15 BW15 G15 U15 BA15 hb16
      go_wp2_with fail
      obtain ⟨fpM, mM, rM⟩ := G16.out.mine
      refine (markIntS_fp _ _ _ _ xs _ fpM mM (by omega) (by omega) (by omega)).mono ?_
      rintro e w17 ⟨rfl, mN, tN⟩
      clear G16
      have hb17 := tN.but rM
      have gN := mN.own rM
      clear mM mN tN rM
      have B17 := hidden (Below.andBut B16.out hb17 (by omega))
      have BG17 := hidden (BG16.out.kept (hb17.block _ (by omega) (by omega)))
      have BC17 := hidden (BC16.out.kept (hb17.block _ (by omega) (by omega)))
      have W17 := hidden (W16.out.but hb17 (by omega))
      have V17 := hidden (V16.out.but hb17 (by omega))
      have BW17 := hidden (BW16.out.kept (hb17.block _ (by omega) (by omega)))
      have U17 := hidden (U16.out.but hb17 (by omega))
      have BA17 := hidden (BA16.out.kept (hb17.block _ (by omega) (by omega)))
      have z17 := hb17.size
      clear B16 BG16 BC16 W16 V16 BW16 U16 BA16 hb17
      have G17 := hidden gN
      clear gN
      obtain ⟨p0, p1, p2⟩ := BA17.out.cells3
      go_wp2_with fail
      obtain ⟨fpM, mM, rM⟩ := U17.out.mine
      refine (markAns_fp _ d cc _ _ _ vs _ fpM mM (by omega) (by omega) (by omega)).mono ?_
      rintro e w18 ⟨rfl, mN, tN⟩
      clear p0 p1 p2
      clear U17
      have hb18 := tN.but rM
      have gN := mN.own rM
      clear mM mN tN rM
      have B18 := hidden (Below.andBut B17.out hb18 (by omega))
      have BG18 := hidden (BG17.out.kept (hb18.block _ (by omega) (by omega)))
      have BC18 := hidden (BC17.out.kept (hb18.block _ (by omega) (by omega)))
      have W18 := hidden (W17.out.but hb18 (by omega))
      have V18 := hidden (V17.out.but hb18 (by omega))
      have BW18 := hidden (BW17.out.kept (hb18.block _ (by omega) (by omega)))
      have BA18 := hidden (BA17.out.kept (hb18.block _ (by omega) (by omega)))
      have G18 := hidden (G17.out.but hb18 (by omega))
      have z18 := hb18.size
      clear B17 BG17 BC17 W17 V17 BW17 BA17 G17 hb18
      have U18 := hidden gN
      clear gN
      go_wp2_with fail
      refine (heldIntS_any _ _ _ _ _ (ints_rd G18.out.rd).1 (by omega) (by omega) (by omega)).mono ?_
      rintro e w19 ⟨rfl, hs19⟩
      have B19 := hidden (Below.andSame B18.out hs19)
      have BG19 := hidden (BG18.out.same hs19)
      have BC19 := hidden (BC18.out.same hs19)
      have W19 := hidden (W18.out.same hs19)
      have V19 := hidden (V18.out.same hs19)
      have BW19 := hidden (BW18.out.same hs19)
      have BA19 := hidden (BA18.out.same hs19)
      have G19 := hidden (G18.out.same hs19)
      have U19 := hidden (U18.out.same hs19)
      have z19 := Nat.le_of_eq hs19.size.symm
      clear B18 BG18 BC18 W18 V18 BW18 BA18 G18 U18 hs19
      obtain ⟨p0, p1, p2⟩ := BA19.out.cells3
      go_wp2_with fail
      refine (heldAns_any _ d cc _ _ _ _ (ints_rd U19.out.rd).1 (by omega) (by omega) (by omega)).mono ?_
      rintro e w20 ⟨rfl, hb20⟩
      clear p0 p1 p2
      have B20 := hidden (Below.andThen B19.out hb20)
      have BG20 := hidden (BG19.out.below hb20 (by omega))
      have BC20 := hidden (BC19.out.below hb20 (by omega))
      have W20 := hidden (W19.out.below hb20)
      have V20 := hidden (V19.out.below hb20)
      have BW20 := hidden (BW19.out.below hb20 (by omega))
      have BA20 := hidden (BA19.out.below hb20 (by omega))
      have G20 := hidden (G19.out.below hb20)
      have U20 := hidden (U19.out.below hb20)
      have z20 := hb20.size
      clear B19 BG19 BC19 W19 V19 BW19 BA19 G19 U19 hb20
      obtain ⟨m0, m1⟩ := BG20.out.cells2
      obtain ⟨l0, l1, l2, l3, l4⟩ := BC20.out.cells5
      have zm := BG20.out.lt
      have zl := BC20.out.lt
      go_upto_region 34 with fail
      go_cut [17, 18] (fun v8 v9 wx => Got14 w20 nl vn d cc xs vs v8 v9 wx)
      case first =>
        have qc : Below w20.heap.size w20 w20.drew := (Below.refl _ _).drew
        have g0 : w20.drew.cell? ⟨w.heap.size, 0, none⟩ = some (.int .i64 gn) ∧ w20.drew.cell? ⟨w.heap.size, 1, none⟩ = some (.int .i64 gs) ∧ w20.drew.cell? ⟨w.heap.size + 1, 0, none⟩ = some (.int .i64 o) ∧ w20.drew.cell? ⟨w.heap.size + 1, 1, none⟩ = some (.int .i64 d) ∧ w20.drew.cell? ⟨w.heap.size + 1, 2, none⟩ = some (.int .i64 b) ∧ w20.drew.cell? ⟨w.heap.size + 1, 3, none⟩ = some (.int .i64 k) ∧ w20.drew.cell? ⟨w.heap.size + 1, 4, none⟩ = some (.slice a n cap) := ⟨(qc.cell (p := ⟨w.heap.size, 0, none⟩) zm).trans m0, (qc.cell (p := ⟨w.heap.size, 1, none⟩) zm).trans m1, (qc.cell (p := ⟨w.heap.size + 1, 0, none⟩) zl).trans l0, (qc.cell (p := ⟨w.heap.size + 1, 1, none⟩) zl).trans l1, (qc.cell (p := ⟨w.heap.size + 1, 2, none⟩) zl).trans l2, (qc.cell (p := ⟨w.heap.size + 1, 3, none⟩) zl).trans l3, (qc.cell (p := ⟨w.heap.size + 1, 4, none⟩) zl).trans l4⟩
        refine wp_region_held_drew (S := fun w' => w'.cell? ⟨w.heap.size, 0, none⟩ = some (.int .i64 gn) ∧ w'.cell? ⟨w.heap.size, 1, none⟩ = some (.int .i64 gs) ∧ w'.cell? ⟨w.heap.size + 1, 0, none⟩ = some (.int .i64 o) ∧ w'.cell? ⟨w.heap.size + 1, 1, none⟩ = some (.int .i64 d) ∧ w'.cell? ⟨w.heap.size + 1, 2, none⟩ = some (.int .i64 b) ∧ w'.cell? ⟨w.heap.size + 1, 3, none⟩ = some (.int .i64 k) ∧ w'.cell? ⟨w.heap.size + 1, 4, none⟩ = some (.slice a n cap)) (by kernel_rfl) ?_ (fun hHeld => ?_)
        · exact g0
        clear g0
        refine held_t 0 hHeld ?_
        refine held_t 2 hHeld ?_
        refine held_t 4 hHeld ?_
        generalize w20.drew = wn at qc hHeld ⊢
        refine held_two (i := 1) (i' := 10) (by kernel_rfl) rfl rfl (by kernel_rfl) (by kernel_rfl) (fun K hK => ?_) (fun K hK => ?_)
        · skip
          go_simp
          refine (toGeo_any _ _ _).mono ?_
          rintro e wn1 ⟨rfl, pn⟩
          replace qc := Below.andThen qc pn
          clear hHeld pn
          go_wp2_with fail
          refine hK.out _ _ ⟨(qc.cell (p := ⟨w.heap.size, 0, none⟩) zm).trans m0, (qc.cell (p := ⟨w.heap.size, 1, none⟩) zm).trans m1, (qc.cell (p := ⟨w.heap.size + 1, 0, none⟩) zl).trans l0, (qc.cell (p := ⟨w.heap.size + 1, 1, none⟩) zl).trans l1, (qc.cell (p := ⟨w.heap.size + 1, 2, none⟩) zl).trans l2, (qc.cell (p := ⟨w.heap.size + 1, 3, none⟩) zl).trans l3, (qc.cell (p := ⟨w.heap.size + 1, 4, none⟩) zl).trans l4⟩ (fun hHeld => ?_)
          clear hK K
          refine held_two (i := 3) (i' := 10) (by kernel_rfl) rfl rfl (by kernel_rfl) (by kernel_rfl) (fun K hK => ?_) (fun K hK => ?_)
          · skip
            go_simp
            refine (toIntS_ex _ _ _ _ ls hlL (hrL.below (Below.andThen B20.out qc)) (by omega)).mono ?_
            rintro e wn2 ⟨aL, rfl, iL, pn⟩
            replace qc := Below.andThen qc pn
            clear hHeld pn
            go_wp2_with fail
            refine hK.out _ _ ⟨(qc.cell (p := ⟨w.heap.size, 0, none⟩) zm).trans m0, (qc.cell (p := ⟨w.heap.size, 1, none⟩) zm).trans m1, (qc.cell (p := ⟨w.heap.size + 1, 0, none⟩) zl).trans l0, (qc.cell (p := ⟨w.heap.size + 1, 1, none⟩) zl).trans l1, (qc.cell (p := ⟨w.heap.size + 1, 2, none⟩) zl).trans l2, (qc.cell (p := ⟨w.heap.size + 1, 3, none⟩) zl).trans l3, (qc.cell (p := ⟨w.heap.size + 1, 4, none⟩) zl).trans l4⟩ (fun hHeld => ?_)
            clear hK K
            refine held_two (i := 5) (i' := 10) (by kernel_rfl) rfl rfl (by kernel_rfl) (by kernel_rfl) (fun K hK => ?_) (fun K hK => ?_)
            · skip
              go_simp
              refine (toCmd_any _ o d b k _ _ _ zs hl (hr.below (Below.andThen B20.out qc)) hwt').mono ?_
              rintro e wn3 ⟨g2, rfl, iC, pn⟩
              replace qc := Below.andThen qc pn
              replace iL := iL.below pn
              clear hHeld pn
              go_wp2_with fail
              refine hK.out _ _ ⟨(qc.cell (p := ⟨w.heap.size, 0, none⟩) zm).trans m0, (qc.cell (p := ⟨w.heap.size, 1, none⟩) zm).trans m1, (qc.cell (p := ⟨w.heap.size + 1, 0, none⟩) zl).trans l0, (qc.cell (p := ⟨w.heap.size + 1, 1, none⟩) zl).trans l1, (qc.cell (p := ⟨w.heap.size + 1, 2, none⟩) zl).trans l2, (qc.cell (p := ⟨w.heap.size + 1, 3, none⟩) zl).trans l3, (qc.cell (p := ⟨w.heap.size + 1, 4, none⟩) zl).trans l4⟩ (fun hHeld => ?_)
              clear hK K
              refine held_two (i := 6) (i' := 10) (by kernel_rfl) rfl rfl (by kernel_rfl) (by kernel_rfl) (fun K hK => ?_) (fun K hK => ?_)
              · skip
                have hlo := qc.size
                go_simp
                refine (implDoCmd_v _ gn gs _ _ _ ls iL.rd (by omega) o d b k _ _ _ zs iC.rd (by omega) HX.out HV.out).mono ?_
                rintro e wn4 ⟨mid, a1, c1, a2, c2, rfl, oX, oV, hm1, hm2, pn⟩
                replace qc := Below.andThen qc pn
                clear iL
                clear iC
                clear hHeld
                go_wp2_with fail
                refine hK.out _ _ ⟨(qc.cell (p := ⟨w.heap.size, 0, none⟩) zm).trans m0, (qc.cell (p := ⟨w.heap.size, 1, none⟩) zm).trans m1, (qc.cell (p := ⟨w.heap.size + 1, 0, none⟩) zl).trans l0, (qc.cell (p := ⟨w.heap.size + 1, 1, none⟩) zl).trans l1, (qc.cell (p := ⟨w.heap.size + 1, 2, none⟩) zl).trans l2, (qc.cell (p := ⟨w.heap.size + 1, 3, none⟩) zl).trans l3, (qc.cell (p := ⟨w.heap.size + 1, 4, none⟩) zl).trans l4⟩ (fun hHeld => ?_)
                clear hK K
                refine held_t 7 hHeld ?_
                refine held_t 8 hHeld ?_
                refine held_t 9 hHeld ?_
                refine held_one (i := 10) (by kernel_rfl) rfl (by kernel_rfl) (fun K hK => ?_)
                go_simp
                have xa := Box.new wn4 44 #[.int .i64 0, .int .i64 0, .slice none 0 0]
                have hNw := qc.size
                replace qc := qc.alloc qc.size (.cells #[.int .i64 0, .int .i64 0, .slice none 0 0] 44)
                replace oX := oX.below (new_below wn4 (.cells #[.int .i64 0, .int .i64 0, .slice none 0 0] 44))
                replace oV := oV.below (new_below wn4 (.cells #[.int .i64 0, .int .i64 0, .slice none 0 0] 44))
                clear hHeld
                refine hK.out _ _ ⟨(qc.cell (p := ⟨w.heap.size, 0, none⟩) zm).trans m0, (qc.cell (p := ⟨w.heap.size, 1, none⟩) zm).trans m1, (qc.cell (p := ⟨w.heap.size + 1, 0, none⟩) zl).trans l0, (qc.cell (p := ⟨w.heap.size + 1, 1, none⟩) zl).trans l1, (qc.cell (p := ⟨w.heap.size + 1, 2, none⟩) zl).trans l2, (qc.cell (p := ⟨w.heap.size + 1, 3, none⟩) zl).trans l3, (qc.cell (p := ⟨w.heap.size + 1, 4, none⟩) zl).trans l4⟩ (fun hHeld => ?_)
                clear hK K
                have hNx := (new_below wn4 (.cells #[.int .i64 0, .int .i64 0, .slice none 0 0] 44)).size
                generalize wn4.alloc (.cells #[.int .i64 0, .int .i64 0, .slice none 0 0] 44) = wn4a at hNx qc xa oX oV hHeld ⊢
                generalize hNe : wn4.heap.size = NB at xa hNw ⊢
                have hNl := Nat.le_of_eq hNe
                clear hNe
                refine held_t 11 hHeld ?_
                obtain ⟨n0, n1, n2⟩ := xa.cells3
                have fz := xa.frozen
                refine held_one (i := 12) (by kernel_rfl) rfl (by kernel_rfl) (fun K hK => ?_)
                clear hHeld
                go_simp
                refine hK.out _ _ ⟨((below_put qc NB hNw _ _ _).cell (p := ⟨w.heap.size, 0, none⟩) zm).trans m0, ((below_put qc NB hNw _ _ _).cell (p := ⟨w.heap.size, 1, none⟩) zm).trans m1, ((below_put qc NB hNw _ _ _).cell (p := ⟨w.heap.size + 1, 0, none⟩) zl).trans l0, ((below_put qc NB hNw _ _ _).cell (p := ⟨w.heap.size + 1, 1, none⟩) zl).trans l1, ((below_put qc NB hNw _ _ _).cell (p := ⟨w.heap.size + 1, 2, none⟩) zl).trans l2, ((below_put qc NB hNw _ _ _).cell (p := ⟨w.heap.size + 1, 3, none⟩) zl).trans l3, ((below_put qc NB hNw _ _ _).cell (p := ⟨w.heap.size + 1, 4, none⟩) zl).trans l4⟩ (fun hHeld => ?_)
                clear hK K hHeld
                refine wpAnyH_done (by kernel_rfl) ?_ _
                go_wp2_with fail
                go_meet
                first | exact got_old qc xa oX oV hNw (.inl hN) hlo hm1 hm2 (Nat.le_refl _) | exact got_old qc xa oX oV hNw (.inr hNl) hlo hm1 hm2 hNx
              · skip
                go_simp
                have xa := Box.new wn3 44 #[.int .i64 0, .int .i64 0, .slice none 0 0]
                have hNw := qc.size
                replace qc := qc.alloc qc.size (.cells #[.int .i64 0, .int .i64 0, .slice none 0 0] 44)
                replace iL := iL.below (new_below wn3 (.cells #[.int .i64 0, .int .i64 0, .slice none 0 0] 44))
                replace iC := iC.below (new_below wn3 (.cells #[.int .i64 0, .int .i64 0, .slice none 0 0] 44))
                clear hHeld
                refine hK.out _ _ ⟨(qc.cell (p := ⟨w.heap.size, 0, none⟩) zm).trans m0, (qc.cell (p := ⟨w.heap.size, 1, none⟩) zm).trans m1, (qc.cell (p := ⟨w.heap.size + 1, 0, none⟩) zl).trans l0, (qc.cell (p := ⟨w.heap.size + 1, 1, none⟩) zl).trans l1, (qc.cell (p := ⟨w.heap.size + 1, 2, none⟩) zl).trans l2, (qc.cell (p := ⟨w.heap.size + 1, 3, none⟩) zl).trans l3, (qc.cell (p := ⟨w.heap.size + 1, 4, none⟩) zl).trans l4⟩ (fun hHeld => ?_)
                clear hK K
                have hNx := (new_below wn3 (.cells #[.int .i64 0, .int .i64 0, .slice none 0 0] 44)).size
                generalize wn3.alloc (.cells #[.int .i64 0, .int .i64 0, .slice none 0 0] 44) = wn3a at hNx qc xa iL iC hHeld ⊢
                generalize hNe : wn3.heap.size = NB at xa hNw ⊢
                have hNl := Nat.le_of_eq hNe
                clear hNe
                refine held_one (i := 6) (by kernel_rfl) rfl (by kernel_rfl) (fun K hK => ?_)
                have hN := xa.lt
                have hlo := qc.size
                go_simp
                refine (implDoCmd_v _ gn gs _ _ _ ls iL.rd (by omega) o d b k _ _ _ zs iC.rd (by omega) HX.out HV.out).mono ?_
                rintro e wn4 ⟨mid, a1, c1, a2, c2, rfl, oX, oV, hm1, hm2, pn⟩
                replace qc := Below.andThen qc pn
                replace xa := xa.below pn hN
                clear iL
                clear iC
                clear hHeld
                go_wp2_with fail
                refine hK.out _ _ ⟨(qc.cell (p := ⟨w.heap.size, 0, none⟩) zm).trans m0, (qc.cell (p := ⟨w.heap.size, 1, none⟩) zm).trans m1, (qc.cell (p := ⟨w.heap.size + 1, 0, none⟩) zl).trans l0, (qc.cell (p := ⟨w.heap.size + 1, 1, none⟩) zl).trans l1, (qc.cell (p := ⟨w.heap.size + 1, 2, none⟩) zl).trans l2, (qc.cell (p := ⟨w.heap.size + 1, 3, none⟩) zl).trans l3, (qc.cell (p := ⟨w.heap.size + 1, 4, none⟩) zl).trans l4⟩ (fun hHeld => ?_)
                clear hK K
                refine held_t 7 hHeld ?_
                refine held_t 8 hHeld ?_
                refine held_t 9 hHeld ?_
                refine held_t 11 hHeld ?_
                obtain ⟨n0, n1, n2⟩ := xa.cells3
                have fz := xa.frozen
                refine held_one (i := 12) (by kernel_rfl) rfl (by kernel_rfl) (fun K hK => ?_)
                clear hHeld
                go_simp
                refine hK.out _ _ ⟨((below_put qc NB hNw _ _ _).cell (p := ⟨w.heap.size, 0, none⟩) zm).trans m0, ((below_put qc NB hNw _ _ _).cell (p := ⟨w.heap.size, 1, none⟩) zm).trans m1, ((below_put qc NB hNw _ _ _).cell (p := ⟨w.heap.size + 1, 0, none⟩) zl).trans l0, ((below_put qc NB hNw _ _ _).cell (p := ⟨w.heap.size + 1, 1, none⟩) zl).trans l1, ((below_put qc NB hNw _ _ _).cell (p := ⟨w.heap.size + 1, 2, none⟩) zl).trans l2, ((below_put qc NB hNw _ _ _).cell (p := ⟨w.heap.size + 1, 3, none⟩) zl).trans l3, ((below_put qc NB hNw _ _ _).cell (p := ⟨w.heap.size + 1, 4, none⟩) zl).trans l4⟩ (fun hHeld => ?_)
                clear hK K hHeld
                refine wpAnyH_done (by kernel_rfl) ?_ _
                go_wp2_with fail
                go_meet
                first | exact got_old qc xa oX oV hNw (.inl hN) hlo hm1 hm2 (Nat.le_refl _) | exact got_old qc xa oX oV hNw (.inr hNl) hlo hm1 hm2 hNx
            · skip
              go_simp
              have xa := Box.new wn2 44 #[.int .i64 0, .int .i64 0, .slice none 0 0]
              have hNw := qc.size
              replace qc := qc.alloc qc.size (.cells #[.int .i64 0, .int .i64 0, .slice none 0 0] 44)
              replace iL := iL.below (new_below wn2 (.cells #[.int .i64 0, .int .i64 0, .slice none 0 0] 44))
              clear hHeld
              refine hK.out _ _ ⟨(qc.cell (p := ⟨w.heap.size, 0, none⟩) zm).trans m0, (qc.cell (p := ⟨w.heap.size, 1, none⟩) zm).trans m1, (qc.cell (p := ⟨w.heap.size + 1, 0, none⟩) zl).trans l0, (qc.cell (p := ⟨w.heap.size + 1, 1, none⟩) zl).trans l1, (qc.cell (p := ⟨w.heap.size + 1, 2, none⟩) zl).trans l2, (qc.cell (p := ⟨w.heap.size + 1, 3, none⟩) zl).trans l3, (qc.cell (p := ⟨w.heap.size + 1, 4, none⟩) zl).trans l4⟩ (fun hHeld => ?_)
              clear hK K
              have hNx := (new_below wn2 (.cells #[.int .i64 0, .int .i64 0, .slice none 0 0] 44)).size
              generalize wn2.alloc (.cells #[.int .i64 0, .int .i64 0, .slice none 0 0] 44) = wn2a at hNx qc xa iL hHeld ⊢
              generalize hNe : wn2.heap.size = NB at xa hNw ⊢
              have hNl := Nat.le_of_eq hNe
              clear hNe
              refine held_one (i := 5) (by kernel_rfl) rfl (by kernel_rfl) (fun K hK => ?_)
              have hN := xa.lt
              go_simp
              refine (toCmd_any _ o d b k _ _ _ zs hl (hr.below (Below.andThen B20.out qc)) hwt').mono ?_
              rintro e wn3 ⟨g2, rfl, iC, pn⟩
              replace qc := Below.andThen qc pn
              replace xa := xa.below pn hN
              replace iL := iL.below pn
              clear hHeld pn
              go_wp2_with fail
              refine hK.out _ _ ⟨(qc.cell (p := ⟨w.heap.size, 0, none⟩) zm).trans m0, (qc.cell (p := ⟨w.heap.size, 1, none⟩) zm).trans m1, (qc.cell (p := ⟨w.heap.size + 1, 0, none⟩) zl).trans l0, (qc.cell (p := ⟨w.heap.size + 1, 1, none⟩) zl).trans l1, (qc.cell (p := ⟨w.heap.size + 1, 2, none⟩) zl).trans l2, (qc.cell (p := ⟨w.heap.size + 1, 3, none⟩) zl).trans l3, (qc.cell (p := ⟨w.heap.size + 1, 4, none⟩) zl).trans l4⟩ (fun hHeld => ?_)
              clear hK K
              refine held_one (i := 6) (by kernel_rfl) rfl (by kernel_rfl) (fun K hK => ?_)
              have hN := xa.lt
              have hlo := qc.size
              go_simp
              refine (implDoCmd_v _ gn gs _ _ _ ls iL.rd (by omega) o d b k _ _ _ zs iC.rd (by omega) HX.out HV.out).mono ?_
              rintro e wn4 ⟨mid, a1, c1, a2, c2, rfl, oX, oV, hm1, hm2, pn⟩
              replace qc := Below.andThen qc pn
              replace xa := xa.below pn hN
              clear iL
              clear iC
              clear hHeld
              go_wp2_with fail
              refine hK.out _ _ ⟨(qc.cell (p := ⟨w.heap.size, 0, none⟩) zm).trans m0, (qc.cell (p := ⟨w.heap.size, 1, none⟩) zm).trans m1, (qc.cell (p := ⟨w.heap.size + 1, 0, none⟩) zl).trans l0, (qc.cell (p := ⟨w.heap.size + 1, 1, none⟩) zl).trans l1, (qc.cell (p := ⟨w.heap.size + 1, 2, none⟩) zl).trans l2, (qc.cell (p := ⟨w.heap.size + 1, 3, none⟩) zl).trans l3, (qc.cell (p := ⟨w.heap.size + 1, 4, none⟩) zl).trans l4⟩ (fun hHeld => ?_)
              clear hK K
              refine held_t 7 hHeld ?_
              refine held_t 8 hHeld ?_
              refine held_t 9 hHeld ?_
              refine held_t 11 hHeld ?_
              obtain ⟨n0, n1, n2⟩ := xa.cells3
              have fz := xa.frozen
              refine held_one (i := 12) (by kernel_rfl) rfl (by kernel_rfl) (fun K hK => ?_)
              clear hHeld
              go_simp
              refine hK.out _ _ ⟨((below_put qc NB hNw _ _ _).cell (p := ⟨w.heap.size, 0, none⟩) zm).trans m0, ((below_put qc NB hNw _ _ _).cell (p := ⟨w.heap.size, 1, none⟩) zm).trans m1, ((below_put qc NB hNw _ _ _).cell (p := ⟨w.heap.size + 1, 0, none⟩) zl).trans l0, ((below_put qc NB hNw _ _ _).cell (p := ⟨w.heap.size + 1, 1, none⟩) zl).trans l1, ((below_put qc NB hNw _ _ _).cell (p := ⟨w.heap.size + 1, 2, none⟩) zl).trans l2, ((below_put qc NB hNw _ _ _).cell (p := ⟨w.heap.size + 1, 3, none⟩) zl).trans l3, ((below_put qc NB hNw _ _ _).cell (p := ⟨w.heap.size + 1, 4, none⟩) zl).trans l4⟩ (fun hHeld => ?_)
              clear hK K hHeld
              refine wpAnyH_done (by kernel_rfl) ?_ _
              go_wp2_with fail
              go_meet
              first | exact got_old qc xa oX oV hNw (.inl hN) hlo hm1 hm2 (Nat.le_refl _) | exact got_old qc xa oX oV hNw (.inr hNl) hlo hm1 hm2 hNx
          · skip
            go_simp
            have xa := Box.new wn1 44 #[.int .i64 0, .int .i64 0, .slice none 0 0]
            have hNw := qc.size
            replace qc := qc.alloc qc.size (.cells #[.int .i64 0, .int .i64 0, .slice none 0 0] 44)
            clear hHeld
            refine hK.out _ _ ⟨(qc.cell (p := ⟨w.heap.size, 0, none⟩) zm).trans m0, (qc.cell (p := ⟨w.heap.size, 1, none⟩) zm).trans m1, (qc.cell (p := ⟨w.heap.size + 1, 0, none⟩) zl).trans l0, (qc.cell (p := ⟨w.heap.size + 1, 1, none⟩) zl).trans l1, (qc.cell (p := ⟨w.heap.size + 1, 2, none⟩) zl).trans l2, (qc.cell (p := ⟨w.heap.size + 1, 3, none⟩) zl).trans l3, (qc.cell (p := ⟨w.heap.size + 1, 4, none⟩) zl).trans l4⟩ (fun hHeld => ?_)
            clear hK K
            have hNx := (new_below wn1 (.cells #[.int .i64 0, .int .i64 0, .slice none 0 0] 44)).size
            generalize wn1.alloc (.cells #[.int .i64 0, .int .i64 0, .slice none 0 0] 44) = wn1a at hNx qc xa hHeld ⊢
            generalize hNe : wn1.heap.size = NB at xa hNw ⊢
            have hNl := Nat.le_of_eq hNe
            clear hNe
            refine held_one (i := 3) (by kernel_rfl) rfl (by kernel_rfl) (fun K hK => ?_)
            have hN := xa.lt
            go_simp
            refine (toIntS_ex _ _ _ _ ls hlL (hrL.below (Below.andThen B20.out qc)) (by omega)).mono ?_
            rintro e wn2 ⟨aL, rfl, iL, pn⟩
            replace qc := Below.andThen qc pn
            replace xa := xa.below pn hN
            clear hHeld pn
            go_wp2_with fail
            refine hK.out _ _ ⟨(qc.cell (p := ⟨w.heap.size, 0, none⟩) zm).trans m0, (qc.cell (p := ⟨w.heap.size, 1, none⟩) zm).trans m1, (qc.cell (p := ⟨w.heap.size + 1, 0, none⟩) zl).trans l0, (qc.cell (p := ⟨w.heap.size + 1, 1, none⟩) zl).trans l1, (qc.cell (p := ⟨w.heap.size + 1, 2, none⟩) zl).trans l2, (qc.cell (p := ⟨w.heap.size + 1, 3, none⟩) zl).trans l3, (qc.cell (p := ⟨w.heap.size + 1, 4, none⟩) zl).trans l4⟩ (fun hHeld => ?_)
            clear hK K
            refine held_one (i := 5) (by kernel_rfl) rfl (by kernel_rfl) (fun K hK => ?_)
            have hN := xa.lt
            go_simp
            refine (toCmd_any _ o d b k _ _ _ zs hl (hr.below (Below.andThen B20.out qc)) hwt').mono ?_
            rintro e wn3 ⟨g2, rfl, iC, pn⟩
            replace qc := Below.andThen qc pn
            replace xa := xa.below pn hN
            replace iL := iL.below pn
            clear hHeld pn
            go_wp2_with fail
            refine hK.out _ _ ⟨(qc.cell (p := ⟨w.heap.size, 0, none⟩) zm).trans m0, (qc.cell (p := ⟨w.heap.size, 1, none⟩) zm).trans m1, (qc.cell (p := ⟨w.heap.size + 1, 0, none⟩) zl).trans l0, (qc.cell (p := ⟨w.heap.size + 1, 1, none⟩) zl).trans l1, (qc.cell (p := ⟨w.heap.size + 1, 2, none⟩) zl).trans l2, (qc.cell (p := ⟨w.heap.size + 1, 3, none⟩) zl).trans l3, (qc.cell (p := ⟨w.heap.size + 1, 4, none⟩) zl).trans l4⟩ (fun hHeld => ?_)
            clear hK K
            refine held_one (i := 6) (by kernel_rfl) rfl (by kernel_rfl) (fun K hK => ?_)
            have hN := xa.lt
            have hlo := qc.size
            go_simp
            refine (implDoCmd_v _ gn gs _ _ _ ls iL.rd (by omega) o d b k _ _ _ zs iC.rd (by omega) HX.out HV.out).mono ?_
            rintro e wn4 ⟨mid, a1, c1, a2, c2, rfl, oX, oV, hm1, hm2, pn⟩
            replace qc := Below.andThen qc pn
            replace xa := xa.below pn hN
            clear iL
            clear iC
            clear hHeld
            go_wp2_with fail
            refine hK.out _ _ ⟨(qc.cell (p := ⟨w.heap.size, 0, none⟩) zm).trans m0, (qc.cell (p := ⟨w.heap.size, 1, none⟩) zm).trans m1, (qc.cell (p := ⟨w.heap.size + 1, 0, none⟩) zl).trans l0, (qc.cell (p := ⟨w.heap.size + 1, 1, none⟩) zl).trans l1, (qc.cell (p := ⟨w.heap.size + 1, 2, none⟩) zl).trans l2, (qc.cell (p := ⟨w.heap.size + 1, 3, none⟩) zl).trans l3, (qc.cell (p := ⟨w.heap.size + 1, 4, none⟩) zl).trans l4⟩ (fun hHeld => ?_)
            clear hK K
            refine held_t 7 hHeld ?_
            refine held_t 8 hHeld ?_
            refine held_t 9 hHeld ?_
            refine held_t 11 hHeld ?_
            obtain ⟨n0, n1, n2⟩ := xa.cells3
            have fz := xa.frozen
            refine held_one (i := 12) (by kernel_rfl) rfl (by kernel_rfl) (fun K hK => ?_)
            clear hHeld
            go_simp
            refine hK.out _ _ ⟨((below_put qc NB hNw _ _ _).cell (p := ⟨w.heap.size, 0, none⟩) zm).trans m0, ((below_put qc NB hNw _ _ _).cell (p := ⟨w.heap.size, 1, none⟩) zm).trans m1, ((below_put qc NB hNw _ _ _).cell (p := ⟨w.heap.size + 1, 0, none⟩) zl).trans l0, ((below_put qc NB hNw _ _ _).cell (p := ⟨w.heap.size + 1, 1, none⟩) zl).trans l1, ((below_put qc NB hNw _ _ _).cell (p := ⟨w.heap.size + 1, 2, none⟩) zl).trans l2, ((below_put qc NB hNw _ _ _).cell (p := ⟨w.heap.size + 1, 3, none⟩) zl).trans l3, ((below_put qc NB hNw _ _ _).cell (p := ⟨w.heap.size + 1, 4, none⟩) zl).trans l4⟩ (fun hHeld => ?_)
            clear hK K hHeld
            refine wpAnyH_done (by kernel_rfl) ?_ _
            go_wp2_with fail
            go_meet
            first | exact got_old qc xa oX oV hNw (.inl hN) hlo hm1 hm2 (Nat.le_refl _) | exact got_old qc xa oX oV hNw (.inr hNl) hlo hm1 hm2 hNx
        · skip
          go_simp
          have xa := Box.new wn 44 #[.int .i64 0, .int .i64 0, .slice none 0 0]
          have hNw := qc.size
          replace qc := qc.alloc qc.size (.cells #[.int .i64 0, .int .i64 0, .slice none 0 0] 44)
          clear hHeld
          refine hK.out _ _ ⟨(qc.cell (p := ⟨w.heap.size, 0, none⟩) zm).trans m0, (qc.cell (p := ⟨w.heap.size, 1, none⟩) zm).trans m1, (qc.cell (p := ⟨w.heap.size + 1, 0, none⟩) zl).trans l0, (qc.cell (p := ⟨w.heap.size + 1, 1, none⟩) zl).trans l1, (qc.cell (p := ⟨w.heap.size + 1, 2, none⟩) zl).trans l2, (qc.cell (p := ⟨w.heap.size + 1, 3, none⟩) zl).trans l3, (qc.cell (p := ⟨w.heap.size + 1, 4, none⟩) zl).trans l4⟩ (fun hHeld => ?_)
          clear hK K
          have hNx := (new_below wn (.cells #[.int .i64 0, .int .i64 0, .slice none 0 0] 44)).size
          generalize wn.alloc (.cells #[.int .i64 0, .int .i64 0, .slice none 0 0] 44) = wna at hNx qc xa hHeld ⊢
          generalize hNe : wn.heap.size = NB at xa hNw ⊢
          have hNl := Nat.le_of_eq hNe
          clear hNe
          refine held_one (i := 1) (by kernel_rfl) rfl (by kernel_rfl) (fun K hK => ?_)
          have hN := xa.lt
          go_simp
          refine (toGeo_any _ _ _).mono ?_
          rintro e wn1 ⟨rfl, pn⟩
          replace qc := Below.andThen qc pn
          replace xa := xa.below pn hN
          clear hHeld pn
          go_wp2_with fail
          refine hK.out _ _ ⟨(qc.cell (p := ⟨w.heap.size, 0, none⟩) zm).trans m0, (qc.cell (p := ⟨w.heap.size, 1, none⟩) zm).trans m1, (qc.cell (p := ⟨w.heap.size + 1, 0, none⟩) zl).trans l0, (qc.cell (p := ⟨w.heap.size + 1, 1, none⟩) zl).trans l1, (qc.cell (p := ⟨w.heap.size + 1, 2, none⟩) zl).trans l2, (qc.cell (p := ⟨w.heap.size + 1, 3, none⟩) zl).trans l3, (qc.cell (p := ⟨w.heap.size + 1, 4, none⟩) zl).trans l4⟩ (fun hHeld => ?_)
          clear hK K
          refine held_one (i := 3) (by kernel_rfl) rfl (by kernel_rfl) (fun K hK => ?_)
          have hN := xa.lt
          go_simp
          refine (toIntS_ex _ _ _ _ ls hlL (hrL.below (Below.andThen B20.out qc)) (by omega)).mono ?_
          rintro e wn2 ⟨aL, rfl, iL, pn⟩
          replace qc := Below.andThen qc pn
          replace xa := xa.below pn hN
          clear hHeld pn
          go_wp2_with fail
          refine hK.out _ _ ⟨(qc.cell (p := ⟨w.heap.size, 0, none⟩) zm).trans m0, (qc.cell (p := ⟨w.heap.size, 1, none⟩) zm).trans m1, (qc.cell (p := ⟨w.heap.size + 1, 0, none⟩) zl).trans l0, (qc.cell (p := ⟨w.heap.size + 1, 1, none⟩) zl).trans l1, (qc.cell (p := ⟨w.heap.size + 1, 2, none⟩) zl).trans l2, (qc.cell (p := ⟨w.heap.size + 1, 3, none⟩) zl).trans l3, (qc.cell (p := ⟨w.heap.size + 1, 4, none⟩) zl).trans l4⟩ (fun hHeld => ?_)
          clear hK K
          refine held_one (i := 5) (by kernel_rfl) rfl (by kernel_rfl) (fun K hK => ?_)
          have hN := xa.lt
          go_simp
          refine (toCmd_any _ o d b k _ _ _ zs hl (hr.below (Below.andThen B20.out qc)) hwt').mono ?_
          rintro e wn3 ⟨g2, rfl, iC, pn⟩
          replace qc := Below.andThen qc pn
          replace xa := xa.below pn hN
          replace iL := iL.below pn
          clear hHeld pn
          go_wp2_with fail
          refine hK.out _ _ ⟨(qc.cell (p := ⟨w.heap.size, 0, none⟩) zm).trans m0, (qc.cell (p := ⟨w.heap.size, 1, none⟩) zm).trans m1, (qc.cell (p := ⟨w.heap.size + 1, 0, none⟩) zl).trans l0, (qc.cell (p := ⟨w.heap.size + 1, 1, none⟩) zl).trans l1, (qc.cell (p := ⟨w.heap.size + 1, 2, none⟩) zl).trans l2, (qc.cell (p := ⟨w.heap.size + 1, 3, none⟩) zl).trans l3, (qc.cell (p := ⟨w.heap.size + 1, 4, none⟩) zl).trans l4⟩ (fun hHeld => ?_)
          clear hK K
          refine held_one (i := 6) (by kernel_rfl) rfl (by kernel_rfl) (fun K hK => ?_)
          have hN := xa.lt
          have hlo := qc.size
          go_simp
          refine (implDoCmd_v _ gn gs _ _ _ ls iL.rd (by omega) o d b k _ _ _ zs iC.rd (by omega) HX.out HV.out).mono ?_
          rintro e wn4 ⟨mid, a1, c1, a2, c2, rfl, oX, oV, hm1, hm2, pn⟩
          replace qc := Below.andThen qc pn
          replace xa := xa.below pn hN
          clear iL
          clear iC
          clear hHeld
          go_wp2_with fail
          refine hK.out _ _ ⟨(qc.cell (p := ⟨w.heap.size, 0, none⟩) zm).trans m0, (qc.cell (p := ⟨w.heap.size, 1, none⟩) zm).trans m1, (qc.cell (p := ⟨w.heap.size + 1, 0, none⟩) zl).trans l0, (qc.cell (p := ⟨w.heap.size + 1, 1, none⟩) zl).trans l1, (qc.cell (p := ⟨w.heap.size + 1, 2, none⟩) zl).trans l2, (qc.cell (p := ⟨w.heap.size + 1, 3, none⟩) zl).trans l3, (qc.cell (p := ⟨w.heap.size + 1, 4, none⟩) zl).trans l4⟩ (fun hHeld => ?_)
          clear hK K
          refine held_t 7 hHeld ?_
          refine held_t 8 hHeld ?_
          refine held_t 9 hHeld ?_
          refine held_t 11 hHeld ?_
          obtain ⟨n0, n1, n2⟩ := xa.cells3
          have fz := xa.frozen
          refine held_one (i := 12) (by kernel_rfl) rfl (by kernel_rfl) (fun K hK => ?_)
          clear hHeld
          go_simp
          refine hK.out _ _ ⟨((below_put qc NB hNw _ _ _).cell (p := ⟨w.heap.size, 0, none⟩) zm).trans m0, ((below_put qc NB hNw _ _ _).cell (p := ⟨w.heap.size, 1, none⟩) zm).trans m1, ((below_put qc NB hNw _ _ _).cell (p := ⟨w.heap.size + 1, 0, none⟩) zl).trans l0, ((below_put qc NB hNw _ _ _).cell (p := ⟨w.heap.size + 1, 1, none⟩) zl).trans l1, ((below_put qc NB hNw _ _ _).cell (p := ⟨w.heap.size + 1, 2, none⟩) zl).trans l2, ((below_put qc NB hNw _ _ _).cell (p := ⟨w.heap.size + 1, 3, none⟩) zl).trans l3, ((below_put qc NB hNw _ _ _).cell (p := ⟨w.heap.size + 1, 4, none⟩) zl).trans l4⟩ (fun hHeld => ?_)
          clear hK K hHeld
          refine wpAnyH_done (by kernel_rfl) ?_ _
          go_wp2_with fail
          go_meet
          first | exact got_old qc xa oX oV hNw (.inl hN) hlo hm1 hm2 (Nat.le_refl _) | exact got_old qc xa oX oV hNw (.inr hNl) hlo hm1 hm2 hNx
      case rest =>
        clear m0 m1 l0 l1 l2 l3 l4 zm zl
        revert wc
        intro w21 hcut
        obtain ⟨N21, lo21, mid21, hi21, a21, c21, av21, cv21, rfl, rfl, bx21, oX21, oV21, hb21, hN21a, hN21b, hN21c, hN21d, hN21e, hN21f⟩ := hcut
        have zN21 := bx21.lt
        have B21 := hidden (Below.andThen B20.out hb21)
        have BG21 := hidden (BG20.out.below hb21 (by omega))
        have BC21 := hidden (BC20.out.below hb21 (by omega))
        have W21 := hidden (W20.out.below hb21)
        have V21 := hidden (V20.out.below hb21)
        have BW21 := hidden (BW20.out.below hb21 (by omega))
        have BA21 := hidden (BA20.out.below hb21 (by omega))
        have G21 := hidden (G20.out.below hb21)
        have U21 := hidden (U20.out.below hb21)
        have z21 := hb21.size
        clear B20 BG20 BC20 W20 V20 BW20 BA20 G20 U20 hb21
        have H21 := hidden oX21
        clear oX21
        have I21 := hidden oV21
        clear oV21
        have BH21 := hidden bx21
        clear bx21
        go_wp2_with fail
        refine (eqIntS_any _ _ _ _ _ _ _ xs xs HXL.out HXL.out (ints_rd H21.out.rd).1 (ints_rd W21.out.rd).1 (by omega)).mono ?_
        rintro e w22 ⟨rfl, hs22⟩
        have B22 := hidden (Below.andSame B21.out hs22)
        have BG22 := hidden (BG21.out.same hs22)
        have BC22 := hidden (BC21.out.same hs22)
        have W22 := hidden (W21.out.same hs22)
        have V22 := hidden (V21.out.same hs22)
        have BW22 := hidden (BW21.out.same hs22)
        have BA22 := hidden (BA21.out.same hs22)
        have G22 := hidden (G21.out.same hs22)
        have U22 := hidden (U21.out.same hs22)
        have H22 := hidden (H21.out.same hs22)
        have I22 := hidden (I21.out.same hs22)
        have BH22 := hidden (BH21.out.same hs22)
        have z22 := Nat.le_of_eq hs22.size.symm
        clear B21 BG21 BC21 W21 V21 BW21 BA21 G21 U21 H21 I21 BH21 hs22
        obtain ⟨p0, p1, p2⟩ := BH22.out.cells3
        obtain ⟨q0, q1, q2⟩ := BW22.out.cells3
        go_wp2_with fail
        refine (eqAns_same _ d cc _ _ _ _ _ vs I22.out.rd V22.out.rd (by omega)).mono ?_
        rintro e w23 ⟨rfl, hb23⟩
        clear p0 p1 p2 q0 q1 q2
        have B23 := hidden (Below.andThen B22.out hb23)
        have BG23 := hidden (BG22.out.below hb23 (by omega))
        have BC23 := hidden (BC22.out.below hb23 (by omega))
        have W23 := hidden (W22.out.below hb23)
        have V23 := hidden (V22.out.below hb23)
        have BW23 := hidden (BW22.out.below hb23 (by omega))
        have BA23 := hidden (BA22.out.below hb23 (by omega))
        have G23 := hidden (G22.out.below hb23)
        have U23 := hidden (U22.out.below hb23)
        have H23 := hidden (H22.out.below hb23)
        have I23 := hidden (I22.out.below hb23)
        have BH23 := hidden (BH22.out.below hb23 (by omega))
        have z23 := hb23.size
        clear B22 BG22 BC22 W22 V22 BW22 BA22 G22 U22 H22 I22 BH22 hb23
        clear H23
        clear I23
        clear BH23
        clear W23
        clear V23
        clear BW23
        go_wp2_with fail
        refine (heldIntS_any _ _ _ _ _ (ints_rd G23.out.rd).1 (by omega) (by omega) (by omega)).mono ?_
        rintro e w24 ⟨rfl, hs24⟩
        have B24 := hidden (Below.andSame B23.out hs24)
        have BG24 := hidden (BG23.out.same hs24)
        have BC24 := hidden (BC23.out.same hs24)
        have BA24 := hidden (BA23.out.same hs24)
        have G24 := hidden (G23.out.same hs24)
        have U24 := hidden (U23.out.same hs24)
        have z24 := Nat.le_of_eq hs24.size.symm
        clear B23 BG23 BC23 BA23 G23 U23 hs24
        obtain ⟨p0, p1, p2⟩ := BA24.out.cells3
        go_wp2_with fail
        refine (heldAns_any _ d cc _ _ _ _ (ints_rd U24.out.rd).1 (by omega) (by omega) (by omega)).mono ?_
        rintro e w25 ⟨rfl, hb25⟩
        clear p0 p1 p2
        have B25 := hidden (Below.andThen B24.out hb25)
        have BG25 := hidden (BG24.out.below hb25 (by omega))
        have BC25 := hidden (BC24.out.below hb25 (by omega))
        have BA25 := hidden (BA24.out.below hb25 (by omega))
        have G25 := hidden (G24.out.below hb25)
        have U25 := hidden (U24.out.below hb25)
        have z25 := hb25.size
        clear B24 BG24 BC24 BA24 G24 U24 hb25
        go_wp2
        go_ret
        exact ⟨rfl, B25.out⟩

end Go.Proofs.Ytgjomldcnjjpaaa

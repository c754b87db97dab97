/-
  The walk of l15Answer: an engine gets an answer to a command, in Done and in Log. Conditions: the engine and both are memory of the call's own.
-/
import Derived.Test.YtbkkjfgjlapadaaGreatHeld
import Derived.Test.YtbkkjfgjlapadaaGreatRowBeginAll3
import Derived.Test.YtbkkjfgjlapadaaGreatWalkBlocks
import Derived.Test.YtbkkjfgjlapadaaGreatHeldLoad15
import Derived.Test.YtbkkjfgjlapadaaGreatCopyEng
import Derived.Test.YtbkkjfgjlapadaaGreatWalkArr
import Derived.Test.YtbkkjfgjlapadaaGreatWalkCopySpec
import Derived.Test.YtbkkjfgjlapadaaGreatSl15
import Derived.Test.YtbkkjfgjlapadaaGreatCmdS14
import Derived.Test.YtbkkjfgjlapadaaGreatEng15
import Derived.Test.YtbkkjfgjlapadaaGreatCopy15b
import Derived.Test.YtbkkjfgjlapadaaGreatLate
import Derived.Test.YtbkkjfgjlapadaaGreatSealC15
import Derived.Deep.Cut

/-
  The walks of the program's looks at an array's entries, at its records, and at the array as a whole. Condition: it weighs at most 2097152.
-/
namespace Go.Proofs.YtbkkjfgjlapadaaGreat
open Go.RowKit

set_option linter.unusedSimpArgs false in
set_option maxRecDepth 20000 in
set_option maxHeartbeats 3200000 in
theorem dirtyOk_any (w : World) (G : TypeId) (x : ArrN) (am ad : Option Addr) (nm cm nd cd : Nat) (ds : List (Int × List Int)) (h0 : (tWrS G).Rd w [.slice ad nd cd] ds) (hw : wtWrS ds ≤ 2097152) (hg : geoB x.n x.s = true) :
    Calls Tryz.prog 133 #[.agg #[.int .i64 x.id, .int .i64 x.n, .int .i64 x.s, .slice am nm cm, .int .i64 x.lost, .int .i64 x.built, .int .i64 x.seq, .int .i64 x.tail, .int .i64 x.gen, .slice ad nd cd, .int .i64 x.fuse, .bool x.down, .bool x.broken]] w fun e w' => e = .returned (.bool (entsB x ds)) ∧ Below w.heap.size w w' := by
  obtain ⟨hl, hc, hm⟩ := row_length h0
  obtain ⟨g1, g2, g3, g4⟩ := geoB_iff.1 hg
  have hA := new_below w (.cells #[.int .i64 x.id, .int .i64 x.n, .int .i64 x.s, .slice am nm cm, .int .i64 x.lost, .int .i64 x.built, .int .i64 x.seq, .int .i64 x.tail, .int .i64 x.gen, .slice ad nd cd, .int .i64 x.fuse, .bool x.down, .bool x.broken] 29)
  have X := Box.new w 29 #[.int .i64 x.id, .int .i64 x.n, .int .i64 x.s, .slice am nm cm, .int .i64 x.lost, .int .i64 x.built, .int .i64 x.seq, .int .i64 x.tail, .int .i64 x.gen, .slice ad nd cd, .int .i64 x.fuse, .bool x.down, .bool x.broken]
  have zA := X.lt
  have hnd : nd ≤ 2097152 := by unfold wtWrS at hw; omega
  have h1 := h0.below hA
  obtain ⟨k0, k1, k2, k3, k4, k5, k6, k7, k8, k9, k10, k11, k12⟩ := X.cells13
  go_enter Tryz.func133, Tryz.ntmps133
  go_wp2
  generalize w.alloc (.cells #[.int .i64 x.id, .int .i64 x.n, .int .i64 x.s, .slice am nm cm, .int .i64 x.lost, .int .i64 x.built, .int .i64 x.seq, .int .i64 x.tail, .int .i64 x.gen, .slice ad nd cd, .int .i64 x.fuse, .bool x.down, .bool x.broken] 29) = W at hA X zA h1 k0 k1 k2 k3 k4 k5 k6 k7 k8 k9 k10 k11 k12 ⊢
  clear k0 k1 k2 k3 k4 k5 k6 k7 k8 k9 k10 k11 k12
  go_loopw [8] (fun i wr => ∃ j : Nat, j ≤ nd ∧ i = .int .i64 j ∧ (∀ (q : Nat) (d : Int × List Int), q < j → ds[q]? = some d → entAt x ds q d = true) ∧ Below W.heap.size W wr) (fun i _ => nd - (intOf i).toNat)
  case atStart => exact ⟨0, Nat.zero_le _, rfl, fun q d hq => by omega, Below.refl _ _⟩
  case round =>
    obtain ⟨j, hj, rfl, hall, hb⟩ := hrel
    have Xr := X.below hb zA
    by_cases hjn : j < nd
    · rcases pairs_at rfl h1 with h0' | ⟨b, off, rfl, hbl, hcs⟩
      · omega
      have hdj : ds[j]? = some (ds[j]'(by omega)) := List.getElem?_eq_getElem (by omega)
      generalize ds[j]'(by omega) = d at hdj
      obtain ⟨v0, v1, hv0, hv1, hrv⟩ := hcs j d hdj
      obtain ⟨rfl, hrw⟩ := wr_rd hrv
      obtain ⟨av, cv, rfl⟩ := row_shape hrw
      obtain ⟨y, zs⟩ := d
      simp only at hv0 hv1 hrw hrv
      have u0 := (hb.cell (p := ⟨b, off + j * 2, none⟩) hbl).trans hv0
      have u1 := (hb.cell (p := ⟨b, off + j * 2 + 1, none⟩) hbl).trans hv1
      have i1 : (0 : Int) ≤ (j : Int) := by omega
      have i2 : (j : Int) < (nd : Int) := by omega
      have hwz : zs.length ≤ 2097152 := Nat.le_trans (inner_le' hdj) hw
      have HDJ := hidden hdj
      have b1 := new_below wr (.cells #[.int .i64 y, .slice av zs.length cv] 162)
      have Y1 := Box.new wr 162 #[.int .i64 y, .slice av zs.length cv]
      have X1 := Xr.below b1 Xr.lt
      have RZ := (hrw.below hb).below b1
      have B1 := hb.trans (b1.mono hb.size)
      obtain ⟨y0, y1⟩ := Y1.cells2
      obtain ⟨e0, e1, e2, e3, e4, e5, e6, e7, e8, e9, e10, e11, e12⟩ := X1.cells13
      have zy := Y1.lt
      have zx := X1.lt
      have zb : b < (wr.alloc (.cells #[.int .i64 y, .slice av zs.length cv] 162)).heap.size := Nat.lt_of_lt_of_le hbl B1.size
      have hq : ∀ (p : Nat) (q : Int × List Int), ds[p]? = some q → (wr.alloc (.cells #[.int .i64 y, .slice av zs.length cv] 162)).cell? ⟨b, off + p * 2, none⟩ = some (.int .i64 q.1) := fun p q hpq => by
        obtain ⟨c0, c1, hc0, hc1, hrc⟩ := hcs p q hpq
        obtain ⟨rfl, _⟩ := wr_rd hrc
        exact (B1.cell (p := ⟨b, off + p * 2, none⟩) hbl).trans hc0
      have HQ := hidden hq
      clear hcs hv0 hv1 hrv hrw hdj hq b1 e0 e3 e4 e5 e6 e7 e8 e10 e11 e12
      cases hI : stripeB x.n x.s y
      · skip
        go_wp2_with fail
        generalize wr.alloc (.cells #[.int .i64 y, .slice av zs.length cv] 162) = w1 at X1 Y1 RZ B1 y0 y1 e1 e2 e9 zy zx zb HQ  ⊢
        refine wp_region_held_drew (S := fun w' => w'.cell? ⟨wr.heap.size, 0, none⟩ = some (.int .i64 y) ∧ w'.cell? ⟨w.heap.size, 1, none⟩ = some (.int .i64 x.n) ∧ w'.cell? ⟨w.heap.size, 2, none⟩ = some (.int .i64 x.s) ∧ w'.cell? ⟨w.heap.size, 9, none⟩ = some (.slice (some ⟨b, off, none⟩) nd cd)) (by kernel_rfl) ?_ (fun hHeld => ?_)
        · exact ⟨y0, e1, e2, e9⟩
        refine held_t 0 hHeld ?_
        refine held_t 1 hHeld ?_
        refine held_t 2 hHeld ?_
        refine held_t 3 hHeld ?_
        refine held_one (i := 4) (by kernel_rfl) rfl (by kernel_rfl) (fun K hK => ?_)
        go_simp
        refine (hasStripe_any _ x.n x.s y).mono ?_
        rintro e w2 ⟨rfl, b2⟩
        have b2' : Below w1.heap.size w1 w2 := (Below.refl w1.heap.size w1).drew.trans b2
        clear b2
        rw [hI]
        go_wp2_with fail
        clear hHeld
        refine hK.out _ _ ?_ (fun hHeld => ?_)
        · exact ⟨(b2'.cell (p := ⟨wr.heap.size, 0, none⟩) zy).trans y0, (b2'.cell (p := ⟨w.heap.size, 1, none⟩) zx).trans e1, (b2'.cell (p := ⟨w.heap.size, 2, none⟩) zx).trans e2, (b2'.cell (p := ⟨w.heap.size, 9, none⟩) zx).trans e9⟩
        clear hK K
        refine held_t 5 hHeld ?_
        refine held_t 6 hHeld ?_
        refine held_p 7 hHeld ?_
        refine held_p 8 hHeld ?_
        refine held_p 9 hHeld ?_
        refine held_p 10 hHeld ?_
        refine held_p 11 hHeld ?_
        refine held_p 12 hHeld ?_
        refine held_p 13 hHeld ?_
        refine held_p 14 hHeld ?_
        refine held_p 15 hHeld ?_
        refine held_p 16 hHeld ?_
        refine held_p 17 hHeld ?_
        refine held_p 18 hHeld ?_
        refine held_p 19 hHeld ?_
        refine held_p 20 hHeld ?_
        refine held_t 21 hHeld ?_
        refine wpAnyH_done (by kernel_rfl) ?_ _
        clear hHeld
        have HB := hidden (hA.trans ((B1.trans (b2'.mono B1.size)).mono hA.size))
        have HE := hidden (entsB_no (x := x) HDJ.out (entAt_1 (by rw [← stripe_in6 hg]; exact hI)))
        go_wp2
        go_ret
        exact ⟨ret_bool HE.out.symm, HB.out⟩
      · have HI := hidden ((stripe_in6 hg).symm.trans hI)
        by_cases hj0 : j = 0
        · subst hj0
          simp only [Nat.zero_mul, Nat.add_zero] at u0 u1
          by_cases hL : (zs.length : Int) = x.n - 1
          · have hL1 : ((zs.length : Int) == x.n - 1) = true := by simpa using hL
            have hL2 : ((zs.length : Int) != x.n - 1) = false := by simpa using hL
            have HL := hidden hL
            have hsa : secB zs = allW zs := sec_all6 (by omega)
            have HSA := hidden hsa
            clear hL hsa
            cases hZ : secB zs
            · have HZ := hidden (HSA.out.symm.trans hZ)
              go_wp2_with fail
              generalize wr.alloc (.cells #[.int .i64 y, .slice av zs.length cv] 162) = w1 at X1 Y1 RZ B1 y0 y1 e1 e2 e9 zy zx zb HQ  ⊢
              refine wp_region_held_drew (S := fun w' => w'.cell? ⟨wr.heap.size, 0, none⟩ = some (.int .i64 y) ∧ w'.cell? ⟨w.heap.size, 1, none⟩ = some (.int .i64 x.n) ∧ w'.cell? ⟨w.heap.size, 2, none⟩ = some (.int .i64 x.s) ∧ w'.cell? ⟨w.heap.size, 9, none⟩ = some (.slice (some ⟨b, off, none⟩) nd cd)) (by kernel_rfl) ?_ (fun hHeld => ?_)
              · exact ⟨y0, e1, e2, e9⟩
              refine held_t 0 hHeld ?_
              refine held_t 1 hHeld ?_
              refine held_t 2 hHeld ?_
              refine held_t 3 hHeld ?_
              refine held_one (i := 4) (by kernel_rfl) rfl (by kernel_rfl) (fun K hK => ?_)
              go_simp
              refine (hasStripe_any _ x.n x.s y).mono ?_
              rintro e w2 ⟨rfl, b2⟩
              have b2' : Below w1.heap.size w1 w2 := (Below.refl w1.heap.size w1).drew.trans b2
              clear b2
              rw [hI]
              go_wp2_with fail
              clear hHeld
              refine hK.out _ _ ?_ (fun hHeld => ?_)
              · exact ⟨(b2'.cell (p := ⟨wr.heap.size, 0, none⟩) zy).trans y0, (b2'.cell (p := ⟨w.heap.size, 1, none⟩) zx).trans e1, (b2'.cell (p := ⟨w.heap.size, 2, none⟩) zx).trans e2, (b2'.cell (p := ⟨w.heap.size, 9, none⟩) zx).trans e9⟩
              clear hK K
              refine held_t 5 hHeld ?_
              refine held_t 6 hHeld ?_
              refine held_t 7 hHeld ?_
              refine held_t 8 hHeld ?_
              refine held_t 9 hHeld ?_
              refine held_p 10 hHeld ?_
              refine held_p 11 hHeld ?_
              refine held_p 12 hHeld ?_
              refine held_p 13 hHeld ?_
              refine held_p 14 hHeld ?_
              refine held_p 15 hHeld ?_
              refine held_p 16 hHeld ?_
              refine held_p 17 hHeld ?_
              refine held_p 18 hHeld ?_
              refine held_p 19 hHeld ?_
              refine held_t 20 hHeld ?_
              refine held_t 21 hHeld ?_
              refine wpAnyH_done (by kernel_rfl) ?_ _
              clear hHeld
              have my1 := (b2'.cell (p := ⟨wr.heap.size, 1, none⟩) zy).trans y1
              have me1 := (b2'.cell (p := ⟨w.heap.size, 1, none⟩) zx).trans e1
              have me2 := (b2'.cell (p := ⟨w.heap.size, 2, none⟩) zx).trans e2
              have my := Nat.lt_of_lt_of_le zy b2'.size
              have mx := Nat.lt_of_lt_of_le zx b2'.size
              have RZ2 := RZ.below b2'
              go_wp2_with fail
              refine wp_region_held_drew (S := fun w' => w'.cell? ⟨wr.heap.size, 1, none⟩ = some (.slice av zs.length cv) ∧ w'.cell? ⟨w.heap.size, 1, none⟩ = some (.int .i64 x.n) ∧ w'.cell? ⟨w.heap.size, 2, none⟩ = some (.int .i64 x.s)) (by kernel_rfl) ?_ (fun hHeld => ?_)
              · exact ⟨my1, me1, me2⟩
              refine held_t 0 hHeld ?_
              refine held_t 1 hHeld ?_
              refine held_t 2 hHeld ?_
              refine held_t 3 hHeld ?_
              refine held_t 4 hHeld ?_
              refine held_one (i := 5) (by kernel_rfl) rfl (by kernel_rfl) (fun K hK => ?_)
              go_simp
              refine (perStripe_any _ x.n x.s g1 g2).mono ?_
              rintro e w3 ⟨rfl, b3⟩
              have b3' : Below w2.heap.size w2 w3 := (Below.refl w2.heap.size w2).drew.trans b3
              clear b3
              go_wp2_with fail
              clear hHeld
              refine hK.out _ _ ?_ (fun hHeld => ?_)
              · exact ⟨(b3'.cell (p := ⟨wr.heap.size, 1, none⟩) my).trans my1, (b3'.cell (p := ⟨w.heap.size, 1, none⟩) mx).trans me1, (b3'.cell (p := ⟨w.heap.size, 2, none⟩) mx).trans me2⟩
              clear hK K
              refine held_t 6 hHeld ?_
              refine held_t 7 hHeld ?_
              refine held_t 8 hHeld ?_
              refine held_t 9 hHeld ?_
              refine held_one (i := 10) (by kernel_rfl) rfl (by kernel_rfl) (fun K hK => ?_)
              go_simp
              refine (implSecOk_any _ _ _ _ zs rfl (ints_rd (RZ2.below b3')).1 hwz).mono ?_
              rintro e w4 ⟨rfl, s4⟩
              have b4' : Below w2.heap.size w2 w4 := Below.andThen b3' (s4.below _)
              clear s4
              rw [hZ]
              go_wp2_with fail
              clear hHeld
              refine hK.out _ _ ?_ (fun hHeld => ?_)
              · exact ⟨(b4'.cell (p := ⟨wr.heap.size, 1, none⟩) my).trans my1, (b4'.cell (p := ⟨w.heap.size, 1, none⟩) mx).trans me1, (b4'.cell (p := ⟨w.heap.size, 2, none⟩) mx).trans me2⟩
              clear hK K
              refine held_t 11 hHeld ?_
              refine held_t 12 hHeld ?_
              refine wpAnyH_done (by kernel_rfl) ?_ _
              clear hHeld
              have HB := hidden (hA.trans ((B1.trans ((Below.andThen b2' b4').mono B1.size)).mono hA.size))
              have HE := hidden (entsB_no (x := x) HDJ.out (entAt_3 HZ.out))
              go_wp2
              go_ret
              exact ⟨ret_bool HE.out.symm, HB.out⟩
            · have HZ := hidden (HSA.out.symm.trans hZ)
              go_wp2_with fail
              generalize wr.alloc (.cells #[.int .i64 y, .slice av zs.length cv] 162) = w1 at X1 Y1 RZ B1 y0 y1 e1 e2 e9 zy zx zb HQ  ⊢
              refine wp_region_held_drew (S := fun w' => w'.cell? ⟨wr.heap.size, 0, none⟩ = some (.int .i64 y) ∧ w'.cell? ⟨w.heap.size, 1, none⟩ = some (.int .i64 x.n) ∧ w'.cell? ⟨w.heap.size, 2, none⟩ = some (.int .i64 x.s) ∧ w'.cell? ⟨w.heap.size, 9, none⟩ = some (.slice (some ⟨b, off, none⟩) nd cd)) (by kernel_rfl) ?_ (fun hHeld => ?_)
              · exact ⟨y0, e1, e2, e9⟩
              refine held_t 0 hHeld ?_
              refine held_t 1 hHeld ?_
              refine held_t 2 hHeld ?_
              refine held_t 3 hHeld ?_
              refine held_one (i := 4) (by kernel_rfl) rfl (by kernel_rfl) (fun K hK => ?_)
              go_simp
              refine (hasStripe_any _ x.n x.s y).mono ?_
              rintro e w2 ⟨rfl, b2⟩
              have b2' : Below w1.heap.size w1 w2 := (Below.refl w1.heap.size w1).drew.trans b2
              clear b2
              rw [hI]
              go_wp2_with fail
              clear hHeld
              refine hK.out _ _ ?_ (fun hHeld => ?_)
              · exact ⟨(b2'.cell (p := ⟨wr.heap.size, 0, none⟩) zy).trans y0, (b2'.cell (p := ⟨w.heap.size, 1, none⟩) zx).trans e1, (b2'.cell (p := ⟨w.heap.size, 2, none⟩) zx).trans e2, (b2'.cell (p := ⟨w.heap.size, 9, none⟩) zx).trans e9⟩
              clear hK K
              refine held_t 5 hHeld ?_
              refine held_t 6 hHeld ?_
              refine held_t 7 hHeld ?_
              refine held_t 8 hHeld ?_
              refine held_t 9 hHeld ?_
              refine held_p 10 hHeld ?_
              refine held_p 11 hHeld ?_
              refine held_p 12 hHeld ?_
              refine held_p 13 hHeld ?_
              refine held_p 14 hHeld ?_
              refine held_p 15 hHeld ?_
              refine held_p 16 hHeld ?_
              refine held_p 17 hHeld ?_
              refine held_p 18 hHeld ?_
              refine held_p 19 hHeld ?_
              refine held_t 20 hHeld ?_
              refine held_t 21 hHeld ?_
              refine wpAnyH_done (by kernel_rfl) ?_ _
              clear hHeld
              have my1 := (b2'.cell (p := ⟨wr.heap.size, 1, none⟩) zy).trans y1
              have me1 := (b2'.cell (p := ⟨w.heap.size, 1, none⟩) zx).trans e1
              have me2 := (b2'.cell (p := ⟨w.heap.size, 2, none⟩) zx).trans e2
              have my := Nat.lt_of_lt_of_le zy b2'.size
              have mx := Nat.lt_of_lt_of_le zx b2'.size
              have RZ2 := RZ.below b2'
              go_wp2_with fail
              refine wp_region_held_drew (S := fun w' => w'.cell? ⟨wr.heap.size, 1, none⟩ = some (.slice av zs.length cv) ∧ w'.cell? ⟨w.heap.size, 1, none⟩ = some (.int .i64 x.n) ∧ w'.cell? ⟨w.heap.size, 2, none⟩ = some (.int .i64 x.s)) (by kernel_rfl) ?_ (fun hHeld => ?_)
              · exact ⟨my1, me1, me2⟩
              refine held_t 0 hHeld ?_
              refine held_t 1 hHeld ?_
              refine held_t 2 hHeld ?_
              refine held_t 3 hHeld ?_
              refine held_t 4 hHeld ?_
              refine held_one (i := 5) (by kernel_rfl) rfl (by kernel_rfl) (fun K hK => ?_)
              go_simp
              refine (perStripe_any _ x.n x.s g1 g2).mono ?_
              rintro e w3 ⟨rfl, b3⟩
              have b3' : Below w2.heap.size w2 w3 := (Below.refl w2.heap.size w2).drew.trans b3
              clear b3
              go_wp2_with fail
              clear hHeld
              refine hK.out _ _ ?_ (fun hHeld => ?_)
              · exact ⟨(b3'.cell (p := ⟨wr.heap.size, 1, none⟩) my).trans my1, (b3'.cell (p := ⟨w.heap.size, 1, none⟩) mx).trans me1, (b3'.cell (p := ⟨w.heap.size, 2, none⟩) mx).trans me2⟩
              clear hK K
              refine held_t 6 hHeld ?_
              refine held_t 7 hHeld ?_
              refine held_t 8 hHeld ?_
              refine held_t 9 hHeld ?_
              refine held_one (i := 10) (by kernel_rfl) rfl (by kernel_rfl) (fun K hK => ?_)
              go_simp
              refine (implSecOk_any _ _ _ _ zs rfl (ints_rd (RZ2.below b3')).1 hwz).mono ?_
              rintro e w4 ⟨rfl, s4⟩
              have b4' : Below w2.heap.size w2 w4 := Below.andThen b3' (s4.below _)
              clear s4
              rw [hZ]
              go_wp2_with fail
              clear hHeld
              refine hK.out _ _ ?_ (fun hHeld => ?_)
              · exact ⟨(b4'.cell (p := ⟨wr.heap.size, 1, none⟩) my).trans my1, (b4'.cell (p := ⟨w.heap.size, 1, none⟩) mx).trans me1, (b4'.cell (p := ⟨w.heap.size, 2, none⟩) mx).trans me2⟩
              clear hK K
              refine held_t 11 hHeld ?_
              refine held_t 12 hHeld ?_
              refine wpAnyH_done (by kernel_rfl) ?_ _
              clear hHeld
              have HB := hidden (B1.trans ((Below.andThen b2' b4').mono B1.size))
              have hat : entAt x ds (0) (y, zs) = true := entAt_4 HI.out HL.out HZ.out
              go_wp2
              go_roundw
              case rel => exact ⟨0 + 1, by omega, by go_num, fun q d hq hm' => by
                  rcases Nat.lt_or_ge q (0) with h | h
                  · exact hall q d h hm'
                  · obtain rfl : q = 0 := by omega
                    rw [HDJ.out] at hm'
                    cases hm'
                    exact hat, HB.out⟩
              case measure => simp [intOf]; omega
          · have hL1 : ((zs.length : Int) == x.n - 1) = false := by simpa using hL
            have hL2 : ((zs.length : Int) != x.n - 1) = true := by simpa using hL
            have HL := hidden hL
            clear hL
            go_wp2_with fail
            generalize wr.alloc (.cells #[.int .i64 y, .slice av zs.length cv] 162) = w1 at X1 Y1 RZ B1 y0 y1 e1 e2 e9 zy zx zb HQ  ⊢
            refine wp_region_held_drew (S := fun w' => w'.cell? ⟨wr.heap.size, 0, none⟩ = some (.int .i64 y) ∧ w'.cell? ⟨w.heap.size, 1, none⟩ = some (.int .i64 x.n) ∧ w'.cell? ⟨w.heap.size, 2, none⟩ = some (.int .i64 x.s) ∧ w'.cell? ⟨w.heap.size, 9, none⟩ = some (.slice (some ⟨b, off, none⟩) nd cd)) (by kernel_rfl) ?_ (fun hHeld => ?_)
            · exact ⟨y0, e1, e2, e9⟩
            refine held_t 0 hHeld ?_
            refine held_t 1 hHeld ?_
            refine held_t 2 hHeld ?_
            refine held_t 3 hHeld ?_
            refine held_one (i := 4) (by kernel_rfl) rfl (by kernel_rfl) (fun K hK => ?_)
            go_simp
            refine (hasStripe_any _ x.n x.s y).mono ?_
            rintro e w2 ⟨rfl, b2⟩
            have b2' : Below w1.heap.size w1 w2 := (Below.refl w1.heap.size w1).drew.trans b2
            clear b2
            rw [hI]
            go_wp2_with fail
            clear hHeld
            refine hK.out _ _ ?_ (fun hHeld => ?_)
            · exact ⟨(b2'.cell (p := ⟨wr.heap.size, 0, none⟩) zy).trans y0, (b2'.cell (p := ⟨w.heap.size, 1, none⟩) zx).trans e1, (b2'.cell (p := ⟨w.heap.size, 2, none⟩) zx).trans e2, (b2'.cell (p := ⟨w.heap.size, 9, none⟩) zx).trans e9⟩
            clear hK K
            refine held_t 5 hHeld ?_
            refine held_t 6 hHeld ?_
            refine held_t 7 hHeld ?_
            refine held_t 8 hHeld ?_
            refine held_t 9 hHeld ?_
            refine held_p 10 hHeld ?_
            refine held_p 11 hHeld ?_
            refine held_p 12 hHeld ?_
            refine held_p 13 hHeld ?_
            refine held_p 14 hHeld ?_
            refine held_p 15 hHeld ?_
            refine held_p 16 hHeld ?_
            refine held_p 17 hHeld ?_
            refine held_p 18 hHeld ?_
            refine held_p 19 hHeld ?_
            refine held_t 20 hHeld ?_
            refine held_t 21 hHeld ?_
            refine wpAnyH_done (by kernel_rfl) ?_ _
            clear hHeld
            have my1 := (b2'.cell (p := ⟨wr.heap.size, 1, none⟩) zy).trans y1
            have me1 := (b2'.cell (p := ⟨w.heap.size, 1, none⟩) zx).trans e1
            have me2 := (b2'.cell (p := ⟨w.heap.size, 2, none⟩) zx).trans e2
            have my := Nat.lt_of_lt_of_le zy b2'.size
            have mx := Nat.lt_of_lt_of_le zx b2'.size
            have RZ2 := RZ.below b2'
            go_wp2_with fail
            refine wp_region_held_drew (S := fun w' => w'.cell? ⟨wr.heap.size, 1, none⟩ = some (.slice av zs.length cv) ∧ w'.cell? ⟨w.heap.size, 1, none⟩ = some (.int .i64 x.n) ∧ w'.cell? ⟨w.heap.size, 2, none⟩ = some (.int .i64 x.s)) (by kernel_rfl) ?_ (fun hHeld => ?_)
            · exact ⟨my1, me1, me2⟩
            refine held_t 0 hHeld ?_
            refine held_t 1 hHeld ?_
            refine held_t 2 hHeld ?_
            refine held_t 3 hHeld ?_
            refine held_t 4 hHeld ?_
            refine held_one (i := 5) (by kernel_rfl) rfl (by kernel_rfl) (fun K hK => ?_)
            go_simp
            refine (perStripe_any _ x.n x.s g1 g2).mono ?_
            rintro e w3 ⟨rfl, b3⟩
            have b3' : Below w2.heap.size w2 w3 := (Below.refl w2.heap.size w2).drew.trans b3
            clear b3
            go_wp2_with fail
            clear hHeld
            refine hK.out _ _ ?_ (fun hHeld => ?_)
            · exact ⟨(b3'.cell (p := ⟨wr.heap.size, 1, none⟩) my).trans my1, (b3'.cell (p := ⟨w.heap.size, 1, none⟩) mx).trans me1, (b3'.cell (p := ⟨w.heap.size, 2, none⟩) mx).trans me2⟩
            clear hK K
            refine held_t 6 hHeld ?_
            refine held_t 7 hHeld ?_
            refine held_p 8 hHeld ?_
            refine held_p 9 hHeld ?_
            refine held_none (i := 10) (by kernel_rfl) rfl (by kernel_rfl) hHeld ?_
            simp only [Act.put, List.setIfInBounds_toArray, List.set_cons_zero, List.set_cons_succ]
            refine held_p 11 hHeld ?_
            refine held_t 12 hHeld ?_
            refine wpAnyH_done (by kernel_rfl) ?_ _
            clear hHeld
            have HB := hidden (hA.trans ((B1.trans ((Below.andThen b2' b3').mono B1.size)).mono hA.size))
            have HE := hidden (entsB_no (x := x) HDJ.out (entAt_2 HL.out))
            go_wp2
            go_ret
            exact ⟨ret_bool HE.out.symm, HB.out⟩
        · obtain ⟨p, rfl⟩ : ∃ p, j = p + 1 := ⟨j - 1, by omega⟩
          have hpq : ds[p]? = some (ds[p]'(by omega)) := List.getElem?_eq_getElem (by omega)
          generalize ds[p]'(by omega) = q at hpq
          have qc := HQ.out p q hpq
          obtain ⟨s, zq⟩ := q
          simp only at qc
          have HPQ := hidden hpq
          clear hpq
          have j1 : IntKind.i64.wrap (((p + 1 : Nat) : Int) - 1) = (p : Int) := by rw [IntWalk.i64_in _ (by omega)]; omega
          have j2 : IntKind.i64.wrap ((p : Int) + 1 - 1) = (p : Int) := by rw [IntWalk.i64_in _ (by omega)]; omega
          have j3 : IntKind.i64.wrap (p : Int) = (p : Int) := IntWalk.i64_in _ (by omega)
          have j4 : (0 : Int) ≤ (p : Int) := by omega
          have j5 : (p : Int) < (nd : Int) := by omega
          have j6 : (0 : Int) < ((p + 1 : Nat) : Int) := by omega
          by_cases hlt : s < y
          · have hge : ¬ y ≤ s := by omega
            by_cases hL : (zs.length : Int) = x.n - 1
            · have hL1 : ((zs.length : Int) == x.n - 1) = true := by simpa using hL
              have hL2 : ((zs.length : Int) != x.n - 1) = false := by simpa using hL
              have HL := hidden hL
              have hsa : secB zs = allW zs := sec_all6 (by omega)
              have HSA := hidden hsa
              clear hL hsa
              cases hZ : secB zs
              · have HZ := hidden (HSA.out.symm.trans hZ)
                go_wp2_with fail
                generalize wr.alloc (.cells #[.int .i64 y, .slice av zs.length cv] 162) = w1 at X1 Y1 RZ B1 y0 y1 e1 e2 e9 zy zx zb HQ qc ⊢
                refine wp_region_held_drew (S := fun w' => w'.cell? ⟨wr.heap.size, 0, none⟩ = some (.int .i64 y) ∧ w'.cell? ⟨w.heap.size, 1, none⟩ = some (.int .i64 x.n) ∧ w'.cell? ⟨w.heap.size, 2, none⟩ = some (.int .i64 x.s) ∧ w'.cell? ⟨w.heap.size, 9, none⟩ = some (.slice (some ⟨b, off, none⟩) nd cd) ∧ w'.cell? ⟨b, off + p * 2, none⟩ = some (.int .i64 s)) (by kernel_rfl) ?_ (fun hHeld => ?_)
                · exact ⟨y0, e1, e2, e9, qc⟩
                refine held_t 0 hHeld ?_
                refine held_t 1 hHeld ?_
                refine held_t 2 hHeld ?_
                refine held_t 3 hHeld ?_
                refine held_one (i := 4) (by kernel_rfl) rfl (by kernel_rfl) (fun K hK => ?_)
                go_simp
                refine (hasStripe_any _ x.n x.s y).mono ?_
                rintro e w2 ⟨rfl, b2⟩
                have b2' : Below w1.heap.size w1 w2 := (Below.refl w1.heap.size w1).drew.trans b2
                clear b2
                rw [hI]
                go_wp2_with fail
                clear hHeld
                refine hK.out _ _ ?_ (fun hHeld => ?_)
                · exact ⟨(b2'.cell (p := ⟨wr.heap.size, 0, none⟩) zy).trans y0, (b2'.cell (p := ⟨w.heap.size, 1, none⟩) zx).trans e1, (b2'.cell (p := ⟨w.heap.size, 2, none⟩) zx).trans e2, (b2'.cell (p := ⟨w.heap.size, 9, none⟩) zx).trans e9, (b2'.cell (p := ⟨b, off + p * 2, none⟩) zb).trans qc⟩
                clear hK K
                refine held_t 5 hHeld ?_
                refine held_t 6 hHeld ?_
                refine held_t 7 hHeld ?_
                refine held_t 8 hHeld ?_
                refine held_t 9 hHeld ?_
                refine held_t 10 hHeld ?_
                refine held_t 11 hHeld ?_
                refine held_t 12 hHeld ?_
                refine held_t 13 hHeld ?_
                refine held_t 14 hHeld ?_
                refine held_t 15 hHeld ?_
                refine held_t 16 hHeld ?_
                refine held_t 17 hHeld ?_
                refine held_t 18 hHeld ?_
                refine held_t 19 hHeld ?_
                refine held_t 20 hHeld ?_
                refine held_t 21 hHeld ?_
                refine wpAnyH_done (by kernel_rfl) ?_ _
                clear hHeld
                have my1 := (b2'.cell (p := ⟨wr.heap.size, 1, none⟩) zy).trans y1
                have me1 := (b2'.cell (p := ⟨w.heap.size, 1, none⟩) zx).trans e1
                have me2 := (b2'.cell (p := ⟨w.heap.size, 2, none⟩) zx).trans e2
                have my := Nat.lt_of_lt_of_le zy b2'.size
                have mx := Nat.lt_of_lt_of_le zx b2'.size
                have RZ2 := RZ.below b2'
                go_wp2_with fail
                refine wp_region_held_drew (S := fun w' => w'.cell? ⟨wr.heap.size, 1, none⟩ = some (.slice av zs.length cv) ∧ w'.cell? ⟨w.heap.size, 1, none⟩ = some (.int .i64 x.n) ∧ w'.cell? ⟨w.heap.size, 2, none⟩ = some (.int .i64 x.s)) (by kernel_rfl) ?_ (fun hHeld => ?_)
                · exact ⟨my1, me1, me2⟩
                refine held_t 0 hHeld ?_
                refine held_t 1 hHeld ?_
                refine held_t 2 hHeld ?_
                refine held_t 3 hHeld ?_
                refine held_t 4 hHeld ?_
                refine held_one (i := 5) (by kernel_rfl) rfl (by kernel_rfl) (fun K hK => ?_)
                go_simp
                refine (perStripe_any _ x.n x.s g1 g2).mono ?_
                rintro e w3 ⟨rfl, b3⟩
                have b3' : Below w2.heap.size w2 w3 := (Below.refl w2.heap.size w2).drew.trans b3
                clear b3
                go_wp2_with fail
                clear hHeld
                refine hK.out _ _ ?_ (fun hHeld => ?_)
                · exact ⟨(b3'.cell (p := ⟨wr.heap.size, 1, none⟩) my).trans my1, (b3'.cell (p := ⟨w.heap.size, 1, none⟩) mx).trans me1, (b3'.cell (p := ⟨w.heap.size, 2, none⟩) mx).trans me2⟩
                clear hK K
                refine held_t 6 hHeld ?_
                refine held_t 7 hHeld ?_
                refine held_t 8 hHeld ?_
                refine held_t 9 hHeld ?_
                refine held_one (i := 10) (by kernel_rfl) rfl (by kernel_rfl) (fun K hK => ?_)
                go_simp
                refine (implSecOk_any _ _ _ _ zs rfl (ints_rd (RZ2.below b3')).1 hwz).mono ?_
                rintro e w4 ⟨rfl, s4⟩
                have b4' : Below w2.heap.size w2 w4 := Below.andThen b3' (s4.below _)
                clear s4
                rw [hZ]
                go_wp2_with fail
                clear hHeld
                refine hK.out _ _ ?_ (fun hHeld => ?_)
                · exact ⟨(b4'.cell (p := ⟨wr.heap.size, 1, none⟩) my).trans my1, (b4'.cell (p := ⟨w.heap.size, 1, none⟩) mx).trans me1, (b4'.cell (p := ⟨w.heap.size, 2, none⟩) mx).trans me2⟩
                clear hK K
                refine held_t 11 hHeld ?_
                refine held_t 12 hHeld ?_
                refine wpAnyH_done (by kernel_rfl) ?_ _
                clear hHeld
                have HB := hidden (hA.trans ((B1.trans ((Below.andThen b2' b4').mono B1.size)).mono hA.size))
                have HE := hidden (entsB_no (x := x) HDJ.out (entAt_3 HZ.out))
                go_wp2
                go_ret
                exact ⟨ret_bool HE.out.symm, HB.out⟩
              · have HZ := hidden (HSA.out.symm.trans hZ)
                go_wp2_with fail
                generalize wr.alloc (.cells #[.int .i64 y, .slice av zs.length cv] 162) = w1 at X1 Y1 RZ B1 y0 y1 e1 e2 e9 zy zx zb HQ qc ⊢
                refine wp_region_held_drew (S := fun w' => w'.cell? ⟨wr.heap.size, 0, none⟩ = some (.int .i64 y) ∧ w'.cell? ⟨w.heap.size, 1, none⟩ = some (.int .i64 x.n) ∧ w'.cell? ⟨w.heap.size, 2, none⟩ = some (.int .i64 x.s) ∧ w'.cell? ⟨w.heap.size, 9, none⟩ = some (.slice (some ⟨b, off, none⟩) nd cd) ∧ w'.cell? ⟨b, off + p * 2, none⟩ = some (.int .i64 s)) (by kernel_rfl) ?_ (fun hHeld => ?_)
                · exact ⟨y0, e1, e2, e9, qc⟩
                refine held_t 0 hHeld ?_
                refine held_t 1 hHeld ?_
                refine held_t 2 hHeld ?_
                refine held_t 3 hHeld ?_
                refine held_one (i := 4) (by kernel_rfl) rfl (by kernel_rfl) (fun K hK => ?_)
                go_simp
                refine (hasStripe_any _ x.n x.s y).mono ?_
                rintro e w2 ⟨rfl, b2⟩
                have b2' : Below w1.heap.size w1 w2 := (Below.refl w1.heap.size w1).drew.trans b2
                clear b2
                rw [hI]
                go_wp2_with fail
                clear hHeld
                refine hK.out _ _ ?_ (fun hHeld => ?_)
                · exact ⟨(b2'.cell (p := ⟨wr.heap.size, 0, none⟩) zy).trans y0, (b2'.cell (p := ⟨w.heap.size, 1, none⟩) zx).trans e1, (b2'.cell (p := ⟨w.heap.size, 2, none⟩) zx).trans e2, (b2'.cell (p := ⟨w.heap.size, 9, none⟩) zx).trans e9, (b2'.cell (p := ⟨b, off + p * 2, none⟩) zb).trans qc⟩
                clear hK K
                refine held_t 5 hHeld ?_
                refine held_t 6 hHeld ?_
                refine held_t 7 hHeld ?_
                refine held_t 8 hHeld ?_
                refine held_t 9 hHeld ?_
                refine held_t 10 hHeld ?_
                refine held_t 11 hHeld ?_
                refine held_t 12 hHeld ?_
                refine held_t 13 hHeld ?_
                refine held_t 14 hHeld ?_
                refine held_t 15 hHeld ?_
                refine held_t 16 hHeld ?_
                refine held_t 17 hHeld ?_
                refine held_t 18 hHeld ?_
                refine held_t 19 hHeld ?_
                refine held_t 20 hHeld ?_
                refine held_t 21 hHeld ?_
                refine wpAnyH_done (by kernel_rfl) ?_ _
                clear hHeld
                have my1 := (b2'.cell (p := ⟨wr.heap.size, 1, none⟩) zy).trans y1
                have me1 := (b2'.cell (p := ⟨w.heap.size, 1, none⟩) zx).trans e1
                have me2 := (b2'.cell (p := ⟨w.heap.size, 2, none⟩) zx).trans e2
                have my := Nat.lt_of_lt_of_le zy b2'.size
                have mx := Nat.lt_of_lt_of_le zx b2'.size
                have RZ2 := RZ.below b2'
                go_wp2_with fail
                refine wp_region_held_drew (S := fun w' => w'.cell? ⟨wr.heap.size, 1, none⟩ = some (.slice av zs.length cv) ∧ w'.cell? ⟨w.heap.size, 1, none⟩ = some (.int .i64 x.n) ∧ w'.cell? ⟨w.heap.size, 2, none⟩ = some (.int .i64 x.s)) (by kernel_rfl) ?_ (fun hHeld => ?_)
                · exact ⟨my1, me1, me2⟩
                refine held_t 0 hHeld ?_
                refine held_t 1 hHeld ?_
                refine held_t 2 hHeld ?_
                refine held_t 3 hHeld ?_
                refine held_t 4 hHeld ?_
                refine held_one (i := 5) (by kernel_rfl) rfl (by kernel_rfl) (fun K hK => ?_)
                go_simp
                refine (perStripe_any _ x.n x.s g1 g2).mono ?_
                rintro e w3 ⟨rfl, b3⟩
                have b3' : Below w2.heap.size w2 w3 := (Below.refl w2.heap.size w2).drew.trans b3
                clear b3
                go_wp2_with fail
                clear hHeld
                refine hK.out _ _ ?_ (fun hHeld => ?_)
                · exact ⟨(b3'.cell (p := ⟨wr.heap.size, 1, none⟩) my).trans my1, (b3'.cell (p := ⟨w.heap.size, 1, none⟩) mx).trans me1, (b3'.cell (p := ⟨w.heap.size, 2, none⟩) mx).trans me2⟩
                clear hK K
                refine held_t 6 hHeld ?_
                refine held_t 7 hHeld ?_
                refine held_t 8 hHeld ?_
                refine held_t 9 hHeld ?_
                refine held_one (i := 10) (by kernel_rfl) rfl (by kernel_rfl) (fun K hK => ?_)
                go_simp
                refine (implSecOk_any _ _ _ _ zs rfl (ints_rd (RZ2.below b3')).1 hwz).mono ?_
                rintro e w4 ⟨rfl, s4⟩
                have b4' : Below w2.heap.size w2 w4 := Below.andThen b3' (s4.below _)
                clear s4
                rw [hZ]
                go_wp2_with fail
                clear hHeld
                refine hK.out _ _ ?_ (fun hHeld => ?_)
                · exact ⟨(b4'.cell (p := ⟨wr.heap.size, 1, none⟩) my).trans my1, (b4'.cell (p := ⟨w.heap.size, 1, none⟩) mx).trans me1, (b4'.cell (p := ⟨w.heap.size, 2, none⟩) mx).trans me2⟩
                clear hK K
                refine held_t 11 hHeld ?_
                refine held_t 12 hHeld ?_
                refine wpAnyH_done (by kernel_rfl) ?_ _
                clear hHeld
                have HB := hidden (B1.trans ((Below.andThen b2' b4').mono B1.size))
                have hat : entAt x ds (p + 1) (y, zs) = true := (entAt_5 HI.out HL.out HZ.out HPQ.out).trans (by simpa using hlt)
                go_wp2
                go_roundw
                case rel => exact ⟨p + 1 + 1, by omega, by go_num, fun q d hq hm' => by
                    rcases Nat.lt_or_ge q (p + 1) with h | h
                    · exact hall q d h hm'
                    · obtain rfl : q = p + 1 := by omega
                      rw [HDJ.out] at hm'
                      cases hm'
                      exact hat, HB.out⟩
                case measure => simp [intOf]; omega
            · have hL1 : ((zs.length : Int) == x.n - 1) = false := by simpa using hL
              have hL2 : ((zs.length : Int) != x.n - 1) = true := by simpa using hL
              have HL := hidden hL
              clear hL
              go_wp2_with fail
              generalize wr.alloc (.cells #[.int .i64 y, .slice av zs.length cv] 162) = w1 at X1 Y1 RZ B1 y0 y1 e1 e2 e9 zy zx zb HQ qc ⊢
              refine wp_region_held_drew (S := fun w' => w'.cell? ⟨wr.heap.size, 0, none⟩ = some (.int .i64 y) ∧ w'.cell? ⟨w.heap.size, 1, none⟩ = some (.int .i64 x.n) ∧ w'.cell? ⟨w.heap.size, 2, none⟩ = some (.int .i64 x.s) ∧ w'.cell? ⟨w.heap.size, 9, none⟩ = some (.slice (some ⟨b, off, none⟩) nd cd) ∧ w'.cell? ⟨b, off + p * 2, none⟩ = some (.int .i64 s)) (by kernel_rfl) ?_ (fun hHeld => ?_)
              · exact ⟨y0, e1, e2, e9, qc⟩
              refine held_t 0 hHeld ?_
              refine held_t 1 hHeld ?_
              refine held_t 2 hHeld ?_
              refine held_t 3 hHeld ?_
              refine held_one (i := 4) (by kernel_rfl) rfl (by kernel_rfl) (fun K hK => ?_)
              go_simp
              refine (hasStripe_any _ x.n x.s y).mono ?_
              rintro e w2 ⟨rfl, b2⟩
              have b2' : Below w1.heap.size w1 w2 := (Below.refl w1.heap.size w1).drew.trans b2
              clear b2
              rw [hI]
              go_wp2_with fail
              clear hHeld
              refine hK.out _ _ ?_ (fun hHeld => ?_)
              · exact ⟨(b2'.cell (p := ⟨wr.heap.size, 0, none⟩) zy).trans y0, (b2'.cell (p := ⟨w.heap.size, 1, none⟩) zx).trans e1, (b2'.cell (p := ⟨w.heap.size, 2, none⟩) zx).trans e2, (b2'.cell (p := ⟨w.heap.size, 9, none⟩) zx).trans e9, (b2'.cell (p := ⟨b, off + p * 2, none⟩) zb).trans qc⟩
              clear hK K
              refine held_t 5 hHeld ?_
              refine held_t 6 hHeld ?_
              refine held_t 7 hHeld ?_
              refine held_t 8 hHeld ?_
              refine held_t 9 hHeld ?_
              refine held_t 10 hHeld ?_
              refine held_t 11 hHeld ?_
              refine held_t 12 hHeld ?_
              refine held_t 13 hHeld ?_
              refine held_t 14 hHeld ?_
              refine held_t 15 hHeld ?_
              refine held_t 16 hHeld ?_
              refine held_t 17 hHeld ?_
              refine held_t 18 hHeld ?_
              refine held_t 19 hHeld ?_
              refine held_t 20 hHeld ?_
              refine held_t 21 hHeld ?_
              refine wpAnyH_done (by kernel_rfl) ?_ _
              clear hHeld
              have my1 := (b2'.cell (p := ⟨wr.heap.size, 1, none⟩) zy).trans y1
              have me1 := (b2'.cell (p := ⟨w.heap.size, 1, none⟩) zx).trans e1
              have me2 := (b2'.cell (p := ⟨w.heap.size, 2, none⟩) zx).trans e2
              have my := Nat.lt_of_lt_of_le zy b2'.size
              have mx := Nat.lt_of_lt_of_le zx b2'.size
              have RZ2 := RZ.below b2'
              go_wp2_with fail
              refine wp_region_held_drew (S := fun w' => w'.cell? ⟨wr.heap.size, 1, none⟩ = some (.slice av zs.length cv) ∧ w'.cell? ⟨w.heap.size, 1, none⟩ = some (.int .i64 x.n) ∧ w'.cell? ⟨w.heap.size, 2, none⟩ = some (.int .i64 x.s)) (by kernel_rfl) ?_ (fun hHeld => ?_)
              · exact ⟨my1, me1, me2⟩
              refine held_t 0 hHeld ?_
              refine held_t 1 hHeld ?_
              refine held_t 2 hHeld ?_
              refine held_t 3 hHeld ?_
              refine held_t 4 hHeld ?_
              refine held_one (i := 5) (by kernel_rfl) rfl (by kernel_rfl) (fun K hK => ?_)
              go_simp
              refine (perStripe_any _ x.n x.s g1 g2).mono ?_
              rintro e w3 ⟨rfl, b3⟩
              have b3' : Below w2.heap.size w2 w3 := (Below.refl w2.heap.size w2).drew.trans b3
              clear b3
              go_wp2_with fail
              clear hHeld
              refine hK.out _ _ ?_ (fun hHeld => ?_)
              · exact ⟨(b3'.cell (p := ⟨wr.heap.size, 1, none⟩) my).trans my1, (b3'.cell (p := ⟨w.heap.size, 1, none⟩) mx).trans me1, (b3'.cell (p := ⟨w.heap.size, 2, none⟩) mx).trans me2⟩
              clear hK K
              refine held_t 6 hHeld ?_
              refine held_t 7 hHeld ?_
              refine held_p 8 hHeld ?_
              refine held_p 9 hHeld ?_
              refine held_none (i := 10) (by kernel_rfl) rfl (by kernel_rfl) hHeld ?_
              simp only [Act.put, List.setIfInBounds_toArray, List.set_cons_zero, List.set_cons_succ]
              refine held_p 11 hHeld ?_
              refine held_t 12 hHeld ?_
              refine wpAnyH_done (by kernel_rfl) ?_ _
              clear hHeld
              have HB := hidden (hA.trans ((B1.trans ((Below.andThen b2' b3').mono B1.size)).mono hA.size))
              have HE := hidden (entsB_no (x := x) HDJ.out (entAt_2 HL.out))
              go_wp2
              go_ret
              exact ⟨ret_bool HE.out.symm, HB.out⟩
          · have hge : y ≤ s := by omega
            go_wp2_with fail
            generalize wr.alloc (.cells #[.int .i64 y, .slice av zs.length cv] 162) = w1 at X1 Y1 RZ B1 y0 y1 e1 e2 e9 zy zx zb HQ qc ⊢
            refine wp_region_held_drew (S := fun w' => w'.cell? ⟨wr.heap.size, 0, none⟩ = some (.int .i64 y) ∧ w'.cell? ⟨w.heap.size, 1, none⟩ = some (.int .i64 x.n) ∧ w'.cell? ⟨w.heap.size, 2, none⟩ = some (.int .i64 x.s) ∧ w'.cell? ⟨w.heap.size, 9, none⟩ = some (.slice (some ⟨b, off, none⟩) nd cd) ∧ w'.cell? ⟨b, off + p * 2, none⟩ = some (.int .i64 s)) (by kernel_rfl) ?_ (fun hHeld => ?_)
            · exact ⟨y0, e1, e2, e9, qc⟩
            refine held_t 0 hHeld ?_
            refine held_t 1 hHeld ?_
            refine held_t 2 hHeld ?_
            refine held_t 3 hHeld ?_
            refine held_one (i := 4) (by kernel_rfl) rfl (by kernel_rfl) (fun K hK => ?_)
            go_simp
            refine (hasStripe_any _ x.n x.s y).mono ?_
            rintro e w2 ⟨rfl, b2⟩
            have b2' : Below w1.heap.size w1 w2 := (Below.refl w1.heap.size w1).drew.trans b2
            clear b2
            rw [hI]
            go_wp2_with fail
            clear hHeld
            refine hK.out _ _ ?_ (fun hHeld => ?_)
            · exact ⟨(b2'.cell (p := ⟨wr.heap.size, 0, none⟩) zy).trans y0, (b2'.cell (p := ⟨w.heap.size, 1, none⟩) zx).trans e1, (b2'.cell (p := ⟨w.heap.size, 2, none⟩) zx).trans e2, (b2'.cell (p := ⟨w.heap.size, 9, none⟩) zx).trans e9, (b2'.cell (p := ⟨b, off + p * 2, none⟩) zb).trans qc⟩
            clear hK K
            refine held_t 5 hHeld ?_
            refine held_t 6 hHeld ?_
            refine held_t 7 hHeld ?_
            refine held_t 8 hHeld ?_
            refine held_t 9 hHeld ?_
            refine held_t 10 hHeld ?_
            refine held_t 11 hHeld ?_
            refine held_t 12 hHeld ?_
            refine held_t 13 hHeld ?_
            refine held_t 14 hHeld ?_
            refine held_t 15 hHeld ?_
            refine held_t 16 hHeld ?_
            refine held_t 17 hHeld ?_
            refine held_t 18 hHeld ?_
            refine held_t 19 hHeld ?_
            refine held_t 20 hHeld ?_
            refine held_t 21 hHeld ?_
            refine wpAnyH_done (by kernel_rfl) ?_ _
            clear hHeld
            have HB := hidden (hA.trans ((B1.trans (b2'.mono B1.size)).mono hA.size))
            have HE := hidden (entsB_no (x := x) HDJ.out (entAt_6 HPQ.out hge))
            go_wp2
            go_ret
            exact ⟨ret_bool HE.out.symm, HB.out⟩
    · have ej : j = nd := by omega
      subst ej
      have hAll : entsB x ds = true := allIx_iff.2 (fun q d hq => hall q d (by have := (List.getElem?_eq_some_iff.1 hq).1; omega) hq)
      have HB := hidden (hA.trans (hb.mono hA.size))
      go_wp2
      go_ret
      exact ⟨ret_bool hAll.symm, HB.out⟩

set_option maxHeartbeats 1600000 in
theorem recsOk_any (w : World) (x : ArrN) (am ad : Option Addr) (nm cm nd cd : Nat) :
    Calls Tryz.prog 132 #[.agg #[.int .i64 x.id, .int .i64 x.n, .int .i64 x.s, .slice am nm cm, .int .i64 x.lost, .int .i64 x.built, .int .i64 x.seq, .int .i64 x.tail, .int .i64 x.gen, .slice ad nd cd, .int .i64 x.fuse, .bool x.down, .bool x.broken]] w fun e w' => e = .returned (.bool (recB6 x)) ∧ Below w.heap.size w w' := by
  have hA := new_below w (.cells #[.int .i64 x.id, .int .i64 x.n, .int .i64 x.s, .slice am nm cm, .int .i64 x.lost, .int .i64 x.built, .int .i64 x.seq, .int .i64 x.tail, .int .i64 x.gen, .slice ad nd cd, .int .i64 x.fuse, .bool x.down, .bool x.broken] 29)
  have X := Box.new w 29 #[.int .i64 x.id, .int .i64 x.n, .int .i64 x.s, .slice am nm cm, .int .i64 x.lost, .int .i64 x.built, .int .i64 x.seq, .int .i64 x.tail, .int .i64 x.gen, .slice ad nd cd, .int .i64 x.fuse, .bool x.down, .bool x.broken]
  obtain ⟨k0, k1, k2, k3, k4, k5, k6, k7, k8, k9, k10, k11, k12⟩ := X.cells13
  clear k0 k1 k2 k3 k4 k5 k8 k9 k10 k11 k12 X
  go_enter Tryz.func132, Tryz.ntmps132
  go_wp2_with fail
  refine (within_any _ _ _ _).mono ?_
  rintro e wq ⟨rfl, hq⟩
  obtain rfl := hq.symm
  cases hs : inB x.seq 0 60000
  · have HF : Hid (recB6 x = false) := by unfold Hid recB6; rw [hs]; rfl
    go_wp2
    go_ret
    exact ⟨ret_bool HF.out.symm, hA⟩
  · go_wp2_with fail
    refine (within_any _ _ _ _).mono ?_
    rintro e wq ⟨rfl, hq⟩
    obtain rfl := hq.symm
    cases ht : inB x.tail 0 60000
    · have HF : Hid (recB6 x = false) := by unfold Hid recB6; rw [hs, ht]; rfl
      go_wp2
      go_ret
      exact ⟨ret_bool HF.out.symm, hA⟩
    · have HF : Hid (recB6 x = inB (x.seq - x.tail) 0 4) := by unfold Hid recB6; rw [hs, ht]; rfl
      obtain ⟨s1, s2⟩ := inB_iff.1 hs
      obtain ⟨t1, t2⟩ := inB_iff.1 ht
      have hw : IntKind.i64.wrap (x.seq - x.tail) = x.seq - x.tail := IntWalk.i64_in _ (by omega)
      go_wp2_with fail
      refine (within_any _ _ _ _).mono ?_
      rintro e wq ⟨rfl, hq⟩
      obtain rfl := hq.symm
      cases hd : inB (x.seq - x.tail) 0 4
      · go_wp2
        go_ret
        exact ⟨ret_bool (by rw [HF.out, hd]), hA⟩
      · go_wp2
        go_ret
        exact ⟨ret_bool (by rw [HF.out, hd]), hA⟩

set_option maxRecDepth 20000 in
set_option maxHeartbeats 3200000 in
theorem implArrOk_any (w : World) (E F G : TypeId) (x : ArrN) (am ad : Option Addr) (nm cm nd cd : Nat) (ms : List MemD) (ds : List (Int × List Int)) (h0 : (tMemS E F).Rd w [.slice am nm cm] ms) (h1 : (tWrS G).Rd w [.slice ad nd cd] ds) (hw : wtArr ms ds ≤ 2097152) :
    Calls Tryz.prog 57 #[.agg #[.int .i64 x.id, .int .i64 x.n, .int .i64 x.s, .slice am nm cm, .int .i64 x.lost, .int .i64 x.built, .int .i64 x.seq, .int .i64 x.tail, .int .i64 x.gen, .slice ad nd cd, .int .i64 x.fuse, .bool x.down, .bool x.broken]] w fun e w' => e = .returned (.bool (arrB x ms ds)) ∧ Below w.heap.size w w' := by
  have hwm : wtMemS ms ≤ 2097152 := by unfold wtArr at hw; omega
  have hwd : wtWrS ds ≤ 2097152 := by unfold wtArr at hw; omega
  have hA := new_below w (.cells #[.int .i64 x.id, .int .i64 x.n, .int .i64 x.s, .slice am nm cm, .int .i64 x.lost, .int .i64 x.built, .int .i64 x.seq, .int .i64 x.tail, .int .i64 x.gen, .slice ad nd cd, .int .i64 x.fuse, .bool x.down, .bool x.broken] 29)
  have X := Box.new w 29 #[.int .i64 x.id, .int .i64 x.n, .int .i64 x.s, .slice am nm cm, .int .i64 x.lost, .int .i64 x.built, .int .i64 x.seq, .int .i64 x.tail, .int .i64 x.gen, .slice ad nd cd, .int .i64 x.fuse, .bool x.down, .bool x.broken]
  obtain ⟨k0, k1, k2, k3, k4, k5, k6, k7, k8, k9, k10, k11, k12⟩ := X.cells13
  have zA := X.lt
  have r0 := h0.below hA
  have r1 := h1.below hA
  go_enter Tryz.func57, Tryz.ntmps57
  go_wp2_with fail
  generalize w.alloc (.cells #[.int .i64 x.id, .int .i64 x.n, .int .i64 x.s, .slice am nm cm, .int .i64 x.lost, .int .i64 x.built, .int .i64 x.seq, .int .i64 x.tail, .int .i64 x.gen, .slice ad nd cd, .int .i64 x.fuse, .bool x.down, .bool x.broken] 29) = W at hA X zA r0 r1 k0 k1 k2 k3 k4 k5 k6 k7 k8 k9 k10 k11 k12 ⊢
  refine (implGeoOk_any _ _ _).mono ?_
  rintro e w1 ⟨rfl, b1⟩
  have X1 := X.below b1 X.lt
  have B1 := Below.andThen hA b1
  have q1 := r0.below b1
  have t1 := r1.below b1
  clear k0 k1 k2 k3 k4 k5 k6 k7 k8 k9 k10 k11 k12 b1 X hA r0 r1
  obtain ⟨k0, k1, k2, k3, k4, k5, k6, k7, k8, k9, k10, k11, k12⟩ := X1.cells13
  cases hg : geoB x.n x.s
  · have HF : Hid (arrB x ms ds = false) := by
      unfold Hid
      unfold arrB; rw [hg]; rfl
    go_wp2
    go_ret
    exact ⟨ret_bool HF.out.symm, B1⟩
  · have HE := hidden (arr_same6 (ms := ms) (ds := ds) hg)
    obtain ⟨g1, g2, g3, g4⟩ := geoB_iff.1 hg
    go_wp2_with fail
    refine (within_any _ _ _ _).mono ?_
    rintro e wq ⟨rfl, hq⟩
    obtain rfl := hq.symm
    cases hid : inB x.id 1 60000
    · have HF : Hid (arrB x ms ds = false) := by
        unfold Hid
        rw [HE.out, hid]; rfl
      go_wp2
      go_ret
      exact ⟨ret_bool HF.out.symm, B1⟩
    · go_wp2_with fail
      refine (lostOk_any _ x.n x.s x.lost x.built ⟨g1, g2⟩).mono ?_
      rintro e w2 ⟨rfl, b2⟩
      have X2 := X1.below b2 X1.lt
      have B2 := Below.andThen B1 b2
      have q2 := q1.below b2
      have t2 := t1.below b2
      clear k0 k1 k2 k3 k4 k5 k6 k7 k8 k9 k10 k11 k12 b2 X1 B1 q1 t1
      obtain ⟨k0, k1, k2, k3, k4, k5, k6, k7, k8, k9, k10, k11, k12⟩ := X2.cells13
      cases hlo : lostB x.n x.s x.lost x.built
      · have HF : Hid (arrB x ms ds = false) := by
          unfold Hid
          rw [HE.out, hid, hlo]; rfl
        go_wp2
        go_ret
        exact ⟨ret_bool HF.out.symm, B2⟩
      · skip
        go_wp2_with fail
        refine (within_any _ _ _ _).mono ?_
        rintro e wq ⟨rfl, hq⟩
        obtain rfl := hq.symm
        cases hge : inB x.gen 0 60000
        · have HF : Hid (arrB x ms ds = false) := by
            unfold Hid
            rw [HE.out, hid, hlo, hge]; rfl
          go_wp2
          go_ret
          exact ⟨ret_bool HF.out.symm, B2⟩
        · skip
          go_wp2_with fail
          refine (within_any _ _ _ _).mono ?_
          rintro e wq ⟨rfl, hq⟩
          obtain rfl := hq.symm
          cases hfu : inB x.fuse (-1) 1000
          · have HF : Hid (arrB x ms ds = false) := by
              unfold Hid
              rw [HE.out, hid, hlo, hge, hfu]; rfl
            go_wp2
            go_ret
            exact ⟨ret_bool HF.out.symm, B2⟩
          · go_wp2_with fail
            refine (memsOk_any _ E F x _ _ _ _ _ _ ms q2 hwm hg).mono ?_
            rintro e w3 ⟨rfl, b3⟩
            have X3 := X2.below b3 X2.lt
            have B3 := Below.andThen B2 b3
            have q3 := q2.below b3
            have t3 := t2.below b3
            clear k0 k1 k2 k3 k4 k5 k6 k7 k8 k9 k10 k11 k12 b3 X2 B2 q2 t2
            obtain ⟨k0, k1, k2, k3, k4, k5, k6, k7, k8, k9, k10, k11, k12⟩ := X3.cells13
            cases hms : memsB x ms
            · have HF : Hid (arrB x ms ds = false) := by
                unfold Hid
                rw [HE.out, hid, hlo, hge, hfu, hms]; rfl
              go_wp2
              go_ret
              exact ⟨ret_bool HF.out.symm, B3⟩
            · go_wp2_with fail
              refine (recsOk_any _ x _ _ _ _ _ _).mono ?_
              rintro e w4 ⟨rfl, b4⟩
              have X4 := X3.below b4 X3.lt
              have B4 := Below.andThen B3 b4
              have q4 := q3.below b4
              have t4 := t3.below b4
              clear k0 k1 k2 k3 k4 k5 k6 k7 k8 k9 k10 k11 k12 b4 X3 B3 q3 t3
              obtain ⟨k0, k1, k2, k3, k4, k5, k6, k7, k8, k9, k10, k11, k12⟩ := X4.cells13
              cases hre : recB6 x
              · have HF : Hid (arrB x ms ds = false) := by
                  unfold Hid
                  rw [HE.out, hid, hlo, hge, hfu, hms, hre]; rfl
                go_wp2
                go_ret
                exact ⟨ret_bool HF.out.symm, B4⟩
              · have HF : Hid (arrB x ms ds = entsB x ds) := by
                  unfold Hid
                  rw [HE.out, hid, hlo, hge, hfu, hms, hre]; rfl
                go_wp2_with fail
                refine (dirtyOk_any _ G x _ _ _ _ _ _ ds t4 hwd hg).mono ?_
                rintro e w5 ⟨rfl, b5⟩
                have X5 := X4.below b5 X4.lt
                have B5 := Below.andThen B4 b5
                have q5 := q4.below b5
                have t5 := t4.below b5
                clear k0 k1 k2 k3 k4 k5 k6 k7 k8 k9 k10 k11 k12 b5 X4 B4 q4 t4
                obtain ⟨k0, k1, k2, k3, k4, k5, k6, k7, k8, k9, k10, k11, k12⟩ := X5.cells13
                cases hds : entsB x ds
                · go_wp2
                  go_ret
                  exact ⟨ret_bool (by rw [HF.out, hds]), B5⟩
                · go_wp2
                  go_ret
                  exact ⟨ret_bool (by rw [HF.out, hds]), B5⟩

end Go.Proofs.YtbkkjfgjlapadaaGreat

/-
  The program's EngOk walked, with isRight, jobsRight and notTooMany. Condition: the engine weighs at most 2097152.
-/
namespace Go.Proofs.YtbkkjfgjlapadaaGreat
open Go.RowKit

set_option maxRecDepth 20000 in
set_option maxHeartbeats 1600000 in
theorem isRight_any (w : World) (gn gs : Int) (b off : Nat) (o d1 b1 k t1 q1 : Int) (a0 a1 : Option Addr) (c0 c1 : Nat) (zs us : List Int) (hb : b < w.heap.size) (h0 : w.cell? ⟨b, off, none⟩ = some (.int .i64 o)) (h1 : w.cell? ⟨b, off + 1, none⟩ = some (.int .i64 d1)) (h2 : w.cell? ⟨b, off + 2, none⟩ = some (.int .i64 b1)) (h3 : w.cell? ⟨b, off + 3, none⟩ = some (.int .i64 k)) (h4 : w.cell? ⟨b, off + 4, none⟩ = some (.slice a0 zs.length c0)) (h5 : w.cell? ⟨b, off + 5, none⟩ = some (.int .i64 t1)) (h6 : w.cell? ⟨b, off + 6, none⟩ = some (.slice a1 us.length c1)) (h7 : w.cell? ⟨b, off + 7, none⟩ = some (.int .i64 q1)) (r0 : tIntS.Rd w [.slice a0 zs.length c0] zs) (r1 : tIntS.Rd w [.slice a1 us.length c1] us) (hz : zs.length ≤ 2097152) (hu : us.length ≤ 2097152) :
    Calls Tryz.prog 135 #[.pointer (some ⟨b, off, none⟩), .agg #[.int .i64 gn, .int .i64 gs]] w fun e w' => e = .returned (.bool (rightJ gn gs (o, d1, b1, k, zs, t1, us, q1))) ∧ Below w.heap.size w w' := by
  have hR : Hid (rightJ gn gs (o, d1, b1, k, zs, t1, us, q1) = (decide (codeC gn gs o d1 b1 k zs = 0) && (inB t1 0 40 && (gotB us && wentB q1)))) := rfl
  have hG : Hid (gotB us = (secB us && decide (us.length ≤ 6))) := sec_got.symm
  generalize rightJ gn gs (o, d1, b1, k, zs, t1, us, q1) = R at hR ⊢
  go_enter Tryz.func135, Tryz.ntmps135
  go_wp2_with fail
  refine seal_newC ?_
  intro V A B
  have e0 := (B.cell (p := ⟨b, off, none⟩) hb).trans h0
  have e1 := (B.cell (p := ⟨b, off + 1, none⟩) hb).trans h1
  have e2 := (B.cell (p := ⟨b, off + 2, none⟩) hb).trans h2
  have e3 := (B.cell (p := ⟨b, off + 3, none⟩) hb).trans h3
  have e4 := (B.cell (p := ⟨b, off + 4, none⟩) hb).trans h4
  have e5 := (B.cell (p := ⟨b, off + 5, none⟩) hb).trans h5
  have e6 := (B.cell (p := ⟨b, off + 6, none⟩) hb).trans h6
  have e7 := (B.cell (p := ⟨b, off + 7, none⟩) hb).trans h7
  have lA := A.lt
  have hbv : b < V.heap.size := Nat.lt_of_lt_of_le hb B.size
  obtain ⟨k0, k1⟩ := A.cells2
  have Q0 := hidden (ints_rd (r0.below B)).1
  have R1 := hidden (r1.below B)
  clear h0 h1 h2 h3 h4 h5 h6 h7
  have hrange := code_range gn gs o d1 b1 k zs
  generalize hC : codeC gn gs o d1 b1 k zs = C at hR hrange ⊢
  have HC := hidden hC
  clear hC
  by_cases hc : C = 0
  · have hcn : (C != 0) = false := by simp [hc]
    have HD : Hid (decide (C = 0) = true) := decide_eq_true hc
    cases hI : inB t1 0 40
    · go_region_held3 (fun w' => (∀ q, w'.cell? ⟨b, q, none⟩ = V.cell? ⟨b, q, none⟩) ∧ (∀ q, w'.cell? ⟨w.heap.size, q, none⟩ = V.cell? ⟨w.heap.size, q, none⟩))
        (first | (exact ⟨fun q => hbC.cell (p := ⟨b, q, none⟩) hbv, fun q => hbC.cell (p := ⟨w.heap.size, q, none⟩) lA⟩) | (exact ⟨fun _ => rfl, fun _ => rfl⟩) | go_keep)
        (first | (go_at_call 143; refine (implCmdCode_any _ gn gs o d1 b1 k _ _ _ zs rfl Q0.out.draw hz).mono ?_; rintro e wC ⟨he, hbC0⟩; rw [HC.out] at he; subst he; have hbC : Below V.heap.size V wC := (Below.refl V.heap.size V).drew.trans hbC0) | (go_at_call 74; refine (within_any _ _ _ _).mono ?_; rintro e wD ⟨he, rfl⟩; rw [hI] at he; subst he))
      have HB := Below.andThen B hbC
      have HR : Hid (R = false) := by unfold Hid; rw [hR.out, hI]; simp
      clear hI
      go_wp2
      go_ret
      exact ⟨ret_bool HR.out.symm, HB⟩
    · go_region_held3 (fun w' => (∀ q, w'.cell? ⟨b, q, none⟩ = V.cell? ⟨b, q, none⟩) ∧ (∀ q, w'.cell? ⟨w.heap.size, q, none⟩ = V.cell? ⟨w.heap.size, q, none⟩))
        (first | (exact ⟨fun q => hbC.cell (p := ⟨b, q, none⟩) hbv, fun q => hbC.cell (p := ⟨w.heap.size, q, none⟩) lA⟩) | (exact ⟨fun _ => rfl, fun _ => rfl⟩) | go_keep)
        (first | (go_at_call 143; refine (implCmdCode_any _ gn gs o d1 b1 k _ _ _ zs rfl Q0.out.draw hz).mono ?_; rintro e wC ⟨he, hbC0⟩; rw [HC.out] at he; subst he; have hbC : Below V.heap.size V wC := (Below.refl V.heap.size V).drew.trans hbC0) | (go_at_call 74; refine (within_any _ _ _ _).mono ?_; rintro e wD ⟨he, rfl⟩; rw [hI] at he; subst he))
      have HB := Below.andThen B hbC
      have HR : Hid (R = ((secB us && decide (us.length ≤ 6)) && wentB q1)) := by unfold Hid; rw [hR.out, hI, HD.out, ← hG.out]; simp
      have RR := hidden (ints_rd (R1.out.below hbC)).1
      have F6 := hidden ((hbC.cell (p := ⟨b, off + 6, none⟩) hbv).trans e6)
      have F7 := hidden ((hbC.cell (p := ⟨b, off + 7, none⟩) hbv).trans e7)
      clear hI e0 e1 e2 e3 e4 e5 hbC hR hG
      go_wp2_with fail
      refine (implSecOk_any _ _ _ _ us rfl RR.out hu).mono ?_
      rintro e wS ⟨rfl, hs⟩
      have HB := Below.andSame HB hs
      have g7 := (hs.cell _).trans F7.out
      have g6 := (hs.cell _).trans F6.out
      cases hS : secB us
      · rw [hS] at HR
        clear hS
        go_wp2
        go_ret
        exact ⟨ret_bool (by rw [HR.out]; simp), HB⟩
      · rw [hS] at HR
        clear hS
        by_cases h6 : us.length ≤ 6
        · have HR2 : Hid (R = (decide (q1 = 0) || inB q1 4 7)) := by unfold Hid; rw [HR.out, decide_eq_true h6]; simp [wentB]
          have hq6 : ¬ ((6 : Int) < (us.length : Int)) := by omega
          clear HR
          by_cases hq : q1 = 0
          · have hqn : (q1 == 0) = true := by simp [hq]
            have HR3 : Hid (R = true) := by unfold Hid; rw [HR2.out, decide_eq_true hq]; simp
            clear HR2
            go_wp2
            go_ret
            exact ⟨ret_bool HR3.out.symm, HB⟩
          · have hqn : (q1 == 0) = false := by simp [hq]
            have HR3 : Hid (R = inB q1 4 7) := by unfold Hid; rw [HR2.out, decide_eq_false hq]; simp
            clear HR2
            go_wp2_with fail
            refine (within_any _ _ _ _).mono ?_
            rintro e wD ⟨rfl, rfl⟩
            go_wp2
            go_ret
            exact ⟨ret_bool HR3.out.symm, HB⟩
        · have HR2 : Hid (R = false) := by unfold Hid; rw [HR.out, decide_eq_false h6]; simp
          have hq6 : (6 : Int) < (us.length : Int) := by omega
          clear HR
          go_wp2
          go_ret
          exact ⟨ret_bool HR2.out.symm, HB⟩
  · have hcn : (C != 0) = true := by simp [hc]
    have HR : Hid (R = false) := by unfold Hid; rw [hR.out, decide_eq_false hc]; simp
    refine wp_region_held_drew (S := fun w' => w'.cell? ⟨b, off, none⟩ = some (.int .i64 o) ∧ w'.cell? ⟨b, off + 1, none⟩ = some (.int .i64 d1) ∧ w'.cell? ⟨b, off + 2, none⟩ = some (.int .i64 b1) ∧ w'.cell? ⟨b, off + 3, none⟩ = some (.int .i64 k) ∧ w'.cell? ⟨b, off + 4, none⟩ = some (.slice a0 zs.length c0) ∧ w'.cell? ⟨w.heap.size, 0, none⟩ = some (.int .i64 gn) ∧ w'.cell? ⟨w.heap.size, 1, none⟩ = some (.int .i64 gs)) (by kernel_rfl) ?_ (fun hHeld => ?_)
    · exact ⟨e0, e1, e2, e3, e4, k0, k1⟩
    refine held_t 0 hHeld ?_
    refine held_t 1 hHeld ?_
    refine held_t 2 hHeld ?_
    refine held_t 3 hHeld ?_
    refine held_t 4 hHeld ?_
    refine held_one (i := 5) (by kernel_rfl) rfl (by kernel_rfl) (fun K hK => ?_)
    go_simp
    refine (implCmdCode_any _ gn gs o d1 b1 k _ _ _ zs rfl Q0.out.draw hz).mono ?_
    rintro e wC ⟨he, hbC0⟩
    rw [HC.out] at he
    subst he
    have hbC : Below V.heap.size V wC := (Below.refl V.heap.size V).drew.trans hbC0
    have HB := Below.andThen B hbC
    go_wp2_with fail
    clear hHeld
    refine hK.out _ _ ?_ (fun hHeld => ?_)
    · exact ⟨(hbC.cell (p := ⟨b, off, none⟩) hbv).trans e0, (hbC.cell (p := ⟨b, off + 1, none⟩) hbv).trans e1, (hbC.cell (p := ⟨b, off + 2, none⟩) hbv).trans e2, (hbC.cell (p := ⟨b, off + 3, none⟩) hbv).trans e3, (hbC.cell (p := ⟨b, off + 4, none⟩) hbv).trans e4, (hbC.cell (p := ⟨w.heap.size, 0, none⟩) lA).trans k0, (hbC.cell (p := ⟨w.heap.size, 1, none⟩) lA).trans k1⟩
    clear hK K
    refine held_t 6 hHeld ?_
    refine held_t 7 hHeld ?_
    refine held_p 8 hHeld ?_
    refine held_p 9 hHeld ?_
    refine held_p 10 hHeld ?_
    refine held_p 11 hHeld ?_
    refine held_p 12 hHeld ?_
    refine held_p 13 hHeld ?_
    refine held_t 14 hHeld ?_
    refine wpAnyH_done (by kernel_rfl) ?_ _
    clear hHeld
    go_wp2
    go_ret
    exact ⟨ret_bool HR.out.symm, HB⟩

set_option linter.unusedSimpArgs false in
theorem notTooMany_any (w : World) (B : Nat) (aw aj aa au : Option Addr) (nw cw nj cj na ca nu cu : Nat) (h13 : w.cell? ⟨B, 13, none⟩ = some (.slice aw nw cw)) (h14 : w.cell? ⟨B, 14, none⟩ = some (.slice aj nj cj)) (h15 : w.cell? ⟨B, 15, none⟩ = some (.slice aa na ca)) (h16 : w.cell? ⟨B, 16, none⟩ = some (.slice au nu cu)) :
    Calls Tryz.prog 58 #[.pointer (some ⟨B, 0, none⟩)] w fun e w' => e = .returned (.bool (decide (nw ≤ 8) && (decide (nj ≤ 4) && (decide (na ≤ 8) && decide (nu ≤ 400))))) ∧ w' = w := by
  go_enter Tryz.func58, Tryz.ntmps58
  by_cases q0 : nw ≤ 8
  · by_cases q1 : nj ≤ 4
    · by_cases q2 : na ≤ 8
      · have e : Hid (∀ b : Bool, (decide (nw ≤ 8) && (decide (nj ≤ 4) && (decide (na ≤ 8) && b))) = b) := fun b => by simp [q0, q1, q2]
        have e2 : Hid (decide ((nu : Int) ≤ 400) = decide (nu ≤ 400)) := by unfold Hid; rw [decide_eq_decide]; omega
        go_wp2
        go_ret
        exact ⟨ret_bool (by rw [e.out, e2.out]), rfl⟩
      · go_wp2
        go_ret
        exact ⟨ret_bool (by simp [q0, q1, q2]), rfl⟩
    · go_wp2
      go_ret
      exact ⟨ret_bool (by simp [q0, q1]), rfl⟩
  · go_wp2
    go_ret
    exact ⟨ret_bool (by simp [q0]), rfl⟩

set_option maxRecDepth 20000 in
set_option maxHeartbeats 3200000 in
theorem jobsRight_any (w : World) (B : Nat) (T : TypeId) (x : ArrN) (vm vd vw va vt : Value) (aj : Option Addr) (cj : Nat) (js : List JobD) (X : Box w B T (engC x vm vd vw (.slice aj js.length cj) va vt)) (hJ : (tJobS 0).Rd w [.slice aj js.length cj] js) (hw : wttJobS js ≤ 1048576) :
    Calls Tryz.prog 59 #[.pointer (some ⟨B, 0, none⟩)] w fun e w' => e = .returned (.bool (jobsB x.n x.s js js.length)) ∧ Below w.heap.size w w' := by
  have hjl : js.length ≤ 1048576 := by unfold wttJobS at hw; omega
  obtain ⟨hl, hc, hm⟩ := row_length hJ
  have hBl := X.lt
  have X1 := X.cell 1
  have X2 := X.cell 2
  have x1 : w.cell? ⟨B, 1, none⟩ = some (.int .i64 x.n) := X1
  have x2 : w.cell? ⟨B, 2, none⟩ = some (.int .i64 x.s) := X2
  clear X1 X2
  obtain ⟨b, off, hj⟩ : ∃ b off, aj = some ⟨b, off, none⟩ ∨ js.length = 0 := by
    rcases jobS_at hJ with h | ⟨b, off, h, _⟩
    · exact ⟨0, 0, .inr h⟩
    · exact ⟨b, off, .inl h⟩
  go_enter Tryz.func59, Tryz.ntmps59
  go_wp2_with fail
  refine (jobs_any _ B T _ aj js.length cj b off X rfl hj hjl hc).mono ?_
  rintro e w1 ⟨pb, pc, rfl, hP, hpc, hb1⟩
  go_wp2
  go_loopw [10] (fun iv wr => ∃ j : Nat, j ≤ js.length ∧ iv = .int .i64 j ∧ jobsB x.n x.s js j = true ∧ Below w.heap.size w wr ∧ Below w1.heap.size w1 wr) (fun iv _ => js.length - (intOf iv).toNat)
  case atStart => exact ⟨0, Nat.zero_le _, rfl, rfl, hb1, Below.refl _ _⟩
  case round =>
    obtain ⟨j, hjn, rfl, ht, hb, hb2⟩ := hrel
    by_cases hlt : j < js.length
    · rcases hj with rfl | h0
      · rcases jobS_at (hJ.below hb) with h0' | ⟨bb, oo, hbo, hbl, hcs⟩
        · omega
        simp only [Option.some.injEq, Addr.mk.injEq, and_true] at hbo
        obtain ⟨rfl, rfl⟩ := hbo
        obtain ⟨o, d1, b1, k, zs, t1, us, q1, hdj⟩ : ∃ o d1 b1 k zs t1 us q1, js[j]? = some (o, d1, b1, k, zs, t1, us, q1) := ⟨_, _, _, _, _, _, _, _, List.getElem?_eq_getElem (by omega)⟩
        have hin := job_inner hdj
        have hlen : zs.length ≤ 2097152 := by unfold wttJobS at hw; simp only [wJob] at hin; omega
        have hlen2 : us.length ≤ 2097152 := by unfold wttJobS at hw; simp only [wJob] at hin; omega
        obtain ⟨av0, cv0, av1, cv1, c0, c1, c2, c3, c4, c5, c6, c7, r0, r1⟩ := hcs j o d1 b1 k zs t1 us q1 hdj
        have hPr := hP.below hb2
        have hp := hPr.2 j hlt
        have y1 := (hb.cell (p := ⟨B, 1, none⟩) hBl).trans x1
        have y2 := (hb.cell (p := ⟨B, 2, none⟩) hBl).trans x2
        have hBr : B < wr.heap.size := Nat.lt_of_lt_of_le hBl hb.size
        have i1 : (0 : Int) ≤ (j : Int) := by omega
        have i2 : (j : Int) < (js.length : Int) := by omega
        have i3 : (j : Int) ≤ (pc : Int) := by omega
        have EQ := hidden (jobAt_eq (gn := x.n) (gs := x.s) hdj)
        have STP := hidden (jobsB_step ht)
        have FL := hidden (jobsB_fail (gn := x.n) (gs := x.s) (js := js) (n := js.length) hlt)
        have CR := hidden (fun (W : World) (q : Below wr.heap.size wr W) => isRight_any W x.n x.s b (off + j * 8) o d1 b1 k t1 q1 _ _ _ _ zs us (Nat.lt_of_lt_of_le hbl q.size) ((q.cell (p := ⟨b, off + j * 8, none⟩) hbl).trans c0) ((q.cell (p := ⟨b, off + j * 8 + 1, none⟩) hbl).trans c1) ((q.cell (p := ⟨b, off + j * 8 + 2, none⟩) hbl).trans c2) ((q.cell (p := ⟨b, off + j * 8 + 3, none⟩) hbl).trans c3) ((q.cell (p := ⟨b, off + j * 8 + 4, none⟩) hbl).trans c4) ((q.cell (p := ⟨b, off + j * 8 + 5, none⟩) hbl).trans c5) ((q.cell (p := ⟨b, off + j * 8 + 6, none⟩) hbl).trans c6) ((q.cell (p := ⟨b, off + j * 8 + 7, none⟩) hbl).trans c7) (r0.below q) (r1.below q) hlen hlen2)
        have CC := hidden (fun (W : World) (q : Below wr.heap.size wr W) => clashesAny_any W x.n x.s pb pc j b off cj js o d1 b1 k _ _ zs ⟨(hPr.below q).1, fun i hi => (hPr.below q).2 i (by omega)⟩ (by omega) ((hJ.below hb).below q) (by omega) (r0.below q) hlen)
        clear hcs hdj hin ht r0 r1 hP hPr c5 c6 c7
        cases hR : rightJ x.n x.s (o, d1, b1, k, zs, t1, us, q1)
        · have HF := hidden (FL.out (by rw [EQ.out, hR]; rfl))
          go_wp2_with fail
          refine wp_region_held_drew (S := fun w' => w'.cell? ⟨B, 1, none⟩ = some (.int .i64 x.n) ∧ w'.cell? ⟨B, 2, none⟩ = some (.int .i64 x.s)) (by kernel_rfl) ?_ (fun hHeld => ?_)
          · exact ⟨y1, y2⟩
          refine held_t 0 hHeld ?_
          refine held_t 1 hHeld ?_
          refine held_t 2 hHeld ?_
          refine held_t 3 hHeld ?_
          refine held_t 4 hHeld ?_
          refine held_t 5 hHeld ?_
          refine held_one (i := 6) (by kernel_rfl) rfl (by kernel_rfl) (fun K hK => ?_)
          go_simp
          refine (CR.out _ ((Below.refl _ _).drew)).mono ?_
          rintro e wC ⟨he, hbC0⟩
          rw [hR] at he
          subst he
          have hbC : Below wr.heap.size wr wC := (Below.refl wr.heap.size wr).drew.trans hbC0
          have HB := hidden (Below.andThen hb hbC)
          go_wp2_with fail
          clear hHeld
          refine hK.out _ _ ?_ (fun hHeld => ?_)
          · exact ⟨(hbC.cell (p := ⟨B, 1, none⟩) hBr).trans y1, (hbC.cell (p := ⟨B, 2, none⟩) hBr).trans y2⟩
          clear hK K
          refine held_t 7 hHeld ?_
          refine held_t 8 hHeld ?_
          refine held_p 9 hHeld ?_
          refine held_p 10 hHeld ?_
          refine held_p 11 hHeld ?_
          refine held_p 12 hHeld ?_
          refine held_p 13 hHeld ?_
          refine held_p 14 hHeld ?_
          refine held_p 15 hHeld ?_
          refine held_p 16 hHeld ?_
          refine held_p 17 hHeld ?_
          refine held_p 18 hHeld ?_
          refine held_p 19 hHeld ?_
          refine held_p 20 hHeld ?_
          refine held_p 21 hHeld ?_
          refine held_t 22 hHeld ?_
          refine wpAnyH_done (by kernel_rfl) ?_ _
          clear hHeld
          go_wp2
          go_ret
          exact ⟨ret_bool HF.out.symm, HB.out⟩
        · cases hM : (js.take j).any fun y => clashD x.n x.s (jobC y) (o, d1, b1, k, zs)
          · have HF := hidden (STP.out (by rw [EQ.out, hR]; show (true && !((js.take j).any fun y => clashD x.n x.s (jobC y) (o, d1, b1, k, zs))) = true; rw [hM]; rfl))
            go_wp2_with fail
            go_region_held3 (fun w' => (∀ q, w'.cell? ⟨B, q, none⟩ = wr.cell? ⟨B, q, none⟩) ∧ (∀ q, w'.cell? ⟨b, q, none⟩ = wr.cell? ⟨b, q, none⟩))
              (first | (exact ⟨fun q => hbD.cell (p := ⟨B, q, none⟩) hBr, fun q => hbD.cell (p := ⟨b, q, none⟩) hbl⟩) | (exact ⟨fun q => hbC.cell (p := ⟨B, q, none⟩) hBr, fun q => hbC.cell (p := ⟨b, q, none⟩) hbl⟩) | (exact ⟨fun _ => rfl, fun _ => rfl⟩) | go_keep)
              (first | (go_at_call 135; refine (CR.out _ ((Below.refl _ _).drew)).mono ?_; rintro e wC ⟨he, hbC0⟩; rw [hR] at he; subst he; have hbC : Below wr.heap.size wr wC := (Below.refl wr.heap.size wr).drew.trans hbC0) | (go_at_call 136; refine (CC.out _ hbC).mono ?_; rintro e wD ⟨he, hbD0⟩; rw [hM] at he; subst he; have hbD : Below wr.heap.size wr wD := Below.andThen hbC hbD0))
            have HB := hidden (Below.andThen hb hbD)
            have HB2 := hidden (Below.andThen hb2 hbD)
            go_wp2
            go_roundw
            case rel => exact ⟨j + 1, by omega, by go_num, HF.out, HB.out, HB2.out⟩
            case measure => simp [intOf]; omega
          · have HF := hidden (FL.out (by rw [EQ.out, hR]; show (true && !((js.take j).any fun y => clashD x.n x.s (jobC y) (o, d1, b1, k, zs))) = false; rw [hM]; rfl))
            go_wp2_with fail
            go_region_held3 (fun w' => (∀ q, w'.cell? ⟨B, q, none⟩ = wr.cell? ⟨B, q, none⟩) ∧ (∀ q, w'.cell? ⟨b, q, none⟩ = wr.cell? ⟨b, q, none⟩))
              (first | (exact ⟨fun q => hbD.cell (p := ⟨B, q, none⟩) hBr, fun q => hbD.cell (p := ⟨b, q, none⟩) hbl⟩) | (exact ⟨fun q => hbC.cell (p := ⟨B, q, none⟩) hBr, fun q => hbC.cell (p := ⟨b, q, none⟩) hbl⟩) | (exact ⟨fun _ => rfl, fun _ => rfl⟩) | go_keep)
              (first | (go_at_call 135; refine (CR.out _ ((Below.refl _ _).drew)).mono ?_; rintro e wC ⟨he, hbC0⟩; rw [hR] at he; subst he; have hbC : Below wr.heap.size wr wC := (Below.refl wr.heap.size wr).drew.trans hbC0) | (go_at_call 136; refine (CC.out _ hbC).mono ?_; rintro e wD ⟨he, hbD0⟩; rw [hM] at he; subst he; have hbD : Below wr.heap.size wr wD := Below.andThen hbC hbD0))
            have HB := hidden (Below.andThen hb hbD)
            go_wp2
            go_ret
            exact ⟨ret_bool HF.out.symm, HB.out⟩
      · omega
    · obtain rfl : j = js.length := by omega
      have HT := hidden ht
      clear ht
      go_wp2
      go_ret
      exact ⟨ret_bool HT.out.symm, hb⟩

set_option maxRecDepth 20000 in
set_option maxHeartbeats 3200000 in
theorem implEngOk_any (w : World) (cs : Array Value) (e : EngD) (h : EngRd w cs e) (hw : wtEng e ≤ 1048576) :
    Calls Tryz.prog 14 #[.agg cs] w fun e' w' => e' = .returned (.bool (engB e)) ∧ Below w.heap.size w w' := by
  obtain ⟨x, ms, ds, ws, js, an, ts⟩ := e
  obtain ⟨am, cm, ad, cd, aw, cw, aj, cj, aa, ca, au, cu, rfl, r0, r1, r2, r3, r4, r5⟩ := h.parts
  have HT : wtArr ms ds + wttCmdS ws + wttJobS js + wttAnsS an + wttTurnS ts ≤ 1048576 := hw
  have HE : Hid (engB ⟨x, ms, ds, ws, js, an, ts⟩ = (arrB x ms ds && ((decide (ws.length ≤ 8) && (decide (js.length ≤ 4) && (decide (an.length ≤ 8) && decide (ts.length ≤ 400)))) && jobsB x.n x.s js js.length))) := rfl
  generalize engB ⟨x, ms, ds, ws, js, an, ts⟩ = R at HE ⊢
  clear hw h
  go_enter Tryz.func14, Tryz.ntmps14
  unfold engC
  go_wp2_with fail
  refine seal_new ?_
  intro V A B
  refine (implArrOk_any _ 0 0 0 x _ _ _ _ _ _ ms ds (r0.below B) (r1.below B) (by omega)).mono ?_
  rintro e w1 ⟨rfl, b⟩
  have A := A.below b A.lt
  have B := Below.andThen B b
  clear b
  cases hA : arrB x ms ds
  · have HR : Hid (R = false) := by unfold Hid; rw [HE.out, hA]; rfl
    clear hA
    go_wp2
    go_ret
    exact ⟨ret_bool HR.out.symm, B⟩
  · rw [hA] at HE
    clear hA
    go_wp2_with fail
    refine (notTooMany_any _ _ _ _ _ _ _ _ _ _ _ _ _ _ (A.cell 13) (A.cell 14) (A.cell 15) (A.cell 16)).mono ?_
    rintro e w2 ⟨rfl, rfl⟩
    cases hF : (decide (ws.length ≤ 8) && (decide (js.length ≤ 4) && (decide (an.length ≤ 8) && decide (ts.length ≤ 400))))
    · have HR : Hid (R = false) := by unfold Hid; rw [HE.out, hF]; rfl
      clear hF
      go_wp2
      go_ret
      exact ⟨ret_bool HR.out.symm, B⟩
    · have HR : Hid (R = jobsB x.n x.s js js.length) := by unfold Hid; rw [HE.out, hF]; simp
      clear hF HE
      go_wp2_with fail
      refine (jobsRight_any _ _ _ x _ _ _ _ _ _ _ js A (r3.below B) (by omega)).mono ?_
      rintro e w3 ⟨rfl, b⟩
      have B := Below.andThen B b
      go_wp2
      go_ret
      exact ⟨ret_bool HR.out.symm, B⟩

end Go.Proofs.YtbkkjfgjlapadaaGreat

/-
  The program's CanBegin walked, with hasRoom and isFree. Condition: the engine weighs at most 1048576.
-/
namespace Go.Proofs.YtbkkjfgjlapadaaGreat
open Go.RowKit

set_option maxHeartbeats 1600000 in
theorem clos15b_any (w : World) (gn gs : Int) (Bp Be Bc : Nat) (T T2 : TypeId) (o d1 b1 k o2 d2 b2 k2 : Int) (a0 a2 : Option Addr) (c0 c2 : Nat) (zs zs2 : List Int) (r0 : tIntS.Rd w [.slice a0 zs.length c0] zs) (r2 : tIntS.Rd w [.slice a2 zs2.length c2] zs2) (hz : zs.length ≤ 2097152) (hz2 : zs2.length ≤ 2097152)
    (G : Box w Bp T #[.pointer (some ⟨Be, 0, none⟩)]) (C : Box w Bc T2 #[.int .i64 o2, .int .i64 d2, .int .i64 b2, .int .i64 k2, .slice a2 zs2.length c2]) (hE : Be < w.heap.size) (g1 : w.cell? ⟨Be, 1, none⟩ = some (.int .i64 gn)) (g2 : w.cell? ⟨Be, 2, none⟩ = some (.int .i64 gs)) :
    Calls Tryz.prog 159 #[.agg #[.int .i64 o, .int .i64 d1, .int .i64 b1, .int .i64 k, .slice a0 zs.length c0], .pointer (some ⟨Bp, 0, none⟩), .pointer (some ⟨Bc, 0, none⟩)] w fun e w' => e = .returned (.bool (metC (spanC gn gs o d1 b1 k zs) (spanC gn gs o2 d2 b2 k2 zs2))) ∧ Below w.heap.size w w' := by
  go_enter Tryz.func159, Tryz.ntmps159
  go_wp2_with fail
  refine seal_newC ?_
  intro V A B
  have G := G.below B G.lt
  have C := C.below B C.lt
  have e1 := (B.cell (p := ⟨Be, 1, none⟩) hE).trans g1
  have e2 := (B.cell (p := ⟨Be, 2, none⟩) hE).trans g2
  have k0 : V.cell? ⟨Bp, 0, none⟩ = some (.pointer (some ⟨Be, 0, none⟩)) := G.cell 0
  obtain ⟨m0, m1, m2, m3, m4⟩ := A.cells5
  obtain ⟨l0, l1, l2, l3, l4⟩ := C.cells5
  have hEv : Be < V.heap.size := Nat.lt_of_lt_of_le hE B.size
  have Q0 := hidden (ints_rd (r0.below B)).1
  have Q2 := hidden (ints_rd (r2.below B)).1
  have lA := A.lt
  have lC := C.lt
  have lG := G.lt
  clear g1 g2
  go_region_held3 (fun w' => (∀ q, w'.cell? ⟨Bp, q, none⟩ = V.cell? ⟨Bp, q, none⟩) ∧ (∀ q, w'.cell? ⟨Be, q, none⟩ = V.cell? ⟨Be, q, none⟩) ∧ (∀ q, w'.cell? ⟨Bc, q, none⟩ = V.cell? ⟨Bc, q, none⟩) ∧ (∀ q, w'.cell? ⟨w.heap.size, q, none⟩ = V.cell? ⟨w.heap.size, q, none⟩))
    (first | (exact ⟨fun q => hbC.cell (p := ⟨Bp, q, none⟩) lG, fun q => hbC.cell (p := ⟨Be, q, none⟩) hEv, fun q => hbC.cell (p := ⟨Bc, q, none⟩) lC, fun q => hbC.cell (p := ⟨w.heap.size, q, none⟩) lA⟩) | (exact ⟨fun _ => rfl, fun _ => rfl, fun _ => rfl, fun _ => rfl⟩) | go_keep)
    (first | (go_at_call 160; refine (implClash_any _ gn gs o d1 b1 k _ _ _ zs o2 d2 b2 k2 _ _ _ zs2 rfl Q0.out.draw hz rfl Q2.out.draw hz2).mono ?_; rintro e wC ⟨rfl, hbC0⟩; have hbC : Below V.heap.size V wC := (Below.refl V.heap.size V).drew.trans hbC0))
  have HB := Below.andThen B hbC
  go_wp2
  go_ret
  exact ⟨rfl, HB⟩

set_option maxHeartbeats 1600000 in
theorem cmdIndex_any (w : World) (gn gs : Int) (pc n b off cj Bp Be Bc : Nat) (T T2 : TypeId) (ws : List CmdD) (o2 d2 b2 k2 : Int) (a2 : Option Addr) (c2 : Nat) (zs2 : List Int) (hn : n ≤ ws.length) (hJ : (tCmdS 0).Rd w [.slice (some ⟨b, off, none⟩) ws.length cj] ws) (hw : wttCmdS ws ≤ 2097152) (r2 : tIntS.Rd w [.slice a2 zs2.length c2] zs2) (hz2 : zs2.length ≤ 2097152)
    (G : Box w Bp T #[.pointer (some ⟨Be, 0, none⟩)]) (hE : Be < w.heap.size) (g1 : w.cell? ⟨Be, 1, none⟩ = some (.int .i64 gn)) (g2 : w.cell? ⟨Be, 2, none⟩ = some (.int .i64 gs)) (C : Box w Bc T2 #[.int .i64 o2, .int .i64 d2, .int .i64 b2, .int .i64 k2, .slice a2 zs2.length c2]) :
    Calls Tryz.prog 226 #[.slice (some ⟨b, off, none⟩) n pc, .func (Fn.func 159) #[] #[.pointer (some ⟨Bp, 0, none⟩), .pointer (some ⟨Bc, 0, none⟩)]] w fun e w' => ((e = .returned (.int .i64 (-1)) ∧ ((ws.take n).any fun y => clashD gn gs y (o2, d2, b2, k2, zs2)) = false) ∨ ∃ j : Nat, j < n ∧ e = .returned (.int .i64 j) ∧ ((ws.take n).any fun y => clashD gn gs y (o2, d2, b2, k2, zs2)) = true) ∧ Below w.heap.size w w' := by
  have hjl : ws.length ≤ 2097152 := by unfold wttCmdS at hw; omega
  go_enter Tryz.func226, Tryz.ntmps226
  go_wp2
  go_loopw [8] (fun i wr => ∃ j : Nat, j ≤ n ∧ i = .int .i64 j ∧ ((ws.take j).any fun y => clashD gn gs y (o2, d2, b2, k2, zs2)) = false ∧ Below w.heap.size w wr) (fun i _ => n - (intOf i).toNat)
  case atStart => exact ⟨0, Nat.zero_le _, rfl, rfl, Below.refl _ _⟩
  case round =>
    obtain ⟨j, hj, rfl, ht, hb⟩ := hrel
    by_cases hlt : j < n
    · rcases cmdS_at (hJ.below hb) with h0' | ⟨bb, oo, hbo, hbl, hcs⟩
      · omega
      simp only [Option.some.injEq, Addr.mk.injEq, and_true] at hbo
      obtain ⟨rfl, rfl⟩ := hbo
      obtain ⟨o, d1, b1, k, zs, hdj⟩ : ∃ o d1 b1 k zs, ws[j]? = some (o, d1, b1, k, zs) := ⟨_, _, _, _, _, List.getElem?_eq_getElem (by omega)⟩
      have hin := cmd_inner hdj
      have hlen : zs.length ≤ 2097152 := by unfold wttCmdS at hw; simp only at hin; omega
      obtain ⟨av0, cv0, hc0, hc1, hc2, hc3, hc4, hr0⟩ := hcs j o d1 b1 k zs hdj
      have HIT := hidden (any_hit (p := fun y => clashD gn gs y (o2, d2, b2, k2, zs2)) (l := ws.take n) (j := j) (x := (o, d1, b1, k, zs)) (by rw [List.getElem?_take, if_pos hlt]; exact hdj))
      have STP := hidden (any_step (p := fun y => clashD gn gs y (o2, d2, b2, k2, zs2)) hdj)
      have HT := hidden ht
      have CALL := hidden (clos15b_any wr gn gs Bp Be Bc T T2 o d1 b1 k o2 d2 b2 k2 av0 a2 cv0 c2 zs zs2 hr0 (r2.below hb) hlen hz2 (G.below hb G.lt) (C.below hb C.lt) (Nat.lt_of_lt_of_le hE hb.size) ((hb.cell (p := ⟨Be, 1, none⟩) hE).trans g1) ((hb.cell (p := ⟨Be, 2, none⟩) hE).trans g2))
      have i1 : (0 : Int) ≤ (j : Int) := by omega
      have i2 : (j : Int) < (n : Int) := by omega
      have eq : clashD gn gs (o, d1, b1, k, zs) (o2, d2, b2, k2, zs2) = metC (spanC gn gs o d1 b1 k zs) (spanC gn gs o2 d2 b2 k2 zs2) := rfl
      clear hcs hdj hr0 hin ht
      have EQ := hidden eq
      clear eq
      cases hm : metC (spanC gn gs o d1 b1 k zs) (spanC gn gs o2 d2 b2 k2 zs2)
      · have HS := hidden (STP.out (by rw [EQ.out, hm]) HT.out)
        rw [hm] at CALL
        clear hm
        go_wp2_with fail
        refine CALL.out.mono ?_
        rintro e w1 ⟨rfl, hb1⟩
        have HB := Below.andThen hb hb1
        go_wp2
        go_roundw
        case rel => exact ⟨j + 1, by omega, by go_num, HS.out, HB⟩
        case measure => simp [intOf]; omega
      · have HS := hidden (HIT.out (by rw [EQ.out, hm]))
        rw [hm] at CALL
        clear hm
        go_wp2_with fail
        refine CALL.out.mono ?_
        rintro e w1 ⟨rfl, hb1⟩
        have HB := Below.andThen hb hb1
        go_wp2
        go_ret
        exact ⟨.inr ⟨j, hlt, rfl, HS.out⟩, HB⟩
    · obtain rfl : j = n := by omega
      have HT := hidden ht
      clear ht
      go_wp2
      go_ret
      exact ⟨.inl ⟨rfl, HT.out⟩, hb⟩

theorem cmdHas_any (w : World) (gn gs : Int) (pc n b off cj Bp Be Bc : Nat) (T T2 : TypeId) (ws : List CmdD) (o2 d2 b2 k2 : Int) (a2 : Option Addr) (c2 : Nat) (zs2 : List Int) (hn : n ≤ ws.length) (hJ : (tCmdS 0).Rd w [.slice (some ⟨b, off, none⟩) ws.length cj] ws) (hw : wttCmdS ws ≤ 2097152) (r2 : tIntS.Rd w [.slice a2 zs2.length c2] zs2) (hz2 : zs2.length ≤ 2097152)
    (G : Box w Bp T #[.pointer (some ⟨Be, 0, none⟩)]) (hE : Be < w.heap.size) (g1 : w.cell? ⟨Be, 1, none⟩ = some (.int .i64 gn)) (g2 : w.cell? ⟨Be, 2, none⟩ = some (.int .i64 gs)) (C : Box w Bc T2 #[.int .i64 o2, .int .i64 d2, .int .i64 b2, .int .i64 k2, .slice a2 zs2.length c2]) :
    Calls Tryz.prog 161 #[.slice (some ⟨b, off, none⟩) n pc, .func (Fn.func 159) #[] #[.pointer (some ⟨Bp, 0, none⟩), .pointer (some ⟨Bc, 0, none⟩)]] w fun e w' => e = .returned (.bool ((ws.take n).any fun y => clashD gn gs y (o2, d2, b2, k2, zs2))) ∧ Below w.heap.size w w' := by
  go_enter Tryz.func161, Tryz.ntmps161
  go_wp2_with fail
  refine (cmdIndex_any _ gn gs pc n b off cj Bp Be Bc T T2 ws o2 d2 b2 k2 _ _ zs2 hn hJ hw r2 hz2 G hE g1 g2 C).mono ?_
  rintro e w1 ⟨⟨rfl, h⟩ | ⟨j, hj, rfl, h⟩, hs⟩
  · have H := hidden h
    clear h
    go_wp2
    go_ret
    exact ⟨ret_bool (by rw [H.out]), hs⟩
  · have H := hidden h
    have j0 : (0 : Int) ≤ (j : Int) := by omega
    clear h
    go_wp2
    go_ret
    exact ⟨ret_bool (by rw [H.out]), hs⟩

set_option linter.unusedSimpArgs false in
set_option maxRecDepth 20000 in
theorem hasRoom_any (w : World) (B : Nat) (aj aa au : Option Addr) (nj cj na ca nu cu : Nat) (h14 : w.cell? ⟨B, 14, none⟩ = some (.slice aj nj cj)) (h15 : w.cell? ⟨B, 15, none⟩ = some (.slice aa na ca)) (h16 : w.cell? ⟨B, 16, none⟩ = some (.slice au nu cu)) (hj : nj ≤ 1048576) (ha : na ≤ 1048576) (hu : nu ≤ 1048576) :
    Calls Tryz.prog 79 #[.pointer (some ⟨B, 0, none⟩)] w fun e w' => e = .returned (.bool (decide (nj < 4) && (decide (na + nj < 8) && decide (nu + nj < 400)))) ∧ w' = w := by
  go_enter Tryz.func79, Tryz.ntmps79
  by_cases q1 : nj < 4
  · by_cases q2 : na + nj < 8
    · have e : Hid (∀ b : Bool, (decide (nj < 4) && (decide (na + nj < 8) && b)) = b) := fun b => by simp [q1, q2]
      have e2 : Hid (decide ((nu : Int) + (nj : Int) < 400) = decide (nu + nj < 400)) := by unfold Hid; rw [decide_eq_decide]; omega
      go_wp2
      go_ret
      exact ⟨ret_bool (by rw [e.out, e2.out]), rfl⟩
    · go_wp2
      go_ret
      exact ⟨ret_bool (by simp [q1, q2]), rfl⟩
  · go_wp2
    go_ret
    exact ⟨ret_bool (by simp [q1]), rfl⟩

set_option maxRecDepth 20000 in
set_option maxHeartbeats 3200000 in
theorem isFree_any (w : World) (B : Nat) (T : TypeId) (x : ArrN) (vm vd va vt : Value) (aw aj : Option Addr) (cw cj : Nat) (ws : List CmdD) (js : List JobD) (m : Nat) (hm : m < ws.length) (X : Box w B T (engC x vm vd (.slice aw ws.length cw) (.slice aj js.length cj) va vt)) (hW : (tCmdS 0).Rd w [.slice aw ws.length cw] ws) (hJ : (tJobS 0).Rd w [.slice aj js.length cj] js) (hw : wttCmdS ws + wttJobS js ≤ 1048576) :
    Calls Tryz.prog 80 #[.pointer (some ⟨B, 0, none⟩), .int .i64 m] w fun e w' => ∃ c, ws[m]? = some c ∧ e = .returned (.bool (freeD x.n x.s js ws m c)) ∧ Below w.heap.size w w' := by
  have hjl : js.length ≤ 1048576 := by unfold wttJobS at hw; omega
  have hwl : ws.length ≤ 1048576 := by unfold wttCmdS at hw; omega
  obtain ⟨_, hcj, _⟩ := row_length hJ
  obtain ⟨_, hcw, _⟩ := row_length hW
  obtain ⟨bj, oj, hj⟩ : ∃ b off, aj = some ⟨b, off, none⟩ ∨ js.length = 0 := by
    rcases jobS_at hJ with h | ⟨b, off, h, _⟩
    · exact ⟨0, 0, .inr h⟩
    · exact ⟨b, off, .inl h⟩
  rcases cmdS_at hW with h0' | ⟨b, off, rfl, hbl, hcs⟩
  · omega
  obtain ⟨o, d1, b1, k, zs, hdj⟩ : ∃ o d1 b1 k zs, ws[m]? = some (o, d1, b1, k, zs) := ⟨_, _, _, _, _, List.getElem?_eq_getElem (by omega)⟩
  have hin := cmd_inner hdj
  have hlen : zs.length ≤ 2097152 := by unfold wttCmdS at hw; simp only at hin; omega
  obtain ⟨av, cv, c0, c1, c2, c3, c4, r0⟩ := hcs m o d1 b1 k zs hdj
  have hBl := X.lt
  have x1 : w.cell? ⟨B, 1, none⟩ = some (.int .i64 x.n) := X.cell 1
  have x2 : w.cell? ⟨B, 2, none⟩ = some (.int .i64 x.s) := X.cell 2
  have x13 : w.cell? ⟨B, 13, none⟩ = some (.slice (some ⟨b, off, none⟩) ws.length cw) := X.cell 13
  have i1 : (0 : Int) ≤ (m : Int) := by omega
  have i2 : (m : Int) < (ws.length : Int) := by omega
  have i3 : (m : Int) ≤ (cw : Int) := by omega
  have HD := hidden hdj
  clear hcs hdj hin
  go_enter Tryz.func80, Tryz.ntmps80
  go_wp2_with fail
  refine seal_new2C ?_
  intro V PX C BV
  have HJ2 : (tJobS 0).Rd w [.slice (some ⟨bj, oj, none⟩) js.length cj] js := by
    rcases hj with rfl | h0
    · exact hJ
    · have e : js = [] := List.eq_nil_of_length_eq_zero h0
      subst e
      exact ⟨[], some ⟨bj, oj, none⟩, cj, rfl, Nat.zero_le _, (row_length hJ).2.2, .inl ⟨rfl, rfl, fun h => by cases h⟩⟩
  have lP := PX.lt
  have lC := C.lt
  have hBv : B < V.heap.size := Nat.lt_of_lt_of_le hBl BV.size
  have y0 : V.cell? ⟨w.heap.size, 0, none⟩ = some (.pointer (some ⟨B, 0, none⟩)) := PX.cell 0
  have y1 := (BV.cell (p := ⟨B, 1, none⟩) hBl).trans x1
  have y2 := (BV.cell (p := ⟨B, 2, none⟩) hBl).trans x2
  have y13 := (BV.cell (p := ⟨B, 13, none⟩) hBl).trans x13
  obtain ⟨l0, l1, l2, l3, l4⟩ := C.cells5
  have HX := hidden X
  clear x1 x2 x13 c0 c1 c2 c3 c4 X
  refine wp_region_held_drew (S := (fun w' => (∀ q, w'.cell? ⟨w.heap.size, q, none⟩ = V.cell? ⟨w.heap.size, q, none⟩) ∧ (∀ q, w'.cell? ⟨B, q, none⟩ = V.cell? ⟨B, q, none⟩) ∧ (∀ q, w'.cell? ⟨w.heap.size + 1, q, none⟩ = V.cell? ⟨w.heap.size + 1, q, none⟩))) (by kernel_rfl) ⟨fun _ => rfl, fun _ => rfl, fun _ => rfl⟩ (fun hHeld => ?_)
  refine held_t 0 hHeld ?_
  refine held_t 1 hHeld ?_
  refine held_t 2 hHeld ?_
  refine held_t 3 hHeld ?_
  refine held_t 4 hHeld ?_
  refine held_t 5 hHeld ?_
  refine held_t 6 hHeld ?_
  refine held_one (i := 7) (by kernel_rfl) rfl (by kernel_rfl) (fun K hK => ?_)
  go_simp
  refine (jobs_any _ B T _ aj js.length cj bj oj ((HX.out.below BV hBl).below ((Below.refl _ _).drew) hBv) rfl hj hjl hcj).mono ?_
  rintro e w1 ⟨pb, pc, rfl, hP, hpc, b1'⟩
  have q1 : Below V.heap.size V w1 := (Below.refl V.heap.size V).drew.trans b1'
  go_wp2_with fail
  clear hHeld
  refine hK.out _ _ ⟨fun q => q1.cell (p := ⟨w.heap.size, q, none⟩) lP, fun q => q1.cell (p := ⟨B, q, none⟩) hBv, fun q => q1.cell (p := ⟨w.heap.size + 1, q, none⟩) lC⟩ (fun hHeld => ?_)
  clear hK K
  refine held_one (i := 8) (by kernel_rfl) rfl (by kernel_rfl) (fun K hK => ?_)
  go_simp
  have q1w := Below.andThen BV q1
  refine (clashesAny_any _ x.n x.s pb pc js.length bj oj cj js o d1 b1 k _ _ zs hP (Nat.le_refl _) (HJ2.below q1w) (by omega) (r0.below q1w) hlen).mono ?_
  rintro e w2 ⟨he, b2'⟩
  rw [List.take_length] at he
  have q2 := Below.andThen q1 b2'
  have HB2 := hidden (Below.andThen BV q2)
  cases hC : js.any fun y => clashD x.n x.s (jobC y) (o, d1, b1, k, zs)
  · rw [hC] at he
    subst he
    go_wp2_with fail
    clear hHeld
    refine hK.out _ _ ⟨fun q => q2.cell (p := ⟨w.heap.size, q, none⟩) lP, fun q => q2.cell (p := ⟨B, q, none⟩) hBv, fun q => q2.cell (p := ⟨w.heap.size + 1, q, none⟩) lC⟩ (fun hHeld => ?_)
    clear hK K
    refine held_t 9 hHeld ?_
    refine held_t 10 hHeld ?_
    refine held_t 11 hHeld ?_
    refine held_t 12 hHeld ?_
    refine held_t 13 hHeld ?_
    refine held_t 14 hHeld ?_
    refine held_t 15 hHeld ?_
    refine held_t 16 hHeld ?_
    refine held_t 17 hHeld ?_
    refine held_one (i := 18) (by kernel_rfl) rfl (by kernel_rfl) (fun K hK => ?_)
    go_simp
    refine (cmdHas_any _ x.n x.s _ m b off cw w.heap.size B (w.heap.size + 1) _ _ ws o d1 b1 k _ _ zs (by omega) (hW.below HB2.out) (by omega) (r0.below HB2.out) hlen (PX.below q2 lP) (Nat.lt_of_lt_of_le hBv q2.size) ((q2.cell (p := ⟨B, 1, none⟩) hBv).trans y1) ((q2.cell (p := ⟨B, 2, none⟩) hBv).trans y2) (C.below q2 lC)).mono ?_
    rintro e w3 ⟨rfl, b3'⟩
    have q3 := Below.andThen q2 b3'
    have HB3 := hidden (Below.andThen BV q3)
    go_wp2_with fail
    clear hHeld
    refine hK.out _ _ ⟨fun q => q3.cell (p := ⟨w.heap.size, q, none⟩) lP, fun q => q3.cell (p := ⟨B, q, none⟩) hBv, fun q => q3.cell (p := ⟨w.heap.size + 1, q, none⟩) lC⟩ (fun hHeld => ?_)
    clear hK K
    have HR : Hid (freeD x.n x.s js ws m (o, d1, b1, k, zs) = !((ws.take m).any fun y => clashD x.n x.s y (o, d1, b1, k, zs))) := by unfold Hid freeD; rw [hC]; rfl
    generalize ((ws.take m).any fun y => clashD x.n x.s y (o, d1, b1, k, zs)) = A at HR ⊢
    refine held_t 19 hHeld ?_
    refine held_t 20 hHeld ?_
    refine held_t 21 hHeld ?_
    refine wpAnyH_done (by kernel_rfl) ?_ _
    clear hHeld hC
    go_wp2
    go_ret
    exact ⟨_, HD.out, ret_bool HR.out.symm, HB3.out⟩
  · rw [hC] at he
    subst he
    go_wp2_with fail
    clear hHeld
    refine hK.out _ _ ⟨fun q => q2.cell (p := ⟨w.heap.size, q, none⟩) lP, fun q => q2.cell (p := ⟨B, q, none⟩) hBv, fun q => q2.cell (p := ⟨w.heap.size + 1, q, none⟩) lC⟩ (fun hHeld => ?_)
    clear hK K
    have HR : Hid (freeD x.n x.s js ws m (o, d1, b1, k, zs) = false) := by unfold Hid freeD; rw [hC]; rfl
    refine held_t 9 hHeld ?_
    refine held_t 10 hHeld ?_
    refine held_p 11 hHeld ?_
    refine held_p 12 hHeld ?_
    refine held_p 13 hHeld ?_
    refine held_p 14 hHeld ?_
    refine held_p 15 hHeld ?_
    refine held_p 16 hHeld ?_
    refine held_p 17 hHeld ?_
    refine held_p 18 hHeld ?_
    refine held_p 19 hHeld ?_
    refine held_t 20 hHeld ?_
    refine held_t 21 hHeld ?_
    refine wpAnyH_done (by kernel_rfl) ?_ _
    clear hHeld hC
    go_wp2
    go_ret
    exact ⟨_, HD.out, ret_bool HR.out.symm, HB2.out⟩

set_option maxRecDepth 20000 in
set_option maxHeartbeats 3200000 in
theorem implCanBegin_any (w : World) (cs : Array Value) (e : EngD) (k : Int) (h : EngRd w cs e) (hw : wtEng e ≤ 1048576) :
    Calls Tryz.prog 33 #[.agg cs, .int .i64 k] w fun e' w' => e' = .returned (.bool (canB e k)) ∧ Below w.heap.size w w' := by
  obtain ⟨x, ms, ds, ws, js, an, ts⟩ := e
  obtain ⟨am, cm, ad, cd, aw, cw, aj, cj, aa, ca, au, cu, rfl, r0, r1, r2, r3, r4, r5⟩ := h.parts
  have HT : wtArr ms ds + wttCmdS ws + wttJobS js + wttAnsS an + wttTurnS ts ≤ 1048576 := hw
  have hwl : ws.length ≤ 1048576 := by have : wttCmdS ws = ws.length + sumL (ws.map fun x => x.2.2.2.2.length) := rfl; omega
  have hjl : js.length ≤ 1048576 := by have : wttJobS js = js.length + sumL (js.map wJob) := rfl; omega
  have hal : an.length ≤ 1048576 := by have : wttAnsS an = an.length + sumL (an.map fun x => x.2.2.length) := rfl; omega
  have htl : ts.length ≤ 1048576 := by have : wttTurnS ts = ts.length + sumL (ts.map wTurn) := rfl; omega
  have HE : Hid (canB ⟨x, ms, ds, ws, js, an, ts⟩ k = (engB ⟨x, ms, ds, ws, js, an, ts⟩ && (inB k 0 ((ws.length : Int) - 1) && ((decide (js.length < 4) && (decide (an.length + js.length < 8) && decide (ts.length + js.length < 400))) && freeB ⟨x, ms, ds, ws, js, an, ts⟩ k.toNat)))) := rfl
  generalize canB ⟨x, ms, ds, ws, js, an, ts⟩ k = R at HE ⊢
  have SL : (Tryz.prog.info? 35).map (·.size) = some (engC x (.slice am ms.length cm) (.slice ad ds.length cd) (.slice aw ws.length cw) (.slice aj js.length cj) (.slice aa an.length ca) (.slice au ts.length cu)).size := Tryz.sizeEng
  have HH := hidden h
  clear h
  go_enter Tryz.func33, Tryz.ntmps33
  go_wp2_with (first | (refine wpList_load_box rfl _ _ rfl rfl (Box.new _ _ _) _ Tryz.underlying35 rfl SL ?_) | fail)
  refine seal_new ?_
  intro V A B
  refine (implEngOk_any _ _ _ (HH.out.below B) hw).mono ?_
  rintro e1 w1 ⟨rfl, b⟩
  have A := A.below b A.lt
  have B := Below.andThen B b
  have k13 : w1.cell? ⟨w.heap.size, 13, none⟩ = some (.slice aw ws.length cw) := A.cell 13
  clear b SL
  cases hE : engB ⟨x, ms, ds, ws, js, an, ts⟩
  · have HR : Hid (R = false) := by unfold Hid; rw [HE.out, hE]; rfl
    clear hE
    go_wp2
    go_ret
    exact ⟨ret_bool HR.out.symm, B⟩
  rw [hE] at HE
  clear hE
  have hwr : IntKind.i64.wrap ((ws.length : Int) - 1) = (ws.length : Int) - 1 := IntWalk.i64_in _ (by omega)
  go_wp2_with fail
  refine (within_any _ _ _ _).mono ?_
  rintro e2 w2 ⟨rfl, rfl⟩
  cases hI : inB k 0 ((ws.length : Int) - 1)
  · have HR : Hid (R = false) := by unfold Hid; rw [HE.out, hI]; rfl
    clear hI
    go_wp2
    go_ret
    exact ⟨ret_bool HR.out.symm, B⟩
  rw [hI] at HE
  rw [inB_iff] at hI
  obtain ⟨m, rfl⟩ : ∃ m : Nat, k = (m : Int) := ⟨k.toNat, by omega⟩
  have hm : m < ws.length := by omega
  clear hI
  go_wp2_with fail
  refine (hasRoom_any _ _ _ _ _ _ _ _ _ _ _ (A.cell 14) (A.cell 15) (A.cell 16) hjl hal htl).mono ?_
  rintro e3 w3 ⟨rfl, rfl⟩
  cases hF : (decide (js.length < 4) && (decide (an.length + js.length < 8) && decide (ts.length + js.length < 400)))
  · have HR : Hid (R = false) := by unfold Hid; rw [HE.out, hF]; simp
    clear hF
    go_wp2
    go_ret
    exact ⟨ret_bool HR.out.symm, B⟩
  rw [hF] at HE
  clear hF
  go_wp2_with fail
  refine (isFree_any _ _ _ x _ _ _ _ aw aj cw cj ws js m hm A (r2.below B) (r3.below B) (by omega)).mono ?_
  rintro e4 w4 ⟨c, hc, rfl, b⟩
  have HR : Hid (R = freeD x.n x.s js ws m c) := by
    unfold Hid
    have hf : freeB ⟨x, ms, ds, ws, js, an, ts⟩ m = freeD x.n x.s js ws m c := freeB_eq hc
    rw [HE.out, Int.toNat_natCast, hf]
    rfl
  have B := Below.andThen B b
  clear HE hc
  go_wp2
  go_ret
  exact ⟨ret_bool HR.out.symm, B⟩

end Go.Proofs.YtbkkjfgjlapadaaGreat

/-
  The walk of Begin (impl.Begin). Condition: the engine weighs at most 1048576.
-/
namespace Go.Proofs.YtbkkjfgjlapadaaGreat
open Go.RowKit

/-- The engine behind Begin. -/
def begE (e : EngD) (k : Int) : EngD := if canB e k then (match e.ws[k.toNat]? with | some c => begC e k.toNat c | none => e) else e
theorem can_at {e : EngD} {k : Int} (h : canB e k = true) : ∃ m : Nat, k = (m : Int) ∧ m < e.ws.length := by
  unfold canB at h
  simp only [Bool.and_eq_true] at h
  have h1 := inB_iff.1 h.2.1
  exact ⟨k.toNat, by omega, by omega⟩

set_option maxRecDepth 20000 in
set_option maxHeartbeats 6400000 in
theorem implBegin_bent (w : World) (cs : Array Value) (e : EngD) (k : Int) (h : EngRd w cs e) (hw : wtEng e ≤ 1048576) (hE : canB e k = false) :
    Calls Tryz.prog 20 #[.agg cs, .int .i64 k] w fun e' w' => ∃ cs', e' = .returned (.tuple #[.agg cs', .bool (canB e k)]) ∧ EngOwn w' w.heap.size w'.heap.size cs' (begE e k) ∧ Below w.heap.size w w' := by
  obtain ⟨x, ms, ds, ws, js, an, ts⟩ := e
  obtain ⟨am, cm, ad, cd, aw, cw, aj, cj, aa, ca, au, cu, rfl, r0, r1, r2, r3, r4, r5⟩ := h.parts
  clear r0 r1 r2 r3 r4 r5
  have SL : (Tryz.prog.info? 35).map (·.size) = some (engC x (.slice am ms.length cm) (.slice ad ds.length cd) (.slice aw ws.length cw) (.slice aj js.length cj) (.slice aa an.length ca) (.slice au ts.length cu)).size := Tryz.sizeEng
  have HH := hidden h
  clear h
  go_enter Tryz.func20, Tryz.ntmps20
  go_wp2_with (first | (refine wpList_load_box rfl _ _ rfl rfl ((Box.new _ _ _).alloc _) _ Tryz.underlying35 rfl SL ?_) | fail)
  refine seal_new2 ?_
  intro V A R B
  have lA := A.lt
  have lR := R.lt
  refine (copyEng_any _ _ _ (HH.out.below B) (by omega)).mono ?_
  rintro e1 w1 ⟨c1, rfl, O, b1⟩
  obtain ⟨vm, vd, vw, vj, va, vu, f0, f1, f2, f3, f4, f5, rfl, P⟩ := O.split
  obtain ⟨bm, em, rfl⟩ := row_shape P.m0.rd
  obtain ⟨bd, ed, rfl⟩ := row_shape P.m1.rd
  obtain ⟨bw, ew, rfl⟩ := row_shape P.m2.rd
  obtain ⟨bj, ej, rfl⟩ := row_shape P.m3.rd
  obtain ⟨bn, en, rfl⟩ := row_shape P.m4.rd
  obtain ⟨bu, eu, rfl⟩ := row_shape P.m5.rd
  have P := hidden P
  have SZ : (Tryz.prog.info? 35).map (·.size) = some (engC x (.slice bm ms.length em) (.slice bd ds.length ed) (.slice bw ws.length ew) (.slice bj js.length ej) (.slice bn an.length en) (.slice bu ts.length eu)).size := Tryz.sizeEng
  have A := A.below b1 A.lt
  have R := R.below b1 R.lt
  have B := Below.andThen B b1
  have z1 := b1.size
  clear b1
  go_wp2_with (first | (refine wpList_store_new rfl _ _ _ rfl rfl rfl rfl SZ (by rfl) ?_; intro V2 W b2; have A := A.below b2 A.lt) | (refine wpList_load_box rfl _ _ rfl rfl A _ Tryz.underlying35 rfl SL ?_) | fail)
  have R := R.below b2 R.lt
  have B := Below.andThen B b2
  have O := O.below b2
  have P := hidden (P.out.turned (Turned.ofBelow b2 []) (by simp))
  have lW := W.lt
  have z2 := b2.size
  clear b2
  refine (implCanBegin_any _ _ _ k (HH.out.below B) hw).mono ?_
  rintro e3 w3 ⟨rfl, b3⟩
  have R := R.below b3 R.lt
  have W := W.below b3 W.lt
  have B := Below.andThen B b3
  have O := O.below b3
  have P := hidden (P.out.turned (Turned.ofBelow b3 []) (by simp))
  have z3 := b3.size
  clear b3 A
  rw [hE]
  clear P
  have W : Box w3 w1.heap.size 35 #[.int .i64 x.id, .int .i64 x.n, .int .i64 x.s, .slice bm ms.length em, .int .i64 x.lost, .int .i64 x.built, .int .i64 x.seq, .int .i64 x.tail, .int .i64 x.gen, .slice bd ds.length ed, .int .i64 x.fuse, .bool x.down, .bool x.broken, .slice bw ws.length ew, .slice bj js.length ej, .slice bn an.length en, .slice bu ts.length eu] := W
  have SZ : (Tryz.prog.info? 35).map (·.size) = some (#[.int .i64 x.id, .int .i64 x.n, .int .i64 x.s, .slice bm ms.length em, .int .i64 x.lost, .int .i64 x.built, .int .i64 x.seq, .int .i64 x.tail, .int .i64 x.gen, .slice bd ds.length ed, .int .i64 x.fuse, .bool x.down, .bool x.broken, .slice bw ws.length ew, .slice bj js.length ej, .slice bn an.length en, .slice bu ts.length eu] : Array Value).size := Tryz.sizeEng
  have O : EngOwn w3 V.heap.size w1.heap.size #[.int .i64 x.id, .int .i64 x.n, .int .i64 x.s, .slice bm ms.length em, .int .i64 x.lost, .int .i64 x.built, .int .i64 x.seq, .int .i64 x.tail, .int .i64 x.gen, .slice bd ds.length ed, .int .i64 x.fuse, .bool x.down, .bool x.broken, .slice bw ws.length ew, .slice bj js.length ej, .slice bn an.length en, .slice bu ts.length eu] ⟨x, ms, ds, ws, js, an, ts⟩ := O
  go_wp2_with (first | (refine wpList_load_box rfl _ _ rfl rfl W _ Tryz.underlying35 rfl SZ ?_) | (refine wpList_store_box rfl _ _ _ rfl rfl rfl R rfl SZ (by rfl) ?_; intro V4 X hb hs; obtain ⟨x0, x1, x2, x3, x4, x5, x6, x7, x8, x9, x10, x11, x12, x13, x14, x15, x16⟩ := X.cells17; have KB := hidden (Below.andBut B hb (by omega)); have KO := hidden ((O.but hb (by omega)).widen (show w.heap.size ≤ V.heap.size by omega) (show w1.heap.size ≤ V4.heap.size by omega)); clear hb) | fail)
  refine bodyPost_ret (v := .tuple #[.agg #[.int .i64 x.id, .int .i64 x.n, .int .i64 x.s, .slice bm ms.length em, .int .i64 x.lost, .int .i64 x.built, .int .i64 x.seq, .int .i64 x.tail, .int .i64 x.gen, .slice bd ds.length ed, .int .i64 x.fuse, .bool x.down, .bool x.broken, .slice bw ws.length ew, .slice bj js.length ej, .slice bn an.length en, .slice bu ts.length eu], .bool false]) (by simp [results, Tryz.results20, go_sem, x0, x1, x2, x3, x4, x5, x6, x7, x8, x9, x10, x11, x12, x13, x14, x15, x16]) rfl ?_
  have hG : begE ⟨x, ms, ds, ws, js, an, ts⟩ k = ⟨x, ms, ds, ws, js, an, ts⟩ := by unfold begE; rw [hE]; rfl
  exact ⟨_, by rw [hE], by rw [hG]; exact KO.out, KB.out⟩

set_option maxRecDepth 20000 in
set_option maxHeartbeats 6400000 in
theorem implBegin_good (w : World) (cs : Array Value) (e : EngD) (k : Int) (h : EngRd w cs e) (hw : wtEng e ≤ 1048576) (hE : canB e k = true) :
    Calls Tryz.prog 20 #[.agg cs, .int .i64 k] w fun e' w' => ∃ cs', e' = .returned (.tuple #[.agg cs', .bool (canB e k)]) ∧ EngOwn w' w.heap.size w'.heap.size cs' (begE e k) ∧ Below w.heap.size w w' := by
  obtain ⟨x, ms, ds, ws, js, an, ts⟩ := e
  obtain ⟨am, cm, ad, cd, aw, cw, aj, cj, aa, ca, au, cu, rfl, r0, r1, r2, r3, r4, r5⟩ := h.parts
  clear r0 r1 r2 r3 r4 r5
  have SL : (Tryz.prog.info? 35).map (·.size) = some (engC x (.slice am ms.length cm) (.slice ad ds.length cd) (.slice aw ws.length cw) (.slice aj js.length cj) (.slice aa an.length ca) (.slice au ts.length cu)).size := Tryz.sizeEng
  have HH := hidden h
  clear h
  go_enter Tryz.func20, Tryz.ntmps20
  go_wp2_with (first | (refine wpList_load_box rfl _ _ rfl rfl ((Box.new _ _ _).alloc _) _ Tryz.underlying35 rfl SL ?_) | fail)
  refine seal_new2 ?_
  intro V A R B
  have lA := A.lt
  have lR := R.lt
  refine (copyEng_any _ _ _ (HH.out.below B) (by omega)).mono ?_
  rintro e1 w1 ⟨c1, rfl, O, b1⟩
  obtain ⟨vm, vd, vw, vj, va, vu, f0, f1, f2, f3, f4, f5, rfl, P⟩ := O.split
  obtain ⟨bm, em, rfl⟩ := row_shape P.m0.rd
  obtain ⟨bd, ed, rfl⟩ := row_shape P.m1.rd
  obtain ⟨bw, ew, rfl⟩ := row_shape P.m2.rd
  obtain ⟨bj, ej, rfl⟩ := row_shape P.m3.rd
  obtain ⟨bn, en, rfl⟩ := row_shape P.m4.rd
  obtain ⟨bu, eu, rfl⟩ := row_shape P.m5.rd
  have P := hidden P
  have SZ : (Tryz.prog.info? 35).map (·.size) = some (engC x (.slice bm ms.length em) (.slice bd ds.length ed) (.slice bw ws.length ew) (.slice bj js.length ej) (.slice bn an.length en) (.slice bu ts.length eu)).size := Tryz.sizeEng
  have A := A.below b1 A.lt
  have R := R.below b1 R.lt
  have B := Below.andThen B b1
  have z1 := b1.size
  clear b1
  go_wp2_with (first | (refine wpList_store_new rfl _ _ _ rfl rfl rfl rfl SZ (by rfl) ?_; intro V2 W b2; have A := A.below b2 A.lt) | (refine wpList_load_box rfl _ _ rfl rfl A _ Tryz.underlying35 rfl SL ?_) | fail)
  have R := R.below b2 R.lt
  have B := Below.andThen B b2
  have O := O.below b2
  have P := hidden (P.out.turned (Turned.ofBelow b2 []) (by simp))
  have lW := W.lt
  have z2 := b2.size
  clear b2
  refine (implCanBegin_any _ _ _ k (HH.out.below B) hw).mono ?_
  rintro e3 w3 ⟨rfl, b3⟩
  have R := R.below b3 R.lt
  have W := W.below b3 W.lt
  have B := Below.andThen B b3
  have O := O.below b3
  have P := hidden (P.out.turned (Turned.ofBelow b3 []) (by simp))
  have z3 := b3.size
  clear b3 A
  rw [hE]
  clear SL SZ O
  obtain ⟨m, rfl, hm⟩ := can_at hE
  replace hm : m < ws.length := hm
  obtain ⟨o, d, b, n, zs, hk⟩ : ∃ o d b n zs, ws[m]? = some (o, d, b, n, zs) := ⟨_, _, _, _, _, List.getElem?_eq_getElem hm⟩
  have hG : begE ⟨x, ms, ds, ws, js, an, ts⟩ (m : Int) = begC ⟨x, ms, ds, ws, js, an, ts⟩ m (o, d, b, n, zs) := by
    unfold begE
    rw [hE, Int.toNat_natCast]
    simp only [hk, if_true]
  have lR := R.lt
  have hat : EngAt w3 w1.heap.size V.heap.size ⟨x, ms, ds, ws, js, an, ts⟩ (f0 ++ (f1 ++ (f2 ++ (f3 ++ (f4 ++ f5))))) := ⟨_, _, _, _, _, _, f0, f1, f2, f3, f4, f5, rfl, W, P.out.widen (by omega), fun h => by have := P.out.r _ (mem_six.1 h); omega⟩
  have hFr : ∀ y ∈ w1.heap.size :: (f0 ++ (f1 ++ (f2 ++ (f3 ++ (f4 ++ f5))))), V.heap.size ≤ y := fun y hy => by
    rcases List.mem_cons.1 hy with h | h
    · omega
    · exact (P.out.r y (mem_six.1 h)).1
  have HG := hidden hG
  have HA := hidden hat
  have HFr := hidden hFr
  have HK := hidden hk
  clear hG hat hFr hk P W HH
  go_wp2_with fail
  refine (begin_any _ w1.heap.size V.heap.size ⟨x, ms, ds, ws, js, an, ts⟩ _ m o d b n zs HA.out (by omega) (by omega) HK.out hw).mono ?_
  rintro e4 w4 ⟨rfl, ⟨F', hAt⟩, T4⟩
  obtain ⟨y, hy⟩ : ∃ y, begC ⟨x, ms, ds, ws, js, an, ts⟩ m (o, d, b, n, zs) = y := ⟨_, rfl⟩
  rw [hy] at hAt
  have HY := hidden hy
  clear hy
  obtain ⟨vm, vd, vw, vj, va, vu, p0, p1, p2, p3, p4, p5, rfl, X4, P4, _⟩ := hAt
  have hnR : w.heap.size + 1 ∉ w1.heap.size :: (f0 ++ (f1 ++ (f2 ++ (f3 ++ (f4 ++ f5))))) := fun h => by have := HFr.out _ h; omega
  have R := R.kept (T4.block _ lR hnR)
  have B := B.trans (T4.below (N := w.heap.size) (by have := B.size; omega) (fun y hy => by have := HFr.out y hy; omega))
  have X4 : Box w4 w1.heap.size 35 #[.int .i64 y.x.id, .int .i64 y.x.n, .int .i64 y.x.s, vm, .int .i64 y.x.lost, .int .i64 y.x.built, .int .i64 y.x.seq, .int .i64 y.x.tail, .int .i64 y.x.gen, vd, .int .i64 y.x.fuse, .bool y.x.down, .bool y.x.broken, vw, vj, va, vu] := X4
  have SN : (Tryz.prog.info? 35).map (·.size) = some (#[.int .i64 y.x.id, .int .i64 y.x.n, .int .i64 y.x.s, vm, .int .i64 y.x.lost, .int .i64 y.x.built, .int .i64 y.x.seq, .int .i64 y.x.tail, .int .i64 y.x.gen, vd, .int .i64 y.x.fuse, .bool y.x.down, .bool y.x.broken, vw, vj, va, vu] : Array Value).size := Tryz.sizeEng
  have hV4 : ([.int .i64 y.x.id, .int .i64 y.x.n, .int .i64 y.x.s, vm, .int .i64 y.x.lost, .int .i64 y.x.built, .int .i64 y.x.seq, .int .i64 y.x.tail, .int .i64 y.x.gen, vd, .int .i64 y.x.fuse, .bool y.x.down, .bool y.x.broken, vw, vj, va, vu] : List Value).all (·.oneCell') = true := by
    have := P4.own.rd.one
    exact this
  have KP : EngOwn w4 V.heap.size w4.heap.size #[.int .i64 y.x.id, .int .i64 y.x.n, .int .i64 y.x.s, vm, .int .i64 y.x.lost, .int .i64 y.x.built, .int .i64 y.x.seq, .int .i64 y.x.tail, .int .i64 y.x.gen, vd, .int .i64 y.x.fuse, .bool y.x.down, .bool y.x.broken, vw, vj, va, vu] y := P4.own
  have z4 := T4.size
  clear T4 P4 hnR HA HFr HK
  go_wp2_with (first | (refine wpList_load_box rfl _ _ rfl rfl X4 _ Tryz.underlying35 rfl SN ?_) | (refine wpList_store_box rfl _ _ _ rfl rfl rfl R rfl SN hV4 ?_; intro V5 X hb hs; obtain ⟨x0, x1, x2, x3, x4, x5, x6, x7, x8, x9, x10, x11, x12, x13, x14, x15, x16⟩ := X.cells17; have KB := hidden (Below.andBut B hb (by omega)); have KO := hidden ((KP.but hb (by omega)).widen (show w.heap.size ≤ V.heap.size by omega) (show w4.heap.size ≤ V5.heap.size by omega)); clear hb) | fail)
  refine bodyPost_ret (v := .tuple #[.agg #[.int .i64 y.x.id, .int .i64 y.x.n, .int .i64 y.x.s, vm, .int .i64 y.x.lost, .int .i64 y.x.built, .int .i64 y.x.seq, .int .i64 y.x.tail, .int .i64 y.x.gen, vd, .int .i64 y.x.fuse, .bool y.x.down, .bool y.x.broken, vw, vj, va, vu], .bool true]) (by simp [results, Tryz.results20, go_sem, x0, x1, x2, x3, x4, x5, x6, x7, x8, x9, x10, x11, x12, x13, x14, x15, x16]) rfl ?_
  exact ⟨_, by rw [hE], by rw [HG.out, HY.out]; exact KO.out, KB.out⟩

theorem implBegin_any (w : World) (cs : Array Value) (e : EngD) (k : Int) (h : EngRd w cs e) (hw : wtEng e ≤ 1048576) :
    Calls Tryz.prog 20 #[.agg cs, .int .i64 k] w fun e' w' => ∃ cs', e' = .returned (.tuple #[.agg cs', .bool (canB e k)]) ∧ EngOwn w' w.heap.size w'.heap.size cs' (begE e k) ∧ Below w.heap.size w w' := by
  cases hE : canB e k
  · rw [← hE]
    exact implBegin_bent w cs e k h hw hE
  · rw [← hE]
    exact implBegin_good w cs e k h hw hE

end Go.Proofs.YtbkkjfgjlapadaaGreat

/-
  The walk of the specification's l6Copy: the same array in memory of its own. Condition: it weighs at most 2097152.
-/
namespace Go.Proofs.YtbkkjfgjlapadaaGreat
open Go.RowKit

set_option linter.unusedSimpArgs false in
set_option maxRecDepth 20000 in
set_option maxHeartbeats 4000000 in
theorem l6Copy_any (w : World) (E F G : TypeId) (x : ArrN) (am ad : Option Addr) (nm cm nd cd : Nat) (ms : List MemD) (ds : List (Int × List Int)) (h0 : (tMemS E F).Rd w [.slice am nm cm] ms) (h1 : (tWrS G).Rd w [.slice ad nd cd] ds) (hw : wtArr ms ds ≤ 2097152) :
    Calls Tryz.prog 126 #[.agg #[.int .i64 x.id, .int .i64 x.n, .int .i64 x.s, .slice am nm cm, .int .i64 x.lost, .int .i64 x.built, .int .i64 x.seq, .int .i64 x.tail, .int .i64 x.gen, .slice ad nd cd, .int .i64 x.fuse, .bool x.down, .bool x.broken]] w fun e w' => ∃ bm cm' bd cd' m, e = .returned (.agg #[.int .i64 x.id, .int .i64 x.n, .int .i64 x.s, .slice bm nm cm', .int .i64 x.lost, .int .i64 x.built, .int .i64 x.seq, .int .i64 x.tail, .int .i64 x.gen, .slice bd nd cd', .int .i64 x.fuse, .bool x.down, .bool x.broken]) ∧ (tMemS 214 147).Own w' w.heap.size m [.slice bm nm cm'] ms ∧ (tWrS 162).Own w' m w'.heap.size [.slice bd nd cd'] ds ∧ w.heap.size ≤ m ∧ m ≤ w'.heap.size ∧ Below w.heap.size w w' := by
  have hwm : wtMemS ms ≤ 2097152 := by unfold wtArr at hw; omega
  have hwd : wtWrS ds ≤ 2097152 := by unfold wtArr at hw; omega
  obtain ⟨hl0, _, hm0⟩ := row_length h0
  obtain ⟨hl1, _, hm1⟩ := row_length h1
  have hn0 : nm ≤ 2097152 := by unfold wtMemS at hwm; omega
  have hn1 : nd ≤ 2097152 := by unfold wtWrS at hwd; omega
  obtain ⟨i3, hi3, hx0, hx1, hx2⟩ := info_parts Tryz.info3
  obtain ⟨i1, hi1, hy0, hy1, hy2⟩ := info_parts Tryz.infoEnt
  obtain ⟨i4, hi4, hz0, hz1, hz2⟩ := info_parts Tryz.infoMem
  have zz : ∀ u : World, ∀ ob : Obj, (u.alloc ob).heap.size = u.heap.size + 1 := fun u ob => by simp
  have xm : Box ((((w.alloc (.cells #[.int .i64 x.id, .int .i64 x.n, .int .i64 x.s, .slice am nm cm, .int .i64 x.lost, .int .i64 x.built, .int .i64 x.seq, .int .i64 x.tail, .int .i64 x.gen, .slice ad nd cd, .int .i64 x.fuse, .bool x.down, .bool x.broken] 29)).alloc (.cells #[.int .i64 0, .int .i64 0, .int .i64 0, .slice none 0 0, .int .i64 0, .int .i64 0, .int .i64 0, .int .i64 0, .int .i64 0, .slice none 0 0, .int .i64 0, .bool false, .bool false] 29)).alloc (.cells #[.int .i64 x.id, .int .i64 x.n, .int .i64 x.s, .slice (some ⟨w.heap.size + 1 + 1 + 1, 0, none⟩) 0 0, .int .i64 x.lost, .int .i64 x.built, .int .i64 x.seq, .int .i64 x.tail, .int .i64 x.gen, .slice ad nd cd, .int .i64 x.fuse, .bool x.down, .bool x.broken] 29)).alloc (.cells #[] 147)) (w.heap.size) 29 #[.int .i64 x.id, .int .i64 x.n, .int .i64 x.s, .slice am nm cm, .int .i64 x.lost, .int .i64 x.built, .int .i64 x.seq, .int .i64 x.tail, .int .i64 x.gen, .slice ad nd cd, .int .i64 x.fuse, .bool x.down, .bool x.broken] := (((Box.new w _ _).alloc _).alloc _).alloc _
  have xr0 := Box.new (w.alloc (.cells #[.int .i64 x.id, .int .i64 x.n, .int .i64 x.s, .slice am nm cm, .int .i64 x.lost, .int .i64 x.built, .int .i64 x.seq, .int .i64 x.tail, .int .i64 x.gen, .slice ad nd cd, .int .i64 x.fuse, .bool x.down, .bool x.broken] 29)) 29 #[.int .i64 0, .int .i64 0, .int .i64 0, .slice none 0 0, .int .i64 0, .int .i64 0, .int .i64 0, .int .i64 0, .int .i64 0, .slice none 0 0, .int .i64 0, .bool false, .bool false]
  rw [zz] at xr0
  have xr : Box ((((w.alloc (.cells #[.int .i64 x.id, .int .i64 x.n, .int .i64 x.s, .slice am nm cm, .int .i64 x.lost, .int .i64 x.built, .int .i64 x.seq, .int .i64 x.tail, .int .i64 x.gen, .slice ad nd cd, .int .i64 x.fuse, .bool x.down, .bool x.broken] 29)).alloc (.cells #[.int .i64 0, .int .i64 0, .int .i64 0, .slice none 0 0, .int .i64 0, .int .i64 0, .int .i64 0, .int .i64 0, .int .i64 0, .slice none 0 0, .int .i64 0, .bool false, .bool false] 29)).alloc (.cells #[.int .i64 x.id, .int .i64 x.n, .int .i64 x.s, .slice (some ⟨w.heap.size + 1 + 1 + 1, 0, none⟩) 0 0, .int .i64 x.lost, .int .i64 x.built, .int .i64 x.seq, .int .i64 x.tail, .int .i64 x.gen, .slice ad nd cd, .int .i64 x.fuse, .bool x.down, .bool x.broken] 29)).alloc (.cells #[] 147)) (w.heap.size + 1) 29 #[.int .i64 0, .int .i64 0, .int .i64 0, .slice none 0 0, .int .i64 0, .int .i64 0, .int .i64 0, .int .i64 0, .int .i64 0, .slice none 0 0, .int .i64 0, .bool false, .bool false] := (xr0.alloc _).alloc _
  have xo0 := Box.new ((w.alloc (.cells #[.int .i64 x.id, .int .i64 x.n, .int .i64 x.s, .slice am nm cm, .int .i64 x.lost, .int .i64 x.built, .int .i64 x.seq, .int .i64 x.tail, .int .i64 x.gen, .slice ad nd cd, .int .i64 x.fuse, .bool x.down, .bool x.broken] 29)).alloc (.cells #[.int .i64 0, .int .i64 0, .int .i64 0, .slice none 0 0, .int .i64 0, .int .i64 0, .int .i64 0, .int .i64 0, .int .i64 0, .slice none 0 0, .int .i64 0, .bool false, .bool false] 29)) 29 #[.int .i64 x.id, .int .i64 x.n, .int .i64 x.s, .slice (some ⟨w.heap.size + 1 + 1 + 1, 0, none⟩) 0 0, .int .i64 x.lost, .int .i64 x.built, .int .i64 x.seq, .int .i64 x.tail, .int .i64 x.gen, .slice ad nd cd, .int .i64 x.fuse, .bool x.down, .bool x.broken]
  rw [zz, zz] at xo0
  have xo : Box ((((w.alloc (.cells #[.int .i64 x.id, .int .i64 x.n, .int .i64 x.s, .slice am nm cm, .int .i64 x.lost, .int .i64 x.built, .int .i64 x.seq, .int .i64 x.tail, .int .i64 x.gen, .slice ad nd cd, .int .i64 x.fuse, .bool x.down, .bool x.broken] 29)).alloc (.cells #[.int .i64 0, .int .i64 0, .int .i64 0, .slice none 0 0, .int .i64 0, .int .i64 0, .int .i64 0, .int .i64 0, .int .i64 0, .slice none 0 0, .int .i64 0, .bool false, .bool false] 29)).alloc (.cells #[.int .i64 x.id, .int .i64 x.n, .int .i64 x.s, .slice (some ⟨w.heap.size + 1 + 1 + 1, 0, none⟩) 0 0, .int .i64 x.lost, .int .i64 x.built, .int .i64 x.seq, .int .i64 x.tail, .int .i64 x.gen, .slice ad nd cd, .int .i64 x.fuse, .bool x.down, .bool x.broken] 29)).alloc (.cells #[] 147)) (w.heap.size + 1 + 1) 29 #[.int .i64 x.id, .int .i64 x.n, .int .i64 x.s, .slice (some ⟨w.heap.size + 1 + 1 + 1, 0, none⟩) 0 0, .int .i64 x.lost, .int .i64 x.built, .int .i64 x.seq, .int .i64 x.tail, .int .i64 x.gen, .slice ad nd cd, .int .i64 x.fuse, .bool x.down, .bool x.broken] := xo0.alloc _
  have ml := lit0_mine (t := tMem 214) (E := 147) (((w.alloc (.cells #[.int .i64 x.id, .int .i64 x.n, .int .i64 x.s, .slice am nm cm, .int .i64 x.lost, .int .i64 x.built, .int .i64 x.seq, .int .i64 x.tail, .int .i64 x.gen, .slice ad nd cd, .int .i64 x.fuse, .bool x.down, .bool x.broken] 29)).alloc (.cells #[.int .i64 0, .int .i64 0, .int .i64 0, .slice none 0 0, .int .i64 0, .int .i64 0, .int .i64 0, .int .i64 0, .int .i64 0, .slice none 0 0, .int .i64 0, .bool false, .bool false] 29)).alloc (.cells #[.int .i64 x.id, .int .i64 x.n, .int .i64 x.s, .slice (some ⟨w.heap.size + 1 + 1 + 1, 0, none⟩) 0 0, .int .i64 x.lost, .int .i64 x.built, .int .i64 x.seq, .int .i64 x.tail, .int .i64 x.gen, .slice ad nd cd, .int .i64 x.fuse, .bool x.down, .bool x.broken] 29))
  rw [zz, zz, zz] at ml
  have hB : Below (w.heap.size) w ((((w.alloc (.cells #[.int .i64 x.id, .int .i64 x.n, .int .i64 x.s, .slice am nm cm, .int .i64 x.lost, .int .i64 x.built, .int .i64 x.seq, .int .i64 x.tail, .int .i64 x.gen, .slice ad nd cd, .int .i64 x.fuse, .bool x.down, .bool x.broken] 29)).alloc (.cells #[.int .i64 0, .int .i64 0, .int .i64 0, .slice none 0 0, .int .i64 0, .int .i64 0, .int .i64 0, .int .i64 0, .int .i64 0, .slice none 0 0, .int .i64 0, .bool false, .bool false] 29)).alloc (.cells #[.int .i64 x.id, .int .i64 x.n, .int .i64 x.s, .slice (some ⟨w.heap.size + 1 + 1 + 1, 0, none⟩) 0 0, .int .i64 x.lost, .int .i64 x.built, .int .i64 x.seq, .int .i64 x.tail, .int .i64 x.gen, .slice ad nd cd, .int .i64 x.fuse, .bool x.down, .bool x.broken] 29)).alloc (.cells #[] 147)) := ((((Below.refl _ _).alloc (Nat.le_refl _) _).alloc (by simp) _).alloc (by simp; omega) _).alloc (by simp; omega) _
  have hz : w.heap.size + 1 + 1 + 1 < ((((w.alloc (.cells #[.int .i64 x.id, .int .i64 x.n, .int .i64 x.s, .slice am nm cm, .int .i64 x.lost, .int .i64 x.built, .int .i64 x.seq, .int .i64 x.tail, .int .i64 x.gen, .slice ad nd cd, .int .i64 x.fuse, .bool x.down, .bool x.broken] 29)).alloc (.cells #[.int .i64 0, .int .i64 0, .int .i64 0, .slice none 0 0, .int .i64 0, .int .i64 0, .int .i64 0, .int .i64 0, .int .i64 0, .slice none 0 0, .int .i64 0, .bool false, .bool false] 29)).alloc (.cells #[.int .i64 x.id, .int .i64 x.n, .int .i64 x.s, .slice (some ⟨w.heap.size + 1 + 1 + 1, 0, none⟩) 0 0, .int .i64 x.lost, .int .i64 x.built, .int .i64 x.seq, .int .i64 x.tail, .int .i64 x.gen, .slice ad nd cd, .int .i64 x.fuse, .bool x.down, .bool x.broken] 29)).alloc (.cells #[] 147)).heap.size := by simp
  clear xr0 xo0 zz
  go_enter Tryz.func126, Tryz.ntmps126
  go_wp2
  generalize (((w.alloc (.cells #[.int .i64 x.id, .int .i64 x.n, .int .i64 x.s, .slice am nm cm, .int .i64 x.lost, .int .i64 x.built, .int .i64 x.seq, .int .i64 x.tail, .int .i64 x.gen, .slice ad nd cd, .int .i64 x.fuse, .bool x.down, .bool x.broken] 29)).alloc (.cells #[.int .i64 0, .int .i64 0, .int .i64 0, .slice none 0 0, .int .i64 0, .int .i64 0, .int .i64 0, .int .i64 0, .int .i64 0, .slice none 0 0, .int .i64 0, .bool false, .bool false] 29)).alloc (.cells #[.int .i64 x.id, .int .i64 x.n, .int .i64 x.s, .slice (some ⟨w.heap.size + 1 + 1 + 1, 0, none⟩) 0 0, .int .i64 x.lost, .int .i64 x.built, .int .i64 x.seq, .int .i64 x.tail, .int .i64 x.gen, .slice ad nd cd, .int .i64 x.fuse, .bool x.down, .bool x.broken] 29)).alloc (.cells #[] 147) = W2 at xm xr xo ml hB hz ⊢
  obtain ⟨LB, hLB⟩ : ∃ LB, w.heap.size + 1 + 1 + 1 = LB := ⟨_, rfl⟩
  rw [hLB] at xo ml hz ⊢
  have q3 : w.heap.size + 1 + 1 + 1 ≤ LB ∧ LB ≤ w.heap.size + 1 + 1 + 1 := by omega
  clear hLB
  obtain ⟨BO, hBO⟩ : ∃ BO, w.heap.size + 1 + 1 = BO := ⟨_, rfl⟩
  rw [hBO] at xo ⊢
  have q2 : w.heap.size + 1 + 1 ≤ BO ∧ BO ≤ w.heap.size + 1 + 1 := by omega
  clear hBO
  obtain ⟨BR, hBR⟩ : ∃ BR, w.heap.size + 1 = BR := ⟨_, rfl⟩
  rw [hBR] at xr ⊢
  have q1 : w.heap.size + 1 ≤ BR ∧ BR ≤ w.heap.size + 1 := by omega
  clear hBR
  have XM2 := hidden xm
  have XR2 := hidden xr
  have XO2 := hidden xo
  have ML2 := hidden ml
  have HB2 := hidden hB
  clear xm xr xo ml hB
  go_loopw [4] (fun i wr => ∃ (j : Nat) (v0 : Value) (fp0 : List Nat), j ≤ nm ∧ i = .int .i64 j ∧ Fr LB BO W2 wr ∧ Box wr BO 29 #[.int .i64 x.id, .int .i64 x.n, .int .i64 x.s, v0, .int .i64 x.lost, .int .i64 x.built, .int .i64 x.seq, .int .i64 x.tail, .int .i64 x.gen, .slice ad nd cd, .int .i64 x.fuse, .bool x.down, .bool x.broken] ∧ (tMemS 214 147).Mine wr [v0] (ms.take j) fp0 ∧ (∀ b ∈ fp0, LB ≤ b)) (fun i _ => nm - (intOf i).toNat)
  case atStart => exact ⟨0, _, [LB], Nat.zero_le _, rfl, Fr.refl _ _ _, XO2.out, ML2.out, by simp⟩
  case round =>
    obtain ⟨j, v0, fp0, hj, rfl, fr, xo, hm, hfp⟩ := hrel
    have hs := fr.size
    have xm := fr.box XM2.out (by omega) (by omega)
    have hb := HB2.out.trans (fr.below (M := w.heap.size) (by omega) (by omega))
    have c3 : wr.cell? ⟨w.heap.size, 3, none⟩ = some (.slice am nm cm) := xm.cell 3
    by_cases hjn : j < nm
    · rcases quads_at rfl h0 with h0' | ⟨b, off, rfl, hbl, hcs⟩
      · omega
      have hdj : ms[j]? = some (ms[j]'(by omega)) := List.getElem?_eq_getElem (by omega)
      have htk : ms.take (j + 1) = ms.take j ++ [ms[j]'(by omega)] := List.take_succ_eq_append_getElem (by omega)
      generalize ms[j]'(by omega) = d at hdj htk
      have hin := Nat.le_trans (inner_leM hdj) hwm
      obtain ⟨u0, u1, u2, u3, hv0, hv1, hv2, hv3, hrv⟩ := hcs j d hdj
      obtain ⟨a0, c0, a1, c1, a3, c3', ss, cs, f, bs, rfl, rfl, rfl, rfl, rfl, r0, r1, r3⟩ := mem_at hrv
      have pv0 := (hb.cell (p := ⟨b, off + j * 4, none⟩) hbl).trans hv0
      have pv1 := (hb.cell (p := ⟨b, off + j * 4 + 1, none⟩) hbl).trans hv1
      have pv2 := (hb.cell (p := ⟨b, off + j * 4 + 2, none⟩) hbl).trans hv2
      have pv3 := (hb.cell (p := ⟨b, off + j * 4 + 3, none⟩) hbl).trans hv3
      have R0 := hidden (r0.below hb)
      have R1 := hidden (r1.below hb)
      have R3 := hidden (r3.below hb)
      have k1 : (0 : Int) ≤ (j : Int) := by omega
      have k2 : (j : Int) < (nm : Int) := by omega
      have HTK := hidden htk
      have XO := hidden xo
      have XMR := hidden xm
      have FRR := hidden fr
      have HM := hidden hm
      have HFP := hidden hfp
      have HL : Hid ((ms.take j).length = j) := by unfold Hid; rw [List.length_take]; omega
      have L1 : Hid ((ms.take j).length + 1 ≤ maxLen) := by unfold Hid; rw [HL.out]; unfold maxLen; omega
      have L2 : Hid (((ms.take j).length + 1) * 80 ≤ 140737488355328) := by unfold Hid; rw [HL.out]; omega
      have mk : Hid (∀ w', Box w' BO 29 #[.int .i64 x.id, .int .i64 x.n, .int .i64 x.s, v0, .int .i64 x.lost, .int .i64 x.built, .int .i64 x.seq, .int .i64 x.tail, .int .i64 x.gen, .slice ad nd cd, .int .i64 x.fuse, .bool x.down, .bool x.broken] → Box w' w.heap.size 29 #[.int .i64 x.id, .int .i64 x.n, .int .i64 x.s, .slice (some ⟨b, off, none⟩) nm cm, .int .i64 x.lost, .int .i64 x.built, .int .i64 x.seq, .int .i64 x.tail, .int .i64 x.gen, .slice ad nd cd, .int .i64 x.fuse, .bool x.down, .bool x.broken] → w'.heap[b]? = wr.heap[b]? → w'.cell? ⟨BO, 3, none⟩ = some (v0) ∧ w'.cell? ⟨w.heap.size, 3, none⟩ = some (.slice (some ⟨b, off, none⟩) nm cm) ∧ w'.cell? ⟨b, off + j * 4, none⟩ = some (.slice a0 ss.length c0) ∧ w'.cell? ⟨b, off + j * 4 + 1, none⟩ = some (.slice a1 cs.length c1) ∧ w'.cell? ⟨b, off + j * 4 + 2, none⟩ = some (.bool f) ∧ w'.cell? ⟨b, off + j * 4 + 3, none⟩ = some (.slice a3 bs.length c3')) := fun w' h1 h2 h3 => ⟨h1.cell 3, h2.cell 3, (World.cell?_of_block (w := wr) h3).trans pv0, (World.cell?_of_block (w := wr) h3).trans pv1, (World.cell?_of_block (w := wr) h3).trans pv2, (World.cell?_of_block (w := wr) h3).trans pv3⟩
      have hS : wr.drew.cell? ⟨BO, 3, none⟩ = some (v0) ∧ wr.drew.cell? ⟨w.heap.size, 3, none⟩ = some (.slice (some ⟨b, off, none⟩) nm cm) ∧ wr.drew.cell? ⟨b, off + j * 4, none⟩ = some (.slice a0 ss.length c0) ∧ wr.drew.cell? ⟨b, off + j * 4 + 1, none⟩ = some (.slice a1 cs.length c1) ∧ wr.drew.cell? ⟨b, off + j * 4 + 2, none⟩ = some (.bool f) ∧ wr.drew.cell? ⟨b, off + j * 4 + 3, none⟩ = some (.slice a3 bs.length c3') := mk.out wr.drew xo xm rfl
      have zb : b < wr.heap.size := by have := hb.size; omega
      have zLB : LB < wr.heap.size := by omega
      clear hcs hdj hv0 hv1 hv2 hv3 hrv htk xo xm hm hfp hb fr pv0 pv1 pv2 pv3 r0 r1 r3
      go_wp2_with fail
      refine Upto.start (S := fun w' => w'.cell? ⟨BO, 3, none⟩ = some (v0) ∧ w'.cell? ⟨w.heap.size, 3, none⟩ = some (.slice (some ⟨b, off, none⟩) nm cm) ∧ w'.cell? ⟨b, off + j * 4, none⟩ = some (.slice a0 ss.length c0) ∧ w'.cell? ⟨b, off + j * 4 + 1, none⟩ = some (.slice a1 cs.length c1) ∧ w'.cell? ⟨b, off + j * 4 + 2, none⟩ = some (.bool f) ∧ w'.cell? ⟨b, off + j * 4 + 3, none⟩ = some (.slice a3 bs.length c3')) (k := 11) (by kernel_rfl) ?_
      refine Upto.t 0 hS ?_
      refine Upto.t 1 hS ?_
      refine Upto.t 2 hS ?_
      refine Upto.t 3 hS ?_
      refine Upto.t 4 hS ?_
      refine Upto.t 5 hS ?_
      refine Upto.t 6 hS ?_
      refine Upto.one (i := 7) (by kernel_rfl) rfl (fun K hK => ?_)
      go_simp
      refine (l2Copy_any _ E _ _ _ _ _ _ _ _ _ ss cs f bs R0.out.drew R1.out.drew R3.out.drew hin).mono ?_
      rintro e wc ⟨y0, y1, y3, m1, m2, rfl, o3, o0, o1, hm12, hm01, hm22, bc⟩
      have hbc' : Below wr.heap.size wr wc := (Below.refl wr.heap.size wr).drew.trans bc
      have hm01' : wr.heap.size ≤ m1 := hm01
      have om : (tMem 214).Own wc wr.heap.size wc.heap.size [y0, y1, .bool f, y3] (ss, cs, f, bs) := mem_own3 o0 o1 o3 (.inl (Nat.le_refl _)) (.inr (Nat.le_refl _)) (.inr hm12) ⟨by omega, by omega⟩ ⟨by omega, Nat.le_refl _⟩ ⟨Nat.le_refl _, by omega⟩
      obtain ⟨e0, g0, rfl⟩ := row_shape o0.rd
      obtain ⟨e1, g1, rfl⟩ := row_shape o1.rd
      obtain ⟨e3, g3, rfl⟩ := row_shape o3.rd
      obtain ⟨fpx, mx, rx⟩ := om.mine
      have xoc := XO.out.below hbc' (by omega)
      have xmc := XMR.out.below hbc' (by omega)
      have hS3 : wc.cell? ⟨BO, 3, none⟩ = some (v0) ∧ wc.cell? ⟨w.heap.size, 3, none⟩ = some (.slice (some ⟨b, off, none⟩) nm cm) ∧ wc.cell? ⟨b, off + j * 4, none⟩ = some (.slice a0 ss.length c0) ∧ wc.cell? ⟨b, off + j * 4 + 1, none⟩ = some (.slice a1 cs.length c1) ∧ wc.cell? ⟨b, off + j * 4 + 2, none⟩ = some (.bool f) ∧ wc.cell? ⟨b, off + j * 4 + 3, none⟩ = some (.slice a3 bs.length c3') := mk.out wc xoc xmc (hbc'.block b zb)
      have bB := new_below wc (.cells #[.slice e0 ss.length g0, .slice e1 cs.length g1, .bool f, .slice e3 bs.length g3] 147)
      have zc := hbc'.size
      have hS4 : (wc.alloc (.cells #[.slice e0 ss.length g0, .slice e1 cs.length g1, .bool f, .slice e3 bs.length g3] 147)).cell? ⟨BO, 3, none⟩ = some (v0) ∧ (wc.alloc (.cells #[.slice e0 ss.length g0, .slice e1 cs.length g1, .bool f, .slice e3 bs.length g3] 147)).cell? ⟨w.heap.size, 3, none⟩ = some (.slice (some ⟨b, off, none⟩) nm cm) ∧ (wc.alloc (.cells #[.slice e0 ss.length g0, .slice e1 cs.length g1, .bool f, .slice e3 bs.length g3] 147)).cell? ⟨b, off + j * 4, none⟩ = some (.slice a0 ss.length c0) ∧ (wc.alloc (.cells #[.slice e0 ss.length g0, .slice e1 cs.length g1, .bool f, .slice e3 bs.length g3] 147)).cell? ⟨b, off + j * 4 + 1, none⟩ = some (.slice a1 cs.length c1) ∧ (wc.alloc (.cells #[.slice e0 ss.length g0, .slice e1 cs.length g1, .bool f, .slice e3 bs.length g3] 147)).cell? ⟨b, off + j * 4 + 2, none⟩ = some (.bool f) ∧ (wc.alloc (.cells #[.slice e0 ss.length g0, .slice e1 cs.length g1, .bool f, .slice e3 bs.length g3] 147)).cell? ⟨b, off + j * 4 + 3, none⟩ = some (.slice a3 bs.length c3') := mk.out _ (xoc.alloc _) (xmc.alloc _) ((bB.block b (by omega)).trans (hbc'.block b zb))
      have XOC := hidden xoc
      have XMC := hidden xmc
      have MX := hidden mx
      have RX := hidden rx
      have HBC := hidden hbc'
      clear xoc xmc mx rx hbc' bc om o0 o1 o3 hm01 hm01' hm12 hm22 bB R0 R1 R3
      go_wp2_with fail
      refine hK.out _ _ (fun _ => hS3) ?_
      clear hK K
      refine Upto.one (i := 8) (by kernel_rfl) rfl (fun K hK => ?_)
      go_simp
      refine hK.out _ _ (fun _ => hS4) ?_
      clear hK K
      refine Upto.one (i := 9) (by kernel_rfl) rfl (fun K hK => ?_)
      refine step_appT (tMem 214) (by rfl) _ _ 26 (by rfl) 147 i4 (.agg #[.slice none 0 0, .slice none 0 0, .bool false, .slice none 0 0]) 80 Tryz.underlying26 hi4 hz0 hz1 hz2 rfl (by decide) v0 (ms.take j) fp0 (by rfl) ?_ ⟨wc.heap.size, 0, none⟩ 1 [.slice e0 ss.length g0, .slice e1 cs.length g1, .bool f, .slice e3 bs.length g3] (ss, cs, f, bs) fpx (by rfl) ?_ ?_ ?_ ?_ L1.out L2.out ?_
      · exact (HM.out.below HBC.out).alloc _
      · exact MX.out.alloc _
      · intro b hb hb'
        have h1 := HM.out.lt b hb
        have h2 := RX.out b hb'
        omega
      · exact news_new _ _ _
      · intro u hu
        simp at hu
        rcases hu with hu | hu | hu | hu <;> (rw [hu]; rfl)
      intro g cap wA fpA m1 m2 m3
      rw [HL.out] at m1 ⊢
      rw [← HTK.out] at m1
      have ya := (XOC.out.alloc (.cells #[.slice e0 ss.length g0, .slice e1 cs.length g1, .bool f, .slice e3 bs.length g3] 147)).turned m3 (fun hm => by have := HFP.out _ hm; omega)
      have ym := (XMC.out.alloc (.cells #[.slice e0 ss.length g0, .slice e1 cs.length g1, .bool f, .slice e3 bs.length g3] 147)).turned m3 (fun hm => by have := HFP.out _ hm; omega)
      have zB : (wc.alloc (.cells #[.slice e0 ss.length g0, .slice e1 cs.length g1, .bool f, .slice e3 bs.length g3] 147)).heap.size = wc.heap.size + 1 := by simp
      have zBb : b < (wc.alloc (.cells #[.slice e0 ss.length g0, .slice e1 cs.length g1, .bool f, .slice e3 bs.length g3] 147)).heap.size := by omega
      have hS5 : wA.cell? ⟨BO, 3, none⟩ = some (v0) ∧ wA.cell? ⟨w.heap.size, 3, none⟩ = some (.slice (some ⟨b, off, none⟩) nm cm) ∧ wA.cell? ⟨b, off + j * 4, none⟩ = some (.slice a0 ss.length c0) ∧ wA.cell? ⟨b, off + j * 4 + 1, none⟩ = some (.slice a1 cs.length c1) ∧ wA.cell? ⟨b, off + j * 4 + 2, none⟩ = some (.bool f) ∧ wA.cell? ⟨b, off + j * 4 + 3, none⟩ = some (.slice a3 bs.length c3') := mk.out wA ya ym ((m3.block b zBb (fun hm => by have := HFP.out _ hm; omega)).trans (((new_below wc (.cells #[.slice e0 ss.length g0, .slice e1 cs.length g1, .bool f, .slice e3 bs.length g3] 147)).block b (by omega)).trans (HBC.out.block b zb)))
      have r0 := hS5.1
      have fz := ya.frozen 3
      have YA := hidden ya
      have M1 := hidden m1
      have M2 := hidden m2
      have M3 := hidden m3
      clear ya ym m1 m2 m3 zB zBb
      refine hK.out _ _ (fun _ => hS5) ?_
      clear hK K
      simp only [Act.put, List.setIfInBounds_toArray, List.set_cons_zero, List.set_cons_succ]
      refine Upto.t 10 hS5 ?_
      refine Upto.one (i := 11) (by kernel_rfl) rfl (fun K hK => ?_)
      go_simp
      refine hK.out _ _ (fun h => absurd rfl h) ?_
      clear hK K
      refine Upto.done (by kernel_rfl) ?_ _
      have HFA := hidden (round_fp (N := LB) (by omega) HBC.out HFP.out RX.out M2.out)
      have FRA := hidden (Fr.round FRR.out (by omega) HBC.out _ M3.out HFP.out 3 (.slice (some ⟨g, 0, none⟩) (j + 1) cap))
      have MA := hidden (M1.out.setCell (g := BO) (j := 3) (fun hm => by have := HFA.out _ hm; omega) (.slice (some ⟨g, 0, none⟩) (j + 1) cap))
      have YA' := hidden (YA.out.set 3 (.slice (some ⟨g, 0, none⟩) (j + 1) cap))
      clear hS hS3 hS4 hS5 r0 YA M1 M2 M3 XOC MX RX HBC HFP HM FRR XO XMR XMC mk
      go_wp2
      go_roundw
      case rel => exact ⟨j + 1, _, fpA, by omega, by go_num, FRA.out, YA'.out, MA.out, HFA.out⟩
      case measure => simp [intOf]; omega
    · have ej : nm = j := by omega
      subst ej
      rw [List.take_of_length_le (by omega)] at hm
      have hlt := hm.lt
      obtain ⟨eM, gM, hvM⟩ := row_shape hm.rd
      rw [hl0] at hvM
      subst hvM
      have KM := hm.own (lo := LB) (hi := wr.heap.size) (fun b hb => ⟨hfp b hb, hlt b hb⟩)
      have xr := fr.box XR2.out (by omega) (by omega)
      have b3 : But BO (BO + 1) (wr.alloc (.cells #[] 162)) ((wr.alloc (.cells #[] 162)).setCell ⟨BO, 9, none⟩ (.slice (some ⟨wr.heap.size, 0, none⟩) 0 0)) := But.setCell (by omega) (by omega) _
      have xm3 : Box ((wr.alloc (.cells #[] 162)).setCell ⟨BO, 9, none⟩ (.slice (some ⟨wr.heap.size, 0, none⟩) 0 0)) w.heap.size 29 #[.int .i64 x.id, .int .i64 x.n, .int .i64 x.s, .slice am nm cm, .int .i64 x.lost, .int .i64 x.built, .int .i64 x.seq, .int .i64 x.tail, .int .i64 x.gen, .slice ad nd cd, .int .i64 x.fuse, .bool x.down, .bool x.broken] := (xm.alloc _).other (by omega) 9 _
      have xr3 : Box ((wr.alloc (.cells #[] 162)).setCell ⟨BO, 9, none⟩ (.slice (some ⟨wr.heap.size, 0, none⟩) 0 0)) BR 29 #[.int .i64 0, .int .i64 0, .int .i64 0, .slice none 0 0, .int .i64 0, .int .i64 0, .int .i64 0, .int .i64 0, .int .i64 0, .slice none 0 0, .int .i64 0, .bool false, .bool false] := (xr.alloc _).other (by omega) 9 _
      have xo3 : Box ((wr.alloc (.cells #[] 162)).setCell ⟨BO, 9, none⟩ (.slice (some ⟨wr.heap.size, 0, none⟩) 0 0)) BO 29 #[.int .i64 x.id, .int .i64 x.n, .int .i64 x.s, .slice eM nm gM, .int .i64 x.lost, .int .i64 x.built, .int .i64 x.seq, .int .i64 x.tail, .int .i64 x.gen, .slice (some ⟨wr.heap.size, 0, none⟩) 0 0, .int .i64 x.fuse, .bool x.down, .bool x.broken] := (xo.alloc _).set 9 (.slice (some ⟨wr.heap.size, 0, none⟩) 0 0)
      have ml3 : (tWrS 162).Mine ((wr.alloc (.cells #[] 162)).setCell ⟨BO, 9, none⟩ (.slice (some ⟨wr.heap.size, 0, none⟩) 0 0)) [.slice (some ⟨wr.heap.size, 0, none⟩) 0 0] [] [wr.heap.size] := (lit0_mine (t := tWr) (E := 162) wr).setCell (by simp; omega) _
      have km3 := (KM.below (new_below wr (.cells #[] 162))).but b3 (.inr (by omega))
      have hB3 : Below w.heap.size w ((wr.alloc (.cells #[] 162)).setCell ⟨BO, 9, none⟩ (.slice (some ⟨wr.heap.size, 0, none⟩) 0 0)) := (hb.alloc hb.size _).setCell (show w.heap.size ≤ BO by omega) _
      have z3 : wr.heap.size < ((wr.alloc (.cells #[] 162)).setCell ⟨BO, 9, none⟩ (.slice (some ⟨wr.heap.size, 0, none⟩) 0 0)).heap.size := by simp [World.setCell]
      have zL3 : LB < wr.heap.size := by omega
      have co9 : (wr.alloc (.cells #[] 162)).cell? ⟨BO, 9, none⟩ = some (.slice ad nd cd) := (xo.alloc _).cell 9
      have fo9 := (xo.alloc (.cells #[] 162)).frozen 9
      clear fr xo xm hm hfp hlt KM xr b3 hb hs hj
      go_wp2
      generalize (wr.alloc (.cells #[] 162)).setCell ⟨BO, 9, none⟩ (.slice (some ⟨wr.heap.size, 0, none⟩) 0 0) = W3 at xm3 xr3 xo3 ml3 km3 hB3 z3 ⊢
      obtain ⟨LE, hLE⟩ : ∃ LE, wr.heap.size = LE := ⟨_, rfl⟩
      rw [hLE] at xo3 ml3 km3 z3 zL3 ⊢
      clear hLE
      have XM3 := hidden xm3
      have XR3 := hidden xr3
      have XO3 := hidden xo3
      have ML3 := hidden ml3
      have KM3 := hidden km3
      have HB3 := hidden hB3
      clear xm3 xr3 xo3 ml3 km3 hB3 XM2 XR2 XO2 ML2 HB2 hz
      go_loopw [5] (fun i wr => ∃ (j : Nat) (v1 : Value) (fp1 : List Nat), j ≤ nd ∧ i = .int .i64 j ∧ Fr LE BO W3 wr ∧ Box wr BO 29 #[.int .i64 x.id, .int .i64 x.n, .int .i64 x.s, .slice eM nm gM, .int .i64 x.lost, .int .i64 x.built, .int .i64 x.seq, .int .i64 x.tail, .int .i64 x.gen, v1, .int .i64 x.fuse, .bool x.down, .bool x.broken] ∧ (tWrS 162).Mine wr [v1] (ds.take j) fp1 ∧ (∀ b ∈ fp1, LE ≤ b)) (fun i _ => nd - (intOf i).toNat)
      case atStart => exact ⟨0, _, [LE], Nat.zero_le _, rfl, Fr.refl _ _ _, XO3.out, ML3.out, by simp⟩
      case round =>
        obtain ⟨j, v1, fp1, hj, rfl, fr, xo, hm, hfp⟩ := hrel
        have hs := fr.size
        have xm := fr.box XM3.out (by omega) (by omega)
        have hb := HB3.out.trans (fr.below (M := w.heap.size) (by omega) (by omega))
        have c9 : wr.cell? ⟨w.heap.size, 9, none⟩ = some (.slice ad nd cd) := xm.cell 9
        by_cases hjn : j < nd
        · rcases pairs_at rfl h1 with h0' | ⟨b, off, rfl, hbl, hcs⟩
          · omega
          have hdj : ds[j]? = some (ds[j]'(by omega)) := List.getElem?_eq_getElem (by omega)
          have htk : ds.take (j + 1) = ds.take j ++ [ds[j]'(by omega)] := List.take_succ_eq_append_getElem (by omega)
          generalize ds[j]'(by omega) = d at hdj htk
          have hil := inner_le' hdj
          obtain ⟨u0, u1, hv0, hv1, hrv⟩ := hcs j d hdj
          obtain ⟨rfl, hrv'⟩ := wr_rd hrv
          obtain ⟨av, cv, rfl⟩ := row_shape hrv'
          have pv0 := (hb.cell (p := ⟨b, off + j * 2, none⟩) hbl).trans hv0
          have pv1 := (hb.cell (p := ⟨b, off + j * 2 + 1, none⟩) hbl).trans hv1
          obtain ⟨x0, x1⟩ := d
          simp only at pv0 pv1 hrv' hil
          have HX := hidden (hrv'.below hb)
          have k1 : (0 : Int) ≤ (j : Int) := by omega
          have k2 : (j : Int) < (nd : Int) := by omega
          have HTK := hidden htk
          have XO := hidden xo
          have XMR := hidden xm
          have FRR := hidden fr
          have HM := hidden hm
          have HFP := hidden hfp
          have HL : Hid ((ds.take j).length = j) := by unfold Hid; rw [List.length_take]; omega
          have L1 : Hid ((ds.take j).length + 1 ≤ maxLen) := by unfold Hid; rw [HL.out]; unfold maxLen; omega
          have L2 : Hid (((ds.take j).length + 1) * 32 ≤ 140737488355328) := by unfold Hid; rw [HL.out]; omega
          have mk : Hid (∀ w', Box w' BO 29 #[.int .i64 x.id, .int .i64 x.n, .int .i64 x.s, .slice eM nm gM, .int .i64 x.lost, .int .i64 x.built, .int .i64 x.seq, .int .i64 x.tail, .int .i64 x.gen, v1, .int .i64 x.fuse, .bool x.down, .bool x.broken] → Box w' w.heap.size 29 #[.int .i64 x.id, .int .i64 x.n, .int .i64 x.s, .slice am nm cm, .int .i64 x.lost, .int .i64 x.built, .int .i64 x.seq, .int .i64 x.tail, .int .i64 x.gen, .slice (some ⟨b, off, none⟩) nd cd, .int .i64 x.fuse, .bool x.down, .bool x.broken] → w'.heap[b]? = wr.heap[b]? → w'.cell? ⟨BO, 9, none⟩ = some (v1) ∧ w'.cell? ⟨w.heap.size, 9, none⟩ = some (.slice (some ⟨b, off, none⟩) nd cd) ∧ w'.cell? ⟨b, off + j * 2, none⟩ = some (.int .i64 x0) ∧ w'.cell? ⟨b, off + j * 2 + 1, none⟩ = some (.slice av x1.length cv)) := fun w' h1 h2 h3 => ⟨h1.cell 9, h2.cell 9, (World.cell?_of_block (w := wr) h3).trans pv0, (World.cell?_of_block (w := wr) h3).trans pv1⟩
          have bA := new_below wr (.cells #[] 3)
          have hS : wr.drew.cell? ⟨BO, 9, none⟩ = some (v1) ∧ wr.drew.cell? ⟨w.heap.size, 9, none⟩ = some (.slice (some ⟨b, off, none⟩) nd cd) ∧ wr.drew.cell? ⟨b, off + j * 2, none⟩ = some (.int .i64 x0) ∧ wr.drew.cell? ⟨b, off + j * 2 + 1, none⟩ = some (.slice av x1.length cv) := mk.out wr.drew xo xm rfl
          have zb : b < wr.heap.size := by have := hb.size; omega
          have zLE : LE < wr.heap.size := by omega
          have hS2 : (wr.alloc (.cells #[] 3)).drew.cell? ⟨BO, 9, none⟩ = some (v1) ∧ (wr.alloc (.cells #[] 3)).drew.cell? ⟨w.heap.size, 9, none⟩ = some (.slice (some ⟨b, off, none⟩) nd cd) ∧ (wr.alloc (.cells #[] 3)).drew.cell? ⟨b, off + j * 2, none⟩ = some (.int .i64 x0) ∧ (wr.alloc (.cells #[] 3)).drew.cell? ⟨b, off + j * 2 + 1, none⟩ = some (.slice av x1.length cv) := mk.out (wr.alloc (.cells #[] 3)).drew (xo.alloc _) (xm.alloc _) (bA.block b zb)
          have HG : Hid ((wr.alloc (.cells #[] 3)).drew.heap[wr.heap.size]? = some (.cells #[] 3 (0, 0))) := Box.new wr 3 #[]
          have RD : Hid (tIntS.Rd (wr.alloc (.cells #[] 3)).drew [.slice av x1.length cv] x1) := (HX.out.below bA).drew
          have BA := hidden bA
          clear hcs hdj hv0 hv1 hrv hrv' htk xo xm hm hfp hb fr pv0 pv1 bA
          go_wp2_with fail
          refine Upto.start (S := fun w' => w'.cell? ⟨BO, 9, none⟩ = some (v1) ∧ w'.cell? ⟨w.heap.size, 9, none⟩ = some (.slice (some ⟨b, off, none⟩) nd cd) ∧ w'.cell? ⟨b, off + j * 2, none⟩ = some (.int .i64 x0) ∧ w'.cell? ⟨b, off + j * 2 + 1, none⟩ = some (.slice av x1.length cv)) (k := 20) (by kernel_rfl) ?_
          refine Upto.t 0 hS ?_
          refine Upto.t 1 hS ?_
          refine Upto.t 2 hS ?_
          refine Upto.t 3 hS ?_
          refine Upto.t 4 hS ?_
          refine Upto.t 5 hS ?_
          refine Upto.t 6 hS ?_
          refine Upto.t 7 hS ?_
          refine Upto.t 9 hS ?_
          refine Upto.t 10 hS ?_
          refine Upto.t 11 hS ?_
          refine Upto.t 12 hS ?_
          refine Upto.t 13 hS ?_
          refine Upto.t 14 hS ?_
          refine Upto.one (i := 8) (by kernel_rfl) rfl (fun K hK => ?_)
          go_simp
          refine hK.out _ _ (fun _ => hS2) ?_
          clear hK K
          refine Upto.one (i := 15) (by kernel_rfl) rfl (fun K hK => ?_)
          refine step_copy (by rfl) _ _ 36 (by rfl) i3 Tryz.underlying36 hi3 hx0 hx1 hx2 wr.heap.size (by rfl) HG.out av x1.length cv x1 (by rfl) RD.out (by omega) ?_
          intro ac cc wc fpx mx rx tx
          have tx' : Turned [wr.heap.size] (wr.alloc (.cells #[] 3)) wc := Turned.undrew tx
          have zA : (wr.alloc (.cells #[] 3)).heap.size = wr.heap.size + 1 := by simp
          have zd : (wr.alloc (.cells #[] 3)).drew.heap.size = (wr.alloc (.cells #[] 3)).heap.size := rfl
          have hbc' : Below wr.heap.size wr wc := BA.out.trans (tx'.below (N := wr.heap.size) (by omega) (by simp))
          have xoc := XO.out.below hbc' (by omega)
          have xmc := XMR.out.below hbc' (by omega)
          have hS3 : wc.cell? ⟨BO, 9, none⟩ = some (v1) ∧ wc.cell? ⟨w.heap.size, 9, none⟩ = some (.slice (some ⟨b, off, none⟩) nd cd) ∧ wc.cell? ⟨b, off + j * 2, none⟩ = some (.int .i64 x0) ∧ wc.cell? ⟨b, off + j * 2 + 1, none⟩ = some (.slice av x1.length cv) := mk.out wc xoc xmc (hbc'.block b zb)
          have bB := new_below wc (.cells #[.int .i64 x0, .slice ac x1.length cc] 162)
          have zc := hbc'.size
          have hS4 : (wc.alloc (.cells #[.int .i64 x0, .slice ac x1.length cc] 162)).cell? ⟨BO, 9, none⟩ = some (v1) ∧ (wc.alloc (.cells #[.int .i64 x0, .slice ac x1.length cc] 162)).cell? ⟨w.heap.size, 9, none⟩ = some (.slice (some ⟨b, off, none⟩) nd cd) ∧ (wc.alloc (.cells #[.int .i64 x0, .slice ac x1.length cc] 162)).cell? ⟨b, off + j * 2, none⟩ = some (.int .i64 x0) ∧ (wc.alloc (.cells #[.int .i64 x0, .slice ac x1.length cc] 162)).cell? ⟨b, off + j * 2 + 1, none⟩ = some (.slice av x1.length cv) := mk.out _ (xoc.alloc _) (xmc.alloc _) ((bB.block b (by omega)).trans (hbc'.block b zb))
          have RX : Hid (∀ b ∈ fpx, wr.heap.size ≤ b ∧ b < wc.heap.size) := fun b hb => by have := rx b hb; omega
          have XOC := hidden xoc
          have XMC := hidden xmc
          have MX := hidden mx
          have HBC := hidden hbc'
          clear xoc xmc mx rx tx tx' hbc' bB zA zd
          refine hK.out _ _ (fun _ => hS3) ?_
          clear hK K
          simp only [Act.put, List.setIfInBounds_toArray, List.set_cons_zero, List.set_cons_succ]
          refine Upto.t 16 hS3 ?_
          refine Upto.one (i := 17) (by kernel_rfl) rfl (fun K hK => ?_)
          go_simp
          refine hK.out _ _ (fun _ => hS4) ?_
          clear hK K
          refine Upto.one (i := 18) (by kernel_rfl) rfl (fun K hK => ?_)
          refine step_appT tWr (by rfl) _ _ 27 (by rfl) 162 i1 (.agg #[.int .i64 0, .slice none 0 0]) 32 Tryz.underlying27 hi1 hy0 hy1 hy2 rfl Nat.zero_lt_two v1 (ds.take j) fp1 (by rfl) ?_ ⟨wc.heap.size, 0, none⟩ 1 [.int .i64 x0, .slice ac x1.length cc] (x0, x1) fpx (by rfl) ?_ ?_ ?_ ?_ L1.out L2.out ?_
          · exact (HM.out.below HBC.out).alloc _
          · exact (wr_mine x0 MX.out).alloc _
          · intro b hb hb'
            have h1 := HM.out.lt b hb
            have h2 := RX.out b hb'
            omega
          · exact news_new _ _ _
          · intro u hu
            simp at hu
            rcases hu with hu | hu <;> (rw [hu]; rfl)
          intro g cap wA fpA m1 m2 m3
          rw [HL.out] at m1 ⊢
          rw [← HTK.out] at m1
          have ya := (XOC.out.alloc (.cells #[.int .i64 x0, .slice ac x1.length cc] 162)).turned m3 (fun hm => by have := HFP.out _ hm; omega)
          have ym := (XMC.out.alloc (.cells #[.int .i64 x0, .slice ac x1.length cc] 162)).turned m3 (fun hm => by have := HFP.out _ hm; omega)
          have zB : (wc.alloc (.cells #[.int .i64 x0, .slice ac x1.length cc] 162)).heap.size = wc.heap.size + 1 := by simp
          have zBb : b < (wc.alloc (.cells #[.int .i64 x0, .slice ac x1.length cc] 162)).heap.size := by omega
          have hS5 : wA.cell? ⟨BO, 9, none⟩ = some (v1) ∧ wA.cell? ⟨w.heap.size, 9, none⟩ = some (.slice (some ⟨b, off, none⟩) nd cd) ∧ wA.cell? ⟨b, off + j * 2, none⟩ = some (.int .i64 x0) ∧ wA.cell? ⟨b, off + j * 2 + 1, none⟩ = some (.slice av x1.length cv) := mk.out wA ya ym ((m3.block b zBb (fun hm => by have := HFP.out _ hm; omega)).trans (((new_below wc (.cells #[.int .i64 x0, .slice ac x1.length cc] 162)).block b (by omega)).trans (HBC.out.block b zb)))
          have r0 := hS5.1
          have fz := ya.frozen 9
          have YA := hidden ya
          have M1 := hidden m1
          have M2 := hidden m2
          have M3 := hidden m3
          clear ya ym m1 m2 m3 zB zBb
          refine hK.out _ _ (fun _ => hS5) ?_
          clear hK K
          simp only [Act.put, List.setIfInBounds_toArray, List.set_cons_zero, List.set_cons_succ]
          refine Upto.t 19 hS5 ?_
          refine Upto.one (i := 20) (by kernel_rfl) rfl (fun K hK => ?_)
          go_simp
          refine hK.out _ _ (fun h => absurd rfl h) ?_
          clear hK K
          refine Upto.done (by kernel_rfl) ?_ _
          have HFA := hidden (round_fp (N := LE) (by omega) HBC.out HFP.out RX.out M2.out)
          have FRA := hidden (Fr.round FRR.out (by omega) HBC.out _ M3.out HFP.out 9 (.slice (some ⟨g, 0, none⟩) (j + 1) cap))
          have MA := hidden (M1.out.setCell (g := BO) (j := 9) (fun hm => by have := HFA.out _ hm; omega) (.slice (some ⟨g, 0, none⟩) (j + 1) cap))
          have YA' := hidden (YA.out.set 9 (.slice (some ⟨g, 0, none⟩) (j + 1) cap))
          clear hS hS2 hS3 hS4 hS5 BA HG RD HX r0 YA M1 M2 M3 XOC MX RX HBC HFP HM FRR XO XMR XMC mk
          go_wp2
          go_roundw
          case rel => exact ⟨j + 1, _, fpA, by omega, by go_num, FRA.out, YA'.out, MA.out, HFA.out⟩
          case measure => simp [intOf]; omega
        · have ej : nd = j := by omega
          subst ej
          rw [List.take_of_length_le (by omega)] at hm
          have hlt := hm.lt
          obtain ⟨eD, gD, hvD⟩ := row_shape hm.rd
          rw [hl1] at hvD
          subst hvD
          have K1 := hm.own (lo := LE) (hi := wr.heap.size) (fun b hb => ⟨hfp b hb, hlt b hb⟩)
          have K0 := fr.own KM3.out (Nat.le_refl _) (.inr (by omega))
          have xr := fr.box XR3.out (by omega) (by omega)
          have hbt := puts_but BR [(0, .int .i64 x.id), (1, .int .i64 x.n), (2, .int .i64 x.s), (3, .slice eM nm gM), (4, .int .i64 x.lost), (5, .int .i64 x.built), (6, .int .i64 x.seq), (7, .int .i64 x.tail), (8, .int .i64 x.gen), (9, .slice eD nd gD), (10, .int .i64 x.fuse), (11, .bool x.down), (12, .bool x.broken)] wr
          have H0 := K0.but hbt (.inr (by omega))
          have H1 := K1.but hbt (.inr (by omega))
          have HBB := Below.andBut hb hbt (by omega)
          have hsz := hbt.size
          have H0w := hidden (H0.widen (lo' := w.heap.size) (hi' := LE) (by omega) (Nat.le_refl _))
          have H1w := hidden (H1.widen (lo' := LE) (Nat.le_refl _) hsz)
          have HBw := hidden HBB
          have HSZ : Hid (LE ≤ (puts wr BR [(0, .int .i64 x.id), (1, .int .i64 x.n), (2, .int .i64 x.s), (3, .slice eM nm gM), (4, .int .i64 x.lost), (5, .int .i64 x.built), (6, .int .i64 x.seq), (7, .int .i64 x.tail), (8, .int .i64 x.gen), (9, .slice eD nd gD), (10, .int .i64 x.fuse), (11, .bool x.down), (12, .bool x.broken)]).heap.size) := by unfold Hid; omega
          simp only [puts] at H0w H1w HBw HSZ
          obtain ⟨p0, p1, p2, p3, p4, p5, p6, p7, p8, p9, p10, p11, p12⟩ := xr.cells13
          have fz := xr.frozen
          obtain ⟨r0, r1, r2, r3, r4, r5, r6, r7, r8, r9, r10, r11, r12⟩ := xo.cells13
          have hLw : w.heap.size ≤ LE := by omega
          clear fr xo xm hb hm hfp hlt xr K0 K1 hbt H0 H1 HBB hsz hj hs
          go_wp2
          refine bodyPost_ret (v := .agg #[.int .i64 x.id, .int .i64 x.n, .int .i64 x.s, .slice eM nm gM, .int .i64 x.lost, .int .i64 x.built, .int .i64 x.seq, .int .i64 x.tail, .int .i64 x.gen, .slice eD nd gD, .int .i64 x.fuse, .bool x.down, .bool x.broken]) (by simp [results, Tryz.results126, go_sem, p0, p1, p2, p3, p4, p5, p6, p7, p8, p9, p10, p11, p12]) rfl ?_
          exact ⟨_, _, _, _, LE, rfl, H0w.out, H1w.out, hLw, HSZ.out, HBw.out⟩

end Go.Proofs.YtbkkjfgjlapadaaGreat

/-
  The walk of the specification's l15Copy: the same engine in memory of its own. Condition: it weighs at most 2097152.
-/
namespace Go.Proofs.YtbkkjfgjlapadaaGreat
open Go.RowKit

set_option maxRecDepth 20000 in
set_option maxHeartbeats 12800000 in
theorem l15Copy_any (w : World) (cs : Array Value) (e : EngD) (h : EngRd w cs e) (hw : wtEng e ≤ 2097152) :
    Calls Tryz.prog 50 #[.agg cs] w fun e' w' => ∃ cs', e' = .returned (.agg cs') ∧ EngOwn w' w.heap.size w'.heap.size cs' e ∧ Below w.heap.size w w' := by
  obtain ⟨x, ms, ds, ws, js, an, ts⟩ := e
  obtain ⟨am, cm, ad, cd, aw, cw, aj, cj, aa, ca, au, cu, rfl, r0, r1, r2, r3, r4, r5⟩ := h.parts
  unfold engC
  have HT : wtArr ms ds + wttCmdS ws + wttJobS js + wttAnsS an + wttTurnS ts ≤ 2097152 := hw
  clear hw
  obtain ⟨i3, hi3, hx0, hx1, hx2⟩ := info_parts Tryz.info3
  go_enter Tryz.func50, Tryz.ntmps50
  go_upto_region 1 with fail
  refine seal_new2C ?_
  intro V A R B
  have lA := A.lt
  have lR := R.lt
  obtain ⟨k0, k1, k2, k3, k4, k5, k6, k7, k8, k9, k10, k11, k12, k13, k14, k15, k16⟩ := A.cells17
  go_wp2_with fail
  clear k0 k1 k2 k3 k4 k5 k6 k7 k8 k9 k10 k11 k12 k13 k14 k15 k16
  refine (l6Copy_any _ _ _ _ x _ _ _ _ _ _ ms ds (r0.below B) (r1.below B) (by omega)).mono ?_
  rintro e w1 ⟨bm, dm, bd, dd, m, rfl, ym, yd, ya, yb, b1⟩
  have A := A.below b1 lA
  have R := R.below b1 lR
  have B := Below.andThen B b1
  have z1 := b1.size
  clear b1
  go_wp2_with (first | (refine wpList_store_new rfl _ _ _ rfl rfl rfl rfl Tryz.sizeEng (by rfl) ?_; intro U O bU) | fail)
  have A := A.below bU A.lt
  have R := R.below bU R.lt
  have B := Below.andThen B bU
  have ym := ym.below bU
  have yd := yd.below bU
  have lO := O.lt
  have lR := R.lt
  clear bU lA
  obtain ⟨i0, hi, hz0, hz1, hz2⟩ := info_parts Tryz.infoCmd14
  go_loopw [4] (fun i wr => ∃ (j : Nat) (v : Value) (fq : List Nat), j ≤ ws.length ∧ i = .int .i64 j ∧ Fr U.heap.size w1.heap.size U wr ∧ Box wr w1.heap.size 35 #[.int .i64 x.id, .int .i64 x.n, .int .i64 x.s, .slice bm ms.length dm, .int .i64 x.lost, .int .i64 x.built, .int .i64 x.seq, .int .i64 x.tail, .int .i64 x.gen, .slice bd ds.length dd, .int .i64 x.fuse, .bool x.down, .bool x.broken, v, .slice none 0 0, .slice none 0 0, .slice none 0 0] ∧ (tCmdS 38).Mine wr [v] (ws.take j) fq ∧ (∀ b ∈ fq, U.heap.size ≤ b)) (fun i _ => ws.length - (intOf i).toNat)
  case atStart => exact ⟨0, _, [], Nat.zero_le _, rfl, Fr.refl _ _ _, O, nil_mine _, by simp⟩
  case round =>
    obtain ⟨j, v, fq, hj, rfl, fr, xo, hm, hq⟩ := hrel
    have zr := fr.size
    have xa := fr.box A (by omega) (by omega)
    have hb := B.trans (fr.below (M := w.heap.size) (by omega) (by omega))
    have lx := xa.lt
    have lo := xo.lt
    have k13 : wr.cell? ⟨w.heap.size, 13, none⟩ = some (.slice aw ws.length cw) := xa.cell 13
    by_cases hjn : j < ws.length
    · rcases cmdS_at r2 with h0' | ⟨b, off, rfl, hbl, hcs⟩
      · omega
      obtain ⟨o, d1, b1, k, zs, hdj⟩ : ∃ o d1 b1 k zs, ws[j]? = some (o, d1, b1, k, zs) := ⟨_, _, _, _, _, List.getElem?_eq_getElem (by omega)⟩
      have hin := cmd_inner hdj
      have htk : ws.take (j + 1) = ws.take j ++ [(o, d1, b1, k, zs)] := by rw [List.take_add_one, hdj]; rfl
      have HTK := hidden htk
      have hdl : (ws.take j).length = j := by rw [List.length_take]; omega
      have hwn : ws.length ≤ 2097152 := by unfold wttCmdS at HT; omega
      obtain ⟨av0, cv0, hd0, hd1, hd2, hd3, hd4, hr0⟩ := hcs j o d1 b1 k zs hdj
      have hc0 := (hb.cell (p := ⟨b, off + j * 5, none⟩) hbl).trans hd0
      have hc1 := (hb.cell (p := ⟨b, off + j * 5 + 1, none⟩) hbl).trans hd1
      have hc2 := (hb.cell (p := ⟨b, off + j * 5 + 2, none⟩) hbl).trans hd2
      have hc3 := (hb.cell (p := ⟨b, off + j * 5 + 3, none⟩) hbl).trans hd3
      have hc4 := (hb.cell (p := ⟨b, off + j * 5 + 4, none⟩) hbl).trans hd4
      have hr0 := hr0.below hb
      have hbw : b < wr.heap.size := by omega
      clear hd0 hd1 hd2 hd3 hd4
      have hwl0 : zs.length ≤ 2097152 := by unfold wttCmdS at HT; simp only at hin; omega
      clear htk hin hcs hdj
      have tj1 : (j : Int) < (ws.length : Int) := by omega
      have tj2 : (0 : Int) ≤ (j : Int) := by omega
      generalize ws.take j = L at hm HTK hdl
      have HM := hidden hm
      have HB := hidden hb
      have HQ := hidden hq
      have HF := hidden fr
      clear hm hb hq fr
      have o13 := xo.cell 13
      go_wp2_with fail
      refine Late.start (S := fun w' => (∀ q, w'.cell? ⟨w1.heap.size, q, none⟩ = wr.cell? ⟨w1.heap.size, q, none⟩) ∧ (∀ q, w'.cell? ⟨w.heap.size, q, none⟩ = wr.cell? ⟨w.heap.size, q, none⟩) ∧ (∀ q, w'.cell? ⟨b, q, none⟩ = wr.cell? ⟨b, q, none⟩)) (k := 11) (by kernel_rfl) ?_
      have hS : (∀ q, wr.drew.cell? ⟨w1.heap.size, q, none⟩ = wr.cell? ⟨w1.heap.size, q, none⟩) ∧ (∀ q, wr.drew.cell? ⟨w.heap.size, q, none⟩ = wr.cell? ⟨w.heap.size, q, none⟩) ∧ (∀ q, wr.drew.cell? ⟨b, q, none⟩ = wr.cell? ⟨b, q, none⟩) := ⟨fun _ => rfl, fun _ => rfl, fun _ => rfl⟩
      refine Late.take (i := 0) (v := ?_) rfl (by kernel_rfl) (by kernel_rfl) (by kernel_rfl) (by kernel_rfl) (fun _ _ _ h => h) (Or.inl ⟨by rfl, ?_⟩) hS ?_
      rotate_left 1
      · (intro w hSw; (try dsimp only at hSw); go_split_ands; go_simp; first | done | with_reducible rfl)
      simp only [Act.put, List.setIfInBounds_toArray, List.set_cons_zero, List.set_cons_succ]
      refine Late.take (i := 1) (v := ?_) rfl (by kernel_rfl) (by kernel_rfl) (by kernel_rfl) (by kernel_rfl) (fun _ _ _ h => h) (Or.inl ⟨by rfl, ?_⟩) hS ?_
      rotate_left 1
      · (intro w hSw; (try dsimp only at hSw); go_split_ands; go_simp; first | done | with_reducible rfl)
      simp only [Act.put, List.setIfInBounds_toArray, List.set_cons_zero, List.set_cons_succ]
      refine Late.take (i := 2) (v := ?_) rfl (by kernel_rfl) (by kernel_rfl) (by kernel_rfl) (by kernel_rfl) (fun _ _ _ h => h) (Or.inl ⟨by rfl, ?_⟩) hS ?_
      rotate_left 1
      · (intro w hSw; (try dsimp only at hSw); go_split_ands; go_simp; first | done | with_reducible rfl)
      simp only [Act.put, List.setIfInBounds_toArray, List.set_cons_zero, List.set_cons_succ]
      refine Late.take (i := 3) (v := ?_) rfl (by kernel_rfl) (by kernel_rfl) (by kernel_rfl) (by kernel_rfl) (fun _ _ _ h => h) (Or.inl ⟨by rfl, ?_⟩) hS ?_
      rotate_left 1
      · (intro w hSw; (try dsimp only at hSw); go_split_ands; go_simp; first | done | with_reducible rfl)
      simp only [Act.put, List.setIfInBounds_toArray, List.set_cons_zero, List.set_cons_succ]
      refine Late.take (i := 4) (v := ?_) rfl (by kernel_rfl) (by kernel_rfl) (by kernel_rfl) (by kernel_rfl) (fun _ _ _ h => h) (Or.inl ⟨by rfl, ?_⟩) hS ?_
      rotate_left 1
      · (intro w hSw; (try dsimp only at hSw); go_split_ands; go_simp; first | done | with_reducible rfl)
      simp only [Act.put, List.setIfInBounds_toArray, List.set_cons_zero, List.set_cons_succ]
      refine Late.take (i := 5) (v := ?_) rfl (by kernel_rfl) (by kernel_rfl) (by kernel_rfl) (by kernel_rfl) (fun _ _ _ h => h) (Or.inl ⟨by rfl, ?_⟩) hS ?_
      rotate_left 1
      · (intro w hSw; (try dsimp only at hSw); go_split_ands; go_simp; first | done | with_reducible rfl)
      simp only [Act.put, List.setIfInBounds_toArray, List.set_cons_zero, List.set_cons_succ]
      refine Late.take (i := 6) (v := ?_) rfl (by kernel_rfl) (by kernel_rfl) (by kernel_rfl) (by kernel_rfl) (fun _ _ _ h => h) (Or.inl ⟨by rfl, ?_⟩) hS ?_
      rotate_left 1
      · (intro w hSw; (try dsimp only at hSw); go_split_ands; go_simp; first | done | with_reducible rfl)
      simp only [Act.put, List.setIfInBounds_toArray, List.set_cons_zero, List.set_cons_succ]
      refine Late.one (i := 7) (by kernel_rfl) rfl (fun K hK => ?_)
      rw [if_pos (by kernel_rfl)]
      go_simp
      refine (l13Copy_any _ o d1 b1 k _ _ zs hr0.drew (by omega)).mono ?_
      rintro e4 w4 ⟨u0, e0, rfl, y0, b4⟩
      have q4 : Below wr.heap.size wr w4 := (Below.refl wr.heap.size wr).drew.trans b4
      have y0 : tCmd.Own w4 wr.heap.size w4.heap.size _ _ := y0
      have z4 := q4.size
      have hSX : (∀ q, w4.cell? ⟨w1.heap.size, q, none⟩ = wr.cell? ⟨w1.heap.size, q, none⟩) ∧ (∀ q, w4.cell? ⟨w.heap.size, q, none⟩ = wr.cell? ⟨w.heap.size, q, none⟩) ∧ (∀ q, w4.cell? ⟨b, q, none⟩ = wr.cell? ⟨b, q, none⟩) := ⟨fun q => q4.cell (p := ⟨w1.heap.size, q, none⟩) lo, fun q => q4.cell (p := ⟨w.heap.size, q, none⟩) lx, fun q => q4.cell (p := ⟨b, q, none⟩) hbw⟩
      clear hS b4
      go_wp2_with fail
      refine hK.out _ _ (fun _ => hSX) ?_
      clear hK K
      obtain ⟨fv, mE, rE⟩ := y0.mine
      have rE : ∀ y ∈ fv, wr.heap.size ≤ y := fun y hy => (rE y hy).1
      clear y0
      have zX := q4.size
      have nb := new_below w4 (.cells #[.int .i64 o, .int .i64 d1, .int .i64 b1, .int .i64 k, .slice u0 zs.length e0] 38)
      have n1 : (w4.alloc (.cells #[.int .i64 o, .int .i64 d1, .int .i64 b1, .int .i64 k, .slice u0 zs.length e0] 38)).heap.size = w4.heap.size + 1 := by simp
      have qN := Below.andThen q4 nb
      have hSN : (∀ q, (w4.alloc (.cells #[.int .i64 o, .int .i64 d1, .int .i64 b1, .int .i64 k, .slice u0 zs.length e0] 38)).cell? ⟨w1.heap.size, q, none⟩ = wr.cell? ⟨w1.heap.size, q, none⟩) ∧ (∀ q, (w4.alloc (.cells #[.int .i64 o, .int .i64 d1, .int .i64 b1, .int .i64 k, .slice u0 zs.length e0] 38)).cell? ⟨w.heap.size, q, none⟩ = wr.cell? ⟨w.heap.size, q, none⟩) ∧ (∀ q, (w4.alloc (.cells #[.int .i64 o, .int .i64 d1, .int .i64 b1, .int .i64 k, .slice u0 zs.length e0] 38)).cell? ⟨b, q, none⟩ = wr.cell? ⟨b, q, none⟩) := ⟨fun q => qN.cell (p := ⟨w1.heap.size, q, none⟩) lo, fun q => qN.cell (p := ⟨w.heap.size, q, none⟩) lx, fun q => qN.cell (p := ⟨b, q, none⟩) hbw⟩
      refine Late.one (i := 8) (by kernel_rfl) rfl (fun K hK => ?_)
      rw [if_pos (by kernel_rfl)]
      go_wp2_with fail
      refine hK.out _ _ (fun _ => hSN) ?_
      clear hK K hSX
      have qW := q4
      have qWN := qN
      have M5 := HM.out.below qWN
      have xo5 := xo.below qWN lo
      have mE := mE.below nb
      have lq : ∀ y ∈ fq, y < wr.heap.size := HM.out.lt
      have hdis : ∀ y ∈ fq, y ∉ fv := fun y hy hy' => by have := lq y hy; have := rE y hy'; omega
      refine Late.one (i := 9) (by kernel_rfl) rfl (fun K hK => ?_)
      refine step_appT tCmd (by rfl) _ _ 30 (by rfl) 38 i0 (.agg #[.int .i64 0, .int .i64 0, .int .i64 0, .int .i64 0, .slice none 0 0]) 56 Tryz.underlying30 hi hz0 hz1 hz2 rfl (by decide) v L fq (by rfl) M5 ⟨w4.heap.size, 0, none⟩ 1 [.int .i64 o, .int .i64 d1, .int .i64 b1, .int .i64 k, .slice u0 zs.length e0] (o, d1, b1, k, zs) (fv) (by rfl) mE hdis (news_new w4 #[.int .i64 o, .int .i64 d1, .int .i64 b1, .int .i64 k, .slice u0 zs.length e0] _) (by intro u hu; simp at hu; rcases hu with rfl | rfl | rfl | rfl | rfl <;> rfl) (by unfold maxLen; omega) (by omega) ?_
      intro g cp wZ frZ mZ sZ tZ
      rw [hdl] at mZ
      have zZ := tZ.size
      have nB0 : w1.heap.size ∉ fq := fun hy => by have := HQ.out _ hy; omega
      have nB1 : w.heap.size ∉ fq := fun hy => by have := HQ.out _ hy; omega
      have nB2 : b ∉ fq := fun hy => by have := HQ.out _ hy; omega
      have hSZ : (∀ q, wZ.cell? ⟨w1.heap.size, q, none⟩ = wr.cell? ⟨w1.heap.size, q, none⟩) ∧ (∀ q, wZ.cell? ⟨w.heap.size, q, none⟩ = wr.cell? ⟨w.heap.size, q, none⟩) ∧ (∀ q, wZ.cell? ⟨b, q, none⟩ = wr.cell? ⟨b, q, none⟩) := ⟨fun q => (World.cell?_of_block (tZ.block w1.heap.size (by omega) nB0)).trans (hSN.1 q), fun q => (World.cell?_of_block (tZ.block w.heap.size (by omega) nB1)).trans (hSN.2.1 q), fun q => (World.cell?_of_block (tZ.block b (by omega) nB2)).trans (hSN.2.2 q)⟩
      refine hK.out _ _ (fun _ => hSZ) ?_
      clear hK K hSN
      have XO := xo5.turned tZ nB0
      have nq : ∀ y ∈ frZ, y ∈ fq ∨ wr.heap.size ≤ y := fun y hy => by
        rcases sZ y hy with l | l | l
        · exact .inl l
        · have := rE y l; exact .inr (by omega)
        · exact .inr (by omega)
      have n6 : w1.heap.size ∉ frZ := fun hy => by
        rcases nq _ hy with l | l
        · exact nB0 l
        · omega
      have M7 := hidden (mZ.setCell (j := 13) n6 (.slice (some ⟨g, 0, none⟩) (j + 1) cp))
      have F7 := hidden (Fr.round HF.out zr qW _ tZ (fun y hy => HQ.out y hy) 13 (.slice (some ⟨g, 0, none⟩) (j + 1) cp))
      have E : BoxAt wZ _ w1.heap.size 35 [.int .i64 x.id, .int .i64 x.n, .int .i64 x.s, .slice bm ms.length dm, .int .i64 x.lost, .int .i64 x.built, .int .i64 x.seq, .int .i64 x.tail, .int .i64 x.gen, .slice bd ds.length dd, .int .i64 x.fuse, .bool x.down, .bool x.broken, .slice (some ⟨g, 0, none⟩) (j + 1) cp, .slice none 0 0, .slice none 0 0, .slice none 0 0] := XO.at.set 13 (.slice (some ⟨g, 0, none⟩) (j + 1) cp)
      have X7 := hidden E.box
      have Q7 : Hid (∀ y ∈ frZ, U.heap.size ≤ y) := fun y hy => by
        rcases nq y hy with l | l
        · exact HQ.out y l
        · omega
      have l6 := XO.lt
      have c13 := XO.cell 13
      have fz := XO.frozen 13
      clear E mZ sZ tZ nq n6 rE mE hdis lq nB0 nB1 nB2 XO xo5 M5 nb qN qW qWN zX n1
      refine Late.one (i := 10) (by kernel_rfl) rfl (fun K hK => ?_)
      rw [if_pos (by kernel_rfl)]
      go_wp2_with fail
      refine hK.out _ _ (fun _ => hSZ) ?_
      clear hK K hSZ
      refine Late.one (i := 11) (by kernel_rfl) rfl (fun K hK => ?_)
      rw [if_pos (by kernel_rfl)]
      go_wp2_with fail
      refine hK.out _ _ (fun h => absurd rfl h) ?_
      clear hK K
      refine Late.done (by kernel_rfl) ?_ _
      clear c13 fz
      go_wp2
      go_roundw
      case rel => exact ⟨j + 1, _, frZ, by omega, by go_num, F7.out, X7.out, by rw [HTK.out]; exact M7.out, Q7.out⟩
      case measure => simp [intOf]; omega
    · obtain rfl : j = ws.length := by omega
      rw [List.take_length] at hm
      have yws : (tCmdS 38).Own wr U.heap.size wr.heap.size [v] ws := hm.own (fun y hy => ⟨hq y hy, hm.lt y hy⟩)
      have ym := fr.own ym (by omega) (by omega)
      have yd := fr.own yd (by omega) (by omega)
      obtain ⟨bw, dw, rfl⟩ := row_shape yws.rd
      have R := fr.box R (by omega) (by omega)
      have A := xa
      have B := hb
      have O := xo
      have zU2 := fr.size
      have lU2 := lx
      have lO2 := lo
      have lR := R.lt
      clear hm hq fr xa hb xo hjn i0 hi hz0 hz1 hz2 zr lx lo
      obtain ⟨U2, hU2⟩ : ∃ U2, U2 = wr := ⟨_, rfl⟩
      subst hU2
      go_wp2_with fail
      clear k13
      obtain ⟨i0, hi, hz0, hz1, hz2⟩ := info_parts Tryz.infoJob15
      go_loopw [5] (fun i wr => ∃ (j : Nat) (v : Value) (fq : List Nat), j ≤ js.length ∧ i = .int .i64 j ∧ Fr U2.heap.size w1.heap.size U2 wr ∧ Box wr w1.heap.size 35 #[.int .i64 x.id, .int .i64 x.n, .int .i64 x.s, .slice bm ms.length dm, .int .i64 x.lost, .int .i64 x.built, .int .i64 x.seq, .int .i64 x.tail, .int .i64 x.gen, .slice bd ds.length dd, .int .i64 x.fuse, .bool x.down, .bool x.broken, .slice bw ws.length dw, v, .slice none 0 0, .slice none 0 0] ∧ (tJobS 92).Mine wr [v] (js.take j) fq ∧ (∀ b ∈ fq, U2.heap.size ≤ b)) (fun i _ => js.length - (intOf i).toNat)
      case atStart => exact ⟨0, _, [], Nat.zero_le _, rfl, Fr.refl _ _ _, O, nil_mine _, by simp⟩
      case round =>
        obtain ⟨j, v, fq, hj, rfl, fr, xo, hm, hq⟩ := hrel
        have zr := fr.size
        have xa := fr.box A (by omega) (by omega)
        have hb := B.trans (fr.below (M := w.heap.size) (by omega) (by omega))
        have lx := xa.lt
        have lo := xo.lt
        have k14 : wr.cell? ⟨w.heap.size, 14, none⟩ = some (.slice aj js.length cj) := xa.cell 14
        by_cases hjn : j < js.length
        · rcases jobS_at r3 with h0' | ⟨b, off, rfl, hbl, hcs⟩
          · omega
          obtain ⟨o, d1, b1, k, zs, t1, gs, q1, hdj⟩ : ∃ o d1 b1 k zs t1 gs q1, js[j]? = some (o, d1, b1, k, zs, t1, gs, q1) := ⟨_, _, _, _, _, _, _, _, List.getElem?_eq_getElem (by omega)⟩
          have hin := job_inner hdj
          have htk : js.take (j + 1) = js.take j ++ [(o, d1, b1, k, zs, t1, gs, q1)] := by rw [List.take_add_one, hdj]; rfl
          have HTK := hidden htk
          have hdl : (js.take j).length = j := by rw [List.length_take]; omega
          have hwn : js.length ≤ 2097152 := by unfold wttJobS at HT; omega
          obtain ⟨av0, cv0, av1, cv1, hd0, hd1, hd2, hd3, hd4, hd5, hd6, hd7, hr0, hr1⟩ := hcs j o d1 b1 k zs t1 gs q1 hdj
          have hc0 := (hb.cell (p := ⟨b, off + j * 8, none⟩) hbl).trans hd0
          have hc1 := (hb.cell (p := ⟨b, off + j * 8 + 1, none⟩) hbl).trans hd1
          have hc2 := (hb.cell (p := ⟨b, off + j * 8 + 2, none⟩) hbl).trans hd2
          have hc3 := (hb.cell (p := ⟨b, off + j * 8 + 3, none⟩) hbl).trans hd3
          have hc4 := (hb.cell (p := ⟨b, off + j * 8 + 4, none⟩) hbl).trans hd4
          have hc5 := (hb.cell (p := ⟨b, off + j * 8 + 5, none⟩) hbl).trans hd5
          have hc6 := (hb.cell (p := ⟨b, off + j * 8 + 6, none⟩) hbl).trans hd6
          have hc7 := (hb.cell (p := ⟨b, off + j * 8 + 7, none⟩) hbl).trans hd7
          have hr0 := hr0.below hb
          have hr1 := hr1.below hb
          have hbw : b < wr.heap.size := by omega
          clear hd0 hd1 hd2 hd3 hd4 hd5 hd6 hd7
          have hwl0 : zs.length ≤ 2097152 := by unfold wttJobS wJob at HT; unfold wJob at hin; simp only at hin; omega
          have hwl1 : gs.length ≤ 2097152 := by unfold wttJobS wJob at HT; unfold wJob at hin; simp only at hin; omega
          clear htk hin hcs hdj
          have tj1 : (j : Int) < (js.length : Int) := by omega
          have tj2 : (0 : Int) ≤ (j : Int) := by omega
          generalize js.take j = L at hm HTK hdl
          have HM := hidden hm
          have HB := hidden hb
          have HQ := hidden hq
          have HF := hidden fr
          clear hm hb hq fr
          go_wp2_with (first | (refine wpList_store_new rfl _ _ _ rfl rfl rfl rfl Tryz.szJob15 (by rfl) ?_; intro WJ XJ bJ) | fail)
          have zJ := bJ.size
          have lJ := XJ.lt
          have xoJ := xo.below bJ lo
          have hr0 := hr0.below bJ
          have hr1 := hr1.below bJ
          obtain ⟨y0, y1, y2, y3, y4, y5, y6, y7⟩ := XJ.cells8e
          have o14 := xoJ.cell 14
          clear k14 hc0 hc1 hc2 hc3 hc4 hc5 hc6 hc7
          refine Late.start (S := fun w' => (∀ q, w'.cell? ⟨w1.heap.size, q, none⟩ = WJ.cell? ⟨w1.heap.size, q, none⟩) ∧ (∀ q, w'.cell? ⟨wr.heap.size, q, none⟩ = WJ.cell? ⟨wr.heap.size, q, none⟩)) (k := 17) (by kernel_rfl) ?_
          have hS : (∀ q, WJ.drew.cell? ⟨w1.heap.size, q, none⟩ = WJ.cell? ⟨w1.heap.size, q, none⟩) ∧ (∀ q, WJ.drew.cell? ⟨wr.heap.size, q, none⟩ = WJ.cell? ⟨wr.heap.size, q, none⟩) := ⟨fun _ => rfl, fun _ => rfl⟩
          refine Late.take (i := 0) (v := ?_) rfl (by kernel_rfl) (by kernel_rfl) (by kernel_rfl) (by kernel_rfl) (fun _ _ _ h => h) (Or.inl ⟨by rfl, ?_⟩) hS ?_
          rotate_left 1
          · (intro w hSw; (try dsimp only at hSw); go_split_ands; go_simp; first | done | with_reducible rfl)
          simp only [Act.put, List.setIfInBounds_toArray, List.set_cons_zero, List.set_cons_succ]
          refine Late.take (i := 1) (v := ?_) rfl (by kernel_rfl) (by kernel_rfl) (by kernel_rfl) (by kernel_rfl) (fun _ _ _ h => h) (Or.inl ⟨by rfl, ?_⟩) hS ?_
          rotate_left 1
          · (intro w hSw; (try dsimp only at hSw); go_split_ands; go_simp; first | done | with_reducible rfl)
          simp only [Act.put, List.setIfInBounds_toArray, List.set_cons_zero, List.set_cons_succ]
          refine Late.take (i := 2) (v := ?_) rfl (by kernel_rfl) (by kernel_rfl) (by kernel_rfl) (by kernel_rfl) (fun _ _ _ h => h) (Or.inl ⟨by rfl, ?_⟩) hS ?_
          rotate_left 1
          · (intro w hSw; (try dsimp only at hSw); go_split_ands; go_simp; first | done | with_reducible rfl)
          simp only [Act.put, List.setIfInBounds_toArray, List.set_cons_zero, List.set_cons_succ]
          refine Late.take (i := 3) (v := ?_) rfl (by kernel_rfl) (by kernel_rfl) (by kernel_rfl) (by kernel_rfl) (fun _ _ _ h => h) (Or.inl ⟨by rfl, ?_⟩) hS ?_
          rotate_left 1
          · (intro w hSw; (try dsimp only at hSw); go_split_ands; go_simp; first | done | with_reducible rfl)
          simp only [Act.put, List.setIfInBounds_toArray, List.set_cons_zero, List.set_cons_succ]
          refine Late.take (i := 5) (v := ?_) rfl (by kernel_rfl) (by kernel_rfl) (by kernel_rfl) (by kernel_rfl) (fun _ _ _ h => h) (Or.inl ⟨by rfl, ?_⟩) hS ?_
          rotate_left 1
          · (intro w hSw; (try dsimp only at hSw); go_split_ands; go_simp; first | done | with_reducible rfl)
          simp only [Act.put, List.setIfInBounds_toArray, List.set_cons_zero, List.set_cons_succ]
          refine Late.take (i := 6) (v := ?_) rfl (by kernel_rfl) (by kernel_rfl) (by kernel_rfl) (by kernel_rfl) (fun _ _ _ h => h) (Or.inl ⟨by rfl, ?_⟩) hS ?_
          rotate_left 1
          · (intro w hSw; (try dsimp only at hSw); go_split_ands; go_simp; first | done | with_reducible rfl)
          simp only [Act.put, List.setIfInBounds_toArray, List.set_cons_zero, List.set_cons_succ]
          refine Late.take (i := 8) (v := ?_) rfl (by kernel_rfl) (by kernel_rfl) (by kernel_rfl) (by kernel_rfl) (fun _ _ _ h => h) (Or.inl ⟨by rfl, ?_⟩) hS ?_
          rotate_left 1
          · (intro w hSw; (try dsimp only at hSw); go_split_ands; go_simp; first | done | with_reducible rfl)
          simp only [Act.put, List.setIfInBounds_toArray, List.set_cons_zero, List.set_cons_succ]
          refine Late.take (i := 9) (v := ?_) rfl (by kernel_rfl) (by kernel_rfl) (by kernel_rfl) (by kernel_rfl) (fun _ _ _ h => h) (Or.inl ⟨by rfl, ?_⟩) hS ?_
          rotate_left 1
          · (intro w hSw; (try dsimp only at hSw); go_split_ands; go_simp; first | done | with_reducible rfl)
          simp only [Act.put, List.setIfInBounds_toArray, List.set_cons_zero, List.set_cons_succ]
          refine Late.take (i := 11) (v := ?_) rfl (by kernel_rfl) (by kernel_rfl) (by kernel_rfl) (by kernel_rfl) (fun _ _ _ h => h) (Or.inl ⟨by rfl, ?_⟩) hS ?_
          rotate_left 1
          · (intro w hSw; (try dsimp only at hSw); go_split_ands; go_simp; first | done | with_reducible rfl)
          simp only [Act.put, List.setIfInBounds_toArray, List.set_cons_zero, List.set_cons_succ]
          refine Late.take (i := 12) (v := ?_) rfl (by kernel_rfl) (by kernel_rfl) (by kernel_rfl) (by kernel_rfl) (fun _ _ _ h => h) (Or.inl ⟨by rfl, ?_⟩) hS ?_
          rotate_left 1
          · (intro w hSw; (try dsimp only at hSw); go_split_ands; go_simp; first | done | with_reducible rfl)
          simp only [Act.put, List.setIfInBounds_toArray, List.set_cons_zero, List.set_cons_succ]
          clear y0 y1 y2 y3 y4 y5 y6 y7 o14
          refine Late.two (i := 4) (i' := 7) (by kernel_rfl) rfl rfl (fun K hK => ?_) (fun K hK => ?_)
          · rw [if_pos (by kernel_rfl)]
            go_simp
            refine (l13Copy_any _ o d1 b1 k _ _ zs hr0.drew (by omega)).mono ?_
            rintro e4 w4 ⟨u0, e0, rfl, y0, b4⟩
            have q4 : Below WJ.heap.size WJ w4 := (Below.refl WJ.heap.size WJ).drew.trans b4
            have y0 : tCmd.Own w4 WJ.heap.size w4.heap.size _ _ := y0
            have z4 := q4.size
            have hS4 : (∀ q, w4.cell? ⟨w1.heap.size, q, none⟩ = WJ.cell? ⟨w1.heap.size, q, none⟩) ∧ (∀ q, w4.cell? ⟨wr.heap.size, q, none⟩ = WJ.cell? ⟨wr.heap.size, q, none⟩) := ⟨fun q => q4.cell (p := ⟨w1.heap.size, q, none⟩) (Nat.lt_of_lt_of_le lo zJ), fun q => q4.cell (p := ⟨wr.heap.size, q, none⟩) lJ⟩
            clear hS b4
            go_wp2_with fail
            refine hK.out _ _ (fun _ => hS4) ?_
            clear hK K
            have n5 := new_below w4 (.cells #[] 3)
            have z5 : (w4.alloc (.cells #[] 3)).heap.size = w4.heap.size + 1 := by simp
            have q5 := Below.andThen q4 n5
            have HG : Hid ((w4.alloc (.cells #[] 3)).heap[w4.heap.size]? = some (.cells #[] 3 (0, 0))) := heap_alloc_new w4 _
            have hS5 : (∀ q, (w4.alloc (.cells #[] 3)).cell? ⟨w1.heap.size, q, none⟩ = WJ.cell? ⟨w1.heap.size, q, none⟩) ∧ (∀ q, (w4.alloc (.cells #[] 3)).cell? ⟨wr.heap.size, q, none⟩ = WJ.cell? ⟨wr.heap.size, q, none⟩) := ⟨fun q => q5.cell (p := ⟨w1.heap.size, q, none⟩) (Nat.lt_of_lt_of_le lo zJ), fun q => q5.cell (p := ⟨wr.heap.size, q, none⟩) lJ⟩
            refine Late.one (i := 7) (by kernel_rfl) rfl (fun K hK => ?_)
            rw [if_pos (by kernel_rfl)]
            go_wp2_with fail
            refine hK.out _ _ (fun _ => hS5) ?_
            clear hK K hS4
            refine Late.one (i := 10) (by kernel_rfl) rfl (fun K hK => ?_)
            refine step_copy (by rfl) _ _ 36 (by rfl) i3 Tryz.underlying36 hi3 hx0 hx1 hx2 w4.heap.size (by rfl) HG.out av1 gs.length cv1 gs (by rfl) (hr1.below q5) (by omega) ?_
            intro u1 e1 w6 fx mx rx tx
            have q6 : Below WJ.heap.size WJ w6 := q5.trans (tx.below (N := WJ.heap.size) (by have := q5.size; omega) (fun y hy => by simp at hy; omega))
            have z6 := tx.size
            have hSX : (∀ q, w6.cell? ⟨w1.heap.size, q, none⟩ = WJ.cell? ⟨w1.heap.size, q, none⟩) ∧ (∀ q, w6.cell? ⟨wr.heap.size, q, none⟩ = WJ.cell? ⟨wr.heap.size, q, none⟩) := ⟨fun q => q6.cell (p := ⟨w1.heap.size, q, none⟩) (Nat.lt_of_lt_of_le lo zJ), fun q => q6.cell (p := ⟨wr.heap.size, q, none⟩) lJ⟩
            refine hK.out _ _ (fun _ => hSX) ?_
            clear hK K
            obtain ⟨f0, m0, s0⟩ := (y0.below n5).mine
            have m0 := m0.kept tx (fun y hy hy' => by have := s0 y hy; simp at hy'; omega)
            clear hS5
            obtain ⟨_, m0⟩ := int_mine m0
            obtain ⟨_, m0⟩ := int_mine m0
            obtain ⟨_, m0⟩ := int_mine m0
            obtain ⟨_, m0⟩ := int_mine m0
            have mE : tJob.Mine w6 [.int .i64 o, .int .i64 d1, .int .i64 b1, .int .i64 k, .slice u0 zs.length e0, .int .i64 t1, .slice u1 gs.length e1, .int .i64 q1] (o, d1, b1, k, zs, t1, gs, q1) (f0 ++ (fx ++ [])) := int_mine_of (x := o) (int_mine_of (x := d1) (int_mine_of (x := b1) (int_mine_of (x := k) (ints_mine_of m0 (int_mine_of (x := t1) (ints_mine_of mx int_mine1_of (by simp))) (fun y hy hy' => by rw [List.append_nil] at hy'; have := s0 y hy; have := rx y hy'; omega)))))
            have rE : ∀ y ∈ f0 ++ (fx ++ []), wr.heap.size ≤ y := fun y hy => by
              rw [List.append_nil] at hy
              rcases List.mem_append.1 hy with hy | hy
              · have := (s0 y hy).1; omega
              · have := (rx y hy).1; omega
            clear y0 m0 mx s0 rx tx HG
            clear q4 q5 n5
            refine Late.one (i := 13) (by kernel_rfl) rfl (fun K hK => ?_)
            go_simp
            refine hK.out _ _ (fun _ => hSX) ?_
            clear hK K
            have zX := q6.size
            have nb := new_below w6 (.cells #[.int .i64 o, .int .i64 d1, .int .i64 b1, .int .i64 k, .slice u0 zs.length e0, .int .i64 t1, .slice u1 gs.length e1, .int .i64 q1] 92)
            have n1 : (w6.alloc (.cells #[.int .i64 o, .int .i64 d1, .int .i64 b1, .int .i64 k, .slice u0 zs.length e0, .int .i64 t1, .slice u1 gs.length e1, .int .i64 q1] 92)).heap.size = w6.heap.size + 1 := by simp
            have qN := Below.andThen q6 nb
            have hSN : (∀ q, (w6.alloc (.cells #[.int .i64 o, .int .i64 d1, .int .i64 b1, .int .i64 k, .slice u0 zs.length e0, .int .i64 t1, .slice u1 gs.length e1, .int .i64 q1] 92)).cell? ⟨w1.heap.size, q, none⟩ = WJ.cell? ⟨w1.heap.size, q, none⟩) ∧ (∀ q, (w6.alloc (.cells #[.int .i64 o, .int .i64 d1, .int .i64 b1, .int .i64 k, .slice u0 zs.length e0, .int .i64 t1, .slice u1 gs.length e1, .int .i64 q1] 92)).cell? ⟨wr.heap.size, q, none⟩ = WJ.cell? ⟨wr.heap.size, q, none⟩) := ⟨fun q => qN.cell (p := ⟨w1.heap.size, q, none⟩) (Nat.lt_of_lt_of_le lo zJ), fun q => qN.cell (p := ⟨wr.heap.size, q, none⟩) lJ⟩
            refine Late.one (i := 14) (by kernel_rfl) rfl (fun K hK => ?_)
            rw [if_pos (by kernel_rfl)]
            go_wp2_with fail
            refine hK.out _ _ (fun _ => hSN) ?_
            clear hK K hSX
            have qW := Below.andThen bJ q6
            have qWN := Below.andThen qW nb
            have M5 := HM.out.below qWN
            have xo5 := xo.below qWN lo
            have mE := mE.below nb
            have lq : ∀ y ∈ fq, y < wr.heap.size := HM.out.lt
            have hdis : ∀ y ∈ fq, y ∉ (f0 ++ (fx ++ [])) := fun y hy hy' => by have := lq y hy; have := rE y hy'; omega
            refine Late.one (i := 15) (by kernel_rfl) rfl (fun K hK => ?_)
            refine step_appT tJob (by rfl) _ _ 31 (by rfl) 92 i0 (.agg #[.int .i64 0, .int .i64 0, .int .i64 0, .int .i64 0, .slice none 0 0, .int .i64 0, .slice none 0 0, .int .i64 0]) 96 Tryz.underlying31 hi hz0 hz1 hz2 rfl (by decide) v L fq (by rfl) M5 ⟨w6.heap.size, 0, none⟩ 1 [.int .i64 o, .int .i64 d1, .int .i64 b1, .int .i64 k, .slice u0 zs.length e0, .int .i64 t1, .slice u1 gs.length e1, .int .i64 q1] (o, d1, b1, k, zs, t1, gs, q1) ((f0 ++ (fx ++ []))) (by rfl) mE hdis (news_new w6 #[.int .i64 o, .int .i64 d1, .int .i64 b1, .int .i64 k, .slice u0 zs.length e0, .int .i64 t1, .slice u1 gs.length e1, .int .i64 q1] _) (by intro u hu; simp at hu; rcases hu with rfl | rfl | rfl | rfl | rfl | rfl | rfl | rfl <;> rfl) (by unfold maxLen; omega) (by omega) ?_
            intro g cp wZ frZ mZ sZ tZ
            rw [hdl] at mZ
            have zZ := tZ.size
            have nB0 : w1.heap.size ∉ fq := fun hy => by have := HQ.out _ hy; omega
            have nB1 : wr.heap.size ∉ fq := fun hy => by have := lq _ hy; omega
            have hSZ : (∀ q, wZ.cell? ⟨w1.heap.size, q, none⟩ = WJ.cell? ⟨w1.heap.size, q, none⟩) ∧ (∀ q, wZ.cell? ⟨wr.heap.size, q, none⟩ = WJ.cell? ⟨wr.heap.size, q, none⟩) := ⟨fun q => (World.cell?_of_block (tZ.block w1.heap.size (by omega) nB0)).trans (hSN.1 q), fun q => (World.cell?_of_block (tZ.block wr.heap.size (by omega) nB1)).trans (hSN.2 q)⟩
            refine hK.out _ _ (fun _ => hSZ) ?_
            clear hK K hSN
            have XO := xo5.turned tZ nB0
            have nq : ∀ y ∈ frZ, y ∈ fq ∨ wr.heap.size ≤ y := fun y hy => by
              rcases sZ y hy with l | l | l
              · exact .inl l
              · have := rE y l; exact .inr (by omega)
              · exact .inr (by omega)
            have n6 : w1.heap.size ∉ frZ := fun hy => by
              rcases nq _ hy with l | l
              · exact nB0 l
              · omega
            have M7 := hidden (mZ.setCell (j := 14) n6 (.slice (some ⟨g, 0, none⟩) (j + 1) cp))
            have F7 := hidden (Fr.round HF.out zr qW _ tZ (fun y hy => HQ.out y hy) 14 (.slice (some ⟨g, 0, none⟩) (j + 1) cp))
            have E : BoxAt wZ _ w1.heap.size 35 [.int .i64 x.id, .int .i64 x.n, .int .i64 x.s, .slice bm ms.length dm, .int .i64 x.lost, .int .i64 x.built, .int .i64 x.seq, .int .i64 x.tail, .int .i64 x.gen, .slice bd ds.length dd, .int .i64 x.fuse, .bool x.down, .bool x.broken, .slice bw ws.length dw, .slice (some ⟨g, 0, none⟩) (j + 1) cp, .slice none 0 0, .slice none 0 0] := XO.at.set 14 (.slice (some ⟨g, 0, none⟩) (j + 1) cp)
            have X7 := hidden E.box
            have Q7 : Hid (∀ y ∈ frZ, U2.heap.size ≤ y) := fun y hy => by
              rcases nq y hy with l | l
              · exact HQ.out y l
              · omega
            have l6 := XO.lt
            have c13 := XO.cell 14
            have fz := XO.frozen 14
            clear E mZ sZ tZ nq n6 rE mE hdis lq nB0 nB1 XO xo5 M5 nb qN qW qWN zX n1
            refine Late.one (i := 16) (by kernel_rfl) rfl (fun K hK => ?_)
            rw [if_pos (by kernel_rfl)]
            go_wp2_with fail
            refine hK.out _ _ (fun _ => hSZ) ?_
            clear hK K hSZ
            refine Late.one (i := 17) (by kernel_rfl) rfl (fun K hK => ?_)
            rw [if_pos (by kernel_rfl)]
            go_wp2_with fail
            refine hK.out _ _ (fun h => absurd rfl h) ?_
            clear hK K
            refine Late.done (by kernel_rfl) ?_ _
            clear c13 fz
            go_wp2
            go_roundw
            case rel => exact ⟨j + 1, _, frZ, by omega, by go_num, F7.out, X7.out, by rw [HTK.out]; exact M7.out, Q7.out⟩
            case measure => simp [intOf]; omega
          · rw [if_pos (by kernel_rfl)]
            have q4 : Below WJ.heap.size WJ (WJ.alloc (.cells #[] 3)).drew := (new_below WJ _).drew
            have z4 : (WJ.alloc (.cells #[] 3)).drew.heap.size = WJ.heap.size + 1 := World.size_alloc _ _
            have HG4 : Hid ((WJ.alloc (.cells #[] 3)).drew.heap[WJ.heap.size]? = some (.cells #[] 3 (0, 0))) := heap_alloc_new WJ _
            have hS4 : (∀ q, (WJ.alloc (.cells #[] 3)).drew.cell? ⟨w1.heap.size, q, none⟩ = WJ.cell? ⟨w1.heap.size, q, none⟩) ∧ (∀ q, (WJ.alloc (.cells #[] 3)).drew.cell? ⟨wr.heap.size, q, none⟩ = WJ.cell? ⟨wr.heap.size, q, none⟩) := ⟨fun q => q4.cell (p := ⟨w1.heap.size, q, none⟩) (Nat.lt_of_lt_of_le lo zJ), fun q => q4.cell (p := ⟨wr.heap.size, q, none⟩) lJ⟩
            go_wp2_with fail
            refine hK.out _ _ (fun _ => hS4) ?_
            clear hK K hS
            generalize (WJ.alloc (.cells #[] 3)).drew = w4 at q4 z4 HG4 hS4 ⊢
            refine Late.one (i := 4) (by kernel_rfl) rfl (fun K hK => ?_)
            rw [if_pos (by kernel_rfl)]
            go_simp
            refine (l13Copy_any _ o d1 b1 k _ _ zs (hr0.below q4) (by omega)).mono ?_
            rintro e4 w5 ⟨u0, e0, rfl, y0, b4⟩
            have q5 := Below.andThen q4 b4
            have z5 := b4.size
            have HG : Hid (w5.heap[WJ.heap.size]? = some (.cells #[] 3 (0, 0))) := (b4.block WJ.heap.size (by omega)).trans HG4.out
            have hS5 : (∀ q, w5.cell? ⟨w1.heap.size, q, none⟩ = WJ.cell? ⟨w1.heap.size, q, none⟩) ∧ (∀ q, w5.cell? ⟨wr.heap.size, q, none⟩ = WJ.cell? ⟨wr.heap.size, q, none⟩) := ⟨fun q => q5.cell (p := ⟨w1.heap.size, q, none⟩) (Nat.lt_of_lt_of_le lo zJ), fun q => q5.cell (p := ⟨wr.heap.size, q, none⟩) lJ⟩
            clear hS4 b4
            go_wp2_with fail
            refine hK.out _ _ (fun _ => hS5) ?_
            clear hK K HG4
            refine Late.one (i := 10) (by kernel_rfl) rfl (fun K hK => ?_)
            refine step_copy (by rfl) _ _ 36 (by rfl) i3 Tryz.underlying36 hi3 hx0 hx1 hx2 WJ.heap.size (by rfl) HG.out av1 gs.length cv1 gs (by rfl) (hr1.below q5) (by omega) ?_
            intro u1 e1 w6 fx mx rx tx
            have q6 : Below WJ.heap.size WJ w6 := q5.trans (tx.below (N := WJ.heap.size) (by have := q5.size; omega) (fun y hy => by simp at hy; omega))
            have z6 := tx.size
            have hSX : (∀ q, w6.cell? ⟨w1.heap.size, q, none⟩ = WJ.cell? ⟨w1.heap.size, q, none⟩) ∧ (∀ q, w6.cell? ⟨wr.heap.size, q, none⟩ = WJ.cell? ⟨wr.heap.size, q, none⟩) := ⟨fun q => q6.cell (p := ⟨w1.heap.size, q, none⟩) (Nat.lt_of_lt_of_le lo zJ), fun q => q6.cell (p := ⟨wr.heap.size, q, none⟩) lJ⟩
            refine hK.out _ _ (fun _ => hSX) ?_
            clear hK K
            obtain ⟨f0, m0, s0⟩ := y0.mine
            have m0 := m0.kept tx (fun y hy hy' => by have := s0 y hy; simp at hy'; omega)
            clear hS5
            obtain ⟨_, m0⟩ := int_mine m0
            obtain ⟨_, m0⟩ := int_mine m0
            obtain ⟨_, m0⟩ := int_mine m0
            obtain ⟨_, m0⟩ := int_mine m0
            have mE : tJob.Mine w6 [.int .i64 o, .int .i64 d1, .int .i64 b1, .int .i64 k, .slice u0 zs.length e0, .int .i64 t1, .slice u1 gs.length e1, .int .i64 q1] (o, d1, b1, k, zs, t1, gs, q1) (f0 ++ (fx ++ [])) := int_mine_of (x := o) (int_mine_of (x := d1) (int_mine_of (x := b1) (int_mine_of (x := k) (ints_mine_of m0 (int_mine_of (x := t1) (ints_mine_of mx int_mine1_of (by simp))) (fun y hy hy' => by rw [List.append_nil] at hy'; have := s0 y hy; have := rx y hy'; omega)))))
            have rE : ∀ y ∈ f0 ++ (fx ++ []), wr.heap.size ≤ y := fun y hy => by
              rw [List.append_nil] at hy
              rcases List.mem_append.1 hy with hy | hy
              · have := (s0 y hy).1; omega
              · have := (rx y hy).1; omega
            clear y0 m0 mx s0 rx tx HG
            clear q4 q5
            refine Late.one (i := 13) (by kernel_rfl) rfl (fun K hK => ?_)
            go_simp
            refine hK.out _ _ (fun _ => hSX) ?_
            clear hK K
            have zX := q6.size
            have nb := new_below w6 (.cells #[.int .i64 o, .int .i64 d1, .int .i64 b1, .int .i64 k, .slice u0 zs.length e0, .int .i64 t1, .slice u1 gs.length e1, .int .i64 q1] 92)
            have n1 : (w6.alloc (.cells #[.int .i64 o, .int .i64 d1, .int .i64 b1, .int .i64 k, .slice u0 zs.length e0, .int .i64 t1, .slice u1 gs.length e1, .int .i64 q1] 92)).heap.size = w6.heap.size + 1 := by simp
            have qN := Below.andThen q6 nb
            have hSN : (∀ q, (w6.alloc (.cells #[.int .i64 o, .int .i64 d1, .int .i64 b1, .int .i64 k, .slice u0 zs.length e0, .int .i64 t1, .slice u1 gs.length e1, .int .i64 q1] 92)).cell? ⟨w1.heap.size, q, none⟩ = WJ.cell? ⟨w1.heap.size, q, none⟩) ∧ (∀ q, (w6.alloc (.cells #[.int .i64 o, .int .i64 d1, .int .i64 b1, .int .i64 k, .slice u0 zs.length e0, .int .i64 t1, .slice u1 gs.length e1, .int .i64 q1] 92)).cell? ⟨wr.heap.size, q, none⟩ = WJ.cell? ⟨wr.heap.size, q, none⟩) := ⟨fun q => qN.cell (p := ⟨w1.heap.size, q, none⟩) (Nat.lt_of_lt_of_le lo zJ), fun q => qN.cell (p := ⟨wr.heap.size, q, none⟩) lJ⟩
            refine Late.one (i := 14) (by kernel_rfl) rfl (fun K hK => ?_)
            rw [if_pos (by kernel_rfl)]
            go_wp2_with fail
            refine hK.out _ _ (fun _ => hSN) ?_
            clear hK K hSX
            have qW := Below.andThen bJ q6
            have qWN := Below.andThen qW nb
            have M5 := HM.out.below qWN
            have xo5 := xo.below qWN lo
            have mE := mE.below nb
            have lq : ∀ y ∈ fq, y < wr.heap.size := HM.out.lt
            have hdis : ∀ y ∈ fq, y ∉ (f0 ++ (fx ++ [])) := fun y hy hy' => by have := lq y hy; have := rE y hy'; omega
            refine Late.one (i := 15) (by kernel_rfl) rfl (fun K hK => ?_)
            refine step_appT tJob (by rfl) _ _ 31 (by rfl) 92 i0 (.agg #[.int .i64 0, .int .i64 0, .int .i64 0, .int .i64 0, .slice none 0 0, .int .i64 0, .slice none 0 0, .int .i64 0]) 96 Tryz.underlying31 hi hz0 hz1 hz2 rfl (by decide) v L fq (by rfl) M5 ⟨w6.heap.size, 0, none⟩ 1 [.int .i64 o, .int .i64 d1, .int .i64 b1, .int .i64 k, .slice u0 zs.length e0, .int .i64 t1, .slice u1 gs.length e1, .int .i64 q1] (o, d1, b1, k, zs, t1, gs, q1) ((f0 ++ (fx ++ []))) (by rfl) mE hdis (news_new w6 #[.int .i64 o, .int .i64 d1, .int .i64 b1, .int .i64 k, .slice u0 zs.length e0, .int .i64 t1, .slice u1 gs.length e1, .int .i64 q1] _) (by intro u hu; simp at hu; rcases hu with rfl | rfl | rfl | rfl | rfl | rfl | rfl | rfl <;> rfl) (by unfold maxLen; omega) (by omega) ?_
            intro g cp wZ frZ mZ sZ tZ
            rw [hdl] at mZ
            have zZ := tZ.size
            have nB0 : w1.heap.size ∉ fq := fun hy => by have := HQ.out _ hy; omega
            have nB1 : wr.heap.size ∉ fq := fun hy => by have := lq _ hy; omega
            have hSZ : (∀ q, wZ.cell? ⟨w1.heap.size, q, none⟩ = WJ.cell? ⟨w1.heap.size, q, none⟩) ∧ (∀ q, wZ.cell? ⟨wr.heap.size, q, none⟩ = WJ.cell? ⟨wr.heap.size, q, none⟩) := ⟨fun q => (World.cell?_of_block (tZ.block w1.heap.size (by omega) nB0)).trans (hSN.1 q), fun q => (World.cell?_of_block (tZ.block wr.heap.size (by omega) nB1)).trans (hSN.2 q)⟩
            refine hK.out _ _ (fun _ => hSZ) ?_
            clear hK K hSN
            have XO := xo5.turned tZ nB0
            have nq : ∀ y ∈ frZ, y ∈ fq ∨ wr.heap.size ≤ y := fun y hy => by
              rcases sZ y hy with l | l | l
              · exact .inl l
              · have := rE y l; exact .inr (by omega)
              · exact .inr (by omega)
            have n6 : w1.heap.size ∉ frZ := fun hy => by
              rcases nq _ hy with l | l
              · exact nB0 l
              · omega
            have M7 := hidden (mZ.setCell (j := 14) n6 (.slice (some ⟨g, 0, none⟩) (j + 1) cp))
            have F7 := hidden (Fr.round HF.out zr qW _ tZ (fun y hy => HQ.out y hy) 14 (.slice (some ⟨g, 0, none⟩) (j + 1) cp))
            have E : BoxAt wZ _ w1.heap.size 35 [.int .i64 x.id, .int .i64 x.n, .int .i64 x.s, .slice bm ms.length dm, .int .i64 x.lost, .int .i64 x.built, .int .i64 x.seq, .int .i64 x.tail, .int .i64 x.gen, .slice bd ds.length dd, .int .i64 x.fuse, .bool x.down, .bool x.broken, .slice bw ws.length dw, .slice (some ⟨g, 0, none⟩) (j + 1) cp, .slice none 0 0, .slice none 0 0] := XO.at.set 14 (.slice (some ⟨g, 0, none⟩) (j + 1) cp)
            have X7 := hidden E.box
            have Q7 : Hid (∀ y ∈ frZ, U2.heap.size ≤ y) := fun y hy => by
              rcases nq y hy with l | l
              · exact HQ.out y l
              · omega
            have l6 := XO.lt
            have c13 := XO.cell 14
            have fz := XO.frozen 14
            clear E mZ sZ tZ nq n6 rE mE hdis lq nB0 nB1 XO xo5 M5 nb qN qW qWN zX n1
            refine Late.one (i := 16) (by kernel_rfl) rfl (fun K hK => ?_)
            rw [if_pos (by kernel_rfl)]
            go_wp2_with fail
            refine hK.out _ _ (fun _ => hSZ) ?_
            clear hK K hSZ
            refine Late.one (i := 17) (by kernel_rfl) rfl (fun K hK => ?_)
            rw [if_pos (by kernel_rfl)]
            go_wp2_with fail
            refine hK.out _ _ (fun h => absurd rfl h) ?_
            clear hK K
            refine Late.done (by kernel_rfl) ?_ _
            clear c13 fz
            go_wp2
            go_roundw
            case rel => exact ⟨j + 1, _, frZ, by omega, by go_num, F7.out, X7.out, by rw [HTK.out]; exact M7.out, Q7.out⟩
            case measure => simp [intOf]; omega
        · obtain rfl : j = js.length := by omega
          rw [List.take_length] at hm
          have yjs : (tJobS 92).Own wr U2.heap.size wr.heap.size [v] js := hm.own (fun y hy => ⟨hq y hy, hm.lt y hy⟩)
          have ym := fr.own ym (by omega) (by omega)
          have yd := fr.own yd (by omega) (by omega)
          have yws := fr.own yws (by omega) (by omega)
          obtain ⟨bj, dj, rfl⟩ := row_shape yjs.rd
          have R := fr.box R (by omega) (by omega)
          have A := xa
          have B := hb
          have O := xo
          have zU3 := fr.size
          have lU3 := lx
          have lO3 := lo
          have lR := R.lt
          clear hm hq fr xa hb xo hjn i0 hi hz0 hz1 hz2 zr lx lo
          obtain ⟨U3, hU3⟩ : ∃ U3, U3 = wr := ⟨_, rfl⟩
          subst hU3
          go_wp2_with fail
          clear k14
          obtain ⟨i0, hi, hz0, hz1, hz2⟩ := info_parts Tryz.infoAns15
          go_loopw [7] (fun i wr => ∃ (j : Nat) (v : Value) (fq : List Nat), j ≤ an.length ∧ i = .int .i64 j ∧ Fr U3.heap.size w1.heap.size U3 wr ∧ Box wr w1.heap.size 35 #[.int .i64 x.id, .int .i64 x.n, .int .i64 x.s, .slice bm ms.length dm, .int .i64 x.lost, .int .i64 x.built, .int .i64 x.seq, .int .i64 x.tail, .int .i64 x.gen, .slice bd ds.length dd, .int .i64 x.fuse, .bool x.down, .bool x.broken, .slice bw ws.length dw, .slice bj js.length dj, v, .slice none 0 0] ∧ (tAnsS 55).Mine wr [v] (an.take j) fq ∧ (∀ b ∈ fq, U3.heap.size ≤ b)) (fun i _ => an.length - (intOf i).toNat)
          case atStart => exact ⟨0, _, [], Nat.zero_le _, rfl, Fr.refl _ _ _, O, nil_mine _, by simp⟩
          case round =>
            obtain ⟨j, v, fq, hj, rfl, fr, xo, hm, hq⟩ := hrel
            have zr := fr.size
            have xa := fr.box A (by omega) (by omega)
            have hb := B.trans (fr.below (M := w.heap.size) (by omega) (by omega))
            have lx := xa.lt
            have lo := xo.lt
            have k15 : wr.cell? ⟨w.heap.size, 15, none⟩ = some (.slice aa an.length ca) := xa.cell 15
            by_cases hjn : j < an.length
            · rcases ansS_at r4 with h0' | ⟨b, off, rfl, hbl, hcs⟩
              · omega
              obtain ⟨d1, q1, zs, hdj⟩ : ∃ d1 q1 zs, an[j]? = some (d1, q1, zs) := ⟨_, _, _, List.getElem?_eq_getElem (by omega)⟩
              have hin := ans_inner hdj
              have htk : an.take (j + 1) = an.take j ++ [(d1, q1, zs)] := by rw [List.take_add_one, hdj]; rfl
              have HTK := hidden htk
              have hdl : (an.take j).length = j := by rw [List.length_take]; omega
              have hwn : an.length ≤ 2097152 := by unfold wttAnsS at HT; omega
              obtain ⟨av0, cv0, hd0, hd1, hd2, hr0⟩ := hcs j d1 q1 zs hdj
              have hc0 := (hb.cell (p := ⟨b, off + j * 3, none⟩) hbl).trans hd0
              have hc1 := (hb.cell (p := ⟨b, off + j * 3 + 1, none⟩) hbl).trans hd1
              have hc2 := (hb.cell (p := ⟨b, off + j * 3 + 2, none⟩) hbl).trans hd2
              have hr0 := hr0.below hb
              have hbw : b < wr.heap.size := by omega
              clear hd0 hd1 hd2
              have hwl0 : zs.length ≤ 2097152 := by unfold wttAnsS at HT; simp only at hin; omega
              clear htk hin hcs hdj
              have tj1 : (j : Int) < (an.length : Int) := by omega
              have tj2 : (0 : Int) ≤ (j : Int) := by omega
              generalize an.take j = L at hm HTK hdl
              have HM := hidden hm
              have HB := hidden hb
              have HQ := hidden hq
              have HF := hidden fr
              clear hm hb hq fr
              have o15 := xo.cell 15
              go_wp2_with fail
              refine Late.start (S := fun w' => (∀ q, w'.cell? ⟨w1.heap.size, q, none⟩ = wr.cell? ⟨w1.heap.size, q, none⟩) ∧ (∀ q, w'.cell? ⟨w.heap.size, q, none⟩ = wr.cell? ⟨w.heap.size, q, none⟩) ∧ (∀ q, w'.cell? ⟨b, q, none⟩ = wr.cell? ⟨b, q, none⟩)) (k := 11) (by kernel_rfl) ?_
              have hS : (∀ q, wr.drew.cell? ⟨w1.heap.size, q, none⟩ = wr.cell? ⟨w1.heap.size, q, none⟩) ∧ (∀ q, wr.drew.cell? ⟨w.heap.size, q, none⟩ = wr.cell? ⟨w.heap.size, q, none⟩) ∧ (∀ q, wr.drew.cell? ⟨b, q, none⟩ = wr.cell? ⟨b, q, none⟩) := ⟨fun _ => rfl, fun _ => rfl, fun _ => rfl⟩
              refine Late.take (i := 0) (v := ?_) rfl (by kernel_rfl) (by kernel_rfl) (by kernel_rfl) (by kernel_rfl) (fun _ _ _ h => h) (Or.inl ⟨by rfl, ?_⟩) hS ?_
              rotate_left 1
              · (intro w hSw; (try dsimp only at hSw); go_split_ands; go_simp; first | done | with_reducible rfl)
              simp only [Act.put, List.setIfInBounds_toArray, List.set_cons_zero, List.set_cons_succ]
              refine Late.take (i := 1) (v := ?_) rfl (by kernel_rfl) (by kernel_rfl) (by kernel_rfl) (by kernel_rfl) (fun _ _ _ h => h) (Or.inl ⟨by rfl, ?_⟩) hS ?_
              rotate_left 1
              · (intro w hSw; (try dsimp only at hSw); go_split_ands; go_simp; first | done | with_reducible rfl)
              simp only [Act.put, List.setIfInBounds_toArray, List.set_cons_zero, List.set_cons_succ]
              refine Late.take (i := 2) (v := ?_) rfl (by kernel_rfl) (by kernel_rfl) (by kernel_rfl) (by kernel_rfl) (fun _ _ _ h => h) (Or.inl ⟨by rfl, ?_⟩) hS ?_
              rotate_left 1
              · (intro w hSw; (try dsimp only at hSw); go_split_ands; go_simp; first | done | with_reducible rfl)
              simp only [Act.put, List.setIfInBounds_toArray, List.set_cons_zero, List.set_cons_succ]
              refine Late.take (i := 3) (v := ?_) rfl (by kernel_rfl) (by kernel_rfl) (by kernel_rfl) (by kernel_rfl) (fun _ _ _ h => h) (Or.inl ⟨by rfl, ?_⟩) hS ?_
              rotate_left 1
              · (intro w hSw; (try dsimp only at hSw); go_split_ands; go_simp; first | done | with_reducible rfl)
              simp only [Act.put, List.setIfInBounds_toArray, List.set_cons_zero, List.set_cons_succ]
              refine Late.take (i := 4) (v := ?_) rfl (by kernel_rfl) (by kernel_rfl) (by kernel_rfl) (by kernel_rfl) (fun _ _ _ h => h) (Or.inl ⟨by rfl, ?_⟩) hS ?_
              rotate_left 1
              · (intro w hSw; (try dsimp only at hSw); go_split_ands; go_simp; first | done | with_reducible rfl)
              simp only [Act.put, List.setIfInBounds_toArray, List.set_cons_zero, List.set_cons_succ]
              refine Late.take (i := 5) (v := ?_) rfl (by kernel_rfl) (by kernel_rfl) (by kernel_rfl) (by kernel_rfl) (fun _ _ _ h => h) (Or.inl ⟨by rfl, ?_⟩) hS ?_
              rotate_left 1
              · (intro w hSw; (try dsimp only at hSw); go_split_ands; go_simp; first | done | with_reducible rfl)
              simp only [Act.put, List.setIfInBounds_toArray, List.set_cons_zero, List.set_cons_succ]
              refine Late.take (i := 6) (v := ?_) rfl (by kernel_rfl) (by kernel_rfl) (by kernel_rfl) (by kernel_rfl) (fun _ _ _ h => h) (Or.inl ⟨by rfl, ?_⟩) hS ?_
              rotate_left 1
              · (intro w hSw; (try dsimp only at hSw); go_split_ands; go_simp; first | done | with_reducible rfl)
              simp only [Act.put, List.setIfInBounds_toArray, List.set_cons_zero, List.set_cons_succ]
              refine Late.one (i := 7) (by kernel_rfl) rfl (fun K hK => ?_)
              rw [if_pos (by kernel_rfl)]
              go_simp
              refine (l15Ans_any _ d1 q1 _ _ zs hr0.drew (by omega)).mono ?_
              rintro e4 w4 ⟨u0, e0, rfl, y0, b4⟩
              have q4 : Below wr.heap.size wr w4 := (Below.refl wr.heap.size wr).drew.trans b4
              have y0 : tAns.Own w4 wr.heap.size w4.heap.size _ _ := y0
              have z4 := q4.size
              have hSX : (∀ q, w4.cell? ⟨w1.heap.size, q, none⟩ = wr.cell? ⟨w1.heap.size, q, none⟩) ∧ (∀ q, w4.cell? ⟨w.heap.size, q, none⟩ = wr.cell? ⟨w.heap.size, q, none⟩) ∧ (∀ q, w4.cell? ⟨b, q, none⟩ = wr.cell? ⟨b, q, none⟩) := ⟨fun q => q4.cell (p := ⟨w1.heap.size, q, none⟩) lo, fun q => q4.cell (p := ⟨w.heap.size, q, none⟩) lx, fun q => q4.cell (p := ⟨b, q, none⟩) hbw⟩
              clear hS b4
              go_wp2_with fail
              refine hK.out _ _ (fun _ => hSX) ?_
              clear hK K
              obtain ⟨fv, mE, rE⟩ := y0.mine
              have rE : ∀ y ∈ fv, wr.heap.size ≤ y := fun y hy => (rE y hy).1
              clear y0
              have zX := q4.size
              have nb := new_below w4 (.cells #[.int .i64 d1, .int .i64 q1, .slice u0 zs.length e0] 55)
              have n1 : (w4.alloc (.cells #[.int .i64 d1, .int .i64 q1, .slice u0 zs.length e0] 55)).heap.size = w4.heap.size + 1 := by simp
              have qN := Below.andThen q4 nb
              have hSN : (∀ q, (w4.alloc (.cells #[.int .i64 d1, .int .i64 q1, .slice u0 zs.length e0] 55)).cell? ⟨w1.heap.size, q, none⟩ = wr.cell? ⟨w1.heap.size, q, none⟩) ∧ (∀ q, (w4.alloc (.cells #[.int .i64 d1, .int .i64 q1, .slice u0 zs.length e0] 55)).cell? ⟨w.heap.size, q, none⟩ = wr.cell? ⟨w.heap.size, q, none⟩) ∧ (∀ q, (w4.alloc (.cells #[.int .i64 d1, .int .i64 q1, .slice u0 zs.length e0] 55)).cell? ⟨b, q, none⟩ = wr.cell? ⟨b, q, none⟩) := ⟨fun q => qN.cell (p := ⟨w1.heap.size, q, none⟩) lo, fun q => qN.cell (p := ⟨w.heap.size, q, none⟩) lx, fun q => qN.cell (p := ⟨b, q, none⟩) hbw⟩
              refine Late.one (i := 8) (by kernel_rfl) rfl (fun K hK => ?_)
              rw [if_pos (by kernel_rfl)]
              go_wp2_with fail
              refine hK.out _ _ (fun _ => hSN) ?_
              clear hK K hSX
              have qW := q4
              have qWN := qN
              have M5 := HM.out.below qWN
              have xo5 := xo.below qWN lo
              have mE := mE.below nb
              have lq : ∀ y ∈ fq, y < wr.heap.size := HM.out.lt
              have hdis : ∀ y ∈ fq, y ∉ fv := fun y hy hy' => by have := lq y hy; have := rE y hy'; omega
              refine Late.one (i := 9) (by kernel_rfl) rfl (fun K hK => ?_)
              refine step_appT tAns (by rfl) _ _ 32 (by rfl) 55 i0 (.agg #[.int .i64 0, .int .i64 0, .slice none 0 0]) 40 Tryz.underlying32 hi hz0 hz1 hz2 rfl (by decide) v L fq (by rfl) M5 ⟨w4.heap.size, 0, none⟩ 1 [.int .i64 d1, .int .i64 q1, .slice u0 zs.length e0] (d1, q1, zs) (fv) (by rfl) mE hdis (news_new w4 #[.int .i64 d1, .int .i64 q1, .slice u0 zs.length e0] _) (by intro u hu; simp at hu; rcases hu with rfl | rfl | rfl <;> rfl) (by unfold maxLen; omega) (by omega) ?_
              intro g cp wZ frZ mZ sZ tZ
              rw [hdl] at mZ
              have zZ := tZ.size
              have nB0 : w1.heap.size ∉ fq := fun hy => by have := HQ.out _ hy; omega
              have nB1 : w.heap.size ∉ fq := fun hy => by have := HQ.out _ hy; omega
              have nB2 : b ∉ fq := fun hy => by have := HQ.out _ hy; omega
              have hSZ : (∀ q, wZ.cell? ⟨w1.heap.size, q, none⟩ = wr.cell? ⟨w1.heap.size, q, none⟩) ∧ (∀ q, wZ.cell? ⟨w.heap.size, q, none⟩ = wr.cell? ⟨w.heap.size, q, none⟩) ∧ (∀ q, wZ.cell? ⟨b, q, none⟩ = wr.cell? ⟨b, q, none⟩) := ⟨fun q => (World.cell?_of_block (tZ.block w1.heap.size (by omega) nB0)).trans (hSN.1 q), fun q => (World.cell?_of_block (tZ.block w.heap.size (by omega) nB1)).trans (hSN.2.1 q), fun q => (World.cell?_of_block (tZ.block b (by omega) nB2)).trans (hSN.2.2 q)⟩
              refine hK.out _ _ (fun _ => hSZ) ?_
              clear hK K hSN
              have XO := xo5.turned tZ nB0
              have nq : ∀ y ∈ frZ, y ∈ fq ∨ wr.heap.size ≤ y := fun y hy => by
                rcases sZ y hy with l | l | l
                · exact .inl l
                · have := rE y l; exact .inr (by omega)
                · exact .inr (by omega)
              have n6 : w1.heap.size ∉ frZ := fun hy => by
                rcases nq _ hy with l | l
                · exact nB0 l
                · omega
              have M7 := hidden (mZ.setCell (j := 15) n6 (.slice (some ⟨g, 0, none⟩) (j + 1) cp))
              have F7 := hidden (Fr.round HF.out zr qW _ tZ (fun y hy => HQ.out y hy) 15 (.slice (some ⟨g, 0, none⟩) (j + 1) cp))
              have E : BoxAt wZ _ w1.heap.size 35 [.int .i64 x.id, .int .i64 x.n, .int .i64 x.s, .slice bm ms.length dm, .int .i64 x.lost, .int .i64 x.built, .int .i64 x.seq, .int .i64 x.tail, .int .i64 x.gen, .slice bd ds.length dd, .int .i64 x.fuse, .bool x.down, .bool x.broken, .slice bw ws.length dw, .slice bj js.length dj, .slice (some ⟨g, 0, none⟩) (j + 1) cp, .slice none 0 0] := XO.at.set 15 (.slice (some ⟨g, 0, none⟩) (j + 1) cp)
              have X7 := hidden E.box
              have Q7 : Hid (∀ y ∈ frZ, U3.heap.size ≤ y) := fun y hy => by
                rcases nq y hy with l | l
                · exact HQ.out y l
                · omega
              have l6 := XO.lt
              have c13 := XO.cell 15
              have fz := XO.frozen 15
              clear E mZ sZ tZ nq n6 rE mE hdis lq nB0 nB1 nB2 XO xo5 M5 nb qN qW qWN zX n1
              refine Late.one (i := 10) (by kernel_rfl) rfl (fun K hK => ?_)
              rw [if_pos (by kernel_rfl)]
              go_wp2_with fail
              refine hK.out _ _ (fun _ => hSZ) ?_
              clear hK K hSZ
              refine Late.one (i := 11) (by kernel_rfl) rfl (fun K hK => ?_)
              rw [if_pos (by kernel_rfl)]
              go_wp2_with fail
              refine hK.out _ _ (fun h => absurd rfl h) ?_
              clear hK K
              refine Late.done (by kernel_rfl) ?_ _
              clear c13 fz
              go_wp2
              go_roundw
              case rel => exact ⟨j + 1, _, frZ, by omega, by go_num, F7.out, X7.out, by rw [HTK.out]; exact M7.out, Q7.out⟩
              case measure => simp [intOf]; omega
            · obtain rfl : j = an.length := by omega
              rw [List.take_length] at hm
              have yan : (tAnsS 55).Own wr U3.heap.size wr.heap.size [v] an := hm.own (fun y hy => ⟨hq y hy, hm.lt y hy⟩)
              have ym := fr.own ym (by omega) (by omega)
              have yd := fr.own yd (by omega) (by omega)
              have yws := fr.own yws (by omega) (by omega)
              have yjs := fr.own yjs (by omega) (by omega)
              obtain ⟨bn, dn, rfl⟩ := row_shape yan.rd
              have R := fr.box R (by omega) (by omega)
              have A := xa
              have B := hb
              have O := xo
              have zU4 := fr.size
              have lU4 := lx
              have lO4 := lo
              have lR := R.lt
              clear hm hq fr xa hb xo hjn i0 hi hz0 hz1 hz2 zr lx lo
              obtain ⟨U4, hU4⟩ : ∃ U4, U4 = wr := ⟨_, rfl⟩
              subst hU4
              go_wp2_with fail
              clear k15
              obtain ⟨i0, hi, hz0, hz1, hz2⟩ := info_parts Tryz.infoTurn15
              go_loopw [8] (fun i wr => ∃ (j : Nat) (v : Value) (fq : List Nat), j ≤ ts.length ∧ i = .int .i64 j ∧ Fr U4.heap.size w1.heap.size U4 wr ∧ Box wr w1.heap.size 35 #[.int .i64 x.id, .int .i64 x.n, .int .i64 x.s, .slice bm ms.length dm, .int .i64 x.lost, .int .i64 x.built, .int .i64 x.seq, .int .i64 x.tail, .int .i64 x.gen, .slice bd ds.length dd, .int .i64 x.fuse, .bool x.down, .bool x.broken, .slice bw ws.length dw, .slice bj js.length dj, .slice bn an.length dn, v] ∧ (tTurnS 95).Mine wr [v] (ts.take j) fq ∧ (∀ b ∈ fq, U4.heap.size ≤ b)) (fun i _ => ts.length - (intOf i).toNat)
              case atStart => exact ⟨0, _, [], Nat.zero_le _, rfl, Fr.refl _ _ _, O, nil_mine _, by simp⟩
              case round =>
                obtain ⟨j, v, fq, hj, rfl, fr, xo, hm, hq⟩ := hrel
                have zr := fr.size
                have xa := fr.box A (by omega) (by omega)
                have hb := B.trans (fr.below (M := w.heap.size) (by omega) (by omega))
                have lx := xa.lt
                have lo := xo.lt
                have k16 : wr.cell? ⟨w.heap.size, 16, none⟩ = some (.slice au ts.length cu) := xa.cell 16
                by_cases hjn : j < ts.length
                · rcases turnS_at r5 with h0' | ⟨b, off, rfl, hbl, hcs⟩
                  · omega
                  obtain ⟨o, d1, b1, k, zs, d2, q1, ys, hdj⟩ : ∃ o d1 b1 k zs d2 q1 ys, ts[j]? = some (o, d1, b1, k, zs, d2, q1, ys) := ⟨_, _, _, _, _, _, _, _, List.getElem?_eq_getElem (by omega)⟩
                  have hin := turn_inner hdj
                  have htk : ts.take (j + 1) = ts.take j ++ [(o, d1, b1, k, zs, d2, q1, ys)] := by rw [List.take_add_one, hdj]; rfl
                  have HTK := hidden htk
                  have hdl : (ts.take j).length = j := by rw [List.length_take]; omega
                  have hwn : ts.length ≤ 2097152 := by unfold wttTurnS at HT; omega
                  obtain ⟨av0, cv0, av1, cv1, hd0, hd1, hd2, hd3, hd4, hd5, hd6, hd7, hr0, hr1⟩ := hcs j o d1 b1 k zs d2 q1 ys hdj
                  have hc0 := (hb.cell (p := ⟨b, off + j * 8, none⟩) hbl).trans hd0
                  have hc1 := (hb.cell (p := ⟨b, off + j * 8 + 1, none⟩) hbl).trans hd1
                  have hc2 := (hb.cell (p := ⟨b, off + j * 8 + 2, none⟩) hbl).trans hd2
                  have hc3 := (hb.cell (p := ⟨b, off + j * 8 + 3, none⟩) hbl).trans hd3
                  have hc4 := (hb.cell (p := ⟨b, off + j * 8 + 4, none⟩) hbl).trans hd4
                  have hc5 := (hb.cell (p := ⟨b, off + j * 8 + 5, none⟩) hbl).trans hd5
                  have hc6 := (hb.cell (p := ⟨b, off + j * 8 + 6, none⟩) hbl).trans hd6
                  have hc7 := (hb.cell (p := ⟨b, off + j * 8 + 7, none⟩) hbl).trans hd7
                  have hr0 := hr0.below hb
                  have hr1 := hr1.below hb
                  have hbw : b < wr.heap.size := by omega
                  clear hd0 hd1 hd2 hd3 hd4 hd5 hd6 hd7
                  have hwl0 : zs.length ≤ 2097152 := by unfold wttTurnS wTurn at HT; unfold wTurn at hin; simp only at hin; omega
                  have hwl1 : ys.length ≤ 2097152 := by unfold wttTurnS wTurn at HT; unfold wTurn at hin; simp only at hin; omega
                  clear htk hin hcs hdj
                  have tj1 : (j : Int) < (ts.length : Int) := by omega
                  have tj2 : (0 : Int) ≤ (j : Int) := by omega
                  generalize ts.take j = L at hm HTK hdl
                  have HM := hidden hm
                  have HB := hidden hb
                  have HQ := hidden hq
                  have HF := hidden fr
                  clear hm hb hq fr
                  have o16 := xo.cell 16
                  go_wp2_with fail
                  refine Late.start (S := fun w' => (∀ q, w'.cell? ⟨w1.heap.size, q, none⟩ = wr.cell? ⟨w1.heap.size, q, none⟩) ∧ (∀ q, w'.cell? ⟨w.heap.size, q, none⟩ = wr.cell? ⟨w.heap.size, q, none⟩) ∧ (∀ q, w'.cell? ⟨b, q, none⟩ = wr.cell? ⟨b, q, none⟩)) (k := 20) (by kernel_rfl) ?_
                  have hS : (∀ q, wr.drew.cell? ⟨w1.heap.size, q, none⟩ = wr.cell? ⟨w1.heap.size, q, none⟩) ∧ (∀ q, wr.drew.cell? ⟨w.heap.size, q, none⟩ = wr.cell? ⟨w.heap.size, q, none⟩) ∧ (∀ q, wr.drew.cell? ⟨b, q, none⟩ = wr.cell? ⟨b, q, none⟩) := ⟨fun _ => rfl, fun _ => rfl, fun _ => rfl⟩
                  refine Late.take (i := 0) (v := ?_) rfl (by kernel_rfl) (by kernel_rfl) (by kernel_rfl) (by kernel_rfl) (fun _ _ _ h => h) (Or.inl ⟨by rfl, ?_⟩) hS ?_
                  rotate_left 1
                  · (intro w hSw; (try dsimp only at hSw); go_split_ands; go_simp; first | done | with_reducible rfl)
                  simp only [Act.put, List.setIfInBounds_toArray, List.set_cons_zero, List.set_cons_succ]
                  refine Late.take (i := 1) (v := ?_) rfl (by kernel_rfl) (by kernel_rfl) (by kernel_rfl) (by kernel_rfl) (fun _ _ _ h => h) (Or.inl ⟨by rfl, ?_⟩) hS ?_
                  rotate_left 1
                  · (intro w hSw; (try dsimp only at hSw); go_split_ands; go_simp; first | done | with_reducible rfl)
                  simp only [Act.put, List.setIfInBounds_toArray, List.set_cons_zero, List.set_cons_succ]
                  refine Late.take (i := 2) (v := ?_) rfl (by kernel_rfl) (by kernel_rfl) (by kernel_rfl) (by kernel_rfl) (fun _ _ _ h => h) (Or.inl ⟨by rfl, ?_⟩) hS ?_
                  rotate_left 1
                  · (intro w hSw; (try dsimp only at hSw); go_split_ands; go_simp; first | done | with_reducible rfl)
                  simp only [Act.put, List.setIfInBounds_toArray, List.set_cons_zero, List.set_cons_succ]
                  refine Late.take (i := 3) (v := ?_) rfl (by kernel_rfl) (by kernel_rfl) (by kernel_rfl) (by kernel_rfl) (fun _ _ _ h => h) (Or.inl ⟨by rfl, ?_⟩) hS ?_
                  rotate_left 1
                  · (intro w hSw; (try dsimp only at hSw); go_split_ands; go_simp; first | done | with_reducible rfl)
                  simp only [Act.put, List.setIfInBounds_toArray, List.set_cons_zero, List.set_cons_succ]
                  refine Late.take (i := 4) (v := ?_) rfl (by kernel_rfl) (by kernel_rfl) (by kernel_rfl) (by kernel_rfl) (fun _ _ _ h => h) (Or.inl ⟨by rfl, ?_⟩) hS ?_
                  rotate_left 1
                  · (intro w hSw; (try dsimp only at hSw); go_split_ands; go_simp; first | done | with_reducible rfl)
                  simp only [Act.put, List.setIfInBounds_toArray, List.set_cons_zero, List.set_cons_succ]
                  refine Late.take (i := 5) (v := ?_) rfl (by kernel_rfl) (by kernel_rfl) (by kernel_rfl) (by kernel_rfl) (fun _ _ _ h => h) (Or.inl ⟨by rfl, ?_⟩) hS ?_
                  rotate_left 1
                  · (intro w hSw; (try dsimp only at hSw); go_split_ands; go_simp; first | done | with_reducible rfl)
                  simp only [Act.put, List.setIfInBounds_toArray, List.set_cons_zero, List.set_cons_succ]
                  refine Late.take (i := 6) (v := ?_) rfl (by kernel_rfl) (by kernel_rfl) (by kernel_rfl) (by kernel_rfl) (fun _ _ _ h => h) (Or.inl ⟨by rfl, ?_⟩) hS ?_
                  rotate_left 1
                  · (intro w hSw; (try dsimp only at hSw); go_split_ands; go_simp; first | done | with_reducible rfl)
                  simp only [Act.put, List.setIfInBounds_toArray, List.set_cons_zero, List.set_cons_succ]
                  refine Late.take (i := 7) (v := ?_) rfl (by kernel_rfl) (by kernel_rfl) (by kernel_rfl) (by kernel_rfl) (fun _ _ _ h => h) (Or.inl ⟨by rfl, ?_⟩) hS ?_
                  rotate_left 1
                  · (intro w hSw; (try dsimp only at hSw); go_split_ands; go_simp; first | done | with_reducible rfl)
                  simp only [Act.put, List.setIfInBounds_toArray, List.set_cons_zero, List.set_cons_succ]
                  refine Late.take (i := 9) (v := ?_) rfl (by kernel_rfl) (by kernel_rfl) (by kernel_rfl) (by kernel_rfl) (fun _ _ _ h => h) (Or.inl ⟨by rfl, ?_⟩) hS ?_
                  rotate_left 1
                  · (intro w hSw; (try dsimp only at hSw); go_split_ands; go_simp; first | done | with_reducible rfl)
                  simp only [Act.put, List.setIfInBounds_toArray, List.set_cons_zero, List.set_cons_succ]
                  refine Late.take (i := 10) (v := ?_) rfl (by kernel_rfl) (by kernel_rfl) (by kernel_rfl) (by kernel_rfl) (fun _ _ _ h => h) (Or.inl ⟨by rfl, ?_⟩) hS ?_
                  rotate_left 1
                  · (intro w hSw; (try dsimp only at hSw); go_split_ands; go_simp; first | done | with_reducible rfl)
                  simp only [Act.put, List.setIfInBounds_toArray, List.set_cons_zero, List.set_cons_succ]
                  refine Late.take (i := 11) (v := ?_) rfl (by kernel_rfl) (by kernel_rfl) (by kernel_rfl) (by kernel_rfl) (fun _ _ _ h => h) (Or.inl ⟨by rfl, ?_⟩) hS ?_
                  rotate_left 1
                  · (intro w hSw; (try dsimp only at hSw); go_split_ands; go_simp; first | done | with_reducible rfl)
                  simp only [Act.put, List.setIfInBounds_toArray, List.set_cons_zero, List.set_cons_succ]
                  refine Late.take (i := 12) (v := ?_) rfl (by kernel_rfl) (by kernel_rfl) (by kernel_rfl) (by kernel_rfl) (fun _ _ _ h => h) (Or.inl ⟨by rfl, ?_⟩) hS ?_
                  rotate_left 1
                  · (intro w hSw; (try dsimp only at hSw); go_split_ands; go_simp; first | done | with_reducible rfl)
                  simp only [Act.put, List.setIfInBounds_toArray, List.set_cons_zero, List.set_cons_succ]
                  refine Late.take (i := 13) (v := ?_) rfl (by kernel_rfl) (by kernel_rfl) (by kernel_rfl) (by kernel_rfl) (fun _ _ _ h => h) (Or.inl ⟨by rfl, ?_⟩) hS ?_
                  rotate_left 1
                  · (intro w hSw; (try dsimp only at hSw); go_split_ands; go_simp; first | done | with_reducible rfl)
                  simp only [Act.put, List.setIfInBounds_toArray, List.set_cons_zero, List.set_cons_succ]
                  refine Late.take (i := 14) (v := ?_) rfl (by kernel_rfl) (by kernel_rfl) (by kernel_rfl) (by kernel_rfl) (fun _ _ _ h => h) (Or.inl ⟨by rfl, ?_⟩) hS ?_
                  rotate_left 1
                  · (intro w hSw; (try dsimp only at hSw); go_split_ands; go_simp; first | done | with_reducible rfl)
                  simp only [Act.put, List.setIfInBounds_toArray, List.set_cons_zero, List.set_cons_succ]
                  refine Late.one (i := 8) (by kernel_rfl) rfl (fun K hK => ?_)
                  rw [if_pos (by kernel_rfl)]
                  go_simp
                  refine (l13Copy_any _ o d1 b1 k _ _ zs hr0.drew (by omega)).mono ?_
                  rintro e4 w4 ⟨u0, e0, rfl, y0, b4⟩
                  have q4 : Below wr.heap.size wr w4 := (Below.refl wr.heap.size wr).drew.trans b4
                  have y0 : tCmd.Own w4 wr.heap.size w4.heap.size _ _ := y0
                  have z4 := q4.size
                  have hSX : (∀ q, w4.cell? ⟨w1.heap.size, q, none⟩ = wr.cell? ⟨w1.heap.size, q, none⟩) ∧ (∀ q, w4.cell? ⟨w.heap.size, q, none⟩ = wr.cell? ⟨w.heap.size, q, none⟩) ∧ (∀ q, w4.cell? ⟨b, q, none⟩ = wr.cell? ⟨b, q, none⟩) := ⟨fun q => q4.cell (p := ⟨w1.heap.size, q, none⟩) lo, fun q => q4.cell (p := ⟨w.heap.size, q, none⟩) lx, fun q => q4.cell (p := ⟨b, q, none⟩) hbw⟩
                  clear hS b4
                  go_wp2_with fail
                  refine hK.out _ _ (fun _ => hSX) ?_
                  clear hK K
                  refine Late.one (i := 15) (by kernel_rfl) rfl (fun K hK => ?_)
                  rw [if_pos (by kernel_rfl)]
                  go_simp
                  refine (l15Ans_any _ d2 q1 _ _ ys (hr1.below q4) (by omega)).mono ?_
                  rintro e4 w5 ⟨u1, e1, rfl, y1, b4⟩
                  have q5 := Below.andThen q4 b4
                  have z5 := b4.size
                  have y0 := y0.below b4
                  have hSX : (∀ q, w5.cell? ⟨w1.heap.size, q, none⟩ = wr.cell? ⟨w1.heap.size, q, none⟩) ∧ (∀ q, w5.cell? ⟨w.heap.size, q, none⟩ = wr.cell? ⟨w.heap.size, q, none⟩) ∧ (∀ q, w5.cell? ⟨b, q, none⟩ = wr.cell? ⟨b, q, none⟩) := ⟨fun q => q5.cell (p := ⟨w1.heap.size, q, none⟩) lo, fun q => q5.cell (p := ⟨w.heap.size, q, none⟩) lx, fun q => q5.cell (p := ⟨b, q, none⟩) hbw⟩
                  clear  b4
                  go_wp2_with fail
                  refine hK.out _ _ (fun _ => hSX) ?_
                  clear hK K
                  obtain ⟨f0, m0, s0⟩ := y0.mine
                  obtain ⟨f1, m1, s1⟩ := y1.mine
                  obtain ⟨_, m0⟩ := int_mine m0
                  obtain ⟨_, m0⟩ := int_mine m0
                  obtain ⟨_, m0⟩ := int_mine m0
                  obtain ⟨_, m0⟩ := int_mine m0
                  have mE : tTurn.Mine w5 [.int .i64 o, .int .i64 d1, .int .i64 b1, .int .i64 k, .slice u0 zs.length e0, .int .i64 d2, .int .i64 q1, .slice u1 ys.length e1] (o, d1, b1, k, zs, d2, q1, ys) (f0 ++ f1) := int_mine_of (x := o) (int_mine_of (x := d1) (int_mine_of (x := b1) (int_mine_of (x := k) (ints_mine_of m0 m1 (fun y hy hy' => by have := s0 y hy; have := s1 y hy'; omega)))))
                  have rE : ∀ y ∈ f0 ++ f1, wr.heap.size ≤ y := fun y hy => by
                    rcases List.mem_append.1 hy with hy | hy
                    · exact (s0 y hy).1
                    · have := (s1 y hy).1; omega
                  clear y0 y1 m0 m1 s0 s1
                  refine Late.one (i := 16) (by kernel_rfl) rfl (fun K hK => ?_)
                  go_simp
                  refine hK.out _ _ (fun _ => hSX) ?_
                  clear hK K
                  have zX := q5.size
                  have nb := new_below w5 (.cells #[.int .i64 o, .int .i64 d1, .int .i64 b1, .int .i64 k, .slice u0 zs.length e0, .int .i64 d2, .int .i64 q1, .slice u1 ys.length e1] 95)
                  have n1 : (w5.alloc (.cells #[.int .i64 o, .int .i64 d1, .int .i64 b1, .int .i64 k, .slice u0 zs.length e0, .int .i64 d2, .int .i64 q1, .slice u1 ys.length e1] 95)).heap.size = w5.heap.size + 1 := by simp
                  have qN := Below.andThen q5 nb
                  have hSN : (∀ q, (w5.alloc (.cells #[.int .i64 o, .int .i64 d1, .int .i64 b1, .int .i64 k, .slice u0 zs.length e0, .int .i64 d2, .int .i64 q1, .slice u1 ys.length e1] 95)).cell? ⟨w1.heap.size, q, none⟩ = wr.cell? ⟨w1.heap.size, q, none⟩) ∧ (∀ q, (w5.alloc (.cells #[.int .i64 o, .int .i64 d1, .int .i64 b1, .int .i64 k, .slice u0 zs.length e0, .int .i64 d2, .int .i64 q1, .slice u1 ys.length e1] 95)).cell? ⟨w.heap.size, q, none⟩ = wr.cell? ⟨w.heap.size, q, none⟩) ∧ (∀ q, (w5.alloc (.cells #[.int .i64 o, .int .i64 d1, .int .i64 b1, .int .i64 k, .slice u0 zs.length e0, .int .i64 d2, .int .i64 q1, .slice u1 ys.length e1] 95)).cell? ⟨b, q, none⟩ = wr.cell? ⟨b, q, none⟩) := ⟨fun q => qN.cell (p := ⟨w1.heap.size, q, none⟩) lo, fun q => qN.cell (p := ⟨w.heap.size, q, none⟩) lx, fun q => qN.cell (p := ⟨b, q, none⟩) hbw⟩
                  refine Late.one (i := 17) (by kernel_rfl) rfl (fun K hK => ?_)
                  rw [if_pos (by kernel_rfl)]
                  go_wp2_with fail
                  refine hK.out _ _ (fun _ => hSN) ?_
                  clear hK K hSX
                  have qW := q5
                  have qWN := qN
                  have M5 := HM.out.below qWN
                  have xo5 := xo.below qWN lo
                  have mE := mE.below nb
                  have lq : ∀ y ∈ fq, y < wr.heap.size := HM.out.lt
                  have hdis : ∀ y ∈ fq, y ∉ (f0 ++ f1) := fun y hy hy' => by have := lq y hy; have := rE y hy'; omega
                  refine Late.one (i := 18) (by kernel_rfl) rfl (fun K hK => ?_)
                  refine step_appT tTurn (by rfl) _ _ 33 (by rfl) 95 i0 (.agg #[.int .i64 0, .int .i64 0, .int .i64 0, .int .i64 0, .slice none 0 0, .int .i64 0, .int .i64 0, .slice none 0 0]) 96 Tryz.underlying33 hi hz0 hz1 hz2 rfl (by decide) v L fq (by rfl) M5 ⟨w5.heap.size, 0, none⟩ 1 [.int .i64 o, .int .i64 d1, .int .i64 b1, .int .i64 k, .slice u0 zs.length e0, .int .i64 d2, .int .i64 q1, .slice u1 ys.length e1] (o, d1, b1, k, zs, d2, q1, ys) ((f0 ++ f1)) (by rfl) mE hdis (news_new w5 #[.int .i64 o, .int .i64 d1, .int .i64 b1, .int .i64 k, .slice u0 zs.length e0, .int .i64 d2, .int .i64 q1, .slice u1 ys.length e1] _) (by intro u hu; simp at hu; rcases hu with rfl | rfl | rfl | rfl | rfl | rfl | rfl | rfl <;> rfl) (by unfold maxLen; omega) (by omega) ?_
                  intro g cp wZ frZ mZ sZ tZ
                  rw [hdl] at mZ
                  have zZ := tZ.size
                  have nB0 : w1.heap.size ∉ fq := fun hy => by have := HQ.out _ hy; omega
                  have nB1 : w.heap.size ∉ fq := fun hy => by have := HQ.out _ hy; omega
                  have nB2 : b ∉ fq := fun hy => by have := HQ.out _ hy; omega
                  have hSZ : (∀ q, wZ.cell? ⟨w1.heap.size, q, none⟩ = wr.cell? ⟨w1.heap.size, q, none⟩) ∧ (∀ q, wZ.cell? ⟨w.heap.size, q, none⟩ = wr.cell? ⟨w.heap.size, q, none⟩) ∧ (∀ q, wZ.cell? ⟨b, q, none⟩ = wr.cell? ⟨b, q, none⟩) := ⟨fun q => (World.cell?_of_block (tZ.block w1.heap.size (by omega) nB0)).trans (hSN.1 q), fun q => (World.cell?_of_block (tZ.block w.heap.size (by omega) nB1)).trans (hSN.2.1 q), fun q => (World.cell?_of_block (tZ.block b (by omega) nB2)).trans (hSN.2.2 q)⟩
                  refine hK.out _ _ (fun _ => hSZ) ?_
                  clear hK K hSN
                  have XO := xo5.turned tZ nB0
                  have nq : ∀ y ∈ frZ, y ∈ fq ∨ wr.heap.size ≤ y := fun y hy => by
                    rcases sZ y hy with l | l | l
                    · exact .inl l
                    · have := rE y l; exact .inr (by omega)
                    · exact .inr (by omega)
                  have n6 : w1.heap.size ∉ frZ := fun hy => by
                    rcases nq _ hy with l | l
                    · exact nB0 l
                    · omega
                  have M7 := hidden (mZ.setCell (j := 16) n6 (.slice (some ⟨g, 0, none⟩) (j + 1) cp))
                  have F7 := hidden (Fr.round HF.out zr qW _ tZ (fun y hy => HQ.out y hy) 16 (.slice (some ⟨g, 0, none⟩) (j + 1) cp))
                  have E : BoxAt wZ _ w1.heap.size 35 [.int .i64 x.id, .int .i64 x.n, .int .i64 x.s, .slice bm ms.length dm, .int .i64 x.lost, .int .i64 x.built, .int .i64 x.seq, .int .i64 x.tail, .int .i64 x.gen, .slice bd ds.length dd, .int .i64 x.fuse, .bool x.down, .bool x.broken, .slice bw ws.length dw, .slice bj js.length dj, .slice bn an.length dn, .slice (some ⟨g, 0, none⟩) (j + 1) cp] := XO.at.set 16 (.slice (some ⟨g, 0, none⟩) (j + 1) cp)
                  have X7 := hidden E.box
                  have Q7 : Hid (∀ y ∈ frZ, U4.heap.size ≤ y) := fun y hy => by
                    rcases nq y hy with l | l
                    · exact HQ.out y l
                    · omega
                  have l6 := XO.lt
                  have c13 := XO.cell 16
                  have fz := XO.frozen 16
                  clear E mZ sZ tZ nq n6 rE mE hdis lq nB0 nB1 nB2 XO xo5 M5 nb qN qW qWN zX n1
                  refine Late.one (i := 19) (by kernel_rfl) rfl (fun K hK => ?_)
                  rw [if_pos (by kernel_rfl)]
                  go_wp2_with fail
                  refine hK.out _ _ (fun _ => hSZ) ?_
                  clear hK K hSZ
                  refine Late.one (i := 20) (by kernel_rfl) rfl (fun K hK => ?_)
                  rw [if_pos (by kernel_rfl)]
                  go_wp2_with fail
                  refine hK.out _ _ (fun h => absurd rfl h) ?_
                  clear hK K
                  refine Late.done (by kernel_rfl) ?_ _
                  clear c13 fz
                  go_wp2
                  go_roundw
                  case rel => exact ⟨j + 1, _, frZ, by omega, by go_num, F7.out, X7.out, by rw [HTK.out]; exact M7.out, Q7.out⟩
                  case measure => simp [intOf]; omega
                · obtain rfl : j = ts.length := by omega
                  rw [List.take_length] at hm
                  have yts : (tTurnS 95).Own wr U4.heap.size wr.heap.size [v] ts := hm.own (fun y hy => ⟨hq y hy, hm.lt y hy⟩)
                  have ym := fr.own ym (by omega) (by omega)
                  have yd := fr.own yd (by omega) (by omega)
                  have yws := fr.own yws (by omega) (by omega)
                  have yjs := fr.own yjs (by omega) (by omega)
                  have yan := fr.own yan (by omega) (by omega)
                  obtain ⟨bu, du, rfl⟩ := row_shape yts.rd
                  have R := fr.box R (by omega) (by omega)
                  have A := xa
                  have B := hb
                  have O := xo
                  have zU5 := fr.size
                  have lU5 := lx
                  have lO5 := lo
                  have lR := R.lt
                  clear hm hq fr xa hb xo hjn i0 hi hz0 hz1 hz2 zr lx lo
                  obtain ⟨U5, hU5⟩ : ∃ U5, U5 = wr := ⟨_, rfl⟩
                  subst hU5
                  clear A r0 r1 r2 r3 r4 r5 HT i3 hi3 hx0 hx1 hx2
                  go_wp2_with (first | (refine wpList_load_box rfl _ _ rfl rfl O _ Tryz.underlying35 rfl Tryz.sizeEng ?_) | (refine wpList_store_box rfl _ _ _ rfl rfl rfl R rfl Tryz.sizeEng (by rfl) ?_; intro W X hb hs) | fail)
                  have pm := ym.but hb (by omega)
                  have pd := yd.but hb (by omega)
                  have pws := yws.but hb (by omega)
                  have pjs := yjs.but hb (by omega)
                  have pan := yan.but hb (by omega)
                  have pts := yts.but hb (by omega)
                  have K := hidden (Ty.Own.widen (pair_own2 (vs := [_]) (lo := V.heap.size) (hi := U5.heap.size) pm (pair_own2 (vs := [_]) (lo := m) (hi := U5.heap.size) pd (pair_own2 (vs := [_]) (lo := U.heap.size) (hi := U5.heap.size) pws (pair_own2 (vs := [_]) (lo := U2.heap.size) (hi := U5.heap.size) pjs (pair_own2 (vs := [_]) (lo := U3.heap.size) (hi := U5.heap.size) pan (pts.widen (lo' := U4.heap.size) (hi' := U5.heap.size) (by omega) (by omega)) (by omega) (by omega) (by omega)) (by omega) (by omega) (by omega)) (by omega) (by omega) (by omega)) (by omega) (by omega) (by omega)) (by omega) (by omega) (by omega)) (show w.heap.size ≤ V.heap.size by omega) hb.size)
                  have KB := hidden (Below.andBut B hb (by omega))
                  clear hb B ym yd yws yjs yan yts pm pd pws pjs pan pts O R
                  obtain ⟨x0, x1, x2, x3, x4, x5, x6, x7, x8, x9, x10, x11, x12, x13, x14, x15, x16⟩ := X.cells17
                  go_wp2
                  refine bodyPost_ret (v := .agg #[.int .i64 x.id, .int .i64 x.n, .int .i64 x.s, .slice bm ms.length dm, .int .i64 x.lost, .int .i64 x.built, .int .i64 x.seq, .int .i64 x.tail, .int .i64 x.gen, .slice bd ds.length dd, .int .i64 x.fuse, .bool x.down, .bool x.broken, .slice bw ws.length dw, .slice bj js.length dj, .slice bn an.length dn, .slice bu ts.length du]) (by simp [results, Tryz.results50, go_sem, x0, x1, x2, x3, x4, x5, x6, x7, x8, x9, x10, x11, x12, x13, x14, x15, x16]) rfl ⟨_, rfl, ⟨_, _, _, _, _, _, rfl, K.out⟩, KB.out⟩

end Go.Proofs.YtbkkjfgjlapadaaGreat

namespace Go.Proofs.YtbkkjfgjlapadaaGreat
open Go.RowKit


set_option maxRecDepth 20000 in
set_option maxHeartbeats 6400000 in
theorem l15Answer_any (w : World) (N lo : Nat) (e : EngD) (F : List Nat) (o d b k : Int) (av : Option Addr) (cv : Nat) (zs : List Int) (d1 q1 : Int) (ay : Option Addr) (cy : Nat) (ys : List Int) (fc fa : List Nat)
    (h : EngAt w N lo e F) (hlo : lo ≤ w.heap.size) (mc : tIntS.Mine w [.slice av zs.length cv] zs fc) (hc : ∀ y ∈ fc, lo ≤ y ∧ y ≠ N ∧ y ∉ F) (ma : tIntS.Mine w [.slice ay ys.length cy] ys fa) (ha : ∀ y ∈ fa, lo ≤ y ∧ y ≠ N ∧ y ∉ F) (hca : ∀ y ∈ fc, y ∉ fa) (hyl : ys.length ≤ 2097152) (hal : e.an.length ≤ 2097152) (htl : e.ts.length ≤ 2097152) :
    Calls Tryz.prog 146 #[.pointer (some ⟨N, 0, none⟩), .agg #[.int .i64 o, .int .i64 d, .int .i64 b, .int .i64 k, .slice av zs.length cv], .agg #[.int .i64 d1, .int .i64 q1, .slice ay ys.length cy]] w fun e' w' => e' = .returned (.tuple #[]) ∧ (∃ F', EngAt w' N lo (ansE e (o, d, b, k, zs) (d1, q1, ys)) F') ∧ Turned (N :: F) w w' := by
  obtain ⟨vm, vd, vw, vj, va, vu, f0, f1, f2, f3, f4, f5, rfl, X, P, hN⟩ := h
  obtain ⟨x, ms, ds, ws, js, an, ts⟩ := e
  have X : Box w N 35 #[.int .i64 x.id, .int .i64 x.n, .int .i64 x.s, vm, .int .i64 x.lost, .int .i64 x.built, .int .i64 x.seq, .int .i64 x.tail, .int .i64 x.gen, vd, .int .i64 x.fuse, .bool x.down, .bool x.broken, vw, vj, va, vu] := X
  replace hal : an.length ≤ 2097152 := hal
  replace htl : ts.length ≤ 2097152 := htl
  obtain ⟨n0, n1, n2, n3, n4, n5⟩ := not_six.1 hN
  obtain ⟨an1, ac1, rfl⟩ := row_shape P.m4.rd
  obtain ⟨ts1, tc1, rfl⟩ := row_shape P.m5.rd
  have lN := X.lt
  have Z0 := hidden X
  go_enter Tryz.func146, Tryz.ntmps146
  go_upto_region 1 with fail
  refine seal_new2C ?_
  intro V C A b0
  have lC := C.lt
  have lA := A.lt
  have zB := b0.size
  have X := X.below b0 lN
  have P := P.turned (Turned.ofBelow b0 []) (by simp)
  have mc := mc.below b0
  have ma := ma.below b0
  have lX := X.lt
  have T0 := Turned.ofBelow b0 (N :: (f0 ++ (f1 ++ (f2 ++ (f3 ++ (f4 ++ f5))))))
  clear b0
  have HC := hidden hc
  have HA := hidden ha
  have HP := hidden P
  have HP0 := hidden P
  have MC := hidden mc
  have MA := hidden ma
  have HCA := hidden hca
  have HT0 := hidden T0
  clear hc ha P mc ma hca T0 hN Z0
  obtain ⟨a0, a1, a2⟩ := A.cells3e
  have x15 := X.cell 15
  obtain ⟨i4, hi4, hz40, hz41, hz42⟩ := info_parts Tryz.infoAns15
  refine Late.start (S := fun w' => (∀ q, w'.cell? ⟨N, q, none⟩ = V.cell? ⟨N, q, none⟩) ∧ (∀ q, w'.cell? ⟨w.heap.size + 1, q, none⟩ = V.cell? ⟨w.heap.size + 1, q, none⟩)) (k := 11) (by kernel_rfl) ?_
  have hS : (∀ q, V.drew.cell? ⟨N, q, none⟩ = V.cell? ⟨N, q, none⟩) ∧ (∀ q, V.drew.cell? ⟨w.heap.size + 1, q, none⟩ = V.cell? ⟨w.heap.size + 1, q, none⟩) := ⟨fun _ => rfl, fun _ => rfl⟩
  refine Late.take (i := 0) (v := ?_) rfl (by kernel_rfl) (by kernel_rfl) (by kernel_rfl) (by kernel_rfl) (fun _ _ _ h => h) (Or.inl ⟨by rfl, ?_⟩) hS ?_
  rotate_left 1
  · (intro w hSw; (try dsimp only at hSw); go_split_ands; go_simp; first | done | with_reducible rfl)
  simp only [Act.put, List.setIfInBounds_toArray, List.set_cons_zero, List.set_cons_succ]
  refine Late.take (i := 1) (v := ?_) rfl (by kernel_rfl) (by kernel_rfl) (by kernel_rfl) (by kernel_rfl) (fun _ _ _ h => h) (Or.inl ⟨by rfl, ?_⟩) hS ?_
  rotate_left 1
  · (intro w hSw; (try dsimp only at hSw); go_split_ands; go_simp; first | done | with_reducible rfl)
  simp only [Act.put, List.setIfInBounds_toArray, List.set_cons_zero, List.set_cons_succ]
  refine Late.take (i := 2) (v := ?_) rfl (by kernel_rfl) (by kernel_rfl) (by kernel_rfl) (by kernel_rfl) (fun _ _ _ h => h) (Or.inl ⟨by rfl, ?_⟩) hS ?_
  rotate_left 1
  · (intro w hSw; (try dsimp only at hSw); go_split_ands; go_simp; first | done | with_reducible rfl)
  simp only [Act.put, List.setIfInBounds_toArray, List.set_cons_zero, List.set_cons_succ]
  refine Late.take (i := 3) (v := ?_) rfl (by kernel_rfl) (by kernel_rfl) (by kernel_rfl) (by kernel_rfl) (fun _ _ _ h => h) (Or.inl ⟨by rfl, ?_⟩) hS ?_
  rotate_left 1
  · (intro w hSw; (try dsimp only at hSw); go_split_ands; go_simp; first | done | with_reducible rfl)
  simp only [Act.put, List.setIfInBounds_toArray, List.set_cons_zero, List.set_cons_succ]
  refine Late.take (i := 4) (v := ?_) rfl (by kernel_rfl) (by kernel_rfl) (by kernel_rfl) (by kernel_rfl) (fun _ _ _ h => h) (Or.inl ⟨by rfl, ?_⟩) hS ?_
  rotate_left 1
  · (intro w hSw; (try dsimp only at hSw); go_split_ands; go_simp; first | done | with_reducible rfl)
  simp only [Act.put, List.setIfInBounds_toArray, List.set_cons_zero, List.set_cons_succ]
  refine Late.take (i := 5) (v := ?_) rfl (by kernel_rfl) (by kernel_rfl) (by kernel_rfl) (by kernel_rfl) (fun _ _ _ h => h) (Or.inl ⟨by rfl, ?_⟩) hS ?_
  rotate_left 1
  · (intro w hSw; (try dsimp only at hSw); go_split_ands; go_simp; first | done | with_reducible rfl)
  simp only [Act.put, List.setIfInBounds_toArray, List.set_cons_zero, List.set_cons_succ]
  have qV : Below V.heap.size V V.drew := (Below.refl _ _).drew
  refine Late.one (i := 6) (by kernel_rfl) rfl (fun K hK => ?_)
  rw [if_pos (by kernel_rfl)]
  go_simp
  refine (l15Ans_any _ d1 q1 _ _ ys (MA.out.rd.below qV) (by omega)).mono ?_
  rintro e4 w4 ⟨u0, e0, rfl, y0, b4⟩
  have q4 : Below V.heap.size V w4 := qV.trans b4
  have y0 : tAns.Own w4 V.heap.size w4.heap.size _ _ := y0
  have z4 := q4.size
  have hSX : (∀ q, w4.cell? ⟨N, q, none⟩ = V.cell? ⟨N, q, none⟩) ∧ (∀ q, w4.cell? ⟨w.heap.size + 1, q, none⟩ = V.cell? ⟨w.heap.size + 1, q, none⟩) := ⟨fun q => q4.cell (p := ⟨N, q, none⟩) lX, fun q => q4.cell (p := ⟨w.heap.size + 1, q, none⟩) lA⟩
  clear hS b4
  go_wp2_with fail
  refine hK.out _ _ (fun _ => hSX) ?_
  clear hK K
  obtain ⟨fy, my, ry⟩ := y0.mine
  clear y0
  have hy : ∀ y ∈ fy, lo ≤ y ∧ y ≠ N ∧ (y ∉ f0 ∧ y ∉ f1 ∧ y ∉ f2 ∧ y ∉ f3 ∧ y ∉ f4 ∧ y ∉ f5) := fun y hy => ⟨by have := ry y hy; omega, by have := ry y hy; omega, by have := ry y hy; exact HP.out.beyond (.inl (by omega))⟩
  have mE := my
  have hE := hy
  have zX := q4.size
  have nb := new_below w4 (.cells #[.int .i64 d1, .int .i64 q1, .slice u0 ys.length e0] 55)
  have n1 : (w4.alloc (.cells #[.int .i64 d1, .int .i64 q1, .slice u0 ys.length e0] 55)).heap.size = w4.heap.size + 1 := World.size_alloc _ _
  have qN := Below.andThen q4 nb
  have hSN : (∀ q, (w4.alloc (.cells #[.int .i64 d1, .int .i64 q1, .slice u0 ys.length e0] 55)).cell? ⟨N, q, none⟩ = V.cell? ⟨N, q, none⟩) ∧ (∀ q, (w4.alloc (.cells #[.int .i64 d1, .int .i64 q1, .slice u0 ys.length e0] 55)).cell? ⟨w.heap.size + 1, q, none⟩ = V.cell? ⟨w.heap.size + 1, q, none⟩) := ⟨fun q => qN.cell (p := ⟨N, q, none⟩) lX, fun q => qN.cell (p := ⟨w.heap.size + 1, q, none⟩) lA⟩
  refine Late.one (i := 7) (by kernel_rfl) rfl (fun K hK => ?_)
  rw [if_pos (by kernel_rfl)]
  go_wp2_with fail
  refine hK.out _ _ (fun _ => hSN) ?_
  clear hK K hSX
  have PN := HP.out.turned (Turned.ofBelow qN []) (by simp)
  have XN := X.below qN lX
  replace mE := mE.below nb
  have hdis : ∀ y ∈ f4, y ∉ fy := fun y hy hy' => (hE y hy').2.2.2.2.2.2.1 hy
  refine Late.one (i := 8) (by kernel_rfl) rfl (fun K hK => ?_)
  refine step_appT tAns (by rfl) _ _ 32 (by rfl) 55 i4 (.agg #[.int .i64 0, .int .i64 0, .slice none 0 0]) 40 Tryz.underlying32 hi4 hz40 hz41 hz42 rfl (by decide) (.slice an1 an.length ac1) an f4 (by rfl) PN.m4 ⟨w4.heap.size, 0, none⟩ 1 [.int .i64 d1, .int .i64 q1, .slice u0 ys.length e0] (d1, q1, ys) fy (by rfl) mE hdis (news_new w4 #[.int .i64 d1, .int .i64 q1, .slice u0 ys.length e0] _) (by intro u hu; simp at hu; rcases hu with rfl | rfl | rfl <;> rfl) (by unfold maxLen; omega) (by omega) ?_
  intro g4 cp4 wZ4 frZ mZ sZ tZ
  have zZ := tZ.size
  have hSZ : (∀ q, wZ4.cell? ⟨N, q, none⟩ = V.cell? ⟨N, q, none⟩) ∧ (∀ q, wZ4.cell? ⟨w.heap.size + 1, q, none⟩ = V.cell? ⟨w.heap.size + 1, q, none⟩) := ⟨fun q => (World.cell?_of_block (tZ.block (N) (by omega) n4)).trans (hSN.1 q), fun q => (World.cell?_of_block (tZ.block (w.heap.size + 1) (by omega) (fun hy => by have := (HP0.out.own4 hy).1; omega))).trans (hSN.2 q)⟩
  refine hK.out _ _ (fun _ => hSZ) ?_
  clear hK K hSN
  have XZ := XN.turned tZ n4
  have hfr : ∀ y ∈ frZ, (lo ≤ y ∧ y ≠ N) ∧ y ∉ f0 ∧ y ∉ f1 ∧ y ∉ f2 ∧ y ∉ f3 ∧ y ∉ f5 := fun y hy => by
    rcases sZ y hy with l | l | l
    · have r := HP.out.own4 l
      exact ⟨⟨r.1.1, fun e => n4 (e ▸ l)⟩, r.2⟩
    · have r := hE y l
      exact ⟨⟨r.1, r.2.1⟩, r.2.2.1, r.2.2.2.1, r.2.2.2.2.1, r.2.2.2.2.2.1, r.2.2.2.2.2.2.2⟩
    · have r := HP.out.beyond (b := y) (.inl (by omega))
      exact ⟨⟨by omega, by omega⟩, r.1, r.2.1, r.2.2.1, r.2.2.2.1, r.2.2.2.2.2⟩
  have PZ := PN.set4 tZ (fun y hy => (PN.own4 hy).2) mZ (fun y hy => ⟨(hfr y hy).1.1, (hfr y hy).2⟩) (by omega)
  have E : BoxAt wZ4 _ N 35 [.int .i64 x.id, .int .i64 x.n, .int .i64 x.s, vm, .int .i64 x.lost, .int .i64 x.built, .int .i64 x.seq, .int .i64 x.tail, .int .i64 x.gen, vd, .int .i64 x.fuse, .bool x.down, .bool x.broken, vw, vj, .slice (some ⟨g4, 0, none⟩) (an.length + 1) cp4, .slice ts1 ts.length tc1] := XZ.at.set 15 (.slice (some ⟨g4, 0, none⟩) (an.length + 1) cp4)
  have c15 := XZ.cell 15
  have fz := XZ.frozen 15
  have nz : N ∉ frZ := fun hy => (hfr N hy).1.2 rfl
  have TZ := hidden ((Turned.ofBelow qN (N :: (f0 ++ (f1 ++ (f2 ++ (f3 ++ (f4 ++ f5)))))) ).trans (tZ.mono (fun y hy => List.mem_cons_of_mem _ (mem_six.2 (.inr (.inr (.inr (.inr (.inl hy)))))))))
  have hfc : ∀ y ∈ fc, y ∉ frZ := fun y hc hy => by
    have hl := MC.out.lt y hc
    rcases sZ y hy with l | l | l
    · exact (not_six.1 (HC.out y hc).2.2).2.2.2.2.1 l
    · have := ry y l; omega
    · omega
  have hfa : ∀ y ∈ fa, y ∉ frZ := fun y hc hy => by
    have hl := MA.out.lt y hc
    rcases sZ y hy with l | l | l
    · exact (not_six.1 (HA.out y hc).2.2).2.2.2.2.1 l
    · have := ry y l; omega
    · omega
  have hPZ := hidden PZ
  have hFR := hidden hfr
  clear PZ hfr mZ sZ tZ mE hE hdis XN PN qN nb n1 zX my ry hy q4 z4
  refine Late.one (i := 9) (by kernel_rfl) rfl (fun K hK => ?_)
  rw [if_pos (by kernel_rfl)]
  go_wp2_with fail
  refine hK.out _ _ (fun _ => hSZ) ?_
  clear hK K
  refine Late.one (i := 10) (by kernel_rfl) rfl (fun K hK => ?_)
  rw [if_pos (by kernel_rfl)]
  go_wp2_with fail
  refine hK.out _ _ (fun _ => hSZ) ?_
  clear hK K
  refine Late.one (i := 11) (by kernel_rfl) rfl (fun K hK => ?_)
  clear hSZ
  rw [if_pos (by kernel_rfl)]
  go_wp2_with fail
  refine hK.out _ _ (fun h => absurd rfl h) ?_
  clear hK K
  refine Late.done (by kernel_rfl) ?_ _
  clear c15 fz XZ
  clear a0 a1 a2 x15
  have nq0 := n0
  have nq1 := n1
  have nq2 := n2
  have nq3 := n3
  have nq5 := n5
  refine seal_then E ?_
  clear E
  intro V2 E
  have TE : Turned (N :: (f0 ++ (f1 ++ (f2 ++ (f3 ++ (f4 ++ f5)))))) wZ4 V2 := But.asTurned E.but List.mem_cons_self
  have hNf : ∀ y, y ∈ f0 ∨ y ∈ f1 ∨ y ∈ f2 ∨ y ∈ f3 ∨ y ∈ frZ ∨ y ∈ f5 → y < N ∨ N + 1 ≤ y := fun y hmem => by
    have : y ≠ N := fun e => by
      subst e
      rcases hmem with l | l | l | l | l | l
      · exact nq0 l
      · exact nq1 l
      · exact nq2 l
      · exact nq3 l
      · exact nz l
      · exact nq5 l
    omega
  have HP := hidden ((hPZ.out.but E.but hNf).widen (by have := E.size; omega) : EngP V2 lo V2.heap.size _ _ _ _ _ _ _ f0 f1 f2 f3 frZ f5)
  have HT := hidden ((HT0.out.trans TZ.out).trans TE)
  have zE := Nat.le_of_eq E.size
  have zE2 := Nat.le_of_eq E.size.symm
  have T2 := TZ.out.trans TE
  have X := E.box
  have hCn : ∀ y, w.heap.size ≤ y → y ∉ N :: (f0 ++ (f1 ++ (f2 ++ (f3 ++ (f4 ++ f5))))) := fun y hy h => by
    rcases List.mem_cons.1 h with h | h
    · omega
    · have := HP0.out.r y (mem_six.1 h); omega
  have C := C.kept (T2.block _ lC (hCn _ (by omega)))
  have A := A.kept (T2.block _ lA (hCn _ (by omega)))
  have HC2 : Hid (∀ y ∈ fc, lo ≤ y ∧ y ≠ N ∧ y ∉ f0 ∧ y ∉ f1 ∧ y ∉ f2 ∧ y ∉ f3 ∧ y ∉ frZ ∧ y ∉ f5) := fun y hy => by
    obtain ⟨h1, h2, h3⟩ := HC.out y hy
    obtain ⟨k0, k1, k2, k3, _, k5⟩ := not_six.1 h3
    exact ⟨h1, h2, k0, k1, k2, k3, hfc y hy, k5⟩
  have HA2 : Hid (∀ y ∈ fa, lo ≤ y ∧ y ≠ N ∧ y ∉ f0 ∧ y ∉ f1 ∧ y ∉ f2 ∧ y ∉ f3 ∧ y ∉ frZ ∧ y ∉ f5) := fun y hy => by
    obtain ⟨h1, h2, h3⟩ := HA.out y hy
    obtain ⟨k0, k1, k2, k3, _, k5⟩ := not_six.1 h3
    exact ⟨h1, h2, k0, k1, k2, k3, hfa y hy, k5⟩
  have MC2 := hidden (MC.out.kept T2 (fun y hy h => by
    rcases List.mem_cons.1 h with h | h
    · exact (HC.out y hy).2.1 h
    · exact (HC.out y hy).2.2 h))
  have MA2 := hidden (MA.out.kept T2 (fun y hy h => by
    rcases List.mem_cons.1 h with h | h
    · exact (HA.out y hy).2.1 h
    · exact (HA.out y hy).2.2 h))
  obtain ⟨f6, hf6⟩ : ∃ f6, f6 = frZ := ⟨_, rfl⟩
  subst hf6
  have nq4 := nz
  have lX := X.lt
  have lC := C.lt
  have lA := A.lt
  have zV2 := T2.size
  clear MC MA HC HA HT0 TZ T2 TE E hPZ hFR nz hNf hfc hfa n4 i4 hi4 hz40 hz41 hz42 hCn
  have MC := MC2
  have MA := MA2
  have HT0 := HT
  clear MC2 MA2 HT
  go_wp2_with fail
  obtain ⟨a0, a1, a2⟩ := A.cells3e
  obtain ⟨c0, c1, c2, c3, c4⟩ := C.cells5
  have x16 := X.cell 16
  obtain ⟨i5, hi5, hz50, hz51, hz52⟩ := info_parts Tryz.infoTurn15
  refine Late.start (S := fun w' => (∀ q, w'.cell? ⟨N, q, none⟩ = V2.cell? ⟨N, q, none⟩) ∧ (∀ q, w'.cell? ⟨w.heap.size, q, none⟩ = V2.cell? ⟨w.heap.size, q, none⟩) ∧ (∀ q, w'.cell? ⟨w.heap.size + 1, q, none⟩ = V2.cell? ⟨w.heap.size + 1, q, none⟩)) (k := 12) (by kernel_rfl) ?_
  have hS : (∀ q, V2.drew.cell? ⟨N, q, none⟩ = V2.cell? ⟨N, q, none⟩) ∧ (∀ q, V2.drew.cell? ⟨w.heap.size, q, none⟩ = V2.cell? ⟨w.heap.size, q, none⟩) ∧ (∀ q, V2.drew.cell? ⟨w.heap.size + 1, q, none⟩ = V2.cell? ⟨w.heap.size + 1, q, none⟩) := ⟨fun _ => rfl, fun _ => rfl, fun _ => rfl⟩
  refine Late.take (i := 0) (v := ?_) rfl (by kernel_rfl) (by kernel_rfl) (by kernel_rfl) (by kernel_rfl) (fun _ _ _ h => h) (Or.inl ⟨by rfl, ?_⟩) hS ?_
  rotate_left 1
  · (intro w hSw; (try dsimp only at hSw); go_split_ands; go_simp; first | done | with_reducible rfl)
  simp only [Act.put, List.setIfInBounds_toArray, List.set_cons_zero, List.set_cons_succ]
  refine Late.take (i := 1) (v := ?_) rfl (by kernel_rfl) (by kernel_rfl) (by kernel_rfl) (by kernel_rfl) (fun _ _ _ h => h) (Or.inl ⟨by rfl, ?_⟩) hS ?_
  rotate_left 1
  · (intro w hSw; (try dsimp only at hSw); go_split_ands; go_simp; first | done | with_reducible rfl)
  simp only [Act.put, List.setIfInBounds_toArray, List.set_cons_zero, List.set_cons_succ]
  refine Late.take (i := 2) (v := ?_) rfl (by kernel_rfl) (by kernel_rfl) (by kernel_rfl) (by kernel_rfl) (fun _ _ _ h => h) (Or.inl ⟨by rfl, ?_⟩) hS ?_
  rotate_left 1
  · (intro w hSw; (try dsimp only at hSw); go_split_ands; go_simp; first | done | with_reducible rfl)
  simp only [Act.put, List.setIfInBounds_toArray, List.set_cons_zero, List.set_cons_succ]
  refine Late.take (i := 3) (v := ?_) rfl (by kernel_rfl) (by kernel_rfl) (by kernel_rfl) (by kernel_rfl) (fun _ _ _ h => h) (Or.inl ⟨by rfl, ?_⟩) hS ?_
  rotate_left 1
  · (intro w hSw; (try dsimp only at hSw); go_split_ands; go_simp; first | done | with_reducible rfl)
  simp only [Act.put, List.setIfInBounds_toArray, List.set_cons_zero, List.set_cons_succ]
  refine Late.take (i := 4) (v := ?_) rfl (by kernel_rfl) (by kernel_rfl) (by kernel_rfl) (by kernel_rfl) (fun _ _ _ h => h) (Or.inl ⟨by rfl, ?_⟩) hS ?_
  rotate_left 1
  · (intro w hSw; (try dsimp only at hSw); go_split_ands; go_simp; first | done | with_reducible rfl)
  simp only [Act.put, List.setIfInBounds_toArray, List.set_cons_zero, List.set_cons_succ]
  refine Late.take (i := 5) (v := ?_) rfl (by kernel_rfl) (by kernel_rfl) (by kernel_rfl) (by kernel_rfl) (fun _ _ _ h => h) (Or.inl ⟨by rfl, ?_⟩) hS ?_
  rotate_left 1
  · (intro w hSw; (try dsimp only at hSw); go_split_ands; go_simp; first | done | with_reducible rfl)
  simp only [Act.put, List.setIfInBounds_toArray, List.set_cons_zero, List.set_cons_succ]
  refine Late.take (i := 6) (v := ?_) rfl (by kernel_rfl) (by kernel_rfl) (by kernel_rfl) (by kernel_rfl) (fun _ _ _ h => h) (Or.inl ⟨by rfl, ?_⟩) hS ?_
  rotate_left 1
  · (intro w hSw; (try dsimp only at hSw); go_split_ands; go_simp; first | done | with_reducible rfl)
  simp only [Act.put, List.setIfInBounds_toArray, List.set_cons_zero, List.set_cons_succ]
  have qV : Below V2.heap.size V2 V2.drew := (Below.refl _ _).drew
  have hSX := hS
  clear hS
  have mc := MC.out
  have my : tAns.Mine V2 [.int .i64 d1, .int .i64 q1, .slice ay ys.length cy] (d1, q1, ys) fa := int_mine_of (x := d1) (int_mine_of (x := q1) MA.out)
  have hy : ∀ y ∈ fa, lo ≤ y ∧ y ≠ N ∧ (y ∉ f0 ∧ y ∉ f1 ∧ y ∉ f2 ∧ y ∉ f3 ∧ y ∉ f6 ∧ y ∉ f5) := HA2.out
  have mE : tTurn.Mine V2 [.int .i64 o, .int .i64 d, .int .i64 b, .int .i64 k, .slice av zs.length cv, .int .i64 d1, .int .i64 q1, .slice ay ys.length cy] (o, d, b, k, zs, d1, q1, ys) (fc ++ fa) := int_mine_of (x := o) (int_mine_of (x := d) (int_mine_of (x := b) (int_mine_of (x := k) (ints_mine_of mc my (HCA.out)))))
  have hE : ∀ y ∈ (fc ++ fa), lo ≤ y ∧ y ≠ N ∧ (y ∉ f0 ∧ y ∉ f1 ∧ y ∉ f2 ∧ y ∉ f3 ∧ y ∉ f6 ∧ y ∉ f5) := fun y h => by
    rcases List.mem_append.1 h with h | h
    · exact HC2.out y h
    · exact hy y h
  refine Late.one (i := 7) (by kernel_rfl) rfl (fun K hK => ?_)
  go_simp
  refine hK.out _ _ (fun _ => hSX) ?_
  clear hK K
  have zX := qV.size
  have nb := (new_below V2 (.cells #[.int .i64 o, .int .i64 d, .int .i64 b, .int .i64 k, .slice av zs.length cv, .int .i64 d1, .int .i64 q1, .slice ay ys.length cy] 95)).drew
  have n1 : (V2.alloc (.cells #[.int .i64 o, .int .i64 d, .int .i64 b, .int .i64 k, .slice av zs.length cv, .int .i64 d1, .int .i64 q1, .slice ay ys.length cy] 95)).drew.heap.size = V2.heap.size + 1 := World.size_alloc _ _
  have qN := nb
  have hSN : (∀ q, (V2.alloc (.cells #[.int .i64 o, .int .i64 d, .int .i64 b, .int .i64 k, .slice av zs.length cv, .int .i64 d1, .int .i64 q1, .slice ay ys.length cy] 95)).drew.cell? ⟨N, q, none⟩ = V2.cell? ⟨N, q, none⟩) ∧ (∀ q, (V2.alloc (.cells #[.int .i64 o, .int .i64 d, .int .i64 b, .int .i64 k, .slice av zs.length cv, .int .i64 d1, .int .i64 q1, .slice ay ys.length cy] 95)).drew.cell? ⟨w.heap.size, q, none⟩ = V2.cell? ⟨w.heap.size, q, none⟩) ∧ (∀ q, (V2.alloc (.cells #[.int .i64 o, .int .i64 d, .int .i64 b, .int .i64 k, .slice av zs.length cv, .int .i64 d1, .int .i64 q1, .slice ay ys.length cy] 95)).drew.cell? ⟨w.heap.size + 1, q, none⟩ = V2.cell? ⟨w.heap.size + 1, q, none⟩) := ⟨fun q => qN.cell (p := ⟨N, q, none⟩) lX, fun q => qN.cell (p := ⟨w.heap.size, q, none⟩) lC, fun q => qN.cell (p := ⟨w.heap.size + 1, q, none⟩) lA⟩
  refine Late.one (i := 8) (by kernel_rfl) rfl (fun K hK => ?_)
  rw [if_pos (by kernel_rfl)]
  go_wp2_with fail
  refine hK.out _ _ (fun _ => hSN) ?_
  clear hK K hSX
  have PN := HP.out.turned (Turned.ofBelow qN []) (by simp)
  have XN := X.below qN lX
  replace mE := mE.below nb
  have hdis : ∀ y ∈ f5, y ∉ (fc ++ fa) := fun y hy hy' => (hE y hy').2.2.2.2.2.2.2 hy
  refine Late.one (i := 9) (by kernel_rfl) rfl (fun K hK => ?_)
  refine step_appT tTurn (by rfl) _ _ 33 (by rfl) 95 i5 (.agg #[.int .i64 0, .int .i64 0, .int .i64 0, .int .i64 0, .slice none 0 0, .int .i64 0, .int .i64 0, .slice none 0 0]) 96 Tryz.underlying33 hi5 hz50 hz51 hz52 rfl (by decide) (.slice ts1 ts.length tc1) ts f5 (by rfl) PN.m5 ⟨V2.heap.size, 0, none⟩ 1 [.int .i64 o, .int .i64 d, .int .i64 b, .int .i64 k, .slice av zs.length cv, .int .i64 d1, .int .i64 q1, .slice ay ys.length cy] (o, d, b, k, zs, d1, q1, ys) (fc ++ fa) (by rfl) mE hdis (news_new V2 #[.int .i64 o, .int .i64 d, .int .i64 b, .int .i64 k, .slice av zs.length cv, .int .i64 d1, .int .i64 q1, .slice ay ys.length cy] _) (by intro u hu; simp at hu; rcases hu with rfl | rfl | rfl | rfl | rfl | rfl | rfl | rfl <;> rfl) (by unfold maxLen; omega) (by omega) ?_
  intro g5 cp5 wZ5 frZ mZ sZ tZ
  have zZ := tZ.size
  have hSZ : (∀ q, wZ5.cell? ⟨N, q, none⟩ = V2.cell? ⟨N, q, none⟩) ∧ (∀ q, wZ5.cell? ⟨w.heap.size, q, none⟩ = V2.cell? ⟨w.heap.size, q, none⟩) ∧ (∀ q, wZ5.cell? ⟨w.heap.size + 1, q, none⟩ = V2.cell? ⟨w.heap.size + 1, q, none⟩) := ⟨fun q => (World.cell?_of_block (tZ.block (N) (by omega) n5)).trans (hSN.1 q), fun q => (World.cell?_of_block (tZ.block (w.heap.size) (by omega) (fun hy => by have := (HP0.out.own5 hy).1; omega))).trans (hSN.2.1 q), fun q => (World.cell?_of_block (tZ.block (w.heap.size + 1) (by omega) (fun hy => by have := (HP0.out.own5 hy).1; omega))).trans (hSN.2.2 q)⟩
  refine hK.out _ _ (fun _ => hSZ) ?_
  clear hK K hSN
  have XZ := XN.turned tZ n5
  have hfr : ∀ y ∈ frZ, (lo ≤ y ∧ y ≠ N) ∧ y ∉ f0 ∧ y ∉ f1 ∧ y ∉ f2 ∧ y ∉ f3 ∧ y ∉ f6 := fun y hy => by
    rcases sZ y hy with l | l | l
    · have r := HP.out.own5 l
      exact ⟨⟨r.1.1, fun e => n5 (e ▸ l)⟩, r.2⟩
    · have r := hE y l
      exact ⟨⟨r.1, r.2.1⟩, r.2.2.1, r.2.2.2.1, r.2.2.2.2.1, r.2.2.2.2.2.1, r.2.2.2.2.2.2.1⟩
    · have r := HP.out.beyond (b := y) (.inl (by omega))
      exact ⟨⟨by omega, by omega⟩, r.1, r.2.1, r.2.2.1, r.2.2.2.1, r.2.2.2.2.1⟩
  have PZ := PN.set5 tZ (fun y hy => (PN.own5 hy).2) mZ (fun y hy => ⟨(hfr y hy).1.1, (hfr y hy).2⟩) (by omega)
  have E : BoxAt wZ5 _ N 35 [.int .i64 x.id, .int .i64 x.n, .int .i64 x.s, vm, .int .i64 x.lost, .int .i64 x.built, .int .i64 x.seq, .int .i64 x.tail, .int .i64 x.gen, vd, .int .i64 x.fuse, .bool x.down, .bool x.broken, vw, vj, .slice (some ⟨g4, 0, none⟩) (an.length + 1) cp4, .slice (some ⟨g5, 0, none⟩) (ts.length + 1) cp5] := XZ.at.set 16 (.slice (some ⟨g5, 0, none⟩) (ts.length + 1) cp5)
  have c16 := XZ.cell 16
  have fz := XZ.frozen 16
  have nz : N ∉ frZ := fun hy => (hfr N hy).1.2 rfl
  have TZ := hidden ((Turned.ofBelow qN (N :: (f0 ++ (f1 ++ (f2 ++ (f3 ++ (f4 ++ f5)))))) ).trans (tZ.mono (fun y hy => List.mem_cons_of_mem _ (mem_six.2 (.inr (.inr (.inr (.inr (.inr (hy))))))))))
  have hPZ := hidden PZ
  have hFR := hidden hfr
  clear PZ hfr mZ sZ tZ mE hE hdis XN PN qN nb n1 zX
  refine Late.one (i := 10) (by kernel_rfl) rfl (fun K hK => ?_)
  rw [if_pos (by kernel_rfl)]
  go_wp2_with fail
  refine hK.out _ _ (fun _ => hSZ) ?_
  clear hK K
  refine Late.one (i := 11) (by kernel_rfl) rfl (fun K hK => ?_)
  rw [if_pos (by kernel_rfl)]
  go_wp2_with fail
  refine hK.out _ _ (fun _ => hSZ) ?_
  clear hK K
  refine Late.one (i := 12) (by kernel_rfl) rfl (fun K hK => ?_)
  clear hSZ
  rw [if_pos (by kernel_rfl)]
  go_wp2_with fail
  refine hK.out _ _ (fun h => absurd rfl h) ?_
  clear hK K
  refine Late.done (by kernel_rfl) ?_ _
  clear c16 fz XZ
  clear a0 a1 a2 c0 c1 c2 c3 c4 x16
  refine seal_then E ?_
  clear E
  intro V3 E
  have TE : Turned (N :: (f0 ++ (f1 ++ (f2 ++ (f3 ++ (f4 ++ f5)))))) wZ5 V3 := But.asTurned E.but List.mem_cons_self
  have hNf : ∀ y, y ∈ f0 ∨ y ∈ f1 ∨ y ∈ f2 ∨ y ∈ f3 ∨ y ∈ f6 ∨ y ∈ frZ → y < N ∨ N + 1 ≤ y := fun y hmem => by
    have : y ≠ N := fun e => by
      subst e
      rcases hmem with l | l | l | l | l | l
      · exact nq0 l
      · exact nq1 l
      · exact nq2 l
      · exact nq3 l
      · exact nq4 l
      · exact nz l
    omega
  have HP := hidden ((hPZ.out.but E.but hNf).widen (by have := E.size; omega) : EngP V3 lo V3.heap.size _ _ _ _ _ _ _ f0 f1 f2 f3 f6 frZ)
  have HT := hidden ((HT0.out.trans TZ.out).trans TE)
  have zE := Nat.le_of_eq E.size
  have zE2 := Nat.le_of_eq E.size.symm
  have X := E.box
  have hN' : N ∉ f0 ++ (f1 ++ (f2 ++ (f3 ++ (f6 ++ frZ)))) := fun h => by have := hNf N (mem_six.1 h); omega
  clear E A C
  go_wp2
  refine bodyPost_end (v := .tuple #[]) (results_none rfl _ _ _) rfl ?_
  exact ⟨rfl, ⟨_, _, _, _, _, _, _, f0, f1, f2, f3, f6, frZ, rfl, X, HP.out, hN'⟩, HT.out⟩

end Go.Proofs.YtbkkjfgjlapadaaGreat

/-
 The walks of the program's copyWords and copyMem and of the specification's l2Copy: the same data in memory of its own. Condition: it weighs at most 2097152.
-/
import Derived.Test.YtlcjfgmmjkandaaHeld
import Derived.Test.YtlcjfgmmjkandaaWalkArrOk
import Derived.Test.YtlcjfgmmjkandaaNew9
import Derived.Test.YtlcjfgmmjkandaaWalkMarkIn
import Derived.Test.YtlcjfgmmjkandaaArr7
import Derived.Test.YtlcjfgmmjkandaaFrame
import Derived.Test.YtlcjfgmmjkandaaWalkCopyWords
import Derived.Test.YtlcjfgmmjkandaaOrder

set_option maxRecDepth 100000
set_option maxHeartbeats 8000000
set_option linter.unusedSimpArgs false

namespace Go.Proofs.Ytlcjfgmmjkandaa
open Go.RowKit

theorem entsB_no {x : ArrN} {ds : List (Int × List Int)} {i : Nat} {d : Int × List Int} (hx : ds[i]? = some d) (h : entAt x ds i d = false) : entsB x ds = false := allIx_no hx h
theorem entAt_1 {x : ArrN} {ds : List (Int × List Int)} {i : Nat} {y : Int} {zs : List Int} (h : inB y 0 (x.s - 1) = false) : entAt x ds i (y, zs) = false := by unfold entAt; rw [h]; rfl
theorem entAt_2 {x : ArrN} {ds : List (Int × List Int)} {i : Nat} {y : Int} {zs : List Int} (h : ¬ (zs.length : Int) = x.n - 1) : entAt x ds i (y, zs) = false := by unfold entAt; simp [h]
theorem entAt_3 {x : ArrN} {ds : List (Int × List Int)} {i : Nat} {y : Int} {zs : List Int} (h : allW zs = false) : entAt x ds i (y, zs) = false := by unfold entAt; simp [h]
theorem entAt_4 {x : ArrN} {ds : List (Int × List Int)} {y : Int} {zs : List Int} (h1 : inB y 0 (x.s - 1) = true) (h2 : (zs.length : Int) = x.n - 1) (h3 : allW zs = true) : entAt x ds 0 (y, zs) = true := by unfold entAt; simp [h1, h2, h3]
theorem entAt_5 {x : ArrN} {ds : List (Int × List Int)} {p : Nat} {y : Int} {zs : List Int} {q : Int × List Int} (h1 : inB y 0 (x.s - 1) = true) (h2 : (zs.length : Int) = x.n - 1) (h3 : allW zs = true) (hq : ds[p]? = some q) : entAt x ds (p + 1) (y, zs) = decide (q.1 < y) := by
 unfold entAt
 rw [h1, h3]
 have : ds.getD (p + 1 - 1) (0, []) = q := by rw [Nat.add_sub_cancel, List.getD_eq_getElem?_getD, hq]; rfl
 simp only [h2, decide_true, Bool.true_and, this]
 simp

theorem l6Dirty_any (w : World) (G : TypeId) (x : ArrN) (am ad : Option Addr) (nm cm nd cd : Nat) (ds : List (Int × List Int)) (h0 : (tWrS G).Rd w [.slice ad nd cd] ds) (hw : wtWrS ds <= 2097152) (hg : geoB x.n x.s = true) :
 Calls Try.prog 69 #[.agg #[.int .i64 x.id, .int .i64 x.n, .int .i64 x.s, .slice am nm cm, .int .i64 x.lost, .int .i64 x.built, .int .i64 x.seq, .int .i64 x.tail, .int .i64 x.gen, .slice ad nd cd, .int .i64 x.fuse, .bool x.down, .bool x.broken]] w fun e w' => e = .returned (.bool (entsB x ds)) /\ Below w.heap.size w w' := by
 obtain ⟨hl, hc, hm⟩ := row_length h0
 obtain ⟨g1, g2, g3, g4⟩ := geoB_iff.1 hg
 have hA := new_below w (.cells #[.int .i64 x.id, .int .i64 x.n, .int .i64 x.s, .slice am nm cm, .int .i64 x.lost, .int .i64 x.built, .int .i64 x.seq, .int .i64 x.tail, .int .i64 x.gen, .slice ad nd cd, .int .i64 x.fuse, .bool x.down, .bool x.broken] 33)
 have X := Box.new w 33 #[.int .i64 x.id, .int .i64 x.n, .int .i64 x.s, .slice am nm cm, .int .i64 x.lost, .int .i64 x.built, .int .i64 x.seq, .int .i64 x.tail, .int .i64 x.gen, .slice ad nd cd, .int .i64 x.fuse, .bool x.down, .bool x.broken]
 have zA := X.lt
 have hnd : nd <= 2097152 := by unfold wtWrS at hw; omega
 have h1 := h0.below hA
 have hws : IntKind.i64.wrap (x.s - 1) = x.s - 1 := IntWalk.i64_in _ (by omega)
 have hwn : IntKind.i64.wrap (x.n - 1) = x.n - 1 := IntWalk.i64_in _ (by omega)
 go_enter Try.func69, Try.ntmps69
 go_wp2
 generalize w.alloc (.cells #[.int .i64 x.id, .int .i64 x.n, .int .i64 x.s, .slice am nm cm, .int .i64 x.lost, .int .i64 x.built, .int .i64 x.seq, .int .i64 x.tail, .int .i64 x.gen, .slice ad nd cd, .int .i64 x.fuse, .bool x.down, .bool x.broken] 33) = W at hA X zA h1 ⊢
 go_loopw [3] (fun i wr => ∃ j : Nat, j <= nd /\ i = .int .i64 j /\ (∀ (q : Nat) (d : Int × List Int), q < j -> ds[q]? = some d -> entAt x ds q d = true) /\ Below W.heap.size W wr) (fun i _ => nd - (intOf i).toNat)
 case atStart => exact ⟨0, Nat.zero_le _, rfl, fun q d hq => by omega, Below.refl _ _⟩
 case round =>
  obtain ⟨j, hj, rfl, hall, hb⟩ := hrel
  have Xr := X.below hb zA
  obtain ⟨k0, k1, k2, k3, k4, k5, k6, k7, k8, k9, k10, k11, k12⟩ := Xr.cells13
  by_cases hjn : j < nd
  . rcases pairs_at rfl h1 with h0' | ⟨b, off, rfl, hbl, hcs⟩
    . omega
    have hdj : ds[j]? = some (ds[j]'(by omega)) := List.getElem?_eq_getElem (by omega)
    generalize ds[j]'(by omega) = d at hdj
    obtain ⟨v0, v1, hv0, hv1, hrv⟩ := hcs j d hdj
    obtain ⟨rfl, hrw⟩ := wr_rd hrv
    obtain ⟨av, cv, rfl⟩ := row_shape hrw
    obtain ⟨y, zs⟩ := d
    simp only at hv0 hv1 hrw hrv
    have u0 := (hb.cell (p := ⟨b, off + j * 2, none⟩) hbl).trans hv0
    have u1 := (hb.cell (p := ⟨b, off + j * 2 + 1, none⟩) hbl).trans hv1
    have i1 : (0 : Int) <= (j : Int) := by omega
    have i2 : (j : Int) < (nd : Int) := by omega
    have hwz : zs.length <= 2097152 := Nat.le_trans (inner_le' hdj) hw
    have HDJ := hidden hdj
    have b1 := new_below wr (.cells #[.int .i64 y, .slice av zs.length cv] 99)
    have Y1 := Box.new wr 99 #[.int .i64 y, .slice av zs.length cv]
    have X1 := Xr.below b1 Xr.lt
    have RZ := (ints_rd ((hrw.below hb).below b1)).1
    have B1 := hb.trans (b1.mono hb.size)
    obtain ⟨y0, y1⟩ := Y1.cells2
    obtain ⟨e0, e1, e2, e3, e4, e5, e6, e7, e8, e9, e10, e11, e12⟩ := X1.cells13
    have hq : ∀ (p : Nat) (q : Int × List Int), ds[p]? = some q -> (wr.alloc (.cells #[.int .i64 y, .slice av zs.length cv] 99)).cell? ⟨b, off + p * 2, none⟩ = some (.int .i64 q.1) := fun p q hpq => by
     obtain ⟨c0, c1, hc0, hc1, hrc⟩ := hcs p q hpq
     obtain ⟨rfl, _⟩ := wr_rd hrc
     exact (B1.cell (p := ⟨b, off + p * 2, none⟩) hbl).trans hc0
    have HQ := hidden hq
    clear hcs hv0 hv1 hrv hrw hdj hq b1 e0 e3 e4 e5 e6 e7 e8 e10 e11 e12
    cases hI : inB y 0 (x.s - 1)
    . skip
      go_wp2_with fail
      generalize wr.alloc (.cells #[.int .i64 y, .slice av zs.length cv] 99) = w1 at X1 Y1 RZ B1 y0 y1 e1 e2 e9 HQ ⊢
      refine wp_region_held_drew (S := fun w' => w'.cell? ⟨wr.heap.size, 0, none⟩ = some (.int .i64 y) /\ w'.cell? ⟨wr.heap.size, 1, none⟩ = some (.slice av zs.length cv) /\ w'.cell? ⟨w.heap.size, 1, none⟩ = some (.int .i64 x.n) /\ w'.cell? ⟨w.heap.size, 2, none⟩ = some (.int .i64 x.s) /\ w'.cell? ⟨w.heap.size, 9, none⟩ = some (.slice (some ⟨b, off, none⟩) nd cd)) (by kernel_rfl) ?_ (fun hHeld => ?_)
      . exact ⟨y0, y1, e1, e2, e9⟩
      refine held_t 0 hHeld ?_
      refine held_t 1 hHeld ?_
      refine held_t 2 hHeld ?_
      refine held_t 3 hHeld ?_
      refine held_t 4 hHeld ?_
      refine held_t 5 hHeld ?_
      refine held_one (i := 6) (by kernel_rfl) rfl (by kernel_rfl) (fun K hK => ?_)
      go_simp
      refine (l1In_any _ _ _ _).mono ?_
      rintro e w2 ⟨rfl, hw2⟩
      subst hw2
      rw [hI]
      go_wp2_with fail
      clear hHeld
      refine hK.out _ _ ?_ (fun hHeld => ?_)
      . exact ⟨y0, y1, e1, e2, e9⟩
      clear hK K
      refine held_t 7 hHeld ?_
      refine held_t 8 hHeld ?_
      refine held_p 9 hHeld ?_
      refine held_p 10 hHeld ?_
      refine held_p 11 hHeld ?_
      refine held_p 12 hHeld ?_
      refine held_p 13 hHeld ?_
      refine held_p 14 hHeld ?_
      refine held_p 15 hHeld ?_
      refine held_p 16 hHeld ?_
      refine held_t 17 hHeld ?_
      refine held_t 18 hHeld ?_
      refine held_p 19 hHeld ?_
      refine held_p 20 hHeld ?_
      refine held_none (i := 21) (by kernel_rfl) rfl (by kernel_rfl) hHeld ?_
      simp only [Act.put, List.setIfInBounds_toArray, List.set_cons_zero, List.set_cons_succ]
      refine held_p 22 hHeld ?_
      refine held_t 23 hHeld ?_
      refine held_t 24 hHeld ?_
      refine held_p 25 hHeld ?_
      refine held_p 26 hHeld ?_
      refine held_p 27 hHeld ?_
      refine held_p 28 hHeld ?_
      refine held_p 29 hHeld ?_
      refine held_p 30 hHeld ?_
      refine held_p 31 hHeld ?_
      refine held_p 32 hHeld ?_
      refine held_p 33 hHeld ?_
      refine held_p 34 hHeld ?_
      refine held_p 35 hHeld ?_
      refine held_p 36 hHeld ?_
      refine held_p 37 hHeld ?_
      refine held_p 38 hHeld ?_
      refine held_t 39 hHeld ?_
      refine wpAnyH_done (by kernel_rfl) ?_ _
      clear hHeld
      have HB := hidden (hA.trans (B1.drew.mono hA.size))
      have HE := hidden (entsB_no (x := x) HDJ.out (entAt_1 hI))
      go_wp2
      go_ret
      exact ⟨ret_bool HE.out.symm, HB.out⟩
    . by_cases hL : (zs.length : Int) = x.n - 1
      . have hL1 : ((zs.length : Int) == x.n - 1) = true := by simpa using hL
        have hL2 : ((zs.length : Int) != x.n - 1) = false := by simpa using hL
        have HL := hidden hL
        clear hL
        cases hZ : allW zs
        . skip
          go_wp2_with fail
          generalize wr.alloc (.cells #[.int .i64 y, .slice av zs.length cv] 99) = w1 at X1 Y1 RZ B1 y0 y1 e1 e2 e9 HQ ⊢
          refine wp_region_held_drew (S := fun w' => w'.cell? ⟨wr.heap.size, 0, none⟩ = some (.int .i64 y) /\ w'.cell? ⟨wr.heap.size, 1, none⟩ = some (.slice av zs.length cv) /\ w'.cell? ⟨w.heap.size, 1, none⟩ = some (.int .i64 x.n) /\ w'.cell? ⟨w.heap.size, 2, none⟩ = some (.int .i64 x.s) /\ w'.cell? ⟨w.heap.size, 9, none⟩ = some (.slice (some ⟨b, off, none⟩) nd cd)) (by kernel_rfl) ?_ (fun hHeld => ?_)
          . exact ⟨y0, y1, e1, e2, e9⟩
          refine held_t 0 hHeld ?_
          refine held_t 1 hHeld ?_
          refine held_t 2 hHeld ?_
          refine held_t 3 hHeld ?_
          refine held_t 4 hHeld ?_
          refine held_t 5 hHeld ?_
          refine held_one (i := 6) (by kernel_rfl) rfl (by kernel_rfl) (fun K hK => ?_)
          go_simp
          refine (l1In_any _ _ _ _).mono ?_
          rintro e w2 ⟨rfl, hw2⟩
          subst hw2
          rw [hI]
          go_wp2_with fail
          clear hHeld
          refine hK.out _ _ ?_ (fun hHeld => ?_)
          . exact ⟨y0, y1, e1, e2, e9⟩
          clear hK K
          refine held_t 7 hHeld ?_
          refine held_t 8 hHeld ?_
          refine held_t 9 hHeld ?_
          refine held_t 10 hHeld ?_
          refine held_t 11 hHeld ?_
          refine held_t 12 hHeld ?_
          refine held_t 13 hHeld ?_
          refine held_t 14 hHeld ?_
          refine held_t 15 hHeld ?_
          refine held_t 16 hHeld ?_
          refine held_t 17 hHeld ?_
          refine held_t 18 hHeld ?_
          refine held_t 19 hHeld ?_
          refine held_t 20 hHeld ?_
          refine held_one (i := 21) (by kernel_rfl) rfl (by kernel_rfl) (fun K hK => ?_)
          go_simp
          refine (l1Words_any _ _ _ _ zs rfl RZ.draw hwz).mono ?_
          rintro e w2 ⟨rfl, hw2⟩
          subst hw2
          rw [hZ]
          go_wp2_with fail
          clear hHeld
          refine hK.out _ _ ?_ (fun hHeld => ?_)
          . exact ⟨y0, y1, e1, e2, e9⟩
          clear hK K
          refine held_t 22 hHeld ?_
          refine held_t 23 hHeld ?_
          refine held_t 24 hHeld ?_
          refine held_p 25 hHeld ?_
          refine held_p 26 hHeld ?_
          refine held_p 27 hHeld ?_
          refine held_p 28 hHeld ?_
          refine held_p 29 hHeld ?_
          refine held_p 30 hHeld ?_
          refine held_p 31 hHeld ?_
          refine held_p 32 hHeld ?_
          refine held_p 33 hHeld ?_
          refine held_p 34 hHeld ?_
          refine held_p 35 hHeld ?_
          refine held_p 36 hHeld ?_
          refine held_p 37 hHeld ?_
          refine held_p 38 hHeld ?_
          refine held_t 39 hHeld ?_
          refine wpAnyH_done (by kernel_rfl) ?_ _
          clear hHeld
          have HB := hidden (hA.trans (B1.drew.mono hA.size))
          have HE := hidden (entsB_no (x := x) HDJ.out (entAt_3 hZ))
          go_wp2
          go_ret
          exact ⟨ret_bool HE.out.symm, HB.out⟩
        . by_cases hj0 : j = 0
          . subst hj0
            simp only [Nat.zero_mul, Nat.add_zero] at u0 u1
            go_wp2_with fail
            generalize wr.alloc (.cells #[.int .i64 y, .slice av zs.length cv] 99) = w1 at X1 Y1 RZ B1 y0 y1 e1 e2 e9 HQ ⊢
            refine wp_region_held_drew (S := fun w' => w'.cell? ⟨wr.heap.size, 0, none⟩ = some (.int .i64 y) /\ w'.cell? ⟨wr.heap.size, 1, none⟩ = some (.slice av zs.length cv) /\ w'.cell? ⟨w.heap.size, 1, none⟩ = some (.int .i64 x.n) /\ w'.cell? ⟨w.heap.size, 2, none⟩ = some (.int .i64 x.s) /\ w'.cell? ⟨w.heap.size, 9, none⟩ = some (.slice (some ⟨b, off, none⟩) nd cd)) (by kernel_rfl) ?_ (fun hHeld => ?_)
            . exact ⟨y0, y1, e1, e2, e9⟩
            refine held_t 0 hHeld ?_
            refine held_t 1 hHeld ?_
            refine held_t 2 hHeld ?_
            refine held_t 3 hHeld ?_
            refine held_t 4 hHeld ?_
            refine held_t 5 hHeld ?_
            refine held_one (i := 6) (by kernel_rfl) rfl (by kernel_rfl) (fun K hK => ?_)
            go_simp
            refine (l1In_any _ _ _ _).mono ?_
            rintro e w2 ⟨rfl, hw2⟩
            subst hw2
            rw [hI]
            go_wp2_with fail
            clear hHeld
            refine hK.out _ _ ?_ (fun hHeld => ?_)
            . exact ⟨y0, y1, e1, e2, e9⟩
            clear hK K
            refine held_t 7 hHeld ?_
            refine held_t 8 hHeld ?_
            refine held_t 9 hHeld ?_
            refine held_t 10 hHeld ?_
            refine held_t 11 hHeld ?_
            refine held_t 12 hHeld ?_
            refine held_t 13 hHeld ?_
            refine held_t 14 hHeld ?_
            refine held_t 15 hHeld ?_
            refine held_t 16 hHeld ?_
            refine held_t 17 hHeld ?_
            refine held_t 18 hHeld ?_
            refine held_t 19 hHeld ?_
            refine held_t 20 hHeld ?_
            refine held_one (i := 21) (by kernel_rfl) rfl (by kernel_rfl) (fun K hK => ?_)
            go_simp
            refine (l1Words_any _ _ _ _ zs rfl RZ.draw hwz).mono ?_
            rintro e w2 ⟨rfl, hw2⟩
            subst hw2
            rw [hZ]
            go_wp2_with fail
            clear hHeld
            refine hK.out _ _ ?_ (fun hHeld => ?_)
            . exact ⟨y0, y1, e1, e2, e9⟩
            clear hK K
            refine held_t 22 hHeld ?_
            refine held_t 23 hHeld ?_
            refine held_t 24 hHeld ?_
            refine held_t 25 hHeld ?_
            refine held_t 26 hHeld ?_
            refine held_t 27 hHeld ?_
            refine held_p 28 hHeld ?_
            refine held_p 29 hHeld ?_
            refine held_p 30 hHeld ?_
            refine held_p 31 hHeld ?_
            refine held_p 32 hHeld ?_
            refine held_p 33 hHeld ?_
            refine held_p 34 hHeld ?_
            refine held_p 35 hHeld ?_
            refine held_p 36 hHeld ?_
            refine held_p 37 hHeld ?_
            refine held_t 38 hHeld ?_
            refine held_t 39 hHeld ?_
            refine wpAnyH_done (by kernel_rfl) ?_ _
            clear hHeld
            have HB := hidden B1.drew
            have hat : entAt x ds (0) (y, zs) = true := entAt_4 hI HL.out hZ
            go_wp2
            go_roundw
            case rel => exact ⟨0 + 1, by omega, by go_num, fun q d hq hm' => by
             rcases Nat.lt_or_ge q (0) with h | h
             . exact hall q d h hm'
             . obtain rfl : q = 0 := by omega
               rw [HDJ.out] at hm'
               cases hm'
               exact hat, HB.out⟩
            case measure => simp [intOf]; omega
          . obtain ⟨p, rfl⟩ : ∃ p, j = p + 1 := ⟨j - 1, by omega⟩
            have hpq : ds[p]? = some (ds[p]'(by omega)) := List.getElem?_eq_getElem (by omega)
            generalize ds[p]'(by omega) = q at hpq
            have hE := entAt_5 hI HL.out hZ hpq
            have qc := HQ.out p q hpq
            obtain ⟨s, zq⟩ := q
            simp only at qc hE
            have HE5 := hidden hE
            clear hpq hE
            have j1 : IntKind.i64.wrap (((p + 1 : Nat) : Int) - 1) = (p : Int) := by rw [IntWalk.i64_in _ (by omega)]; omega
            have j2 : IntKind.i64.wrap ((p : Int) + 1 - 1) = (p : Int) := by rw [IntWalk.i64_in _ (by omega)]; omega
            have j3 : IntKind.i64.wrap (p : Int) = (p : Int) := IntWalk.i64_in _ (by omega)
            have j4 : (0 : Int) <= (p : Int) := by omega
            have j5 : (p : Int) < (nd : Int) := by omega
            have j6 : (0 : Int) < ((p + 1 : Nat) : Int) := by omega
            by_cases hlt : s < y
            . have hd1 : decide (s < y) = true := by simpa using hlt
              have hge : ¬ y <= s := by omega
              go_wp2_with fail
              generalize wr.alloc (.cells #[.int .i64 y, .slice av zs.length cv] 99) = w1 at X1 Y1 RZ B1 y0 y1 e1 e2 e9 HQ qc ⊢
              refine wp_region_held_drew (S := fun w' => w'.cell? ⟨wr.heap.size, 0, none⟩ = some (.int .i64 y) /\ w'.cell? ⟨wr.heap.size, 1, none⟩ = some (.slice av zs.length cv) /\ w'.cell? ⟨w.heap.size, 1, none⟩ = some (.int .i64 x.n) /\ w'.cell? ⟨w.heap.size, 2, none⟩ = some (.int .i64 x.s) /\ w'.cell? ⟨w.heap.size, 9, none⟩ = some (.slice (some ⟨b, off, none⟩) nd cd) /\ w'.cell? ⟨b, off + p * 2, none⟩ = some (.int .i64 s)) (by kernel_rfl) ?_ (fun hHeld => ?_)
              . exact ⟨y0, y1, e1, e2, e9, qc⟩
              refine held_t 0 hHeld ?_
              refine held_t 1 hHeld ?_
              refine held_t 2 hHeld ?_
              refine held_t 3 hHeld ?_
              refine held_t 4 hHeld ?_
              refine held_t 5 hHeld ?_
              refine held_one (i := 6) (by kernel_rfl) rfl (by kernel_rfl) (fun K hK => ?_)
              go_simp
              refine (l1In_any _ _ _ _).mono ?_
              rintro e w2 ⟨rfl, hw2⟩
              subst hw2
              rw [hI]
              go_wp2_with fail
              clear hHeld
              refine hK.out _ _ ?_ (fun hHeld => ?_)
              . exact ⟨y0, y1, e1, e2, e9, qc⟩
              clear hK K
              refine held_t 7 hHeld ?_
              refine held_t 8 hHeld ?_
              refine held_t 9 hHeld ?_
              refine held_t 10 hHeld ?_
              refine held_t 11 hHeld ?_
              refine held_t 12 hHeld ?_
              refine held_t 13 hHeld ?_
              refine held_t 14 hHeld ?_
              refine held_t 15 hHeld ?_
              refine held_t 16 hHeld ?_
              refine held_t 17 hHeld ?_
              refine held_t 18 hHeld ?_
              refine held_t 19 hHeld ?_
              refine held_t 20 hHeld ?_
              refine held_one (i := 21) (by kernel_rfl) rfl (by kernel_rfl) (fun K hK => ?_)
              go_simp
              refine (l1Words_any _ _ _ _ zs rfl RZ.draw hwz).mono ?_
              rintro e w2 ⟨rfl, hw2⟩
              subst hw2
              rw [hZ]
              go_wp2_with fail
              clear hHeld
              refine hK.out _ _ ?_ (fun hHeld => ?_)
              . exact ⟨y0, y1, e1, e2, e9, qc⟩
              clear hK K
              refine held_t 22 hHeld ?_
              refine held_t 23 hHeld ?_
              refine held_t 24 hHeld ?_
              refine held_t 25 hHeld ?_
              refine held_t 26 hHeld ?_
              refine held_t 27 hHeld ?_
              refine held_t 28 hHeld ?_
              refine held_t 29 hHeld ?_
              refine held_t 30 hHeld ?_
              refine held_t 31 hHeld ?_
              refine held_t 32 hHeld ?_
              refine held_t 33 hHeld ?_
              refine held_t 34 hHeld ?_
              refine held_t 35 hHeld ?_
              refine held_t 36 hHeld ?_
              refine held_t 37 hHeld ?_
              refine held_t 38 hHeld ?_
              refine held_t 39 hHeld ?_
              refine wpAnyH_done (by kernel_rfl) ?_ _
              clear hHeld
              have HB := hidden B1.drew
              have hat : entAt x ds (p + 1) (y, zs) = true := HE5.out.trans hd1
              go_wp2
              go_roundw
              case rel => exact ⟨p + 1 + 1, by omega, by go_num, fun q d hq hm' => by
               rcases Nat.lt_or_ge q (p + 1) with h | h
               . exact hall q d h hm'
               . obtain rfl : q = p + 1 := by omega
                 rw [HDJ.out] at hm'
                 cases hm'
                 exact hat, HB.out⟩
              case measure => simp [intOf]; omega
            . have hd1 : decide (s < y) = false := by simpa using hlt
              have hge : y <= s := by omega
              go_wp2_with fail
              generalize wr.alloc (.cells #[.int .i64 y, .slice av zs.length cv] 99) = w1 at X1 Y1 RZ B1 y0 y1 e1 e2 e9 HQ qc ⊢
              refine wp_region_held_drew (S := fun w' => w'.cell? ⟨wr.heap.size, 0, none⟩ = some (.int .i64 y) /\ w'.cell? ⟨wr.heap.size, 1, none⟩ = some (.slice av zs.length cv) /\ w'.cell? ⟨w.heap.size, 1, none⟩ = some (.int .i64 x.n) /\ w'.cell? ⟨w.heap.size, 2, none⟩ = some (.int .i64 x.s) /\ w'.cell? ⟨w.heap.size, 9, none⟩ = some (.slice (some ⟨b, off, none⟩) nd cd) /\ w'.cell? ⟨b, off + p * 2, none⟩ = some (.int .i64 s)) (by kernel_rfl) ?_ (fun hHeld => ?_)
              . exact ⟨y0, y1, e1, e2, e9, qc⟩
              refine held_t 0 hHeld ?_
              refine held_t 1 hHeld ?_
              refine held_t 2 hHeld ?_
              refine held_t 3 hHeld ?_
              refine held_t 4 hHeld ?_
              refine held_t 5 hHeld ?_
              refine held_one (i := 6) (by kernel_rfl) rfl (by kernel_rfl) (fun K hK => ?_)
              go_simp
              refine (l1In_any _ _ _ _).mono ?_
              rintro e w2 ⟨rfl, hw2⟩
              subst hw2
              rw [hI]
              go_wp2_with fail
              clear hHeld
              refine hK.out _ _ ?_ (fun hHeld => ?_)
              . exact ⟨y0, y1, e1, e2, e9, qc⟩
              clear hK K
              refine held_t 7 hHeld ?_
              refine held_t 8 hHeld ?_
              refine held_t 9 hHeld ?_
              refine held_t 10 hHeld ?_
              refine held_t 11 hHeld ?_
              refine held_t 12 hHeld ?_
              refine held_t 13 hHeld ?_
              refine held_t 14 hHeld ?_
              refine held_t 15 hHeld ?_
              refine held_t 16 hHeld ?_
              refine held_t 17 hHeld ?_
              refine held_t 18 hHeld ?_
              refine held_t 19 hHeld ?_
              refine held_t 20 hHeld ?_
              refine held_one (i := 21) (by kernel_rfl) rfl (by kernel_rfl) (fun K hK => ?_)
              go_simp
              refine (l1Words_any _ _ _ _ zs rfl RZ.draw hwz).mono ?_
              rintro e w2 ⟨rfl, hw2⟩
              subst hw2
              rw [hZ]
              go_wp2_with fail
              clear hHeld
              refine hK.out _ _ ?_ (fun hHeld => ?_)
              . exact ⟨y0, y1, e1, e2, e9, qc⟩
              clear hK K
              refine held_t 22 hHeld ?_
              refine held_t 23 hHeld ?_
              refine held_t 24 hHeld ?_
              refine held_t 25 hHeld ?_
              refine held_t 26 hHeld ?_
              refine held_t 27 hHeld ?_
              refine held_t 28 hHeld ?_
              refine held_t 29 hHeld ?_
              refine held_t 30 hHeld ?_
              refine held_t 31 hHeld ?_
              refine held_t 32 hHeld ?_
              refine held_t 33 hHeld ?_
              refine held_t 34 hHeld ?_
              refine held_t 35 hHeld ?_
              refine held_t 36 hHeld ?_
              refine held_t 37 hHeld ?_
              refine held_t 38 hHeld ?_
              refine held_t 39 hHeld ?_
              refine wpAnyH_done (by kernel_rfl) ?_ _
              clear hHeld
              have HB := hidden (hA.trans (B1.drew.mono hA.size))
              have HE := hidden (entsB_no (x := x) HDJ.out (HE5.out.trans hd1))
              go_wp2
              go_ret
              exact ⟨ret_bool HE.out.symm, HB.out⟩
      . have hL1 : ((zs.length : Int) == x.n - 1) = false := by simpa using hL
        have hL2 : ((zs.length : Int) != x.n - 1) = true := by simpa using hL
        have HL := hidden hL
        clear hL
        go_wp2_with fail
        generalize wr.alloc (.cells #[.int .i64 y, .slice av zs.length cv] 99) = w1 at X1 Y1 RZ B1 y0 y1 e1 e2 e9 HQ ⊢
        refine wp_region_held_drew (S := fun w' => w'.cell? ⟨wr.heap.size, 0, none⟩ = some (.int .i64 y) /\ w'.cell? ⟨wr.heap.size, 1, none⟩ = some (.slice av zs.length cv) /\ w'.cell? ⟨w.heap.size, 1, none⟩ = some (.int .i64 x.n) /\ w'.cell? ⟨w.heap.size, 2, none⟩ = some (.int .i64 x.s) /\ w'.cell? ⟨w.heap.size, 9, none⟩ = some (.slice (some ⟨b, off, none⟩) nd cd)) (by kernel_rfl) ?_ (fun hHeld => ?_)
        . exact ⟨y0, y1, e1, e2, e9⟩
        refine held_t 0 hHeld ?_
        refine held_t 1 hHeld ?_
        refine held_t 2 hHeld ?_
        refine held_t 3 hHeld ?_
        refine held_t 4 hHeld ?_
        refine held_t 5 hHeld ?_
        refine held_one (i := 6) (by kernel_rfl) rfl (by kernel_rfl) (fun K hK => ?_)
        go_simp
        refine (l1In_any _ _ _ _).mono ?_
        rintro e w2 ⟨rfl, hw2⟩
        subst hw2
        rw [hI]
        go_wp2_with fail
        clear hHeld
        refine hK.out _ _ ?_ (fun hHeld => ?_)
        . exact ⟨y0, y1, e1, e2, e9⟩
        clear hK K
        refine held_t 7 hHeld ?_
        refine held_t 8 hHeld ?_
        refine held_t 9 hHeld ?_
        refine held_t 10 hHeld ?_
        refine held_t 11 hHeld ?_
        refine held_t 12 hHeld ?_
        refine held_t 13 hHeld ?_
        refine held_t 14 hHeld ?_
        refine held_t 15 hHeld ?_
        refine held_t 16 hHeld ?_
        refine held_t 17 hHeld ?_
        refine held_t 18 hHeld ?_
        refine held_p 19 hHeld ?_
        refine held_p 20 hHeld ?_
        refine held_none (i := 21) (by kernel_rfl) rfl (by kernel_rfl) hHeld ?_
        simp only [Act.put, List.setIfInBounds_toArray, List.set_cons_zero, List.set_cons_succ]
        refine held_p 22 hHeld ?_
        refine held_t 23 hHeld ?_
        refine held_t 24 hHeld ?_
        refine held_p 25 hHeld ?_
        refine held_p 26 hHeld ?_
        refine held_p 27 hHeld ?_
        refine held_p 28 hHeld ?_
        refine held_p 29 hHeld ?_
        refine held_p 30 hHeld ?_
        refine held_p 31 hHeld ?_
        refine held_p 32 hHeld ?_
        refine held_p 33 hHeld ?_
        refine held_p 34 hHeld ?_
        refine held_p 35 hHeld ?_
        refine held_p 36 hHeld ?_
        refine held_p 37 hHeld ?_
        refine held_p 38 hHeld ?_
        refine held_t 39 hHeld ?_
        refine wpAnyH_done (by kernel_rfl) ?_ _
        clear hHeld
        have HB := hidden (hA.trans (B1.drew.mono hA.size))
        have HE := hidden (entsB_no (x := x) HDJ.out (entAt_2 HL.out))
        go_wp2
        go_ret
        exact ⟨ret_bool HE.out.symm, HB.out⟩
  . have ej : j = nd := by omega
    subst ej
    have hAll : entsB x ds = true := allIx_iff.2 (fun q d hq => hall q d (by have := (List.getElem?_eq_some_iff.1 hq).1; omega) hq)
    have HB := hidden (hA.trans (hb.mono hA.size))
    go_wp2
    go_ret
    exact ⟨ret_bool hAll.symm, HB.out⟩

theorem specArrOk_any (w : World) (E F G : TypeId) (x : ArrN) (am ad : Option Addr) (nm cm nd cd : Nat) (ms : List MemD) (ds : List (Int × List Int)) (h0 : (tMemS E F).Rd w [.slice am nm cm] ms) (h1 : (tWrS G).Rd w [.slice ad nd cd] ds) (hw : wtArr ms ds <= 2097152) :
 Calls Try.prog 33 #[.agg #[.int .i64 x.id, .int .i64 x.n, .int .i64 x.s, .slice am nm cm, .int .i64 x.lost, .int .i64 x.built, .int .i64 x.seq, .int .i64 x.tail, .int .i64 x.gen, .slice ad nd cd, .int .i64 x.fuse, .bool x.down, .bool x.broken]] w fun e w' => e = .returned (.bool (arrB x ms ds)) /\ Below w.heap.size w w' := by
 have hwm : wtMemS ms <= 2097152 := by unfold wtArr at hw; omega
 have hwd : wtWrS ds <= 2097152 := by unfold wtArr at hw; omega
 have hA := new_below w (.cells #[.int .i64 x.id, .int .i64 x.n, .int .i64 x.s, .slice am nm cm, .int .i64 x.lost, .int .i64 x.built, .int .i64 x.seq, .int .i64 x.tail, .int .i64 x.gen, .slice ad nd cd, .int .i64 x.fuse, .bool x.down, .bool x.broken] 33)
 have X := Box.new w 33 #[.int .i64 x.id, .int .i64 x.n, .int .i64 x.s, .slice am nm cm, .int .i64 x.lost, .int .i64 x.built, .int .i64 x.seq, .int .i64 x.tail, .int .i64 x.gen, .slice ad nd cd, .int .i64 x.fuse, .bool x.down, .bool x.broken]
 obtain ⟨k0, k1, k2, k3, k4, k5, k6, k7, k8, k9, k10, k11, k12⟩ := X.cells13
 have zA := X.lt
 have r0 := h0.below hA
 have r1 := h1.below hA
 go_enter Try.func33, Try.ntmps33
 go_wp2_with fail
 generalize w.alloc (.cells #[.int .i64 x.id, .int .i64 x.n, .int .i64 x.s, .slice am nm cm, .int .i64 x.lost, .int .i64 x.built, .int .i64 x.seq, .int .i64 x.tail, .int .i64 x.gen, .slice ad nd cd, .int .i64 x.fuse, .bool x.down, .bool x.broken] 33) = W at hA X zA r0 r1 k0 k1 k2 k3 k4 k5 k6 k7 k8 k9 k10 k11 k12 ⊢
 refine (specGeoOk_any _ _ _).mono ?_
 rintro e w1 ⟨rfl, b1⟩
 have X1 := X.below b1 X.lt
 have B1 := Below.andThen hA b1
 have q1 := r0.below b1
 have t1 := r1.below b1
 clear k0 k1 k2 k3 k4 k5 k6 k7 k8 k9 k10 k11 k12 b1 hA X r0 r1
 obtain ⟨k0, k1, k2, k3, k4, k5, k6, k7, k8, k9, k10, k11, k12⟩ := X1.cells13
 cases hg : geoB x.n x.s
 . skip
   have HF : Hid (arrB x ms ds = false) := by unfold Hid arrB; simp [hg]
   go_wp2
   go_ret
   exact ⟨ret_bool HF.out.symm, B1⟩
 . obtain ⟨g1, g2, g3, g4⟩ := geoB_iff.1 hg
   have hws : IntKind.i64.wrap (x.n - 1) = x.n - 1 := IntWalk.i64_in _ (by omega)
   go_wp2_with fail
   refine (l1In_any _ _ _ _).mono ?_
   rintro e wq ⟨rfl, hq⟩
   obtain rfl := hq.symm
   cases hid : inB x.id 1 60000
   . skip
     have HF : Hid (arrB x ms ds = false) := by unfold Hid arrB; simp [hid]
     go_wp2
     go_ret
     exact ⟨ret_bool HF.out.symm, B1⟩
   . skip
     go_wp2_with fail
     refine (l6Mems_any _ E F x _ _ _ _ _ _ ms q1 hwm hg).mono ?_
     rintro e w2 ⟨rfl, b2⟩
     have X2 := X1.below b2 X1.lt
     have B2 := Below.andThen B1 b2
     have q2 := q1.below b2
     have t2 := t1.below b2
     clear k0 k1 k2 k3 k4 k5 k6 k7 k8 k9 k10 k11 k12 b2 B1 X1 q1 t1
     obtain ⟨k0, k1, k2, k3, k4, k5, k6, k7, k8, k9, k10, k11, k12⟩ := X2.cells13
     cases hms : memsB x ms
     . skip
       have HF : Hid (arrB x ms ds = false) := by unfold Hid arrB; simp [hms]
       go_wp2
       go_ret
       exact ⟨ret_bool HF.out.symm, B2⟩
     . skip
       go_wp2_with fail
       refine (l6Dirty_any _ G x _ _ _ _ _ _ ds t2 hwd hg).mono ?_
       rintro e w3 ⟨rfl, b3⟩
       have X3 := X2.below b3 X2.lt
       have B3 := Below.andThen B2 b3
       have q3 := q2.below b3
       have t3 := t2.below b3
       clear k0 k1 k2 k3 k4 k5 k6 k7 k8 k9 k10 k11 k12 b3 B2 X2 q2 t2
       obtain ⟨k0, k1, k2, k3, k4, k5, k6, k7, k8, k9, k10, k11, k12⟩ := X3.cells13
       cases hds : entsB x ds
       . skip
         have HF : Hid (arrB x ms ds = false) := by unfold Hid arrB; simp [hds]
         go_wp2
         go_ret
         exact ⟨ret_bool HF.out.symm, B3⟩
       . skip
         go_wp2_with fail
         refine (l1In_any _ _ _ _).mono ?_
         rintro e wq ⟨rfl, hq⟩
         obtain rfl := hq.symm
         cases hlo : inB x.lost (-1) (x.n - 1)
         . skip
           have HF : Hid (arrB x ms ds = false) := by unfold Hid arrB; simp [lostB6, hlo]
           go_wp2
           go_ret
           exact ⟨ret_bool HF.out.symm, B3⟩
         . skip
           go_wp2_with fail
           refine (l1In_any _ _ _ _).mono ?_
           rintro e wq ⟨rfl, hq⟩
           obtain rfl := hq.symm
           cases hbu : inB x.built 0 x.s
           . skip
             have HF : Hid (arrB x ms ds = false) := by unfold Hid arrB; simp [lostB6, hbu]
             go_wp2
             go_ret
             exact ⟨ret_bool HF.out.symm, B3⟩
           . skip
             have hlb : (x.lost = -1 /\ ¬ x.built = 0) ∨ (x.lost = -1 /\ x.built = 0) ∨ ¬ x.lost = -1 := by omega
             have HLB : Hid (lostB6 x = (!decide (x.lost = -1) || decide (x.built = 0))) := by unfold Hid lostB6; rw [hlo, hbu]; simp
             rcases hlb with ⟨l1, l2⟩ | ⟨l1, l2⟩ | l1
             . have e1 : (x.lost == -1) = true := by simpa using l1
               have e2 : (x.built != 0) = true := by simpa using l2
               have e3 : (x.built == 0) = false := by simpa using l2
               have hL : lostB6 x = false := by rw [HLB.out]; simp [l1, l2]
               rw [l1] at k4
               have HF : Hid (arrB x ms ds = false) := by unfold Hid arrB; simp [hL]
               clear hL l1 l2
               go_wp2
               go_ret
               exact ⟨ret_bool HF.out.symm, B3⟩
             . have e1 : (x.lost == -1) = true := by simpa using l1
               have e2 : (x.built != 0) = false := by simpa using l2
               have e3 : (x.built == 0) = true := by simpa using l2
               have HLT : Hid (lostB6 x = true) := by unfold Hid; rw [HLB.out]; simp [l2]
               rw [l1] at k4
               rw [l2] at k5
               clear l1 l2
               have HT : Hid (arrB x ms ds = seqB6 x) := by unfold Hid arrB; rw [hg, hid, hms, hds, HLT.out]; rfl
               go_wp2_with fail
               refine (l1In_any _ _ _ _).mono ?_
               rintro e wq ⟨rfl, hq⟩
               obtain rfl := hq.symm
               cases ht : inB x.tail 0 60000
               . have HF : Hid (arrB x ms ds = false) := by unfold Hid; rw [HT.out]; unfold seqB6; simp [ht]
                 go_wp2
                 go_ret
                 exact ⟨ret_bool HF.out.symm, B3⟩
               . skip
                 have ht2 : 0 <= x.tail /\ x.tail <= 60000 := by unfold inB at ht; simpa using ht
                 have hw4 : IntKind.i64.wrap (x.tail + 4) = x.tail + 4 := IntWalk.i64_in _ (by omega)
                 go_wp2_with fail
                 refine (l1In_any _ _ _ _).mono ?_
                 rintro e wq ⟨rfl, hq⟩
                 obtain rfl := hq.symm
                 cases hs : inB x.seq x.tail 60000
                 . have HF : Hid (arrB x ms ds = false) := by unfold Hid; rw [HT.out]; unfold seqB6; simp [hs]
                   go_wp2
                   go_ret
                   exact ⟨ret_bool HF.out.symm, B3⟩
                 . skip
                   by_cases hle : x.seq <= x.tail + 4
                   . skip
                     go_wp2_with fail
                     refine (l1In_any _ _ _ _).mono ?_
                     rintro e wq ⟨rfl, hq⟩
                     obtain rfl := hq.symm
                     cases hge : inB x.gen 0 60000
                     . have HF : Hid (arrB x ms ds = false) := by unfold Hid; rw [HT.out]; unfold seqB6; simp [hge]
                       go_wp2
                       go_ret
                       exact ⟨ret_bool HF.out.symm, B3⟩
                     . skip
                       have HF : Hid (arrB x ms ds = inB x.fuse (-1) 1000) := by unfold Hid; rw [HT.out]; unfold seqB6; simp [ht, hs, hle, hge]
                       go_wp2_with fail
                       refine (l1In_any _ _ _ _).mono ?_
                       rintro e wq ⟨rfl, hq⟩
                       obtain rfl := hq.symm
                       cases hfu : inB x.fuse (-1) 1000
                       . go_wp2
                         go_ret
                         exact ⟨ret_bool (by rw [HF.out, hfu]), B3⟩
                       . go_wp2
                         go_ret
                         exact ⟨ret_bool (by rw [HF.out, hfu]), B3⟩
                   . have HF : Hid (arrB x ms ds = false) := by unfold Hid; rw [HT.out]; unfold seqB6; simp; omega
                     have hgt : x.tail + 4 < x.seq := by omega
                     go_wp2
                     go_ret
                     exact ⟨ret_bool HF.out.symm, B3⟩
             . have e1 : (x.lost == -1) = false := by simpa using l1
               have HLT : Hid (lostB6 x = true) := by unfold Hid; rw [HLB.out]; simp [l1]
               clear l1
               have HT : Hid (arrB x ms ds = seqB6 x) := by unfold Hid arrB; rw [hg, hid, hms, hds, HLT.out]; rfl
               go_wp2_with fail
               refine (l1In_any _ _ _ _).mono ?_
               rintro e wq ⟨rfl, hq⟩
               obtain rfl := hq.symm
               cases ht : inB x.tail 0 60000
               . have HF : Hid (arrB x ms ds = false) := by unfold Hid; rw [HT.out]; unfold seqB6; simp [ht]
                 go_wp2
                 go_ret
                 exact ⟨ret_bool HF.out.symm, B3⟩
               . skip
                 have ht2 : 0 <= x.tail /\ x.tail <= 60000 := by unfold inB at ht; simpa using ht
                 have hw4 : IntKind.i64.wrap (x.tail + 4) = x.tail + 4 := IntWalk.i64_in _ (by omega)
                 go_wp2_with fail
                 refine (l1In_any _ _ _ _).mono ?_
                 rintro e wq ⟨rfl, hq⟩
                 obtain rfl := hq.symm
                 cases hs : inB x.seq x.tail 60000
                 . have HF : Hid (arrB x ms ds = false) := by unfold Hid; rw [HT.out]; unfold seqB6; simp [hs]
                   go_wp2
                   go_ret
                   exact ⟨ret_bool HF.out.symm, B3⟩
                 . skip
                   by_cases hle : x.seq <= x.tail + 4
                   . skip
                     go_wp2_with fail
                     refine (l1In_any _ _ _ _).mono ?_
                     rintro e wq ⟨rfl, hq⟩
                     obtain rfl := hq.symm
                     cases hge : inB x.gen 0 60000
                     . have HF : Hid (arrB x ms ds = false) := by unfold Hid; rw [HT.out]; unfold seqB6; simp [hge]
                       go_wp2
                       go_ret
                       exact ⟨ret_bool HF.out.symm, B3⟩
                     . skip
                       have HF : Hid (arrB x ms ds = inB x.fuse (-1) 1000) := by unfold Hid; rw [HT.out]; unfold seqB6; simp [ht, hs, hle, hge]
                       go_wp2_with fail
                       refine (l1In_any _ _ _ _).mono ?_
                       rintro e wq ⟨rfl, hq⟩
                       obtain rfl := hq.symm
                       cases hfu : inB x.fuse (-1) 1000
                       . go_wp2
                         go_ret
                         exact ⟨ret_bool (by rw [HF.out, hfu]), B3⟩
                       . go_wp2
                         go_ret
                         exact ⟨ret_bool (by rw [HF.out, hfu]), B3⟩
                   . have HF : Hid (arrB x ms ds = false) := by unfold Hid; rw [HT.out]; unfold seqB6; simp; omega
                     have hgt : x.tail + 4 < x.seq := by omega
                     go_wp2
                     go_ret
                     exact ⟨ret_bool HF.out.symm, B3⟩

def ArrOutB (w w' : World) (e : Ending) (q : ArrN × List MemD) (code : Bool) (ds : List (Int × List Int)) : Prop :=
 ∃ (bm bd : Option Addr) (cm cd : Nat), e = .returned (.tuple #[.agg (arrC q.1 (.slice bm q.2.length cm) (.slice bd ds.length cd)), .bool code]) /\ ArrIn w' w.heap.size w'.heap.size bm bd q.2.length cm ds.length cd q.2 ds /\ Below w.heap.size w w'
theorem arr_outB {w w4 : World} {R lo : Nat} {y : ArrN} {ns : List MemD} {ds : List (Int × List Int)} {vm vd : Option Addr} {cvm cvd : Nat} {fm fd : List Nat} {e : Ending} {T : TypeId} {cs : Array Value} {code : Bool} (hb : Below w.heap.size w w4) (_ : Box w4 R T cs) (he : e = .returned (.tuple #[.agg (arrC y (.slice vm ns.length cvm) (.slice vd ds.length cvd)), .bool code])) (hm : (tMemS 108 73).Mine w4 [.slice vm ns.length cvm] ns fm) (hd : (tWrS 99).Mine w4 [.slice vd ds.length cvd] ds fd) (hr : ∀ b ∈ fm, b ∉ fd) (rm : ∀ b ∈ fm, lo <= b) (rd : ∀ b ∈ fd, lo <= b) (h1 : w.heap.size <= R) (h2 : R < lo) :
 ArrOutB w (puts w4 R [(0, .int .i64 y.id), (1, .int .i64 y.n), (2, .int .i64 y.s), (3, .slice vm ns.length cvm), (4, .int .i64 y.lost), (5, .int .i64 y.built), (6, .int .i64 y.seq), (7, .int .i64 y.tail), (8, .int .i64 y.gen), (9, .slice vd ds.length cvd), (10, .int .i64 y.fuse), (11, .bool y.down), (12, .bool y.broken)]) e (y, ns) code ds := by
 have hbt := puts_but R [(0, .int .i64 y.id), (1, .int .i64 y.n), (2, .int .i64 y.s), (3, .slice vm ns.length cvm), (4, .int .i64 y.lost), (5, .int .i64 y.built), (6, .int .i64 y.seq), (7, .int .i64 y.tail), (8, .int .i64 y.gen), (9, .slice vd ds.length cvd), (10, .int .i64 y.fuse), (11, .bool y.down), (12, .bool y.broken)] w4
 have hz := hbt.size
 have hlm := hm.lt
 have hld := hd.lt
 refine ⟨vm, vd, cvm, cvd, he, ⟨fm, fd, hm.but hbt (fun b hb => by have := rm b hb; omega), hd.but hbt (fun b hb => by have := rd b hb; omega), hr, fun b hb => ?_, fun b hb => ?_⟩, Below.andBut hb hbt h1⟩
 . have h3 := rm b hb
   have h4 := hlm b hb
   omega
 . have h3 := rd b hb
   have h4 := hld b hb
   omega

def arrZ : ArrN := ⟨0, 0, 0, 0, 0, 0, 0, 0, 0, false, false⟩
def arr0 (s : Sup) : ArrN := ⟨s.id, s.n, s.s, s.lost, s.built, s.tail, s.tail, s.gen, -1, false, false⟩
def loseX (x : ArrN) (m : Int) : ArrN := if x.lost = -1 ∨ x.lost = m then {x with lost := m, built := 0} else {x with broken := true}
def asmX (ms : List MemD) (id : Int) (x : ArrN) : Nat -> ArrN
 | 0 => x
 | j + 1 => match ms[j]? with
  | none => asmX ms id x j
  | some d => if hereB d id (j : Int) = true then asmX ms id x j else loseX (asmX ms id x j) (j : Int)
theorem asm_here {ms : List MemD} {id : Int} {x : ArrN} {j : Nat} {d : MemD} (hd : ms[j]? = some d) (h : hereB d id (j : Int) = true) : asmX ms id x (j + 1) = asmX ms id x j := by rw [asmX, hd]; exact if_pos h
theorem asm_lose {ms : List MemD} {id : Int} {x : ArrN} {j : Nat} {d : MemD} (hd : ms[j]? = some d) (h : hereB d id (j : Int) = false) : asmX ms id x (j + 1) = loseX (asmX ms id x j) (j : Int) := by rw [asmX, hd]; exact if_neg (by simp [h])
def asmQ (ms : List MemD) (id : Int) : (ArrN × List MemD) × Bool :=
 if (newSt ms id ms.length).2 = true /\ (ms.length : Int) = (newSt ms id ms.length).1.n /\ arrB (asmX ms id (arr0 (newSt ms id ms.length).1) ms.length) ms [] = true then ((asmX ms id (arr0 (newSt ms id ms.length).1) ms.length, ms), true) else ((arrZ, []), false)
theorem asm_yes {ms : List MemD} {id : Int} {y : Sup} (h : newSt ms id ms.length = (y, true)) (hn : (ms.length : Int) = y.n) (ha : arrB (asmX ms id (arr0 y) ms.length) ms [] = true) : asmQ ms id = ((asmX ms id (arr0 y) ms.length, ms), true) := by
 unfold asmQ
 rw [h]
 exact if_pos ⟨rfl, hn, ha⟩
theorem asm_no1 {ms : List MemD} {id : Int} {y : Sup} {fb : Bool} (h : newSt ms id ms.length = (y, fb)) (hn : ¬ (fb = true /\ (ms.length : Int) = y.n)) : asmQ ms id = ((arrZ, []), false) := by
 unfold asmQ
 rw [h]
 exact if_neg (fun h => hn ⟨h.1, h.2.1⟩)
theorem asm_no2 {ms : List MemD} {id : Int} {y : Sup} {fb : Bool} (h : newSt ms id ms.length = (y, fb)) (ha : arrB (asmX ms id (arr0 y) ms.length) ms [] = false) : asmQ ms id = ((arrZ, []), false) := by
 unfold asmQ
 rw [h]
 refine if_neg (fun h => ?_)
 have := h.2.2
 rw [ha] at this
 cases this
theorem asm_wt {ms : List MemD} {id : Int} (h : wtMemS ms <= 1048576) : wtArr (asmQ ms id).1.2 [] <= 2097152 := by
 have e : wtWrS [] = 0 := rfl
 unfold asmQ wtArr
 rw [e]
 split
 . dsimp only; omega
 . have : wtMemS [] = 0 := rfl
   dsimp only
   omega

theorem loseDisk_any (w : World) (B : Nat) (x : ArrN) (ms : List MemD) (ds : List (Int × List Int)) (fm fd : List Nat) (h : ArrAt w B x ms ds fm fd) (m : Int) :
 Calls Try.prog 59 #[.pointer (some ⟨B, 0, none⟩), .int .i64 m] w fun e w' => e = .returned (.tuple #[]) /\ ArrAt w' B (loseX x m) ms ds fm fd /\ But B (B + 1) w w' := by
 obtain ⟨bm, bd, cm, cd, X, hm, hd, hr, r1, r2⟩ := h
 have X0 := X
 unfold arrC at X0
 obtain ⟨k0, k1, k2, k3, k4, k5, k6, k7, k8, k9, k10, k11, k12⟩ := X0.cells13
 have fz := X0.frozen
 have HB1 := hidden (But.setCell (w := w) (g := B) (j := 12) (Nat.le_refl B) (Nat.lt_succ_self B) (.bool true))
 have HB2 := hidden ((But.setCell (w := w) (g := B) (j := 4) (Nat.le_refl B) (Nat.lt_succ_self B) (.int .i64 m)).trans (But.setCell (j := 5) (Nat.le_refl B) (Nat.lt_succ_self B) (.int .i64 0)))
 have HA1 : Hid (ArrAt (w.setCell ⟨B, 12, none⟩ (.bool true)) B {x with broken := true} ms ds fm fd) := ⟨bm, bd, cm, cd, X.set 12 _, hm.setCell r1 _, hd.setCell r2 _, hr, r1, r2⟩
 have HA2 : Hid (ArrAt ((w.setCell ⟨B, 4, none⟩ (.int .i64 m)).setCell ⟨B, 5, none⟩ (.int .i64 0)) B {x with lost := m, built := 0} ms ds fm fd) := ⟨bm, bd, cm, cd, (X.set 4 _).set 5 _, (hm.setCell r1 _).setCell r1 _, (hd.setCell r2 _).setCell r2 _, hr, r1, r2⟩
 clear X X0 hm hd
 go_enter Try.func59, Try.ntmps59
 by_cases h1 : x.lost = -1
 . have HV : Hid (loseX x m = {x with lost := m, built := 0}) := if_pos (.inl h1)
   rw [h1] at k4
   clear h1
   go_wp2
   refine bodyPost_end (v := .tuple #[]) (results_none rfl _ _ _) rfl ?_
   exact ⟨rfl, by rw [HV.out]; exact HA2.out, HB2.out⟩
 . by_cases h2 : x.lost = m
   . have HV : Hid (loseX x m = {x with lost := m, built := 0}) := if_pos (.inr h2)
     rw [h2] at k4 h1
     clear h2
     go_wp2
     refine bodyPost_end (v := .tuple #[]) (results_none rfl _ _ _) rfl ?_
     exact ⟨rfl, by rw [HV.out]; exact HA2.out, HB2.out⟩
   . have HV : Hid (loseX x m = {x with broken := true}) := if_neg (by omega)
     have g1 : (x.lost != -1) = true := by simp [h1]
     have g2 : (x.lost != m) = true := by simp [h2]
     go_wp2
     refine bodyPost_ret (v := .tuple #[]) (results_none rfl _ _ _) rfl ?_
     exact ⟨rfl, by rw [HV.out]; exact HA1.out, HB1.out⟩

theorem copyMem_any (w : World) (E : TypeId) (a0 a1 a3 : Option Addr) (n0 c0 n1 c1 n3 c3 : Nat) (ss : List (List Int)) (cs : List (Int × List Int)) (f : Bool) (bs : List Int) (h0 : tIntSS.Rd w [.slice a0 n0 c0] ss) (h1 : (tWrS E).Rd w [.slice a1 n1 c1] cs) (h3 : tIntS.Rd w [.slice a3 n3 c3] bs) (hw : wtMem (ss, cs, f, bs) <= 2097152) :
 Calls Try.prog 71 #[.agg #[.slice a0 n0 c0, .slice a1 n1 c1, .bool f, .slice a3 n3 c3]] w fun e w' => ∃ v0 v1 v3 m1 m2, e = .returned (.agg #[v0, v1, .bool f, v3]) /\ tIntS.Own w' w.heap.size m1 [v3] bs /\ tIntSS.Own w' m1 m2 [v0] ss /\ (tWrS 108).Own w' m2 w'.heap.size [v1] cs /\ m1 <= m2 /\ w.heap.size <= m1 /\ m2 <= w'.heap.size /\ Below w.heap.size w w' := by
 obtain ⟨hl0, _, hm0⟩ := row_length h0
 obtain ⟨hl1, _, hm1⟩ := row_length h1
 obtain ⟨hl3, _, hm3⟩ := row_length h3
 have hw0 : wtIntSS ss <= 2097152 := by unfold wtMem at hw; simp only at hw; omega
 have hw1 : wtWrS cs <= 2097152 := by unfold wtMem at hw; simp only at hw; omega
 have hw3 : n3 <= 2097152 := by unfold wtMem at hw; simp only at hw; omega
 have hn0 : n0 <= 2097152 := by unfold wtIntSS at hw0; omega
 have hn1 : n1 <= 2097152 := by unfold wtWrS at hw1; omega
 obtain ⟨i0, hi, hz0, hz1, hz2⟩ := info_parts Try.infoIntS
 obtain ⟨i1, hi1, hy0, hy1, hy2⟩ := info_parts Try.infoWr
 have hA : Below w.heap.size w ((w.alloc (.cells #[.slice a0 n0 c0, .slice a1 n1 c1, .bool f, .slice a3 n3 c3] 73)).alloc (.cells #[.slice none 0 0, .slice none 0 0, .bool false, .slice none 0 0] 73)) := ((Below.refl _ _).alloc (Nat.le_refl _) _).alloc (by simp) _
 have xm : Box ((w.alloc (.cells #[.slice a0 n0 c0, .slice a1 n1 c1, .bool f, .slice a3 n3 c3] 73)).alloc (.cells #[.slice none 0 0, .slice none 0 0, .bool false, .slice none 0 0] 73)) w.heap.size 73 #[.slice a0 n0 c0, .slice a1 n1 c1, .bool f, .slice a3 n3 c3] := (Box.new w _ _).alloc _
 have xr : Box ((w.alloc (.cells #[.slice a0 n0 c0, .slice a1 n1 c1, .bool f, .slice a3 n3 c3] 73)).alloc (.cells #[.slice none 0 0, .slice none 0 0, .bool false, .slice none 0 0] 73)) (w.heap.size + 1) 73 #[.slice none 0 0, .slice none 0 0, .bool false, .slice none 0 0] := by
  have := Box.new (w.alloc (.cells #[.slice a0 n0 c0, .slice a1 n1 c1, .bool f, .slice a3 n3 c3] 73)) 73 #[.slice none 0 0, .slice none 0 0, .bool false, .slice none 0 0]
  rw [show (w.alloc (.cells #[.slice a0 n0 c0, .slice a1 n1 c1, .bool f, .slice a3 n3 c3] 73)).heap.size = w.heap.size + 1 by simp] at this
  exact this
 have hsz : ((w.alloc (.cells #[.slice a0 n0 c0, .slice a1 n1 c1, .bool f, .slice a3 n3 c3] 73)).alloc (.cells #[.slice none 0 0, .slice none 0 0, .bool false, .slice none 0 0] 73)).heap.size = w.heap.size + 1 + 1 := by simp
 have HSZ := hidden hsz
 clear hsz
 go_enter Try.func71, Try.ntmps71
 go_wp2_with fail
 generalize hW : (w.alloc (.cells #[.slice a0 n0 c0, .slice a1 n1 c1, .bool f, .slice a3 n3 c3] 73)).alloc (.cells #[.slice none 0 0, .slice none 0 0, .bool false, .slice none 0 0] 73) = W at hA xm xr HSZ ⊢
 clear hW
 obtain ⟨q0, q1, q2, q3⟩ := xm.cells4
 have zW : w.heap.size < W.heap.size := xm.lt
 have g3 := h3.below hA
 have hS : ∀ w', Below W.heap.size W w' -> w'.cell? ⟨w.heap.size, 2, none⟩ = some (.bool f) /\ w'.cell? ⟨w.heap.size, 3, none⟩ = some (.slice a3 n3 c3) := fun w' hb => ⟨(hb.cell (p := ⟨w.heap.size, 2, none⟩) zW).trans q2, (hb.cell (p := ⟨w.heap.size, 3, none⟩) zW).trans q3⟩
 go_region_held3 (fun w' => w'.cell? ⟨w.heap.size, 2, none⟩ = some (.bool f) /\ w'.cell? ⟨w.heap.size, 3, none⟩ = some (.slice a3 n3 c3))
  (first | (exact hS _ hb5') | (exact hS _ (hb5'.alloc hb5'.size _)) | (exact hS _ (by go_grown)) | go_keep)
  (first
   | (go_at_call 72; refine (copyWords_any _ _ _ _ bs (by exact g3.drew) (by omega)).mono ?_; rintro e w5 ⟨a5, c5, rfl, o5, hb5⟩; have hb5' : Below W.heap.size W w5 := by exact (Below.refl W.heap.size W).drew.trans hb5)
   | (go_at_call 72; refine (copyWords_any _ _ _ _ bs (by exact (g3.below ((Below.refl _ _).alloc (Nat.le_refl _) _)).drew) (by omega)).mono ?_; rintro e w5 ⟨a5, c5, rfl, o5, hb5⟩; have hb5' : Below W.heap.size W w5 := (by exact ((Below.refl W.heap.size W).alloc (Nat.le_refl _) _).drew.trans (hb5.mono (by simp))); have xo : Box w5 W.heap.size 73 #[.slice none 0 0, .slice none 0 0, .bool false, .slice none 0 0] := (by exact Box.below (w := (W.alloc (.cells #[.slice none 0 0, .slice none 0 0, .bool false, .slice none 0 0] 73)).drew) (Box.new W 73 _) hb5 (by simp)); obtain ⟨t0, t1, t2, t3⟩ := xo.cells4; have u0 := xo.frozen 0; have u1 := xo.frozen 1; have u2 := xo.frozen 2; have u3 := xo.frozen 3))
 . have sW := HSZ.out
   have zz := hb5'.size
   have ba : Below w5.heap.size w5 (w5.alloc (.cells #[.slice none 0 0, .slice none 0 0, .bool f, .slice a5 n3 c5] 73)) := (Below.refl _ _).alloc (Nat.le_refl _) _
   have bb := Below.andThen hb5' ba
   obtain ⟨fp3, m3, r3⟩ := Ty.Own.mine (show tIntS.Own w5 W.heap.size w5.heap.size [.slice a5 n3 c5] bs from o5)
   have hz6 : (w5.alloc (.cells #[.slice none 0 0, .slice none 0 0, .bool f, .slice a5 n3 c5] 73)).heap.size = w5.heap.size + 1 := by simp
   have FM := hidden (xm.below bb zW)
   have FR := hidden (xr.below bb (by omega))
   have FO := hidden (Box.new w5 73 #[.slice none 0 0, .slice none 0 0, .bool f, .slice a5 n3 c5])
   have F3 := hidden (m3.below ba)
   have FB := hidden (hA.trans (bb.mono (by omega)))
   have FS : Hid (w.heap.size + 2 <= w5.heap.size /\ w5.heap.size < (w5.alloc (.cells #[.slice none 0 0, .slice none 0 0, .bool f, .slice a5 n3 c5] 73)).heap.size /\ ∀ b ∈ fp3, w.heap.size + 2 <= b /\ b < (w5.alloc (.cells #[.slice none 0 0, .slice none 0 0, .bool f, .slice a5 n3 c5] 73)).heap.size /\ b ≠ w5.heap.size) := ⟨by omega, by omega, fun b hb => by have := r3 b hb; omega⟩
   clear sW zz ba bb m3 r3 hz6 hS g3 q0 q1 q2 q3 xm xr hb5' o5 hb5 hA HSZ zW
   generalize w5.alloc (.cells #[.slice none 0 0, .slice none 0 0, .bool f, .slice a5 n3 c5] 73) = w6 at FM FR FO F3 FB FS ⊢
   generalize w5.heap.size = BO at FO FS ⊢
   obtain ⟨p0, p1, p2, p3⟩ := FM.out.cells4
   obtain ⟨fs1, fs2, fs3⟩ := FS.out
   go_wp2
   go_loopw [17] (fun i wr => ∃ (j : Nat) (v0 : Value) (fp0 : List Nat), j <= n0 /\ i = .int .i64 j /\ Fr w6.heap.size BO w6 wr /\ Box wr BO 73 #[v0, .slice none 0 0, .bool f, .slice a5 n3 c5] /\ tIntSS.Mine wr [v0] (ss.take j) fp0 /\ (∀ b ∈ fp0, w6.heap.size <= b)) (fun i _ => n0 - (intOf i).toNat)
   case atStart => exact ⟨0, _, [], Nat.zero_le _, rfl, Fr.refl _ _ _, FO.out, nil_mine _, by simp⟩
   case round =>
    obtain ⟨j, v0, fp0, hj, rfl, fr, xo, hm, hfp⟩ := hrel
    have hs := fr.size
    have xm := fr.box FM.out (by omega) (by omega)
    have hb := FB.out.trans (fr.below (M := w.heap.size) (by omega) (by omega))
    obtain ⟨q0, q1, q2, q3⟩ := xm.cells4
    clear xm
    by_cases hjn : j < n0
    . rcases rows_at rfl h0 with h0' | ⟨b, off, rfl, hbl, hcs⟩
      . omega
      have hdj : ss[j]? = some (ss[j]'(by omega)) := List.getElem?_eq_getElem (by omega)
      have htk : ss.take (j + 1) = ss.take j ++ [ss[j]'(by omega)] := List.take_succ_eq_append_getElem (by omega)
      generalize ss[j]'(by omega) = x at hdj htk
      have hil := inner_le hdj
      obtain ⟨v, hv, hrv⟩ := hcs j x hdj
      obtain ⟨av, cv, rfl⟩ := row_shape hrv
      have pv := (hb.cell (p := ⟨b, off + j, none⟩) hbl).trans hv
      have HX := hidden (hrv.below hb)
      have k1 : (0 : Int) <= (j : Int) := by omega
      have k2 : (j : Int) < (n0 : Int) := by omega
      have HTK := hidden htk
      have XO := hidden xo
      have FRR := hidden fr
      have HM := hidden hm
      have HFP := hidden hfp
      have HL : Hid ((ss.take j).length = j) := by unfold Hid; rw [List.length_take]; omega
      have L1 : Hid ((ss.take j).length + 1 <= maxLen) := by unfold Hid; rw [HL.out]; unfold maxLen; omega
      have L2 : Hid (((ss.take j).length + 1) * 24 <= 140737488355328) := by unfold Hid; rw [HL.out]; omega
      have c0 : wr.drew.cell? ⟨BO, 0, none⟩ = some v0 := xo.cell 0
      clear hcs hdj hv hrv htk xo hm hfp hb fr
      go_wp2_with fail
      refine Upto.start (S := fun w' => w'.cell? ⟨BO, 0, none⟩ = some v0) (k := 7) (by kernel_rfl) ?_
      refine Upto.t 0 c0 ?_
      refine Upto.t 1 c0 ?_
      refine Upto.t 2 c0 ?_
      refine Upto.one (i := 3) (by kernel_rfl) rfl (fun K hK => ?_)
      go_simp
      refine (copyWords_any _ _ _ _ x (by exact HX.out.drew) (by omega)).mono ?_
      rintro e wc ⟨ac, cc, rfl, oc, hbc⟩
      have hbc' : Below wr.heap.size wr wc := (by exact (Below.refl wr.heap.size wr).drew.trans hbc)
      have xoc : Box wc BO 73 _ := XO.out.below hbc' (by omega)
      have c1 : wc.cell? ⟨BO, 0, none⟩ = some v0 := xoc.cell 0
      have c2 : (wc.alloc (.cells #[.slice ac x.length cc] 39)).cell? ⟨BO, 0, none⟩ = some v0 := (xoc.alloc (.cells #[.slice ac x.length cc] 39)).cell 0
      obtain ⟨fpx, mx, rx⟩ := Ty.Own.mine (lo := wr.heap.size) oc
      have XOC := hidden xoc
      have MX := hidden mx
      have RX := hidden rx
      have HBC := hidden hbc'
      clear xoc mx rx oc hbc hbc'
      go_wp2_with fail
      refine hK.out _ _ (fun _ => c1) ?_
      clear hK K
      refine Upto.one (i := 4) (by kernel_rfl) rfl (fun K hK => ?_)
      go_simp
      refine hK.out _ _ (fun _ => c2) ?_
      clear hK K
      refine Upto.one (i := 5) (by kernel_rfl) rfl (fun K hK => ?_)
      refine step_appT tIntS (by rfl) _ _ 67 (by rfl) 39 i0 (.slice none 0 0) 24 Try.underlying67 hi hz0 hz1 hz2 rfl Nat.zero_lt_one v0 (ss.take j) fp0 (by rfl) ?_ ⟨wc.heap.size, 0, none⟩ 1 [.slice ac x.length cc] x fpx (by rfl) ?_ ?_ ?_ ?_ L1.out L2.out ?_
      . exact (HM.out.below HBC.out).alloc _
      . exact MX.out.alloc _
      . intro b hb hb'
        have h1 := HM.out.lt b hb
        have h2 := RX.out b hb'
        omega
      . exact news_new _ _ _
      . intro u hu
        simp at hu
        rw [hu]
        rfl
      intro g cap wA fpA m1 m2 m3
      rw [HL.out] at m1 ⊢
      rw [← HTK.out] at m1
      have ya : Box wA BO 73 _ := (XOC.out.alloc _).turned m3 (fun hm => by have := HFP.out _ hm; omega)
      have r0 : wA.cell? ⟨BO, 0, none⟩ = some v0 := ya.cell 0
      have fz := ya.frozen 0
      have YA := hidden ya
      have M1 := hidden m1
      have M2 := hidden m2
      have M3 := hidden m3
      clear ya m1 m2 m3
      refine hK.out _ _ (fun _ => r0) ?_
      clear hK K
      simp only [Act.put, List.setIfInBounds_toArray, List.set_cons_zero, List.set_cons_succ]
      refine Upto.t 6 r0 ?_
      refine Upto.one (i := 7) (by kernel_rfl) rfl (fun K hK => ?_)
      go_simp
      refine hK.out _ _ (fun h => absurd rfl h) ?_
      clear hK K
      refine Upto.done (by kernel_rfl) ?_ _
      have hfA := round_fp (N := w6.heap.size) hs HBC.out HFP.out RX.out M2.out
      have frA := Fr.round FRR.out hs HBC.out _ M3.out HFP.out 0 (.slice (some ⟨g, 0, none⟩) (j + 1) cap)
      have mA := M1.out.setCell (g := BO) (j := 0) (fun hm => by have := hfA _ hm; omega) (.slice (some ⟨g, 0, none⟩) (j + 1) cap)
      have yA := YA.out.set 0 (.slice (some ⟨g, 0, none⟩) (j + 1) cap)
      have HFA := hidden hfA
      have FRA := hidden frA
      have MA := hidden mA
      have YA' := hidden yA
      clear hfA frA mA yA c0 c1 c2 r0 YA M1 M2 M3 XOC MX RX HBC HFP HM FRR XO
      go_wp2
      go_roundw
      case rel => exact ⟨j + 1, _, fpA, by omega, by go_num, FRA.out, YA'.out, MA.out, HFA.out⟩
      case measure => simp [intOf]; omega
    . have e : n0 = j := by omega
      subst e
      rw [List.take_of_length_le (by omega)] at hm
      have hlt := hm.lt
      have GR := hidden (fr.box FR.out (by omega) (by omega))
      have GM := hidden (fr.box FM.out (by omega) (by omega))
      have GB := hidden (FB.out.trans (fr.below (M := w.heap.size) (by omega) (by omega)))
      have G3 := hidden (fr.mine F3.out (fun b hb => by have := fs3 b hb; omega))
      have G0 := hidden (hm.own (lo := w6.heap.size) (hi := wr.heap.size) (fun b hb => ⟨hfp b hb, hlt b hb⟩))
      have GO := hidden xo
      clear fr xo hm hfp hlt FM FO F3 FB FR
      go_wp2
      generalize wr = w7 at hs GM GR GB G3 G0 GO q0 q1 q2 q3 ⊢
      go_loopw [32] (fun i wr => ∃ (j : Nat) (v1 : Value) (fp1 : List Nat), j <= n1 /\ i = .int .i64 j /\ Fr w7.heap.size BO w7 wr /\ Box wr BO 73 #[v0, v1, .bool f, .slice a5 n3 c5] /\ (tWrS 108).Mine wr [v1] (cs.take j) fp1 /\ (∀ b ∈ fp1, w7.heap.size <= b)) (fun i _ => n1 - (intOf i).toNat)
      case atStart => exact ⟨0, _, [], Nat.zero_le _, rfl, Fr.refl _ _ _, GO.out, nil_mine _, by simp⟩
      case round =>
       obtain ⟨j, v1, fp1, hj, rfl, fr, xo, hm, hfp⟩ := hrel
       have hs2 := fr.size
       have xm := fr.box GM.out (by omega) (by omega)
       have hb := GB.out.trans (fr.below (M := w.heap.size) (by omega) (by omega))
       clear q0 q1 q2 q3
       obtain ⟨q0, q1, q2, q3⟩ := xm.cells4
       clear xm
       by_cases hjn : j < n1
       . rcases pairs_at rfl h1 with h0' | ⟨b, off, rfl, hbl, hcs⟩
         . omega
         have hdj : cs[j]? = some (cs[j]'(by omega)) := List.getElem?_eq_getElem (by omega)
         have htk : cs.take (j + 1) = cs.take j ++ [cs[j]'(by omega)] := List.take_succ_eq_append_getElem (by omega)
         generalize cs[j]'(by omega) = x at hdj htk
         have hil := inner_le' hdj
         obtain ⟨u0, u1, hv0, hv1, hrv⟩ := hcs j x hdj
         obtain ⟨rfl, hrv'⟩ := wr_rd hrv
         obtain ⟨av, cv, rfl⟩ := row_shape hrv'
         have pv0 := (hb.cell (p := ⟨b, off + j * 2, none⟩) hbl).trans hv0
         have pv1 := (hb.cell (p := ⟨b, off + j * 2 + 1, none⟩) hbl).trans hv1
         obtain ⟨x0, x1⟩ := x
         simp only at pv0 pv1 hrv' hil
         have HX := hidden (hrv'.below hb)
         have k1 : (0 : Int) <= (j : Int) := by omega
         have k2 : (j : Int) < (n1 : Int) := by omega
         have HTK := hidden htk
         have XO := hidden xo
         have FRR := hidden fr
         have HM := hidden hm
         have HFP := hidden hfp
         have HL : Hid ((cs.take j).length = j) := by unfold Hid; rw [List.length_take]; omega
         have L1 : Hid ((cs.take j).length + 1 <= maxLen) := by unfold Hid; rw [HL.out]; unfold maxLen; omega
         have L2 : Hid (((cs.take j).length + 1) * 32 <= 140737488355328) := by unfold Hid; rw [HL.out]; omega
         have xw := Box.new wr 108 #[.int .i64 x0, .slice av x1.length cv]
         have ba : Below wr.heap.size wr (wr.alloc (.cells #[.int .i64 x0, .slice av x1.length cv] 108)) := (Below.refl _ _).alloc (Nat.le_refl _) _
         have XO2 := hidden (xo.alloc (.cells #[.int .i64 x0, .slice av x1.length cv] 108))
         have HM2 := hidden (hm.alloc (.cells #[.int .i64 x0, .slice av x1.length cv] 108))
         have HX2 := hidden (HX.out.below ba)
         have FR2 := hidden (fr.trans (Fr.ofBelow (B := BO) ba hs2))
         have HZ : Hid (wr.heap.size < (wr.alloc (.cells #[.int .i64 x0, .slice av x1.length cv] 108)).heap.size) := by unfold Hid; simp
         have XW := hidden xw
         have HFX := hidden hm.lt
         clear hcs hdj hv0 hv1 hrv hrv' htk xo hm hfp hb fr xw ba HX HM FRR XO
         go_wp2_with fail
         generalize wr.alloc (.cells #[.int .i64 x0, .slice av x1.length cv] 108) = w8 at XO2 HM2 HX2 FR2 HZ XW ⊢
         have zw := HZ.out
         have hs8 : w7.heap.size <= w8.heap.size := by omega
         have c0 : w8.drew.cell? ⟨BO, 1, none⟩ = some v1 := XO2.out.cell 1
         have c1 : w8.drew.cell? ⟨wr.heap.size, 0, none⟩ = some (.int .i64 x0) := XW.out.cell 0
         have c2 : w8.drew.cell? ⟨wr.heap.size, 1, none⟩ = some (.slice av x1.length cv) := XW.out.cell 1
         have hS : w8.drew.cell? ⟨BO, 1, none⟩ = some v1 /\ w8.drew.cell? ⟨wr.heap.size, 0, none⟩ = some (.int .i64 x0) /\ w8.drew.cell? ⟨wr.heap.size, 1, none⟩ = some (.slice av x1.length cv) := ⟨c0, c1, c2⟩
         clear c0 c1 c2
         refine Upto.start (S := fun w' => w'.cell? ⟨BO, 1, none⟩ = some v1 /\ w'.cell? ⟨wr.heap.size, 0, none⟩ = some (.int .i64 x0) /\ w'.cell? ⟨wr.heap.size, 1, none⟩ = some (.slice av x1.length cv)) (k := 11) (by kernel_rfl) ?_
         refine Upto.take (i := 0) (v := ?_) rfl (by kernel_rfl) (by kernel_rfl) (by kernel_rfl) (by kernel_rfl) (fun _ _ _ h => h) (Or.inl ⟨by rfl, ?_⟩) hS ?_
         rotate_left 1
         . (intro w hSw; (try dsimp only at hSw); go_split_ands; go_simp; first | done | with_reducible rfl)
         refine Upto.t 1 hS ?_
         refine Upto.t 2 hS ?_
         refine Upto.t 3 hS ?_
         refine Upto.t 4 hS ?_
         refine Upto.t 5 hS ?_
         refine Upto.one (i := 6) (by kernel_rfl) rfl (fun K hK => ?_)
         go_simp
         refine (copyWords_any _ _ _ _ x1 (by exact HX2.out.drew) (by omega)).mono ?_
         rintro e wc ⟨ac, cc, rfl, oc, hbc⟩
         have hbc' : Below w8.heap.size w8 wc := (by exact (Below.refl w8.heap.size w8).drew.trans hbc)
         have xoc : Box wc BO 73 _ := XO2.out.below hbc' (by omega)
         have xwc : Box wc wr.heap.size 108 _ := XW.out.below hbc' zw
         have d0 : wc.cell? ⟨BO, 1, none⟩ = some v1 /\ wc.cell? ⟨wr.heap.size, 0, none⟩ = some (.int .i64 x0) /\ wc.cell? ⟨wr.heap.size, 1, none⟩ = some (.slice av x1.length cv) := ⟨xoc.cell 1, xwc.cell 0, xwc.cell 1⟩
         have d2 : (wc.alloc (.cells #[.int .i64 x0, .slice ac x1.length cc] 108)).cell? ⟨BO, 1, none⟩ = some v1 /\ (wc.alloc (.cells #[.int .i64 x0, .slice ac x1.length cc] 108)).cell? ⟨wr.heap.size, 0, none⟩ = some (.int .i64 x0) /\ (wc.alloc (.cells #[.int .i64 x0, .slice ac x1.length cc] 108)).cell? ⟨wr.heap.size, 1, none⟩ = some (.slice av x1.length cv) := ⟨(xoc.alloc _).cell 1, (xwc.alloc _).cell 0, (xwc.alloc _).cell 1⟩
         obtain ⟨fpx, mx, rx⟩ := Ty.Own.mine (lo := w8.heap.size) oc
         have XOC := hidden xoc
         have XWC := hidden xwc
         have MX := hidden mx
         have RX := hidden rx
         have HBC := hidden hbc'
         clear xoc xwc mx rx oc hbc hbc'
         go_wp2_with fail
         refine hK.out _ _ (fun _ => d0) ?_
         clear hK K
         refine Upto.t 7 d0 ?_
         refine Upto.one (i := 8) (by kernel_rfl) rfl (fun K hK => ?_)
         go_simp
         refine hK.out _ _ (fun _ => d2) ?_
         clear hK K
         refine Upto.one (i := 9) (by kernel_rfl) rfl (fun K hK => ?_)
         refine step_appT tWr (by rfl) _ _ 71 (by rfl) 108 i1 (.agg #[.int .i64 0, .slice none 0 0]) 32 Try.underlying71 hi1 hy0 hy1 hy2 rfl Nat.zero_lt_two v1 (cs.take j) fp1 (by rfl) ?_ ⟨wc.heap.size, 0, none⟩ 1 [.int .i64 x0, .slice ac x1.length cc] (x0, x1) fpx (by rfl) ?_ ?_ ?_ ?_ L1.out L2.out ?_
         . exact (HM2.out.below HBC.out).alloc _
         . exact (wr_mine x0 MX.out).alloc _
         . intro b hb hb'
           have h1 := HM2.out.lt b hb
           have h2 := RX.out b hb'
           omega
         . exact news_new _ _ _
         . intro u hu
           simp at hu
           rcases hu with hu | hu <;> (rw [hu]; rfl)
         intro g cap wA fpA m1 m2 m3
         rw [HL.out] at m1 ⊢
         rw [← HTK.out] at m1
         have ya : Box wA BO 73 _ := (XOC.out.alloc _).turned m3 (fun hm => by have := HFP.out _ hm; omega)
         have yw : Box wA wr.heap.size 108 _ := (XWC.out.alloc _).turned m3 (fun hm => by have h1 := HM2.out; have h2 := HFX.out _ hm; omega)
         have r0 : wA.cell? ⟨BO, 1, none⟩ = some v1 /\ wA.cell? ⟨wr.heap.size, 0, none⟩ = some (.int .i64 x0) /\ wA.cell? ⟨wr.heap.size, 1, none⟩ = some (.slice av x1.length cv) := ⟨ya.cell 1, yw.cell 0, yw.cell 1⟩
         have q9 := r0.1
         have fz := ya.frozen 1
         have YA := hidden ya
         have M1 := hidden m1
         have M2 := hidden m2
         have M3 := hidden m3
         clear ya yw m1 m2 m3
         refine hK.out _ _ (fun _ => r0) ?_
         clear hK K
         simp only [Act.put, List.setIfInBounds_toArray, List.set_cons_zero, List.set_cons_succ]
         refine Upto.t 10 r0 ?_
         refine Upto.one (i := 11) (by kernel_rfl) rfl (fun K hK => ?_)
         go_simp
         refine hK.out _ _ (fun h => absurd rfl h) ?_
         clear hK K
         refine Upto.done (by kernel_rfl) ?_ _
         have hfA := round_fp (N := w7.heap.size) hs8 HBC.out HFP.out RX.out M2.out
         have frA := Fr.round FR2.out hs8 HBC.out _ M3.out HFP.out 1 (.slice (some ⟨g, 0, none⟩) (j + 1) cap)
         have mA := M1.out.setCell (g := BO) (j := 1) (fun hm => by have := hfA _ hm; omega) (.slice (some ⟨g, 0, none⟩) (j + 1) cap)
         have yA := YA.out.set 1 (.slice (some ⟨g, 0, none⟩) (j + 1) cap)
         have HFA := hidden hfA
         have FRA := hidden frA
         have MA := hidden mA
         have YA' := hidden yA
         clear hfA frA mA yA hS d0 d2 r0 q9 YA M1 M2 M3 XOC MX RX HBC HFP HM2 FR2 XO2 XW HX2 XWC HFX
         go_wp2
         go_roundw
         case rel => exact ⟨j + 1, _, fpA, by omega, by go_num, FRA.out, YA'.out, MA.out, HFA.out⟩
         case measure => simp [intOf]; omega
       . have e : n1 = j := by omega
         subst e
         rw [List.take_of_length_le (by omega)] at hm
         have hlt := hm.lt
         have xr := fr.box GR.out (by omega) (by omega)
         obtain ⟨p0, p1, p2, p3⟩ := xr.cells4
         have fz := xr.frozen
         obtain ⟨r0, r1, r2, r3⟩ := xo.cells4
         have K3 := fr.mine G3.out (fun b hb => by have := fs3 b hb; omega)
         have K0 := fr.own G0.out (by omega) (by omega)
         have K1 := hm.own (lo := w7.heap.size) (hi := wr.heap.size) (fun b hb => ⟨hfp b hb, hlt b hb⟩)
         have KB := GB.out.trans (fr.below (M := w.heap.size) (by omega) (by omega))
         obtain ⟨e0, g0, hv0⟩ := row_shape K0.rd
         obtain ⟨e1, g1, hv1⟩ := row_shape K1.rd
         rw [hl0] at hv0
         rw [hl1] at hv1
         subst hv0 hv1
         have hbt : But (w.heap.size + 1) (w.heap.size + 2) wr ((((wr.setCell ⟨w.heap.size + 1, 0, none⟩ (.slice e0 n0 g0)).setCell ⟨w.heap.size + 1, 1, none⟩ (.slice e1 n1 g1)).setCell ⟨w.heap.size + 1, 2, none⟩ (.bool f)).setCell ⟨w.heap.size + 1, 3, none⟩ (.slice a5 n3 c5)) :=
          (((But.setCell (by omega) (by omega) _).trans (But.setCell (by omega) (by omega) _)).trans (But.setCell (by omega) (by omega) _)).trans (But.setCell (by omega) (by omega) _)
         have H3 := hidden ((K3.but hbt (fun b hb => by have := fs3 b hb; omega)).own (lo := w.heap.size) (hi := w6.heap.size) (fun b hb => by have := fs3 b hb; omega))
         have H0 := hidden (K0.but hbt (by omega))
         have H1 := hidden (K1.but hbt (by omega))
         have HB := hidden (Below.andBut KB hbt (by omega))
         have hsz := hbt.size
         clear fr xo hm hfp hlt xr K3 K0 K1 KB hbt GM GR GB G3 G0 GO
         go_wp2
         refine bodyPost_ret (v := .agg #[.slice e0 n0 g0, .slice e1 n1 g1, .bool f, .slice a5 n3 c5]) (by simp [results, Try.results71, go_sem, p0, p1, p2, p3]) rfl ?_
         exact ⟨_, _, _, w6.heap.size, w7.heap.size, rfl, H3.out, H0.out, H1.out.widen (Nat.le_refl _) hsz, by omega, by omega, by omega, HB.out⟩
 . have sW := HSZ.out
   have zz := hb5'.size
   have zy : W.heap.size < w5.heap.size := xo.lt
   have hbt : But W.heap.size (W.heap.size + 1) w5 ((((w5.setCell ⟨W.heap.size, 0, none⟩ (.slice none 0 0)).setCell ⟨W.heap.size, 1, none⟩ (.slice none 0 0)).setCell ⟨W.heap.size, 2, none⟩ (.bool f)).setCell ⟨W.heap.size, 3, none⟩ (.slice a5 n3 c5)) :=
    (((But.setCell (by omega) (by omega) _).trans (But.setCell (by omega) (by omega) _)).trans (But.setCell (by omega) (by omega) _)).trans (But.setCell (by omega) (by omega) _)
   obtain ⟨fp3, m3, r3⟩ := Ty.Own.mine (show tIntS.Own w5 (W.alloc (.cells #[.slice none 0 0, .slice none 0 0, .bool false, .slice none 0 0] 73)).heap.size w5.heap.size [.slice a5 n3 c5] bs from o5)
   have hz6 : (W.alloc (.cells #[.slice none 0 0, .slice none 0 0, .bool false, .slice none 0 0] 73)).heap.size = W.heap.size + 1 := by simp
   have FM := hidden ((xm.below hb5' zW).kept (hbt.block _ (by omega) (by omega)))
   have FR := hidden ((xr.below hb5' (by omega)).kept (hbt.block _ (by omega) (by omega)))
   have FO := hidden ((((xo.set 0 (.slice none 0 0)).set 1 (.slice none 0 0)).set 2 (.bool f)).set 3 (.slice a5 n3 c5))
   have F3 := hidden (m3.but hbt (fun b hb => by have := r3 b hb; omega))
   have FB := hidden (hA.trans ((hb5'.mono (by omega : w.heap.size <= W.heap.size)).trans (hbt.below (by omega) (by omega))))
   have hsz := hbt.size
   have FS : Hid (w.heap.size + 2 <= W.heap.size /\ W.heap.size < ((((w5.setCell ⟨W.heap.size, 0, none⟩ (.slice none 0 0)).setCell ⟨W.heap.size, 1, none⟩ (.slice none 0 0)).setCell ⟨W.heap.size, 2, none⟩ (.bool f)).setCell ⟨W.heap.size, 3, none⟩ (.slice a5 n3 c5)).heap.size /\ ∀ b ∈ fp3, w.heap.size + 2 <= b /\ b < ((((w5.setCell ⟨W.heap.size, 0, none⟩ (.slice none 0 0)).setCell ⟨W.heap.size, 1, none⟩ (.slice none 0 0)).setCell ⟨W.heap.size, 2, none⟩ (.bool f)).setCell ⟨W.heap.size, 3, none⟩ (.slice a5 n3 c5)).heap.size /\ b ≠ W.heap.size) := ⟨by omega, by omega, fun b hb => by have := r3 b hb; omega⟩
   clear sW zz zy hbt m3 r3 hz6 hsz hS g3 q0 q1 q2 q3 xm xr hb5' o5 hb5 hA HSZ zW xo t0 t1 t2 t3 u0 u1 u2 u3
   generalize (((w5.setCell ⟨W.heap.size, 0, none⟩ (.slice none 0 0)).setCell ⟨W.heap.size, 1, none⟩ (.slice none 0 0)).setCell ⟨W.heap.size, 2, none⟩ (.bool f)).setCell ⟨W.heap.size, 3, none⟩ (.slice a5 n3 c5) = w6 at FM FR FO F3 FB FS ⊢
   generalize W.heap.size = BO at FO FS ⊢
   obtain ⟨p0, p1, p2, p3⟩ := FM.out.cells4
   obtain ⟨fs1, fs2, fs3⟩ := FS.out
   go_wp2
   go_loopw [17] (fun i wr => ∃ (j : Nat) (v0 : Value) (fp0 : List Nat), j <= n0 /\ i = .int .i64 j /\ Fr w6.heap.size BO w6 wr /\ Box wr BO 73 #[v0, .slice none 0 0, .bool f, .slice a5 n3 c5] /\ tIntSS.Mine wr [v0] (ss.take j) fp0 /\ (∀ b ∈ fp0, w6.heap.size <= b)) (fun i _ => n0 - (intOf i).toNat)
   case atStart => exact ⟨0, _, [], Nat.zero_le _, rfl, Fr.refl _ _ _, FO.out, nil_mine _, by simp⟩
   case round =>
    obtain ⟨j, v0, fp0, hj, rfl, fr, xo, hm, hfp⟩ := hrel
    have hs := fr.size
    have xm := fr.box FM.out (by omega) (by omega)
    have hb := FB.out.trans (fr.below (M := w.heap.size) (by omega) (by omega))
    obtain ⟨q0, q1, q2, q3⟩ := xm.cells4
    clear xm
    by_cases hjn : j < n0
    . rcases rows_at rfl h0 with h0' | ⟨b, off, rfl, hbl, hcs⟩
      . omega
      have hdj : ss[j]? = some (ss[j]'(by omega)) := List.getElem?_eq_getElem (by omega)
      have htk : ss.take (j + 1) = ss.take j ++ [ss[j]'(by omega)] := List.take_succ_eq_append_getElem (by omega)
      generalize ss[j]'(by omega) = x at hdj htk
      have hil := inner_le hdj
      obtain ⟨v, hv, hrv⟩ := hcs j x hdj
      obtain ⟨av, cv, rfl⟩ := row_shape hrv
      have pv := (hb.cell (p := ⟨b, off + j, none⟩) hbl).trans hv
      have HX := hidden (hrv.below hb)
      have k1 : (0 : Int) <= (j : Int) := by omega
      have k2 : (j : Int) < (n0 : Int) := by omega
      have HTK := hidden htk
      have XO := hidden xo
      have FRR := hidden fr
      have HM := hidden hm
      have HFP := hidden hfp
      have HL : Hid ((ss.take j).length = j) := by unfold Hid; rw [List.length_take]; omega
      have L1 : Hid ((ss.take j).length + 1 <= maxLen) := by unfold Hid; rw [HL.out]; unfold maxLen; omega
      have L2 : Hid (((ss.take j).length + 1) * 24 <= 140737488355328) := by unfold Hid; rw [HL.out]; omega
      have c0 : wr.drew.cell? ⟨BO, 0, none⟩ = some v0 := xo.cell 0
      clear hcs hdj hv hrv htk xo hm hfp hb fr
      go_wp2_with fail
      refine Upto.start (S := fun w' => w'.cell? ⟨BO, 0, none⟩ = some v0) (k := 7) (by kernel_rfl) ?_
      refine Upto.take (i := 0) (v := ?_) rfl (by kernel_rfl) (by kernel_rfl) (by kernel_rfl) (by kernel_rfl) (fun _ _ _ h => h) (Or.inl ⟨by rfl, ?_⟩) c0 ?_
      rotate_left 1
      . (intro w hSw; (try dsimp only at hSw); go_split_ands; go_simp; first | done | with_reducible rfl)
      refine Upto.t 1 c0 ?_
      refine Upto.t 2 c0 ?_
      refine Upto.one (i := 3) (by kernel_rfl) rfl (fun K hK => ?_)
      go_simp
      refine (copyWords_any _ _ _ _ x (by exact HX.out.drew) (by omega)).mono ?_
      rintro e wc ⟨ac, cc, rfl, oc, hbc⟩
      have hbc' : Below wr.heap.size wr wc := (by exact (Below.refl wr.heap.size wr).drew.trans hbc)
      have xoc : Box wc BO 73 _ := XO.out.below hbc' (by omega)
      have c1 : wc.cell? ⟨BO, 0, none⟩ = some v0 := xoc.cell 0
      have c2 : (wc.alloc (.cells #[.slice ac x.length cc] 39)).cell? ⟨BO, 0, none⟩ = some v0 := (xoc.alloc (.cells #[.slice ac x.length cc] 39)).cell 0
      obtain ⟨fpx, mx, rx⟩ := Ty.Own.mine (lo := wr.heap.size) oc
      have XOC := hidden xoc
      have MX := hidden mx
      have RX := hidden rx
      have HBC := hidden hbc'
      clear xoc mx rx oc hbc hbc'
      go_wp2_with fail
      refine hK.out _ _ (fun _ => c1) ?_
      clear hK K
      refine Upto.one (i := 4) (by kernel_rfl) rfl (fun K hK => ?_)
      go_simp
      refine hK.out _ _ (fun _ => c2) ?_
      clear hK K
      refine Upto.one (i := 5) (by kernel_rfl) rfl (fun K hK => ?_)
      refine step_appT tIntS (by rfl) _ _ 67 (by rfl) 39 i0 (.slice none 0 0) 24 Try.underlying67 hi hz0 hz1 hz2 rfl Nat.zero_lt_one v0 (ss.take j) fp0 (by rfl) ?_ ⟨wc.heap.size, 0, none⟩ 1 [.slice ac x.length cc] x fpx (by rfl) ?_ ?_ ?_ ?_ L1.out L2.out ?_
      . exact (HM.out.below HBC.out).alloc _
      . exact MX.out.alloc _
      . intro b hb hb'
        have h1 := HM.out.lt b hb
        have h2 := RX.out b hb'
        omega
      . exact news_new _ _ _
      . intro u hu
        simp at hu
        rw [hu]
        rfl
      intro g cap wA fpA m1 m2 m3
      rw [HL.out] at m1 ⊢
      rw [← HTK.out] at m1
      have ya : Box wA BO 73 _ := (XOC.out.alloc _).turned m3 (fun hm => by have := HFP.out _ hm; omega)
      have r0 : wA.cell? ⟨BO, 0, none⟩ = some v0 := ya.cell 0
      have fz := ya.frozen 0
      have YA := hidden ya
      have M1 := hidden m1
      have M2 := hidden m2
      have M3 := hidden m3
      clear ya m1 m2 m3
      refine hK.out _ _ (fun _ => r0) ?_
      clear hK K
      simp only [Act.put, List.setIfInBounds_toArray, List.set_cons_zero, List.set_cons_succ]
      refine Upto.t 6 r0 ?_
      refine Upto.one (i := 7) (by kernel_rfl) rfl (fun K hK => ?_)
      go_simp
      refine hK.out _ _ (fun h => absurd rfl h) ?_
      clear hK K
      refine Upto.done (by kernel_rfl) ?_ _
      have hfA := round_fp (N := w6.heap.size) hs HBC.out HFP.out RX.out M2.out
      have frA := Fr.round FRR.out hs HBC.out _ M3.out HFP.out 0 (.slice (some ⟨g, 0, none⟩) (j + 1) cap)
      have mA := M1.out.setCell (g := BO) (j := 0) (fun hm => by have := hfA _ hm; omega) (.slice (some ⟨g, 0, none⟩) (j + 1) cap)
      have yA := YA.out.set 0 (.slice (some ⟨g, 0, none⟩) (j + 1) cap)
      have HFA := hidden hfA
      have FRA := hidden frA
      have MA := hidden mA
      have YA' := hidden yA
      clear hfA frA mA yA c0 c1 c2 r0 YA M1 M2 M3 XOC MX RX HBC HFP HM FRR XO
      go_wp2
      go_roundw
      case rel => exact ⟨j + 1, _, fpA, by omega, by go_num, FRA.out, YA'.out, MA.out, HFA.out⟩
      case measure => simp [intOf]; omega
    . have e : n0 = j := by omega
      subst e
      rw [List.take_of_length_le (by omega)] at hm
      have hlt := hm.lt
      have GR := hidden (fr.box FR.out (by omega) (by omega))
      have GM := hidden (fr.box FM.out (by omega) (by omega))
      have GB := hidden (FB.out.trans (fr.below (M := w.heap.size) (by omega) (by omega)))
      have G3 := hidden (fr.mine F3.out (fun b hb => by have := fs3 b hb; omega))
      have G0 := hidden (hm.own (lo := w6.heap.size) (hi := wr.heap.size) (fun b hb => ⟨hfp b hb, hlt b hb⟩))
      have GO := hidden xo
      clear fr xo hm hfp hlt FM FO F3 FB FR
      go_wp2
      generalize wr = w7 at hs GM GR GB G3 G0 GO q0 q1 q2 q3 ⊢
      go_loopw [32] (fun i wr => ∃ (j : Nat) (v1 : Value) (fp1 : List Nat), j <= n1 /\ i = .int .i64 j /\ Fr w7.heap.size BO w7 wr /\ Box wr BO 73 #[v0, v1, .bool f, .slice a5 n3 c5] /\ (tWrS 108).Mine wr [v1] (cs.take j) fp1 /\ (∀ b ∈ fp1, w7.heap.size <= b)) (fun i _ => n1 - (intOf i).toNat)
      case atStart => exact ⟨0, _, [], Nat.zero_le _, rfl, Fr.refl _ _ _, GO.out, nil_mine _, by simp⟩
      case round =>
       obtain ⟨j, v1, fp1, hj, rfl, fr, xo, hm, hfp⟩ := hrel
       have hs2 := fr.size
       have xm := fr.box GM.out (by omega) (by omega)
       have hb := GB.out.trans (fr.below (M := w.heap.size) (by omega) (by omega))
       clear q0 q1 q2 q3
       obtain ⟨q0, q1, q2, q3⟩ := xm.cells4
       clear xm
       by_cases hjn : j < n1
       . rcases pairs_at rfl h1 with h0' | ⟨b, off, rfl, hbl, hcs⟩
         . omega
         have hdj : cs[j]? = some (cs[j]'(by omega)) := List.getElem?_eq_getElem (by omega)
         have htk : cs.take (j + 1) = cs.take j ++ [cs[j]'(by omega)] := List.take_succ_eq_append_getElem (by omega)
         generalize cs[j]'(by omega) = x at hdj htk
         have hil := inner_le' hdj
         obtain ⟨u0, u1, hv0, hv1, hrv⟩ := hcs j x hdj
         obtain ⟨rfl, hrv'⟩ := wr_rd hrv
         obtain ⟨av, cv, rfl⟩ := row_shape hrv'
         have pv0 := (hb.cell (p := ⟨b, off + j * 2, none⟩) hbl).trans hv0
         have pv1 := (hb.cell (p := ⟨b, off + j * 2 + 1, none⟩) hbl).trans hv1
         obtain ⟨x0, x1⟩ := x
         simp only at pv0 pv1 hrv' hil
         have HX := hidden (hrv'.below hb)
         have k1 : (0 : Int) <= (j : Int) := by omega
         have k2 : (j : Int) < (n1 : Int) := by omega
         have HTK := hidden htk
         have XO := hidden xo
         have FRR := hidden fr
         have HM := hidden hm
         have HFP := hidden hfp
         have HL : Hid ((cs.take j).length = j) := by unfold Hid; rw [List.length_take]; omega
         have L1 : Hid ((cs.take j).length + 1 <= maxLen) := by unfold Hid; rw [HL.out]; unfold maxLen; omega
         have L2 : Hid (((cs.take j).length + 1) * 32 <= 140737488355328) := by unfold Hid; rw [HL.out]; omega
         have xw := Box.new wr 108 #[.int .i64 x0, .slice av x1.length cv]
         have ba : Below wr.heap.size wr (wr.alloc (.cells #[.int .i64 x0, .slice av x1.length cv] 108)) := (Below.refl _ _).alloc (Nat.le_refl _) _
         have XO2 := hidden (xo.alloc (.cells #[.int .i64 x0, .slice av x1.length cv] 108))
         have HM2 := hidden (hm.alloc (.cells #[.int .i64 x0, .slice av x1.length cv] 108))
         have HX2 := hidden (HX.out.below ba)
         have FR2 := hidden (fr.trans (Fr.ofBelow (B := BO) ba hs2))
         have HZ : Hid (wr.heap.size < (wr.alloc (.cells #[.int .i64 x0, .slice av x1.length cv] 108)).heap.size) := by unfold Hid; simp
         have XW := hidden xw
         have HFX := hidden hm.lt
         clear hcs hdj hv0 hv1 hrv hrv' htk xo hm hfp hb fr xw ba HX HM FRR XO
         go_wp2_with fail
         generalize wr.alloc (.cells #[.int .i64 x0, .slice av x1.length cv] 108) = w8 at XO2 HM2 HX2 FR2 HZ XW ⊢
         have zw := HZ.out
         have hs8 : w7.heap.size <= w8.heap.size := by omega
         have c0 : w8.drew.cell? ⟨BO, 1, none⟩ = some v1 := XO2.out.cell 1
         have c1 : w8.drew.cell? ⟨wr.heap.size, 0, none⟩ = some (.int .i64 x0) := XW.out.cell 0
         have c2 : w8.drew.cell? ⟨wr.heap.size, 1, none⟩ = some (.slice av x1.length cv) := XW.out.cell 1
         have hS : w8.drew.cell? ⟨BO, 1, none⟩ = some v1 /\ w8.drew.cell? ⟨wr.heap.size, 0, none⟩ = some (.int .i64 x0) /\ w8.drew.cell? ⟨wr.heap.size, 1, none⟩ = some (.slice av x1.length cv) := ⟨c0, c1, c2⟩
         clear c0 c1 c2
         refine Upto.start (S := fun w' => w'.cell? ⟨BO, 1, none⟩ = some v1 /\ w'.cell? ⟨wr.heap.size, 0, none⟩ = some (.int .i64 x0) /\ w'.cell? ⟨wr.heap.size, 1, none⟩ = some (.slice av x1.length cv)) (k := 11) (by kernel_rfl) ?_
         refine Upto.take (i := 0) (v := ?_) rfl (by kernel_rfl) (by kernel_rfl) (by kernel_rfl) (by kernel_rfl) (fun _ _ _ h => h) (Or.inl ⟨by rfl, ?_⟩) hS ?_
         rotate_left 1
         . (intro w hSw; (try dsimp only at hSw); go_split_ands; go_simp; first | done | with_reducible rfl)
         refine Upto.t 1 hS ?_
         refine Upto.t 2 hS ?_
         refine Upto.t 3 hS ?_
         refine Upto.t 4 hS ?_
         refine Upto.t 5 hS ?_
         refine Upto.one (i := 6) (by kernel_rfl) rfl (fun K hK => ?_)
         go_simp
         refine (copyWords_any _ _ _ _ x1 (by exact HX2.out.drew) (by omega)).mono ?_
         rintro e wc ⟨ac, cc, rfl, oc, hbc⟩
         have hbc' : Below w8.heap.size w8 wc := (by exact (Below.refl w8.heap.size w8).drew.trans hbc)
         have xoc : Box wc BO 73 _ := XO2.out.below hbc' (by omega)
         have xwc : Box wc wr.heap.size 108 _ := XW.out.below hbc' zw
         have d0 : wc.cell? ⟨BO, 1, none⟩ = some v1 /\ wc.cell? ⟨wr.heap.size, 0, none⟩ = some (.int .i64 x0) /\ wc.cell? ⟨wr.heap.size, 1, none⟩ = some (.slice av x1.length cv) := ⟨xoc.cell 1, xwc.cell 0, xwc.cell 1⟩
         have d2 : (wc.alloc (.cells #[.int .i64 x0, .slice ac x1.length cc] 108)).cell? ⟨BO, 1, none⟩ = some v1 /\ (wc.alloc (.cells #[.int .i64 x0, .slice ac x1.length cc] 108)).cell? ⟨wr.heap.size, 0, none⟩ = some (.int .i64 x0) /\ (wc.alloc (.cells #[.int .i64 x0, .slice ac x1.length cc] 108)).cell? ⟨wr.heap.size, 1, none⟩ = some (.slice av x1.length cv) := ⟨(xoc.alloc _).cell 1, (xwc.alloc _).cell 0, (xwc.alloc _).cell 1⟩
         obtain ⟨fpx, mx, rx⟩ := Ty.Own.mine (lo := w8.heap.size) oc
         have XOC := hidden xoc
         have XWC := hidden xwc
         have MX := hidden mx
         have RX := hidden rx
         have HBC := hidden hbc'
         clear xoc xwc mx rx oc hbc hbc'
         go_wp2_with fail
         refine hK.out _ _ (fun _ => d0) ?_
         clear hK K
         refine Upto.t 7 d0 ?_
         refine Upto.one (i := 8) (by kernel_rfl) rfl (fun K hK => ?_)
         go_simp
         refine hK.out _ _ (fun _ => d2) ?_
         clear hK K
         refine Upto.one (i := 9) (by kernel_rfl) rfl (fun K hK => ?_)
         refine step_appT tWr (by rfl) _ _ 71 (by rfl) 108 i1 (.agg #[.int .i64 0, .slice none 0 0]) 32 Try.underlying71 hi1 hy0 hy1 hy2 rfl Nat.zero_lt_two v1 (cs.take j) fp1 (by rfl) ?_ ⟨wc.heap.size, 0, none⟩ 1 [.int .i64 x0, .slice ac x1.length cc] (x0, x1) fpx (by rfl) ?_ ?_ ?_ ?_ L1.out L2.out ?_
         . exact (HM2.out.below HBC.out).alloc _
         . exact (wr_mine x0 MX.out).alloc _
         . intro b hb hb'
           have h1 := HM2.out.lt b hb
           have h2 := RX.out b hb'
           omega
         . exact news_new _ _ _
         . intro u hu
           simp at hu
           rcases hu with hu | hu <;> (rw [hu]; rfl)
         intro g cap wA fpA m1 m2 m3
         rw [HL.out] at m1 ⊢
         rw [← HTK.out] at m1
         have ya : Box wA BO 73 _ := (XOC.out.alloc _).turned m3 (fun hm => by have := HFP.out _ hm; omega)
         have yw : Box wA wr.heap.size 108 _ := (XWC.out.alloc _).turned m3 (fun hm => by have h1 := HM2.out; have h2 := HFX.out _ hm; omega)
         have r0 : wA.cell? ⟨BO, 1, none⟩ = some v1 /\ wA.cell? ⟨wr.heap.size, 0, none⟩ = some (.int .i64 x0) /\ wA.cell? ⟨wr.heap.size, 1, none⟩ = some (.slice av x1.length cv) := ⟨ya.cell 1, yw.cell 0, yw.cell 1⟩
         have q9 := r0.1
         have fz := ya.frozen 1
         have YA := hidden ya
         have M1 := hidden m1
         have M2 := hidden m2
         have M3 := hidden m3
         clear ya yw m1 m2 m3
         refine hK.out _ _ (fun _ => r0) ?_
         clear hK K
         simp only [Act.put, List.setIfInBounds_toArray, List.set_cons_zero, List.set_cons_succ]
         refine Upto.t 10 r0 ?_
         refine Upto.one (i := 11) (by kernel_rfl) rfl (fun K hK => ?_)
         go_simp
         refine hK.out _ _ (fun h => absurd rfl h) ?_
         clear hK K
         refine Upto.done (by kernel_rfl) ?_ _
         have hfA := round_fp (N := w7.heap.size) hs8 HBC.out HFP.out RX.out M2.out
         have frA := Fr.round FR2.out hs8 HBC.out _ M3.out HFP.out 1 (.slice (some ⟨g, 0, none⟩) (j + 1) cap)
         have mA := M1.out.setCell (g := BO) (j := 1) (fun hm => by have := hfA _ hm; omega) (.slice (some ⟨g, 0, none⟩) (j + 1) cap)
         have yA := YA.out.set 1 (.slice (some ⟨g, 0, none⟩) (j + 1) cap)
         have HFA := hidden hfA
         have FRA := hidden frA
         have MA := hidden mA
         have YA' := hidden yA
         clear hfA frA mA yA hS d0 d2 r0 q9 YA M1 M2 M3 XOC MX RX HBC HFP HM2 FR2 XO2 XW HX2 XWC HFX
         go_wp2
         go_roundw
         case rel => exact ⟨j + 1, _, fpA, by omega, by go_num, FRA.out, YA'.out, MA.out, HFA.out⟩
         case measure => simp [intOf]; omega
       . have e : n1 = j := by omega
         subst e
         rw [List.take_of_length_le (by omega)] at hm
         have hlt := hm.lt
         have xr := fr.box GR.out (by omega) (by omega)
         obtain ⟨p0, p1, p2, p3⟩ := xr.cells4
         have fz := xr.frozen
         obtain ⟨r0, r1, r2, r3⟩ := xo.cells4
         have K3 := fr.mine G3.out (fun b hb => by have := fs3 b hb; omega)
         have K0 := fr.own G0.out (by omega) (by omega)
         have K1 := hm.own (lo := w7.heap.size) (hi := wr.heap.size) (fun b hb => ⟨hfp b hb, hlt b hb⟩)
         have KB := GB.out.trans (fr.below (M := w.heap.size) (by omega) (by omega))
         obtain ⟨e0, g0, hv0⟩ := row_shape K0.rd
         obtain ⟨e1, g1, hv1⟩ := row_shape K1.rd
         rw [hl0] at hv0
         rw [hl1] at hv1
         subst hv0 hv1
         have hbt : But (w.heap.size + 1) (w.heap.size + 2) wr ((((wr.setCell ⟨w.heap.size + 1, 0, none⟩ (.slice e0 n0 g0)).setCell ⟨w.heap.size + 1, 1, none⟩ (.slice e1 n1 g1)).setCell ⟨w.heap.size + 1, 2, none⟩ (.bool f)).setCell ⟨w.heap.size + 1, 3, none⟩ (.slice a5 n3 c5)) :=
          (((But.setCell (by omega) (by omega) _).trans (But.setCell (by omega) (by omega) _)).trans (But.setCell (by omega) (by omega) _)).trans (But.setCell (by omega) (by omega) _)
         have H3 := hidden ((K3.but hbt (fun b hb => by have := fs3 b hb; omega)).own (lo := w.heap.size) (hi := w6.heap.size) (fun b hb => by have := fs3 b hb; omega))
         have H0 := hidden (K0.but hbt (by omega))
         have H1 := hidden (K1.but hbt (by omega))
         have HB := hidden (Below.andBut KB hbt (by omega))
         have hsz := hbt.size
         clear fr xo hm hfp hlt xr K3 K0 K1 KB hbt GM GR GB G3 G0 GO
         go_wp2
         refine bodyPost_ret (v := .agg #[.slice e0 n0 g0, .slice e1 n1 g1, .bool f, .slice a5 n3 c5]) (by simp [results, Try.results71, go_sem, p0, p1, p2, p3]) rfl ?_
         exact ⟨_, _, _, w6.heap.size, w7.heap.size, rfl, H3.out, H0.out, H1.out.widen (Nat.le_refl _) hsz, by omega, by omega, by omega, HB.out⟩

end Go.Proofs.Ytlcjfgmmjkandaa

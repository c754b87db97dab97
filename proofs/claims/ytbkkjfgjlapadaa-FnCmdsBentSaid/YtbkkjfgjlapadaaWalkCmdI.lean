/-
  What the program answers of a command: how many blocks it has, its code, its span, and whether two clash. Condition: at most 2097152 words each.
-/
import Derived.Test.YtbkkjfgjlapadaaWalkCmd
namespace Go.Proofs.Ytbkkjfgjlapadaa
open Go.RowKit

theorem opOk_any (w : World) (o : Int) : Calls Try.prog 29 #[.int .i64 o] w fun e w' => e = .returned (.bool (inB o 1 6)) ∧ w' = w := by
  go_enter Try.func29, Try.ntmps29
  go_wp2_with fail
  refine (within_any _ _ _ _).mono ?_
  rintro e w1 ⟨rfl, rfl⟩
  go_wp2
  go_ret
  exact ⟨rfl, rfl⟩

set_option maxHeartbeats 1600000 in
theorem roomOf_any (w : World) (o d b k : Int) (a : Option Addr) (n cap : Nat) (zs : List Int) (hz : zs.length = n) (hr : Reads .i64 w a zs) (hn : n ≤ 2097152) :
    Calls Try.prog 25 #[.agg #[.int .i64 o, .int .i64 d, .int .i64 b, .int .i64 k, .slice a n cap]] w fun e w' => e = .returned (.int .i64 (lenC o k zs)) ∧ Below w.heap.size w w' := by
  have hA := new_below w (.cells #[.int .i64 o, .int .i64 d, .int .i64 b, .int .i64 k, .slice a n cap] 28)
  have hr' := hr.below hA
  subst hz
  by_cases h1 : o = 1
  · subst h1
    go_enter Try.func25, Try.ntmps25
    go_wp2
    go_ret
    exact ⟨ret_int (len1 (.inl rfl)).symm, hA⟩
  · skip
    by_cases h6 : o = 6
    · subst h6
      go_enter Try.func25, Try.ntmps25
      go_wp2
      go_ret
      exact ⟨ret_int (len1 (.inr rfl)).symm, hA⟩
    · skip
      by_cases h2 : o = 2
      · subst h2
        go_enter Try.func25, Try.ntmps25
        go_wp2
        go_ret
        exact ⟨ret_int (len2 (.inl rfl)).symm, hA⟩
      · skip
        by_cases h3 : o = 3
        · subst h3
          go_enter Try.func25, Try.ntmps25
          go_wp2
          go_ret
          exact ⟨ret_int (len2 (.inr rfl)).symm, hA⟩
        · skip
          by_cases h5 : o = 5
          · subst h5
            go_enter Try.func25, Try.ntmps25
            go_wp2
            go_ret
            exact ⟨ret_int (len5).symm, hA⟩
          · skip
            have hl := len0 (k := k) (zs := zs) (by omega : ¬ (o = 1 ∨ o = 6)) (by omega : ¬ (o = 2 ∨ o = 3)) h5
            go_enter Try.func25, Try.ntmps25
            go_wp2
            go_ret
            exact ⟨ret_int hl.symm, hA⟩

theorem sec_bad {o k : Int} {zs : List Int} (h : o = 2 ∨ o = 3) (hq : secB zs = false) : sizeC o k zs = false := by
  rw [size2 h]
  cases hl : inB (zs.length : Int) 1 6
  · rfl
  · rw [← secB_six hl, hq]
    rfl
theorem sec_good {o k : Int} {zs : List Int} (h : o = 2 ∨ o = 3) (hq : secB zs = true) (hl : inB (lenC o k zs) 1 6 = true) : sizeC o k zs = true := by
  rw [len2 h] at hl
  rw [size2 h, hl, ← secB_six hl, hq]
  rfl
theorem size_long {o k : Int} {zs : List Int} (h : o = 2 ∨ o = 3) (hl : inB (lenC o k zs) 1 6 = false) : sizeC o k zs = false := by
  rw [len2 h] at hl
  rw [size2 h, hl]
  rfl
theorem five_never {k : Int} {zs : List Int} (h : inB (lenC 5 k zs) 1 6 = false) : sizeC 5 k zs = false := by
  rw [len5] at h
  exact absurd h (by decide)
theorem two_bad {k : Int} {zs : List Int} (hq : secB zs = false) : sizeC 5 k zs = false := by
  rw [size5]
  by_cases hl : zs.length = 2
  · rw [← secB_two hl, hq]
    simp
  · simp [hl]
theorem two_not {k : Int} {zs : List Int} (hl : ¬ zs.length = 2) : sizeC 5 k zs = false := by
  rw [size5]
  simp [hl]
theorem two_good {k : Int} {zs : List Int} (hl : zs.length = 2) (hq : secB zs = true) : sizeC 5 k zs = true := by
  rw [size5, ← secB_two hl, hq]
  simp [hl]

set_option maxHeartbeats 3200000 in
theorem roomCode_any (w : World) (gn gs : Int) (o d b k : Int) (a : Option Addr) (n cap : Nat) (zs : List Int) (hz : zs.length = n) (hr : Reads .i64 w a zs) (hn : n ≤ 2097152) (ho : inB o 1 6 = true) :
    Calls Try.prog 31 #[.agg #[.int .i64 gn, .int .i64 gs], .agg #[.int .i64 o, .int .i64 d, .int .i64 b, .int .i64 k, .slice a n cap]] w fun e w' => e = .returned (.int .i64 (restC gn gs o b k zs)) ∧ Below w.heap.size w w' := by
  have hA : Below w.heap.size w ((w.alloc (.cells #[.int .i64 gn, .int .i64 gs] 25)).alloc (.cells #[.int .i64 o, .int .i64 d, .int .i64 b, .int .i64 k, .slice a n cap] 28)) := (new_below w _).alloc (by simp) _
  have G : Box ((w.alloc (.cells #[.int .i64 gn, .int .i64 gs] 25)).alloc (.cells #[.int .i64 o, .int .i64 d, .int .i64 b, .int .i64 k, .slice a n cap] 28)) w.heap.size 25 #[.int .i64 gn, .int .i64 gs] := (Box.new w _ _).below (new_below _ _) (by simp)
  have X : Box ((w.alloc (.cells #[.int .i64 gn, .int .i64 gs] 25)).alloc (.cells #[.int .i64 o, .int .i64 d, .int .i64 b, .int .i64 k, .slice a n cap] 28)) (w.heap.size + 1) 28 #[.int .i64 o, .int .i64 d, .int .i64 b, .int .i64 k, .slice a n cap] := by
    have := Box.new (w.alloc (.cells #[.int .i64 gn, .int .i64 gs] 25)) 28 #[.int .i64 o, .int .i64 d, .int .i64 b, .int .i64 k, .slice a n cap]
    simpa using this
  have hr' := hr.below hA
  subst hz
  obtain ⟨g0, g1⟩ := G.cells2
  obtain ⟨c0, c1, c2, c3, c4⟩ := X.cells5
  rw [inB_iff] at ho
  by_cases h4 : o = 4
  · subst h4
    have HR := hidden (rest_flush (gn := gn) (gs := gs) (b := b) (k := k) (zs := zs))
    go_enter Try.func31, Try.ntmps31
    go_wp2
    go_ret
    exact ⟨ret_int HR.out.symm, hA⟩
  · by_cases h1 : o = 1
    · subst h1
      go_enter Try.func31, Try.ntmps31
      go_wp2_with fail
      generalize (w.alloc (.cells #[.int .i64 gn, .int .i64 gs] 25)).alloc (.cells #[.int .i64 1, .int .i64 d, .int .i64 b, .int .i64 k, .slice a zs.length cap] 28) = W0 at hA G X hr' g0 g1 c0 c1 c2 c3 c4 ⊢
      have B0 := hA
      have G0 := G
      have X0 := X
      have R0 := hr'
      clear hA G X hr' hr
      go_wp2_with fail
      refine (roomOf_any _ 1 d b k _ _ _ zs rfl R0 hn).mono ?_
      rintro e w1 ⟨rfl, b1⟩
      have B1 := Below.andThen B0 b1
      have G1 := G0.below b1 G0.lt
      have X1 := X0.below b1 X0.lt
      have R1 := R0.below b1
      clear g0 g1 c0 c1 c2 c3 c4
      obtain ⟨g0, g1⟩ := G1.cells2
      obtain ⟨c0, c1, c2, c3, c4⟩ := X1.cells5
      clear B0 G0 X0 R0 b1
      go_wp2_with fail
      refine (within_any _ _ _ _).mono ?_
      rintro e w2 ⟨rfl, hw⟩
      subst w2
      cases hl : inB (lenC 1 k zs) 1 6
      · have HR := hidden (rest_bad13 (gn := gn) (gs := gs) (b := b) ((size_room (o := 1) (k := k) (zs := zs) (.inl rfl)).trans hl))
        go_wp2
        go_ret
        exact ⟨ret_int HR.out.symm, B1⟩
      · have hs : sizeC 1 k zs = true := (size_room (o := 1) (k := k) (zs := zs) (.inl rfl)).trans hl
        have hbr := blocksN_range gn gs
        obtain ⟨hl0, hl1, _⟩ := size_len hs
        have zg := G1.lt
        have zx := X1.lt
        have hwr : IntKind.i64.wrap (blocksN gn gs - lenC 1 k zs) = blocksN gn gs - lenC 1 k zs := IntWalk.i64_in _ (by omega)
        go_wp2_with fail
        go_region_held3 (fun w' => w'.cell? ⟨w.heap.size, 0, none⟩ = some (.int .i64 gn) ∧ w'.cell? ⟨w.heap.size, 1, none⟩ = some (.int .i64 gs) ∧ w'.cell? ⟨w.heap.size + 1, 0, none⟩ = some (.int .i64 1) ∧ w'.cell? ⟨w.heap.size + 1, 1, none⟩ = some (.int .i64 d) ∧ w'.cell? ⟨w.heap.size + 1, 2, none⟩ = some (.int .i64 b) ∧ w'.cell? ⟨w.heap.size + 1, 3, none⟩ = some (.int .i64 k) ∧ w'.cell? ⟨w.heap.size + 1, 4, none⟩ = some (.slice a zs.length cap))
          (first | (exact ⟨(q3.cell (p := ⟨w.heap.size, 0, none⟩) zg).trans g0, (q3.cell (p := ⟨w.heap.size, 1, none⟩) zg).trans g1, (q3.cell (p := ⟨w.heap.size + 1, 0, none⟩) zx).trans c0, (q3.cell (p := ⟨w.heap.size + 1, 1, none⟩) zx).trans c1, (q3.cell (p := ⟨w.heap.size + 1, 2, none⟩) zx).trans c2, (q3.cell (p := ⟨w.heap.size + 1, 3, none⟩) zx).trans c3, (q3.cell (p := ⟨w.heap.size + 1, 4, none⟩) zx).trans c4⟩) | (exact ⟨(q2.cell (p := ⟨w.heap.size, 0, none⟩) zg).trans g0, (q2.cell (p := ⟨w.heap.size, 1, none⟩) zg).trans g1, (q2.cell (p := ⟨w.heap.size + 1, 0, none⟩) zx).trans c0, (q2.cell (p := ⟨w.heap.size + 1, 1, none⟩) zx).trans c1, (q2.cell (p := ⟨w.heap.size + 1, 2, none⟩) zx).trans c2, (q2.cell (p := ⟨w.heap.size + 1, 3, none⟩) zx).trans c3, (q2.cell (p := ⟨w.heap.size + 1, 4, none⟩) zx).trans c4⟩) | (exact ⟨g0, g1, c0, c1, c2, c3, c4⟩) | go_keep)
          (first | (go_at_call 30; refine (within_any _ _ _ _).mono ?_; rintro e w4 ⟨rfl, hw⟩; subst w4) | (go_at_call 25; refine (roomOf_any _ 1 d b k _ _ _ zs rfl (by exact R1.below q2) hn).mono ?_; rintro e w3 ⟨rfl, p3⟩; have q3 : Below w1.heap.size w1 w3 := Below.andThen q2 p3) | (go_at_call 24; refine (implBlocks_any _ _ _).mono ?_; rintro e w2 ⟨rfl, p2⟩; have q2 : Below w1.heap.size w1 w2 := (Below.refl w1.heap.size w1).drew.trans p2))
        cases hx : inB b 0 (blocksN gn gs - lenC 1 k zs)
        · have HR := hidden (rest_out hs (by omega) hx)
          go_wp2
          go_ret
          exact ⟨ret_int HR.out.symm, (Below.andThen B1 q3)⟩
        · have HR := hidden (rest_in hs hx)
          go_wp2
          go_ret
          exact ⟨ret_int HR.out.symm, (Below.andThen B1 q3)⟩
    · by_cases h6 : o = 6
      · subst h6
        go_enter Try.func31, Try.ntmps31
        go_wp2_with fail
        generalize (w.alloc (.cells #[.int .i64 gn, .int .i64 gs] 25)).alloc (.cells #[.int .i64 6, .int .i64 d, .int .i64 b, .int .i64 k, .slice a zs.length cap] 28) = W0 at hA G X hr' g0 g1 c0 c1 c2 c3 c4 ⊢
        have B0 := hA
        have G0 := G
        have X0 := X
        have R0 := hr'
        clear hA G X hr' hr
        go_wp2_with fail
        refine (roomOf_any _ 6 d b k _ _ _ zs rfl R0 hn).mono ?_
        rintro e w1 ⟨rfl, b1⟩
        have B1 := Below.andThen B0 b1
        have G1 := G0.below b1 G0.lt
        have X1 := X0.below b1 X0.lt
        have R1 := R0.below b1
        clear g0 g1 c0 c1 c2 c3 c4
        obtain ⟨g0, g1⟩ := G1.cells2
        obtain ⟨c0, c1, c2, c3, c4⟩ := X1.cells5
        clear B0 G0 X0 R0 b1
        go_wp2_with fail
        refine (within_any _ _ _ _).mono ?_
        rintro e w2 ⟨rfl, hw⟩
        subst w2
        cases hl : inB (lenC 6 k zs) 1 6
        · have HR := hidden (rest_bad13 (gn := gn) (gs := gs) (b := b) ((size_room (o := 6) (k := k) (zs := zs) (.inr rfl)).trans hl))
          go_wp2
          go_ret
          exact ⟨ret_int HR.out.symm, B1⟩
        · have hs : sizeC 6 k zs = true := (size_room (o := 6) (k := k) (zs := zs) (.inr rfl)).trans hl
          have hbr := blocksN_range gn gs
          obtain ⟨hl0, hl1, _⟩ := size_len hs
          have zg := G1.lt
          have zx := X1.lt
          have hwr : IntKind.i64.wrap (blocksN gn gs - lenC 6 k zs) = blocksN gn gs - lenC 6 k zs := IntWalk.i64_in _ (by omega)
          go_wp2_with fail
          go_region_held3 (fun w' => w'.cell? ⟨w.heap.size, 0, none⟩ = some (.int .i64 gn) ∧ w'.cell? ⟨w.heap.size, 1, none⟩ = some (.int .i64 gs) ∧ w'.cell? ⟨w.heap.size + 1, 0, none⟩ = some (.int .i64 6) ∧ w'.cell? ⟨w.heap.size + 1, 1, none⟩ = some (.int .i64 d) ∧ w'.cell? ⟨w.heap.size + 1, 2, none⟩ = some (.int .i64 b) ∧ w'.cell? ⟨w.heap.size + 1, 3, none⟩ = some (.int .i64 k) ∧ w'.cell? ⟨w.heap.size + 1, 4, none⟩ = some (.slice a zs.length cap))
            (first | (exact ⟨(q3.cell (p := ⟨w.heap.size, 0, none⟩) zg).trans g0, (q3.cell (p := ⟨w.heap.size, 1, none⟩) zg).trans g1, (q3.cell (p := ⟨w.heap.size + 1, 0, none⟩) zx).trans c0, (q3.cell (p := ⟨w.heap.size + 1, 1, none⟩) zx).trans c1, (q3.cell (p := ⟨w.heap.size + 1, 2, none⟩) zx).trans c2, (q3.cell (p := ⟨w.heap.size + 1, 3, none⟩) zx).trans c3, (q3.cell (p := ⟨w.heap.size + 1, 4, none⟩) zx).trans c4⟩) | (exact ⟨(q2.cell (p := ⟨w.heap.size, 0, none⟩) zg).trans g0, (q2.cell (p := ⟨w.heap.size, 1, none⟩) zg).trans g1, (q2.cell (p := ⟨w.heap.size + 1, 0, none⟩) zx).trans c0, (q2.cell (p := ⟨w.heap.size + 1, 1, none⟩) zx).trans c1, (q2.cell (p := ⟨w.heap.size + 1, 2, none⟩) zx).trans c2, (q2.cell (p := ⟨w.heap.size + 1, 3, none⟩) zx).trans c3, (q2.cell (p := ⟨w.heap.size + 1, 4, none⟩) zx).trans c4⟩) | (exact ⟨g0, g1, c0, c1, c2, c3, c4⟩) | go_keep)
            (first | (go_at_call 30; refine (within_any _ _ _ _).mono ?_; rintro e w4 ⟨rfl, hw⟩; subst w4) | (go_at_call 25; refine (roomOf_any _ 6 d b k _ _ _ zs rfl (by exact R1.below q2) hn).mono ?_; rintro e w3 ⟨rfl, p3⟩; have q3 : Below w1.heap.size w1 w3 := Below.andThen q2 p3) | (go_at_call 24; refine (implBlocks_any _ _ _).mono ?_; rintro e w2 ⟨rfl, p2⟩; have q2 : Below w1.heap.size w1 w2 := (Below.refl w1.heap.size w1).drew.trans p2))
          cases hx : inB b 0 (blocksN gn gs - lenC 6 k zs)
          · have HR := hidden (rest_out hs (by omega) hx)
            go_wp2
            go_ret
            exact ⟨ret_int HR.out.symm, (Below.andThen B1 q3)⟩
          · have HR := hidden (rest_in hs hx)
            go_wp2
            go_ret
            exact ⟨ret_int HR.out.symm, (Below.andThen B1 q3)⟩
      · by_cases h2 : o = 2
        · subst h2
          go_enter Try.func31, Try.ntmps31
          go_wp2_with fail
          generalize (w.alloc (.cells #[.int .i64 gn, .int .i64 gs] 25)).alloc (.cells #[.int .i64 2, .int .i64 d, .int .i64 b, .int .i64 k, .slice a zs.length cap] 28) = W0 at hA G X hr' g0 g1 c0 c1 c2 c3 c4 ⊢
          have B0 := hA
          have G0 := G
          have X0 := X
          have R0 := hr'
          clear hA G X hr' hr
          go_wp2_with fail
          refine (implSecOk_any _ _ _ _ zs rfl R0 hn).mono ?_
          rintro e w1 ⟨rfl, s1⟩
          have B1 := Below.andSame B0 s1
          have G1 := G0.same s1
          have X1 := X0.same s1
          have R1 := R0.same s1
          clear g0 g1 c0 c1 c2 c3 c4
          obtain ⟨g0, g1⟩ := G1.cells2
          obtain ⟨c0, c1, c2, c3, c4⟩ := X1.cells5
          clear B0 G0 X0 R0 s1
          cases hq : secB zs
          · have HR := hidden (rest_bad13 (gn := gn) (gs := gs) (b := b) (sec_bad (k := k) (.inl rfl) hq))
            go_wp2
            go_ret
            exact ⟨ret_int HR.out.symm, B1⟩
          · skip
            go_wp2_with fail
            refine (roomOf_any _ 2 d b k _ _ _ zs rfl R1 hn).mono ?_
            rintro e w2 ⟨rfl, b2⟩
            have B2 := Below.andThen B1 b2
            have G2 := G1.below b2 G1.lt
            have X2 := X1.below b2 X1.lt
            have R2 := R1.below b2
            clear g0 g1 c0 c1 c2 c3 c4
            obtain ⟨g0, g1⟩ := G2.cells2
            obtain ⟨c0, c1, c2, c3, c4⟩ := X2.cells5
            clear B1 G1 X1 R1 b2
            go_wp2_with fail
            refine (within_any _ _ _ _).mono ?_
            rintro e w3 ⟨rfl, hw⟩
            subst w3
            cases hl : inB (lenC 2 k zs) 1 6
            · have HR := hidden (rest_bad13 (gn := gn) (gs := gs) (b := b) (size_long (k := k) (.inl rfl) hl))
              go_wp2
              go_ret
              exact ⟨ret_int HR.out.symm, B2⟩
            · have hs : sizeC 2 k zs = true := sec_good (k := k) (.inl rfl) hq hl
              have hbr := blocksN_range gn gs
              obtain ⟨hl0, hl1, _⟩ := size_len hs
              have zg := G2.lt
              have zx := X2.lt
              have hwr : IntKind.i64.wrap (blocksN gn gs - lenC 2 k zs) = blocksN gn gs - lenC 2 k zs := IntWalk.i64_in _ (by omega)
              go_wp2_with fail
              go_region_held3 (fun w' => w'.cell? ⟨w.heap.size, 0, none⟩ = some (.int .i64 gn) ∧ w'.cell? ⟨w.heap.size, 1, none⟩ = some (.int .i64 gs) ∧ w'.cell? ⟨w.heap.size + 1, 0, none⟩ = some (.int .i64 2) ∧ w'.cell? ⟨w.heap.size + 1, 1, none⟩ = some (.int .i64 d) ∧ w'.cell? ⟨w.heap.size + 1, 2, none⟩ = some (.int .i64 b) ∧ w'.cell? ⟨w.heap.size + 1, 3, none⟩ = some (.int .i64 k) ∧ w'.cell? ⟨w.heap.size + 1, 4, none⟩ = some (.slice a zs.length cap))
                (first | (exact ⟨(q4.cell (p := ⟨w.heap.size, 0, none⟩) zg).trans g0, (q4.cell (p := ⟨w.heap.size, 1, none⟩) zg).trans g1, (q4.cell (p := ⟨w.heap.size + 1, 0, none⟩) zx).trans c0, (q4.cell (p := ⟨w.heap.size + 1, 1, none⟩) zx).trans c1, (q4.cell (p := ⟨w.heap.size + 1, 2, none⟩) zx).trans c2, (q4.cell (p := ⟨w.heap.size + 1, 3, none⟩) zx).trans c3, (q4.cell (p := ⟨w.heap.size + 1, 4, none⟩) zx).trans c4⟩) | (exact ⟨(q3.cell (p := ⟨w.heap.size, 0, none⟩) zg).trans g0, (q3.cell (p := ⟨w.heap.size, 1, none⟩) zg).trans g1, (q3.cell (p := ⟨w.heap.size + 1, 0, none⟩) zx).trans c0, (q3.cell (p := ⟨w.heap.size + 1, 1, none⟩) zx).trans c1, (q3.cell (p := ⟨w.heap.size + 1, 2, none⟩) zx).trans c2, (q3.cell (p := ⟨w.heap.size + 1, 3, none⟩) zx).trans c3, (q3.cell (p := ⟨w.heap.size + 1, 4, none⟩) zx).trans c4⟩) | (exact ⟨g0, g1, c0, c1, c2, c3, c4⟩) | go_keep)
                (first | (go_at_call 30; refine (within_any _ _ _ _).mono ?_; rintro e w5 ⟨rfl, hw⟩; subst w5) | (go_at_call 25; refine (roomOf_any _ 2 d b k _ _ _ zs rfl (by exact R2.below q3) hn).mono ?_; rintro e w4 ⟨rfl, p4⟩; have q4 : Below w2.heap.size w2 w4 := Below.andThen q3 p4) | (go_at_call 24; refine (implBlocks_any _ _ _).mono ?_; rintro e w3 ⟨rfl, p3⟩; have q3 : Below w2.heap.size w2 w3 := (Below.refl w2.heap.size w2).drew.trans p3))
              cases hx : inB b 0 (blocksN gn gs - lenC 2 k zs)
              · have HR := hidden (rest_out hs (by omega) hx)
                go_wp2
                go_ret
                exact ⟨ret_int HR.out.symm, (Below.andThen B2 q4)⟩
              · have HR := hidden (rest_in hs hx)
                go_wp2
                go_ret
                exact ⟨ret_int HR.out.symm, (Below.andThen B2 q4)⟩
        · by_cases h3 : o = 3
          · subst h3
            go_enter Try.func31, Try.ntmps31
            go_wp2_with fail
            generalize (w.alloc (.cells #[.int .i64 gn, .int .i64 gs] 25)).alloc (.cells #[.int .i64 3, .int .i64 d, .int .i64 b, .int .i64 k, .slice a zs.length cap] 28) = W0 at hA G X hr' g0 g1 c0 c1 c2 c3 c4 ⊢
            have B0 := hA
            have G0 := G
            have X0 := X
            have R0 := hr'
            clear hA G X hr' hr
            go_wp2_with fail
            refine (implSecOk_any _ _ _ _ zs rfl R0 hn).mono ?_
            rintro e w1 ⟨rfl, s1⟩
            have B1 := Below.andSame B0 s1
            have G1 := G0.same s1
            have X1 := X0.same s1
            have R1 := R0.same s1
            clear g0 g1 c0 c1 c2 c3 c4
            obtain ⟨g0, g1⟩ := G1.cells2
            obtain ⟨c0, c1, c2, c3, c4⟩ := X1.cells5
            clear B0 G0 X0 R0 s1
            cases hq : secB zs
            · have HR := hidden (rest_bad13 (gn := gn) (gs := gs) (b := b) (sec_bad (k := k) (.inr rfl) hq))
              go_wp2
              go_ret
              exact ⟨ret_int HR.out.symm, B1⟩
            · skip
              go_wp2_with fail
              refine (roomOf_any _ 3 d b k _ _ _ zs rfl R1 hn).mono ?_
              rintro e w2 ⟨rfl, b2⟩
              have B2 := Below.andThen B1 b2
              have G2 := G1.below b2 G1.lt
              have X2 := X1.below b2 X1.lt
              have R2 := R1.below b2
              clear g0 g1 c0 c1 c2 c3 c4
              obtain ⟨g0, g1⟩ := G2.cells2
              obtain ⟨c0, c1, c2, c3, c4⟩ := X2.cells5
              clear B1 G1 X1 R1 b2
              go_wp2_with fail
              refine (within_any _ _ _ _).mono ?_
              rintro e w3 ⟨rfl, hw⟩
              subst w3
              cases hl : inB (lenC 3 k zs) 1 6
              · have HR := hidden (rest_bad13 (gn := gn) (gs := gs) (b := b) (size_long (k := k) (.inr rfl) hl))
                go_wp2
                go_ret
                exact ⟨ret_int HR.out.symm, B2⟩
              · have hs : sizeC 3 k zs = true := sec_good (k := k) (.inr rfl) hq hl
                have hbr := blocksN_range gn gs
                obtain ⟨hl0, hl1, _⟩ := size_len hs
                have zg := G2.lt
                have zx := X2.lt
                have hwr : IntKind.i64.wrap (blocksN gn gs - lenC 3 k zs) = blocksN gn gs - lenC 3 k zs := IntWalk.i64_in _ (by omega)
                go_wp2_with fail
                go_region_held3 (fun w' => w'.cell? ⟨w.heap.size, 0, none⟩ = some (.int .i64 gn) ∧ w'.cell? ⟨w.heap.size, 1, none⟩ = some (.int .i64 gs) ∧ w'.cell? ⟨w.heap.size + 1, 0, none⟩ = some (.int .i64 3) ∧ w'.cell? ⟨w.heap.size + 1, 1, none⟩ = some (.int .i64 d) ∧ w'.cell? ⟨w.heap.size + 1, 2, none⟩ = some (.int .i64 b) ∧ w'.cell? ⟨w.heap.size + 1, 3, none⟩ = some (.int .i64 k) ∧ w'.cell? ⟨w.heap.size + 1, 4, none⟩ = some (.slice a zs.length cap))
                  (first | (exact ⟨(q4.cell (p := ⟨w.heap.size, 0, none⟩) zg).trans g0, (q4.cell (p := ⟨w.heap.size, 1, none⟩) zg).trans g1, (q4.cell (p := ⟨w.heap.size + 1, 0, none⟩) zx).trans c0, (q4.cell (p := ⟨w.heap.size + 1, 1, none⟩) zx).trans c1, (q4.cell (p := ⟨w.heap.size + 1, 2, none⟩) zx).trans c2, (q4.cell (p := ⟨w.heap.size + 1, 3, none⟩) zx).trans c3, (q4.cell (p := ⟨w.heap.size + 1, 4, none⟩) zx).trans c4⟩) | (exact ⟨(q3.cell (p := ⟨w.heap.size, 0, none⟩) zg).trans g0, (q3.cell (p := ⟨w.heap.size, 1, none⟩) zg).trans g1, (q3.cell (p := ⟨w.heap.size + 1, 0, none⟩) zx).trans c0, (q3.cell (p := ⟨w.heap.size + 1, 1, none⟩) zx).trans c1, (q3.cell (p := ⟨w.heap.size + 1, 2, none⟩) zx).trans c2, (q3.cell (p := ⟨w.heap.size + 1, 3, none⟩) zx).trans c3, (q3.cell (p := ⟨w.heap.size + 1, 4, none⟩) zx).trans c4⟩) | (exact ⟨g0, g1, c0, c1, c2, c3, c4⟩) | go_keep)
                  (first | (go_at_call 30; refine (within_any _ _ _ _).mono ?_; rintro e w5 ⟨rfl, hw⟩; subst w5) | (go_at_call 25; refine (roomOf_any _ 3 d b k _ _ _ zs rfl (by exact R2.below q3) hn).mono ?_; rintro e w4 ⟨rfl, p4⟩; have q4 : Below w2.heap.size w2 w4 := Below.andThen q3 p4) | (go_at_call 24; refine (implBlocks_any _ _ _).mono ?_; rintro e w3 ⟨rfl, p3⟩; have q3 : Below w2.heap.size w2 w3 := (Below.refl w2.heap.size w2).drew.trans p3))
                cases hx : inB b 0 (blocksN gn gs - lenC 3 k zs)
                · have HR := hidden (rest_out hs (by omega) hx)
                  go_wp2
                  go_ret
                  exact ⟨ret_int HR.out.symm, (Below.andThen B2 q4)⟩
                · have HR := hidden (rest_in hs hx)
                  go_wp2
                  go_ret
                  exact ⟨ret_int HR.out.symm, (Below.andThen B2 q4)⟩
          · obtain rfl : o = 5 := by omega
            go_enter Try.func31, Try.ntmps31
            by_cases hl2 : zs.length = 2
            · obtain ⟨hd, hd'⟩ := two_len hl2
              have HQ := hidden (secB_two hl2)
              have HL := hidden hl2
              clear hl2
              go_wp2_with fail
              generalize (w.alloc (.cells #[.int .i64 gn, .int .i64 gs] 25)).alloc (.cells #[.int .i64 5, .int .i64 d, .int .i64 b, .int .i64 k, .slice a zs.length cap] 28) = W0 at hA G X hr' g0 g1 c0 c1 c2 c3 c4 ⊢
              have B0 := hA
              have G0 := G
              have X0 := X
              have R0 := hr'
              clear hA G X hr' hr
              refine (implSecOk_any _ _ _ _ zs rfl R0 hn).mono ?_
              rintro e w1 ⟨rfl, s1⟩
              have B1 := Below.andSame B0 s1
              have G1 := G0.same s1
              have X1 := X0.same s1
              have R1 := R0.same s1
              clear g0 g1 c0 c1 c2 c3 c4
              obtain ⟨g0, g1⟩ := G1.cells2
              obtain ⟨c0, c1, c2, c3, c4⟩ := X1.cells5
              clear B0 G0 X0 R0 s1
              cases hq : secB zs
              · have HR := hidden (rest_bad13 (gn := gn) (gs := gs) (b := b) (two_bad (k := k) hq))
                go_wp2
                go_ret
                exact ⟨ret_int HR.out.symm, B1⟩
              · have hs0 := two_good (k := k) HL.out hq
                go_wp2_with fail
                refine (roomOf_any _ 5 d b k _ _ _ zs rfl R1 hn).mono ?_
                rintro e w2 ⟨rfl, b2⟩
                have B2 := Below.andThen B1 b2
                have G2 := G1.below b2 G1.lt
                have X2 := X1.below b2 X1.lt
                have R2 := R1.below b2
                clear g0 g1 c0 c1 c2 c3 c4
                obtain ⟨g0, g1⟩ := G2.cells2
                obtain ⟨c0, c1, c2, c3, c4⟩ := X2.cells5
                clear B1 G1 X1 R1 b2
                go_wp2_with fail
                refine (within_any _ _ _ _).mono ?_
                rintro e w3 ⟨rfl, hw⟩
                subst w3
                cases hl : inB (lenC 5 k zs) 1 6
                · have HR := hidden (rest_bad13 (gn := gn) (gs := gs) (b := b) (five_never hl))
                  go_wp2
                  go_ret
                  exact ⟨ret_int HR.out.symm, B2⟩
                · have hs : sizeC 5 k zs = true := hs0
                  have hbr := blocksN_range gn gs
                  obtain ⟨hl0, hl1, _⟩ := size_len hs
                  have zg := G2.lt
                  have zx := X2.lt
                  have hwr : IntKind.i64.wrap (blocksN gn gs - lenC 5 k zs) = blocksN gn gs - lenC 5 k zs := IntWalk.i64_in _ (by omega)
                  go_wp2_with fail
                  go_region_held3 (fun w' => w'.cell? ⟨w.heap.size, 0, none⟩ = some (.int .i64 gn) ∧ w'.cell? ⟨w.heap.size, 1, none⟩ = some (.int .i64 gs) ∧ w'.cell? ⟨w.heap.size + 1, 0, none⟩ = some (.int .i64 5) ∧ w'.cell? ⟨w.heap.size + 1, 1, none⟩ = some (.int .i64 d) ∧ w'.cell? ⟨w.heap.size + 1, 2, none⟩ = some (.int .i64 b) ∧ w'.cell? ⟨w.heap.size + 1, 3, none⟩ = some (.int .i64 k) ∧ w'.cell? ⟨w.heap.size + 1, 4, none⟩ = some (.slice a zs.length cap))
                    (first | (exact ⟨(q4.cell (p := ⟨w.heap.size, 0, none⟩) zg).trans g0, (q4.cell (p := ⟨w.heap.size, 1, none⟩) zg).trans g1, (q4.cell (p := ⟨w.heap.size + 1, 0, none⟩) zx).trans c0, (q4.cell (p := ⟨w.heap.size + 1, 1, none⟩) zx).trans c1, (q4.cell (p := ⟨w.heap.size + 1, 2, none⟩) zx).trans c2, (q4.cell (p := ⟨w.heap.size + 1, 3, none⟩) zx).trans c3, (q4.cell (p := ⟨w.heap.size + 1, 4, none⟩) zx).trans c4⟩) | (exact ⟨(q3.cell (p := ⟨w.heap.size, 0, none⟩) zg).trans g0, (q3.cell (p := ⟨w.heap.size, 1, none⟩) zg).trans g1, (q3.cell (p := ⟨w.heap.size + 1, 0, none⟩) zx).trans c0, (q3.cell (p := ⟨w.heap.size + 1, 1, none⟩) zx).trans c1, (q3.cell (p := ⟨w.heap.size + 1, 2, none⟩) zx).trans c2, (q3.cell (p := ⟨w.heap.size + 1, 3, none⟩) zx).trans c3, (q3.cell (p := ⟨w.heap.size + 1, 4, none⟩) zx).trans c4⟩) | (exact ⟨g0, g1, c0, c1, c2, c3, c4⟩) | go_keep)
                    (first | (go_at_call 30; refine (within_any _ _ _ _).mono ?_; rintro e w5 ⟨rfl, hw⟩; subst w5) | (go_at_call 25; refine (roomOf_any _ 5 d b k _ _ _ zs rfl (by exact R2.below q3) hn).mono ?_; rintro e w4 ⟨rfl, p4⟩; have q4 : Below w2.heap.size w2 w4 := Below.andThen q3 p4) | (go_at_call 24; refine (implBlocks_any _ _ _).mono ?_; rintro e w3 ⟨rfl, p3⟩; have q3 : Below w2.heap.size w2 w3 := (Below.refl w2.heap.size w2).drew.trans p3))
                  cases hx : inB b 0 (blocksN gn gs - lenC 5 k zs)
                  · have HR := hidden (rest_out hs (by omega) hx)
                    go_wp2
                    go_ret
                    exact ⟨ret_int HR.out.symm, (Below.andThen B2 q4)⟩
                  · have HR := hidden (rest_in hs hx)
                    go_wp2
                    go_ret
                    exact ⟨ret_int HR.out.symm, (Below.andThen B2 q4)⟩
            · obtain ⟨hd, hd'⟩ := two_len' hl2
              have HR := hidden (rest_bad13 (gn := gn) (gs := gs) (b := b) (two_not (k := k) hl2))
              go_wp2
              go_ret
              exact ⟨ret_int HR.out.symm, hA⟩

set_option maxHeartbeats 3200000 in
theorem implCmdCode_any (w : World) (gn gs : Int) (o d b k : Int) (a : Option Addr) (n cap : Nat) (zs : List Int) (hz : zs.length = n) (hr : Reads .i64 w a zs) (hn : n ≤ 2097152) :
    Calls Try.prog 11 #[.agg #[.int .i64 gn, .int .i64 gs], .agg #[.int .i64 o, .int .i64 d, .int .i64 b, .int .i64 k, .slice a n cap]] w fun e w' => e = .returned (.int .i64 (codeC gn gs o d b k zs)) ∧ Below w.heap.size w w' := by
  have hA : Below w.heap.size w ((w.alloc (.cells #[.int .i64 gn, .int .i64 gs] 25)).alloc (.cells #[.int .i64 o, .int .i64 d, .int .i64 b, .int .i64 k, .slice a n cap] 28)) := (new_below w _).alloc (by simp) _
  have G : Box ((w.alloc (.cells #[.int .i64 gn, .int .i64 gs] 25)).alloc (.cells #[.int .i64 o, .int .i64 d, .int .i64 b, .int .i64 k, .slice a n cap] 28)) w.heap.size 25 #[.int .i64 gn, .int .i64 gs] := (Box.new w _ _).below (new_below _ _) (by simp)
  have X : Box ((w.alloc (.cells #[.int .i64 gn, .int .i64 gs] 25)).alloc (.cells #[.int .i64 o, .int .i64 d, .int .i64 b, .int .i64 k, .slice a n cap] 28)) (w.heap.size + 1) 28 #[.int .i64 o, .int .i64 d, .int .i64 b, .int .i64 k, .slice a n cap] := by
    have := Box.new (w.alloc (.cells #[.int .i64 gn, .int .i64 gs] 25)) 28 #[.int .i64 o, .int .i64 d, .int .i64 b, .int .i64 k, .slice a n cap]
    simpa using this
  have hr' := hr.below hA
  subst hz
  obtain ⟨g0, g1⟩ := G.cells2
  obtain ⟨c0, c1, c2, c3, c4⟩ := X.cells5
  go_enter Try.func11, Try.ntmps11
  go_wp2_with fail
  generalize (w.alloc (.cells #[.int .i64 gn, .int .i64 gs] 25)).alloc (.cells #[.int .i64 o, .int .i64 d, .int .i64 b, .int .i64 k, .slice a zs.length cap] 28) = W0 at hA G X hr' g0 g1 c0 c1 c2 c3 c4 ⊢
  have B0 := hA
  have G0 := G
  have X0 := X
  have R0 := hr'
  clear hA G X hr' hr
  go_wp2_with fail
  refine (implGeoOk_any _ _ _).mono ?_
  rintro e w1 ⟨rfl, b1⟩
  have B1 := Below.andThen B0 b1
  have G1 := G0.below b1 G0.lt
  have X1 := X0.below b1 X0.lt
  have R1 := R0.below b1
  clear g0 g1 c0 c1 c2 c3 c4
  obtain ⟨g0, g1⟩ := G1.cells2
  obtain ⟨c0, c1, c2, c3, c4⟩ := X1.cells5
  clear B0 G0 X0 R0 b1
  cases hg : geoB gn gs
  · have HF := hidden (code_form (b := b) (k := k) (zs := zs) (form_geo (o := o) (d := d) hg))
    go_wp2
    go_ret
    exact ⟨ret_int HF.out.symm, B1⟩
  · skip
    go_wp2_with fail
    refine (opOk_any _ _).mono ?_
    rintro e w2 ⟨rfl, hw⟩
    subst w2
    cases ho : inB o 1 6
    · have HF := hidden (code_form (b := b) (k := k) (zs := zs) (form_op (gn := gn) (gs := gs) (d := d) ho))
      go_wp2
      go_ret
      exact ⟨ret_int HF.out.symm, B1⟩
    · skip
      go_wp2_with fail
      refine (within_any _ _ _ _).mono ?_
      rintro e w3 ⟨rfl, hw⟩
      subst w3
      cases hi : inB d 1 999
      · have HF := hidden (code_form (b := b) (k := k) (zs := zs) (form_id (gn := gn) (gs := gs) (o := o) hi))
        go_wp2
        go_ret
        exact ⟨ret_int HF.out.symm, B1⟩
      · have HC := hidden (code_rest (b := b) (k := k) (zs := zs) (form_all hg ho hi))
        go_wp2_with fail
        refine (roomCode_any _ gn gs o d b k _ _ _ zs rfl R1 hn ho).mono ?_
        rintro e w4 ⟨rfl, b4⟩
        go_wp2
        go_ret
        exact ⟨ret_int HC.out.symm, (Below.andThen B1 b4)⟩

set_option maxHeartbeats 3200000 in
theorem implSpanOf_any (w : World) (gn gs : Int) (o d b k : Int) (a : Option Addr) (n cap : Nat) (zs : List Int) (hz : zs.length = n) (hr : Reads .i64 w a zs) (hn : n ≤ 2097152) :
    Calls Try.prog 7 #[.agg #[.int .i64 gn, .int .i64 gs], .agg #[.int .i64 o, .int .i64 d, .int .i64 b, .int .i64 k, .slice a n cap]] w fun e w' => e = .returned (.tuple #[.int .i64 (spanC gn gs o d b k zs).1, .int .i64 (spanC gn gs o d b k zs).2]) ∧ Below w.heap.size w w' := by
  have hA : Below w.heap.size w ((w.alloc (.cells #[.int .i64 gn, .int .i64 gs] 25)).alloc (.cells #[.int .i64 o, .int .i64 d, .int .i64 b, .int .i64 k, .slice a n cap] 28)) := (new_below w _).alloc (by simp) _
  have G : Box ((w.alloc (.cells #[.int .i64 gn, .int .i64 gs] 25)).alloc (.cells #[.int .i64 o, .int .i64 d, .int .i64 b, .int .i64 k, .slice a n cap] 28)) w.heap.size 25 #[.int .i64 gn, .int .i64 gs] := (Box.new w _ _).below (new_below _ _) (by simp)
  have X : Box ((w.alloc (.cells #[.int .i64 gn, .int .i64 gs] 25)).alloc (.cells #[.int .i64 o, .int .i64 d, .int .i64 b, .int .i64 k, .slice a n cap] 28)) (w.heap.size + 1) 28 #[.int .i64 o, .int .i64 d, .int .i64 b, .int .i64 k, .slice a n cap] := by
    have := Box.new (w.alloc (.cells #[.int .i64 gn, .int .i64 gs] 25)) 28 #[.int .i64 o, .int .i64 d, .int .i64 b, .int .i64 k, .slice a n cap]
    simpa using this
  have hr' := hr.below hA
  subst hz
  obtain ⟨g0, g1⟩ := G.cells2
  obtain ⟨c0, c1, c2, c3, c4⟩ := X.cells5
  go_enter Try.func7, Try.ntmps7
  go_wp2_with fail
  generalize (w.alloc (.cells #[.int .i64 gn, .int .i64 gs] 25)).alloc (.cells #[.int .i64 o, .int .i64 d, .int .i64 b, .int .i64 k, .slice a zs.length cap] 28) = W0 at hA G X hr' g0 g1 c0 c1 c2 c3 c4 ⊢
  have B0 := hA
  have G0 := G
  have X0 := X
  have R0 := hr'
  clear hA G X hr' hr
  go_wp2_with fail
  refine (implCmdCode_any _ gn gs o d b k _ _ _ zs rfl R0 hn).mono ?_
  rintro e w1 ⟨rfl, b1⟩
  have B1 := Below.andThen B0 b1
  have G1 := G0.below b1 G0.lt
  have X1 := X0.below b1 X0.lt
  have R1 := R0.below b1
  clear g0 g1 c0 c1 c2 c3 c4
  obtain ⟨g0, g1⟩ := G1.cells2
  obtain ⟨c0, c1, c2, c3, c4⟩ := X1.cells5
  clear B0 G0 X0 R0 b1
  by_cases hc : codeC gn gs o d b k zs = 0
  · have hcb : (codeC gn gs o d b k zs == 0) = true := by simpa using hc
    by_cases h4 : o = 4
    · subst h4
      have HS := hidden (span_flush hc)
      go_wp2_with fail
      refine (implBlocks_any _ _ _).mono ?_
      rintro e w2 ⟨rfl, b2⟩
      have B2 := Below.andThen B1 b2
      go_wp2
      refine bodyPost_ret (v := .tuple #[.int .i64 0, .int .i64 (blocksN gn gs)]) (by simp [results, Try.results7, go_sem]) rfl ?_
      exact ⟨by rw [HS.out], B2⟩
    · have HS := hidden (span_own hc h4)
      obtain ⟨_, hsz, hro⟩ := code_good13 hc
      have hro' : 0 ≤ b ∧ b + lenC o k zs ≤ blocksN gn gs := hro.resolve_left h4
      have hwr : IntKind.i64.wrap (b + lenC o k zs) = b + lenC o k zs := IntWalk.i64_in _ (by have := (size_len hsz).1; have := blocksN_range gn gs; omega)
      have hbr := blocksN_range gn gs
      obtain ⟨hl0, hl1, _⟩ := size_len hsz
      have zg := G1.lt
      have zx := X1.lt
      clear hro
      go_wp2_with fail
      go_region_held3 (fun w' => w'.cell? ⟨w.heap.size, 0, none⟩ = some (.int .i64 gn) ∧ w'.cell? ⟨w.heap.size, 1, none⟩ = some (.int .i64 gs) ∧ w'.cell? ⟨w.heap.size + 1, 0, none⟩ = some (.int .i64 o) ∧ w'.cell? ⟨w.heap.size + 1, 1, none⟩ = some (.int .i64 d) ∧ w'.cell? ⟨w.heap.size + 1, 2, none⟩ = some (.int .i64 b) ∧ w'.cell? ⟨w.heap.size + 1, 3, none⟩ = some (.int .i64 k) ∧ w'.cell? ⟨w.heap.size + 1, 4, none⟩ = some (.slice a zs.length cap))
        (first | (exact ⟨(q2.cell (p := ⟨w.heap.size, 0, none⟩) zg).trans g0, (q2.cell (p := ⟨w.heap.size, 1, none⟩) zg).trans g1, (q2.cell (p := ⟨w.heap.size + 1, 0, none⟩) zx).trans c0, (q2.cell (p := ⟨w.heap.size + 1, 1, none⟩) zx).trans c1, (q2.cell (p := ⟨w.heap.size + 1, 2, none⟩) zx).trans c2, (q2.cell (p := ⟨w.heap.size + 1, 3, none⟩) zx).trans c3, (q2.cell (p := ⟨w.heap.size + 1, 4, none⟩) zx).trans c4⟩) | (exact ⟨g0, g1, c0, c1, c2, c3, c4⟩) | go_keep)
        (first | (go_at_call 25; refine (roomOf_any _ o d b k _ _ _ zs rfl (by exact R1.draw) hn).mono ?_; rintro e w2 ⟨rfl, p2⟩; have q2 : Below w1.heap.size w1 w2 := (Below.refl w1.heap.size w1).drew.trans p2))
      go_wp2
      refine bodyPost_ret (v := .tuple #[.int .i64 b, .int .i64 (b + lenC o k zs)]) (by simp [results, Try.results7, go_sem]) rfl ?_
      exact ⟨by rw [HS.out], Below.andThen B1 q2⟩
  · have HS := hidden (span_bad hc)
    go_wp2
    refine bodyPost_ret (v := .tuple #[.int .i64 0, .int .i64 0]) (by simp [results, Try.results7, go_sem]) rfl ?_
    exact ⟨by rw [HS.out], B1⟩

set_option maxHeartbeats 3200000 in
theorem implClash_any (w : World) (gn gs o d b k : Int) (a : Option Addr) (n cap : Nat) (zs : List Int) (o2 d2 b2 k2 : Int) (a2 : Option Addr) (n2 cap2 : Nat) (zs2 : List Int) (hz : zs.length = n) (hr : Reads .i64 w a zs) (hn : n ≤ 2097152) (hz2 : zs2.length = n2) (hr2 : Reads .i64 w a2 zs2) (hn2 : n2 ≤ 2097152) :
    Calls Try.prog 13 #[.agg #[.int .i64 gn, .int .i64 gs], .agg #[.int .i64 o, .int .i64 d, .int .i64 b, .int .i64 k, .slice a n cap], .agg #[.int .i64 o2, .int .i64 d2, .int .i64 b2, .int .i64 k2, .slice a2 n2 cap2]] w fun e w' => e = .returned (.bool (metC (spanC gn gs o d b k zs) (spanC gn gs o2 d2 b2 k2 zs2))) ∧ Below w.heap.size w w' := by
  have hA : Below w.heap.size w (((w.alloc (.cells #[.int .i64 gn, .int .i64 gs] 25)).alloc (.cells #[.int .i64 o, .int .i64 d, .int .i64 b, .int .i64 k, .slice a n cap] 28)).alloc (.cells #[.int .i64 o2, .int .i64 d2, .int .i64 b2, .int .i64 k2, .slice a2 n2 cap2] 28)) := ((new_below w _).alloc (by simp) _).alloc (by simp; omega) _
  have G : Box (((w.alloc (.cells #[.int .i64 gn, .int .i64 gs] 25)).alloc (.cells #[.int .i64 o, .int .i64 d, .int .i64 b, .int .i64 k, .slice a n cap] 28)).alloc (.cells #[.int .i64 o2, .int .i64 d2, .int .i64 b2, .int .i64 k2, .slice a2 n2 cap2] 28)) w.heap.size 25 #[.int .i64 gn, .int .i64 gs] := ((Box.new w _ _).below (new_below _ _) (by simp)).below (new_below _ _) (by simp; omega)
  have X : Box (((w.alloc (.cells #[.int .i64 gn, .int .i64 gs] 25)).alloc (.cells #[.int .i64 o, .int .i64 d, .int .i64 b, .int .i64 k, .slice a n cap] 28)).alloc (.cells #[.int .i64 o2, .int .i64 d2, .int .i64 b2, .int .i64 k2, .slice a2 n2 cap2] 28)) (w.heap.size + 1) 28 #[.int .i64 o, .int .i64 d, .int .i64 b, .int .i64 k, .slice a n cap] := by
    have := (Box.new (w.alloc (.cells #[.int .i64 gn, .int .i64 gs] 25)) 28 #[.int .i64 o, .int .i64 d, .int .i64 b, .int .i64 k, .slice a n cap]).below (new_below _ (.cells #[.int .i64 o2, .int .i64 d2, .int .i64 b2, .int .i64 k2, .slice a2 n2 cap2] 28)) (by simp)
    simpa using this
  have Y : Box (((w.alloc (.cells #[.int .i64 gn, .int .i64 gs] 25)).alloc (.cells #[.int .i64 o, .int .i64 d, .int .i64 b, .int .i64 k, .slice a n cap] 28)).alloc (.cells #[.int .i64 o2, .int .i64 d2, .int .i64 b2, .int .i64 k2, .slice a2 n2 cap2] 28)) (w.heap.size + 1 + 1) 28 #[.int .i64 o2, .int .i64 d2, .int .i64 b2, .int .i64 k2, .slice a2 n2 cap2] := by
    have := Box.new ((w.alloc (.cells #[.int .i64 gn, .int .i64 gs] 25)).alloc (.cells #[.int .i64 o, .int .i64 d, .int .i64 b, .int .i64 k, .slice a n cap] 28)) 28 #[.int .i64 o2, .int .i64 d2, .int .i64 b2, .int .i64 k2, .slice a2 n2 cap2]
    simpa using this
  have hr' := hr.below hA
  have hr2' := hr2.below hA
  generalize hP : spanC gn gs o d b k zs = P
  generalize hQ : spanC gn gs o2 d2 b2 k2 zs2 = Q
  obtain ⟨p0, p1⟩ := P
  obtain ⟨q0, q1⟩ := Q
  have HP := hidden hP
  have HQ := hidden hQ
  clear hP hQ hr hr2
  obtain ⟨g0, g1⟩ := G.cells2
  obtain ⟨c0, c1, c2, c3, c4⟩ := X.cells5
  go_enter Try.func13, Try.ntmps13
  go_wp2_with fail
  generalize (((w.alloc (.cells #[.int .i64 gn, .int .i64 gs] 25)).alloc (.cells #[.int .i64 o, .int .i64 d, .int .i64 b, .int .i64 k, .slice a n cap] 28)).alloc (.cells #[.int .i64 o2, .int .i64 d2, .int .i64 b2, .int .i64 k2, .slice a2 n2 cap2] 28)) = W0 at hA G X Y hr' hr2' g0 g1 c0 c1 c2 c3 c4 ⊢
  refine (implSpanOf_any _ gn gs o d b k _ _ _ zs hz hr' hn).mono ?_
  rintro e w1 ⟨rfl, b1⟩
  rw [HP.out]
  have B1 := Below.andThen hA b1
  have G1 := G.below b1 G.lt
  have Y1 := Y.below b1 Y.lt
  have R1 := hr2'.below b1
  clear g0 g1 c0 c1 c2 c3 c4 G X Y hr' hr2' hA b1
  obtain ⟨g0, g1⟩ := G1.cells2
  obtain ⟨c0, c1, c2, c3, c4⟩ := Y1.cells5
  go_wp2_with fail
  refine (implSpanOf_any _ gn gs o2 d2 b2 k2 _ _ _ zs2 hz2 R1 hn2).mono ?_
  rintro e w2 ⟨rfl, b2⟩
  have B2 := Below.andThen B1 b2
  clear g0 g1 c0 c1 c2 c3 c4 G1 Y1 R1 B1 b2
  rw [HQ.out]
  by_cases h1 : p0 < q1
  · by_cases h2 : q0 < p1
    · go_wp2
      go_ret
      exact ⟨ret_bool (by simp [metC, h1, h2]), B2⟩
    · go_wp2
      go_ret
      exact ⟨ret_bool (by simp [metC]; omega), B2⟩
  · go_wp2
    go_ret
    exact ⟨ret_bool (by simp [metC]; omega), B2⟩

end Go.Proofs.Ytbkkjfgjlapadaa

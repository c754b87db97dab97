/-
  What the specification answers of a command: how many blocks it has, whether its size is right, its code, its span, and whether two clash. Condition: at most 2097152 words each.
-/
import Derived.Test.YtbkkjfgjlapadaaWalkCmd
import Derived.Test.YtbkkjfgjlapadaaWalkGeoSpec
namespace Go.Proofs.Ytbkkjfgjlapadaa
open Go.RowKit

set_option maxHeartbeats 1600000 in
theorem specLen13_any (w : World) (o d b k : Int) (a : Option Addr) (n cap : Nat) (zs : List Int) (hz : zs.length = n) (hr : Reads .i64 w a zs) (hn : n ≤ 2097152) :
    Calls Try.prog 27 #[.agg #[.int .i64 o, .int .i64 d, .int .i64 b, .int .i64 k, .slice a n cap]] w fun e w' => e = .returned (.int .i64 (lenC o k zs)) ∧ Below w.heap.size w w' := by
  have hA := new_below w (.cells #[.int .i64 o, .int .i64 d, .int .i64 b, .int .i64 k, .slice a n cap] 28)
  have hr' := hr.below hA
  subst hz
  by_cases h1 : o = 1
  · subst h1
    go_enter Try.func27, Try.ntmps27
    go_wp2
    go_ret
    exact ⟨ret_int (len1 (.inl rfl)).symm, hA⟩
  · skip
    by_cases h6 : o = 6
    · subst h6
      go_enter Try.func27, Try.ntmps27
      go_wp2
      go_ret
      exact ⟨ret_int (len1 (.inr rfl)).symm, hA⟩
    · skip
      by_cases h2 : o = 2
      · subst h2
        go_enter Try.func27, Try.ntmps27
        go_wp2
        go_ret
        exact ⟨ret_int (len2 (.inl rfl)).symm, hA⟩
      · skip
        by_cases h3 : o = 3
        · subst h3
          go_enter Try.func27, Try.ntmps27
          go_wp2
          go_ret
          exact ⟨ret_int (len2 (.inr rfl)).symm, hA⟩
        · skip
          by_cases h5 : o = 5
          · subst h5
            go_enter Try.func27, Try.ntmps27
            go_wp2
            go_ret
            exact ⟨ret_int (len5).symm, hA⟩
          · skip
            have hl := len0 (k := k) (zs := zs) (by omega : ¬ (o = 1 ∨ o = 6)) (by omega : ¬ (o = 2 ∨ o = 3)) h5
            go_enter Try.func27, Try.ntmps27
            go_wp2
            go_ret
            exact ⟨ret_int hl.symm, hA⟩

set_option maxHeartbeats 1600000 in
theorem specSize13_any (w : World) (o d b k : Int) (a : Option Addr) (n cap : Nat) (zs : List Int) (hz : zs.length = n) (hr : Reads .i64 w a zs) (hn : n ≤ 2097152) :
    Calls Try.prog 34 #[.agg #[.int .i64 o, .int .i64 d, .int .i64 b, .int .i64 k, .slice a n cap]] w fun e w' => e = .returned (.bool (sizeC o k zs)) ∧ Below w.heap.size w w' := by
  have hA := new_below w (.cells #[.int .i64 o, .int .i64 d, .int .i64 b, .int .i64 k, .slice a n cap] 28)
  have hr' := hr.below hA
  subst hz
  by_cases h1 : o = 1
  · subst h1
    go_enter Try.func34, Try.ntmps34
    go_wp2_with fail
    refine (l1In_any _ _ _ _).mono ?_
    rintro e w1 ⟨rfl, rfl⟩
    go_wp2
    go_ret
    exact ⟨ret_bool (size1 (.inl rfl)).symm, hA⟩
  · skip
    by_cases h6 : o = 6
    · subst h6
      go_enter Try.func34, Try.ntmps34
      go_wp2_with fail
      refine (l1In_any _ _ _ _).mono ?_
      rintro e w1 ⟨rfl, rfl⟩
      go_wp2
      go_ret
      exact ⟨ret_bool (size1 (.inr rfl)).symm, hA⟩
    · skip
      by_cases h2 : o = 2
      · subst h2
        have HS := hidden (size2 (.inl rfl) : sizeC 2 k zs = _)
        go_enter Try.func34, Try.ntmps34
        go_wp2_with fail
        refine (l1In_any _ _ _ _).mono ?_
        rintro e w1 ⟨rfl, rfl⟩
        cases hl : inB (zs.length : Int) 1 6
        · rw [hl] at HS
          go_wp2
          go_ret
          exact ⟨ret_bool HS.out.symm, hA⟩
        · rw [hl] at HS
          go_wp2_with fail
          refine (l1Words_any _ _ _ _ zs rfl hr' hn).mono ?_
          rintro e w1 ⟨rfl, rfl⟩
          go_wp2
          go_ret
          exact ⟨ret_bool HS.out.symm, hA⟩
      · skip
        by_cases h3 : o = 3
        · subst h3
          have HS := hidden (size2 (.inr rfl) : sizeC 3 k zs = _)
          go_enter Try.func34, Try.ntmps34
          go_wp2_with fail
          refine (l1In_any _ _ _ _).mono ?_
          rintro e w1 ⟨rfl, rfl⟩
          cases hl : inB (zs.length : Int) 1 6
          · rw [hl] at HS
            go_wp2
            go_ret
            exact ⟨ret_bool HS.out.symm, hA⟩
          · rw [hl] at HS
            go_wp2_with fail
            refine (l1Words_any _ _ _ _ zs rfl hr' hn).mono ?_
            rintro e w1 ⟨rfl, rfl⟩
            go_wp2
            go_ret
            exact ⟨ret_bool HS.out.symm, hA⟩
        · skip
          by_cases h5 : o = 5
          · subst h5
            have HS := hidden (size5 (k := k) (zs := zs))
            go_enter Try.func34, Try.ntmps34
            by_cases hl : zs.length = 2
            · obtain ⟨hd, hd'⟩ := two_len hl
              rw [show (zs.length == 2) = true by simpa using hl] at HS
              clear hl
              go_wp2_with fail
              refine (l1Words_any _ _ _ _ zs rfl hr' hn).mono ?_
              rintro e w1 ⟨rfl, rfl⟩
              go_wp2
              go_ret
              exact ⟨ret_bool HS.out.symm, hA⟩
            · obtain ⟨hd, hd'⟩ := two_len' hl
              rw [show (zs.length == 2) = false by simpa using hl] at HS
              go_wp2
              go_ret
              exact ⟨ret_bool HS.out.symm, hA⟩
          · have hl := size0 (k := k) (zs := zs) (by omega : ¬ (o = 1 ∨ o = 6)) (by omega : ¬ (o = 2 ∨ o = 3)) h5
            go_enter Try.func34, Try.ntmps34
            go_wp2
            go_ret
            exact ⟨ret_bool hl.symm, hA⟩

set_option maxHeartbeats 3200000 in
theorem specCmdCode_any (w : World) (gn gs : Int) (o d b k : Int) (a : Option Addr) (n cap : Nat) (zs : List Int) (hz : zs.length = n) (hr : Reads .i64 w a zs) (hn : n ≤ 2097152) :
    Calls Try.prog 12 #[.agg #[.int .i64 gn, .int .i64 gs], .agg #[.int .i64 o, .int .i64 d, .int .i64 b, .int .i64 k, .slice a n cap]] w fun e w' => e = .returned (.int .i64 (codeC gn gs o d b k zs)) ∧ Below w.heap.size w w' := by
  have hA : Below w.heap.size w ((w.alloc (.cells #[.int .i64 gn, .int .i64 gs] 25)).alloc (.cells #[.int .i64 o, .int .i64 d, .int .i64 b, .int .i64 k, .slice a n cap] 28)) := (new_below w _).alloc (by simp) _
  have G : Box ((w.alloc (.cells #[.int .i64 gn, .int .i64 gs] 25)).alloc (.cells #[.int .i64 o, .int .i64 d, .int .i64 b, .int .i64 k, .slice a n cap] 28)) w.heap.size 25 #[.int .i64 gn, .int .i64 gs] := (Box.new w _ _).below (new_below _ _) (by simp)
  have X : Box ((w.alloc (.cells #[.int .i64 gn, .int .i64 gs] 25)).alloc (.cells #[.int .i64 o, .int .i64 d, .int .i64 b, .int .i64 k, .slice a n cap] 28)) (w.heap.size + 1) 28 #[.int .i64 o, .int .i64 d, .int .i64 b, .int .i64 k, .slice a n cap] := by
    have := Box.new (w.alloc (.cells #[.int .i64 gn, .int .i64 gs] 25)) 28 #[.int .i64 o, .int .i64 d, .int .i64 b, .int .i64 k, .slice a n cap]
    simpa using this
  have hr' := hr.below hA
  subst hz
  obtain ⟨g0, g1⟩ := G.cells2
  obtain ⟨c0, c1, c2, c3, c4⟩ := X.cells5
  go_enter Try.func12, Try.ntmps12
  go_wp2_with fail
  generalize (w.alloc (.cells #[.int .i64 gn, .int .i64 gs] 25)).alloc (.cells #[.int .i64 o, .int .i64 d, .int .i64 b, .int .i64 k, .slice a zs.length cap] 28) = W0 at hA G X hr' g0 g1 c0 c1 c2 c3 c4 ⊢
  have B0 := hA
  have G0 := G
  have X0 := X
  have R0 := hr'
  clear hA G X hr' hr
  go_wp2_with fail
  refine (specGeoOk_any _ _ _).mono ?_
  rintro e w1 ⟨rfl, b1⟩
  have B1 := Below.andThen B0 b1
  have G1 := G0.below b1 G0.lt
  have X1 := X0.below b1 X0.lt
  have R1 := R0.below b1
  clear g0 g1 c0 c1 c2 c3 c4
  obtain ⟨g0, g1⟩ := G1.cells2
  obtain ⟨c0, c1, c2, c3, c4⟩ := X1.cells5
  clear B0 G0 X0 R0 b1
  cases hg : geoB gn gs
  · have HF := hidden (code_form (b := b) (k := k) (zs := zs) (form_geo (o := o) (d := d) hg))
    go_wp2
    go_ret
    exact ⟨ret_int HF.out.symm, B1⟩
  · skip
    go_wp2_with fail
    refine (l1In_any _ _ _ _).mono ?_
    rintro e w2 ⟨rfl, hw⟩
    subst w2
    cases ho : inB o 1 6
    · have HF := hidden (code_form (b := b) (k := k) (zs := zs) (form_op (gn := gn) (gs := gs) (d := d) ho))
      go_wp2
      go_ret
      exact ⟨ret_int HF.out.symm, B1⟩
    · skip
      go_wp2_with fail
      refine (l1In_any _ _ _ _).mono ?_
      rintro e w3 ⟨rfl, hw⟩
      subst w3
      cases hi : inB d 1 999
      · have HF := hidden (code_form (b := b) (k := k) (zs := zs) (form_id (gn := gn) (gs := gs) (o := o) hi))
        go_wp2
        go_ret
        exact ⟨ret_int HF.out.symm, B1⟩
      · have HC := hidden (code_rest (b := b) (k := k) (zs := zs) (form_all hg ho hi))
        go_wp2_with fail
        refine (specSize13_any _ o d b k _ _ _ zs rfl R1 hn).mono ?_
        rintro e w4 ⟨rfl, b4⟩
        have B4 := Below.andThen B1 b4
        have G4 := G1.below b4 G1.lt
        have X4 := X1.below b4 X1.lt
        have R4 := R1.below b4
        clear g0 g1 c0 c1 c2 c3 c4
        obtain ⟨g0, g1⟩ := G4.cells2
        obtain ⟨c0, c1, c2, c3, c4⟩ := X4.cells5
        clear B1 G1 X1 R1 b4
        cases hs : sizeC o k zs
        · have HR := hidden (HC.out.trans (rest_bad13 (gn := gn) (gs := gs) (b := b) hs))
          go_wp2
          go_ret
          exact ⟨ret_int HR.out.symm, B4⟩
        · by_cases h4 : o = 4
          · subst h4
            have HR := hidden (HC.out.trans rest_flush)
            go_wp2
            go_ret
            exact ⟨ret_int HR.out.symm, B4⟩
          · have hbr := blocksN_range gn gs
            obtain ⟨hl0, hl1, _⟩ := size_len hs
            have zg := G4.lt
            have zx := X4.lt
            have hwr : IntKind.i64.wrap (blocksN gn gs - lenC o k zs) = blocksN gn gs - lenC o k zs := IntWalk.i64_in _ (by omega)
            go_wp2_with fail
            go_region_held3 (fun w' => w'.cell? ⟨w.heap.size, 0, none⟩ = some (.int .i64 gn) ∧ w'.cell? ⟨w.heap.size, 1, none⟩ = some (.int .i64 gs) ∧ w'.cell? ⟨w.heap.size + 1, 0, none⟩ = some (.int .i64 o) ∧ w'.cell? ⟨w.heap.size + 1, 1, none⟩ = some (.int .i64 d) ∧ w'.cell? ⟨w.heap.size + 1, 2, none⟩ = some (.int .i64 b) ∧ w'.cell? ⟨w.heap.size + 1, 3, none⟩ = some (.int .i64 k) ∧ w'.cell? ⟨w.heap.size + 1, 4, none⟩ = some (.slice a zs.length cap))
              (first | (exact ⟨(q6.cell (p := ⟨w.heap.size, 0, none⟩) zg).trans g0, (q6.cell (p := ⟨w.heap.size, 1, none⟩) zg).trans g1, (q6.cell (p := ⟨w.heap.size + 1, 0, none⟩) zx).trans c0, (q6.cell (p := ⟨w.heap.size + 1, 1, none⟩) zx).trans c1, (q6.cell (p := ⟨w.heap.size + 1, 2, none⟩) zx).trans c2, (q6.cell (p := ⟨w.heap.size + 1, 3, none⟩) zx).trans c3, (q6.cell (p := ⟨w.heap.size + 1, 4, none⟩) zx).trans c4⟩) | (exact ⟨(q5.cell (p := ⟨w.heap.size, 0, none⟩) zg).trans g0, (q5.cell (p := ⟨w.heap.size, 1, none⟩) zg).trans g1, (q5.cell (p := ⟨w.heap.size + 1, 0, none⟩) zx).trans c0, (q5.cell (p := ⟨w.heap.size + 1, 1, none⟩) zx).trans c1, (q5.cell (p := ⟨w.heap.size + 1, 2, none⟩) zx).trans c2, (q5.cell (p := ⟨w.heap.size + 1, 3, none⟩) zx).trans c3, (q5.cell (p := ⟨w.heap.size + 1, 4, none⟩) zx).trans c4⟩) | (exact ⟨g0, g1, c0, c1, c2, c3, c4⟩) | go_keep)
              (first | (go_at_call 33; refine (l1In_any _ _ _ _).mono ?_; rintro e w7 ⟨rfl, hw⟩; subst w7) | (go_at_call 27; refine (specLen13_any _ o d b k _ _ _ zs rfl (by exact R4.below q5) hn).mono ?_; rintro e w6 ⟨rfl, p6⟩; have q6 : Below w4.heap.size w4 w6 := Below.andThen q5 p6) | (go_at_call 26; refine (specBlocks_any _ _ _).mono ?_; rintro e w5 ⟨rfl, p5⟩; have q5 : Below w4.heap.size w4 w5 := (Below.refl w4.heap.size w4).drew.trans p5))
            cases hx : inB b 0 (blocksN gn gs - lenC o k zs)
            · have HR := hidden (HC.out.trans (rest_out hs h4 hx))
              go_wp2
              go_ret
              exact ⟨ret_int HR.out.symm, (Below.andThen B4 q6)⟩
            · have HR := hidden (HC.out.trans (rest_in hs hx))
              go_wp2
              go_ret
              exact ⟨ret_int HR.out.symm, (Below.andThen B4 q6)⟩

set_option maxHeartbeats 3200000 in
theorem specSpanOf_any (w : World) (gn gs : Int) (o d b k : Int) (a : Option Addr) (n cap : Nat) (zs : List Int) (hz : zs.length = n) (hr : Reads .i64 w a zs) (hn : n ≤ 2097152) :
    Calls Try.prog 8 #[.agg #[.int .i64 gn, .int .i64 gs], .agg #[.int .i64 o, .int .i64 d, .int .i64 b, .int .i64 k, .slice a n cap]] w fun e w' => e = .returned (.tuple #[.int .i64 (spanC gn gs o d b k zs).1, .int .i64 (spanC gn gs o d b k zs).2]) ∧ Below w.heap.size w w' := by
  have hA : Below w.heap.size w ((w.alloc (.cells #[.int .i64 gn, .int .i64 gs] 25)).alloc (.cells #[.int .i64 o, .int .i64 d, .int .i64 b, .int .i64 k, .slice a n cap] 28)) := (new_below w _).alloc (by simp) _
  have G : Box ((w.alloc (.cells #[.int .i64 gn, .int .i64 gs] 25)).alloc (.cells #[.int .i64 o, .int .i64 d, .int .i64 b, .int .i64 k, .slice a n cap] 28)) w.heap.size 25 #[.int .i64 gn, .int .i64 gs] := (Box.new w _ _).below (new_below _ _) (by simp)
  have X : Box ((w.alloc (.cells #[.int .i64 gn, .int .i64 gs] 25)).alloc (.cells #[.int .i64 o, .int .i64 d, .int .i64 b, .int .i64 k, .slice a n cap] 28)) (w.heap.size + 1) 28 #[.int .i64 o, .int .i64 d, .int .i64 b, .int .i64 k, .slice a n cap] := by
    have := Box.new (w.alloc (.cells #[.int .i64 gn, .int .i64 gs] 25)) 28 #[.int .i64 o, .int .i64 d, .int .i64 b, .int .i64 k, .slice a n cap]
    simpa using this
  have hr' := hr.below hA
  subst hz
  obtain ⟨g0, g1⟩ := G.cells2
  obtain ⟨c0, c1, c2, c3, c4⟩ := X.cells5
  go_enter Try.func8, Try.ntmps8
  go_wp2_with fail
  generalize (w.alloc (.cells #[.int .i64 gn, .int .i64 gs] 25)).alloc (.cells #[.int .i64 o, .int .i64 d, .int .i64 b, .int .i64 k, .slice a zs.length cap] 28) = W0 at hA G X hr' g0 g1 c0 c1 c2 c3 c4 ⊢
  have B0 := hA
  have G0 := G
  have X0 := X
  have R0 := hr'
  clear hA G X hr' hr
  go_wp2_with fail
  refine (specCmdCode_any _ gn gs o d b k _ _ _ zs rfl R0 hn).mono ?_
  rintro e w1 ⟨rfl, b1⟩
  have B1 := Below.andThen B0 b1
  have G1 := G0.below b1 G0.lt
  have X1 := X0.below b1 X0.lt
  have R1 := R0.below b1
  clear g0 g1 c0 c1 c2 c3 c4
  obtain ⟨g0, g1⟩ := G1.cells2
  obtain ⟨c0, c1, c2, c3, c4⟩ := X1.cells5
  clear B0 G0 X0 R0 b1
  by_cases hc : codeC gn gs o d b k zs = 0
  · have hcb : (codeC gn gs o d b k zs == 0) = true := by simpa using hc
    by_cases h4 : o = 4
    · subst h4
      have HS := hidden (span_flush hc)
      go_wp2_with fail
      refine (specBlocks_any _ _ _).mono ?_
      rintro e w2 ⟨rfl, b2⟩
      have B2 := Below.andThen B1 b2
      go_wp2
      refine bodyPost_ret (v := .tuple #[.int .i64 0, .int .i64 (blocksN gn gs)]) (by simp [results, Try.results8, go_sem]) rfl ?_
      exact ⟨by rw [HS.out], B2⟩
    · have HS := hidden (span_own hc h4)
      obtain ⟨_, hsz, hro⟩ := code_good13 hc
      have hro' : 0 ≤ b ∧ b + lenC o k zs ≤ blocksN gn gs := hro.resolve_left h4
      have hwr : IntKind.i64.wrap (b + lenC o k zs) = b + lenC o k zs := IntWalk.i64_in _ (by have := (size_len hsz).1; have := blocksN_range gn gs; omega)
      have hbr := blocksN_range gn gs
      obtain ⟨hl0, hl1, _⟩ := size_len hsz
      have zg := G1.lt
      have zx := X1.lt
      clear hro
      go_wp2_with fail
      go_region_held3 (fun w' => w'.cell? ⟨w.heap.size, 0, none⟩ = some (.int .i64 gn) ∧ w'.cell? ⟨w.heap.size, 1, none⟩ = some (.int .i64 gs) ∧ w'.cell? ⟨w.heap.size + 1, 0, none⟩ = some (.int .i64 o) ∧ w'.cell? ⟨w.heap.size + 1, 1, none⟩ = some (.int .i64 d) ∧ w'.cell? ⟨w.heap.size + 1, 2, none⟩ = some (.int .i64 b) ∧ w'.cell? ⟨w.heap.size + 1, 3, none⟩ = some (.int .i64 k) ∧ w'.cell? ⟨w.heap.size + 1, 4, none⟩ = some (.slice a zs.length cap))
        (first | (exact ⟨(q2.cell (p := ⟨w.heap.size, 0, none⟩) zg).trans g0, (q2.cell (p := ⟨w.heap.size, 1, none⟩) zg).trans g1, (q2.cell (p := ⟨w.heap.size + 1, 0, none⟩) zx).trans c0, (q2.cell (p := ⟨w.heap.size + 1, 1, none⟩) zx).trans c1, (q2.cell (p := ⟨w.heap.size + 1, 2, none⟩) zx).trans c2, (q2.cell (p := ⟨w.heap.size + 1, 3, none⟩) zx).trans c3, (q2.cell (p := ⟨w.heap.size + 1, 4, none⟩) zx).trans c4⟩) | (exact ⟨g0, g1, c0, c1, c2, c3, c4⟩) | go_keep)
        (first | (go_at_call 27; refine (specLen13_any _ o d b k _ _ _ zs rfl (by exact R1.draw) hn).mono ?_; rintro e w2 ⟨rfl, p2⟩; have q2 : Below w1.heap.size w1 w2 := (Below.refl w1.heap.size w1).drew.trans p2))
      go_wp2
      refine bodyPost_ret (v := .tuple #[.int .i64 b, .int .i64 (b + lenC o k zs)]) (by simp [results, Try.results8, go_sem]) rfl ?_
      exact ⟨by rw [HS.out], Below.andThen B1 q2⟩
  · have HS := hidden (span_bad hc)
    go_wp2
    refine bodyPost_ret (v := .tuple #[.int .i64 0, .int .i64 0]) (by simp [results, Try.results8, go_sem]) rfl ?_
    exact ⟨by rw [HS.out], B1⟩

set_option maxHeartbeats 3200000 in
theorem specClash_any (w : World) (gn gs o d b k : Int) (a : Option Addr) (n cap : Nat) (zs : List Int) (o2 d2 b2 k2 : Int) (a2 : Option Addr) (n2 cap2 : Nat) (zs2 : List Int) (hz : zs.length = n) (hr : Reads .i64 w a zs) (hn : n ≤ 2097152) (hz2 : zs2.length = n2) (hr2 : Reads .i64 w a2 zs2) (hn2 : n2 ≤ 2097152) :
    Calls Try.prog 14 #[.agg #[.int .i64 gn, .int .i64 gs], .agg #[.int .i64 o, .int .i64 d, .int .i64 b, .int .i64 k, .slice a n cap], .agg #[.int .i64 o2, .int .i64 d2, .int .i64 b2, .int .i64 k2, .slice a2 n2 cap2]] w fun e w' => e = .returned (.bool (metC (spanC gn gs o d b k zs) (spanC gn gs o2 d2 b2 k2 zs2))) ∧ Below w.heap.size w w' := by
  have hA : Below w.heap.size w (((w.alloc (.cells #[.int .i64 gn, .int .i64 gs] 25)).alloc (.cells #[.int .i64 o, .int .i64 d, .int .i64 b, .int .i64 k, .slice a n cap] 28)).alloc (.cells #[.int .i64 o2, .int .i64 d2, .int .i64 b2, .int .i64 k2, .slice a2 n2 cap2] 28)) := ((new_below w _).alloc (by simp) _).alloc (by simp; omega) _
  have G : Box (((w.alloc (.cells #[.int .i64 gn, .int .i64 gs] 25)).alloc (.cells #[.int .i64 o, .int .i64 d, .int .i64 b, .int .i64 k, .slice a n cap] 28)).alloc (.cells #[.int .i64 o2, .int .i64 d2, .int .i64 b2, .int .i64 k2, .slice a2 n2 cap2] 28)) w.heap.size 25 #[.int .i64 gn, .int .i64 gs] := ((Box.new w _ _).below (new_below _ _) (by simp)).below (new_below _ _) (by simp; omega)
  have X : Box (((w.alloc (.cells #[.int .i64 gn, .int .i64 gs] 25)).alloc (.cells #[.int .i64 o, .int .i64 d, .int .i64 b, .int .i64 k, .slice a n cap] 28)).alloc (.cells #[.int .i64 o2, .int .i64 d2, .int .i64 b2, .int .i64 k2, .slice a2 n2 cap2] 28)) (w.heap.size + 1) 28 #[.int .i64 o, .int .i64 d, .int .i64 b, .int .i64 k, .slice a n cap] := by
    have := (Box.new (w.alloc (.cells #[.int .i64 gn, .int .i64 gs] 25)) 28 #[.int .i64 o, .int .i64 d, .int .i64 b, .int .i64 k, .slice a n cap]).below (new_below _ (.cells #[.int .i64 o2, .int .i64 d2, .int .i64 b2, .int .i64 k2, .slice a2 n2 cap2] 28)) (by simp)
    simpa using this
  have Y : Box (((w.alloc (.cells #[.int .i64 gn, .int .i64 gs] 25)).alloc (.cells #[.int .i64 o, .int .i64 d, .int .i64 b, .int .i64 k, .slice a n cap] 28)).alloc (.cells #[.int .i64 o2, .int .i64 d2, .int .i64 b2, .int .i64 k2, .slice a2 n2 cap2] 28)) (w.heap.size + 1 + 1) 28 #[.int .i64 o2, .int .i64 d2, .int .i64 b2, .int .i64 k2, .slice a2 n2 cap2] := by
    have := Box.new ((w.alloc (.cells #[.int .i64 gn, .int .i64 gs] 25)).alloc (.cells #[.int .i64 o, .int .i64 d, .int .i64 b, .int .i64 k, .slice a n cap] 28)) 28 #[.int .i64 o2, .int .i64 d2, .int .i64 b2, .int .i64 k2, .slice a2 n2 cap2]
    simpa using this
  have hr' := hr.below hA
  have hr2' := hr2.below hA
  generalize hP : spanC gn gs o d b k zs = P
  generalize hQ : spanC gn gs o2 d2 b2 k2 zs2 = Q
  obtain ⟨p0, p1⟩ := P
  obtain ⟨q0, q1⟩ := Q
  have HP := hidden hP
  have HQ := hidden hQ
  clear hP hQ hr hr2
  obtain ⟨g0, g1⟩ := G.cells2
  obtain ⟨c0, c1, c2, c3, c4⟩ := X.cells5
  go_enter Try.func14, Try.ntmps14
  go_wp2_with fail
  generalize (((w.alloc (.cells #[.int .i64 gn, .int .i64 gs] 25)).alloc (.cells #[.int .i64 o, .int .i64 d, .int .i64 b, .int .i64 k, .slice a n cap] 28)).alloc (.cells #[.int .i64 o2, .int .i64 d2, .int .i64 b2, .int .i64 k2, .slice a2 n2 cap2] 28)) = W0 at hA G X Y hr' hr2' g0 g1 c0 c1 c2 c3 c4 ⊢
  refine (specSpanOf_any _ gn gs o d b k _ _ _ zs hz hr' hn).mono ?_
  rintro e w1 ⟨rfl, b1⟩
  rw [HP.out]
  have B1 := Below.andThen hA b1
  have G1 := G.below b1 G.lt
  have Y1 := Y.below b1 Y.lt
  have R1 := hr2'.below b1
  clear g0 g1 c0 c1 c2 c3 c4 G X Y hr' hr2' hA b1
  obtain ⟨g0, g1⟩ := G1.cells2
  obtain ⟨c0, c1, c2, c3, c4⟩ := Y1.cells5
  go_wp2_with fail
  refine (specSpanOf_any _ gn gs o2 d2 b2 k2 _ _ _ zs2 hz2 R1 hn2).mono ?_
  rintro e w2 ⟨rfl, b2⟩
  have B2 := Below.andThen B1 b2
  clear g0 g1 c0 c1 c2 c3 c4 G1 Y1 R1 B1 b2
  rw [HQ.out]
  by_cases h1 : p0 < q1
  · by_cases h2 : q0 < p1
    · go_wp2
      go_ret
      exact ⟨ret_bool (by simp [metC, h1, h2]), B2⟩
    · go_wp2
      go_ret
      exact ⟨ret_bool (by simp [metC]; omega), B2⟩
  · go_wp2
    go_ret
    exact ⟨ret_bool (by simp [metC]; omega), B2⟩

end Go.Proofs.Ytbkkjfgjlapadaa

/-
  The walks of the laws' helpers that compare slices of slices of int, writes, and disks: whether both read alike. Condition: the first weighs at most 2097152.
-/
import Derived.Test.YtbkkjfgjlapadaaGreatWalkTo
namespace Go.Proofs.YtbkkjfgjlapadaaGreat
open Go.RowKit

set_option maxHeartbeats 1600000 in
theorem eqIntSS_any (w : World) (a b : Option Addr) (la lb ca cb : Nat) (d d' : List (List Int)) (h : tIntSS.Rd w [.slice a la ca] d) (h' : tIntSS.Rd w [.slice b lb cb] d') (hw : wtIntSS d ≤ 2097152) :
    Calls Tryz.prog 272 #[.slice a la ca, .slice b lb cb] w fun e w' => e = .returned (.bool (decide (d = d'))) ∧ Same w w' := by
  obtain ⟨hl, hc, hm⟩ := row_length h
  obtain ⟨hl', hc', hm'⟩ := row_length h'
  have hla : la ≤ 2097152 := by unfold wtIntSS at hw; omega
  by_cases hlen : la = lb
  · subst hlen
    go_enter Tryz.func272, Tryz.ntmps272
    go_wp2
    go_loopw [5] (fun i wr => ∃ j : Nat, j ≤ la ∧ i = .int .i64 j ∧ d.take j = d'.take j ∧ Same w wr) (fun i _ => la - (intOf i).toNat)
    case atStart => exact ⟨0, Nat.zero_le _, rfl, rfl, Same.refl _⟩
    case round =>
      obtain ⟨j, hj, rfl, ht, hs⟩ := hrel
      by_cases hjn : j < la
      · rcases rows_at rfl h with h0' | ⟨bx, ox, rfl, hbx, hcx⟩
        · omega
        rcases rows_at rfl h' with h0' | ⟨bY, oy, rfl, hby, hcy⟩
        · omega
        have hdj : d[j]? = some (d[j]'(by omega)) := List.getElem?_eq_getElem (by omega)
        have hdj' : d'[j]? = some (d'[j]'(by omega)) := List.getElem?_eq_getElem (by omega)
        generalize d[j]'(by omega) = x at hdj
        generalize d'[j]'(by omega) = y at hdj'
        have hal := heads_alike' hdj hdj'
        have hil := inner_le hdj
        obtain ⟨v, hv, hrv⟩ := hcx j x hdj
        obtain ⟨av, cv, rfl⟩ := row_shape hrv
        obtain ⟨u, hu, hru⟩ := hcy j y hdj'
        obtain ⟨au, cu, rfl⟩ := row_shape hru
        have hw0 := (hs.cell ⟨bx, ox + j, none⟩).trans hv
        have hw1 := (hs.cell ⟨bY, oy + j, none⟩).trans hu
        obtain ⟨r1, _, _, _⟩ := ints_rd (hrv.same hs)
        obtain ⟨r2, _, _, _⟩ := ints_rd (hru.same hs)
        have i1 : (0 : Int) ≤ (j : Int) := by omega
        have i2 : (j : Int) < (la : Int) := by omega
        have HT := hidden ht
        clear hcx hcy hdj hdj' hv hu hrv hru ht
        by_cases hxy : x = y
        · subst hxy
          have HD := hidden (hal.1 rfl HT.out)
          have hde : decide (x = x) = true := by simp
          clear hal
          go_wp2_with fail
          go_region_held3 (fun w' => w'.cell? ⟨bx, ox + j, none⟩ = some (.slice av x.length cv) ∧ w'.cell? ⟨bY, oy + j, none⟩ = some (.slice au x.length cu))
            (first | (exact ⟨((hsC.cell ⟨bx, ox + j, none⟩).trans hw0), ((hsC.cell ⟨bY, oy + j, none⟩).trans hw1)⟩) | (exact ⟨hw0, hw1⟩) | go_keep)
            (first | (go_at_call 99; refine (eqIntS_any _ _ _ _ _ _ _ x x rfl rfl (by exact r1) (by exact r2) (by omega)).mono ?_; rintro e wC ⟨rfl, hsC0⟩; have hsC : Same wr wC := ((Same.refl wr).drew).trans hsC0))
          go_wp2
          go_roundw
          case rel => exact ⟨j + 1, by omega, by go_num, HD.out, hs.trans hsC⟩
          case measure => simp [intOf]; omega
        · have HN := hidden (hal.2 hxy)
          have hde : decide (x = y) = false := by simpa using hxy
          clear hal
          go_wp2_with fail
          go_region_held3 (fun w' => w'.cell? ⟨bx, ox + j, none⟩ = some (.slice av x.length cv) ∧ w'.cell? ⟨bY, oy + j, none⟩ = some (.slice au y.length cu))
            (first | (exact ⟨((hsC.cell ⟨bx, ox + j, none⟩).trans hw0), ((hsC.cell ⟨bY, oy + j, none⟩).trans hw1)⟩) | (exact ⟨hw0, hw1⟩) | go_keep)
            (first | (go_at_call 99; refine (eqIntS_any _ _ _ _ _ _ _ x y rfl rfl (by exact r1) (by exact r2) (by omega)).mono ?_; rintro e wC ⟨rfl, hsC0⟩; have hsC : Same wr wC := ((Same.refl wr).drew).trans hsC0))
          go_wp2
          go_ret
          exact ⟨ret_bool (by have := HN.out; simpa using this), hs.trans hsC⟩
      · go_wp2
        go_ret
        have e : j = la := by omega
        subst e
        rw [List.take_of_length_le (by omega), List.take_of_length_le (by omega)] at ht
        exact ⟨ret_bool (by simp [ht]), hs⟩
  · have hne : ((la : Int) == (lb : Int)) = false := by simp; omega
    go_enter Tryz.func272, Tryz.ntmps272
    go_wp2
    go_ret
    exact ⟨ret_bool (by simp; intro e; apply hlen; rw [← hl, ← hl', e]), Same.refl _⟩

/-- Whether two are the same, under a name that the walk does not open. -/
def sameB {α : Type} [DecidableEq α] (x y : α) : Bool := decide (x = y)
theorem sameB_self {α : Type} [DecidableEq α] (x : α) : sameB x x = true := by simp [sameB]
theorem sameB_not {α : Type} [DecidableEq α] {x y : α} (h : x ≠ y) : sameB x y = false := by simp [sameB, h]

set_option maxHeartbeats 800000 in
theorem eqWr_any (w : World) (x y : Int) (a b : Option Addr) (la lb ca cb : Nat) (zs us : List Int) (h : tIntS.Rd w [.slice a la ca] zs) (h' : tIntS.Rd w [.slice b lb cb] us) (hla : la ≤ 2097152) :
    Calls Tryz.prog 300 #[.agg #[.int .i64 x, .slice a la ca], .agg #[.int .i64 y, .slice b lb cb]] w fun e w' => e = .returned (.bool (sameB (x, zs) (y, us))) ∧ Below w.heap.size w w' := by
  have hA : Below w.heap.size w ((w.alloc (.cells #[.int .i64 x, .slice a la ca] 214)).alloc (.cells #[.int .i64 y, .slice b lb cb] 214)) := ((Below.refl _ _).alloc (Nat.le_refl _) _).alloc (by simp) _
  obtain ⟨r1, hl, _, _⟩ := ints_rd (h.below hA)
  obtain ⟨r2, hl', _, _⟩ := ints_rd (h'.below hA)
  by_cases hxy : x = y
  · subst hxy
    go_enter Tryz.func300, Tryz.ntmps300
    go_wp2_with fail
    refine (eqIntS_any _ _ _ _ _ _ _ zs us hl hl' r1 r2 hla).mono ?_
    rintro e w1 ⟨rfl, hs1⟩
    have hB := Below.andSame hA hs1
    by_cases hz : zs = us
    · have hde : decide (zs = us) = true := by simpa using hz
      have HZ := hidden hz
      clear hz
      go_wp2
      go_ret
      exact ⟨ret_bool (by rw [HZ.out, sameB_self]), hB⟩
    · have hde : decide (zs = us) = false := by simpa using hz
      go_wp2
      go_ret
      exact ⟨ret_bool (sameB_not (by simpa using hz)).symm, hB⟩
  · have hne : (x == y) = false := by simpa using hxy
    go_enter Tryz.func300, Tryz.ntmps300
    go_wp2
    go_ret
    exact ⟨ret_bool (sameB_not (by simp [hxy])).symm, hA⟩

set_option maxHeartbeats 1600000 in
theorem eqWrS_any (w : World) (E E' : TypeId) (a b : Option Addr) (la lb ca cb : Nat) (d d' : List (Int × List Int)) (h : (tWrS E).Rd w [.slice a la ca] d) (h' : (tWrS E').Rd w [.slice b lb cb] d') (hw : wtWrS d ≤ 2097152) :
    Calls Tryz.prog 273 #[.slice a la ca, .slice b lb cb] w fun e w' => e = .returned (.bool (decide (d = d'))) ∧ Below w.heap.size w w' := by
  obtain ⟨hl, hc, hm⟩ := row_length h
  obtain ⟨hl', hc', hm'⟩ := row_length h'
  have hla : la ≤ 2097152 := by unfold wtWrS at hw; omega
  by_cases hlen : la = lb
  · subst hlen
    go_enter Tryz.func273, Tryz.ntmps273
    go_wp2
    go_loopw [5] (fun i wr => ∃ j : Nat, j ≤ la ∧ i = .int .i64 j ∧ d.take j = d'.take j ∧ Below w.heap.size w wr) (fun i _ => la - (intOf i).toNat)
    case atStart => exact ⟨0, Nat.zero_le _, rfl, rfl, Below.refl _ _⟩
    case round =>
      obtain ⟨j, hj, rfl, ht, hb⟩ := hrel
      by_cases hjn : j < la
      · rcases pairs_at rfl h with h0' | ⟨bx, ox, rfl, hbx, hcx⟩
        · omega
        rcases pairs_at rfl h' with h0' | ⟨bY, oy, rfl, hby, hcy⟩
        · omega
        have hdj : d[j]? = some (d[j]'(by omega)) := List.getElem?_eq_getElem (by omega)
        have hdj' : d'[j]? = some (d'[j]'(by omega)) := List.getElem?_eq_getElem (by omega)
        generalize d[j]'(by omega) = x at hdj
        generalize d'[j]'(by omega) = y at hdj'
        have hal := heads_alike' hdj hdj'
        have hil := inner_le' hdj
        obtain ⟨v0, v1, hv0, hv1, hrv⟩ := hcx j x hdj
        obtain ⟨rfl, hrv'⟩ := wr_rd hrv
        obtain ⟨av, cv, rfl⟩ := row_shape hrv'
        obtain ⟨u0, u1, hu0, hu1, hru⟩ := hcy j y hdj'
        obtain ⟨rfl, hru'⟩ := wr_rd hru
        obtain ⟨au, cu, rfl⟩ := row_shape hru'
        have hw0 := (hb.cell (p := ⟨bx, ox + j * 2, none⟩) hbx).trans hv0
        have hw1 := (hb.cell (p := ⟨bx, ox + j * 2 + 1, none⟩) hbx).trans hv1
        have hw2 := (hb.cell (p := ⟨bY, oy + j * 2, none⟩) hby).trans hu0
        have hw3 := (hb.cell (p := ⟨bY, oy + j * 2 + 1, none⟩) hby).trans hu1
        have r1 := hrv'.below hb
        have r2 := hru'.below hb
        have zx : bx < wr.heap.size := Nat.lt_of_lt_of_le hbx hb.size
        have zy : bY < wr.heap.size := Nat.lt_of_lt_of_le hby hb.size
        have i1 : (0 : Int) ≤ (j : Int) := by omega
        have i2 : (j : Int) < (la : Int) := by omega
        have HT := hidden ht
        obtain ⟨x0, x1⟩ := x
        obtain ⟨y0, y1⟩ := y
        simp only at hw0 hw1 hw2 hw3 r1 r2 hil
        clear hcx hcy hdj hdj' hv0 hv1 hu0 hu1 hrv hru hrv' hru' ht
        by_cases hxy : (x0, x1) = (y0, y1)
        · obtain ⟨rfl, rfl⟩ : x0 = y0 ∧ x1 = y1 := by simpa using hxy
          have HD := hidden (hal.1 rfl HT.out)
          have hde := sameB_self (x0, x1)
          clear hal hxy
          go_wp2_with fail
          go_region_held3 (fun w' => w'.cell? ⟨bx, ox + j * 2, none⟩ = some (.int .i64 x0) ∧ w'.cell? ⟨bx, ox + j * 2 + 1, none⟩ = some (.slice av x1.length cv) ∧ w'.cell? ⟨bY, oy + j * 2, none⟩ = some (.int .i64 x0) ∧ w'.cell? ⟨bY, oy + j * 2 + 1, none⟩ = some (.slice au x1.length cu))
            (first | (exact ⟨(hbC.cell (p := ⟨bx, ox + j * 2, none⟩) zx).trans hw0, (hbC.cell (p := ⟨bx, ox + j * 2 + 1, none⟩) zx).trans hw1, (hbC.cell (p := ⟨bY, oy + j * 2, none⟩) zy).trans hw2, (hbC.cell (p := ⟨bY, oy + j * 2 + 1, none⟩) zy).trans hw3⟩) | (exact ⟨hw0, hw1, hw2, hw3⟩) | go_keep)
            (first | (go_at_call 300; refine (eqWr_any _ _ _ _ _ _ _ _ _ x1 x1 (by exact r1.drew) (by exact r2.drew) (by omega)).mono ?_; rintro e wC ⟨rfl, hbC0⟩; have hbC : Below wr.heap.size wr wC := (Below.refl wr.heap.size wr).drew.trans hbC0))
          go_wp2
          go_roundw
          case rel => exact ⟨j + 1, by omega, by go_num, HD.out, Below.andThen hb hbC⟩
          case measure => simp [intOf]; omega
        · have HN := hidden (hal.2 hxy)
          have hde := sameB_not hxy
          clear hal hxy
          go_wp2_with fail
          go_region_held3 (fun w' => w'.cell? ⟨bx, ox + j * 2, none⟩ = some (.int .i64 x0) ∧ w'.cell? ⟨bx, ox + j * 2 + 1, none⟩ = some (.slice av x1.length cv) ∧ w'.cell? ⟨bY, oy + j * 2, none⟩ = some (.int .i64 y0) ∧ w'.cell? ⟨bY, oy + j * 2 + 1, none⟩ = some (.slice au y1.length cu))
            (first | (exact ⟨(hbC.cell (p := ⟨bx, ox + j * 2, none⟩) zx).trans hw0, (hbC.cell (p := ⟨bx, ox + j * 2 + 1, none⟩) zx).trans hw1, (hbC.cell (p := ⟨bY, oy + j * 2, none⟩) zy).trans hw2, (hbC.cell (p := ⟨bY, oy + j * 2 + 1, none⟩) zy).trans hw3⟩) | (exact ⟨hw0, hw1, hw2, hw3⟩) | go_keep)
            (first | (go_at_call 300; refine (eqWr_any _ _ _ _ _ _ _ _ _ x1 y1 (by exact r1.drew) (by exact r2.drew) (by omega)).mono ?_; rintro e wC ⟨rfl, hbC0⟩; have hbC : Below wr.heap.size wr wC := (Below.refl wr.heap.size wr).drew.trans hbC0))
          go_wp2
          go_ret
          exact ⟨ret_bool (by have := HN.out; simpa using this), Below.andThen hb hbC⟩
      · go_wp2
        go_ret
        have e : j = la := by omega
        subst e
        rw [List.take_of_length_le (by omega), List.take_of_length_le (by omega)] at ht
        exact ⟨ret_bool (by simp [ht]), hb⟩
  · have hne : ((la : Int) == (lb : Int)) = false := by simp; omega
    go_enter Tryz.func273, Tryz.ntmps273
    go_wp2
    go_ret
    exact ⟨ret_bool (by simp; intro e; apply hlen; rw [← hl, ← hl', e]), Below.refl _ _⟩

set_option maxHeartbeats 1600000 in
theorem eqMem_same (w : World) (E E' : TypeId) (a0 a1 a3 b0 b1 b3 : Option Addr) (n0 c0 n1 c1 n3 c3 e0 e1 e3 : Nat) (ss : List (List Int)) (cs : List (Int × List Int)) (f : Bool) (bs : List Int)
    (h0 : tIntSS.Rd w [.slice a0 n0 c0] ss) (h1 : (tWrS E).Rd w [.slice a1 n1 c1] cs) (h3 : tIntS.Rd w [.slice a3 n3 c3] bs) (k0 : tIntSS.Rd w [.slice b0 n0 e0] ss) (k1 : (tWrS E').Rd w [.slice b1 n1 e1] cs) (k3 : tIntS.Rd w [.slice b3 n3 e3] bs) (hw : wtMem (ss, cs, f, bs) ≤ 2097152) :
    Calls Tryz.prog 231 #[.agg #[.slice a0 n0 c0, .slice a1 n1 c1, .bool f, .slice a3 n3 c3], .agg #[.slice b0 n0 e0, .slice b1 n1 e1, .bool f, .slice b3 n3 e3]] w fun e w' => e = .returned (.bool true) ∧ Below w.heap.size w w' := by
  obtain ⟨hn3, _, _⟩ := row_length h3
  have hw0 : wtIntSS ss ≤ 2097152 := by unfold wtMem at hw; simp only at hw; omega
  have hw1 : wtWrS cs ≤ 2097152 := by unfold wtMem at hw; simp only at hw; omega
  have hw3 : n3 ≤ 2097152 := by unfold wtMem at hw; simp only at hw; omega
  have hA : Below w.heap.size w ((w.alloc (.cells #[.slice a0 n0 c0, .slice a1 n1 c1, .bool f, .slice a3 n3 c3] 147)).alloc (.cells #[.slice b0 n0 e0, .slice b1 n1 e1, .bool f, .slice b3 n3 e3] 147)) :=
    ((Below.refl _ _).alloc (Nat.le_refl _) _).alloc (by simp) _
  go_enter Tryz.func231, Tryz.ntmps231
  go_wp2_with fail
  refine (eqIntSS_any _ _ _ _ _ _ _ ss ss (h0.below hA) (k0.below hA) hw0).mono ?_
  rintro e w1 ⟨rfl, hs1⟩
  have hd1 : decide (ss = ss) = true := by simp
  have hc1 := hs1.cell
  have z1 := hs1.size
  have B1 := Below.andSame hA hs1
  have z1a : w.heap.size < w1.heap.size := by rw [z1]; simp; omega
  have z1b : w.heap.size + 1 < w1.heap.size := by rw [z1]; simp
  clear hA hs1 z1
  go_wp2_with fail
  refine (eqWrS_any _ E E' _ _ _ _ _ _ cs cs (h1.below B1) (k1.below B1) hw1).mono ?_
  rintro e w2 ⟨rfl, hb2⟩
  have hd2 : decide (cs = cs) = true := by simp
  obtain ⟨hc2, _⟩ := bcell hb2
  have B2 := Below.andThen B1 hb2
  have hff : (f != f) = false := by simp
  clear hb2
  go_wp2_with fail
  refine (eqIntS_any _ _ _ _ _ _ _ bs bs hn3 hn3 (ints_rd (h3.below B2)).1 (ints_rd (k3.below B2)).1 hw3).mono ?_
  rintro e w3 ⟨rfl, hs3⟩
  have hd3 : decide (bs = bs) = true := by simp
  have B3 := Below.andSame B2 hs3
  clear hs3
  go_wp2
  go_ret
  exact ⟨rfl, B3⟩

end Go.Proofs.YtbkkjfgjlapadaaGreat

/-
  The walk of the laws' sameMem: it tells whether two disks read alike. Condition: each weighs at most 2097152.
-/
import Derived.Test.YtmkiljflkndmoaaFrame
namespace Go.Proofs.Ytmkiljflkndmoaa
open Go.RowKit

/-- A sector at an index. -/
theorem sec_at {w : World} {a : Option Addr} {n cap j : Nat} {d : List (List Int)} (h : tIntSS.Rd w [.slice a n cap] d) (hj : j < n) :
    ∃ b off x av cv, a = some ⟨b, off, none⟩ ∧ d[j]? = some x ∧ w.cell? ⟨b, off + j, none⟩ = some (.slice av x.length cv) ∧ Reads .i64 w av x := by
  have hl := (row_length h).1
  rcases rows_at rfl h with h0 | ⟨b, off, ha, _, hc⟩
  · omega
  · have hx := List.getElem?_eq_getElem (show j < d.length by omega)
    obtain ⟨v, hv, hr⟩ := hc j _ hx
    obtain ⟨av, cv, rfl⟩ := row_shape hr
    exact ⟨b, off, _, av, cv, ha, hx, hv, (ints_rd hr).1⟩

/-- A write at an index. -/
theorem wr_at {E : TypeId} {w : World} {a : Option Addr} {n cap j : Nat} {d : List (Int × List Int)} (h : (tWrS E).Rd w [.slice a n cap] d) (hj : j < n) :
    ∃ b off x0 x1 av cv, a = some ⟨b, off, none⟩ ∧ d[j]? = some (x0, x1) ∧ w.cell? ⟨b, off + j * 2, none⟩ = some (.int .i64 x0) ∧ w.cell? ⟨b, off + j * 2 + 1, none⟩ = some (.slice av x1.length cv) ∧ Reads .i64 w av x1 := by
  have hl := (row_length h).1
  rcases pairs_at rfl h with h0 | ⟨b, off, ha, _, hc⟩
  · omega
  · have hx := List.getElem?_eq_getElem (show j < d.length by omega)
    obtain ⟨v0, v1, hv0, hv1, hr⟩ := hc j _ hx
    obtain ⟨rfl, hr1⟩ := wr_rd hr
    obtain ⟨av, cv, rfl⟩ := row_shape hr1
    exact ⟨b, off, d[j].1, d[j].2, av, cv, ha, hx, hv0, hv1, (ints_rd hr1).1⟩

/-- Two disks alike. -/
def memEq (ss : List (List Int)) (cs : List (Int × List Int)) (f : Bool) (bs : List Int) (ss' : List (List Int)) (cs' : List (Int × List Int)) (f' : Bool) (bs' : List Int) : Bool := decide (ss = ss' ∧ cs = cs' ∧ f = f' ∧ bs = bs')

set_option maxRecDepth 8000 in
set_option maxHeartbeats 4000000 in
theorem sameMem_same (w : World) (E E' : TypeId) (a0 a1 a3 b0 b1 b3 : Option Addr) (n0 c0 n1 c1 n3 c3 p0 d0 p1 d1 p3 d3 : Nat) (ss : List (List Int)) (cs : List (Int × List Int)) (f : Bool) (bs : List Int)
    (h0 : tIntSS.Rd w [.slice a0 n0 c0] ss) (h1 : (tWrS E).Rd w [.slice a1 n1 c1] cs) (h3 : tIntS.Rd w [.slice a3 n3 c3] bs)
    (g0 : tIntSS.Rd w [.slice b0 p0 d0] ss) (g1 : (tWrS E').Rd w [.slice b1 p1 d1] cs) (g3 : tIntS.Rd w [.slice b3 p3 d3] bs) (hw : wtMem (ss, cs, f, bs) ≤ 2097152) :
    Calls Try.prog 28 #[.agg #[.slice a0 n0 c0, .slice a1 n1 c1, .bool f, .slice a3 n3 c3], .agg #[.slice b0 p0 d0, .slice b1 p1 d1, .bool f, .slice b3 p3 d3]] w fun e w' => e = .returned (.bool true) ∧ Below w.heap.size w w' := by
  have hA : Below w.heap.size w ((w.alloc (.cells #[.slice a0 n0 c0, .slice a1 n1 c1, .bool f, .slice a3 n3 c3] 44)).alloc (.cells #[.slice b0 p0 d0, .slice b1 p1 d1, .bool f, .slice b3 p3 d3] 44)) := ((Below.refl _ _).alloc (Nat.le_refl _) _).alloc (by simp) _
  have xa : Box ((w.alloc (.cells #[.slice a0 n0 c0, .slice a1 n1 c1, .bool f, .slice a3 n3 c3] 44)).alloc (.cells #[.slice b0 p0 d0, .slice b1 p1 d1, .bool f, .slice b3 p3 d3] 44)) w.heap.size 44 _ := (Box.new w 44 #[.slice a0 n0 c0, .slice a1 n1 c1, .bool f, .slice a3 n3 c3]).alloc _
  have xb : Box ((w.alloc (.cells #[.slice a0 n0 c0, .slice a1 n1 c1, .bool f, .slice a3 n3 c3] 44)).alloc (.cells #[.slice b0 p0 d0, .slice b1 p1 d1, .bool f, .slice b3 p3 d3] 44)) (w.heap.size + 1) 44 #[.slice b0 p0 d0, .slice b1 p1 d1, .bool f, .slice b3 p3 d3] := by
    have := Box.new (w.alloc (.cells #[.slice a0 n0 c0, .slice a1 n1 c1, .bool f, .slice a3 n3 c3] 44)) 44 #[.slice b0 p0 d0, .slice b1 p1 d1, .bool f, .slice b3 p3 d3]
    rw [show (w.alloc (.cells #[.slice a0 n0 c0, .slice a1 n1 c1, .bool f, .slice a3 n3 c3] 44)).heap.size = w.heap.size + 1 by simp] at this
    exact this
  obtain rfl : p0 = n0 := (row_length g0).1.symm.trans (row_length h0).1
  obtain rfl : p1 = n1 := (row_length g1).1.symm.trans (row_length h1).1
  obtain rfl : p3 = n3 := (row_length g3).1.symm.trans (row_length h3).1
  have HM0 := hidden (row_length h0)
  have HM1 := hidden (row_length h1)
  have h0 := h0.below hA
  have h1 := h1.below hA
  have h3 := h3.below hA
  have g0 := g0.below hA
  have g1 := g1.below hA
  have g3 := g3.below hA
  obtain ⟨r3, l3, _, _⟩ := ints_rd h3
  obtain ⟨t3, m3, _, _⟩ := ints_rd g3
  have HL3 := hidden l3
  have HM3 := hidden m3
  have HW0 : Hid (∀ x ∈ ss, x.length ≤ 2097152) := fun x hx => by
    obtain ⟨j, hj⟩ := List.mem_iff_getElem?.1 hx
    have := inner_le hj
    unfold wtMem at hw
    dsimp only at hw
    omega
  have HW1 : Hid (∀ x ∈ cs, x.2.length ≤ 2097152) := fun x hx => by
    obtain ⟨j, hj⟩ := List.mem_iff_getElem?.1 hx
    have := inner_le' hj
    unfold wtMem at hw
    dsimp only at hw
    omega
  have HW3 : Hid (p3 ≤ 2097152) := by
    unfold Hid
    unfold wtMem at hw
    dsimp only at hw
    omega
  have hbd0 : p0 ≤ 2097152 := by
    have h9 := HM0.out.1
    unfold wtMem wtIntSS at hw
    dsimp only at hw
    omega
  have hbd1 : p1 ≤ 2097152 := by
    have h9 := HM1.out.1
    unfold wtMem wtWrS at hw
    dsimp only at hw
    omega
  clear l3 m3 hw
  go_enter Try.func28, Try.ntmps28
  go_wp2_with fail
  generalize hW : (w.alloc (.cells #[.slice a0 p0 c0, .slice a1 p1 c1, .bool f, .slice a3 p3 c3] 44)).alloc (.cells #[.slice b0 p0 d0, .slice b1 p1 d1, .bool f, .slice b3 p3 d3] 44) = W at hA xa xb h0 h1 h3 g0 g1 g3 r3 t3 ⊢
  clear hW
  refine (sameInts_any _ _ _ _ _ _ _ bs bs HL3.out HM3.out r3 t3 HW3.out).mono ?_
  rintro e w1 ⟨rfl, s1⟩
  have hd : decide (bs = bs) = true := by simp
  have HA := hidden hA
  have Ha0 : Hid (∀ v : World, Same W v → v.cell? ⟨w.heap.size, 0, none⟩ = some (.slice a0 p0 c0)) := fun v s => (s.cell _).trans (xa.cell 0)
  have Ha1 : Hid (∀ v : World, Same W v → v.cell? ⟨w.heap.size, 1, none⟩ = some (.slice a1 p1 c1)) := fun v s => (s.cell _).trans (xa.cell 1)
  have Hb0 : Hid (∀ v : World, Same W v → v.cell? ⟨w.heap.size + 1, 0, none⟩ = some (.slice b0 p0 d0)) := fun v s => (s.cell _).trans (xb.cell 0)
  have Hb1 : Hid (∀ v : World, Same W v → v.cell? ⟨w.heap.size + 1, 1, none⟩ = some (.slice b1 p1 d1)) := fun v s => (s.cell _).trans (xb.cell 1)
  have G0 := hidden h0
  have G1 := hidden h1
  have F0 := hidden g0
  have F1 := hidden g1
  clear hA xa xb h0 h1 h3 g0 g1 g3 r3 t3 HL3 HM3 HW3
  go_wp2_with fail
  go_loopw [5] (fun i wr => ∃ j : Nat, j ≤ p0 ∧ i = .int .i64 j ∧ Same W wr) (fun i _ => p0 - (intOf i).toNat)
  case atStart => exact ⟨0, Nat.zero_le _, rfl, s1⟩
  case round =>
    obtain ⟨j, hj, rfl, hs⟩ := hrel
    clear s1 hd
    have ca0 := Ha0.out wr hs
    by_cases hlt : j < p0
    · have i1 : (0 : Int) ≤ (j : Int) := by omega
      have i2 : (j : Int) < (p0 : Int) := by omega
      obtain ⟨ga, oa, x, va, na, rfl, hx, hca, hra⟩ := sec_at (j := j) G0.out hlt
      obtain ⟨gb, ob, x', vb, nb, rfl, hx', hcb, hrb⟩ := sec_at (j := j) F0.out hlt
      obtain rfl : x = x' := by have := hx.symm.trans hx'; simpa using this
      have lx : x.length ≤ 2097152 := HW0.out _ (List.mem_of_getElem? hx)
      have Ca : Hid (∀ v : World, Same W v → v.cell? ⟨ga, oa + j, none⟩ = some (.slice va x.length na)) := fun v s => (s.cell _).trans hca
      have Cb : Hid (∀ v : World, Same W v → v.cell? ⟨gb, ob + j, none⟩ = some (.slice vb x.length nb)) := fun v s => (s.cell _).trans hcb
      have Ra := hidden hra
      have Rb := hidden hrb
      have hsd : Same W wr.drew := hs.drew
      have hde : decide (x = x) = true := by simp
      clear hx hx' hca hcb hra hrb
      go_wp2_with fail
      go_region_held3 (fun v => v.cell? ⟨w.heap.size, 0, none⟩ = some (.slice (some ⟨ga, oa, none⟩) p0 c0) ∧ v.cell? ⟨ga, oa + j, none⟩ = some (.slice va x.length na) ∧ v.cell? ⟨w.heap.size + 1, 0, none⟩ = some (.slice (some ⟨gb, ob, none⟩) p0 d0) ∧ v.cell? ⟨gb, ob + j, none⟩ = some (.slice vb x.length nb))
        (first | (with_reducible exact ⟨Ha0.out wa sa, Ca.out wa sa, Hb0.out wa sa, Cb.out wa sa⟩) | (with_reducible exact ⟨Ha0.out wr.drew hsd, Ca.out wr.drew hsd, Hb0.out wr.drew hsd, Cb.out wr.drew hsd⟩) | (with_reducible exact ⟨Ha0.out wr hs, Ca.out wr hs, Hb0.out wr hs, Cb.out wr hs⟩) | go_keep)
        (first | (go_at_call 17; refine (sameInts_any _ _ _ _ _ _ _ x x rfl rfl (Ra.out.same hsd) (Rb.out.same hsd) lx).mono ?_; rintro e wa ⟨rfl, sa0⟩; have sa : Same W wa := hsd.trans sa0; clear sa0))
      go_wp2
      go_roundw
      case rel => exact ⟨j + 1, by omega, by go_num, sa⟩
      case measure => simp [intOf]; omega
    · go_wp2_with fail
      go_loopw [6] (fun i wr2 => ∃ j : Nat, j ≤ p1 ∧ i = .int .i64 j ∧ Same W wr2) (fun i _ => p1 - (intOf i).toNat)
      case atStart => exact ⟨0, Nat.zero_le _, rfl, hs⟩
      case round =>
        clear ca0 hlt hj
        obtain ⟨i, hi, rfl, hs2⟩ := hrel
        have ca1 := Ha1.out wr hs2
        by_cases hil : i < p1
        · have i1 : (0 : Int) ≤ (i : Int) := by omega
          have i2 : (i : Int) < (p1 : Int) := by omega
          obtain ⟨ga, oa, x0, x, va, na, rfl, hx, hca0, hca, hra⟩ := wr_at (j := i) G1.out hil
          obtain ⟨gb, ob, y0, y, vb, nb, rfl, hx', hcb0, hcb, hrb⟩ := wr_at (j := i) F1.out hil
          obtain ⟨rfl, rfl⟩ : x0 = y0 ∧ x = y := by have := hx.symm.trans hx'; simpa using this
          have lx : x.length ≤ 2097152 := HW1.out _ (List.mem_of_getElem? hx)
          have Ca0 : Hid (∀ v : World, Same W v → v.cell? ⟨ga, oa + i * 2, none⟩ = some (.int .i64 x0)) := fun v s => (s.cell _).trans hca0
          have Ca : Hid (∀ v : World, Same W v → v.cell? ⟨ga, oa + i * 2 + 1, none⟩ = some (.slice va x.length na)) := fun v s => (s.cell _).trans hca
          have Cb0 : Hid (∀ v : World, Same W v → v.cell? ⟨gb, ob + i * 2, none⟩ = some (.int .i64 x0)) := fun v s => (s.cell _).trans hcb0
          have Cb : Hid (∀ v : World, Same W v → v.cell? ⟨gb, ob + i * 2 + 1, none⟩ = some (.slice vb x.length nb)) := fun v s => (s.cell _).trans hcb
          have Ra := hidden hra
          have Rb := hidden hrb
          have hsd : Same W wr.drew := hs2.drew
          have hde : decide (x = x) = true := by simp
          have hee : (x0 == x0) = true := by simp
          clear hx hx' hca hcb hca0 hcb0 hra hrb
          go_wp2_with fail
          go_region_held3 (fun v => v.cell? ⟨w.heap.size, 1, none⟩ = some (.slice (some ⟨ga, oa, none⟩) p1 c1) ∧ v.cell? ⟨ga, oa + i * 2, none⟩ = some (.int .i64 x0) ∧ v.cell? ⟨ga, oa + i * 2 + 1, none⟩ = some (.slice va x.length na) ∧ v.cell? ⟨w.heap.size + 1, 1, none⟩ = some (.slice (some ⟨gb, ob, none⟩) p1 d1) ∧ v.cell? ⟨gb, ob + i * 2, none⟩ = some (.int .i64 x0) ∧ v.cell? ⟨gb, ob + i * 2 + 1, none⟩ = some (.slice vb x.length nb))
            (first | (with_reducible exact ⟨Ha1.out wa sa, Ca0.out wa sa, Ca.out wa sa, Hb1.out wa sa, Cb0.out wa sa, Cb.out wa sa⟩) | (with_reducible exact ⟨Ha1.out wr.drew hsd, Ca0.out wr.drew hsd, Ca.out wr.drew hsd, Hb1.out wr.drew hsd, Cb0.out wr.drew hsd, Cb.out wr.drew hsd⟩) | (with_reducible exact ⟨Ha1.out wr hs2, Ca0.out wr hs2, Ca.out wr hs2, Hb1.out wr hs2, Cb0.out wr hs2, Cb.out wr hs2⟩) | go_keep)
            (first | (go_at_call 17; refine (sameInts_any _ _ _ _ _ _ _ x x rfl rfl (Ra.out.same hsd) (Rb.out.same hsd) lx).mono ?_; rintro e wa ⟨rfl, sa0⟩; have sa : Same W wa := hsd.trans sa0; clear sa0))
          go_wp2
          go_roundw
          case rel => exact ⟨i + 1, by omega, by go_num, sa⟩
          case measure => simp [intOf]; omega
        · go_wp2
          go_ret
          exact ⟨rfl, Below.andSame HA.out hs2⟩

end Go.Proofs.Ytmkiljflkndmoaa

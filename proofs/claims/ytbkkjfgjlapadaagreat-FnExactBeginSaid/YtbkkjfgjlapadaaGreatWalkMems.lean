/-
  The walks of the laws' helpers over slices of disks: what is left of a bound, the copy, and the comparison of two that read alike. Condition: they weigh at most 1048576 (2097152 for the comparison).
-/
import Derived.Test.YtbkkjfgjlapadaaGreatRow4
import Derived.Test.YtbkkjfgjlapadaaGreatWalkMemRd
namespace Go.Proofs.YtbkkjfgjlapadaaGreat
open Go.RowKit

/-- Several disks, and what they weigh. -/
abbrev tMemS (E F : TypeId) : Ty := rowTy (tMem E) F
abbrev MemD : Type := List (List Int) × List (Int × List Int) × Bool × List Int
def wtMemS (d : List MemD) : Nat := d.length + sumL (d.map wtMem)
theorem inner_leM {d : List MemD} {j : Nat} {x : MemD} (h : d[j]? = some x) : wtMem x ≤ wtMemS d := by
  have h1 := sumL_take (l := d.map wtMem) (j := j) (x := wtMem x) (by rw [List.getElem?_map, h]; rfl)
  have h2 := sumL_le (l := d.map wtMem) (j + 1)
  unfold wtMemS
  omega
theorem mem_at {E : TypeId} {w : World} {v0 v1 v2 v3 : Value} {x : MemD} (h : (tMem E).Rd w [v0, v1, v2, v3] x) :
    ∃ a0 c0 a1 c1 a3 c3 ss cs f bs, x = (ss, cs, f, bs) ∧ v0 = .slice a0 ss.length c0 ∧ v1 = .slice a1 cs.length c1 ∧ v2 = .bool f ∧ v3 = .slice a3 bs.length c3 ∧ tIntSS.Rd w [.slice a0 ss.length c0] ss ∧ (tWrS E).Rd w [.slice a1 cs.length c1] cs ∧ tIntS.Rd w [.slice a3 bs.length c3] bs := by
  obtain ⟨ss, cs, f, bs⟩ := x
  obtain ⟨a0, c0, a1, c1, a3, c3, rfl, rfl, rfl, rfl, h0, h1, h3⟩ := mem_rd h
  exact ⟨a0, c0, a1, c1, a3, c3, ss, cs, f, bs, rfl, rfl, rfl, rfl, rfl, h0, h1, h3⟩

set_option maxHeartbeats 1600000 in
theorem szMemS_any (w : World) (E F : TypeId) (a : Option Addr) (n cap : Nat) (d : List MemD) (left : Int) (h : (tMemS E F).Rd w [.slice a n cap] d) (h0 : 0 ≤ left) (h1 : left ≤ 1048576) :
    Calls Tryz.prog 162 #[.slice a n cap, .int .i64 left] w fun e w' => e = .returned (.int .i64 (leftOf left (wtMemS d))) ∧ Below w.heap.size w w' := by
  obtain ⟨hl, hc, hm⟩ := row_length h
  by_cases hlt : (n : Int) ≤ left
  · go_enter Tryz.func162, Tryz.ntmps162
    go_wp2
    go_loopw [1, 5] (fun l i wr => ∃ j : Nat, j ≤ n ∧ i = .int .i64 j ∧ l = .int .i64 (left - n - (sumL ((d.map wtMem).take j) : Int)) ∧ (sumL ((d.map wtMem).take j) : Int) ≤ left - n ∧ Below w.heap.size w wr) (fun _ i _ => n - (intOf i).toNat)
    case atStart => exact ⟨0, Nat.zero_le _, rfl, by simp [sumL], by simp [sumL]; omega, Below.refl _ _⟩
    case round =>
      obtain ⟨j, hj, rfl, rfl, hs, hb⟩ := hrel
      by_cases hjn : j < n
      · rcases quads_at rfl h with h0' | ⟨b, off, rfl, hbl, hcs⟩
        · omega
        have hdj : d[j]? = some (d[j]'(by omega)) := List.getElem?_eq_getElem (by omega)
        generalize d[j]'(by omega) = x at hdj
        obtain ⟨v0, v1, v2, v3, hv0, hv1, hv2, hv3, hrv⟩ := hcs j x hdj
        obtain ⟨a0, c0, a1, c1, a3, c3, ss, cs, f, bs, rfl, rfl, rfl, rfl, rfl, r0, r1, r3⟩ := mem_at hrv
        have hw0 := (hb.cell (p := ⟨b, off + j * 4, none⟩) hbl).trans hv0
        have hw1 := (hb.cell (p := ⟨b, off + j * 4 + 1, none⟩) hbl).trans hv1
        have hw2 := (hb.cell (p := ⟨b, off + j * 4 + 2, none⟩) hbl).trans hv2
        have hw3 := (hb.cell (p := ⟨b, off + j * 4 + 3, none⟩) hbl).trans hv3
        have hst := sumL_take (l := d.map wtMem) (j := j) (x := wtMem (ss, cs, f, bs)) (by rw [List.getElem?_map, hdj]; rfl)
        have HW : Hid (sumL ((d.map wtMem).take (j + 1)) = sumL ((d.map wtMem).take j) + wtMem (ss, cs, f, bs)) := hst
        have hle := sumL_le (l := d.map wtMem) (j + 1)
        have HE : Hid (wtMemS d = n + sumL (d.map wtMem)) := by unfold Hid wtMemS; rw [hl]
        generalize hS : sumL ((d.map wtMem).take j) = S at hs HW
        generalize hT : sumL (d.map wtMem) = T at hle HE
        have i1 : (0 : Int) ≤ (j : Int) := by omega
        have i2 : (j : Int) < (n : Int) := by omega
        clear hcs hst hS hT hdj hv0 hv1 hv2 hv3 hrv
        have SZ := hidden (szMem_any wr E a0 a1 a3 _ c0 _ c1 _ c3 ss cs f bs (left - n - (S : Int)) (r0.below hb) (r1.below hb) (r3.below hb) (by omega) (by omega))
        clear r0 r1 r3
        generalize wtMem (ss, cs, f, bs) = M at HW SZ
        by_cases hx : (M : Int) ≤ left - n - S
        · have hq := leftOf_pos hx
          go_wp2_with fail
          refine SZ.out.mono ?_
          rintro e w1 ⟨rfl, hb1⟩
          have hB := Below.andThen hb hb1
          go_wp2
          go_roundw
          case rel => exact ⟨j + 1, by omega, by go_num, by rw [HW.out]; go_num, by rw [HW.out]; omega, hB⟩
          case measure => simp [intOf]; omega
        · have hq := leftOf_neg (left := left - n - (S : Int)) (wt := M) (by omega)
          have hgt : left < ((wtMemS d : Nat) : Int) := by rw [HE.out]; have := HW.out; omega
          go_wp2_with fail
          refine SZ.out.mono ?_
          rintro e w1 ⟨rfl, hb1⟩
          have hB := Below.andThen hb hb1
          go_wp2
          go_ret
          exact ⟨ret_int (leftOf_neg (by omega)).symm, hB⟩
      · go_wp2
        go_ret
        have e : j = n := by omega
        subst e
        have ht : (d.map wtMem).take j = d.map wtMem := List.take_of_length_le (by simp; omega)
        rw [ht] at hs
        refine ⟨ret_int ?_, hb⟩
        rw [ht, leftOf_pos (by unfold wtMemS; omega)]
        unfold wtMemS
        omega
  · have hgt : left < ((wtMemS d : Nat) : Int) := by unfold wtMemS; omega
    go_enter Tryz.func162, Tryz.ntmps162
    go_wp2
    go_ret
    exact ⟨ret_int (leftOf_neg (by omega)).symm, Below.refl _ _⟩

theorem Tryz.infoMem : (Tryz.prog.info? 147).map (fun i => (i.zero, i.size, i.bytes)) = some (some (.agg #[.slice none 0 0, .slice none 0 0, .bool false, .slice none 0 0]), 4, 80) := by kernel_rfl

set_option maxHeartbeats 1600000 in
theorem toMemS_any (w : World) (E F : TypeId) (a : Option Addr) (n cap : Nat) (d : List MemD) (h : (tMemS E F).Rd w [.slice a n cap] d) (hw : wtMemS d ≤ 1048576) :
    Calls Tryz.prog 168 #[.slice a n cap] w fun e w' => e = .returned (.slice (some ⟨w.heap.size, 0, none⟩) n n) ∧ (tMemS 214 147).Own w' w.heap.size w'.heap.size [.slice (some ⟨w.heap.size, 0, none⟩) n n] d ∧ Below w.heap.size w w' := by
  obtain ⟨hl, hc, hm⟩ := row_length h
  obtain ⟨i0, hi, hz0, hz1, hz2⟩ := info_parts Tryz.infoMem
  have hn : n ≤ 1048576 := by unfold wtMemS at hw; omega
  have hb3 : i0.bytes * n ≤ 281474976710656 := by rw [hz2]; omega
  have hm3 : n ≤ maxLen := by unfold maxLen; omega
  go_enter Tryz.func168, Tryz.ntmps168
  go_wp2_with (at_make; refine wpList_make_full _ rfl _ _ 26 rfl w.heap.size 147 i0 (.agg #[.slice none 0 0, .slice none 0 0, .bool false, .slice none 0 0]) 4 Tryz.underlying26 hi hz0 hz1 _ _ _ _ n rfl rfl rfl rfl hb3 hm3 (Nat.le_refl _) ?_; intro w1 hown hgrow)
  have hO := row_made (t := tMem 214) (z := ([], [], false, [])) hown (by omega) rfl (fun _ => ⟨[], [], rfl, .inl ⟨rfl, rfl, rfl⟩, ⟨[], [], rfl, .inl ⟨rfl, rfl, rfl⟩, ⟨[], [], rfl, ⟨rfl, rfl⟩, .inl ⟨rfl, rfl, rfl⟩, rfl⟩, rfl⟩, rfl⟩)
  have hB1 : Below w.heap.size w w1 := (Below.refl _ _).grown hgrow (Nat.le_refl _) (by simp)
  clear hown hgrow
  go_loopw [4] (fun i wr => ∃ j : Nat, j ≤ n ∧ i = .int .i64 j ∧ (tMemS 214 147).Own wr w.heap.size wr.heap.size [.slice (some ⟨w.heap.size, 0, none⟩) n n] (d.take j ++ List.replicate (n - j) ([], [], false, [])) ∧ Below w.heap.size w wr) (fun i _ => n - (intOf i).toNat)
  case atStart => exact ⟨0, Nat.zero_le _, rfl, by simpa using hO, hB1⟩
  case round =>
    clear hO hB1
    obtain ⟨j, hj, rfl, ho, hb⟩ := hrel
    by_cases hjn : j < n
    · rcases quads_at rfl h with h0' | ⟨b, off, rfl, hbl, hcs⟩
      · omega
      have hdj : d[j]? = some (d[j]'(by omega)) := List.getElem?_eq_getElem (by omega)
      have HS := copied_step' d ([], [], false, []) _ j hdj
      generalize d[j]'(by omega) = x at hdj HS
      have hlen := Nat.le_trans (inner_leM hdj) hw
      rw [hl] at HS
      have HS' : Hid _ := HS
      obtain ⟨v0, v1, v2, v3, hv0, hv1, hv2, hv3, hrv⟩ := hcs j x hdj
      obtain ⟨a0, c0, a1, c1, a3, c3, ss, cs, f, bs, rfl, rfl, rfl, rfl, rfl, r0, r1, r3⟩ := mem_at hrv
      have hw0 := (hb.cell (p := ⟨b, off + j * 4, none⟩) hbl).trans hv0
      have hw1 := (hb.cell (p := ⟨b, off + j * 4 + 1, none⟩) hbl).trans hv1
      have hw2 := (hb.cell (p := ⟨b, off + j * 4 + 2, none⟩) hbl).trans hv2
      have hw3 := (hb.cell (p := ⟨b, off + j * 4 + 3, none⟩) hbl).trans hv3
      have i1 : (0 : Int) ≤ (j : Int) := by omega
      have i2 : (j : Int) < (n : Int) := by omega
      have TM := hidden (toMem_any wr E a0 a1 a3 _ c0 _ c1 _ c3 ss cs f bs (r0.below hb) (r1.below hb) (r3.below hb) hlen)
      clear hcs hdj HS hv0 hv1 hv2 hv3 hrv r0 r1 r3
      go_wp2_with fail
      refine TM.out.mono ?_
      rintro e w2 ⟨b0, b1, b3, rfl, ho2, hb2⟩
      have s2 := hb2.size
      obtain ⟨hold, hfz, hst, hbt⟩ := row_store4 rfl (ho.below hb2) hjn ho2 (Nat.le_refl _) s2
      obtain ⟨o0, hc0⟩ := hold 0 (by omega)
      obtain ⟨o1, hc1⟩ := hold 1 (by omega)
      obtain ⟨o2, hc2⟩ := hold 2 (by omega)
      obtain ⟨o3, hc3⟩ := hold 3 (by omega)
      rw [Nat.add_zero] at hc0
      rw [HS'.out] at hst
      have HST := hidden hst
      have HB := hidden ((((Below.andThen hb hb2).setCell (p := ⟨w.heap.size, j * 4, none⟩) (Nat.le_refl _) (.slice b0 ss.length ss.length)).setCell (p := ⟨w.heap.size, j * 4 + 1, none⟩) (Nat.le_refl _) (.slice b1 cs.length cs.length)).setCell (p := ⟨w.heap.size, j * 4 + 2, none⟩) (Nat.le_refl _) (.bool f) |>.setCell (p := ⟨w.heap.size, j * 4 + 3, none⟩) (Nat.le_refl _) (.slice b3 bs.length bs.length))
      clear ho ho2 hb2 hst hbt hb hold TM
      go_wp2
      go_roundw
      case rel => exact ⟨j + 1, by omega, by go_num, by first | exact HST.out | (simp only [World.size_setCell]; exact HST.out), HB.out⟩
      case measure => simp [intOf]; omega
    · go_wp2
      go_ret
      have e : j = n := by omega
      subst e
      rw [Nat.sub_self, List.replicate_zero, List.append_nil, List.take_of_length_le (by omega)] at ho
      exact ⟨rfl, ho, hb⟩

set_option maxHeartbeats 3200000 in
/-- Two that read alike. -/
theorem eqMemS_same (w : World) (E E' F F' : TypeId) (a b : Option Addr) (la lb ca cb : Nat) (d : List MemD) (h : (tMemS E F).Rd w [.slice a la ca] d) (h' : (tMemS E' F').Rd w [.slice b lb cb] d) (hw : wtMemS d ≤ 2097152) :
    Calls Tryz.prog 174 #[.slice a la ca, .slice b lb cb] w fun e w' => e = .returned (.bool true) ∧ Below w.heap.size w w' := by
  obtain ⟨hl, hc, hm⟩ := row_length h
  obtain ⟨hl', hc', hm'⟩ := row_length h'
  have hla : la ≤ 2097152 := by unfold wtMemS at hw; omega
  have hlen : la = lb := by omega
  subst hlen
  go_enter Tryz.func174, Tryz.ntmps174
  go_wp2
  go_loopw [5] (fun i wr => ∃ j : Nat, j ≤ la ∧ i = .int .i64 j ∧ Below w.heap.size w wr) (fun i _ => la - (intOf i).toNat)
  case atStart => exact ⟨0, Nat.zero_le _, rfl, Below.refl _ _⟩
  case round =>
    obtain ⟨j, hj, rfl, hb⟩ := hrel
    by_cases hjn : j < la
    · rcases quads_at rfl h with h0' | ⟨bx, ox, rfl, hbx, hcx⟩
      · omega
      rcases quads_at rfl h' with h0' | ⟨bY, oy, rfl, hby, hcy⟩
      · omega
      have hdj : d[j]? = some (d[j]'(by omega)) := List.getElem?_eq_getElem (by omega)
      generalize d[j]'(by omega) = x at hdj
      have hil := Nat.le_trans (inner_leM hdj) hw
      obtain ⟨v0, v1, v2, v3, hv0, hv1, hv2, hv3, hrv⟩ := hcx j x hdj
      obtain ⟨u0, u1, u2, u3, hu0, hu1, hu2, hu3, hru⟩ := hcy j x hdj
      have rv := hrv.below hb
      have ru := hru.below hb
      obtain ⟨a0, c0, a1, c1, a3, c3, ss, cs, f, bs, rfl, rfl, rfl, rfl, rfl, _, _, _⟩ := mem_at hrv
      obtain ⟨b0, d0, b1, d1, b3, d3, ss', cs', f', bs', hxx, rfl, rfl, rfl, rfl, _, _, _⟩ := mem_at hru
      obtain ⟨rfl, rfl, rfl, rfl⟩ : ss = ss' ∧ cs = cs' ∧ f = f' ∧ bs = bs' := by simpa using hxx
      have hx0 := (hb.cell (p := ⟨bx, ox + j * 4, none⟩) hbx).trans hv0
      have hx1 := (hb.cell (p := ⟨bx, ox + j * 4 + 1, none⟩) hbx).trans hv1
      have hx2 := (hb.cell (p := ⟨bx, ox + j * 4 + 2, none⟩) hbx).trans hv2
      have hx3 := (hb.cell (p := ⟨bx, ox + j * 4 + 3, none⟩) hbx).trans hv3
      have hy0 := (hb.cell (p := ⟨bY, oy + j * 4, none⟩) hby).trans hu0
      have hy1 := (hb.cell (p := ⟨bY, oy + j * 4 + 1, none⟩) hby).trans hu1
      have hy2 := (hb.cell (p := ⟨bY, oy + j * 4 + 2, none⟩) hby).trans hu2
      have hy3 := (hb.cell (p := ⟨bY, oy + j * 4 + 3, none⟩) hby).trans hu3
      have zx : bx < wr.heap.size := Nat.lt_of_lt_of_le hbx hb.size
      have zy : bY < wr.heap.size := Nat.lt_of_lt_of_le hby hb.size
      have i1 : (0 : Int) ≤ (j : Int) := by omega
      have i2 : (j : Int) < (la : Int) := by omega
      have RV := hidden rv
      have RU := hidden ru
      clear hcx hcy hdj hv0 hv1 hv2 hv3 hu0 hu1 hu2 hu3 hrv hru hxx rv ru
      go_wp2_with fail
      go_region_held3 (fun w' => w'.cell? ⟨bx, ox + j * 4, none⟩ = some (.slice a0 ss.length c0) ∧ w'.cell? ⟨bx, ox + j * 4 + 1, none⟩ = some (.slice a1 cs.length c1) ∧ w'.cell? ⟨bx, ox + j * 4 + 2, none⟩ = some (.bool f) ∧ w'.cell? ⟨bx, ox + j * 4 + 3, none⟩ = some (.slice a3 bs.length c3) ∧ w'.cell? ⟨bY, oy + j * 4, none⟩ = some (.slice b0 ss.length d0) ∧ w'.cell? ⟨bY, oy + j * 4 + 1, none⟩ = some (.slice b1 cs.length d1) ∧ w'.cell? ⟨bY, oy + j * 4 + 2, none⟩ = some (.bool f) ∧ w'.cell? ⟨bY, oy + j * 4 + 3, none⟩ = some (.slice b3 bs.length d3))
        (first | (exact ⟨(hbC.cell (p := ⟨bx, ox + j * 4, none⟩) zx).trans hx0, (hbC.cell (p := ⟨bx, ox + j * 4 + 1, none⟩) zx).trans hx1, (hbC.cell (p := ⟨bx, ox + j * 4 + 2, none⟩) zx).trans hx2, (hbC.cell (p := ⟨bx, ox + j * 4 + 3, none⟩) zx).trans hx3, (hbC.cell (p := ⟨bY, oy + j * 4, none⟩) zy).trans hy0, (hbC.cell (p := ⟨bY, oy + j * 4 + 1, none⟩) zy).trans hy1, (hbC.cell (p := ⟨bY, oy + j * 4 + 2, none⟩) zy).trans hy2, (hbC.cell (p := ⟨bY, oy + j * 4 + 3, none⟩) zy).trans hy3⟩) | (exact ⟨hx0, hx1, hx2, hx3, hy0, hy1, hy2, hy3⟩) | go_keep)
        (first | (go_at_call 231; refine (eqMem_rd _ E E' _ _ _ _ _ _ f ss cs bs (by exact RV.out.drew) (by exact RU.out.drew) hil).mono ?_; rintro e wC ⟨rfl, hbC0⟩; have hbC : Below wr.heap.size wr wC := (Below.refl wr.heap.size wr).drew.trans hbC0))
      go_wp2
      go_roundw
      case rel => exact ⟨j + 1, by omega, by go_num, Below.andThen hb hbC⟩
      case measure => simp [intOf]; omega
    · go_wp2
      go_ret
      exact ⟨rfl, hb⟩

end Go.Proofs.YtbkkjfgjlapadaaGreat

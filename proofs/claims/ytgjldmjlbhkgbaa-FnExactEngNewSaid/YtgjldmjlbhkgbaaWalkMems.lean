/-
  The walks of the laws' helpers over slices of disks: what is left of a bound, the copy, and the comparison of two that read alike. Condition: they weigh at most 1048576 (2097152 for the comparison).
-/
import Derived.Test.YtgjldmjlbhkgbaaRow4
import Derived.Test.YtgjldmjlbhkgbaaWalkMemRd
namespace Go.Proofs.Ytgjldmjlbhkgbaa
open Go.RowKit

/-- Several disks, and what they weigh. -/
abbrev tMemS (E F : TypeId) : Ty := rowTy (tMem E) F
abbrev MemD : Type := List (List Int) × List (Int × List Int) × Bool × List Int
def wtMemS (d : List MemD) : Nat := d.length + sumL (d.map wtMem)
theorem inner_leM {d : List MemD} {j : Nat} {x : MemD} (h : d[j]? = some x) : wtMem x ≤ wtMemS d := by
  have h1 := sumL_take (l := d.map wtMem) (j := j) (x := wtMem x) (by rw [List.getElem?_map, h]; rfl)
  have h2 := sumL_le (l := d.map wtMem) (j + 1)
  unfold wtMemS
  omega
theorem mem_at {E : TypeId} {w : World} {v0 v1 v2 v3 : Value} {x : MemD} (h : (tMem E).Rd w [v0, v1, v2, v3] x) :
    ∃ a0 c0 a1 c1 a3 c3 ss cs f bs, x = (ss, cs, f, bs) ∧ v0 = .slice a0 ss.length c0 ∧ v1 = .slice a1 cs.length c1 ∧ v2 = .bool f ∧ v3 = .slice a3 bs.length c3 ∧ tIntSS.Rd w [.slice a0 ss.length c0] ss ∧ (tWrS E).Rd w [.slice a1 cs.length c1] cs ∧ tIntS.Rd w [.slice a3 bs.length c3] bs := by
  obtain ⟨ss, cs, f, bs⟩ := x
  obtain ⟨a0, c0, a1, c1, a3, c3, rfl, rfl, rfl, rfl, h0, h1, h3⟩ := mem_rd h
  exact ⟨a0, c0, a1, c1, a3, c3, ss, cs, f, bs, rfl, rfl, rfl, rfl, rfl, h0, h1, h3⟩

theorem Try.infoMem : (Try.prog.info? 57).map (fun i => (i.zero, i.size, i.bytes)) = some (some (.agg #[.slice none 0 0, .slice none 0 0, .bool false, .slice none 0 0]), 4, 80) := by kernel_rfl

set_option maxHeartbeats 3200000 in
/-- Two that read alike. -/
theorem eqMemS_same (w : World) (E E' F F' : TypeId) (a b : Option Addr) (la lb ca cb : Nat) (d : List MemD) (h : (tMemS E F).Rd w [.slice a la ca] d) (h' : (tMemS E' F').Rd w [.slice b lb cb] d) (hw : wtMemS d ≤ 2097152) :
    Calls Try.prog 37 #[.slice a la ca, .slice b lb cb] w fun e w' => e = .returned (.bool true) ∧ Below w.heap.size w w' := by
  obtain ⟨hl, hc, hm⟩ := row_length h
  obtain ⟨hl', hc', hm'⟩ := row_length h'
  have hla : la ≤ 2097152 := by unfold wtMemS at hw; omega
  have hlen : la = lb := by omega
  subst hlen
  go_enter Try.func37, Try.ntmps37
  go_wp2
  go_loopw [5] (fun i wr => ∃ j : Nat, j ≤ la ∧ i = .int .i64 j ∧ Below w.heap.size w wr) (fun i _ => la - (intOf i).toNat)
  case atStart => exact ⟨0, Nat.zero_le _, rfl, Below.refl _ _⟩
  case round =>
    obtain ⟨j, hj, rfl, hb⟩ := hrel
    by_cases hjn : j < la
    · rcases quads_at rfl h with h0' | ⟨bx, ox, rfl, hbx, hcx⟩
      · omega
      rcases quads_at rfl h' with h0' | ⟨bY, oy, rfl, hby, hcy⟩
      · omega
      have hdj : d[j]? = some (d[j]'(by omega)) := List.getElem?_eq_getElem (by omega)
      generalize d[j]'(by omega) = x at hdj
      have hil := Nat.le_trans (inner_leM hdj) hw
      obtain ⟨v0, v1, v2, v3, hv0, hv1, hv2, hv3, hrv⟩ := hcx j x hdj
      obtain ⟨u0, u1, u2, u3, hu0, hu1, hu2, hu3, hru⟩ := hcy j x hdj
      have rv := hrv.below hb
      have ru := hru.below hb
      obtain ⟨a0, c0, a1, c1, a3, c3, ss, cs, f, bs, rfl, rfl, rfl, rfl, rfl, _, _, _⟩ := mem_at hrv
      obtain ⟨b0, d0, b1, d1, b3, d3, ss', cs', f', bs', hxx, rfl, rfl, rfl, rfl, _, _, _⟩ := mem_at hru
      obtain ⟨rfl, rfl, rfl, rfl⟩ : ss = ss' ∧ cs = cs' ∧ f = f' ∧ bs = bs' := by simpa using hxx
      have hx0 := (hb.cell (p := ⟨bx, ox + j * 4, none⟩) hbx).trans hv0
      have hx1 := (hb.cell (p := ⟨bx, ox + j * 4 + 1, none⟩) hbx).trans hv1
      have hx2 := (hb.cell (p := ⟨bx, ox + j * 4 + 2, none⟩) hbx).trans hv2
      have hx3 := (hb.cell (p := ⟨bx, ox + j * 4 + 3, none⟩) hbx).trans hv3
      have hy0 := (hb.cell (p := ⟨bY, oy + j * 4, none⟩) hby).trans hu0
      have hy1 := (hb.cell (p := ⟨bY, oy + j * 4 + 1, none⟩) hby).trans hu1
      have hy2 := (hb.cell (p := ⟨bY, oy + j * 4 + 2, none⟩) hby).trans hu2
      have hy3 := (hb.cell (p := ⟨bY, oy + j * 4 + 3, none⟩) hby).trans hu3
      have zx : bx < wr.heap.size := Nat.lt_of_lt_of_le hbx hb.size
      have zy : bY < wr.heap.size := Nat.lt_of_lt_of_le hby hb.size
      have i1 : (0 : Int) ≤ (j : Int) := by omega
      have i2 : (j : Int) < (la : Int) := by omega
      have RV := hidden rv
      have RU := hidden ru
      clear hcx hcy hdj hv0 hv1 hv2 hv3 hu0 hu1 hu2 hu3 hrv hru hxx rv ru
      go_wp2_with fail
      go_region_held3 (fun w' => w'.cell? ⟨bx, ox + j * 4, none⟩ = some (.slice a0 ss.length c0) ∧ w'.cell? ⟨bx, ox + j * 4 + 1, none⟩ = some (.slice a1 cs.length c1) ∧ w'.cell? ⟨bx, ox + j * 4 + 2, none⟩ = some (.bool f) ∧ w'.cell? ⟨bx, ox + j * 4 + 3, none⟩ = some (.slice a3 bs.length c3) ∧ w'.cell? ⟨bY, oy + j * 4, none⟩ = some (.slice b0 ss.length d0) ∧ w'.cell? ⟨bY, oy + j * 4 + 1, none⟩ = some (.slice b1 cs.length d1) ∧ w'.cell? ⟨bY, oy + j * 4 + 2, none⟩ = some (.bool f) ∧ w'.cell? ⟨bY, oy + j * 4 + 3, none⟩ = some (.slice b3 bs.length d3))
        (first | (exact ⟨(hbC.cell (p := ⟨bx, ox + j * 4, none⟩) zx).trans hx0, (hbC.cell (p := ⟨bx, ox + j * 4 + 1, none⟩) zx).trans hx1, (hbC.cell (p := ⟨bx, ox + j * 4 + 2, none⟩) zx).trans hx2, (hbC.cell (p := ⟨bx, ox + j * 4 + 3, none⟩) zx).trans hx3, (hbC.cell (p := ⟨bY, oy + j * 4, none⟩) zy).trans hy0, (hbC.cell (p := ⟨bY, oy + j * 4 + 1, none⟩) zy).trans hy1, (hbC.cell (p := ⟨bY, oy + j * 4 + 2, none⟩) zy).trans hy2, (hbC.cell (p := ⟨bY, oy + j * 4 + 3, none⟩) zy).trans hy3⟩) | (exact ⟨hx0, hx1, hx2, hx3, hy0, hy1, hy2, hy3⟩) | go_keep)
        (first | (go_at_call 56; refine (eqMem_rd _ E E' _ _ _ _ _ _ f ss cs bs (by exact RV.out.drew) (by exact RU.out.drew) hil).mono ?_; rintro e wC ⟨rfl, hbC0⟩; have hbC : Below wr.heap.size wr wC := (Below.refl wr.heap.size wr).drew.trans hbC0))
      go_wp2
      go_roundw
      case rel => exact ⟨j + 1, by omega, by go_num, Below.andThen hb hbC⟩
      case measure => simp [intOf]; omega
    · go_wp2
      go_ret
      exact ⟨rfl, hb⟩

end Go.Proofs.Ytgjldmjlbhkgbaa

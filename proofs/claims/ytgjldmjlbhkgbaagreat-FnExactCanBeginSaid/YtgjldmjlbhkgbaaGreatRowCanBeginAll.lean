/-
  At every engine and number the law of CanBegin (exact) answers true, and nothing that was there has turned. No condition.
-/
import Derived.Test.YtgjldmjlbhkgbaaGreatWalkEngOkI
import Derived.Test.YtgjldmjlbhkgbaaGreatHeldLoad15
import Derived.Test.YtgjldmjlbhkgbaaGreatWalkGeo
import Derived.Test.YtgjldmjlbhkgbaaGreatWalkCmd
import Derived.Test.YtgjldmjlbhkgbaaGreatWalkArrOk2
import Derived.Test.YtgjldmjlbhkgbaaGreatOk15
import Derived.Test.YtgjldmjlbhkgbaaGreatWalkClash15
import Derived.Test.YtgjldmjlbhkgbaaGreatHeld
import Derived.Test.YtgjldmjlbhkgbaaGreatWalkSz
import Derived.ProofKit
import Derived.OpenShut
import Derived.Lib.SmallJoins
import Derived.Deep.Slices
import Derived.Deep.SlicePairs
import Derived.Test.YtgjldmjlbhkgbaaGreatWalkArr
import Derived.Test.YtgjldmjlbhkgbaaGreatRows14
import Derived.Test.YtgjldmjlbhkgbaaGreatEng15
import Derived.Test.YtgjldmjlbhkgbaaGreatRows
import Derived.WalkKit
import Derived.ShutString
import Derived.ChangeOld
import Derived.Below

/-
  The program's CanBegin walked, with hasRoom and isFree. Condition: the engine weighs at most 1048576.
-/
namespace Go.Proofs.YtgjldmjlbhkgbaaGreat
open Go.RowKit

set_option maxHeartbeats 1600000 in
theorem clos15b_any (w : World) (gn gs : Int) (Bp Be Bc : Nat) (T T2 : TypeId) (o d1 b1 k o2 d2 b2 k2 : Int) (a0 a2 : Option Addr) (c0 c2 : Nat) (zs zs2 : List Int) (r0 : tIntS.Rd w [.slice a0 zs.length c0] zs) (r2 : tIntS.Rd w [.slice a2 zs2.length c2] zs2) (hz : zs.length ≤ 2097152) (hz2 : zs2.length ≤ 2097152)
    (G : Box w Bp T #[.pointer (some ⟨Be, 0, none⟩)]) (C : Box w Bc T2 #[.int .i64 o2, .int .i64 d2, .int .i64 b2, .int .i64 k2, .slice a2 zs2.length c2]) (hE : Be < w.heap.size) (g1 : w.cell? ⟨Be, 1, none⟩ = some (.int .i64 gn)) (g2 : w.cell? ⟨Be, 2, none⟩ = some (.int .i64 gs)) :
    Calls Tryz.prog 152 #[.agg #[.int .i64 o, .int .i64 d1, .int .i64 b1, .int .i64 k, .slice a0 zs.length c0], .pointer (some ⟨Bp, 0, none⟩), .pointer (some ⟨Bc, 0, none⟩)] w fun e w' => e = .returned (.bool (metC (spanC gn gs o d1 b1 k zs) (spanC gn gs o2 d2 b2 k2 zs2))) ∧ Below w.heap.size w w' := by
  go_enter Tryz.func152, Tryz.ntmps152
  go_wp2_with fail
  refine seal_newC ?_
  intro V A B
  have G := G.below B G.lt
  have C := C.below B C.lt
  have e1 := (B.cell (p := ⟨Be, 1, none⟩) hE).trans g1
  have e2 := (B.cell (p := ⟨Be, 2, none⟩) hE).trans g2
  have k0 : V.cell? ⟨Bp, 0, none⟩ = some (.pointer (some ⟨Be, 0, none⟩)) := G.cell 0
  obtain ⟨m0, m1, m2, m3, m4⟩ := A.cells5
  obtain ⟨l0, l1, l2, l3, l4⟩ := C.cells5
  have hEv : Be < V.heap.size := Nat.lt_of_lt_of_le hE B.size
  have Q0 := hidden (ints_rd (r0.below B)).1
  have Q2 := hidden (ints_rd (r2.below B)).1
  have lA := A.lt
  have lC := C.lt
  have lG := G.lt
  clear g1 g2
  go_region_held3 (fun w' => (∀ q, w'.cell? ⟨Bp, q, none⟩ = V.cell? ⟨Bp, q, none⟩) ∧ (∀ q, w'.cell? ⟨Be, q, none⟩ = V.cell? ⟨Be, q, none⟩) ∧ (∀ q, w'.cell? ⟨Bc, q, none⟩ = V.cell? ⟨Bc, q, none⟩) ∧ (∀ q, w'.cell? ⟨w.heap.size, q, none⟩ = V.cell? ⟨w.heap.size, q, none⟩))
    (first | (exact ⟨fun q => hbC.cell (p := ⟨Bp, q, none⟩) lG, fun q => hbC.cell (p := ⟨Be, q, none⟩) hEv, fun q => hbC.cell (p := ⟨Bc, q, none⟩) lC, fun q => hbC.cell (p := ⟨w.heap.size, q, none⟩) lA⟩) | (exact ⟨fun _ => rfl, fun _ => rfl, fun _ => rfl, fun _ => rfl⟩) | go_keep)
    (first | (go_at_call 153; refine (implClash_any _ gn gs o d1 b1 k _ _ _ zs o2 d2 b2 k2 _ _ _ zs2 rfl Q0.out.draw hz rfl Q2.out.draw hz2).mono ?_; rintro e wC ⟨rfl, hbC0⟩; have hbC : Below V.heap.size V wC := (Below.refl V.heap.size V).drew.trans hbC0))
  have HB := Below.andThen B hbC
  go_wp2
  go_ret
  exact ⟨rfl, HB⟩

set_option maxHeartbeats 1600000 in
theorem cmdIndex_any (w : World) (gn gs : Int) (pc n b off cj Bp Be Bc : Nat) (T T2 : TypeId) (ws : List CmdD) (o2 d2 b2 k2 : Int) (a2 : Option Addr) (c2 : Nat) (zs2 : List Int) (hn : n ≤ ws.length) (hJ : (tCmdS 0).Rd w [.slice (some ⟨b, off, none⟩) ws.length cj] ws) (hw : wttCmdS ws ≤ 2097152) (r2 : tIntS.Rd w [.slice a2 zs2.length c2] zs2) (hz2 : zs2.length ≤ 2097152)
    (G : Box w Bp T #[.pointer (some ⟨Be, 0, none⟩)]) (hE : Be < w.heap.size) (g1 : w.cell? ⟨Be, 1, none⟩ = some (.int .i64 gn)) (g2 : w.cell? ⟨Be, 2, none⟩ = some (.int .i64 gs)) (C : Box w Bc T2 #[.int .i64 o2, .int .i64 d2, .int .i64 b2, .int .i64 k2, .slice a2 zs2.length c2]) :
    Calls Tryz.prog 201 #[.slice (some ⟨b, off, none⟩) n pc, .func (Fn.func 152) #[] #[.pointer (some ⟨Bp, 0, none⟩), .pointer (some ⟨Bc, 0, none⟩)]] w fun e w' => ((e = .returned (.int .i64 (-1)) ∧ ((ws.take n).any fun y => clashD gn gs y (o2, d2, b2, k2, zs2)) = false) ∨ ∃ j : Nat, j < n ∧ e = .returned (.int .i64 j) ∧ ((ws.take n).any fun y => clashD gn gs y (o2, d2, b2, k2, zs2)) = true) ∧ Below w.heap.size w w' := by
  have hjl : ws.length ≤ 2097152 := by unfold wttCmdS at hw; omega
  go_enter Tryz.func201, Tryz.ntmps201
  go_wp2
  go_loopw [8] (fun i wr => ∃ j : Nat, j ≤ n ∧ i = .int .i64 j ∧ ((ws.take j).any fun y => clashD gn gs y (o2, d2, b2, k2, zs2)) = false ∧ Below w.heap.size w wr) (fun i _ => n - (intOf i).toNat)
  case atStart => exact ⟨0, Nat.zero_le _, rfl, rfl, Below.refl _ _⟩
  case round =>
    obtain ⟨j, hj, rfl, ht, hb⟩ := hrel
    by_cases hlt : j < n
    · rcases cmdS_at (hJ.below hb) with h0' | ⟨bb, oo, hbo, hbl, hcs⟩
      · omega
      simp only [Option.some.injEq, Addr.mk.injEq, and_true] at hbo
      obtain ⟨rfl, rfl⟩ := hbo
      obtain ⟨o, d1, b1, k, zs, hdj⟩ : ∃ o d1 b1 k zs, ws[j]? = some (o, d1, b1, k, zs) := ⟨_, _, _, _, _, List.getElem?_eq_getElem (by omega)⟩
      have hin := cmd_inner hdj
      have hlen : zs.length ≤ 2097152 := by unfold wttCmdS at hw; simp only at hin; omega
      obtain ⟨av0, cv0, hc0, hc1, hc2, hc3, hc4, hr0⟩ := hcs j o d1 b1 k zs hdj
      have HIT := hidden (any_hit (p := fun y => clashD gn gs y (o2, d2, b2, k2, zs2)) (l := ws.take n) (j := j) (x := (o, d1, b1, k, zs)) (by rw [List.getElem?_take, if_pos hlt]; exact hdj))
      have STP := hidden (any_step (p := fun y => clashD gn gs y (o2, d2, b2, k2, zs2)) hdj)
      have HT := hidden ht
      have CALL := hidden (clos15b_any wr gn gs Bp Be Bc T T2 o d1 b1 k o2 d2 b2 k2 av0 a2 cv0 c2 zs zs2 hr0 (r2.below hb) hlen hz2 (G.below hb G.lt) (C.below hb C.lt) (Nat.lt_of_lt_of_le hE hb.size) ((hb.cell (p := ⟨Be, 1, none⟩) hE).trans g1) ((hb.cell (p := ⟨Be, 2, none⟩) hE).trans g2))
      have i1 : (0 : Int) ≤ (j : Int) := by omega
      have i2 : (j : Int) < (n : Int) := by omega
      have eq : clashD gn gs (o, d1, b1, k, zs) (o2, d2, b2, k2, zs2) = metC (spanC gn gs o d1 b1 k zs) (spanC gn gs o2 d2 b2 k2 zs2) := rfl
      clear hcs hdj hr0 hin ht
      have EQ := hidden eq
      clear eq
      cases hm : metC (spanC gn gs o d1 b1 k zs) (spanC gn gs o2 d2 b2 k2 zs2)
      · have HS := hidden (STP.out (by rw [EQ.out, hm]) HT.out)
        rw [hm] at CALL
        clear hm
        go_wp2_with fail
        refine CALL.out.mono ?_
        rintro e w1 ⟨rfl, hb1⟩
        have HB := Below.andThen hb hb1
        go_wp2
        go_roundw
        case rel => exact ⟨j + 1, by omega, by go_num, HS.out, HB⟩
        case measure => simp [intOf]; omega
      · have HS := hidden (HIT.out (by rw [EQ.out, hm]))
        rw [hm] at CALL
        clear hm
        go_wp2_with fail
        refine CALL.out.mono ?_
        rintro e w1 ⟨rfl, hb1⟩
        have HB := Below.andThen hb hb1
        go_wp2
        go_ret
        exact ⟨.inr ⟨j, hlt, rfl, HS.out⟩, HB⟩
    · obtain rfl : j = n := by omega
      have HT := hidden ht
      clear ht
      go_wp2
      go_ret
      exact ⟨.inl ⟨rfl, HT.out⟩, hb⟩

theorem cmdHas_any (w : World) (gn gs : Int) (pc n b off cj Bp Be Bc : Nat) (T T2 : TypeId) (ws : List CmdD) (o2 d2 b2 k2 : Int) (a2 : Option Addr) (c2 : Nat) (zs2 : List Int) (hn : n ≤ ws.length) (hJ : (tCmdS 0).Rd w [.slice (some ⟨b, off, none⟩) ws.length cj] ws) (hw : wttCmdS ws ≤ 2097152) (r2 : tIntS.Rd w [.slice a2 zs2.length c2] zs2) (hz2 : zs2.length ≤ 2097152)
    (G : Box w Bp T #[.pointer (some ⟨Be, 0, none⟩)]) (hE : Be < w.heap.size) (g1 : w.cell? ⟨Be, 1, none⟩ = some (.int .i64 gn)) (g2 : w.cell? ⟨Be, 2, none⟩ = some (.int .i64 gs)) (C : Box w Bc T2 #[.int .i64 o2, .int .i64 d2, .int .i64 b2, .int .i64 k2, .slice a2 zs2.length c2]) :
    Calls Tryz.prog 154 #[.slice (some ⟨b, off, none⟩) n pc, .func (Fn.func 152) #[] #[.pointer (some ⟨Bp, 0, none⟩), .pointer (some ⟨Bc, 0, none⟩)]] w fun e w' => e = .returned (.bool ((ws.take n).any fun y => clashD gn gs y (o2, d2, b2, k2, zs2))) ∧ Below w.heap.size w w' := by
  go_enter Tryz.func154, Tryz.ntmps154
  go_wp2_with fail
  refine (cmdIndex_any _ gn gs pc n b off cj Bp Be Bc T T2 ws o2 d2 b2 k2 _ _ zs2 hn hJ hw r2 hz2 G hE g1 g2 C).mono ?_
  rintro e w1 ⟨⟨rfl, h⟩ | ⟨j, hj, rfl, h⟩, hs⟩
  · have H := hidden h
    clear h
    go_wp2
    go_ret
    exact ⟨ret_bool (by rw [H.out]), hs⟩
  · have H := hidden h
    have j0 : (0 : Int) ≤ (j : Int) := by omega
    clear h
    go_wp2
    go_ret
    exact ⟨ret_bool (by rw [H.out]), hs⟩

set_option linter.unusedSimpArgs false in
set_option maxRecDepth 20000 in
theorem hasRoom_any (w : World) (B : Nat) (aj aa au : Option Addr) (nj cj na ca nu cu : Nat) (h14 : w.cell? ⟨B, 14, none⟩ = some (.slice aj nj cj)) (h15 : w.cell? ⟨B, 15, none⟩ = some (.slice aa na ca)) (h16 : w.cell? ⟨B, 16, none⟩ = some (.slice au nu cu)) (hj : nj ≤ 1048576) (ha : na ≤ 1048576) (hu : nu ≤ 1048576) :
    Calls Tryz.prog 87 #[.pointer (some ⟨B, 0, none⟩)] w fun e w' => e = .returned (.bool (decide (nj < 4) && (decide (na + nj < 8) && decide (nu + nj < 400)))) ∧ w' = w := by
  go_enter Tryz.func87, Tryz.ntmps87
  by_cases q1 : nj < 4
  · by_cases q2 : na + nj < 8
    · have e : Hid (∀ b : Bool, (decide (nj < 4) && (decide (na + nj < 8) && b)) = b) := fun b => by simp [q1, q2]
      have e2 : Hid (decide ((nu : Int) + (nj : Int) < 400) = decide (nu + nj < 400)) := by unfold Hid; rw [decide_eq_decide]; omega
      go_wp2
      go_ret
      exact ⟨ret_bool (by rw [e.out, e2.out]), rfl⟩
    · go_wp2
      go_ret
      exact ⟨ret_bool (by simp [q1, q2]), rfl⟩
  · go_wp2
    go_ret
    exact ⟨ret_bool (by simp [q1]), rfl⟩

set_option maxRecDepth 20000 in
set_option maxHeartbeats 3200000 in
theorem isFree_any (w : World) (B : Nat) (T : TypeId) (x : ArrN) (vm vd va vt : Value) (aw aj : Option Addr) (cw cj : Nat) (ws : List CmdD) (js : List JobD) (m : Nat) (hm : m < ws.length) (X : Box w B T (engC x vm vd (.slice aw ws.length cw) (.slice aj js.length cj) va vt)) (hW : (tCmdS 0).Rd w [.slice aw ws.length cw] ws) (hJ : (tJobS 0).Rd w [.slice aj js.length cj] js) (hw : wttCmdS ws + wttJobS js ≤ 1048576) :
    Calls Tryz.prog 88 #[.pointer (some ⟨B, 0, none⟩), .int .i64 m] w fun e w' => ∃ c, ws[m]? = some c ∧ e = .returned (.bool (freeD x.n x.s js ws m c)) ∧ Below w.heap.size w w' := by
  have hjl : js.length ≤ 1048576 := by unfold wttJobS at hw; omega
  have hwl : ws.length ≤ 1048576 := by unfold wttCmdS at hw; omega
  obtain ⟨_, hcj, _⟩ := row_length hJ
  obtain ⟨_, hcw, _⟩ := row_length hW
  obtain ⟨bj, oj, hj⟩ : ∃ b off, aj = some ⟨b, off, none⟩ ∨ js.length = 0 := by
    rcases jobS_at hJ with h | ⟨b, off, h, _⟩
    · exact ⟨0, 0, .inr h⟩
    · exact ⟨b, off, .inl h⟩
  rcases cmdS_at hW with h0' | ⟨b, off, rfl, hbl, hcs⟩
  · omega
  obtain ⟨o, d1, b1, k, zs, hdj⟩ : ∃ o d1 b1 k zs, ws[m]? = some (o, d1, b1, k, zs) := ⟨_, _, _, _, _, List.getElem?_eq_getElem (by omega)⟩
  have hin := cmd_inner hdj
  have hlen : zs.length ≤ 2097152 := by unfold wttCmdS at hw; simp only at hin; omega
  obtain ⟨av, cv, c0, c1, c2, c3, c4, r0⟩ := hcs m o d1 b1 k zs hdj
  have hBl := X.lt
  have x1 : w.cell? ⟨B, 1, none⟩ = some (.int .i64 x.n) := X.cell 1
  have x2 : w.cell? ⟨B, 2, none⟩ = some (.int .i64 x.s) := X.cell 2
  have x13 : w.cell? ⟨B, 13, none⟩ = some (.slice (some ⟨b, off, none⟩) ws.length cw) := X.cell 13
  have i1 : (0 : Int) ≤ (m : Int) := by omega
  have i2 : (m : Int) < (ws.length : Int) := by omega
  have i3 : (m : Int) ≤ (cw : Int) := by omega
  have HD := hidden hdj
  clear hcs hdj hin
  go_enter Tryz.func88, Tryz.ntmps88
  go_wp2_with fail
  refine seal_new2C ?_
  intro V PX C BV
  have HJ2 : (tJobS 0).Rd w [.slice (some ⟨bj, oj, none⟩) js.length cj] js := by
    rcases hj with rfl | h0
    · exact hJ
    · have e : js = [] := List.eq_nil_of_length_eq_zero h0
      subst e
      exact ⟨[], some ⟨bj, oj, none⟩, cj, rfl, Nat.zero_le _, (row_length hJ).2.2, .inl ⟨rfl, rfl, fun h => by cases h⟩⟩
  have lP := PX.lt
  have lC := C.lt
  have hBv : B < V.heap.size := Nat.lt_of_lt_of_le hBl BV.size
  have y0 : V.cell? ⟨w.heap.size, 0, none⟩ = some (.pointer (some ⟨B, 0, none⟩)) := PX.cell 0
  have y1 := (BV.cell (p := ⟨B, 1, none⟩) hBl).trans x1
  have y2 := (BV.cell (p := ⟨B, 2, none⟩) hBl).trans x2
  have y13 := (BV.cell (p := ⟨B, 13, none⟩) hBl).trans x13
  obtain ⟨l0, l1, l2, l3, l4⟩ := C.cells5
  have HX := hidden X
  clear x1 x2 x13 c0 c1 c2 c3 c4 X
  refine wp_region_held_drew (S := (fun w' => (∀ q, w'.cell? ⟨w.heap.size, q, none⟩ = V.cell? ⟨w.heap.size, q, none⟩) ∧ (∀ q, w'.cell? ⟨B, q, none⟩ = V.cell? ⟨B, q, none⟩) ∧ (∀ q, w'.cell? ⟨w.heap.size + 1, q, none⟩ = V.cell? ⟨w.heap.size + 1, q, none⟩))) (by kernel_rfl) ⟨fun _ => rfl, fun _ => rfl, fun _ => rfl⟩ (fun hHeld => ?_)
  refine held_t 0 hHeld ?_
  refine held_t 1 hHeld ?_
  refine held_t 2 hHeld ?_
  refine held_t 3 hHeld ?_
  refine held_t 4 hHeld ?_
  refine held_t 5 hHeld ?_
  refine held_t 6 hHeld ?_
  refine held_one (i := 7) (by kernel_rfl) rfl (by kernel_rfl) (fun K hK => ?_)
  go_simp
  refine (jobs_any _ B T _ aj js.length cj bj oj ((HX.out.below BV hBl).below ((Below.refl _ _).drew) hBv) rfl hj hjl hcj).mono ?_
  rintro e w1 ⟨pb, pc, rfl, hP, hpc, b1'⟩
  have q1 : Below V.heap.size V w1 := (Below.refl V.heap.size V).drew.trans b1'
  go_wp2_with fail
  clear hHeld
  refine hK.out _ _ ⟨fun q => q1.cell (p := ⟨w.heap.size, q, none⟩) lP, fun q => q1.cell (p := ⟨B, q, none⟩) hBv, fun q => q1.cell (p := ⟨w.heap.size + 1, q, none⟩) lC⟩ (fun hHeld => ?_)
  clear hK K
  refine held_one (i := 8) (by kernel_rfl) rfl (by kernel_rfl) (fun K hK => ?_)
  go_simp
  have q1w := Below.andThen BV q1
  refine (clashesAny_any _ x.n x.s pb pc js.length bj oj cj js o d1 b1 k _ _ zs hP (Nat.le_refl _) (HJ2.below q1w) (by omega) (r0.below q1w) hlen).mono ?_
  rintro e w2 ⟨he, b2'⟩
  rw [List.take_length] at he
  have q2 := Below.andThen q1 b2'
  have HB2 := hidden (Below.andThen BV q2)
  cases hC : js.any fun y => clashD x.n x.s (jobC y) (o, d1, b1, k, zs)
  · rw [hC] at he
    subst he
    go_wp2_with fail
    clear hHeld
    refine hK.out _ _ ⟨fun q => q2.cell (p := ⟨w.heap.size, q, none⟩) lP, fun q => q2.cell (p := ⟨B, q, none⟩) hBv, fun q => q2.cell (p := ⟨w.heap.size + 1, q, none⟩) lC⟩ (fun hHeld => ?_)
    clear hK K
    refine held_t 9 hHeld ?_
    refine held_t 10 hHeld ?_
    refine held_t 11 hHeld ?_
    refine held_t 12 hHeld ?_
    refine held_t 13 hHeld ?_
    refine held_t 14 hHeld ?_
    refine held_t 15 hHeld ?_
    refine held_t 16 hHeld ?_
    refine held_t 17 hHeld ?_
    refine held_one (i := 18) (by kernel_rfl) rfl (by kernel_rfl) (fun K hK => ?_)
    go_simp
    refine (cmdHas_any _ x.n x.s _ m b off cw w.heap.size B (w.heap.size + 1) _ _ ws o d1 b1 k _ _ zs (by omega) (hW.below HB2.out) (by omega) (r0.below HB2.out) hlen (PX.below q2 lP) (Nat.lt_of_lt_of_le hBv q2.size) ((q2.cell (p := ⟨B, 1, none⟩) hBv).trans y1) ((q2.cell (p := ⟨B, 2, none⟩) hBv).trans y2) (C.below q2 lC)).mono ?_
    rintro e w3 ⟨rfl, b3'⟩
    have q3 := Below.andThen q2 b3'
    have HB3 := hidden (Below.andThen BV q3)
    go_wp2_with fail
    clear hHeld
    refine hK.out _ _ ⟨fun q => q3.cell (p := ⟨w.heap.size, q, none⟩) lP, fun q => q3.cell (p := ⟨B, q, none⟩) hBv, fun q => q3.cell (p := ⟨w.heap.size + 1, q, none⟩) lC⟩ (fun hHeld => ?_)
    clear hK K
    have HR : Hid (freeD x.n x.s js ws m (o, d1, b1, k, zs) = !((ws.take m).any fun y => clashD x.n x.s y (o, d1, b1, k, zs))) := by unfold Hid freeD; rw [hC]; rfl
    generalize ((ws.take m).any fun y => clashD x.n x.s y (o, d1, b1, k, zs)) = A at HR ⊢
    refine held_t 19 hHeld ?_
    refine held_t 20 hHeld ?_
    refine held_t 21 hHeld ?_
    refine wpAnyH_done (by kernel_rfl) ?_ _
    clear hHeld hC
    go_wp2
    go_ret
    exact ⟨_, HD.out, ret_bool HR.out.symm, HB3.out⟩
  · rw [hC] at he
    subst he
    go_wp2_with fail
    clear hHeld
    refine hK.out _ _ ⟨fun q => q2.cell (p := ⟨w.heap.size, q, none⟩) lP, fun q => q2.cell (p := ⟨B, q, none⟩) hBv, fun q => q2.cell (p := ⟨w.heap.size + 1, q, none⟩) lC⟩ (fun hHeld => ?_)
    clear hK K
    have HR : Hid (freeD x.n x.s js ws m (o, d1, b1, k, zs) = false) := by unfold Hid freeD; rw [hC]; rfl
    refine held_t 9 hHeld ?_
    refine held_t 10 hHeld ?_
    refine held_p 11 hHeld ?_
    refine held_p 12 hHeld ?_
    refine held_p 13 hHeld ?_
    refine held_p 14 hHeld ?_
    refine held_p 15 hHeld ?_
    refine held_p 16 hHeld ?_
    refine held_p 17 hHeld ?_
    refine held_p 18 hHeld ?_
    refine held_p 19 hHeld ?_
    refine held_t 20 hHeld ?_
    refine held_t 21 hHeld ?_
    refine wpAnyH_done (by kernel_rfl) ?_ _
    clear hHeld hC
    go_wp2
    go_ret
    exact ⟨_, HD.out, ret_bool HR.out.symm, HB2.out⟩

set_option maxRecDepth 20000 in
set_option maxHeartbeats 3200000 in
theorem implCanBegin_any (w : World) (cs : Array Value) (e : EngD) (k : Int) (h : EngRd w cs e) (hw : wtEng e ≤ 1048576) :
    Calls Tryz.prog 30 #[.agg cs, .int .i64 k] w fun e' w' => e' = .returned (.bool (canB e k)) ∧ Below w.heap.size w w' := by
  obtain ⟨x, ms, ds, ws, js, an, ts⟩ := e
  obtain ⟨am, cm, ad, cd, aw, cw, aj, cj, aa, ca, au, cu, rfl, r0, r1, r2, r3, r4, r5⟩ := h.parts
  have HT : wtArr ms ds + wttCmdS ws + wttJobS js + wttAnsS an + wttTurnS ts ≤ 1048576 := hw
  have hwl : ws.length ≤ 1048576 := by have : wttCmdS ws = ws.length + sumL (ws.map fun x => x.2.2.2.2.length) := rfl; omega
  have hjl : js.length ≤ 1048576 := by have : wttJobS js = js.length + sumL (js.map wJob) := rfl; omega
  have hal : an.length ≤ 1048576 := by have : wttAnsS an = an.length + sumL (an.map fun x => x.2.2.length) := rfl; omega
  have htl : ts.length ≤ 1048576 := by have : wttTurnS ts = ts.length + sumL (ts.map wTurn) := rfl; omega
  have HE : Hid (canB ⟨x, ms, ds, ws, js, an, ts⟩ k = (engB ⟨x, ms, ds, ws, js, an, ts⟩ && (inB k 0 ((ws.length : Int) - 1) && ((decide (js.length < 4) && (decide (an.length + js.length < 8) && decide (ts.length + js.length < 400))) && freeB ⟨x, ms, ds, ws, js, an, ts⟩ k.toNat)))) := rfl
  generalize canB ⟨x, ms, ds, ws, js, an, ts⟩ k = R at HE ⊢
  have SL : (Tryz.prog.info? 35).map (·.size) = some (engC x (.slice am ms.length cm) (.slice ad ds.length cd) (.slice aw ws.length cw) (.slice aj js.length cj) (.slice aa an.length ca) (.slice au ts.length cu)).size := Tryz.sizeEng
  have HH := hidden h
  clear h
  go_enter Tryz.func30, Tryz.ntmps30
  go_wp2_with (first | (refine wpList_load_box rfl _ _ rfl rfl (Box.new _ _ _) _ Tryz.underlying35 rfl SL ?_) | fail)
  refine seal_new ?_
  intro V A B
  refine (implEngOk_any _ _ _ (HH.out.below B) hw).mono ?_
  rintro e1 w1 ⟨rfl, b⟩
  have A := A.below b A.lt
  have B := Below.andThen B b
  have k13 : w1.cell? ⟨w.heap.size, 13, none⟩ = some (.slice aw ws.length cw) := A.cell 13
  clear b SL
  cases hE : engB ⟨x, ms, ds, ws, js, an, ts⟩
  · have HR : Hid (R = false) := by unfold Hid; rw [HE.out, hE]; rfl
    clear hE
    go_wp2
    go_ret
    exact ⟨ret_bool HR.out.symm, B⟩
  rw [hE] at HE
  clear hE
  have hwr : IntKind.i64.wrap ((ws.length : Int) - 1) = (ws.length : Int) - 1 := IntWalk.i64_in _ (by omega)
  go_wp2_with fail
  refine (within_any _ _ _ _).mono ?_
  rintro e2 w2 ⟨rfl, rfl⟩
  cases hI : inB k 0 ((ws.length : Int) - 1)
  · have HR : Hid (R = false) := by unfold Hid; rw [HE.out, hI]; rfl
    clear hI
    go_wp2
    go_ret
    exact ⟨ret_bool HR.out.symm, B⟩
  rw [hI] at HE
  rw [inB_iff] at hI
  obtain ⟨m, rfl⟩ : ∃ m : Nat, k = (m : Int) := ⟨k.toNat, by omega⟩
  have hm : m < ws.length := by omega
  clear hI
  go_wp2_with fail
  refine (hasRoom_any _ _ _ _ _ _ _ _ _ _ _ (A.cell 14) (A.cell 15) (A.cell 16) hjl hal htl).mono ?_
  rintro e3 w3 ⟨rfl, rfl⟩
  cases hF : (decide (js.length < 4) && (decide (an.length + js.length < 8) && decide (ts.length + js.length < 400)))
  · have HR : Hid (R = false) := by unfold Hid; rw [HE.out, hF]; simp
    clear hF
    go_wp2
    go_ret
    exact ⟨ret_bool HR.out.symm, B⟩
  rw [hF] at HE
  clear hF
  go_wp2_with fail
  refine (isFree_any _ _ _ x _ _ _ _ aw aj cw cj ws js m hm A (r2.below B) (r3.below B) (by omega)).mono ?_
  rintro e4 w4 ⟨c, hc, rfl, b⟩
  have HR : Hid (R = freeD x.n x.s js ws m c) := by
    unfold Hid
    have hf : freeB ⟨x, ms, ds, ws, js, an, ts⟩ m = freeD x.n x.s js ws m c := freeB_eq hc
    rw [HE.out, Int.toNat_natCast, hf]
    rfl
  have B := Below.andThen B b
  clear HE hc
  go_wp2
  go_ret
  exact ⟨ret_bool HR.out.symm, B⟩

end Go.Proofs.YtgjldmjlbhkgbaaGreat

/-
  The walks of the specification's Blocks, ParityOf, DiskOf, StripeOf, IndexOf and BlockAt. No condition.
-/
namespace Go.Proofs.YtgjldmjlbhkgbaaGreat
open Go.RowKit

theorem sStripe_of {n s t : Int} : stripeB n s t = true ↔ geoB n s = true ∧ 0 ≤ t ∧ t ≤ s - 1 := by unfold stripeB; rw [Bool.and_eq_true, inB_iff]

set_option maxHeartbeats 800000 in
theorem specBlocks_any (w : World) (n s : Int) : Calls Tryz.prog 165 #[.agg #[.int .i64 n, .int .i64 s]] w fun e w' => e = .returned (.int .i64 (blocksN n s)) ∧ Below w.heap.size w w' := by
  have hA := new_below w (.cells #[.int .i64 n, .int .i64 s] 25)
  have X := Gbox.new w 25 n s
  obtain ⟨k0, k1⟩ := X.cells
  have zA := X.lt
  go_enter Tryz.func165, Tryz.ntmps165
  go_wp2_with fail
  refine (specGeoOk_any _ _ _).mono ?_
  rintro e w1 ⟨rfl, b1⟩
  have X1 := X.below b1 zA
  obtain ⟨p0, p1⟩ := X1.cells
  have B1 := Below.andThen hA b1
  clear k0 k1 X b1 hA zA
  by_cases hg : geoB n s = true
  · obtain ⟨h1, h2, h3, h4⟩ := geoB_iff.1 hg
    have hm := geoB_blocks hg
    have HB := hidden (blocksN_of hg)
    have gw : IntKind.i64.wrap (s * (n - 1)) = s * (n - 1) := IntWalk.i64_in _ (by omega)
    go_wp2
    go_ret
    exact ⟨ret_int HB.out.symm, B1⟩
  · have hg : geoB n s = false := by simpa using hg
    go_wp2
    go_ret
    exact ⟨ret_int (blocksN_not hg).symm, B1⟩

set_option maxHeartbeats 800000 in
theorem l3Stripe_any (w : World) (n s t : Int) : Calls Tryz.prog 280 #[.agg #[.int .i64 n, .int .i64 s], .int .i64 t] w fun e w' => e = .returned (.bool (stripeB n s t)) ∧ Below w.heap.size w w' := by
  have hA := new_below w (.cells #[.int .i64 n, .int .i64 s] 25)
  have X := Gbox.new w 25 n s
  obtain ⟨k0, k1⟩ := X.cells
  have zA := X.lt
  go_enter Tryz.func280, Tryz.ntmps280
  go_wp2_with fail
  refine (specGeoOk_any _ _ _).mono ?_
  rintro e w1 ⟨rfl, b1⟩
  have X1 := X.below b1 zA
  obtain ⟨p0, p1⟩ := X1.cells
  have B1 := Below.andThen hA b1
  clear k0 k1 X b1 hA zA
  by_cases hg : geoB n s = true
  · obtain ⟨h1, h2, h3, h4⟩ := geoB_iff.1 hg
    go_wp2_with fail
    refine (l1In_any _ _ _ _).mono ?_
    rintro e w2 ⟨rfl, rfl⟩
    go_wp2
    go_ret
    exact ⟨ret_bool (by unfold stripeB; rw [hg]; rfl), B1⟩
  · have hg : geoB n s = false := by simpa using hg
    go_wp2
    go_ret
    exact ⟨ret_bool (by unfold stripeB; rw [hg]; rfl), B1⟩

set_option maxHeartbeats 800000 in
theorem specParityOf_any (w : World) (n s t : Int) : Calls Tryz.prog 278 #[.agg #[.int .i64 n, .int .i64 s], .int .i64 t] w fun e w' => e = .returned (.int .i64 (parN n s t)) ∧ Below w.heap.size w w' := by
  have hA := new_below w (.cells #[.int .i64 n, .int .i64 s] 25)
  have X := Gbox.new w 25 n s
  obtain ⟨k0, k1⟩ := X.cells
  have zA := X.lt
  go_enter Tryz.func278, Tryz.ntmps278
  go_wp2_with fail
  refine (l3Stripe_any _ _ _ _).mono ?_
  rintro e w1 ⟨rfl, b1⟩
  have X1 := X.below b1 zA
  obtain ⟨p0, p1⟩ := X1.cells
  have B1 := Below.andThen hA b1
  clear k0 k1 X b1 hA zA
  by_cases hg : stripeB n s t = true
  · obtain ⟨hg1, h1, h2⟩ := sStripe_of.1 hg
    obtain ⟨g1, g2, g3, g4⟩ := geoB_iff.1 hg1
    have hm1 : 0 ≤ t % n := Int.emod_nonneg _ (by omega)
    have hm2 : t % n < n := Int.emod_lt_of_pos _ (by omega)
    have HB : Hid (parN n s t = n - 1 - t % n) := by unfold Hid parN; rw [if_pos hg]
    go_wp2_with fail
    go_quiet (fail)
    go_wp2
    go_ret
    exact ⟨ret_int (by rw [HB.out]), Below.andSame B1 ((Same.refl _).drewN _)⟩
  · have hg' : stripeB n s t = false := by simpa using hg
    go_wp2
    go_ret
    exact ⟨ret_int (by unfold parN; rw [if_neg hg]), B1⟩

set_option maxHeartbeats 1600000 in
theorem specDiskOf_any (w : World) (n s t i : Int) : Calls Tryz.prog 275 #[.agg #[.int .i64 n, .int .i64 s], .int .i64 t, .int .i64 i] w fun e w' => e = .returned (.int .i64 (diskN n s t i)) ∧ Below w.heap.size w w' := by
  have hA := new_below w (.cells #[.int .i64 n, .int .i64 s] 25)
  have X := Gbox.new w 25 n s
  obtain ⟨k0, k1⟩ := X.cells
  have zA := X.lt
  go_enter Tryz.func275, Tryz.ntmps275
  go_wp2_with fail
  refine (l3Stripe_any _ _ _ _).mono ?_
  rintro e w1 ⟨rfl, b1⟩
  have X1 := X.below b1 zA
  have B1 := Below.andThen hA b1
  clear k0 k1 X b1 hA zA
  obtain ⟨k0, k1⟩ := X1.cells
  by_cases hs : stripeB n s t = true
  · obtain ⟨hg, h1, h2⟩ := sStripe_of.1 hs
    obtain ⟨g1, g2, g3, g4⟩ := geoB_iff.1 hg
    go_wp2_with fail
    refine (l1In_any _ _ _ _).mono ?_
    rintro e w2 ⟨rfl, rfl⟩
    by_cases hi : inB i 0 (n - 2) = true
    · obtain ⟨h3, h4⟩ := inB_iff.1 hi
      have hm1 : 0 ≤ t % n := Int.emod_nonneg _ (by omega)
      have hm2 : t % n < n := Int.emod_lt_of_pos _ (by omega)
      have HP : parN n s t = n - 1 - t % n := by unfold parN; rw [if_pos hs]
      have HPar : ∀ W : World, Calls Tryz.prog 278 #[.agg #[.int .i64 n, .int .i64 s], .int .i64 t] W fun e w' => e = .returned (.int .i64 (n - 1 - t % n)) ∧ Below W.heap.size W w' := by
        intro W
        rw [← HP]
        exact specParityOf_any _ _ _ _
      have HD : Hid (diskN n s t i = (n - 1 - t % n + 1 + i) % n) := by unfold Hid diskN spotB; rw [hs, hi]; rfl
      clear HP
      generalize t % n = r at hm1 hm2 HPar HD
      have e1 : ¬ n = 0 := by omega
      have e2 : (n - 1 - r + 1 + i).tmod n = (n - 1 - r + 1 + i) % n := Int.tmod_eq_emod_of_nonneg (by omega)
      have e3 : IntKind.i64.wrap (n - 1 - r + 1) = n - 1 - r + 1 := IntWalk.i64_in _ (by omega)
      have e4 : IntKind.i64.wrap (n - 1 - r + 1 + i) = n - 1 - r + 1 + i := IntWalk.i64_in _ (by omega)
      go_wp2_with fail
      go_region_held3 (fun w' => w'.cell? ⟨w.heap.size, 0, none⟩ = some (.int .i64 n) ∧ w'.cell? ⟨w.heap.size, 1, none⟩ = some (.int .i64 s))
        (first | (exact X2.cells) | (exact X1.cells) | go_keep)
        (first
          | (go_at_call 278; refine (HPar _).mono ?_; rintro e w2 ⟨rfl, b2⟩; have B2 := Below.andThen B1.drew b2; have X2 := X1.drew.below b2 X1.lt))
      go_wp2
      go_ret
      exact ⟨ret_int HD.out.symm, B2⟩
    · have hi' : inB i 0 (n - 2) = false := by simpa using hi
      go_wp2
      go_ret
      exact ⟨ret_int (by unfold diskN spotB; rw [hs, hi']; rfl), B1⟩
  · have hs' : stripeB n s t = false := by simpa using hs
    go_wp2
    go_ret
    exact ⟨ret_int (by unfold diskN spotB; rw [hs']; rfl), B1⟩


theorem blockB_geo' {n s b : Int} (h : blockB n s b = true) : geoB n s = true ∧ 0 ≤ b ∧ b < blocksN n s := by
  unfold blockB at h
  rw [inB_iff] at h
  by_cases hg : geoB n s = true
  · exact ⟨hg, by omega, by omega⟩
  · rw [blocksN_not (by simpa using hg)] at h
    omega

set_option maxHeartbeats 1600000 in
theorem specStripeOf_any (w : World) (n s b : Int) : Calls Tryz.prog 248 #[.agg #[.int .i64 n, .int .i64 s], .int .i64 b] w fun e w' => e = .returned (.int .i64 (stripeN n s b)) ∧ Below w.heap.size w w' := by
  have hA := new_below w (.cells #[.int .i64 n, .int .i64 s] 25)
  have X := Gbox.new w 25 n s
  obtain ⟨k0, k1⟩ := X.cells
  have zA := X.lt
  have hr := blocksN_range n s
  have HR : Hid (inB b 0 (blocksN n s - 1) = blockB n s b) := rfl
  go_enter Tryz.func248, Tryz.ntmps248
  go_wp2_with fail
  refine (specBlocks_any _ _ _).mono ?_
  rintro e w1 ⟨rfl, b1⟩
  have X1 := X.below b1 zA
  have B1 := Below.andThen hA b1
  clear k0 k1 X b1 hA zA
  obtain ⟨k0, k1⟩ := X1.cells
  go_wp2_with fail
  refine (l1In_any _ _ _ _).mono ?_
  rintro e w2 ⟨rfl, rfl⟩
  rw [HR.out]
  by_cases hb : blockB n s b = true
  · obtain ⟨hg, h0, h1⟩ := blockB_geo' hb
    obtain ⟨g1, g2, g3, g4⟩ := geoB_iff.1 hg
    have HS : Hid (stripeN n s b = b / (n - 1)) := by unfold Hid stripeN; rw [if_pos hb]
    have d1 : 0 ≤ b / (n - 1) := Int.ediv_nonneg (by omega) (by omega)
    have d2 : b / (n - 1) ≤ b := Int.ediv_le_self _ (by omega)
    have e1 : ¬ n - 1 = 0 := by omega
    have e2 : IntKind.i64.wrap (b.tdiv (n - 1)) = b / (n - 1) := by rw [Int.tdiv_eq_ediv_of_nonneg h0]; exact IntWalk.i64_in _ (by omega)
    go_wp2
    go_ret
    exact ⟨ret_int HS.out.symm, B1⟩
  · have hb' : blockB n s b = false := by simpa using hb
    go_wp2
    go_ret
    exact ⟨ret_int (by unfold stripeN; rw [if_neg hb]), B1⟩

set_option maxHeartbeats 1600000 in
theorem specIndexOf_any (w : World) (n s b : Int) : Calls Tryz.prog 257 #[.agg #[.int .i64 n, .int .i64 s], .int .i64 b] w fun e w' => e = .returned (.int .i64 (indexN n s b)) ∧ Below w.heap.size w w' := by
  have hA := new_below w (.cells #[.int .i64 n, .int .i64 s] 25)
  have X := Gbox.new w 25 n s
  obtain ⟨k0, k1⟩ := X.cells
  have zA := X.lt
  have hr := blocksN_range n s
  have HR : Hid (inB b 0 (blocksN n s - 1) = blockB n s b) := rfl
  go_enter Tryz.func257, Tryz.ntmps257
  go_wp2_with fail
  refine (specBlocks_any _ _ _).mono ?_
  rintro e w1 ⟨rfl, b1⟩
  have X1 := X.below b1 zA
  have B1 := Below.andThen hA b1
  clear k0 k1 X b1 hA zA
  obtain ⟨k0, k1⟩ := X1.cells
  go_wp2_with fail
  refine (l1In_any _ _ _ _).mono ?_
  rintro e w2 ⟨rfl, rfl⟩
  rw [HR.out]
  by_cases hb : blockB n s b = true
  · obtain ⟨hg, h0, h1⟩ := blockB_geo' hb
    obtain ⟨g1, g2, g3, g4⟩ := geoB_iff.1 hg
    have HS : Hid (indexN n s b = b % (n - 1)) := by unfold Hid indexN; rw [if_pos hb]
    have e1 : ¬ n - 1 = 0 := by omega
    have e3 : b.tmod (n - 1) = b % (n - 1) := Int.tmod_eq_emod_of_nonneg h0
    go_wp2
    go_ret
    exact ⟨ret_int HS.out.symm, B1⟩
  · have hb' : blockB n s b = false := by simpa using hb
    go_wp2
    go_ret
    exact ⟨ret_int (by unfold indexN; rw [if_neg hb]), B1⟩

end Go.Proofs.YtgjldmjlbhkgbaaGreat

/-
  What the specification answers of a command: how many blocks it has, whether its size is right, its code, its span, and whether two clash. Condition: at most 2097152 words each.
-/
namespace Go.Proofs.YtgjldmjlbhkgbaaGreat
open Go.RowKit

set_option maxHeartbeats 1600000 in
theorem specLen13_any (w : World) (o d b k : Int) (a : Option Addr) (n cap : Nat) (zs : List Int) (hz : zs.length = n) (hr : Reads .i64 w a zs) (hn : n ≤ 2097152) :
    Calls Tryz.prog 188 #[.agg #[.int .i64 o, .int .i64 d, .int .i64 b, .int .i64 k, .slice a n cap]] w fun e w' => e = .returned (.int .i64 (lenC o k zs)) ∧ Below w.heap.size w w' := by
  have hA := new_below w (.cells #[.int .i64 o, .int .i64 d, .int .i64 b, .int .i64 k, .slice a n cap] 38)
  have hr' := hr.below hA
  subst hz
  by_cases h1 : o = 1
  · subst h1
    go_enter Tryz.func188, Tryz.ntmps188
    go_wp2
    go_ret
    exact ⟨ret_int (len1 (.inl rfl)).symm, hA⟩
  · skip
    by_cases h6 : o = 6
    · subst h6
      go_enter Tryz.func188, Tryz.ntmps188
      go_wp2
      go_ret
      exact ⟨ret_int (len1 (.inr rfl)).symm, hA⟩
    · skip
      by_cases h2 : o = 2
      · subst h2
        go_enter Tryz.func188, Tryz.ntmps188
        go_wp2
        go_ret
        exact ⟨ret_int (len2 (.inl rfl)).symm, hA⟩
      · skip
        by_cases h3 : o = 3
        · subst h3
          go_enter Tryz.func188, Tryz.ntmps188
          go_wp2
          go_ret
          exact ⟨ret_int (len2 (.inr rfl)).symm, hA⟩
        · skip
          by_cases h5 : o = 5
          · subst h5
            go_enter Tryz.func188, Tryz.ntmps188
            go_wp2
            go_ret
            exact ⟨ret_int (len5).symm, hA⟩
          · skip
            have hl := len0 (k := k) (zs := zs) (by omega : ¬ (o = 1 ∨ o = 6)) (by omega : ¬ (o = 2 ∨ o = 3)) h5
            go_enter Tryz.func188, Tryz.ntmps188
            go_wp2
            go_ret
            exact ⟨ret_int hl.symm, hA⟩

set_option maxHeartbeats 1600000 in
theorem specSize13_any (w : World) (o d b k : Int) (a : Option Addr) (n cap : Nat) (zs : List Int) (hz : zs.length = n) (hr : Reads .i64 w a zs) (hn : n ≤ 2097152) :
    Calls Tryz.prog 187 #[.agg #[.int .i64 o, .int .i64 d, .int .i64 b, .int .i64 k, .slice a n cap]] w fun e w' => e = .returned (.bool (sizeC o k zs)) ∧ Below w.heap.size w w' := by
  have hA := new_below w (.cells #[.int .i64 o, .int .i64 d, .int .i64 b, .int .i64 k, .slice a n cap] 38)
  have hr' := hr.below hA
  subst hz
  by_cases h1 : o = 1
  · subst h1
    go_enter Tryz.func187, Tryz.ntmps187
    go_wp2_with fail
    refine (l1In_any _ _ _ _).mono ?_
    rintro e w1 ⟨rfl, rfl⟩
    go_wp2
    go_ret
    exact ⟨ret_bool (size1 (.inl rfl)).symm, hA⟩
  · skip
    by_cases h6 : o = 6
    · subst h6
      go_enter Tryz.func187, Tryz.ntmps187
      go_wp2_with fail
      refine (l1In_any _ _ _ _).mono ?_
      rintro e w1 ⟨rfl, rfl⟩
      go_wp2
      go_ret
      exact ⟨ret_bool (size1 (.inr rfl)).symm, hA⟩
    · skip
      by_cases h2 : o = 2
      · subst h2
        have HS := hidden (size2 (.inl rfl) : sizeC 2 k zs = _)
        go_enter Tryz.func187, Tryz.ntmps187
        go_wp2_with fail
        refine (l1In_any _ _ _ _).mono ?_
        rintro e w1 ⟨rfl, rfl⟩
        cases hl : inB (zs.length : Int) 1 6
        · rw [hl] at HS
          go_wp2
          go_ret
          exact ⟨ret_bool HS.out.symm, hA⟩
        · rw [hl] at HS
          go_wp2_with fail
          refine (l1Words_any _ _ _ _ zs rfl hr' hn).mono ?_
          rintro e w1 ⟨rfl, rfl⟩
          go_wp2
          go_ret
          exact ⟨ret_bool HS.out.symm, hA⟩
      · skip
        by_cases h3 : o = 3
        · subst h3
          have HS := hidden (size2 (.inr rfl) : sizeC 3 k zs = _)
          go_enter Tryz.func187, Tryz.ntmps187
          go_wp2_with fail
          refine (l1In_any _ _ _ _).mono ?_
          rintro e w1 ⟨rfl, rfl⟩
          cases hl : inB (zs.length : Int) 1 6
          · rw [hl] at HS
            go_wp2
            go_ret
            exact ⟨ret_bool HS.out.symm, hA⟩
          · rw [hl] at HS
            go_wp2_with fail
            refine (l1Words_any _ _ _ _ zs rfl hr' hn).mono ?_
            rintro e w1 ⟨rfl, rfl⟩
            go_wp2
            go_ret
            exact ⟨ret_bool HS.out.symm, hA⟩
        · skip
          by_cases h5 : o = 5
          · subst h5
            have HS := hidden (size5 (k := k) (zs := zs))
            go_enter Tryz.func187, Tryz.ntmps187
            by_cases hl : zs.length = 2
            · obtain ⟨hd, hd'⟩ := two_len hl
              rw [show (zs.length == 2) = true by simpa using hl] at HS
              clear hl
              go_wp2_with fail
              refine (l1Words_any _ _ _ _ zs rfl hr' hn).mono ?_
              rintro e w1 ⟨rfl, rfl⟩
              go_wp2
              go_ret
              exact ⟨ret_bool HS.out.symm, hA⟩
            · obtain ⟨hd, hd'⟩ := two_len' hl
              rw [show (zs.length == 2) = false by simpa using hl] at HS
              go_wp2
              go_ret
              exact ⟨ret_bool HS.out.symm, hA⟩
          · have hl := size0 (k := k) (zs := zs) (by omega : ¬ (o = 1 ∨ o = 6)) (by omega : ¬ (o = 2 ∨ o = 3)) h5
            go_enter Tryz.func187, Tryz.ntmps187
            go_wp2
            go_ret
            exact ⟨ret_bool hl.symm, hA⟩

set_option maxHeartbeats 3200000 in
theorem specCmdCode_any (w : World) (gn gs : Int) (o d b k : Int) (a : Option Addr) (n cap : Nat) (zs : List Int) (hz : zs.length = n) (hr : Reads .i64 w a zs) (hn : n ≤ 2097152) :
    Calls Tryz.prog 130 #[.agg #[.int .i64 gn, .int .i64 gs], .agg #[.int .i64 o, .int .i64 d, .int .i64 b, .int .i64 k, .slice a n cap]] w fun e w' => e = .returned (.int .i64 (codeC gn gs o d b k zs)) ∧ Below w.heap.size w w' := by
  have hA : Below w.heap.size w ((w.alloc (.cells #[.int .i64 gn, .int .i64 gs] 25)).alloc (.cells #[.int .i64 o, .int .i64 d, .int .i64 b, .int .i64 k, .slice a n cap] 38)) := (new_below w _).alloc (by simp) _
  have G : Box ((w.alloc (.cells #[.int .i64 gn, .int .i64 gs] 25)).alloc (.cells #[.int .i64 o, .int .i64 d, .int .i64 b, .int .i64 k, .slice a n cap] 38)) w.heap.size 25 #[.int .i64 gn, .int .i64 gs] := (Box.new w _ _).below (new_below _ _) (by simp)
  have X : Box ((w.alloc (.cells #[.int .i64 gn, .int .i64 gs] 25)).alloc (.cells #[.int .i64 o, .int .i64 d, .int .i64 b, .int .i64 k, .slice a n cap] 38)) (w.heap.size + 1) 38 #[.int .i64 o, .int .i64 d, .int .i64 b, .int .i64 k, .slice a n cap] := by
    have := Box.new (w.alloc (.cells #[.int .i64 gn, .int .i64 gs] 25)) 38 #[.int .i64 o, .int .i64 d, .int .i64 b, .int .i64 k, .slice a n cap]
    simpa using this
  have hr' := hr.below hA
  subst hz
  obtain ⟨g0, g1⟩ := G.cells2
  obtain ⟨c0, c1, c2, c3, c4⟩ := X.cells5
  go_enter Tryz.func130, Tryz.ntmps130
  go_wp2_with fail
  generalize (w.alloc (.cells #[.int .i64 gn, .int .i64 gs] 25)).alloc (.cells #[.int .i64 o, .int .i64 d, .int .i64 b, .int .i64 k, .slice a zs.length cap] 38) = W0 at hA G X hr' g0 g1 c0 c1 c2 c3 c4 ⊢
  have B0 := hA
  have G0 := G
  have X0 := X
  have R0 := hr'
  clear hA G X hr' hr
  go_wp2_with fail
  refine (specGeoOk_any _ _ _).mono ?_
  rintro e w1 ⟨rfl, b1⟩
  have B1 := Below.andThen B0 b1
  have G1 := G0.below b1 G0.lt
  have X1 := X0.below b1 X0.lt
  have R1 := R0.below b1
  clear g0 g1 c0 c1 c2 c3 c4
  obtain ⟨g0, g1⟩ := G1.cells2
  obtain ⟨c0, c1, c2, c3, c4⟩ := X1.cells5
  clear B0 G0 X0 R0 b1
  cases hg : geoB gn gs
  · have HF := hidden (code_form (b := b) (k := k) (zs := zs) (form_geo (o := o) (d := d) hg))
    go_wp2
    go_ret
    exact ⟨ret_int HF.out.symm, B1⟩
  · skip
    go_wp2_with fail
    refine (l1In_any _ _ _ _).mono ?_
    rintro e w2 ⟨rfl, hw⟩
    subst w2
    cases ho : inB o 1 6
    · have HF := hidden (code_form (b := b) (k := k) (zs := zs) (form_op (gn := gn) (gs := gs) (d := d) ho))
      go_wp2
      go_ret
      exact ⟨ret_int HF.out.symm, B1⟩
    · skip
      go_wp2_with fail
      refine (l1In_any _ _ _ _).mono ?_
      rintro e w3 ⟨rfl, hw⟩
      subst w3
      cases hi : inB d 1 999
      · have HF := hidden (code_form (b := b) (k := k) (zs := zs) (form_id (gn := gn) (gs := gs) (o := o) hi))
        go_wp2
        go_ret
        exact ⟨ret_int HF.out.symm, B1⟩
      · have HC := hidden (code_rest (b := b) (k := k) (zs := zs) (form_all hg ho hi))
        go_wp2_with fail
        refine (specSize13_any _ o d b k _ _ _ zs rfl R1 hn).mono ?_
        rintro e w4 ⟨rfl, b4⟩
        have B4 := Below.andThen B1 b4
        have G4 := G1.below b4 G1.lt
        have X4 := X1.below b4 X1.lt
        have R4 := R1.below b4
        clear g0 g1 c0 c1 c2 c3 c4
        obtain ⟨g0, g1⟩ := G4.cells2
        obtain ⟨c0, c1, c2, c3, c4⟩ := X4.cells5
        clear B1 G1 X1 R1 b4
        cases hs : sizeC o k zs
        · have HR := hidden (HC.out.trans (rest_bad13 (gn := gn) (gs := gs) (b := b) hs))
          go_wp2
          go_ret
          exact ⟨ret_int HR.out.symm, B4⟩
        · by_cases h4 : o = 4
          · subst h4
            have HR := hidden (HC.out.trans rest_flush)
            go_wp2
            go_ret
            exact ⟨ret_int HR.out.symm, B4⟩
          · have hbr := blocksN_range gn gs
            obtain ⟨hl0, hl1, _⟩ := size_len hs
            have zg := G4.lt
            have zx := X4.lt
            have hwr : IntKind.i64.wrap (blocksN gn gs - lenC o k zs) = blocksN gn gs - lenC o k zs := IntWalk.i64_in _ (by omega)
            go_wp2_with fail
            go_region_held3 (fun w' => w'.cell? ⟨w.heap.size, 0, none⟩ = some (.int .i64 gn) ∧ w'.cell? ⟨w.heap.size, 1, none⟩ = some (.int .i64 gs) ∧ w'.cell? ⟨w.heap.size + 1, 0, none⟩ = some (.int .i64 o) ∧ w'.cell? ⟨w.heap.size + 1, 1, none⟩ = some (.int .i64 d) ∧ w'.cell? ⟨w.heap.size + 1, 2, none⟩ = some (.int .i64 b) ∧ w'.cell? ⟨w.heap.size + 1, 3, none⟩ = some (.int .i64 k) ∧ w'.cell? ⟨w.heap.size + 1, 4, none⟩ = some (.slice a zs.length cap))
              (first | (exact ⟨(q6.cell (p := ⟨w.heap.size, 0, none⟩) zg).trans g0, (q6.cell (p := ⟨w.heap.size, 1, none⟩) zg).trans g1, (q6.cell (p := ⟨w.heap.size + 1, 0, none⟩) zx).trans c0, (q6.cell (p := ⟨w.heap.size + 1, 1, none⟩) zx).trans c1, (q6.cell (p := ⟨w.heap.size + 1, 2, none⟩) zx).trans c2, (q6.cell (p := ⟨w.heap.size + 1, 3, none⟩) zx).trans c3, (q6.cell (p := ⟨w.heap.size + 1, 4, none⟩) zx).trans c4⟩) | (exact ⟨(q5.cell (p := ⟨w.heap.size, 0, none⟩) zg).trans g0, (q5.cell (p := ⟨w.heap.size, 1, none⟩) zg).trans g1, (q5.cell (p := ⟨w.heap.size + 1, 0, none⟩) zx).trans c0, (q5.cell (p := ⟨w.heap.size + 1, 1, none⟩) zx).trans c1, (q5.cell (p := ⟨w.heap.size + 1, 2, none⟩) zx).trans c2, (q5.cell (p := ⟨w.heap.size + 1, 3, none⟩) zx).trans c3, (q5.cell (p := ⟨w.heap.size + 1, 4, none⟩) zx).trans c4⟩) | (exact ⟨g0, g1, c0, c1, c2, c3, c4⟩) | go_keep)
              (first | (go_at_call 84; refine (l1In_any _ _ _ _).mono ?_; rintro e w7 ⟨rfl, hw⟩; subst w7) | (go_at_call 188; refine (specLen13_any _ o d b k _ _ _ zs rfl (by exact R4.below q5) hn).mono ?_; rintro e w6 ⟨rfl, p6⟩; have q6 : Below w4.heap.size w4 w6 := Below.andThen q5 p6) | (go_at_call 165; refine (specBlocks_any _ _ _).mono ?_; rintro e w5 ⟨rfl, p5⟩; have q5 : Below w4.heap.size w4 w5 := (Below.refl w4.heap.size w4).drew.trans p5))
            cases hx : inB b 0 (blocksN gn gs - lenC o k zs)
            · have HR := hidden (HC.out.trans (rest_out hs h4 hx))
              go_wp2
              go_ret
              exact ⟨ret_int HR.out.symm, (Below.andThen B4 q6)⟩
            · have HR := hidden (HC.out.trans (rest_in hs hx))
              go_wp2
              go_ret
              exact ⟨ret_int HR.out.symm, (Below.andThen B4 q6)⟩

set_option maxHeartbeats 3200000 in
theorem specSpanOf_any (w : World) (gn gs : Int) (o d b k : Int) (a : Option Addr) (n cap : Nat) (zs : List Int) (hz : zs.length = n) (hr : Reads .i64 w a zs) (hn : n ≤ 2097152) :
    Calls Tryz.prog 190 #[.agg #[.int .i64 gn, .int .i64 gs], .agg #[.int .i64 o, .int .i64 d, .int .i64 b, .int .i64 k, .slice a n cap]] w fun e w' => e = .returned (.tuple #[.int .i64 (spanC gn gs o d b k zs).1, .int .i64 (spanC gn gs o d b k zs).2]) ∧ Below w.heap.size w w' := by
  have hA : Below w.heap.size w ((w.alloc (.cells #[.int .i64 gn, .int .i64 gs] 25)).alloc (.cells #[.int .i64 o, .int .i64 d, .int .i64 b, .int .i64 k, .slice a n cap] 38)) := (new_below w _).alloc (by simp) _
  have G : Box ((w.alloc (.cells #[.int .i64 gn, .int .i64 gs] 25)).alloc (.cells #[.int .i64 o, .int .i64 d, .int .i64 b, .int .i64 k, .slice a n cap] 38)) w.heap.size 25 #[.int .i64 gn, .int .i64 gs] := (Box.new w _ _).below (new_below _ _) (by simp)
  have X : Box ((w.alloc (.cells #[.int .i64 gn, .int .i64 gs] 25)).alloc (.cells #[.int .i64 o, .int .i64 d, .int .i64 b, .int .i64 k, .slice a n cap] 38)) (w.heap.size + 1) 38 #[.int .i64 o, .int .i64 d, .int .i64 b, .int .i64 k, .slice a n cap] := by
    have := Box.new (w.alloc (.cells #[.int .i64 gn, .int .i64 gs] 25)) 38 #[.int .i64 o, .int .i64 d, .int .i64 b, .int .i64 k, .slice a n cap]
    simpa using this
  have hr' := hr.below hA
  subst hz
  obtain ⟨g0, g1⟩ := G.cells2
  obtain ⟨c0, c1, c2, c3, c4⟩ := X.cells5
  go_enter Tryz.func190, Tryz.ntmps190
  go_wp2_with fail
  generalize (w.alloc (.cells #[.int .i64 gn, .int .i64 gs] 25)).alloc (.cells #[.int .i64 o, .int .i64 d, .int .i64 b, .int .i64 k, .slice a zs.length cap] 38) = W0 at hA G X hr' g0 g1 c0 c1 c2 c3 c4 ⊢
  have B0 := hA
  have G0 := G
  have X0 := X
  have R0 := hr'
  clear hA G X hr' hr
  go_wp2_with fail
  refine (specCmdCode_any _ gn gs o d b k _ _ _ zs rfl R0 hn).mono ?_
  rintro e w1 ⟨rfl, b1⟩
  have B1 := Below.andThen B0 b1
  have G1 := G0.below b1 G0.lt
  have X1 := X0.below b1 X0.lt
  have R1 := R0.below b1
  clear g0 g1 c0 c1 c2 c3 c4
  obtain ⟨g0, g1⟩ := G1.cells2
  obtain ⟨c0, c1, c2, c3, c4⟩ := X1.cells5
  clear B0 G0 X0 R0 b1
  by_cases hc : codeC gn gs o d b k zs = 0
  · have hcb : (codeC gn gs o d b k zs == 0) = true := by simpa using hc
    by_cases h4 : o = 4
    · subst h4
      have HS := hidden (span_flush hc)
      go_wp2_with fail
      refine (specBlocks_any _ _ _).mono ?_
      rintro e w2 ⟨rfl, b2⟩
      have B2 := Below.andThen B1 b2
      go_wp2
      refine bodyPost_ret (v := .tuple #[.int .i64 0, .int .i64 (blocksN gn gs)]) (by simp [results, Tryz.results190, go_sem]) rfl ?_
      exact ⟨by rw [HS.out], B2⟩
    · have HS := hidden (span_own hc h4)
      obtain ⟨_, hsz, hro⟩ := code_good13 hc
      have hro' : 0 ≤ b ∧ b + lenC o k zs ≤ blocksN gn gs := hro.resolve_left h4
      have hwr : IntKind.i64.wrap (b + lenC o k zs) = b + lenC o k zs := IntWalk.i64_in _ (by have := (size_len hsz).1; have := blocksN_range gn gs; omega)
      have hbr := blocksN_range gn gs
      obtain ⟨hl0, hl1, _⟩ := size_len hsz
      have zg := G1.lt
      have zx := X1.lt
      clear hro
      go_wp2_with fail
      go_region_held3 (fun w' => w'.cell? ⟨w.heap.size, 0, none⟩ = some (.int .i64 gn) ∧ w'.cell? ⟨w.heap.size, 1, none⟩ = some (.int .i64 gs) ∧ w'.cell? ⟨w.heap.size + 1, 0, none⟩ = some (.int .i64 o) ∧ w'.cell? ⟨w.heap.size + 1, 1, none⟩ = some (.int .i64 d) ∧ w'.cell? ⟨w.heap.size + 1, 2, none⟩ = some (.int .i64 b) ∧ w'.cell? ⟨w.heap.size + 1, 3, none⟩ = some (.int .i64 k) ∧ w'.cell? ⟨w.heap.size + 1, 4, none⟩ = some (.slice a zs.length cap))
        (first | (exact ⟨(q2.cell (p := ⟨w.heap.size, 0, none⟩) zg).trans g0, (q2.cell (p := ⟨w.heap.size, 1, none⟩) zg).trans g1, (q2.cell (p := ⟨w.heap.size + 1, 0, none⟩) zx).trans c0, (q2.cell (p := ⟨w.heap.size + 1, 1, none⟩) zx).trans c1, (q2.cell (p := ⟨w.heap.size + 1, 2, none⟩) zx).trans c2, (q2.cell (p := ⟨w.heap.size + 1, 3, none⟩) zx).trans c3, (q2.cell (p := ⟨w.heap.size + 1, 4, none⟩) zx).trans c4⟩) | (exact ⟨g0, g1, c0, c1, c2, c3, c4⟩) | go_keep)
        (first | (go_at_call 188; refine (specLen13_any _ o d b k _ _ _ zs rfl (by exact R1.draw) hn).mono ?_; rintro e w2 ⟨rfl, p2⟩; have q2 : Below w1.heap.size w1 w2 := (Below.refl w1.heap.size w1).drew.trans p2))
      go_wp2
      refine bodyPost_ret (v := .tuple #[.int .i64 b, .int .i64 (b + lenC o k zs)]) (by simp [results, Tryz.results190, go_sem]) rfl ?_
      exact ⟨by rw [HS.out], Below.andThen B1 q2⟩
  · have HS := hidden (span_bad hc)
    go_wp2
    refine bodyPost_ret (v := .tuple #[.int .i64 0, .int .i64 0]) (by simp [results, Tryz.results190, go_sem]) rfl ?_
    exact ⟨by rw [HS.out], B1⟩

set_option maxHeartbeats 3200000 in
theorem specClash_any (w : World) (gn gs o d b k : Int) (a : Option Addr) (n cap : Nat) (zs : List Int) (o2 d2 b2 k2 : Int) (a2 : Option Addr) (n2 cap2 : Nat) (zs2 : List Int) (hz : zs.length = n) (hr : Reads .i64 w a zs) (hn : n ≤ 2097152) (hz2 : zs2.length = n2) (hr2 : Reads .i64 w a2 zs2) (hn2 : n2 ≤ 2097152) :
    Calls Tryz.prog 132 #[.agg #[.int .i64 gn, .int .i64 gs], .agg #[.int .i64 o, .int .i64 d, .int .i64 b, .int .i64 k, .slice a n cap], .agg #[.int .i64 o2, .int .i64 d2, .int .i64 b2, .int .i64 k2, .slice a2 n2 cap2]] w fun e w' => e = .returned (.bool (metC (spanC gn gs o d b k zs) (spanC gn gs o2 d2 b2 k2 zs2))) ∧ Below w.heap.size w w' := by
  have hA : Below w.heap.size w (((w.alloc (.cells #[.int .i64 gn, .int .i64 gs] 25)).alloc (.cells #[.int .i64 o, .int .i64 d, .int .i64 b, .int .i64 k, .slice a n cap] 38)).alloc (.cells #[.int .i64 o2, .int .i64 d2, .int .i64 b2, .int .i64 k2, .slice a2 n2 cap2] 38)) := ((new_below w _).alloc (by simp) _).alloc (by simp; omega) _
  have G : Box (((w.alloc (.cells #[.int .i64 gn, .int .i64 gs] 25)).alloc (.cells #[.int .i64 o, .int .i64 d, .int .i64 b, .int .i64 k, .slice a n cap] 38)).alloc (.cells #[.int .i64 o2, .int .i64 d2, .int .i64 b2, .int .i64 k2, .slice a2 n2 cap2] 38)) w.heap.size 25 #[.int .i64 gn, .int .i64 gs] := ((Box.new w _ _).below (new_below _ _) (by simp)).below (new_below _ _) (by simp; omega)
  have X : Box (((w.alloc (.cells #[.int .i64 gn, .int .i64 gs] 25)).alloc (.cells #[.int .i64 o, .int .i64 d, .int .i64 b, .int .i64 k, .slice a n cap] 38)).alloc (.cells #[.int .i64 o2, .int .i64 d2, .int .i64 b2, .int .i64 k2, .slice a2 n2 cap2] 38)) (w.heap.size + 1) 38 #[.int .i64 o, .int .i64 d, .int .i64 b, .int .i64 k, .slice a n cap] := by
    have := (Box.new (w.alloc (.cells #[.int .i64 gn, .int .i64 gs] 25)) 38 #[.int .i64 o, .int .i64 d, .int .i64 b, .int .i64 k, .slice a n cap]).below (new_below _ (.cells #[.int .i64 o2, .int .i64 d2, .int .i64 b2, .int .i64 k2, .slice a2 n2 cap2] 38)) (by simp)
    simpa using this
  have Y : Box (((w.alloc (.cells #[.int .i64 gn, .int .i64 gs] 25)).alloc (.cells #[.int .i64 o, .int .i64 d, .int .i64 b, .int .i64 k, .slice a n cap] 38)).alloc (.cells #[.int .i64 o2, .int .i64 d2, .int .i64 b2, .int .i64 k2, .slice a2 n2 cap2] 38)) (w.heap.size + 1 + 1) 38 #[.int .i64 o2, .int .i64 d2, .int .i64 b2, .int .i64 k2, .slice a2 n2 cap2] := by
    have := Box.new ((w.alloc (.cells #[.int .i64 gn, .int .i64 gs] 25)).alloc (.cells #[.int .i64 o, .int .i64 d, .int .i64 b, .int .i64 k, .slice a n cap] 38)) 38 #[.int .i64 o2, .int .i64 d2, .int .i64 b2, .int .i64 k2, .slice a2 n2 cap2]
    simpa using this
  have hr' := hr.below hA
  have hr2' := hr2.below hA
  generalize hP : spanC gn gs o d b k zs = P
  generalize hQ : spanC gn gs o2 d2 b2 k2 zs2 = Q
  obtain ⟨p0, p1⟩ := P
  obtain ⟨q0, q1⟩ := Q
  have HP := hidden hP
  have HQ := hidden hQ
  clear hP hQ hr hr2
  obtain ⟨g0, g1⟩ := G.cells2
  obtain ⟨c0, c1, c2, c3, c4⟩ := X.cells5
  go_enter Tryz.func132, Tryz.ntmps132
  go_wp2_with fail
  generalize (((w.alloc (.cells #[.int .i64 gn, .int .i64 gs] 25)).alloc (.cells #[.int .i64 o, .int .i64 d, .int .i64 b, .int .i64 k, .slice a n cap] 38)).alloc (.cells #[.int .i64 o2, .int .i64 d2, .int .i64 b2, .int .i64 k2, .slice a2 n2 cap2] 38)) = W0 at hA G X Y hr' hr2' g0 g1 c0 c1 c2 c3 c4 ⊢
  refine (specSpanOf_any _ gn gs o d b k _ _ _ zs hz hr' hn).mono ?_
  rintro e w1 ⟨rfl, b1⟩
  rw [HP.out]
  have B1 := Below.andThen hA b1
  have G1 := G.below b1 G.lt
  have Y1 := Y.below b1 Y.lt
  have R1 := hr2'.below b1
  clear g0 g1 c0 c1 c2 c3 c4 G X Y hr' hr2' hA b1
  obtain ⟨g0, g1⟩ := G1.cells2
  obtain ⟨c0, c1, c2, c3, c4⟩ := Y1.cells5
  go_wp2_with fail
  refine (specSpanOf_any _ gn gs o2 d2 b2 k2 _ _ _ zs2 hz2 R1 hn2).mono ?_
  rintro e w2 ⟨rfl, b2⟩
  have B2 := Below.andThen B1 b2
  clear g0 g1 c0 c1 c2 c3 c4 G1 Y1 R1 B1 b2
  rw [HQ.out]
  by_cases h1 : p0 < q1
  · by_cases h2 : q0 < p1
    · go_wp2
      go_ret
      exact ⟨ret_bool (by simp [metC, h1, h2]), B2⟩
    · go_wp2
      go_ret
      exact ⟨ret_bool (by simp [metC]; omega), B2⟩
  · go_wp2
    go_ret
    exact ⟨ret_bool (by simp [metC]; omega), B2⟩

end Go.Proofs.YtgjldmjlbhkgbaaGreat

/-
  The walks of the specification's looks whether an array is right, and whether a disk of it lives at a stripe. Condition: it weighs at most 2097152.
-/
namespace Go.Proofs.YtgjldmjlbhkgbaaGreat
open Go.RowKit

def liveB (x : ArrN) (ms : List MemD) (m s : Int) : Bool := inB m 0 ((ms.length : Int) - 1) && (!(ms.getD m.toNat ([], [], false, [])).2.2.1 && (!decide (m = x.lost) || decide (s < x.built)))

set_option maxHeartbeats 3200000 in
theorem specArrOk_any (w : World) (E F G : TypeId) (x : ArrN) (am ad : Option Addr) (nm cm nd cd : Nat) (ms : List MemD) (ds : List (Int × List Int)) (h0 : (tMemS E F).Rd w [.slice am nm cm] ms) (h1 : (tWrS G).Rd w [.slice ad nd cd] ds) (hw : wtArr ms ds ≤ 2097152) :
    Calls Tryz.prog 59 #[.agg #[.int .i64 x.id, .int .i64 x.n, .int .i64 x.s, .slice am nm cm, .int .i64 x.lost, .int .i64 x.built, .int .i64 x.seq, .int .i64 x.tail, .int .i64 x.gen, .slice ad nd cd, .int .i64 x.fuse, .bool x.down, .bool x.broken]] w fun e w' => e = .returned (.bool (arrB x ms ds)) ∧ Below w.heap.size w w' := by
  have hwm : wtMemS ms ≤ 2097152 := by unfold wtArr at hw; omega
  have hwd : wtWrS ds ≤ 2097152 := by unfold wtArr at hw; omega
  have hA := new_below w (.cells #[.int .i64 x.id, .int .i64 x.n, .int .i64 x.s, .slice am nm cm, .int .i64 x.lost, .int .i64 x.built, .int .i64 x.seq, .int .i64 x.tail, .int .i64 x.gen, .slice ad nd cd, .int .i64 x.fuse, .bool x.down, .bool x.broken] 29)
  have X := Box.new w 29 #[.int .i64 x.id, .int .i64 x.n, .int .i64 x.s, .slice am nm cm, .int .i64 x.lost, .int .i64 x.built, .int .i64 x.seq, .int .i64 x.tail, .int .i64 x.gen, .slice ad nd cd, .int .i64 x.fuse, .bool x.down, .bool x.broken]
  obtain ⟨k0, k1, k2, k3, k4, k5, k6, k7, k8, k9, k10, k11, k12⟩ := X.cells13
  have zA := X.lt
  have r0 := h0.below hA
  have r1 := h1.below hA
  go_enter Tryz.func59, Tryz.ntmps59
  go_wp2_with fail
  generalize w.alloc (.cells #[.int .i64 x.id, .int .i64 x.n, .int .i64 x.s, .slice am nm cm, .int .i64 x.lost, .int .i64 x.built, .int .i64 x.seq, .int .i64 x.tail, .int .i64 x.gen, .slice ad nd cd, .int .i64 x.fuse, .bool x.down, .bool x.broken] 29) = W at hA X zA r0 r1 k0 k1 k2 k3 k4 k5 k6 k7 k8 k9 k10 k11 k12 ⊢
  refine (specGeoOk_any _ _ _).mono ?_
  rintro e w1 ⟨rfl, b1⟩
  have X1 := X.below b1 X.lt
  have B1 := Below.andThen hA b1
  have q1 := r0.below b1
  have t1 := r1.below b1
  clear k0 k1 k2 k3 k4 k5 k6 k7 k8 k9 k10 k11 k12 b1 hA X r0 r1
  obtain ⟨k0, k1, k2, k3, k4, k5, k6, k7, k8, k9, k10, k11, k12⟩ := X1.cells13
  cases hg : geoB x.n x.s
  · skip
    have HF : Hid (arrB x ms ds = false) := by unfold Hid arrB; simp [hg]
    go_wp2
    go_ret
    exact ⟨ret_bool HF.out.symm, B1⟩
  · obtain ⟨g1, g2, g3, g4⟩ := geoB_iff.1 hg
    have hws : IntKind.i64.wrap (x.n - 1) = x.n - 1 := IntWalk.i64_in _ (by omega)
    go_wp2_with fail
    refine (l1In_any _ _ _ _).mono ?_
    rintro e wq ⟨rfl, hq⟩
    obtain rfl := hq.symm
    cases hid : inB x.id 1 60000
    · skip
      have HF : Hid (arrB x ms ds = false) := by unfold Hid arrB; simp [hid]
      go_wp2
      go_ret
      exact ⟨ret_bool HF.out.symm, B1⟩
    · skip
      go_wp2_with fail
      refine (l6Mems_any _ E F x _ _ _ _ _ _ ms q1 hwm hg).mono ?_
      rintro e w2 ⟨rfl, b2⟩
      have X2 := X1.below b2 X1.lt
      have B2 := Below.andThen B1 b2
      have q2 := q1.below b2
      have t2 := t1.below b2
      clear k0 k1 k2 k3 k4 k5 k6 k7 k8 k9 k10 k11 k12 b2 B1 X1 q1 t1
      obtain ⟨k0, k1, k2, k3, k4, k5, k6, k7, k8, k9, k10, k11, k12⟩ := X2.cells13
      cases hms : memsB x ms
      · skip
        have HF : Hid (arrB x ms ds = false) := by unfold Hid arrB; simp [hms]
        go_wp2
        go_ret
        exact ⟨ret_bool HF.out.symm, B2⟩
      · skip
        go_wp2_with fail
        refine (l6Dirty_any _ G x _ _ _ _ _ _ ds t2 hwd hg).mono ?_
        rintro e w3 ⟨rfl, b3⟩
        have X3 := X2.below b3 X2.lt
        have B3 := Below.andThen B2 b3
        have q3 := q2.below b3
        have t3 := t2.below b3
        clear k0 k1 k2 k3 k4 k5 k6 k7 k8 k9 k10 k11 k12 b3 B2 X2 q2 t2
        obtain ⟨k0, k1, k2, k3, k4, k5, k6, k7, k8, k9, k10, k11, k12⟩ := X3.cells13
        cases hds : entsB x ds
        · skip
          have HF : Hid (arrB x ms ds = false) := by unfold Hid arrB; simp [hds]
          go_wp2
          go_ret
          exact ⟨ret_bool HF.out.symm, B3⟩
        · skip
          go_wp2_with fail
          refine (l1In_any _ _ _ _).mono ?_
          rintro e wq ⟨rfl, hq⟩
          obtain rfl := hq.symm
          cases hlo : inB x.lost (-1) (x.n - 1)
          · skip
            have HF : Hid (arrB x ms ds = false) := by unfold Hid arrB; simp [lostB6, hlo]
            go_wp2
            go_ret
            exact ⟨ret_bool HF.out.symm, B3⟩
          · skip
            go_wp2_with fail
            refine (l1In_any _ _ _ _).mono ?_
            rintro e wq ⟨rfl, hq⟩
            obtain rfl := hq.symm
            cases hbu : inB x.built 0 x.s
            · skip
              have HF : Hid (arrB x ms ds = false) := by unfold Hid arrB; simp [lostB6, hbu]
              go_wp2
              go_ret
              exact ⟨ret_bool HF.out.symm, B3⟩
            · skip
              have hlb : (x.lost = -1 ∧ ¬ x.built = 0) ∨ (x.lost = -1 ∧ x.built = 0) ∨ ¬ x.lost = -1 := by omega
              have HLB : Hid (lostB6 x = (!decide (x.lost = -1) || decide (x.built = 0))) := by unfold Hid lostB6; rw [hlo, hbu]; simp
              rcases hlb with ⟨l1, l2⟩ | ⟨l1, l2⟩ | l1
              · have e1 : (x.lost == -1) = true := by simpa using l1
                have e2 : (x.built != 0) = true := by simpa using l2
                have e3 : (x.built == 0) = false := by simpa using l2
                have hL : lostB6 x = false := by rw [HLB.out]; simp [l1, l2]
                rw [l1] at k4
                have HF : Hid (arrB x ms ds = false) := by unfold Hid arrB; simp [hL]
                clear hL l1 l2
                go_wp2
                go_ret
                exact ⟨ret_bool HF.out.symm, B3⟩
              · have e1 : (x.lost == -1) = true := by simpa using l1
                have e2 : (x.built != 0) = false := by simpa using l2
                have e3 : (x.built == 0) = true := by simpa using l2
                have HLT : Hid (lostB6 x = true) := by unfold Hid; rw [HLB.out]; simp [l2]
                rw [l1] at k4
                rw [l2] at k5
                clear l1 l2
                have HT : Hid (arrB x ms ds = seqB6 x) := by unfold Hid arrB; rw [hg, hid, hms, hds, HLT.out]; rfl
                go_wp2_with fail
                refine (l1In_any _ _ _ _).mono ?_
                rintro e wq ⟨rfl, hq⟩
                obtain rfl := hq.symm
                cases ht : inB x.tail 0 60000
                · have HF : Hid (arrB x ms ds = false) := by unfold Hid; rw [HT.out]; unfold seqB6; simp [ht]
                  go_wp2
                  go_ret
                  exact ⟨ret_bool HF.out.symm, B3⟩
                · skip
                  have ht2 : 0 ≤ x.tail ∧ x.tail ≤ 60000 := by unfold inB at ht; simpa using ht
                  have hw4 : IntKind.i64.wrap (x.tail + 4) = x.tail + 4 := IntWalk.i64_in _ (by omega)
                  go_wp2_with fail
                  refine (l1In_any _ _ _ _).mono ?_
                  rintro e wq ⟨rfl, hq⟩
                  obtain rfl := hq.symm
                  cases hs : inB x.seq x.tail 60000
                  · have HF : Hid (arrB x ms ds = false) := by unfold Hid; rw [HT.out]; unfold seqB6; simp [hs]
                    go_wp2
                    go_ret
                    exact ⟨ret_bool HF.out.symm, B3⟩
                  · skip
                    by_cases hle : x.seq ≤ x.tail + 4
                    · skip
                      go_wp2_with fail
                      refine (l1In_any _ _ _ _).mono ?_
                      rintro e wq ⟨rfl, hq⟩
                      obtain rfl := hq.symm
                      cases hge : inB x.gen 0 60000
                      · have HF : Hid (arrB x ms ds = false) := by unfold Hid; rw [HT.out]; unfold seqB6; simp [hge]
                        go_wp2
                        go_ret
                        exact ⟨ret_bool HF.out.symm, B3⟩
                      · skip
                        have HF : Hid (arrB x ms ds = inB x.fuse (-1) 1000) := by unfold Hid; rw [HT.out]; unfold seqB6; simp [ht, hs, hle, hge]
                        go_wp2_with fail
                        refine (l1In_any _ _ _ _).mono ?_
                        rintro e wq ⟨rfl, hq⟩
                        obtain rfl := hq.symm
                        cases hfu : inB x.fuse (-1) 1000
                        · go_wp2
                          go_ret
                          exact ⟨ret_bool (by rw [HF.out, hfu]), B3⟩
                        · go_wp2
                          go_ret
                          exact ⟨ret_bool (by rw [HF.out, hfu]), B3⟩
                    · have HF : Hid (arrB x ms ds = false) := by unfold Hid; rw [HT.out]; unfold seqB6; simp; omega
                      have hgt : x.tail + 4 < x.seq := by omega
                      go_wp2
                      go_ret
                      exact ⟨ret_bool HF.out.symm, B3⟩
              · have e1 : (x.lost == -1) = false := by simpa using l1
                have HLT : Hid (lostB6 x = true) := by unfold Hid; rw [HLB.out]; simp [l1]
                clear l1
                have HT : Hid (arrB x ms ds = seqB6 x) := by unfold Hid arrB; rw [hg, hid, hms, hds, HLT.out]; rfl
                go_wp2_with fail
                refine (l1In_any _ _ _ _).mono ?_
                rintro e wq ⟨rfl, hq⟩
                obtain rfl := hq.symm
                cases ht : inB x.tail 0 60000
                · have HF : Hid (arrB x ms ds = false) := by unfold Hid; rw [HT.out]; unfold seqB6; simp [ht]
                  go_wp2
                  go_ret
                  exact ⟨ret_bool HF.out.symm, B3⟩
                · skip
                  have ht2 : 0 ≤ x.tail ∧ x.tail ≤ 60000 := by unfold inB at ht; simpa using ht
                  have hw4 : IntKind.i64.wrap (x.tail + 4) = x.tail + 4 := IntWalk.i64_in _ (by omega)
                  go_wp2_with fail
                  refine (l1In_any _ _ _ _).mono ?_
                  rintro e wq ⟨rfl, hq⟩
                  obtain rfl := hq.symm
                  cases hs : inB x.seq x.tail 60000
                  · have HF : Hid (arrB x ms ds = false) := by unfold Hid; rw [HT.out]; unfold seqB6; simp [hs]
                    go_wp2
                    go_ret
                    exact ⟨ret_bool HF.out.symm, B3⟩
                  · skip
                    by_cases hle : x.seq ≤ x.tail + 4
                    · skip
                      go_wp2_with fail
                      refine (l1In_any _ _ _ _).mono ?_
                      rintro e wq ⟨rfl, hq⟩
                      obtain rfl := hq.symm
                      cases hge : inB x.gen 0 60000
                      · have HF : Hid (arrB x ms ds = false) := by unfold Hid; rw [HT.out]; unfold seqB6; simp [hge]
                        go_wp2
                        go_ret
                        exact ⟨ret_bool HF.out.symm, B3⟩
                      · skip
                        have HF : Hid (arrB x ms ds = inB x.fuse (-1) 1000) := by unfold Hid; rw [HT.out]; unfold seqB6; simp [ht, hs, hle, hge]
                        go_wp2_with fail
                        refine (l1In_any _ _ _ _).mono ?_
                        rintro e wq ⟨rfl, hq⟩
                        obtain rfl := hq.symm
                        cases hfu : inB x.fuse (-1) 1000
                        · go_wp2
                          go_ret
                          exact ⟨ret_bool (by rw [HF.out, hfu]), B3⟩
                        · go_wp2
                          go_ret
                          exact ⟨ret_bool (by rw [HF.out, hfu]), B3⟩
                    · have HF : Hid (arrB x ms ds = false) := by unfold Hid; rw [HT.out]; unfold seqB6; simp; omega
                      have hgt : x.tail + 4 < x.seq := by omega
                      go_wp2
                      go_ret
                      exact ⟨ret_bool HF.out.symm, B3⟩

set_option maxHeartbeats 1600000 in
theorem specLiveAt_any (w : World) (E F : TypeId) (x : ArrN) (am ad : Option Addr) (nm cm nd cd : Nat) (ms : List MemD) (m s : Int) (h0 : (tMemS E F).Rd w [.slice am nm cm] ms) (hw : wtMemS ms ≤ 2097152) :
    Calls Tryz.prog 273 #[.agg #[.int .i64 x.id, .int .i64 x.n, .int .i64 x.s, .slice am nm cm, .int .i64 x.lost, .int .i64 x.built, .int .i64 x.seq, .int .i64 x.tail, .int .i64 x.gen, .slice ad nd cd, .int .i64 x.fuse, .bool x.down, .bool x.broken], .int .i64 m, .int .i64 s] w fun e w' => e = .returned (.bool (liveB x ms m s)) ∧ Below w.heap.size w w' := by
  obtain ⟨hl, hc, hm⟩ := row_length h0
  have hnm : nm ≤ 2097152 := by unfold wtMemS at hw; omega
  have hA := new_below w (.cells #[.int .i64 x.id, .int .i64 x.n, .int .i64 x.s, .slice am nm cm, .int .i64 x.lost, .int .i64 x.built, .int .i64 x.seq, .int .i64 x.tail, .int .i64 x.gen, .slice ad nd cd, .int .i64 x.fuse, .bool x.down, .bool x.broken] 29)
  have X := Box.new w 29 #[.int .i64 x.id, .int .i64 x.n, .int .i64 x.s, .slice am nm cm, .int .i64 x.lost, .int .i64 x.built, .int .i64 x.seq, .int .i64 x.tail, .int .i64 x.gen, .slice ad nd cd, .int .i64 x.fuse, .bool x.down, .bool x.broken]
  obtain ⟨k0, k1, k2, k3, k4, k5, k6, k7, k8, k9, k10, k11, k12⟩ := X.cells13
  have h1 := h0.below hA
  have hwn : IntKind.i64.wrap ((nm : Int) - 1) = (nm : Int) - 1 := IntWalk.i64_in _ (by omega)
  go_enter Tryz.func273, Tryz.ntmps273
  go_wp2_with fail
  generalize w.alloc (.cells #[.int .i64 x.id, .int .i64 x.n, .int .i64 x.s, .slice am nm cm, .int .i64 x.lost, .int .i64 x.built, .int .i64 x.seq, .int .i64 x.tail, .int .i64 x.gen, .slice ad nd cd, .int .i64 x.fuse, .bool x.down, .bool x.broken] 29) = W at hA X h1 k0 k1 k2 k3 k4 k5 k6 k7 k8 k9 k10 k11 k12 ⊢
  refine (l1In_any _ _ _ _).mono ?_
  rintro e wq ⟨rfl, hq⟩
  obtain rfl := hq.symm
  cases hi : inB m 0 ((nm : Int) - 1)
  · have HF : Hid (liveB x ms m s = false) := by unfold Hid liveB; rw [hl, hi]; rfl
    go_wp2
    go_ret
    exact ⟨ret_bool HF.out.symm, hA⟩
  · have hi2 : 0 ≤ m ∧ m ≤ (nm : Int) - 1 := by unfold inB at hi; simpa using hi
    obtain ⟨j, rfl⟩ := Int.eq_ofNat_of_zero_le hi2.1
    rcases quads_at rfl h1 with h0' | ⟨b, off, rfl, hbl, hcs⟩
    · omega
    have hdj : ms[j]? = some (ms[j]'(by omega)) := List.getElem?_eq_getElem (by omega)
    generalize ms[j]'(by omega) = d at hdj
    obtain ⟨v0, v1, v2, v3, hv0, hv1, hv2, hv3, hrv⟩ := hcs j d hdj
    obtain ⟨a0, c0, a1, c1, a3, c3, ss, cs, f, bs, rfl, rfl, rfl, rfl, rfl, r0, r1, r3⟩ := mem_at hrv
    have i1 : (0 : Int) ≤ (j : Int) := by omega
    have i2 : (j : Int) < (nm : Int) := by omega
    have HD : Hid (liveB x ms (j : Int) s = (!f && (!decide ((j : Int) = x.lost) || decide (s < x.built)))) := by
      unfold Hid liveB
      rw [hl, hi, Int.toNat_natCast, List.getD_eq_getElem?_getD, hdj]
      rfl
    clear hcs hv0 hv1 hv3 hrv r0 r1 r3 hdj
    cases f
    · by_cases hj : (j : Int) = x.lost
      · have e1 : ((j : Int) == x.lost) = true := by simpa using hj
        have e2 : ((j : Int) != x.lost) = false := by simpa using hj
        have HF : Hid (liveB x ms (j : Int) s = decide (s < x.built)) := by unfold Hid; rw [HD.out]; simp [hj]
        clear hj
        go_wp2
        go_ret
        exact ⟨ret_bool HF.out.symm, hA⟩
      · have e1 : ((j : Int) == x.lost) = false := by simpa using hj
        have e2 : ((j : Int) != x.lost) = true := by simpa using hj
        have HF : Hid (liveB x ms (j : Int) s = true) := by unfold Hid; rw [HD.out]; simp [hj]
        clear hj
        go_wp2
        go_ret
        exact ⟨ret_bool HF.out.symm, hA⟩
    · have HF : Hid (liveB x ms (j : Int) s = false) := by unfold Hid; rw [HD.out]; rfl
      go_wp2
      go_ret
      exact ⟨ret_bool HF.out.symm, hA⟩

end Go.Proofs.YtgjldmjlbhkgbaaGreat

/-
  The specification's EngOk walked. Condition: the engine weighs at most 1048576.
-/
namespace Go.Proofs.YtgjldmjlbhkgbaaGreat
open Go.RowKit

set_option maxRecDepth 20000 in
set_option maxHeartbeats 6400000 in
theorem l15Job_any (w : World) (x : ArrN) (vm vd vw va vt : Value) (aj : Option Addr) (cj : Nat) (js : List JobD) (j : Nat) (hlt : j < js.length) (hJ : (tJobS 0).Rd w [.slice aj js.length cj] js) (hw : wttJobS js ≤ 1048576) :
    Calls Tryz.prog 58 #[.agg (engC x vm vd vw (.slice aj js.length cj) va vt), .int .i64 j] w fun e w' => e = .returned (.bool (jobAt x.n x.s js j)) ∧ Below w.heap.size w w' := by
  have hjl : js.length ≤ 1048576 := by unfold wttJobS at hw; omega
  rcases jobS_at hJ with h0' | ⟨b, off, rfl, hbl, hcs⟩
  · omega
  obtain ⟨o, d1, b1, k, zs, t1, us, q1, hdj⟩ : ∃ o d1 b1 k zs t1 us q1, js[j]? = some (o, d1, b1, k, zs, t1, us, q1) := ⟨_, _, _, _, _, _, _, _, List.getElem?_eq_getElem (by omega)⟩
  have hin := job_inner hdj
  have hlen : zs.length ≤ 2097152 := by unfold wttJobS at hw; simp only [wJob] at hin; omega
  have hlen2 : us.length ≤ 2097152 := by unfold wttJobS at hw; simp only [wJob] at hin; omega
  obtain ⟨av0, cv0, av1, cv1, c0, c1, c2, c3, c4, c5, c6, c7, r0, r1⟩ := hcs j o d1 b1 k zs t1 us q1 hdj
  have hR : Hid (jobAt x.n x.s js j = ((decide (codeC x.n x.s o d1 b1 k zs = 0) && (inB t1 0 40 && (gotB us && wentB q1))) && !((js.take j).any fun y => clashD x.n x.s (jobC y) (o, d1, b1, k, zs)))) := jobAt_eq hdj
  generalize jobAt x.n x.s js j = R at hR ⊢
  have i1 : (0 : Int) ≤ (j : Int) := by omega
  have i2 : (j : Int) < (js.length : Int) := by omega
  unfold engC
  go_enter Tryz.func58, Tryz.ntmps58
  have hB0 := new_below w (.cells #[.int .i64 x.id, .int .i64 x.n, .int .i64 x.s, vm, .int .i64 x.lost, .int .i64 x.built, .int .i64 x.seq, .int .i64 x.tail, .int .i64 x.gen, vd, .int .i64 x.fuse, .bool x.down, .bool x.broken, vw, .slice (some ⟨b, off, none⟩) js.length cj, va, vt] 35)
  have f0 := (hB0.cell (p := ⟨b, off + j * 8, none⟩) hbl).trans c0
  have f1 := (hB0.cell (p := ⟨b, off + j * 8 + 1, none⟩) hbl).trans c1
  have f2 := (hB0.cell (p := ⟨b, off + j * 8 + 2, none⟩) hbl).trans c2
  have f3 := (hB0.cell (p := ⟨b, off + j * 8 + 3, none⟩) hbl).trans c3
  have f4 := (hB0.cell (p := ⟨b, off + j * 8 + 4, none⟩) hbl).trans c4
  have f5 := (hB0.cell (p := ⟨b, off + j * 8 + 5, none⟩) hbl).trans c5
  have f6 := (hB0.cell (p := ⟨b, off + j * 8 + 6, none⟩) hbl).trans c6
  have f7 := (hB0.cell (p := ⟨b, off + j * 8 + 7, none⟩) hbl).trans c7
  have RR0 := hidden r0
  have RR1 := hidden r1
  clear hB0 hcs hin hdj c0 c1 c2 c3 c4 c5 c6 c7 r0 r1
  go_wp2_with fail
  refine seal_new2 ?_
  intro V A X B
  have lA := A.lt
  have lX := X.lt
  refine (specCmdCode_any _ x.n x.s o d1 b1 k _ _ _ zs rfl (ints_rd (RR0.out.below B)).1 hlen).mono ?_
  rintro e w1 ⟨rfl, b1'⟩
  have A := A.below b1' lA
  have X := X.below b1' lX
  have B := Below.andThen B b1'
  have hbv : b < w1.heap.size := Nat.lt_of_lt_of_le hbl B.size
  have hrange := code_range x.n x.s o d1 b1 k zs
  clear b1' f0 f1 f2 f3 f4 f5 f6 f7
  obtain ⟨k0, k1, k2, k3, k4, k5, k6, k7, k8, k9, k10, k11, k12, k13, k14, k15, k16⟩ := A.cells17
  obtain ⟨l0, l1, l2, l3, l4, l5, l6, l7⟩ := X.cells8e
  by_cases hc : codeC x.n x.s o d1 b1 k zs = 0
  rotate_left
  · have HR : Hid (R = false) := by unfold Hid; rw [hR.out, decide_eq_false hc]; simp
    generalize codeC x.n x.s o d1 b1 k zs = C at hc hrange ⊢
    have hcn : (C != 0) = true := by simp [hc]
    go_wp2
    go_ret
    exact ⟨ret_bool HR.out.symm, B⟩
  rw [hc]
  rw [decide_eq_true hc] at hR
  clear hc hrange
  go_wp2_with fail
  refine (l1In_any _ _ _ _).mono ?_
  rintro e wD ⟨rfl, rfl⟩
  cases hI : inB t1 0 40
  · have HR : Hid (R = false) := by unfold Hid; rw [hR.out, hI]; simp
    clear hI
    go_wp2
    go_ret
    exact ⟨ret_bool HR.out.symm, B⟩
  rw [hI] at hR
  clear hI
  go_wp2_with fail
  refine (l1Words_any _ _ _ _ us rfl (ints_rd (RR1.out.below B)).1 hlen2).mono ?_
  rintro e wE ⟨rfl, rfl⟩
  cases hS : allW us
  · have HR : Hid (R = false) := by unfold Hid; rw [hR.out]; unfold gotB; rw [hS]; simp
    clear hS
    go_wp2
    go_ret
    exact ⟨ret_bool HR.out.symm, B⟩
  by_cases h6 : us.length ≤ 6
  rotate_left
  · have HR : Hid (R = false) := by unfold Hid; rw [hR.out]; unfold gotB; rw [decide_eq_false h6]; simp
    have hq6 : (6 : Int) < (us.length : Int) := by omega
    clear hS
    go_wp2
    go_ret
    exact ⟨ret_bool HR.out.symm, B⟩
  have HR : Hid (R = (wentB q1 && !((js.take j).any fun y => clashD x.n x.s (jobC y) (o, d1, b1, k, zs)))) := by unfold Hid; rw [hR.out]; unfold gotB; rw [hS, decide_eq_true h6]; simp
  have hq6 : ¬ (6 : Int) < (us.length : Int) := by omega
  clear hS hR
  have HX := hidden X
  have HA := hidden A
  clear X A
  go_wp2
  go_loopw [6] (fun iv wr => ∃ m : Nat, m ≤ j ∧ iv = .int .i64 m ∧ ((js.take m).any fun y => clashD x.n x.s (jobC y) (o, d1, b1, k, zs)) = false ∧ Below w.heap.size w wr ∧ Below wE.heap.size wE wr) (fun iv _ => j - (intOf iv).toNat)
  case atStart => exact ⟨0, Nat.zero_le _, rfl, rfl, B, Below.refl _ _⟩
  case round =>
    clear k0 k1 k2 k3 k4 k5 k6 k7 k8 k9 k10 k11 k12 k13 k14 k15 k16 l0 l1 l2 l3 l4 l5 l6 l7 B
    obtain ⟨m, hm, rfl, ht, hb, hb2⟩ := hrel
    have A := HA.out.below hb2 HA.out.lt
    have X := HX.out.below hb2 HX.out.lt
    obtain ⟨k0, k1, k2, k3, k4, k5, k6, k7, k8, k9, k10, k11, k12, k13, k14, k15, k16⟩ := A.cells17
    obtain ⟨l0, l1, l2, l3, l4, l5, l6, l7⟩ := X.cells8e
    have lA := A.lt
    have lX := X.lt
    by_cases hlt2 : m < j
    · rcases jobS_at (hJ.below hb) with h0' | ⟨bb, oo, hbo, hbl2, hcs⟩
      · omega
      simp only [Option.some.injEq, Addr.mk.injEq, and_true] at hbo
      obtain ⟨rfl, rfl⟩ := hbo
      obtain ⟨o2, d2, b2, k2', zs2, t2, us2, q2, hdj⟩ : ∃ o d1 b1 k zs t1 us q1, js[m]? = some (o, d1, b1, k, zs, t1, us, q1) := ⟨_, _, _, _, _, _, _, _, List.getElem?_eq_getElem (by omega)⟩
      have hin := job_inner hdj
      have hlen3 : zs2.length ≤ 2097152 := by unfold wttJobS at hw; simp only [wJob] at hin; omega
      obtain ⟨bv0, dv0, bv1, dv1, c0, c1, c2, c3, c4, c5, c6, c7, r0, r1⟩ := hcs m o2 d2 b2 k2' zs2 t2 us2 q2 hdj
      have j1 : (0 : Int) ≤ (m : Int) := by omega
      have j2 : (m : Int) < (js.length : Int) := by omega
      have j3 : (m : Int) < (j : Int) := by omega
      have HIT := hidden (any_hit (p := fun y => clashD x.n x.s (jobC y) (o, d1, b1, k, zs)) (l := js.take j) (j := m) (x := (o2, d2, b2, k2', zs2, t2, us2, q2)) (by rw [List.getElem?_take, if_pos hlt2]; exact hdj))
      have STP := hidden (any_step (p := fun y => clashD x.n x.s (jobC y) (o, d1, b1, k, zs)) hdj)
      have HT := hidden ht
      have Q0 := hidden (ints_rd r0).1
      have Q1 := hidden (ints_rd (RR0.out.below hb)).1
      have EQ : Hid (clashD x.n x.s (jobC (o2, d2, b2, k2', zs2, t2, us2, q2)) (o, d1, b1, k, zs) = metC (spanC x.n x.s o2 d2 b2 k2' zs2) (spanC x.n x.s o d1 b1 k zs)) := rfl
      clear hcs hdj hin ht r0 r1 c5 c6 c7
      cases hmm : metC (spanC x.n x.s o2 d2 b2 k2' zs2) (spanC x.n x.s o d1 b1 k zs)
      · have HS := hidden (STP.out (by rw [EQ.out, hmm]) HT.out)
        go_wp2_with fail
        go_region_held3 (fun w' => (∀ q, w'.cell? ⟨w.heap.size, q, none⟩ = wr.cell? ⟨w.heap.size, q, none⟩) ∧ (∀ q, w'.cell? ⟨w.heap.size + 1, q, none⟩ = wr.cell? ⟨w.heap.size + 1, q, none⟩) ∧ (∀ q, w'.cell? ⟨b, q, none⟩ = wr.cell? ⟨b, q, none⟩))
          (first | (exact ⟨fun q => hbC.cell (p := ⟨w.heap.size, q, none⟩) lA, fun q => hbC.cell (p := ⟨w.heap.size + 1, q, none⟩) lX, fun q => hbC.cell (p := ⟨b, q, none⟩) hbl2⟩) | (exact ⟨fun _ => rfl, fun _ => rfl, fun _ => rfl⟩) | go_keep)
          (first | (go_at_call 132; refine (specClash_any _ x.n x.s o2 d2 b2 k2' _ _ _ zs2 o d1 b1 k _ _ _ zs rfl Q0.out.draw hlen3 rfl Q1.out.draw hlen).mono ?_; rintro e wC ⟨he, hbC0⟩; rw [hmm] at he; subst he; have hbC : Below wr.heap.size wr wC := (Below.refl wr.heap.size wr).drew.trans hbC0))
        have HB := hidden (Below.andThen hb hbC)
        have HB2 := hidden (Below.andThen hb2 hbC)
        go_wp2
        go_roundw
        case rel => exact ⟨m + 1, by omega, by go_num, HS.out, HB.out, HB2.out⟩
        case measure => simp [intOf]; omega
      · have HS := hidden (HIT.out (by rw [EQ.out, hmm]))
        have HR2 : Hid (R = false) := by unfold Hid; rw [HR.out, HS.out]; simp
        go_wp2_with fail
        go_region_held3 (fun w' => (∀ q, w'.cell? ⟨w.heap.size, q, none⟩ = wr.cell? ⟨w.heap.size, q, none⟩) ∧ (∀ q, w'.cell? ⟨w.heap.size + 1, q, none⟩ = wr.cell? ⟨w.heap.size + 1, q, none⟩) ∧ (∀ q, w'.cell? ⟨b, q, none⟩ = wr.cell? ⟨b, q, none⟩))
          (first | (exact ⟨fun q => hbC.cell (p := ⟨w.heap.size, q, none⟩) lA, fun q => hbC.cell (p := ⟨w.heap.size + 1, q, none⟩) lX, fun q => hbC.cell (p := ⟨b, q, none⟩) hbl2⟩) | (exact ⟨fun _ => rfl, fun _ => rfl, fun _ => rfl⟩) | go_keep)
          (first | (go_at_call 132; refine (specClash_any _ x.n x.s o2 d2 b2 k2' _ _ _ zs2 o d1 b1 k _ _ _ zs rfl Q0.out.draw hlen3 rfl Q1.out.draw hlen).mono ?_; rintro e wC ⟨he, hbC0⟩; rw [hmm] at he; subst he; have hbC : Below wr.heap.size wr wC := (Below.refl wr.heap.size wr).drew.trans hbC0))
        have HB := hidden (Below.andThen hb hbC)
        go_wp2
        go_ret
        exact ⟨ret_bool HR2.out.symm, HB.out⟩
    · obtain rfl : m = j := by omega
      have HR2 : Hid (R = (decide (q1 = 0) || inB q1 4 7)) := by unfold Hid; rw [HR.out, ht]; simp [wentB]
      clear ht HR
      by_cases hq : q1 = 0
      · have hqn : (q1 == 0) = true := by simp [hq]
        have HR3 : Hid (R = true) := by unfold Hid; rw [HR2.out, decide_eq_true hq]; simp
        clear HR2
        go_wp2
        go_ret
        exact ⟨ret_bool HR3.out.symm, hb⟩
      · have hqn : (q1 == 0) = false := by simp [hq]
        have HR3 : Hid (R = inB q1 4 7) := by unfold Hid; rw [HR2.out, decide_eq_false hq]; simp
        clear HR2
        go_wp2_with fail
        refine (l1In_any _ _ _ _).mono ?_
        rintro e wF ⟨rfl, rfl⟩
        go_wp2
        go_ret
        exact ⟨ret_bool HR3.out.symm, hb⟩

set_option maxRecDepth 20000 in
set_option maxHeartbeats 3200000 in
theorem specEngOk_any (w : World) (cs : Array Value) (e : EngD) (h : EngRd w cs e) (hw : wtEng e ≤ 1048576) :
    Calls Tryz.prog 20 #[.agg cs] w fun e' w' => e' = .returned (.bool (engB e)) ∧ Below w.heap.size w w' := by
  obtain ⟨x, ms, ds, ws, js, an, ts⟩ := e
  obtain ⟨am, cm, ad, cd, aw, cw, aj, cj, aa, ca, au, cu, rfl, r0, r1, r2, r3, r4, r5⟩ := h.parts
  have HT : wtArr ms ds + wttCmdS ws + wttJobS js + wttAnsS an + wttTurnS ts ≤ 1048576 := hw
  have HE : Hid (engB ⟨x, ms, ds, ws, js, an, ts⟩ = (arrB x ms ds && ((decide (ws.length ≤ 8) && (decide (js.length ≤ 4) && (decide (an.length ≤ 8) && decide (ts.length ≤ 400)))) && jobsB x.n x.s js js.length))) := rfl
  generalize engB ⟨x, ms, ds, ws, js, an, ts⟩ = R at HE ⊢
  have hjl : js.length ≤ 1048576 := by have : wttJobS js = js.length + sumL (js.map wJob) := rfl; omega
  clear hw h
  go_enter Tryz.func20, Tryz.ntmps20
  unfold engC
  have HA0 := hidden (Box.new w 35 #[.int .i64 x.id, .int .i64 x.n, .int .i64 x.s, .slice am ms.length cm, .int .i64 x.lost, .int .i64 x.built, .int .i64 x.seq, .int .i64 x.tail, .int .i64 x.gen, .slice ad ds.length cd, .int .i64 x.fuse, .bool x.down, .bool x.broken, .slice aw ws.length cw, .slice aj js.length cj, .slice aa an.length ca, .slice au ts.length cu])
  have HB0 := hidden (new_below w (.cells #[.int .i64 x.id, .int .i64 x.n, .int .i64 x.s, .slice am ms.length cm, .int .i64 x.lost, .int .i64 x.built, .int .i64 x.seq, .int .i64 x.tail, .int .i64 x.gen, .slice ad ds.length cd, .int .i64 x.fuse, .bool x.down, .bool x.broken, .slice aw ws.length cw, .slice aj js.length cj, .slice aa an.length ca, .slice au ts.length cu] 35))
  go_wp2
  generalize w.alloc (.cells #[.int .i64 x.id, .int .i64 x.n, .int .i64 x.s, .slice am ms.length cm, .int .i64 x.lost, .int .i64 x.built, .int .i64 x.seq, .int .i64 x.tail, .int .i64 x.gen, .slice ad ds.length cd, .int .i64 x.fuse, .bool x.down, .bool x.broken, .slice aw ws.length cw, .slice aj js.length cj, .slice aa an.length ca, .slice au ts.length cu] 35) = V at HA0 HB0 ⊢
  go_loopw [3] (fun iv wr => ∃ m : Nat, m ≤ js.length ∧ iv = .int .i64 m ∧ jobsB x.n x.s js m = true ∧ Below V.heap.size V wr) (fun iv _ => js.length - (intOf iv).toNat)
  case atStart => exact ⟨0, Nat.zero_le _, rfl, rfl, Below.refl _ _⟩
  case round =>
    obtain ⟨m, hm, rfl, ht, hb⟩ := hrel
    have A := HA0.out.below hb HA0.out.lt
    have B := Below.andThen HB0.out hb
    obtain ⟨k0, k1, k2, k3, k4, k5, k6, k7, k8, k9, k10, k11, k12, k13, k14, k15, k16⟩ := A.cells17
    by_cases hlt : m < js.length
    · have CJ := hidden (l15Job_any wr x (.slice am ms.length cm) (.slice ad ds.length cd) (.slice aw ws.length cw) (.slice aa an.length ca) (.slice au ts.length cu) aj cj js m hlt (r3.below B) (by omega))
      have STP := hidden (jobsB_step ht)
      have FL := hidden (jobsB_fail (gn := x.n) (gs := x.s) (js := js) (n := js.length) hlt)
      clear ht
      cases hJ : jobAt x.n x.s js m
      · have HF : Hid (R = false) := by unfold Hid; rw [HE.out, FL.out hJ]; simp
        go_wp2_with fail
        refine CJ.out.mono ?_
        rintro e w1 ⟨he, b⟩
        rw [hJ] at he
        subst he
        have HB := hidden (Below.andThen B b)
        go_wp2
        go_ret
        exact ⟨ret_bool HF.out.symm, HB.out⟩
      · have HS := hidden (STP.out hJ)
        go_wp2_with fail
        refine CJ.out.mono ?_
        rintro e w1 ⟨he, b⟩
        rw [hJ] at he
        subst he
        have HB := hidden (Below.andThen hb b)
        go_wp2
        go_roundw
        case rel => exact ⟨m + 1, by omega, by go_num, HS.out, HB.out⟩
        case measure => simp [intOf]; omega
    · obtain rfl : m = js.length := by omega
      rw [ht] at HE
      clear ht
      go_wp2_with fail
      refine (specArrOk_any _ 0 0 0 x _ _ _ _ _ _ ms ds (r0.below B) (r1.below B) (by omega)).mono ?_
      rintro e w1 ⟨rfl, b⟩
      have A := A.below b A.lt
      have B := Below.andThen B b
      clear k0 k1 k2 k3 k4 k5 k6 k7 k8 k9 k10 k11 k12 k13 k14 k15 k16
      obtain ⟨k0, k1, k2, k3, k4, k5, k6, k7, k8, k9, k10, k11, k12, k13, k14, k15, k16⟩ := A.cells17
      cases hA : arrB x ms ds
      · have HR : Hid (R = false) := by unfold Hid; rw [HE.out, hA]; rfl
        clear hA
        go_wp2
        go_ret
        exact ⟨ret_bool HR.out.symm, B⟩
      have HR : Hid (R = (decide (ws.length ≤ 8) && (decide (js.length ≤ 4) && (decide (an.length ≤ 8) && decide (ts.length ≤ 400))))) := by unfold Hid; rw [HE.out, hA]; simp
      clear hA HE
      by_cases q0 : ws.length ≤ 8
      · by_cases q1 : js.length ≤ 4
        · by_cases q2 : an.length ≤ 8
          · have e : Hid (∀ b : Bool, (decide (ws.length ≤ 8) && (decide (js.length ≤ 4) && (decide (an.length ≤ 8) && b))) = b) := fun b => by simp [q0, q1, q2]
            have e2 : Hid (decide ((ts.length : Int) ≤ 400) = decide (ts.length ≤ 400)) := by unfold Hid; rw [decide_eq_decide]; omega
            go_wp2
            go_ret
            exact ⟨ret_bool (by rw [HR.out, e.out, e2.out]), B⟩
          · have HF : Hid (R = false) := by unfold Hid; rw [HR.out, decide_eq_false q2]; simp
            go_wp2
            go_ret
            exact ⟨ret_bool HF.out.symm, B⟩
        · have HF : Hid (R = false) := by unfold Hid; rw [HR.out, decide_eq_false q1]; simp
          go_wp2
          go_ret
          exact ⟨ret_bool HF.out.symm, B⟩
      · have HF : Hid (R = false) := by unfold Hid; rw [HR.out, decide_eq_false q0]; simp
        go_wp2
        go_ret
        exact ⟨ret_bool HF.out.symm, B⟩

end Go.Proofs.YtgjldmjlbhkgbaaGreat

/-
  The specification's CanBegin walked, with l15Can. Condition: the engine weighs at most 1048576.
-/
namespace Go.Proofs.YtgjldmjlbhkgbaaGreat
open Go.RowKit

set_option maxRecDepth 20000 in
set_option maxHeartbeats 6400000 in
theorem l15Can_any (w : World) (x : ArrN) (vm vd : Value) (aw aj aa au : Option Addr) (cw cj na ca nu cu : Nat) (ws : List CmdD) (js : List JobD) (m : Nat) (c : CmdD) (hc : ws[m]? = some c) (hW : (tCmdS 0).Rd w [.slice aw ws.length cw] ws) (hJ : (tJobS 0).Rd w [.slice aj js.length cj] js) (hw : wttCmdS ws + wttJobS js ≤ 1048576) (hna : na ≤ 1048576) (hnu : nu ≤ 1048576) :
    Calls Tryz.prog 85 #[.agg (engC x vm vd (.slice aw ws.length cw) (.slice aj js.length cj) (.slice aa na ca) (.slice au nu cu)), .int .i64 m] w fun e w' => e = .returned (.bool (freeD x.n x.s js ws m c && (decide (js.length < 4) && (decide (na + js.length < 8) && decide (nu + js.length < 400))))) ∧ Below w.heap.size w w' := by
  have hjl : js.length ≤ 1048576 := by unfold wttJobS at hw; omega
  have hwl : ws.length ≤ 1048576 := by unfold wttCmdS at hw; omega
  have hm := (List.getElem?_eq_some_iff.1 hc).1
  rcases cmdS_at hW with h0' | ⟨b, off, rfl, hbl, hcs⟩
  · omega
  obtain ⟨o, d1, b1, k, zs⟩ := c
  have hdj := hc
  have hin := cmd_inner hdj
  have hlen : zs.length ≤ 2097152 := by unfold wttCmdS at hw; simp only at hin; omega
  obtain ⟨av, cv, c0, c1, c2, c3, c4, r0⟩ := hcs m o d1 b1 k zs hdj
  have i1 : (0 : Int) ≤ (m : Int) := by omega
  have i2 : (m : Int) < (ws.length : Int) := by omega
  clear hcs hdj hin hc
  unfold engC
  have HA0 := hidden (Box.new w 35 #[.int .i64 x.id, .int .i64 x.n, .int .i64 x.s, vm, .int .i64 x.lost, .int .i64 x.built, .int .i64 x.seq, .int .i64 x.tail, .int .i64 x.gen, vd, .int .i64 x.fuse, .bool x.down, .bool x.broken, .slice (some ⟨b, off, none⟩) ws.length cw, .slice aj js.length cj, .slice aa na ca, .slice au nu cu])
  have HB0 := hidden (new_below w (.cells #[.int .i64 x.id, .int .i64 x.n, .int .i64 x.s, vm, .int .i64 x.lost, .int .i64 x.built, .int .i64 x.seq, .int .i64 x.tail, .int .i64 x.gen, vd, .int .i64 x.fuse, .bool x.down, .bool x.broken, .slice (some ⟨b, off, none⟩) ws.length cw, .slice aj js.length cj, .slice aa na ca, .slice au nu cu] 35))
  go_enter Tryz.func85, Tryz.ntmps85
  go_wp2
  generalize w.alloc (.cells #[.int .i64 x.id, .int .i64 x.n, .int .i64 x.s, vm, .int .i64 x.lost, .int .i64 x.built, .int .i64 x.seq, .int .i64 x.tail, .int .i64 x.gen, vd, .int .i64 x.fuse, .bool x.down, .bool x.broken, .slice (some ⟨b, off, none⟩) ws.length cw, .slice aj js.length cj, .slice aa na ca, .slice au nu cu] 35) = V at HA0 HB0 ⊢
  go_loopw [5] (fun iv wr => ∃ j : Nat, j ≤ js.length ∧ iv = .int .i64 j ∧ ((js.take j).any fun y => clashD x.n x.s (jobC y) (o, d1, b1, k, zs)) = false ∧ Below V.heap.size V wr) (fun iv _ => js.length - (intOf iv).toNat)
  case atStart => exact ⟨0, Nat.zero_le _, rfl, rfl, Below.refl _ _⟩
  case round =>
    obtain ⟨j, hj, rfl, ht, hb⟩ := hrel
    have A := HA0.out.below hb HA0.out.lt
    have B := Below.andThen HB0.out hb
    have y1 : wr.cell? ⟨w.heap.size, 1, none⟩ = some (.int .i64 x.n) := A.cell 1
    have y2 : wr.cell? ⟨w.heap.size, 2, none⟩ = some (.int .i64 x.s) := A.cell 2
    have y13 : wr.cell? ⟨w.heap.size, 13, none⟩ = some (.slice (some ⟨b, off, none⟩) ws.length cw) := A.cell 13
    have y14 : wr.cell? ⟨w.heap.size, 14, none⟩ = some (.slice aj js.length cj) := A.cell 14
    have y15 : wr.cell? ⟨w.heap.size, 15, none⟩ = some (.slice aa na ca) := A.cell 15
    have y16 : wr.cell? ⟨w.heap.size, 16, none⟩ = some (.slice au nu cu) := A.cell 16
    have lA := A.lt
    have z0 := (B.cell (p := ⟨b, off + m * 5, none⟩) hbl).trans c0
    have z1 := (B.cell (p := ⟨b, off + m * 5 + 1, none⟩) hbl).trans c1
    have z2 := (B.cell (p := ⟨b, off + m * 5 + 2, none⟩) hbl).trans c2
    have z3 := (B.cell (p := ⟨b, off + m * 5 + 3, none⟩) hbl).trans c3
    have z4 := (B.cell (p := ⟨b, off + m * 5 + 4, none⟩) hbl).trans c4
    have hbr : b < wr.heap.size := Nat.lt_of_lt_of_le hbl B.size
    have Q1 := hidden (ints_rd (r0.below B)).1
    by_cases hlt : j < js.length
    · rcases jobS_at (hJ.below B) with h0' | ⟨bj, oj, rfl, hbj, hcj⟩
      · omega
      obtain ⟨o2, d2, b2, k2, zs2, t2, us2, q2, hdj⟩ : ∃ o d1 b1 k zs t1 us q1, js[j]? = some (o, d1, b1, k, zs, t1, us, q1) := ⟨_, _, _, _, _, _, _, _, List.getElem?_eq_getElem (by omega)⟩
      have hin := job_inner hdj
      have hlen3 : zs2.length ≤ 2097152 := by unfold wttJobS at hw; simp only [wJob] at hin; omega
      obtain ⟨bv0, dv0, bv1, dv1, e0, e1, e2, e3, e4, e5, e6, e7, s0, s1⟩ := hcj j o2 d2 b2 k2 zs2 t2 us2 q2 hdj
      have j1 : (0 : Int) ≤ (j : Int) := by omega
      have j2 : (j : Int) < (js.length : Int) := by omega
      have HIT := hidden (any_hit (p := fun y => clashD x.n x.s (jobC y) (o, d1, b1, k, zs)) (l := js) (j := j) (x := (o2, d2, b2, k2, zs2, t2, us2, q2)) hdj)
      have STP := hidden (any_step (p := fun y => clashD x.n x.s (jobC y) (o, d1, b1, k, zs)) hdj)
      have HT := hidden ht
      have Q0 := hidden (ints_rd s0).1
      have EQ : Hid (clashD x.n x.s (jobC (o2, d2, b2, k2, zs2, t2, us2, q2)) (o, d1, b1, k, zs) = metC (spanC x.n x.s o2 d2 b2 k2 zs2) (spanC x.n x.s o d1 b1 k zs)) := rfl
      clear hcj hdj hin ht s0 s1 e5 e6 e7 y15 y16
      cases hmm : metC (spanC x.n x.s o2 d2 b2 k2 zs2) (spanC x.n x.s o d1 b1 k zs)
      · have HS := hidden (STP.out (by rw [EQ.out, hmm]) HT.out)
        go_wp2_with fail
        go_region_held3 (fun w' => (∀ q, w'.cell? ⟨w.heap.size, q, none⟩ = wr.cell? ⟨w.heap.size, q, none⟩) ∧ (∀ q, w'.cell? ⟨b, q, none⟩ = wr.cell? ⟨b, q, none⟩) ∧ (∀ q, w'.cell? ⟨bj, q, none⟩ = wr.cell? ⟨bj, q, none⟩))
          (first | (exact ⟨fun q => hbC.cell (p := ⟨w.heap.size, q, none⟩) lA, fun q => hbC.cell (p := ⟨b, q, none⟩) hbr, fun q => hbC.cell (p := ⟨bj, q, none⟩) hbj⟩) | (exact ⟨fun _ => rfl, fun _ => rfl, fun _ => rfl⟩) | go_keep)
          (first | (go_at_call 132; refine (specClash_any _ x.n x.s o2 d2 b2 k2 _ _ _ zs2 o d1 b1 k _ _ _ zs rfl Q0.out.draw hlen3 rfl Q1.out.draw hlen).mono ?_; rintro e wC ⟨he, hbC0⟩; rw [hmm] at he; subst he; have hbC : Below wr.heap.size wr wC := (Below.refl wr.heap.size wr).drew.trans hbC0))
        have HB := hidden (Below.andThen hb hbC)
        go_wp2
        go_roundw
        case rel => exact ⟨j + 1, by omega, by go_num, HS.out, HB.out⟩
        case measure => simp [intOf]; omega
      · have HF : Hid (freeD x.n x.s js ws m (o, d1, b1, k, zs) = false) := by unfold Hid freeD; rw [HIT.out (by rw [EQ.out, hmm])]; rfl
        go_wp2_with fail
        go_region_held3 (fun w' => (∀ q, w'.cell? ⟨w.heap.size, q, none⟩ = wr.cell? ⟨w.heap.size, q, none⟩) ∧ (∀ q, w'.cell? ⟨b, q, none⟩ = wr.cell? ⟨b, q, none⟩) ∧ (∀ q, w'.cell? ⟨bj, q, none⟩ = wr.cell? ⟨bj, q, none⟩))
          (first | (exact ⟨fun q => hbC.cell (p := ⟨w.heap.size, q, none⟩) lA, fun q => hbC.cell (p := ⟨b, q, none⟩) hbr, fun q => hbC.cell (p := ⟨bj, q, none⟩) hbj⟩) | (exact ⟨fun _ => rfl, fun _ => rfl, fun _ => rfl⟩) | go_keep)
          (first | (go_at_call 132; refine (specClash_any _ x.n x.s o2 d2 b2 k2 _ _ _ zs2 o d1 b1 k _ _ _ zs rfl Q0.out.draw hlen3 rfl Q1.out.draw hlen).mono ?_; rintro e wC ⟨he, hbC0⟩; rw [hmm] at he; subst he; have hbC : Below wr.heap.size wr wC := (Below.refl wr.heap.size wr).drew.trans hbC0))
        have HB := hidden (Below.andThen B hbC)
        go_wp2
        go_ret
        exact ⟨ret_bool (by rw [HF.out]; rfl), HB.out⟩
    · obtain rfl : j = js.length := by omega
      rw [List.take_length] at ht
      have HN := hidden ht
      have B0 := hidden B
      clear ht z0 z1 z2 z3 z4 y1 y2 y13 y15 y16 Q1 hbr
      obtain ⟨wo, hwo⟩ : ∃ y, y = wr := ⟨_, rfl⟩
      subst hwo
      go_wp2
      go_loopw [6] (fun iv wq => ∃ i : Nat, i ≤ m ∧ iv = .int .i64 i ∧ ((ws.take i).any fun y => clashD x.n x.s y (o, d1, b1, k, zs)) = false ∧ Below wo.heap.size wo wq) (fun iv _ => m - (intOf iv).toNat)
      case atStart => exact ⟨0, Nat.zero_le _, rfl, rfl, Below.refl _ _⟩
      case round =>
        obtain ⟨i, hi, rfl, ht, hb2⟩ := hrel
        have A := A.below hb2 lA
        have B := Below.andThen B0.out hb2
        have y1 := A.cell 1
        have y2 := A.cell 2
        have y13 := A.cell 13
        have y14 := A.cell 14
        have y15 := A.cell 15
        have y16 := A.cell 16
        dsimp at y1 y2 y13 y14 y15 y16
        have lA := A.lt
        have z0 := (B.cell (p := ⟨b, off + m * 5, none⟩) hbl).trans c0
        have z1 := (B.cell (p := ⟨b, off + m * 5 + 1, none⟩) hbl).trans c1
        have z2 := (B.cell (p := ⟨b, off + m * 5 + 2, none⟩) hbl).trans c2
        have z3 := (B.cell (p := ⟨b, off + m * 5 + 3, none⟩) hbl).trans c3
        have z4 := (B.cell (p := ⟨b, off + m * 5 + 4, none⟩) hbl).trans c4
        have hbr : b < wr.heap.size := Nat.lt_of_lt_of_le hbl B.size
        have Q1 := hidden (ints_rd (r0.below B)).1
        by_cases hlt2 : i < m
        · rcases cmdS_at (hW.below B) with h0' | ⟨bb, oo, hbo, hbl2, hcs⟩
          · omega
          simp only [Option.some.injEq, Addr.mk.injEq, and_true] at hbo
          obtain ⟨rfl, rfl⟩ := hbo
          obtain ⟨o2, d2, b2, k2, zs2, hdj⟩ : ∃ o d1 b1 k zs, ws[i]? = some (o, d1, b1, k, zs) := ⟨_, _, _, _, _, List.getElem?_eq_getElem (by omega)⟩
          have hin := cmd_inner hdj
          have hlen3 : zs2.length ≤ 2097152 := by unfold wttCmdS at hw; simp only at hin; omega
          obtain ⟨bv0, dv0, e0, e1, e2, e3, e4, s0⟩ := hcs i o2 d2 b2 k2 zs2 hdj
          have j1 : (0 : Int) ≤ (i : Int) := by omega
          have j2 : (i : Int) < (ws.length : Int) := by omega
          have j3 : (i : Int) < (m : Int) := by omega
          have HIT := hidden (any_hit (p := fun y => clashD x.n x.s y (o, d1, b1, k, zs)) (l := ws.take m) (j := i) (x := (o2, d2, b2, k2, zs2)) (by rw [List.getElem?_take, if_pos hlt2]; exact hdj))
          have STP := hidden (any_step (p := fun y => clashD x.n x.s y (o, d1, b1, k, zs)) hdj)
          have HT := hidden ht
          have Q0 := hidden (ints_rd s0).1
          have EQ : Hid (clashD x.n x.s (o2, d2, b2, k2, zs2) (o, d1, b1, k, zs) = metC (spanC x.n x.s o2 d2 b2 k2 zs2) (spanC x.n x.s o d1 b1 k zs)) := rfl
          clear hcs hdj hin ht s0 y14 y15 y16
          cases hmm : metC (spanC x.n x.s o2 d2 b2 k2 zs2) (spanC x.n x.s o d1 b1 k zs)
          · have HS := hidden (STP.out (by rw [EQ.out, hmm]) HT.out)
            go_wp2_with fail
            go_region_held3 (fun w' => (∀ q, w'.cell? ⟨w.heap.size, q, none⟩ = wr.cell? ⟨w.heap.size, q, none⟩) ∧ (∀ q, w'.cell? ⟨b, q, none⟩ = wr.cell? ⟨b, q, none⟩))
              (first | (exact ⟨fun q => hbC.cell (p := ⟨w.heap.size, q, none⟩) lA, fun q => hbC.cell (p := ⟨b, q, none⟩) hbr⟩) | (exact ⟨fun _ => rfl, fun _ => rfl⟩) | go_keep)
              (first | (go_at_call 132; refine (specClash_any _ x.n x.s o2 d2 b2 k2 _ _ _ zs2 o d1 b1 k _ _ _ zs rfl Q0.out.draw hlen3 rfl Q1.out.draw hlen).mono ?_; rintro e wC ⟨he, hbC0⟩; rw [hmm] at he; subst he; have hbC : Below wr.heap.size wr wC := (Below.refl wr.heap.size wr).drew.trans hbC0))
            have HB := hidden (Below.andThen hb2 hbC)
            go_wp2
            go_roundw
            case rel => exact ⟨i + 1, by omega, by go_num, HS.out, HB.out⟩
            case measure => simp [intOf]; omega
          · have HF : Hid (freeD x.n x.s js ws m (o, d1, b1, k, zs) = false) := by unfold Hid freeD; rw [HIT.out (by rw [EQ.out, hmm])]; simp
            go_wp2_with fail
            go_region_held3 (fun w' => (∀ q, w'.cell? ⟨w.heap.size, q, none⟩ = wr.cell? ⟨w.heap.size, q, none⟩) ∧ (∀ q, w'.cell? ⟨b, q, none⟩ = wr.cell? ⟨b, q, none⟩))
              (first | (exact ⟨fun q => hbC.cell (p := ⟨w.heap.size, q, none⟩) lA, fun q => hbC.cell (p := ⟨b, q, none⟩) hbr⟩) | (exact ⟨fun _ => rfl, fun _ => rfl⟩) | go_keep)
              (first | (go_at_call 132; refine (specClash_any _ x.n x.s o2 d2 b2 k2 _ _ _ zs2 o d1 b1 k _ _ _ zs rfl Q0.out.draw hlen3 rfl Q1.out.draw hlen).mono ?_; rintro e wC ⟨he, hbC0⟩; rw [hmm] at he; subst he; have hbC : Below wr.heap.size wr wC := (Below.refl wr.heap.size wr).drew.trans hbC0))
            have HB := hidden (Below.andThen B hbC)
            go_wp2
            go_ret
            exact ⟨ret_bool (by rw [HF.out]; rfl), HB.out⟩
        · obtain rfl : i = m := by omega
          have HF : Hid (freeD x.n x.s js ws i (o, d1, b1, k, zs) = true) := by unfold Hid freeD; rw [HN.out, ht]; rfl
          clear ht z0 z1 z2 z3 z4 Q1
          by_cases q1 : js.length < 4
          · by_cases q2 : na + js.length < 8
            · have e2 : Hid (decide ((nu : Int) + (js.length : Int) < 400) = decide (nu + js.length < 400)) := by unfold Hid; rw [decide_eq_decide]; omega
              have e : Hid (∀ b : Bool, (decide (js.length < 4) && (decide (na + js.length < 8) && b)) = b) := fun b => by simp [q1, q2]
              go_wp2
              go_ret
              exact ⟨ret_bool (by rw [HF.out, e.out, e2.out, Bool.true_and]), B⟩
            · have e : Hid ((decide (js.length < 4) && (decide (na + js.length < 8) && decide (nu + js.length < 400))) = false) := by unfold Hid; rw [decide_eq_false q2]; simp
              go_wp2
              go_ret
              exact ⟨ret_bool (by first | rfl | rw [e.out, Bool.and_false]), B⟩
          · have e : Hid ((decide (js.length < 4) && (decide (na + js.length < 8) && decide (nu + js.length < 400))) = false) := by unfold Hid; rw [decide_eq_false q1]; rfl
            go_wp2
            go_ret
            exact ⟨ret_bool (by first | rfl | rw [e.out, Bool.and_false]), B⟩

set_option maxRecDepth 20000 in
set_option maxHeartbeats 3200000 in
theorem specCanBegin_any (w : World) (cs : Array Value) (e : EngD) (k : Int) (h : EngRd w cs e) (hw : wtEng e ≤ 1048576) :
    Calls Tryz.prog 29 #[.agg cs, .int .i64 k] w fun e' w' => e' = .returned (.bool (canB e k)) ∧ Below w.heap.size w w' := by
  obtain ⟨x, ms, ds, ws, js, an, ts⟩ := e
  obtain ⟨am, cm, ad, cd, aw, cw, aj, cj, aa, ca, au, cu, rfl, r0, r1, r2, r3, r4, r5⟩ := h.parts
  have HT : wtArr ms ds + wttCmdS ws + wttJobS js + wttAnsS an + wttTurnS ts ≤ 1048576 := hw
  have hwl : ws.length ≤ 1048576 := by have : wttCmdS ws = ws.length + sumL (ws.map fun x => x.2.2.2.2.length) := rfl; omega
  have hal : an.length ≤ 1048576 := by have : wttAnsS an = an.length + sumL (an.map fun x => x.2.2.length) := rfl; omega
  have htl : ts.length ≤ 1048576 := by have : wttTurnS ts = ts.length + sumL (ts.map wTurn) := rfl; omega
  have HE : Hid (canB ⟨x, ms, ds, ws, js, an, ts⟩ k = (engB ⟨x, ms, ds, ws, js, an, ts⟩ && (inB k 0 ((ws.length : Int) - 1) && ((decide (js.length < 4) && (decide (an.length + js.length < 8) && decide (ts.length + js.length < 400))) && freeB ⟨x, ms, ds, ws, js, an, ts⟩ k.toNat)))) := rfl
  generalize canB ⟨x, ms, ds, ws, js, an, ts⟩ k = R at HE ⊢
  have SL : (Tryz.prog.info? 35).map (·.size) = some (engC x (.slice am ms.length cm) (.slice ad ds.length cd) (.slice aw ws.length cw) (.slice aj js.length cj) (.slice aa an.length ca) (.slice au ts.length cu)).size := Tryz.sizeEng
  have HH := hidden h
  clear h
  go_enter Tryz.func29, Tryz.ntmps29
  go_wp2_with (first | (refine wpList_load_box rfl _ _ rfl rfl (Box.new _ _ _) _ Tryz.underlying35 rfl SL ?_) | fail)
  refine seal_new ?_
  intro V A B
  refine (specEngOk_any _ _ _ (HH.out.below B) hw).mono ?_
  rintro e1 w1 ⟨rfl, b⟩
  have A := A.below b A.lt
  have B := Below.andThen B b
  have k13 : w1.cell? ⟨w.heap.size, 13, none⟩ = some (.slice aw ws.length cw) := A.cell 13
  clear b
  cases hE : engB ⟨x, ms, ds, ws, js, an, ts⟩
  · have HR : Hid (R = false) := by unfold Hid; rw [HE.out, hE]; rfl
    clear hE
    go_wp2
    go_ret
    exact ⟨ret_bool HR.out.symm, B⟩
  rw [hE] at HE
  clear hE
  have hwr : IntKind.i64.wrap ((ws.length : Int) - 1) = (ws.length : Int) - 1 := IntWalk.i64_in _ (by omega)
  go_wp2_with fail
  refine (l1In_any _ _ _ _).mono ?_
  rintro e2 w2 ⟨rfl, rfl⟩
  cases hI : inB k 0 ((ws.length : Int) - 1)
  · have HR : Hid (R = false) := by unfold Hid; rw [HE.out, hI]; rfl
    clear hI
    go_wp2
    go_ret
    exact ⟨ret_bool HR.out.symm, B⟩
  rw [hI] at HE
  rw [inB_iff] at hI
  obtain ⟨m, rfl⟩ : ∃ m : Nat, k = (m : Int) := ⟨k.toNat, by omega⟩
  have hm : m < ws.length := by omega
  clear hI
  clear k13 SL
  obtain ⟨k0, k1, k2, k3, k4, k5, k6, k7, k8, k9, k10, k11, k12, k13, k14, k15, k16⟩ := A.cells17
  go_wp2_with fail
  obtain ⟨c, hc⟩ : ∃ c, ws[m]? = some c := ⟨_, List.getElem?_eq_getElem hm⟩
  refine (l15Can_any _ x _ _ aw aj aa au cw cj an.length ca ts.length cu ws js m c hc (r2.below B) (r3.below B) (by omega) hal htl).mono ?_
  rintro e4 w4 ⟨rfl, b⟩
  have HR : Hid (R = (freeD x.n x.s js ws m c && (decide (js.length < 4) && (decide (an.length + js.length < 8) && decide (ts.length + js.length < 400))))) := by
    unfold Hid
    have hf : freeB ⟨x, ms, ds, ws, js, an, ts⟩ m = freeD x.n x.s js ws m c := freeB_eq hc
    rw [HE.out, Int.toNat_natCast, hf, Bool.true_and, Bool.true_and, Bool.and_comm]
  have B := Below.andThen B b
  clear HE hc
  go_wp2
  go_ret
  exact ⟨ret_bool HR.out.symm, B⟩

end Go.Proofs.YtgjldmjlbhkgbaaGreat

/-
  The walk of the exact law of CanBegin: at every engine and number it answers true, and nothing that was there has turned. No condition.
-/
namespace Go.Proofs.YtgjldmjlbhkgbaaGreat
open Go.RowKit

set_option maxRecDepth 20000 in
set_option maxHeartbeats 3200000 in
theorem fnExactCanBegin_walk (cs : Array Value) (e : EngD) (k : Int) (w : World) (h : EngRd w cs e) :
    Calls Tryz.prog 6 #[.agg cs, .int .i64 k] w fun e' w' => e' = .returned (.bool true) ∧ Below w.heap.size w w' := by
  have SL : (Tryz.prog.info? 60).map (·.size) = some cs.size := by rw [h.size]; kernel_rfl
  have L := Box.new w 60 cs
  go_enter Tryz.func6, Tryz.ntmps6
  go_wp2_with (first | (refine wpList_load_box rfl _ _ rfl rfl L _ Tryz.underlying60 rfl SL ?_) | fail)
  refine seal_new ?_
  intro V L B
  refine (szEng_any _ cs e _ (h.below B) (by omega) (by omega)).mono ?_
  rintro e1 w1 ⟨rfl, b⟩
  have L := L.below b L.lt
  have B := Below.andThen B b
  clear b
  by_cases hwt : (wtEng e : Int) ≤ 1048576
  rotate_left
  · rw [leftOf_neg (left := 1048576) (wt := wtEng e) (by omega)]
    go_wp2
    go_ret
    exact ⟨rfl, B⟩
  rw [leftOf_pos hwt]
  have hq : ¬ (1048576 : Int) - (wtEng e : Int) < 0 := by omega
  generalize (1048576 : Int) - (wtEng e : Int) = left at hq ⊢
  go_wp2_with (first | (refine wpList_load_box rfl _ _ rfl rfl L _ Tryz.underlying60 rfl SL ?_) | fail)
  refine (toEng_any _ cs e (h.below B) (by omega)).mono ?_
  rintro e2 w2 ⟨c2, rfl, o2, b⟩
  have L := L.below b L.lt
  have B := Below.andThen B b
  clear b
  go_wp2_with fail
  refine (specCanBegin_any _ c2 e k o2.rd (by omega)).mono ?_
  rintro e3 w3 ⟨rfl, b⟩
  have L := L.below b L.lt
  have B := Below.andThen B b
  clear b o2
  go_wp2_with (first | (refine wpList_load_box rfl _ _ rfl rfl L _ Tryz.underlying60 rfl SL ?_) | fail)
  refine (toEng_any _ cs e (h.below B) (by omega)).mono ?_
  rintro e4 w4 ⟨c4, rfl, o4, b⟩
  have L := L.below b L.lt
  have B := Below.andThen B b
  have I4 : (Tryz.prog.info? 35).map (·.size) = some c4.size := by rw [o4.rd.size]; exact Tryz.sizeEng
  have O4 := o4.rd.one
  have S4 := o4.rd.size
  have X4 := hidden o4
  clear b o4
  go_wp2_with (first | (refine wpList_store_new rfl _ _ _ rfl rfl rfl S4.symm I4 O4 ?_; intro V5 X b5) | (refine wpList_load_box rfl _ _ rfl rfl X _ Tryz.underlying35 rfl I4 ?_) | fail)
  have L := L.below b5 L.lt
  have B := Below.andThen B b5
  have X5 := hidden (X4.out.below b5)
  clear S4 O4 X4 b5
  refine (implCanBegin_any _ c4 e k X5.out.rd (by omega)).mono ?_
  rintro e6 w6 ⟨rfl, b⟩
  have L := L.below b L.lt
  have B := Below.andThen B b
  have X := X.below b X.lt
  have X6 := hidden (X5.out.below b)
  have hne : (canB e k != canB e k) = false := by simp
  clear b X5
  go_wp2_with fail
  refine wp_region_held_drew (S := fun w' => Box w' w4.heap.size 35 c4 ∧ Box w' w.heap.size 60 cs) (by kernel_rfl) ⟨X, L⟩ (fun hHeld => ?_)
  refine held_load 0 (fun _ h => h.1) Tryz.underlying35 I4 hHeld ?_
  refine held_load 1 (fun _ h => h.2) Tryz.underlying60 SL hHeld ?_
  refine held_one (i := 2) (by kernel_rfl) rfl (by kernel_rfl) (fun K hK => ?_)
  go_simp
  refine (toEng_any _ cs e (h.below (B.trans ((Below.refl _ _).drew))) (by omega)).mono ?_
  rintro e7 w7 ⟨c7, rfl, o7, b7⟩
  have b8 : Below w6.heap.size w6 w7 := (Below.refl w6.heap.size w6).drew.trans b7
  go_wp2_with fail
  clear hHeld
  refine hK.out _ _ ⟨X.below b8 X.lt, L.below b8 L.lt⟩ (fun hHeld => ?_)
  clear hK K
  refine held_one (i := 3) (by kernel_rfl) rfl (by kernel_rfl) (fun K hK => ?_)
  go_simp
  refine (eqEng_same _ c4 c7 e (X6.out.rd.below b8) o7.rd (by omega)).mono ?_
  rintro e9 w9 ⟨rfl, b9⟩
  have bA := Below.andThen b8 b9
  go_wp2_with fail
  clear hHeld
  refine hK.out _ _ ⟨X.below bA X.lt, L.below bA L.lt⟩ (fun hHeld => ?_)
  clear hK K
  refine held_t 4 hHeld ?_
  refine wpAnyH_done (by kernel_rfl) ?_ _
  have HB := hidden (Below.andThen B bA)
  clear hHeld
  go_wp2
  go_ret
  exact ⟨rfl, HB.out⟩

end Go.Proofs.YtgjldmjlbhkgbaaGreat

/-
  What the row's reading says of arguments with depth, in these texts' own words. No condition.
-/
namespace Go.Proofs.YtgjldmjlbhkgbaaGreat
open Go.RowKit Go.ChangeShapes Go.WideShapes Go.ChangeAt Go.Joins Go.Deep

section
variable {H : Type} {enc : TypeId × Value → H} {P : Program} {w : World} {held : Bool}

theorem rdInts_of {t q : TypeId} {fuel : Nat} {v : Value} {x : DataW H × List MemPlace} (ht : P.underlying t = some (.slice q)) (hq : P.underlying q = some (.int .i64)) (cq : P.cellsOf q = 1)
    (h : DataW.trod enc P w 0 (fun _ => true) held fuel t [v] = some x) : ∃ zs, tIntS.Rd w [v] zs := by
  rcases open_ints ht hq cq h with ⟨hcs, _⟩ | ⟨a, len, cap, zs, hcs, _, hl, hm, hz, _, hcell, hwz⟩
  · simp at hcs
    subst hcs
    exact ⟨[], ints_rd_of (.inl rfl) (Nat.le_refl _) (by simp) (fun _ => rfl)⟩
  · simp at hcs
    subst hcs
    have hr : IsRow .i64 w (some a) len cap zs := .inr ⟨_, rfl, hl, hm, by simpa using hz, hcell, hwz⟩
    obtain ⟨h1, h2, _, _⟩ := hr.reads
    refine ⟨zs.take len, ?_⟩
    have := ints_rd_of (E := 3) (cap := cap) h1 (by omega) (by unfold maxLen at hm; omega) (by simp)
    rw [h2] at this
    exact this

/-- A slice by its elements. -/
theorem rd_row {t : Ty} {E : TypeId} {a : Addr} {len cap : Nat} (hl : len ≤ cap) (hm : cap ≤ 9223372036854775807) (cs : Nat → List Value) (hn : 0 < t.n) (hcl : ∀ i, i < len → (cs i).length = t.n)
    (hc : ∀ i, i < len → ∀ j, j < t.n → w.cell? (a.add (i * t.n + j)) = (cs i)[j]?) (hx : ∀ i, i < len → ∃ x, t.Rd w (cs i) x) : ∃ d, (rowTy t E).Rd w [.slice (some a) len cap] d := by
  have each : ∀ i, i < len → ∃ y : t.D × List Nat, t.rd w (cs i) y.1 y.2 := by
    intro i hi
    obtain ⟨x, fp, h⟩ := hx i hi
    exact ⟨(x, fp), h⟩
  by_cases h0 : len = 0
  · subst h0
    exact ⟨[], [], some a, cap, rfl, by simp, hm, .inl ⟨rfl, rfl, by simp⟩⟩
  · have hne : Nonempty (t.D × List Nat) := by
      obtain ⟨y, _⟩ := each 0 (by omega)
      exact ⟨y⟩
    have hch : ∃ f : Nat → t.D × List Nat, ∀ i, i < len → t.rd w (cs i) (f i).1 (f i).2 := by
      refine ⟨fun i => if h : i < len then Classical.choose (each i h) else Classical.choice hne, fun i hi => ?_⟩
      simp only [dif_pos hi]
      exact Classical.choose_spec (each i hi)
    obtain ⟨f, hf⟩ := hch
    obtain ⟨b, off, spot⟩ := a
    have hc0 := hc 0 (by omega) 0 hn
    have hsome : ∃ v0, (cs 0)[0]? = some v0 := ⟨(cs 0)[0]'(by rw [hcl 0 (by omega)]; exact hn), List.getElem?_eq_getElem _⟩
    obtain ⟨v0, hv0⟩ := hsome
    rw [hv0] at hc0
    have hspot : spot = none := by simpa [Addr.add] using World.cell?_spot hc0
    subst hspot
    have ea : ∀ k, (⟨b, off, none⟩ : Addr).add k = ⟨b, off + k, none⟩ := by
      intro k
      unfold Addr.add
      split <;> simp_all
    rw [ea] at hc0
    have hblt : b < w.heap.size := World.block_lt_of_cell? w _ hc0
    refine ⟨(List.range len).map fun i => (f i).1, b :: ((List.range len).map fun i => (f i).2).flatten, _, cap, by simp, by simpa using hl, hm, .inr ⟨b, off, (List.range len).map fun i => (f i).2, rfl, hblt, rfl, by simp, fun i x hxi => ?_⟩⟩
    have hi : i < len := by
      have := (List.getElem?_eq_some_iff.1 hxi).1
      simpa using this
    rw [List.getElem?_map, List.getElem?_range hi] at hxi
    simp at hxi
    subst hxi
    refine ⟨(f i).2, cs i, by rw [List.getElem?_map, List.getElem?_range hi]; rfl, hf i hi, fun j hj => ?_⟩
    rw [← ea]
    exact hc i hi j hj

theorem rdIntSS_of {t e q : TypeId} {fuel : Nat} {v : Value} {x : DataW H × List MemPlace} (ht : P.underlying t = some (.slice e)) (he : P.underlying e = some (.slice q)) (hq : P.underlying q = some (.int .i64)) (ce : P.cellsOf e = 1) (cq : P.cellsOf q = 1)
    (h : DataW.trod enc P w 0 (fun _ => true) held fuel t [v] = some x) : ∃ d, tIntSS.Rd w [v] d := by
  rcases open_slice1 ht ce h with ⟨hcs, _⟩ | ⟨a, len, cap, m, n, V, D, Pl, hcs, _, hl, hm, hmm, _, hx⟩
  · simp at hcs
    subst hcs
    exact ⟨[], [], none, 0, rfl, by simp, by simp, .inl ⟨rfl, rfl, fun _ => rfl⟩⟩
  · simp at hcs
    subst hcs
    simp only [if_true] at hmm
    refine rd_row hl (by unfold maxLen at hm; omega) (fun i => [V i]) (by decide) (fun _ _ => rfl) (fun i hi j hj => ?_) (fun i hi => rdInts_of he hq cq (hx i (by omega)).2)
    have hj0 : j = 0 := by have : j < 1 := hj; omega
    subst hj0
    have := (hx i (by omega)).1
    show w.cell? (a.add (i * 1 + 0)) = some (V i)
    rw [Nat.mul_one, Nat.add_zero]
    exact this

theorem rdWrS_of {t e q : TypeId} {f0 f1 : Field} {E : TypeId} {fuel : Nat} {v : Value} {x : DataW H × List MemPlace} (ht : P.underlying t = some (.slice e)) (he : P.underlying e = some (.struct #[f0, f1])) (ce : P.cellsOf e = 2) (o0 : f0.offset = 0) (o1 : f1.offset = 1) (c0 : P.cellsOf f0.type = 1) (c1 : P.cellsOf f1.type = 1)
    (hi0 : P.underlying f0.type = some (.int .i64)) (hi1 : P.underlying f1.type = some (.slice q)) (hq : P.underlying q = some (.int .i64)) (cq : P.cellsOf q = 1)
    (h : DataW.trod enc P w 0 (fun _ => true) held fuel t [v] = some x) : ∃ d, (tWrS E).Rd w [v] d := by
  rcases open_slice_pairs ht he ce o0 o1 c0 c1 h with ⟨hcs, _⟩ | ⟨a, len, cap, m, n, V0, V1, D0, D1, P0, P1, hcs, _, hl, hm, hmm, _, hx⟩
  · simp at hcs
    subst hcs
    exact ⟨[], [], none, 0, rfl, by simp, by simp, .inl ⟨rfl, rfl, fun _ => rfl⟩⟩
  · simp at hcs
    subst hcs
    simp only [if_true] at hmm
    refine rd_row hl (by unfold maxLen at hm; omega) (fun i => [V0 i, V1 i]) (by decide) (fun _ _ => rfl) (fun i hi j hj => ?_) (fun i hi => ?_)
    · have hj2 : j < 2 := hj
      obtain ⟨h0, h1, _⟩ := hx i (by omega)
      match j, hj2 with
      | 0, _ => exact h0
      | 1, _ => exact h1
    · obtain ⟨_, _, h2, h3⟩ := hx i (by omega)
      obtain ⟨y, hy, _, _⟩ := DataW.trod_int hi0 h2
      obtain ⟨zs, hzs⟩ := rdInts_of hi1 hq cq h3
      simp at hy
      exact ⟨(y, zs), by rw [hy]; exact pair_rd_of (t := intTy) (vs := [_]) ⟨[], rfl, rfl⟩ hzs⟩

end
end Go.Proofs.YtgjldmjlbhkgbaaGreat

/-
  A slice of whatever that came in, by what its elements read. No condition.
-/
namespace Go.Proofs.YtgjldmjlbhkgbaaGreat
open Go.RowKit Go.ChangeShapes Go.WideShapes Go.ChangeAt Go.Joins Go.Deep

section
variable {H : Type} {enc : TypeId × Value → H} {w : World} {held : Bool}
theorem rdRow_of {P : Program} {t e E : TypeId} {u : Ty} {fuel : Nat} {v : Value} {x : DataW H × List MemPlace} (ht : P.underlying t = some (.slice e)) (ce : P.cellsOf e = u.n) (hn : 0 < u.n)
    (each : ∀ (n : Nat) (cs : List Value) (y : DataW H × List MemPlace), cs.length = u.n → DataW.trod enc P w 0 (fun _ => true) held n e cs = some y → ∃ d, u.Rd w cs d)
    (h : DataW.trod enc P w 0 (fun _ => true) held fuel t [v] = some x) : ∃ d, (rowTy u E).Rd w [v] d := by
  rcases open_slice ht h with ⟨hcs, _⟩ | ⟨a, len, cap, m, n, D, Pl, hcs, _, hl, hm, hmm, _, hx⟩
  · simp at hcs
    subst hcs
    exact ⟨[], [], none, 0, rfl, by simp, by simp, .inl ⟨rfl, rfl, fun _ => rfl⟩⟩
  · simp at hcs
    subst hcs
    simp only [if_true] at hmm
    have one : ∀ i, i < len → ∃ cs : List Value, cs.length = u.n ∧ (∀ j, j < u.n → w.cell? (a.add (i * u.n + j)) = cs[j]?) ∧ ∃ d, u.Rd w cs d := by
      intro i hi
      obtain ⟨cs', h1, h2⟩ := hx i (by omega)
      rw [ce] at h1
      obtain ⟨_, hlen, hcell⟩ := World.cells?_some h1
      refine ⟨cs', hlen, fun j hj => ?_, each n cs' _ hlen h2⟩
      have := hcell j hj
      rw [add_add] at this
      exact this
    obtain ⟨q, hq⟩ := choose_lt one
    exact rd_row hl (by unfold maxLen at hm; omega) q hn (fun i hi => (hq i hi).1) (fun i hi => (hq i hi).2.1) (fun i hi => (hq i hi).2.2)

end
end Go.Proofs.YtgjldmjlbhkgbaaGreat

/-
  What the row's reading says of an array that came in, in these texts' own words: its numbers and flags, and what its two slices read. No condition.
-/
namespace Go.Proofs.YtgjldmjlbhkgbaaGreat
open Go.RowKit Go.ChangeShapes Go.WideShapes Go.ChangeAt Go.Joins Go.Deep

section
variable {H : Type} {enc : TypeId × Value → H} {w : World} {held : Bool}


theorem rdMemS_of {fuel : Nat} {v : Value} {x : DataW H × List MemPlace} (h : DataW.trod enc Tryz.prog w 0 (fun _ => true) held fuel 51 [v] = some x) : ∃ d, (tMemS 244 204).Rd w [v] d := by
  refine rdRow_of (e := 204) Tryz.underlying51 (by kernel_rfl) (by decide) (fun n cs y hl hy => ?_) h
  match cs, hl with
  | [v0, v1, v2, v3], _ =>
    obtain ⟨xs, k, _, _, _, hxl, hf⟩ := DataW.trod_struct Tryz.underlying204 hy
    have c1 : Tryz.prog.cellsOf 136 = 1 := by kernel_rfl
    have c2 : Tryz.prog.cellsOf 202 = 1 := by kernel_rfl
    have c3 : Tryz.prog.cellsOf 4 = 1 := by kernel_rfl
    have c4 : Tryz.prog.cellsOf 36 = 1 := by kernel_rfl
    match xs, hxl with
    | [y0, y1, y2, y3], _ =>
      have g0 := hf 0 _ rfl
      have g1 := hf 1 _ rfl
      have g2 := hf 2 _ rfl
      have g3 := hf 3 _ rfl
      simp [c1] at g0
      simp [c2] at g1
      simp [c3] at g2
      simp [c4] at g3
      obtain ⟨ss, r0⟩ := rdIntSS_of Tryz.underlying136 Tryz.underlying36 Tryz.underlying3 (by kernel_rfl) (by kernel_rfl) g0
      obtain ⟨ws, r1⟩ := rdWrS_of (E := 244) Tryz.underlying202 Tryz.underlying244 (by kernel_rfl) rfl rfl (by kernel_rfl) (by kernel_rfl) Tryz.underlying3 Tryz.underlying36 Tryz.underlying3 (by kernel_rfl) g1
      obtain ⟨f, hfb, _⟩ := DataW.trod_bool Tryz.underlying4 g2
      obtain ⟨bs, r3⟩ := rdInts_of Tryz.underlying36 Tryz.underlying3 (by kernel_rfl) g3
      simp at hfb
      subst hfb
      exact ⟨(ss, ws, f, bs), pair_rd_of (vs := [v0]) r0 (pair_rd_of (vs := [v1]) r1 (pair_rd_of (t := boolTy) (vs := [.bool f]) ⟨[], rfl, rfl⟩ r3))⟩

set_option maxRecDepth 20000 in
theorem array13 {cs : Array Value} (h : cs.size = 13) : ∃ c0 c1 c2 c3 c4 c5 c6 c7 c8 c9 c10 c11 c12, cs = #[c0, c1, c2, c3, c4, c5, c6, c7, c8, c9, c10, c11, c12] := by
  obtain ⟨l⟩ := cs
  match l, h with
  | [c0, c1, c2, c3, c4, c5, c6, c7, c8, c9, c10, c11, c12], _ => exact ⟨c0, c1, c2, c3, c4, c5, c6, c7, c8, c9, c10, c11, c12, rfl⟩

set_option maxRecDepth 20000 in
set_option maxHeartbeats 1600000 in
theorem open_arr {r : Reach} {b0 : Nat} {v : Value} {d : DataW H} {p : List MemPlace} (hv : Value.okWide Tryz.prog w r b0 54 v) (h : DataW.Trod enc Tryz.prog w 0 (fun _ => true) held 54 v d p) :
    ∃ (x : ArrN) (am ad : Option Addr) (cm cd : Nat) (ms : List MemD) (ds : List (Int × List Int)), v = .agg #[.int .i64 x.id, .int .i64 x.n, .int .i64 x.s, .slice am ms.length cm, .int .i64 x.lost, .int .i64 x.built, .int .i64 x.seq, .int .i64 x.tail, .int .i64 x.gen, .slice ad ds.length cd, .int .i64 x.fuse, .bool x.down, .bool x.broken] ∧ (tMemS 244 204).Rd w [.slice am ms.length cm] ms ∧ (tWrS 206).Rd w [.slice ad ds.length cd] ds := by
  obtain ⟨cs, rfl, hsz⟩ := okWide_struct Tryz.underlying54 hv
  obtain ⟨c0, c1, c2, c3, c4, c5, c6, c7, c8, c9, c10, c11, c12, rfl⟩ := array13 (hsz.trans (by kernel_rfl))
  obtain ⟨fuel, hf⟩ := h
  obtain ⟨xs, n, _, _, _, hxl, hx⟩ := DataW.trod_struct Tryz.underlying54 hf
  have k3 : Tryz.prog.cellsOf 3 = 1 := by kernel_rfl
  have k4 : Tryz.prog.cellsOf 4 = 1 := by kernel_rfl
  have kG : Tryz.prog.cellsOf 50 = 2 := by kernel_rfl
  have kM : Tryz.prog.cellsOf 51 = 1 := by kernel_rfl
  have kE : Tryz.prog.cellsOf 52 = 1 := by kernel_rfl
  match xs, hxl with
  | [y0, y1, y2, y3, y4, y5, y6, y7, y8, y9, y10, y11], _ =>
    have g0 := hx 0 _ rfl
    have g1 := hx 1 _ rfl
    have g2 := hx 2 _ rfl
    have g3 := hx 3 _ rfl
    have g4 := hx 4 _ rfl
    have g5 := hx 5 _ rfl
    have g6 := hx 6 _ rfl
    have g7 := hx 7 _ rfl
    have g8 := hx 8 _ rfl
    have g9 := hx 9 _ rfl
    have g10 := hx 10 _ rfl
    have g11 := hx 11 _ rfl
    simp [Value.cells, k3] at g0
    simp [Value.cells, kG] at g1
    simp [Value.cells, kM] at g2
    simp [Value.cells, k3] at g3
    simp [Value.cells, k3] at g4
    simp [Value.cells, k3] at g5
    simp [Value.cells, k3] at g6
    simp [Value.cells, k3] at g7
    simp [Value.cells, kE] at g8
    simp [Value.cells, k3] at g9
    simp [Value.cells, k4] at g10
    simp [Value.cells, k4] at g11
    obtain ⟨n0, e0, _, _⟩ := DataW.trod_int Tryz.underlying3 g0
    simp at e0
    subst e0
    obtain ⟨zs, m, _, _, _, hzl, hz⟩ := DataW.trod_struct Tryz.underlying50 g1
    match zs, hzl with
    | [z0, z1], _ =>
    have q0 := hz 0 _ rfl
    have q1 := hz 1 _ rfl
    simp [k3] at q0 q1
    obtain ⟨nn, en, _, _⟩ := DataW.trod_int Tryz.underlying3 q0
    obtain ⟨ns, es, _, _⟩ := DataW.trod_int Tryz.underlying3 q1
    simp at en es
    subst en es
    obtain ⟨ms, r2⟩ := rdMemS_of g2
    obtain ⟨am, cm, rfl⟩ := row_shape r2
    obtain ⟨n3, e3, _, _⟩ := DataW.trod_int Tryz.underlying3 g3
    simp at e3
    subst e3
    obtain ⟨n4, e4, _, _⟩ := DataW.trod_int Tryz.underlying3 g4
    simp at e4
    subst e4
    obtain ⟨n5, e5, _, _⟩ := DataW.trod_int Tryz.underlying3 g5
    simp at e5
    subst e5
    obtain ⟨n6, e6, _, _⟩ := DataW.trod_int Tryz.underlying3 g6
    simp at e6
    subst e6
    obtain ⟨n7, e7, _, _⟩ := DataW.trod_int Tryz.underlying3 g7
    simp at e7
    subst e7
    obtain ⟨ds, r8⟩ := rdWrS_of (E := 206) Tryz.underlying52 Tryz.underlying206 (by kernel_rfl) rfl rfl (by kernel_rfl) (by kernel_rfl) Tryz.underlying3 Tryz.underlying36 Tryz.underlying3 (by kernel_rfl) g8
    obtain ⟨ad, cd, rfl⟩ := row_shape r8
    obtain ⟨n9, e9, _, _⟩ := DataW.trod_int Tryz.underlying3 g9
    simp at e9
    subst e9
    obtain ⟨n10, e10, _⟩ := DataW.trod_bool Tryz.underlying4 g10
    simp at e10
    subst e10
    obtain ⟨n11, e11, _⟩ := DataW.trod_bool Tryz.underlying4 g11
    simp at e11
    subst e11
    exact ⟨⟨n0, nn, ns, n3, n4, n5, n6, n7, n9, n10, n11⟩, am, ad, cm, cd, ms, ds, rfl, r2, r8⟩

end
end Go.Proofs.YtgjldmjlbhkgbaaGreat

/-
  What the row's reading says of a command that came in, in these texts' own words: four numbers, and what its slice reads. No condition.
-/
namespace Go.Proofs.YtgjldmjlbhkgbaaGreat
open Go.RowKit Go.ChangeShapes Go.WideShapes Go.ChangeAt Go.Joins Go.Deep

section
variable {H : Type} {enc : TypeId × Value → H} {w : World} {held : Bool}

theorem array5 {cs : Array Value} (h : cs.size = 5) : ∃ c0 c1 c2 c3 c4, cs = #[c0, c1, c2, c3, c4] := by
  obtain ⟨l⟩ := cs
  match l, h with
  | [c0, c1, c2, c3, c4], _ => exact ⟨c0, c1, c2, c3, c4, rfl⟩

set_option maxRecDepth 20000 in
theorem open_cmd {r : Reach} {b0 : Nat} {v : Value} {d : DataW H} {p : List MemPlace} (hv : Value.okWide Tryz.prog w r b0 64 v) (h : DataW.Trod enc Tryz.prog w 0 (fun _ => true) held 64 v d p) :
    ∃ (o i b k : Int) (a : Option Addr) (c : Nat) (zs : List Int), v = .agg #[.int .i64 o, .int .i64 i, .int .i64 b, .int .i64 k, .slice a zs.length c] ∧ tIntS.Rd w [.slice a zs.length c] zs := by
  obtain ⟨cs, rfl, hsz⟩ := okWide_struct Tryz.underlying64 hv
  obtain ⟨c0, c1, c2, c3, c4, rfl⟩ := array5 (hsz.trans (by kernel_rfl))
  obtain ⟨fuel, hf⟩ := h
  obtain ⟨xs, n, _, _, _, hxl, hx⟩ := DataW.trod_struct Tryz.underlying64 hf
  have k3 : Tryz.prog.cellsOf 3 = 1 := by kernel_rfl
  have kS : Tryz.prog.cellsOf 36 = 1 := by kernel_rfl
  match xs, hxl with
  | [y0, y1, y2, y3, y4], _ =>
    have g0 := hx 0 _ rfl
    have g1 := hx 1 _ rfl
    have g2 := hx 2 _ rfl
    have g3 := hx 3 _ rfl
    have g4 := hx 4 _ rfl
    simp [Value.cells, k3] at g0
    simp [Value.cells, k3] at g1
    simp [Value.cells, k3] at g2
    simp [Value.cells, k3] at g3
    simp [Value.cells, kS] at g4
    obtain ⟨n0, e0, _, _⟩ := DataW.trod_int Tryz.underlying3 g0
    simp at e0
    subst e0
    obtain ⟨n1, e1, _, _⟩ := DataW.trod_int Tryz.underlying3 g1
    simp at e1
    subst e1
    obtain ⟨n2, e2, _, _⟩ := DataW.trod_int Tryz.underlying3 g2
    simp at e2
    subst e2
    obtain ⟨n3, e3, _, _⟩ := DataW.trod_int Tryz.underlying3 g3
    simp at e3
    subst e3
    obtain ⟨zs, r4⟩ := rdInts_of Tryz.underlying36 Tryz.underlying3 (by kernel_rfl) g4
    obtain ⟨a4, c4, rfl⟩ := row_shape r4
    exact ⟨n0, n1, n2, n3, a4, c4, zs, rfl, r4⟩

end
end Go.Proofs.YtgjldmjlbhkgbaaGreat

/-
  What the row's reading says of a slice of commands that came in, in these texts' own words. No condition.
-/
namespace Go.Proofs.YtgjldmjlbhkgbaaGreat
open Go.RowKit Go.ChangeShapes Go.WideShapes Go.ChangeAt Go.Joins Go.Deep

section
variable {H : Type} {enc : TypeId × Value → H} {w : World} {held : Bool}
set_option maxRecDepth 20000 in
theorem rdCmdS_of {fuel : Nat} {v : Value} {x : DataW H × List MemPlace} (h : DataW.trod enc Tryz.prog w 0 (fun _ => true) held fuel 55 [v] = some x) : ∃ d, (tCmdS 64).Rd w [v] d := by
  refine rdRow_of (e := 64) Tryz.underlying55 (by kernel_rfl) (by decide) (fun n cs y hl hy => ?_) h
  match cs, hl with
  | [v0, v1, v2, v3, v4], _ =>
    obtain ⟨xs, k, _, _, _, hxl, hf⟩ := DataW.trod_struct Tryz.underlying64 hy
    have k3 : Tryz.prog.cellsOf 3 = 1 := by kernel_rfl
    have kS : Tryz.prog.cellsOf 36 = 1 := by kernel_rfl
    match xs, hxl with
    | [y0, y1, y2, y3, y4], _ =>
      have g0 := hf 0 _ rfl
      have g1 := hf 1 _ rfl
      have g2 := hf 2 _ rfl
      have g3 := hf 3 _ rfl
      have g4 := hf 4 _ rfl
      simp [k3] at g0
      simp [k3] at g1
      simp [k3] at g2
      simp [k3] at g3
      simp [kS] at g4
      obtain ⟨n0, e0, _, _⟩ := DataW.trod_int Tryz.underlying3 g0
      obtain ⟨n1, e1, _, _⟩ := DataW.trod_int Tryz.underlying3 g1
      obtain ⟨n2, e2, _, _⟩ := DataW.trod_int Tryz.underlying3 g2
      obtain ⟨n3, e3, _, _⟩ := DataW.trod_int Tryz.underlying3 g3
      simp at e0 e1 e2 e3
      subst e0 e1 e2 e3
      obtain ⟨zs, r4⟩ := rdInts_of Tryz.underlying36 Tryz.underlying3 (by kernel_rfl) g4
      exact ⟨(n0, n1, n2, n3, zs), int_rd_of (int_rd_of (int_rd_of (int_rd_of r4)))⟩

end
end Go.Proofs.YtgjldmjlbhkgbaaGreat

/-
  What the row's reading says of an engine that came in, in these texts' own words. No condition.
-/
namespace Go.Proofs.YtgjldmjlbhkgbaaGreat
open Go.RowKit Go.ChangeShapes Go.WideShapes Go.ChangeAt Go.Joins Go.Deep

section
variable {H : Type} {enc : TypeId × Value → H} {w : World} {held : Bool}
set_option maxRecDepth 20000 in
set_option maxHeartbeats 1600000 in
theorem arr_of {fuel : Nat} {c0 c1 c2 c3 c4 c5 c6 c7 c8 c9 c10 c11 c12 : Value} {y : DataW H × List MemPlace} (hf : DataW.trod enc Tryz.prog w 0 (fun _ => true) held fuel 54 [c0, c1, c2, c3, c4, c5, c6, c7, c8, c9, c10, c11, c12] = some y) :
    ∃ (x : ArrN) (am ad : Option Addr) (cm cd : Nat) (ms : List MemD) (ds : List (Int × List Int)), [c0, c1, c2, c3, c4, c5, c6, c7, c8, c9, c10, c11, c12] = [.int .i64 x.id, .int .i64 x.n, .int .i64 x.s, .slice am ms.length cm, .int .i64 x.lost, .int .i64 x.built, .int .i64 x.seq, .int .i64 x.tail, .int .i64 x.gen, .slice ad ds.length cd, .int .i64 x.fuse, .bool x.down, .bool x.broken] ∧ (tMemS 244 204).Rd w [.slice am ms.length cm] ms ∧ (tWrS 206).Rd w [.slice ad ds.length cd] ds := by
  obtain ⟨xs, n, _, _, _, hxl, hx⟩ := DataW.trod_struct Tryz.underlying54 hf
  have k3 : Tryz.prog.cellsOf 3 = 1 := by kernel_rfl
  have k4 : Tryz.prog.cellsOf 4 = 1 := by kernel_rfl
  have kG : Tryz.prog.cellsOf 50 = 2 := by kernel_rfl
  have kM : Tryz.prog.cellsOf 51 = 1 := by kernel_rfl
  have kE : Tryz.prog.cellsOf 52 = 1 := by kernel_rfl
  match xs, hxl with
  | [y0, y1, y2, y3, y4, y5, y6, y7, y8, y9, y10, y11], _ =>
    have g0 := hx 0 _ rfl
    have g1 := hx 1 _ rfl
    have g2 := hx 2 _ rfl
    have g3 := hx 3 _ rfl
    have g4 := hx 4 _ rfl
    have g5 := hx 5 _ rfl
    have g6 := hx 6 _ rfl
    have g7 := hx 7 _ rfl
    have g8 := hx 8 _ rfl
    have g9 := hx 9 _ rfl
    have g10 := hx 10 _ rfl
    have g11 := hx 11 _ rfl
    simp [k3] at g0
    simp [kG] at g1
    simp [kM] at g2
    simp [k3] at g3
    simp [k3] at g4
    simp [k3] at g5
    simp [k3] at g6
    simp [k3] at g7
    simp [kE] at g8
    simp [k3] at g9
    simp [k4] at g10
    simp [k4] at g11
    obtain ⟨n0, e0, _, _⟩ := DataW.trod_int Tryz.underlying3 g0
    simp at e0
    subst e0
    obtain ⟨zs, m, _, _, _, hzl, hz⟩ := DataW.trod_struct Tryz.underlying50 g1
    match zs, hzl with
    | [z0, z1], _ =>
    have q0 := hz 0 _ rfl
    have q1 := hz 1 _ rfl
    simp [k3] at q0 q1
    obtain ⟨nn, en, _, _⟩ := DataW.trod_int Tryz.underlying3 q0
    obtain ⟨ns, es, _, _⟩ := DataW.trod_int Tryz.underlying3 q1
    simp at en es
    subst en es
    obtain ⟨ms, r2⟩ := rdMemS_of g2
    obtain ⟨am, cm, rfl⟩ := row_shape r2
    obtain ⟨n3, e3, _, _⟩ := DataW.trod_int Tryz.underlying3 g3
    simp at e3
    subst e3
    obtain ⟨n4, e4, _, _⟩ := DataW.trod_int Tryz.underlying3 g4
    simp at e4
    subst e4
    obtain ⟨n5, e5, _, _⟩ := DataW.trod_int Tryz.underlying3 g5
    simp at e5
    subst e5
    obtain ⟨n6, e6, _, _⟩ := DataW.trod_int Tryz.underlying3 g6
    simp at e6
    subst e6
    obtain ⟨n7, e7, _, _⟩ := DataW.trod_int Tryz.underlying3 g7
    simp at e7
    subst e7
    obtain ⟨ds, r8⟩ := rdWrS_of (E := 206) Tryz.underlying52 Tryz.underlying206 (by kernel_rfl) rfl rfl (by kernel_rfl) (by kernel_rfl) Tryz.underlying3 Tryz.underlying36 Tryz.underlying3 (by kernel_rfl) g8
    obtain ⟨ad, cd, rfl⟩ := row_shape r8
    obtain ⟨n9, e9, _, _⟩ := DataW.trod_int Tryz.underlying3 g9
    simp at e9
    subst e9
    obtain ⟨n10, e10, _⟩ := DataW.trod_bool Tryz.underlying4 g10
    simp at e10
    subst e10
    obtain ⟨n11, e11, _⟩ := DataW.trod_bool Tryz.underlying4 g11
    simp at e11
    subst e11
    exact ⟨⟨n0, nn, ns, n3, n4, n5, n6, n7, n9, n10, n11⟩, am, ad, cm, cd, ms, ds, rfl, r2, r8⟩

set_option maxRecDepth 20000 in
theorem cmd_of {fuel : Nat} {v0 v1 v2 v3 v4 : Value} {y : DataW H × List MemPlace} (hy : DataW.trod enc Tryz.prog w 0 (fun _ => true) held fuel 64 [v0, v1, v2, v3, v4] = some y) : ∃ o d b k zs, v0 = .int .i64 o ∧ v1 = .int .i64 d ∧ v2 = .int .i64 b ∧ v3 = .int .i64 k ∧ tIntS.Rd w [v4] zs := by
  obtain ⟨xs, k, _, _, _, hxl, hf⟩ := DataW.trod_struct Tryz.underlying64 hy
  have k3 : Tryz.prog.cellsOf 3 = 1 := by kernel_rfl
  have kS : Tryz.prog.cellsOf 36 = 1 := by kernel_rfl
  match xs, hxl with
  | [y0, y1, y2, y3, y4], _ =>
    have g0 := hf 0 _ rfl
    have g1 := hf 1 _ rfl
    have g2 := hf 2 _ rfl
    have g3 := hf 3 _ rfl
    have g4 := hf 4 _ rfl
    simp [k3] at g0 g1 g2 g3
    simp [kS] at g4
    obtain ⟨n0, e0, _, _⟩ := DataW.trod_int Tryz.underlying3 g0
    obtain ⟨n1, e1, _, _⟩ := DataW.trod_int Tryz.underlying3 g1
    obtain ⟨n2, e2, _, _⟩ := DataW.trod_int Tryz.underlying3 g2
    obtain ⟨n3, e3, _, _⟩ := DataW.trod_int Tryz.underlying3 g3
    simp at e0 e1 e2 e3
    obtain ⟨zs, r4⟩ := rdInts_of Tryz.underlying36 Tryz.underlying3 (by kernel_rfl) g4
    exact ⟨n0, n1, n2, n3, zs, e0, e1, e2, e3, r4⟩
set_option maxRecDepth 20000 in
theorem ans_of {fuel : Nat} {v0 v1 v2 : Value} {y : DataW H × List MemPlace} (hy : DataW.trod enc Tryz.prog w 0 (fun _ => true) held fuel 161 [v0, v1, v2] = some y) : ∃ d c zs, v0 = .int .i64 d ∧ v1 = .int .i64 c ∧ tIntS.Rd w [v2] zs := by
  obtain ⟨xs, k, _, _, _, hxl, hf⟩ := DataW.trod_struct Tryz.underlying161 hy
  have k3 : Tryz.prog.cellsOf 3 = 1 := by kernel_rfl
  have kS : Tryz.prog.cellsOf 36 = 1 := by kernel_rfl
  match xs, hxl with
  | [y0, y1, y2], _ =>
    have g0 := hf 0 _ rfl
    have g1 := hf 1 _ rfl
    have g2 := hf 2 _ rfl
    simp [k3] at g0 g1
    simp [kS] at g2
    obtain ⟨n0, e0, _, _⟩ := DataW.trod_int Tryz.underlying3 g0
    obtain ⟨n1, e1, _, _⟩ := DataW.trod_int Tryz.underlying3 g1
    simp at e0 e1
    obtain ⟨zs, r4⟩ := rdInts_of Tryz.underlying36 Tryz.underlying3 (by kernel_rfl) g2
    exact ⟨n0, n1, zs, e0, e1, r4⟩
set_option maxRecDepth 20000 in
theorem rdAnsS_of {fuel : Nat} {v : Value} {x : DataW H × List MemPlace} (h : DataW.trod enc Tryz.prog w 0 (fun _ => true) held fuel 57 [v] = some x) : ∃ d, (tAnsS 161).Rd w [v] d := by
  refine rdRow_of (e := 161) Tryz.underlying57 (by kernel_rfl) (by decide) (fun n cs y hl hy => ?_) h
  match cs, hl with
  | [v0, v1, v2], _ =>
    obtain ⟨a, b, zs, rfl, rfl, r⟩ := ans_of hy
    exact ⟨(a, b, zs), int_rd_of (int_rd_of r)⟩
set_option maxRecDepth 20000 in
theorem rdJobS_of {fuel : Nat} {v : Value} {x : DataW H × List MemPlace} (h : DataW.trod enc Tryz.prog w 0 (fun _ => true) held fuel 56 [v] = some x) : ∃ d, (tJobS 159).Rd w [v] d := by
  refine rdRow_of (e := 159) Tryz.underlying56 (by kernel_rfl) (by decide) (fun n cs y hl hy => ?_) h
  match cs, hl with
  | [v0, v1, v2, v3, v4, v5, v6, v7], _ =>
    obtain ⟨xs, k, _, _, _, hxl, hf⟩ := DataW.trod_struct Tryz.underlying159 hy
    have k3 : Tryz.prog.cellsOf 3 = 1 := by kernel_rfl
    have kS : Tryz.prog.cellsOf 36 = 1 := by kernel_rfl
    have kC : Tryz.prog.cellsOf 64 = 5 := by kernel_rfl
    match xs, hxl with
    | [y0, y1, y2, y3], _ =>
      have g0 := hf 0 _ rfl
      have g1 := hf 1 _ rfl
      have g2 := hf 2 _ rfl
      have g3 := hf 3 _ rfl
      simp [kC] at g0
      simp [k3] at g1 g3
      simp [kS] at g2
      obtain ⟨o, d, b, q, zs, rfl, rfl, rfl, rfl, r0⟩ := cmd_of g0
      obtain ⟨n1, e1, _, _⟩ := DataW.trod_int Tryz.underlying3 g1
      obtain ⟨n3, e3, _, _⟩ := DataW.trod_int Tryz.underlying3 g3
      simp at e1 e3
      subst e1 e3
      obtain ⟨us, r2⟩ := rdInts_of Tryz.underlying36 Tryz.underlying3 (by kernel_rfl) g2
      exact ⟨(o, d, b, q, zs, n1, us, n3), int_rd_of (int_rd_of (int_rd_of (int_rd_of (ints_rd_of2 r0 (int_rd_of (ints_rd_of2 r2 ⟨[], rfl, rfl⟩))))))⟩
set_option maxRecDepth 20000 in
theorem rdTurnS_of {fuel : Nat} {v : Value} {x : DataW H × List MemPlace} (h : DataW.trod enc Tryz.prog w 0 (fun _ => true) held fuel 58 [v] = some x) : ∃ d, (tTurnS 164).Rd w [v] d := by
  refine rdRow_of (e := 164) Tryz.underlying58 (by kernel_rfl) (by decide) (fun n cs y hl hy => ?_) h
  match cs, hl with
  | [v0, v1, v2, v3, v4, v5, v6, v7], _ =>
    obtain ⟨xs, k, _, _, _, hxl, hf⟩ := DataW.trod_struct Tryz.underlying164 hy
    have kA : Tryz.prog.cellsOf 161 = 3 := by kernel_rfl
    have kC : Tryz.prog.cellsOf 64 = 5 := by kernel_rfl
    match xs, hxl with
    | [y0, y1], _ =>
      have g0 := hf 0 _ rfl
      have g1 := hf 1 _ rfl
      simp [kC] at g0
      simp [kA] at g1
      obtain ⟨o, d, b, q, zs, rfl, rfl, rfl, rfl, r0⟩ := cmd_of g0
      obtain ⟨d2, c2, us, rfl, rfl, r1⟩ := ans_of g1
      exact ⟨(o, d, b, q, zs, d2, c2, us), int_rd_of (int_rd_of (int_rd_of (int_rd_of (ints_rd_of2 r0 (int_rd_of (int_rd_of r1))))))⟩

theorem array17 {cs : Array Value} (h : cs.size = 17) : ∃ c0 c1 c2 c3 c4 c5 c6 c7 c8 c9 c10 c11 c12 c13 c14 c15 c16, cs = #[c0, c1, c2, c3, c4, c5, c6, c7, c8, c9, c10, c11, c12, c13, c14, c15, c16] := by
  obtain ⟨l⟩ := cs
  match l, h with
  | [c0, c1, c2, c3, c4, c5, c6, c7, c8, c9, c10, c11, c12, c13, c14, c15, c16], _ => exact ⟨c0, c1, c2, c3, c4, c5, c6, c7, c8, c9, c10, c11, c12, c13, c14, c15, c16, rfl⟩
set_option maxRecDepth 20000 in
set_option maxHeartbeats 1600000 in
theorem open_eng {r : Reach} {b0 : Nat} {v : Value} {d : DataW H} {p : List MemPlace} (hv : Value.okWide Tryz.prog w r b0 60 v) (h : DataW.Trod enc Tryz.prog w 0 (fun _ => true) held 60 v d p) :
    ∃ (cs : Array Value) (e : EngD), v = .agg cs ∧ EngRd w cs e := by
  obtain ⟨cs, rfl, hsz⟩ := okWide_struct Tryz.underlying60 hv
  obtain ⟨c0, c1, c2, c3, c4, c5, c6, c7, c8, c9, c10, c11, c12, c13, c14, c15, c16, rfl⟩ := array17 (hsz.trans (by kernel_rfl))
  obtain ⟨fuel, hf⟩ := h
  obtain ⟨xs, n, _, _, _, hxl, hx⟩ := DataW.trod_struct Tryz.underlying60 hf
  have kA : Tryz.prog.cellsOf 54 = 13 := by kernel_rfl
  have kW : Tryz.prog.cellsOf 55 = 1 := by kernel_rfl
  have kJ : Tryz.prog.cellsOf 56 = 1 := by kernel_rfl
  have kD : Tryz.prog.cellsOf 57 = 1 := by kernel_rfl
  have kL : Tryz.prog.cellsOf 58 = 1 := by kernel_rfl
  match xs, hxl with
  | [y0, y1, y2, y3, y4], _ =>
    have g0 := hx 0 _ rfl
    have g1 := hx 1 _ rfl
    have g2 := hx 2 _ rfl
    have g3 := hx 3 _ rfl
    have g4 := hx 4 _ rfl
    simp [Value.cells, kA] at g0
    simp [Value.cells, kW] at g1
    simp [Value.cells, kJ] at g2
    simp [Value.cells, kD] at g3
    simp [Value.cells, kL] at g4
    obtain ⟨x, am, ad, cm, cd, ms, ds, hcs, r0, r1⟩ := arr_of g0
    simp only [List.cons.injEq, and_true] at hcs
    obtain ⟨rfl, rfl, rfl, rfl, rfl, rfl, rfl, rfl, rfl, rfl, rfl, rfl, rfl⟩ := hcs
    obtain ⟨ws, r2⟩ := rdCmdS_of g1
    obtain ⟨js, r3⟩ := rdJobS_of g2
    obtain ⟨an, r4⟩ := rdAnsS_of g3
    obtain ⟨ts, r5⟩ := rdTurnS_of g4
    exact ⟨_, ⟨x, ms, ds, ws, js, an, ts⟩, rfl, _, _, _, _, _, _, rfl, pair_rd_of (t := tMemS 200 139) (vs := [_]) r0 (pair_rd_of (t := tWrS 154) (vs := [_]) r1 (pair_rd_of (t := tCmdS 38) (vs := [_]) r2 (pair_rd_of (t := tJobS 84) (vs := [_]) r3 (pair_rd_of (t := tAnsS 87) (vs := [_]) r4 r5))))⟩

end
end Go.Proofs.YtgjldmjlbhkgbaaGreat

namespace Go.Proofs.YtgjldmjlbhkgbaaGreat.fnExactCanBegin
open Go.ChangeShapes Go.WideShapes Go.ChangeAt Go.RowKit Go.Joins
open Go.ChangeMaps (open_string shut_string)
set_option linter.unusedVariables false

theorem own : ownKnob Tryz.prog.godebug = none := by kernel_rfl
theorem laidOut : laidOutB Tryz.prog = true := by kernel_rfl

set_option maxRecDepth 100000 in
theorem lifted (os : Os) (started : os.Started) (H : Type) (enc : TypeId × Value → H) :
    ReturnsInHanded {} Tryz.checked os 6 .any (Rows.fnExactCanBeginSpec.pre6 enc Tryz.prog Tryz.f6 Rows.fnExactCanBeginRow.domain false) (Rows.fnExactCanBeginSpec.post enc Tryz.prog Tryz.f6 false true false false) := by
  refine returnsInHanded_of_change (C := Tryz.checked) own started (by kernel_rfl) Tryz.func6
    (ChangeSpec.witness6 (enc := enc) (C := Tryz.checked) false ⟨#[], #[.agg #[.int .i64 0, .int .i64 0, .int .i64 0, .slice none 0 0, .int .i64 0, .int .i64 0, .int .i64 0, .int .i64 0, .int .i64 0, .slice none 0 0, .int .i64 0, .bool false, .bool false, .slice none 0 0, .slice none 0 0, .slice none 0 0, .slice none 0 0], .int .i64 0], []⟩ 8 (by kernel_rfl) (by kernel_rfl) (by kernel_rfl) (by kernel_rfl)) ?_
  intro W base args ds gs before hval0 hW hcnd _
  have hval : ∀ (j : Nat) t v, Tryz.f6.params[j]? = some t → args[j]? = some v → Value.okWide Tryz.prog W .any base t v := hval0
  have hW' := hW
  obtain ⟨p, q, hA0, hV, rfl, hfz, hnd⟩ := hW
  have hA : DataW.TrodAll enc Tryz.prog W 0 (fun _ => true) true Tryz.f6.params.toList args.toList ds p := hA0
  rw [Tryz.params6] at hA hval
  obtain ⟨v0, vs0, d0, ds0, p0, q0, hargs0, rfl, rfl, h0, r0⟩ := trodAll_cons hA
  obtain ⟨v1, vs1, d1, ds1, p1, q1, hargs1, rfl, rfl, h1, r1⟩ := trodAll_cons r0
  obtain ⟨rfl, rfl, rfl⟩ := trodAll_nil r1
  obtain rfl : args = #[v0, v1] := by cases args; simp_all
  obtain ⟨rfl, rfl⟩ := trodVars_none hV
  have k0 := h0
  have lt0 : ∀ x ∈ p0, x.block < W.heap.size := by obtain ⟨m, hm⟩ := k0; exact DataW.trod_lt m _ _ _ hm
  obtain ⟨cs0, e0, rfl, g0⟩ := open_eng (hval 0 60 v0 rfl rfl) h0
  have k1 := h1
  have lt1 : ∀ x ∈ p1, x.block < W.heap.size := by obtain ⟨m, hm⟩ := k1; exact DataW.trod_lt m _ _ _ hm
  obtain ⟨x1, hv1, _, _, wf1⟩ := open_int Tryz.underlying3 (hval 1 3 v1 rfl rfl) h1
  subst hv1
  clear hA0 hval0
  refine (fnExactCanBegin_walk cs0 e0 x1 W g0).mono fun e W' ⟨he, bel⟩ => ?_
  subst he
  exact ⟨_, rfl, _, _, _, [], _, [], hW', trodAll_mk1 (shut_bool Tryz.underlying4 _), (trodAll_cons_mk (Below.trod laidOut (by kernel_rfl) (of_decide_eq_true (by kernel_rfl)) k0 bel lt0) (trodAll_cons_mk (Below.trod laidOut (by kernel_rfl) (of_decide_eq_true (by kernel_rfl)) k1 bel lt1) trodAll_mk0)), rfl, bel.frame _, fun h => by cases h⟩

theorem over : Rows.fnExactCanBeginRow.holds Tryz.pinned (OpenSpec.ofChange Rows.fnExactCanBeginSpec) :=
  OpenClaim.holds_of_wide 6 Tryz.f6 rfl rfl rfl rfl rfl rfl rfl ⟨rfl, rfl, rfl, rfl, rfl⟩ rfl rfl rfl rfl rfl (by kernel_rfl) Tryz.func6 (by kernel_rfl)
    (of_decide_eq_true (by kernel_rfl)) (by unfold Func.isWrapper; first | (rw [if_pos (by decide +kernel)]; kernel_rfl) | (rw [if_neg (by decide +kernel)]; exact ⟨rfl, rfl⟩))
    (fun os started H enc _ => lifted os started H enc)
end Go.Proofs.YtgjldmjlbhkgbaaGreat.fnExactCanBegin

namespace Go.Proofs.YtgjldmjlbhkgbaaGreat
/-- The given statement. -/
theorem fnExactCanBegin_holds : Rows.FnExactCanBeginSaid := fnExactCanBegin.over
#print axioms fnExactCanBegin_holds
end Go.Proofs.YtgjldmjlbhkgbaaGreat

/-
  The walk of the specification's FallMem: each sector is what it was, or the last of what was written to it and kept, the cache empty, in memory of its own; what is not MemOk as it was. Condition: the disk weighs at most 2097152.
-/
import Derived.Test.YtlcjfgmmjkandaaWalkFall
import Derived.Test.YtlcjfgmmjkandaaWalkFlushSpec
namespace Go.Proofs.Ytlcjfgmmjkandaa
open Go.RowKit

set_option maxHeartbeats 6400000 in
theorem specFallMem_any (w : World) (E : TypeId) (a0 a1 a3 : Option Addr) (n0 c0 n1 c1 n3 c3 : Nat) (ss : List (List Int)) (cs : List (Int × List Int)) (f : Bool) (bs : List Int) (k : Int) (h0 : tIntSS.Rd w [.slice a0 n0 c0] ss) (h1 : (tWrS E).Rd w [.slice a1 n1 c1] cs) (h3 : tIntS.Rd w [.slice a3 n3 c3] bs) (hw : wtMem (ss, cs, f, bs) ≤ 2097152) :
    Calls Try.prog 43 #[.agg #[.slice a0 n0 c0, .slice a1 n1 c1, .bool f, .slice a3 n3 c3], .int .i64 k] w fun e w' => ∃ v0 v1 v3, e = .returned (.agg #[v0, v1, .bool f, v3]) ∧ (tMem 108).Own w' w.heap.size w'.heap.size [v0, v1, .bool f, v3] (faSS ss cs bs k, faCS ss cs bs, f, bs) ∧ Below w.heap.size w w' := by
  obtain ⟨hl0, _, hm0⟩ := row_length h0
  obtain ⟨hl1, _, hm1⟩ := row_length h1
  obtain ⟨hl3, _, hm3⟩ := row_length h3
  have hwc : wtWrS cs ≤ 2097152 := by unfold wtMem at hw; simp only at hw; omega
  by_cases hM : memB ss cs bs = true
  · have hn20 : n0 ≤ 20 := by have := mem_secs hM; omega
    have hks := mem_writes hM
    have e1 : faSS ss cs bs k = flushD ss (keptD (keepN k) cs (min n1 20)) := by unfold faSS; rw [if_pos hM, hl1]
    have e2 : faCS ss cs bs = [] := by unfold faCS; rw [if_pos hM]
    rw [e1, e2]
    clear e1 e2
    by_cases hv : inB k 0 1048575 = true
    · have hkk : keepN k = k := by unfold keepN; unfold inB at hv; simp at hv; rw [if_pos (by omega)]
      rw [hkk]
      have hv' : 0 ≤ k ∧ k ≤ 1048575 := by unfold inB at hv; simp at hv; omega
      have hk0 : 0 ≤ k := hv'.1
      have hk1 : k ≤ 1048575 := hv'.2
      clear hkk hv'
      by_cases h20 : n1 ≤ 20
      · rw [Nat.min_eq_left h20]
        have hA : Below w.heap.size w ((w.alloc (.cells #[.slice a0 n0 c0, .slice a1 n1 c1, .bool f, .slice a3 n3 c3] 73)).alloc (.cells #[.slice none 0 0, .slice none 0 0, .bool false, .slice none 0 0] 73)) := ((Below.refl _ _).alloc (Nat.le_refl _) _).alloc (by simp) _
        have xm : Box ((w.alloc (.cells #[.slice a0 n0 c0, .slice a1 n1 c1, .bool f, .slice a3 n3 c3] 73)).alloc (.cells #[.slice none 0 0, .slice none 0 0, .bool false, .slice none 0 0] 73)) w.heap.size 73 #[.slice a0 n0 c0, .slice a1 n1 c1, .bool f, .slice a3 n3 c3] := (Box.new w _ _).alloc _
        have xr : Box ((w.alloc (.cells #[.slice a0 n0 c0, .slice a1 n1 c1, .bool f, .slice a3 n3 c3] 73)).alloc (.cells #[.slice none 0 0, .slice none 0 0, .bool false, .slice none 0 0] 73)) (w.heap.size + 1) 73 #[.slice none 0 0, .slice none 0 0, .bool false, .slice none 0 0] := by
          have := Box.new (w.alloc (.cells #[.slice a0 n0 c0, .slice a1 n1 c1, .bool f, .slice a3 n3 c3] 73)) 73 #[.slice none 0 0, .slice none 0 0, .bool false, .slice none 0 0]
          rw [show (w.alloc (.cells #[.slice a0 n0 c0, .slice a1 n1 c1, .bool f, .slice a3 n3 c3] 73)).heap.size = w.heap.size + 1 by simp] at this
          exact this
        go_enter Try.func43, Try.ntmps43
        go_wp2_with fail
        generalize hW : (w.alloc (.cells #[.slice a0 n0 c0, .slice a1 n1 c1, .bool f, .slice a3 n3 c3] 73)).alloc (.cells #[.slice none 0 0, .slice none 0 0, .bool false, .slice none 0 0] 73) = W at hA xm xr ⊢
        clear hW
        have zr := xr.lt
        obtain ⟨q0, q1, q2, q3⟩ := xm.cells4
        have XM := hidden xm
        have XR := hidden xr
        clear xm xr
        refine (l2Copy_any _ E _ _ _ _ _ _ _ _ _ ss cs f bs (h0.below hA) (h1.below hA) (h3.below hA) hw).mono ?_
        intro e w1 hc
        obtain ⟨b0, b1, b3, e0, e1, e3, m1, m2, rfl, o3, o0, o1, r1, r2, r3, bb⟩ := copy_shapes hl0 hl1 hl3 hc
        clear hc
        have z1 := bb.size
        have sW : w.heap.size + 2 ≤ W.heap.size := by omega
        have ba : Below w1.heap.size w1 (w1.alloc (.cells #[.slice b0 n0 e0, .slice b1 n1 e1, .bool f, .slice b3 n3 e3] 73)) := (Below.refl _ _).alloc (Nat.le_refl _) _
        have yo := Box.new w1 73 #[.slice b0 n0 e0, .slice b1 n1 e1, .bool f, .slice b3 n3 e3]
        have zo := yo.lt
        have YO := hidden yo
        have YR := hidden ((XR.out.below bb zr).below ba (by omega))
        have YM := hidden ((XM.out.below bb (by omega)).below ba (by omega))
        have K0 := hidden (o0.below ba)
        have K1 := hidden (o1.below ba)
        have K3 := hidden (o3.below ba)
        have KB := hidden (hA.trans ((bb.mono (by omega : w.heap.size ≤ W.heap.size)).trans (ba.mono (by omega))))
        clear yo o0 o1 o3 XM XR bb ba hA q0 q1 q2 q3
        obtain ⟨q0, q1, q2, q3⟩ := YM.out.cells4
        go_wp2_with fail
        generalize w1.alloc (.cells #[.slice b0 n0 e0, .slice b1 n1 e1, .bool f, .slice b3 n3 e3] 73) = w2 at YO YR YM K0 K1 K3 KB zo q0 q1 q2 q3 ⊢
        refine (specMemOk_any _ E _ _ _ _ _ _ _ _ _ ss cs f bs (h0.below KB.out) (h1.below KB.out) (h3.below KB.out) hw).mono ?_
        rintro e w3 ⟨rfl, b4⟩
        have z3 := b4.size
        have XO := hidden (YO.out.below b4 (by omega))
        have XR := hidden (YR.out.below b4 (by omega))
        have XM := hidden (YM.out.below b4 (by omega))
        have L0 := hidden (K0.out.below b4)
        have L1 := hidden (K1.out.below b4)
        have L3 := hidden (K3.out.below b4)
        have LB := hidden (KB.out.trans (b4.mono (by have := KB.out.size; omega)))
        clear YO YR YM K0 K1 K3 KB b4 q0 q1 q2 q3
        obtain ⟨q0, q1, q2, q3⟩ := XM.out.cells4
        obtain ⟨x0, x1, x2, x3⟩ := XO.out.cells4
        go_wp2_with fail
        refine (l1In_any _ _ _ _).mono ?_
        rintro e w4 ⟨rfl, hw4⟩
        subst w4
        have hn1' : 0 < n0 := by have := mem_some hM; omega
        obtain ⟨gS, hb0⟩ : ∃ gS, b0 = some ⟨gS, 0, none⟩ := by
          rcases L0.out.rowShape with h | ⟨g, h⟩
          · omega
          · exact ⟨g, h⟩
        subst hb0
        obtain ⟨fpS0, mS0, rS0⟩ := L0.out.mine
        have hgS := rS0 gS (row_parts mS0).1
        obtain ⟨gC, FC, hC0, hC1, hC2⟩ := cache_parts L1.out
        have MS0 := hidden mS0
        have RS0 := hidden rS0
        have HC1 := hidden hC1
        have HC2 := hidden hC2
        clear mS0 rS0 hC1 hC2
        go_wp2
        clear x0 x1 x2 x3
        go_loopw [6] (fun i wr => ∃ (j : Nat) (fpS : List Nat), j ≤ n1 ∧ i = .int .i64 j ∧ Turned [gS] w3 wr ∧ tIntSS.Mine wr [.slice (some ⟨gS, 0, none⟩) n0 e0] (flushD ss (keptD k cs j)) fpS ∧ (∀ b ∈ fpS, (m1 ≤ b ∧ b < m2) ∨ ∃ i, i < j ∧ b ∈ FC i)) (fun i _ => n1 - (intOf i).toNat)
        case atStart => exact ⟨0, fpS0, Nat.zero_le _, rfl, Turned.refl _ _, by rw [keptD_zero, flushD_nil]; exact MS0.out, fun b hb => .inl (RS0.out b hb)⟩
        case round =>
          obtain ⟨j, fpS, hj, rfl, tn, hS, hfp⟩ := hrel
          have hs := tn.size
          have xo := XO.out.turned tn (by simp; omega)
          obtain ⟨y0, y1, y2, y3⟩ := xo.cells4
          by_cases hjn : j < n1
          · have k1 : (0 : Int) ≤ (j : Int) := by omega
            have k2 : (j : Int) < (n1 : Int) := by omega
            rcases hC0 with hC0 | ⟨rfl, hC3, hC4⟩
            · omega
            have hdj : cs[j]? = some (cs[j]'(by omega)) := List.getElem?_eq_getElem (by omega)
            have htk : cs.take (j + 1) = cs.take j ++ [cs[j]'(by omega)] := List.take_succ_eq_append_getElem (by omega)
            have hmem : cs[j]'(by omega) ∈ cs := List.getElem_mem _
            generalize cs[j]'(by omega) = x at hdj htk hmem
            obtain ⟨q, hq, hql⟩ := mem_writes_lt hM x hmem
            obtain ⟨av, cv, mx, rx, cv0, cv1⟩ := HC1.out j x hdj
            obtain ⟨x0, x1⟩ := x
            simp only at hq mx rx cv0 cv1
            subst hq
            have ncs : gC ≠ gS := by omega
            have d0 := (cell_kept (tn.block gC (by omega) (by simp; omega)) (j * 2)).trans cv0
            have d1 := (cell_kept (tn.block gC (by omega) (by simp; omega)) (j * 2 + 1)).trans cv1
            have mr := mx.kept tn (fun b hb hb' => by have := rx b hb; simp at hb'; omega)
            obtain ⟨⟨old, cOld⟩, fz, hgm, fpA, mA, rA⟩ := row_set1 (j := q) rfl hS (by omega) mr (fun b hb hb' => by
              have h1 := rx b hb
              rcases hfp b hb' with h2 | ⟨i, h2, h3⟩
              · omega
              · exact HC2.out i j h2 (by omega) b h3 hb)
            have hfA : ∀ b ∈ fpA, (m1 ≤ b ∧ b < m2) ∨ ∃ i, i < j + 1 ∧ b ∈ FC i := fun b hb => by
              rcases rA b hb with h | h
              · rcases hfp b h with h2 | ⟨i, h2, h3⟩
                · exact .inl h2
                · exact .inr ⟨i, by omega, h3⟩
              · exact .inr ⟨j, by omega, h⟩
            have k3 : (0 : Int) ≤ (q : Int) := by omega
            have k4 : (q : Int) < (n0 : Int) := by omega
            have HTK := hidden htk
            have HFA := hidden hfA
            have MA := hidden mA
            have TA := hidden (tn.trans (Turned.setCell (w := wr) (g := gS) (j := q) (.slice av x1.length cv) (List.mem_cons_self : gS ∈ [gS])))
            have XOR := hidden xo
            have nO : Hid (w1.heap.size ≠ gS) := by unfold Hid; omega
            have nC : Hid (gC ≠ gS) := ncs
            have hT : Hid (wr.cell? ⟨gC, j * 2, none⟩ = some (.int .i64 (q : Int)) ∧ wr.cell? ⟨gC, j * 2 + 1, none⟩ = some (.slice av x1.length cv)) := ⟨d0, d1⟩
            have k6 : (j : Int) < 20 := by omega
            by_cases hbit : bitB k j = true
            · have HS := hidden (keptD_set hbit hdj)
              have hbw : (bits BinOp.and IntKind.i64 (k / 2 ^ j) 1 == 1) = true := hbit
              clear hdj htk hmem hbit mx rx cv0 cv1 mr hfA mA rA tn hS hfp xo hgm ncs
              go_wp2_with fail
              go_region_held3 (fun w' => w'.cell? ⟨w1.heap.size, 0, none⟩ = some (.slice (some ⟨gS, 0, none⟩) n0 e0) ∧ w'.cell? ⟨w1.heap.size, 1, none⟩ = some (.slice (some ⟨gC, 0, none⟩) n1 e1) ∧ w'.cell? ⟨gC, j * 2, none⟩ = some (.int .i64 (q : Int)) ∧ w'.cell? ⟨gC, j * 2 + 1, none⟩ = some (.slice av x1.length cv))
                (first | (exact ⟨y0, y1, d0, d1⟩) | (exact ⟨(XOR.out.other nO.out q (.slice av x1.length cv)).cell 0, (XOR.out.other nO.out q (.slice av x1.length cv)).cell 1, (cell_kept (Below.heap_setCell _ _ _ _ nC.out) _).trans d0, (cell_kept (Below.heap_setCell _ _ _ _ nC.out) _).trans d1⟩) | go_keep)
                (fail)
              clear d0 d1 y0 y1 y2 y3 cOld fz XOR nO nC hT
              go_wp2
              go_roundw
              case rel => exact ⟨j + 1, fpA, by omega, by go_num, Turned.adrew TA.out, by rw [HS.out, flushD_snoc (by omega)]; exact Ty.Mine.adrew MA.out, HFA.out⟩
              case measure => simp [intOf]; omega
            · have hbit : bitB k j = false := by simpa using hbit
              have HS := hidden (keptD_not (cs := cs) hbit)
              have hbw : (bits BinOp.and IntKind.i64 (k / 2 ^ j) 1 == 1) = false := hbit
              have TN := hidden tn
              have SN := hidden hS
              have FN := hidden hfp
              clear hdj htk hmem mx rx cv0 cv1 mr hfA mA rA tn hS hfp xo hgm ncs hbit d0 d1 cOld fz XOR nO nC hT HFA MA TA
              go_wp2
              go_roundw
              case rel => exact ⟨j + 1, fpS, by omega, by go_num, TN.out, by rw [HS.out]; exact SN.out, fun b hb => by
                rcases FN.out b hb with h2 | ⟨i, h2, h3⟩
                · exact .inl h2
                · exact .inr ⟨i, by omega, h3⟩⟩
              case measure => simp [intOf]; omega
          · have e : n1 = j := by omega
            subst e
            have yo := xo.alloc (.cells #[] 108)
            have ys := yo.set 1 (.slice (some ⟨wr.heap.size, 0, none⟩) 0 0)
            have yt := ((XR.out.turned tn (by simp; omega)).alloc (.cells #[] 108)).other (g := w1.heap.size) (by omega) 1 (.slice (some ⟨wr.heap.size, 0, none⟩) 0 0)
            obtain ⟨s0, s1, s2, s3⟩ := yo.cells4
            have fo := yo.frozen 1
            obtain ⟨t0, t1, t2, t3⟩ := Box.cells4 (v0 := .slice (some ⟨gS, 0, none⟩) n0 e0) (v1 := (.slice (some ⟨wr.heap.size, 0, none⟩) 0 0)) (v2 := .bool f) (v3 := .slice b3 n3 e3) ys
            obtain ⟨p0, p1, p2, p3⟩ := yt.cells4
            have fz := yt.frozen
            have zl : (wr.alloc (.cells #[] 108)).heap.size = wr.heap.size + 1 := by simp
            have ZL := hidden zl
            have bo := But.setCell (lo := w1.heap.size) (hi := w1.heap.size + 1) (g := w1.heap.size) (j := 1) (w := (wr.alloc (.cells #[] 108))) (Nat.le_refl _) (Nat.lt_succ_self _) (.slice (some ⟨wr.heap.size, 0, none⟩) 0 0)
            have bl : Below wr.heap.size wr (wr.alloc (.cells #[] 108)) := (Below.refl _ _).alloc (Nat.le_refl _) _
            have kl := ((lit0_mine (t := tWr) (E := 108) wr).own (lo := wr.heap.size) (hi := wr.heap.size + 1) (fun b hb => by simp at hb; omega)).but bo (.inr (by omega))
            have k0 := ((hS.own (lo := m1) (hi := w1.heap.size) (fun b hb => by
              rcases hfp b hb with h | ⟨i, h2, h3⟩
              · omega
              · by_cases hin : i < n1
                · obtain ⟨_, _, _, r, _⟩ := HC1.out i _ (List.getElem?_eq_getElem (by omega))
                  have := r b h3
                  omega
                · omega)).below bl).but bo (.inl (Nat.le_refl _))
            have k3 := ((L3.out.but (tn.but (lo := m1) (hi := m2) (by simp; omega)) (.inl (Nat.le_refl _))).below bl).but bo (.inl (by omega))
            have kb : Below w.heap.size w ((wr.alloc (.cells #[] 108)).setCell ⟨w1.heap.size, 1, none⟩ (.slice (some ⟨wr.heap.size, 0, none⟩) 0 0)) := LB.out.trans ((tn.below (N := w.heap.size) (by omega) (by simp; omega)).trans ((bl.mono (by omega)).trans (bo.below (by omega) (by omega))))
            have zs := bo.size
            clear zl bo bl hS tn hfp xo yo ys yt q0 q1 q2 q3 XM hC0 HC1 HC2 MS0 RS0
            go_wp2
            generalize ((wr.alloc (.cells #[] 108)).setCell ⟨w1.heap.size, 1, none⟩ (.slice (some ⟨wr.heap.size, 0, none⟩) 0 0)) = wz at t0 t1 t2 t3 p0 p1 p2 p3 fz kl k0 k3 kb zs ⊢
            have zL := ZL.out
            have hbt : But (w.heap.size + 1) (w.heap.size + 2) wz ((((wz.setCell ⟨w.heap.size + 1, 0, none⟩ (.slice (some ⟨gS, 0, none⟩) n0 e0)).setCell ⟨w.heap.size + 1, 1, none⟩ (.slice (some ⟨wr.heap.size, 0, none⟩) 0 0)).setCell ⟨w.heap.size + 1, 2, none⟩ (.bool f)).setCell ⟨w.heap.size + 1, 3, none⟩ (.slice b3 n3 e3)) :=
              (((But.setCell (by omega) (by omega) _).trans (But.setCell (by omega) (by omega) _)).trans (But.setCell (by omega) (by omega) _)).trans (But.setCell (by omega) (by omega) _)
            have z9 := hbt.size
            refine bodyPost_ret (v := .agg #[.slice (some ⟨gS, 0, none⟩) n0 e0, (.slice (some ⟨wr.heap.size, 0, none⟩) 0 0), .bool f, .slice b3 n3 e3]) (by simp [results, Try.results43, go_sem, p0, p1, p2, p3]) rfl ?_
            exact ⟨_, _, _, rfl, mem_own3 (k0.but hbt (by omega)) (kl.but hbt (by omega)) (k3.but hbt (by omega)) (by omega) (by omega) (by omega) (by omega) (by omega) (by omega), Below.andBut kb hbt (by omega)⟩
      · rw [Nat.min_eq_right (by omega)]
        have h21 : (20 : Int) < (n1 : Int) := by omega
        have hA : Below w.heap.size w ((w.alloc (.cells #[.slice a0 n0 c0, .slice a1 n1 c1, .bool f, .slice a3 n3 c3] 73)).alloc (.cells #[.slice none 0 0, .slice none 0 0, .bool false, .slice none 0 0] 73)) := ((Below.refl _ _).alloc (Nat.le_refl _) _).alloc (by simp) _
        have xm : Box ((w.alloc (.cells #[.slice a0 n0 c0, .slice a1 n1 c1, .bool f, .slice a3 n3 c3] 73)).alloc (.cells #[.slice none 0 0, .slice none 0 0, .bool false, .slice none 0 0] 73)) w.heap.size 73 #[.slice a0 n0 c0, .slice a1 n1 c1, .bool f, .slice a3 n3 c3] := (Box.new w _ _).alloc _
        have xr : Box ((w.alloc (.cells #[.slice a0 n0 c0, .slice a1 n1 c1, .bool f, .slice a3 n3 c3] 73)).alloc (.cells #[.slice none 0 0, .slice none 0 0, .bool false, .slice none 0 0] 73)) (w.heap.size + 1) 73 #[.slice none 0 0, .slice none 0 0, .bool false, .slice none 0 0] := by
          have := Box.new (w.alloc (.cells #[.slice a0 n0 c0, .slice a1 n1 c1, .bool f, .slice a3 n3 c3] 73)) 73 #[.slice none 0 0, .slice none 0 0, .bool false, .slice none 0 0]
          rw [show (w.alloc (.cells #[.slice a0 n0 c0, .slice a1 n1 c1, .bool f, .slice a3 n3 c3] 73)).heap.size = w.heap.size + 1 by simp] at this
          exact this
        go_enter Try.func43, Try.ntmps43
        go_wp2_with fail
        generalize hW : (w.alloc (.cells #[.slice a0 n0 c0, .slice a1 n1 c1, .bool f, .slice a3 n3 c3] 73)).alloc (.cells #[.slice none 0 0, .slice none 0 0, .bool false, .slice none 0 0] 73) = W at hA xm xr ⊢
        clear hW
        have zr := xr.lt
        obtain ⟨q0, q1, q2, q3⟩ := xm.cells4
        have XM := hidden xm
        have XR := hidden xr
        clear xm xr
        refine (l2Copy_any _ E _ _ _ _ _ _ _ _ _ ss cs f bs (h0.below hA) (h1.below hA) (h3.below hA) hw).mono ?_
        intro e w1 hc
        obtain ⟨b0, b1, b3, e0, e1, e3, m1, m2, rfl, o3, o0, o1, r1, r2, r3, bb⟩ := copy_shapes hl0 hl1 hl3 hc
        clear hc
        have z1 := bb.size
        have sW : w.heap.size + 2 ≤ W.heap.size := by omega
        have ba : Below w1.heap.size w1 (w1.alloc (.cells #[.slice b0 n0 e0, .slice b1 n1 e1, .bool f, .slice b3 n3 e3] 73)) := (Below.refl _ _).alloc (Nat.le_refl _) _
        have yo := Box.new w1 73 #[.slice b0 n0 e0, .slice b1 n1 e1, .bool f, .slice b3 n3 e3]
        have zo := yo.lt
        have YO := hidden yo
        have YR := hidden ((XR.out.below bb zr).below ba (by omega))
        have YM := hidden ((XM.out.below bb (by omega)).below ba (by omega))
        have K0 := hidden (o0.below ba)
        have K1 := hidden (o1.below ba)
        have K3 := hidden (o3.below ba)
        have KB := hidden (hA.trans ((bb.mono (by omega : w.heap.size ≤ W.heap.size)).trans (ba.mono (by omega))))
        clear yo o0 o1 o3 XM XR bb ba hA q0 q1 q2 q3
        obtain ⟨q0, q1, q2, q3⟩ := YM.out.cells4
        go_wp2_with fail
        generalize w1.alloc (.cells #[.slice b0 n0 e0, .slice b1 n1 e1, .bool f, .slice b3 n3 e3] 73) = w2 at YO YR YM K0 K1 K3 KB zo q0 q1 q2 q3 ⊢
        refine (specMemOk_any _ E _ _ _ _ _ _ _ _ _ ss cs f bs (h0.below KB.out) (h1.below KB.out) (h3.below KB.out) hw).mono ?_
        rintro e w3 ⟨rfl, b4⟩
        have z3 := b4.size
        have XO := hidden (YO.out.below b4 (by omega))
        have XR := hidden (YR.out.below b4 (by omega))
        have XM := hidden (YM.out.below b4 (by omega))
        have L0 := hidden (K0.out.below b4)
        have L1 := hidden (K1.out.below b4)
        have L3 := hidden (K3.out.below b4)
        have LB := hidden (KB.out.trans (b4.mono (by have := KB.out.size; omega)))
        clear YO YR YM K0 K1 K3 KB b4 q0 q1 q2 q3
        obtain ⟨q0, q1, q2, q3⟩ := XM.out.cells4
        obtain ⟨x0, x1, x2, x3⟩ := XO.out.cells4
        go_wp2_with fail
        refine (l1In_any _ _ _ _).mono ?_
        rintro e w4 ⟨rfl, hw4⟩
        subst w4
        have hn1' : 0 < n0 := by have := mem_some hM; omega
        obtain ⟨gS, hb0⟩ : ∃ gS, b0 = some ⟨gS, 0, none⟩ := by
          rcases L0.out.rowShape with h | ⟨g, h⟩
          · omega
          · exact ⟨g, h⟩
        subst hb0
        obtain ⟨fpS0, mS0, rS0⟩ := L0.out.mine
        have hgS := rS0 gS (row_parts mS0).1
        obtain ⟨gC, FC, hC0, hC1, hC2⟩ := cache_parts L1.out
        have MS0 := hidden mS0
        have RS0 := hidden rS0
        have HC1 := hidden hC1
        have HC2 := hidden hC2
        clear mS0 rS0 hC1 hC2
        go_wp2
        clear x0 x1 x2 x3
        go_loopw [6] (fun i wr => ∃ (j : Nat) (fpS : List Nat), j ≤ 20 ∧ i = .int .i64 j ∧ Turned [gS] w3 wr ∧ tIntSS.Mine wr [.slice (some ⟨gS, 0, none⟩) n0 e0] (flushD ss (keptD k cs j)) fpS ∧ (∀ b ∈ fpS, (m1 ≤ b ∧ b < m2) ∨ ∃ i, i < j ∧ b ∈ FC i)) (fun i _ => 20 - (intOf i).toNat)
        case atStart => exact ⟨0, fpS0, Nat.zero_le _, rfl, Turned.refl _ _, by rw [keptD_zero, flushD_nil]; exact MS0.out, fun b hb => .inl (RS0.out b hb)⟩
        case round =>
          obtain ⟨j, fpS, hj, rfl, tn, hS, hfp⟩ := hrel
          have hs := tn.size
          have xo := XO.out.turned tn (by simp; omega)
          obtain ⟨y0, y1, y2, y3⟩ := xo.cells4
          by_cases hjn : j < 20
          · have k1 : (0 : Int) ≤ (j : Int) := by omega
            have k2 : (j : Int) < (n1 : Int) := by omega
            rcases hC0 with hC0 | ⟨rfl, hC3, hC4⟩
            · omega
            have hdj : cs[j]? = some (cs[j]'(by omega)) := List.getElem?_eq_getElem (by omega)
            have htk : cs.take (j + 1) = cs.take j ++ [cs[j]'(by omega)] := List.take_succ_eq_append_getElem (by omega)
            have hmem : cs[j]'(by omega) ∈ cs := List.getElem_mem _
            generalize cs[j]'(by omega) = x at hdj htk hmem
            obtain ⟨q, hq, hql⟩ := mem_writes_lt hM x hmem
            obtain ⟨av, cv, mx, rx, cv0, cv1⟩ := HC1.out j x hdj
            obtain ⟨x0, x1⟩ := x
            simp only at hq mx rx cv0 cv1
            subst hq
            have ncs : gC ≠ gS := by omega
            have d0 := (cell_kept (tn.block gC (by omega) (by simp; omega)) (j * 2)).trans cv0
            have d1 := (cell_kept (tn.block gC (by omega) (by simp; omega)) (j * 2 + 1)).trans cv1
            have mr := mx.kept tn (fun b hb hb' => by have := rx b hb; simp at hb'; omega)
            obtain ⟨⟨old, cOld⟩, fz, hgm, fpA, mA, rA⟩ := row_set1 (j := q) rfl hS (by omega) mr (fun b hb hb' => by
              have h1 := rx b hb
              rcases hfp b hb' with h2 | ⟨i, h2, h3⟩
              · omega
              · exact HC2.out i j h2 (by omega) b h3 hb)
            have hfA : ∀ b ∈ fpA, (m1 ≤ b ∧ b < m2) ∨ ∃ i, i < j + 1 ∧ b ∈ FC i := fun b hb => by
              rcases rA b hb with h | h
              · rcases hfp b h with h2 | ⟨i, h2, h3⟩
                · exact .inl h2
                · exact .inr ⟨i, by omega, h3⟩
              · exact .inr ⟨j, by omega, h⟩
            have k3 : (0 : Int) ≤ (q : Int) := by omega
            have k4 : (q : Int) < (n0 : Int) := by omega
            have HTK := hidden htk
            have HFA := hidden hfA
            have MA := hidden mA
            have TA := hidden (tn.trans (Turned.setCell (w := wr) (g := gS) (j := q) (.slice av x1.length cv) (List.mem_cons_self : gS ∈ [gS])))
            have XOR := hidden xo
            have nO : Hid (w1.heap.size ≠ gS) := by unfold Hid; omega
            have nC : Hid (gC ≠ gS) := ncs
            have hT : Hid (wr.cell? ⟨gC, j * 2, none⟩ = some (.int .i64 (q : Int)) ∧ wr.cell? ⟨gC, j * 2 + 1, none⟩ = some (.slice av x1.length cv)) := ⟨d0, d1⟩
            have k6 : (j : Int) < 20 := by omega
            by_cases hbit : bitB k j = true
            · have HS := hidden (keptD_set hbit hdj)
              have hbw : (bits BinOp.and IntKind.i64 (k / 2 ^ j) 1 == 1) = true := hbit
              clear hdj htk hmem hbit mx rx cv0 cv1 mr hfA mA rA tn hS hfp xo hgm ncs
              go_wp2_with fail
              go_region_held3 (fun w' => w'.cell? ⟨w1.heap.size, 0, none⟩ = some (.slice (some ⟨gS, 0, none⟩) n0 e0) ∧ w'.cell? ⟨w1.heap.size, 1, none⟩ = some (.slice (some ⟨gC, 0, none⟩) n1 e1) ∧ w'.cell? ⟨gC, j * 2, none⟩ = some (.int .i64 (q : Int)) ∧ w'.cell? ⟨gC, j * 2 + 1, none⟩ = some (.slice av x1.length cv))
                (first | (exact ⟨y0, y1, d0, d1⟩) | (exact ⟨(XOR.out.other nO.out q (.slice av x1.length cv)).cell 0, (XOR.out.other nO.out q (.slice av x1.length cv)).cell 1, (cell_kept (Below.heap_setCell _ _ _ _ nC.out) _).trans d0, (cell_kept (Below.heap_setCell _ _ _ _ nC.out) _).trans d1⟩) | go_keep)
                (fail)
              clear d0 d1 y0 y1 y2 y3 cOld fz XOR nO nC hT
              go_wp2
              go_roundw
              case rel => exact ⟨j + 1, fpA, by omega, by go_num, Turned.adrew TA.out, by rw [HS.out, flushD_snoc (by omega)]; exact Ty.Mine.adrew MA.out, HFA.out⟩
              case measure => simp [intOf]; omega
            · have hbit : bitB k j = false := by simpa using hbit
              have HS := hidden (keptD_not (cs := cs) hbit)
              have hbw : (bits BinOp.and IntKind.i64 (k / 2 ^ j) 1 == 1) = false := hbit
              have TN := hidden tn
              have SN := hidden hS
              have FN := hidden hfp
              clear hdj htk hmem mx rx cv0 cv1 mr hfA mA rA tn hS hfp xo hgm ncs hbit d0 d1 cOld fz XOR nO nC hT HFA MA TA
              go_wp2
              go_roundw
              case rel => exact ⟨j + 1, fpS, by omega, by go_num, TN.out, by rw [HS.out]; exact SN.out, fun b hb => by
                rcases FN.out b hb with h2 | ⟨i, h2, h3⟩
                · exact .inl h2
                · exact .inr ⟨i, by omega, h3⟩⟩
              case measure => simp [intOf]; omega
          · have e : 20 = j := by omega
            subst e
            have yo := xo.alloc (.cells #[] 108)
            have ys := yo.set 1 (.slice (some ⟨wr.heap.size, 0, none⟩) 0 0)
            have yt := ((XR.out.turned tn (by simp; omega)).alloc (.cells #[] 108)).other (g := w1.heap.size) (by omega) 1 (.slice (some ⟨wr.heap.size, 0, none⟩) 0 0)
            obtain ⟨s0, s1, s2, s3⟩ := yo.cells4
            have fo := yo.frozen 1
            obtain ⟨t0, t1, t2, t3⟩ := Box.cells4 (v0 := .slice (some ⟨gS, 0, none⟩) n0 e0) (v1 := (.slice (some ⟨wr.heap.size, 0, none⟩) 0 0)) (v2 := .bool f) (v3 := .slice b3 n3 e3) ys
            obtain ⟨p0, p1, p2, p3⟩ := yt.cells4
            have fz := yt.frozen
            have zl : (wr.alloc (.cells #[] 108)).heap.size = wr.heap.size + 1 := by simp
            have ZL := hidden zl
            have bo := But.setCell (lo := w1.heap.size) (hi := w1.heap.size + 1) (g := w1.heap.size) (j := 1) (w := (wr.alloc (.cells #[] 108))) (Nat.le_refl _) (Nat.lt_succ_self _) (.slice (some ⟨wr.heap.size, 0, none⟩) 0 0)
            have bl : Below wr.heap.size wr (wr.alloc (.cells #[] 108)) := (Below.refl _ _).alloc (Nat.le_refl _) _
            have kl := ((lit0_mine (t := tWr) (E := 108) wr).own (lo := wr.heap.size) (hi := wr.heap.size + 1) (fun b hb => by simp at hb; omega)).but bo (.inr (by omega))
            have k0 := ((hS.own (lo := m1) (hi := w1.heap.size) (fun b hb => by
              rcases hfp b hb with h | ⟨i, h2, h3⟩
              · omega
              · by_cases hin : i < n1
                · obtain ⟨_, _, _, r, _⟩ := HC1.out i _ (List.getElem?_eq_getElem (by omega))
                  have := r b h3
                  omega
                · omega)).below bl).but bo (.inl (Nat.le_refl _))
            have k3 := ((L3.out.but (tn.but (lo := m1) (hi := m2) (by simp; omega)) (.inl (Nat.le_refl _))).below bl).but bo (.inl (by omega))
            have kb : Below w.heap.size w ((wr.alloc (.cells #[] 108)).setCell ⟨w1.heap.size, 1, none⟩ (.slice (some ⟨wr.heap.size, 0, none⟩) 0 0)) := LB.out.trans ((tn.below (N := w.heap.size) (by omega) (by simp; omega)).trans ((bl.mono (by omega)).trans (bo.below (by omega) (by omega))))
            have zs := bo.size
            clear zl bo bl hS tn hfp xo yo ys yt q0 q1 q2 q3 XM hC0 HC1 HC2 MS0 RS0
            go_wp2
            generalize ((wr.alloc (.cells #[] 108)).setCell ⟨w1.heap.size, 1, none⟩ (.slice (some ⟨wr.heap.size, 0, none⟩) 0 0)) = wz at t0 t1 t2 t3 p0 p1 p2 p3 fz kl k0 k3 kb zs ⊢
            have zL := ZL.out
            have hbt : But (w.heap.size + 1) (w.heap.size + 2) wz ((((wz.setCell ⟨w.heap.size + 1, 0, none⟩ (.slice (some ⟨gS, 0, none⟩) n0 e0)).setCell ⟨w.heap.size + 1, 1, none⟩ (.slice (some ⟨wr.heap.size, 0, none⟩) 0 0)).setCell ⟨w.heap.size + 1, 2, none⟩ (.bool f)).setCell ⟨w.heap.size + 1, 3, none⟩ (.slice b3 n3 e3)) :=
              (((But.setCell (by omega) (by omega) _).trans (But.setCell (by omega) (by omega) _)).trans (But.setCell (by omega) (by omega) _)).trans (But.setCell (by omega) (by omega) _)
            have z9 := hbt.size
            refine bodyPost_ret (v := .agg #[.slice (some ⟨gS, 0, none⟩) n0 e0, (.slice (some ⟨wr.heap.size, 0, none⟩) 0 0), .bool f, .slice b3 n3 e3]) (by simp [results, Try.results43, go_sem, p0, p1, p2, p3]) rfl ?_
            exact ⟨_, _, _, rfl, mem_own3 (k0.but hbt (by omega)) (kl.but hbt (by omega)) (k3.but hbt (by omega)) (by omega) (by omega) (by omega) (by omega) (by omega) (by omega), Below.andBut kb hbt (by omega)⟩
    · have hv : inB k 0 1048575 = false := by simpa using hv
      have hkk : keepN k = 0 := by unfold keepN; unfold inB at hv; simp at hv; rw [if_neg (by omega)]
      rw [hkk]
      clear hkk
      by_cases h20 : n1 ≤ 20
      · rw [Nat.min_eq_left h20]
        have hA : Below w.heap.size w ((w.alloc (.cells #[.slice a0 n0 c0, .slice a1 n1 c1, .bool f, .slice a3 n3 c3] 73)).alloc (.cells #[.slice none 0 0, .slice none 0 0, .bool false, .slice none 0 0] 73)) := ((Below.refl _ _).alloc (Nat.le_refl _) _).alloc (by simp) _
        have xm : Box ((w.alloc (.cells #[.slice a0 n0 c0, .slice a1 n1 c1, .bool f, .slice a3 n3 c3] 73)).alloc (.cells #[.slice none 0 0, .slice none 0 0, .bool false, .slice none 0 0] 73)) w.heap.size 73 #[.slice a0 n0 c0, .slice a1 n1 c1, .bool f, .slice a3 n3 c3] := (Box.new w _ _).alloc _
        have xr : Box ((w.alloc (.cells #[.slice a0 n0 c0, .slice a1 n1 c1, .bool f, .slice a3 n3 c3] 73)).alloc (.cells #[.slice none 0 0, .slice none 0 0, .bool false, .slice none 0 0] 73)) (w.heap.size + 1) 73 #[.slice none 0 0, .slice none 0 0, .bool false, .slice none 0 0] := by
          have := Box.new (w.alloc (.cells #[.slice a0 n0 c0, .slice a1 n1 c1, .bool f, .slice a3 n3 c3] 73)) 73 #[.slice none 0 0, .slice none 0 0, .bool false, .slice none 0 0]
          rw [show (w.alloc (.cells #[.slice a0 n0 c0, .slice a1 n1 c1, .bool f, .slice a3 n3 c3] 73)).heap.size = w.heap.size + 1 by simp] at this
          exact this
        go_enter Try.func43, Try.ntmps43
        go_wp2_with fail
        generalize hW : (w.alloc (.cells #[.slice a0 n0 c0, .slice a1 n1 c1, .bool f, .slice a3 n3 c3] 73)).alloc (.cells #[.slice none 0 0, .slice none 0 0, .bool false, .slice none 0 0] 73) = W at hA xm xr ⊢
        clear hW
        have zr := xr.lt
        obtain ⟨q0, q1, q2, q3⟩ := xm.cells4
        have XM := hidden xm
        have XR := hidden xr
        clear xm xr
        refine (l2Copy_any _ E _ _ _ _ _ _ _ _ _ ss cs f bs (h0.below hA) (h1.below hA) (h3.below hA) hw).mono ?_
        intro e w1 hc
        obtain ⟨b0, b1, b3, e0, e1, e3, m1, m2, rfl, o3, o0, o1, r1, r2, r3, bb⟩ := copy_shapes hl0 hl1 hl3 hc
        clear hc
        have z1 := bb.size
        have sW : w.heap.size + 2 ≤ W.heap.size := by omega
        have ba : Below w1.heap.size w1 (w1.alloc (.cells #[.slice b0 n0 e0, .slice b1 n1 e1, .bool f, .slice b3 n3 e3] 73)) := (Below.refl _ _).alloc (Nat.le_refl _) _
        have yo := Box.new w1 73 #[.slice b0 n0 e0, .slice b1 n1 e1, .bool f, .slice b3 n3 e3]
        have zo := yo.lt
        have YO := hidden yo
        have YR := hidden ((XR.out.below bb zr).below ba (by omega))
        have YM := hidden ((XM.out.below bb (by omega)).below ba (by omega))
        have K0 := hidden (o0.below ba)
        have K1 := hidden (o1.below ba)
        have K3 := hidden (o3.below ba)
        have KB := hidden (hA.trans ((bb.mono (by omega : w.heap.size ≤ W.heap.size)).trans (ba.mono (by omega))))
        clear yo o0 o1 o3 XM XR bb ba hA q0 q1 q2 q3
        obtain ⟨q0, q1, q2, q3⟩ := YM.out.cells4
        go_wp2_with fail
        generalize w1.alloc (.cells #[.slice b0 n0 e0, .slice b1 n1 e1, .bool f, .slice b3 n3 e3] 73) = w2 at YO YR YM K0 K1 K3 KB zo q0 q1 q2 q3 ⊢
        refine (specMemOk_any _ E _ _ _ _ _ _ _ _ _ ss cs f bs (h0.below KB.out) (h1.below KB.out) (h3.below KB.out) hw).mono ?_
        rintro e w3 ⟨rfl, b4⟩
        have z3 := b4.size
        have XO := hidden (YO.out.below b4 (by omega))
        have XR := hidden (YR.out.below b4 (by omega))
        have XM := hidden (YM.out.below b4 (by omega))
        have L0 := hidden (K0.out.below b4)
        have L1 := hidden (K1.out.below b4)
        have L3 := hidden (K3.out.below b4)
        have LB := hidden (KB.out.trans (b4.mono (by have := KB.out.size; omega)))
        clear YO YR YM K0 K1 K3 KB b4 q0 q1 q2 q3
        obtain ⟨q0, q1, q2, q3⟩ := XM.out.cells4
        obtain ⟨x0, x1, x2, x3⟩ := XO.out.cells4
        go_wp2_with fail
        refine (l1In_any _ _ _ _).mono ?_
        rintro e w4 ⟨rfl, hw4⟩
        subst w4
        have hn1' : 0 < n0 := by have := mem_some hM; omega
        obtain ⟨gS, hb0⟩ : ∃ gS, b0 = some ⟨gS, 0, none⟩ := by
          rcases L0.out.rowShape with h | ⟨g, h⟩
          · omega
          · exact ⟨g, h⟩
        subst hb0
        obtain ⟨fpS0, mS0, rS0⟩ := L0.out.mine
        have hgS := rS0 gS (row_parts mS0).1
        obtain ⟨gC, FC, hC0, hC1, hC2⟩ := cache_parts L1.out
        have MS0 := hidden mS0
        have RS0 := hidden rS0
        have HC1 := hidden hC1
        have HC2 := hidden hC2
        clear mS0 rS0 hC1 hC2
        go_wp2
        clear x0 x1 x2 x3
        go_loopw [6] (fun i wr => ∃ (j : Nat) (fpS : List Nat), j ≤ n1 ∧ i = .int .i64 j ∧ Turned [gS] w3 wr ∧ tIntSS.Mine wr [.slice (some ⟨gS, 0, none⟩) n0 e0] (flushD ss (keptD 0 cs j)) fpS ∧ (∀ b ∈ fpS, (m1 ≤ b ∧ b < m2) ∨ ∃ i, i < j ∧ b ∈ FC i)) (fun i _ => n1 - (intOf i).toNat)
        case atStart => exact ⟨0, fpS0, Nat.zero_le _, rfl, Turned.refl _ _, by rw [keptD_zero, flushD_nil]; exact MS0.out, fun b hb => .inl (RS0.out b hb)⟩
        case round =>
          obtain ⟨j, fpS, hj, rfl, tn, hS, hfp⟩ := hrel
          have hs := tn.size
          have xo := XO.out.turned tn (by simp; omega)
          obtain ⟨y0, y1, y2, y3⟩ := xo.cells4
          by_cases hjn : j < n1
          · have k1 : (0 : Int) ≤ (j : Int) := by omega
            have k2 : (j : Int) < (n1 : Int) := by omega
            rcases hC0 with hC0 | ⟨rfl, hC3, hC4⟩
            · omega
            have hdj : cs[j]? = some (cs[j]'(by omega)) := List.getElem?_eq_getElem (by omega)
            have htk : cs.take (j + 1) = cs.take j ++ [cs[j]'(by omega)] := List.take_succ_eq_append_getElem (by omega)
            have hmem : cs[j]'(by omega) ∈ cs := List.getElem_mem _
            generalize cs[j]'(by omega) = x at hdj htk hmem
            obtain ⟨q, hq, hql⟩ := mem_writes_lt hM x hmem
            obtain ⟨av, cv, mx, rx, cv0, cv1⟩ := HC1.out j x hdj
            obtain ⟨x0, x1⟩ := x
            simp only at hq mx rx cv0 cv1
            subst hq
            have ncs : gC ≠ gS := by omega
            have d0 := (cell_kept (tn.block gC (by omega) (by simp; omega)) (j * 2)).trans cv0
            have d1 := (cell_kept (tn.block gC (by omega) (by simp; omega)) (j * 2 + 1)).trans cv1
            have mr := mx.kept tn (fun b hb hb' => by have := rx b hb; simp at hb'; omega)
            obtain ⟨⟨old, cOld⟩, fz, hgm, fpA, mA, rA⟩ := row_set1 (j := q) rfl hS (by omega) mr (fun b hb hb' => by
              have h1 := rx b hb
              rcases hfp b hb' with h2 | ⟨i, h2, h3⟩
              · omega
              · exact HC2.out i j h2 (by omega) b h3 hb)
            have hfA : ∀ b ∈ fpA, (m1 ≤ b ∧ b < m2) ∨ ∃ i, i < j + 1 ∧ b ∈ FC i := fun b hb => by
              rcases rA b hb with h | h
              · rcases hfp b h with h2 | ⟨i, h2, h3⟩
                · exact .inl h2
                · exact .inr ⟨i, by omega, h3⟩
              · exact .inr ⟨j, by omega, h⟩
            have k3 : (0 : Int) ≤ (q : Int) := by omega
            have k4 : (q : Int) < (n0 : Int) := by omega
            have HTK := hidden htk
            have HFA := hidden hfA
            have MA := hidden mA
            have TA := hidden (tn.trans (Turned.setCell (w := wr) (g := gS) (j := q) (.slice av x1.length cv) (List.mem_cons_self : gS ∈ [gS])))
            have XOR := hidden xo
            have nO : Hid (w1.heap.size ≠ gS) := by unfold Hid; omega
            have nC : Hid (gC ≠ gS) := ncs
            have hT : Hid (wr.cell? ⟨gC, j * 2, none⟩ = some (.int .i64 (q : Int)) ∧ wr.cell? ⟨gC, j * 2 + 1, none⟩ = some (.slice av x1.length cv)) := ⟨d0, d1⟩
            have k6 : (j : Int) < 20 := by omega
            have hbit := bit_zero j
            have HS := hidden (keptD_not (cs := cs) hbit)
            have hbw : (bits BinOp.and IntKind.i64 0 1 == 1) = false := by decide
            have TN := hidden tn
            have SN := hidden hS
            have FN := hidden hfp
            clear hdj htk hmem mx rx cv0 cv1 mr hfA mA rA tn hS hfp xo hgm ncs hbit d0 d1 cOld fz XOR nO nC hT HFA MA TA
            go_wp2
            go_roundw
            case rel => exact ⟨j + 1, fpS, by omega, by go_num, TN.out, by rw [HS.out]; exact SN.out, fun b hb => by
              rcases FN.out b hb with h2 | ⟨i, h2, h3⟩
              · exact .inl h2
              · exact .inr ⟨i, by omega, h3⟩⟩
            case measure => simp [intOf]; omega
          · have e : n1 = j := by omega
            subst e
            have yo := xo.alloc (.cells #[] 108)
            have ys := yo.set 1 (.slice (some ⟨wr.heap.size, 0, none⟩) 0 0)
            have yt := ((XR.out.turned tn (by simp; omega)).alloc (.cells #[] 108)).other (g := w1.heap.size) (by omega) 1 (.slice (some ⟨wr.heap.size, 0, none⟩) 0 0)
            obtain ⟨s0, s1, s2, s3⟩ := yo.cells4
            have fo := yo.frozen 1
            obtain ⟨t0, t1, t2, t3⟩ := Box.cells4 (v0 := .slice (some ⟨gS, 0, none⟩) n0 e0) (v1 := (.slice (some ⟨wr.heap.size, 0, none⟩) 0 0)) (v2 := .bool f) (v3 := .slice b3 n3 e3) ys
            obtain ⟨p0, p1, p2, p3⟩ := yt.cells4
            have fz := yt.frozen
            have zl : (wr.alloc (.cells #[] 108)).heap.size = wr.heap.size + 1 := by simp
            have ZL := hidden zl
            have bo := But.setCell (lo := w1.heap.size) (hi := w1.heap.size + 1) (g := w1.heap.size) (j := 1) (w := (wr.alloc (.cells #[] 108))) (Nat.le_refl _) (Nat.lt_succ_self _) (.slice (some ⟨wr.heap.size, 0, none⟩) 0 0)
            have bl : Below wr.heap.size wr (wr.alloc (.cells #[] 108)) := (Below.refl _ _).alloc (Nat.le_refl _) _
            have kl := ((lit0_mine (t := tWr) (E := 108) wr).own (lo := wr.heap.size) (hi := wr.heap.size + 1) (fun b hb => by simp at hb; omega)).but bo (.inr (by omega))
            have k0 := ((hS.own (lo := m1) (hi := w1.heap.size) (fun b hb => by
              rcases hfp b hb with h | ⟨i, h2, h3⟩
              · omega
              · by_cases hin : i < n1
                · obtain ⟨_, _, _, r, _⟩ := HC1.out i _ (List.getElem?_eq_getElem (by omega))
                  have := r b h3
                  omega
                · omega)).below bl).but bo (.inl (Nat.le_refl _))
            have k3 := ((L3.out.but (tn.but (lo := m1) (hi := m2) (by simp; omega)) (.inl (Nat.le_refl _))).below bl).but bo (.inl (by omega))
            have kb : Below w.heap.size w ((wr.alloc (.cells #[] 108)).setCell ⟨w1.heap.size, 1, none⟩ (.slice (some ⟨wr.heap.size, 0, none⟩) 0 0)) := LB.out.trans ((tn.below (N := w.heap.size) (by omega) (by simp; omega)).trans ((bl.mono (by omega)).trans (bo.below (by omega) (by omega))))
            have zs := bo.size
            clear zl bo bl hS tn hfp xo yo ys yt q0 q1 q2 q3 XM hC0 HC1 HC2 MS0 RS0
            go_wp2
            generalize ((wr.alloc (.cells #[] 108)).setCell ⟨w1.heap.size, 1, none⟩ (.slice (some ⟨wr.heap.size, 0, none⟩) 0 0)) = wz at t0 t1 t2 t3 p0 p1 p2 p3 fz kl k0 k3 kb zs ⊢
            have zL := ZL.out
            have hbt : But (w.heap.size + 1) (w.heap.size + 2) wz ((((wz.setCell ⟨w.heap.size + 1, 0, none⟩ (.slice (some ⟨gS, 0, none⟩) n0 e0)).setCell ⟨w.heap.size + 1, 1, none⟩ (.slice (some ⟨wr.heap.size, 0, none⟩) 0 0)).setCell ⟨w.heap.size + 1, 2, none⟩ (.bool f)).setCell ⟨w.heap.size + 1, 3, none⟩ (.slice b3 n3 e3)) :=
              (((But.setCell (by omega) (by omega) _).trans (But.setCell (by omega) (by omega) _)).trans (But.setCell (by omega) (by omega) _)).trans (But.setCell (by omega) (by omega) _)
            have z9 := hbt.size
            refine bodyPost_ret (v := .agg #[.slice (some ⟨gS, 0, none⟩) n0 e0, (.slice (some ⟨wr.heap.size, 0, none⟩) 0 0), .bool f, .slice b3 n3 e3]) (by simp [results, Try.results43, go_sem, p0, p1, p2, p3]) rfl ?_
            exact ⟨_, _, _, rfl, mem_own3 (k0.but hbt (by omega)) (kl.but hbt (by omega)) (k3.but hbt (by omega)) (by omega) (by omega) (by omega) (by omega) (by omega) (by omega), Below.andBut kb hbt (by omega)⟩
      · rw [Nat.min_eq_right (by omega)]
        have h21 : (20 : Int) < (n1 : Int) := by omega
        have hA : Below w.heap.size w ((w.alloc (.cells #[.slice a0 n0 c0, .slice a1 n1 c1, .bool f, .slice a3 n3 c3] 73)).alloc (.cells #[.slice none 0 0, .slice none 0 0, .bool false, .slice none 0 0] 73)) := ((Below.refl _ _).alloc (Nat.le_refl _) _).alloc (by simp) _
        have xm : Box ((w.alloc (.cells #[.slice a0 n0 c0, .slice a1 n1 c1, .bool f, .slice a3 n3 c3] 73)).alloc (.cells #[.slice none 0 0, .slice none 0 0, .bool false, .slice none 0 0] 73)) w.heap.size 73 #[.slice a0 n0 c0, .slice a1 n1 c1, .bool f, .slice a3 n3 c3] := (Box.new w _ _).alloc _
        have xr : Box ((w.alloc (.cells #[.slice a0 n0 c0, .slice a1 n1 c1, .bool f, .slice a3 n3 c3] 73)).alloc (.cells #[.slice none 0 0, .slice none 0 0, .bool false, .slice none 0 0] 73)) (w.heap.size + 1) 73 #[.slice none 0 0, .slice none 0 0, .bool false, .slice none 0 0] := by
          have := Box.new (w.alloc (.cells #[.slice a0 n0 c0, .slice a1 n1 c1, .bool f, .slice a3 n3 c3] 73)) 73 #[.slice none 0 0, .slice none 0 0, .bool false, .slice none 0 0]
          rw [show (w.alloc (.cells #[.slice a0 n0 c0, .slice a1 n1 c1, .bool f, .slice a3 n3 c3] 73)).heap.size = w.heap.size + 1 by simp] at this
          exact this
        go_enter Try.func43, Try.ntmps43
        go_wp2_with fail
        generalize hW : (w.alloc (.cells #[.slice a0 n0 c0, .slice a1 n1 c1, .bool f, .slice a3 n3 c3] 73)).alloc (.cells #[.slice none 0 0, .slice none 0 0, .bool false, .slice none 0 0] 73) = W at hA xm xr ⊢
        clear hW
        have zr := xr.lt
        obtain ⟨q0, q1, q2, q3⟩ := xm.cells4
        have XM := hidden xm
        have XR := hidden xr
        clear xm xr
        refine (l2Copy_any _ E _ _ _ _ _ _ _ _ _ ss cs f bs (h0.below hA) (h1.below hA) (h3.below hA) hw).mono ?_
        intro e w1 hc
        obtain ⟨b0, b1, b3, e0, e1, e3, m1, m2, rfl, o3, o0, o1, r1, r2, r3, bb⟩ := copy_shapes hl0 hl1 hl3 hc
        clear hc
        have z1 := bb.size
        have sW : w.heap.size + 2 ≤ W.heap.size := by omega
        have ba : Below w1.heap.size w1 (w1.alloc (.cells #[.slice b0 n0 e0, .slice b1 n1 e1, .bool f, .slice b3 n3 e3] 73)) := (Below.refl _ _).alloc (Nat.le_refl _) _
        have yo := Box.new w1 73 #[.slice b0 n0 e0, .slice b1 n1 e1, .bool f, .slice b3 n3 e3]
        have zo := yo.lt
        have YO := hidden yo
        have YR := hidden ((XR.out.below bb zr).below ba (by omega))
        have YM := hidden ((XM.out.below bb (by omega)).below ba (by omega))
        have K0 := hidden (o0.below ba)
        have K1 := hidden (o1.below ba)
        have K3 := hidden (o3.below ba)
        have KB := hidden (hA.trans ((bb.mono (by omega : w.heap.size ≤ W.heap.size)).trans (ba.mono (by omega))))
        clear yo o0 o1 o3 XM XR bb ba hA q0 q1 q2 q3
        obtain ⟨q0, q1, q2, q3⟩ := YM.out.cells4
        go_wp2_with fail
        generalize w1.alloc (.cells #[.slice b0 n0 e0, .slice b1 n1 e1, .bool f, .slice b3 n3 e3] 73) = w2 at YO YR YM K0 K1 K3 KB zo q0 q1 q2 q3 ⊢
        refine (specMemOk_any _ E _ _ _ _ _ _ _ _ _ ss cs f bs (h0.below KB.out) (h1.below KB.out) (h3.below KB.out) hw).mono ?_
        rintro e w3 ⟨rfl, b4⟩
        have z3 := b4.size
        have XO := hidden (YO.out.below b4 (by omega))
        have XR := hidden (YR.out.below b4 (by omega))
        have XM := hidden (YM.out.below b4 (by omega))
        have L0 := hidden (K0.out.below b4)
        have L1 := hidden (K1.out.below b4)
        have L3 := hidden (K3.out.below b4)
        have LB := hidden (KB.out.trans (b4.mono (by have := KB.out.size; omega)))
        clear YO YR YM K0 K1 K3 KB b4 q0 q1 q2 q3
        obtain ⟨q0, q1, q2, q3⟩ := XM.out.cells4
        obtain ⟨x0, x1, x2, x3⟩ := XO.out.cells4
        go_wp2_with fail
        refine (l1In_any _ _ _ _).mono ?_
        rintro e w4 ⟨rfl, hw4⟩
        subst w4
        have hn1' : 0 < n0 := by have := mem_some hM; omega
        obtain ⟨gS, hb0⟩ : ∃ gS, b0 = some ⟨gS, 0, none⟩ := by
          rcases L0.out.rowShape with h | ⟨g, h⟩
          · omega
          · exact ⟨g, h⟩
        subst hb0
        obtain ⟨fpS0, mS0, rS0⟩ := L0.out.mine
        have hgS := rS0 gS (row_parts mS0).1
        obtain ⟨gC, FC, hC0, hC1, hC2⟩ := cache_parts L1.out
        have MS0 := hidden mS0
        have RS0 := hidden rS0
        have HC1 := hidden hC1
        have HC2 := hidden hC2
        clear mS0 rS0 hC1 hC2
        go_wp2
        clear x0 x1 x2 x3
        go_loopw [6] (fun i wr => ∃ (j : Nat) (fpS : List Nat), j ≤ 20 ∧ i = .int .i64 j ∧ Turned [gS] w3 wr ∧ tIntSS.Mine wr [.slice (some ⟨gS, 0, none⟩) n0 e0] (flushD ss (keptD 0 cs j)) fpS ∧ (∀ b ∈ fpS, (m1 ≤ b ∧ b < m2) ∨ ∃ i, i < j ∧ b ∈ FC i)) (fun i _ => 20 - (intOf i).toNat)
        case atStart => exact ⟨0, fpS0, Nat.zero_le _, rfl, Turned.refl _ _, by rw [keptD_zero, flushD_nil]; exact MS0.out, fun b hb => .inl (RS0.out b hb)⟩
        case round =>
          obtain ⟨j, fpS, hj, rfl, tn, hS, hfp⟩ := hrel
          have hs := tn.size
          have xo := XO.out.turned tn (by simp; omega)
          obtain ⟨y0, y1, y2, y3⟩ := xo.cells4
          by_cases hjn : j < 20
          · have k1 : (0 : Int) ≤ (j : Int) := by omega
            have k2 : (j : Int) < (n1 : Int) := by omega
            rcases hC0 with hC0 | ⟨rfl, hC3, hC4⟩
            · omega
            have hdj : cs[j]? = some (cs[j]'(by omega)) := List.getElem?_eq_getElem (by omega)
            have htk : cs.take (j + 1) = cs.take j ++ [cs[j]'(by omega)] := List.take_succ_eq_append_getElem (by omega)
            have hmem : cs[j]'(by omega) ∈ cs := List.getElem_mem _
            generalize cs[j]'(by omega) = x at hdj htk hmem
            obtain ⟨q, hq, hql⟩ := mem_writes_lt hM x hmem
            obtain ⟨av, cv, mx, rx, cv0, cv1⟩ := HC1.out j x hdj
            obtain ⟨x0, x1⟩ := x
            simp only at hq mx rx cv0 cv1
            subst hq
            have ncs : gC ≠ gS := by omega
            have d0 := (cell_kept (tn.block gC (by omega) (by simp; omega)) (j * 2)).trans cv0
            have d1 := (cell_kept (tn.block gC (by omega) (by simp; omega)) (j * 2 + 1)).trans cv1
            have mr := mx.kept tn (fun b hb hb' => by have := rx b hb; simp at hb'; omega)
            obtain ⟨⟨old, cOld⟩, fz, hgm, fpA, mA, rA⟩ := row_set1 (j := q) rfl hS (by omega) mr (fun b hb hb' => by
              have h1 := rx b hb
              rcases hfp b hb' with h2 | ⟨i, h2, h3⟩
              · omega
              · exact HC2.out i j h2 (by omega) b h3 hb)
            have hfA : ∀ b ∈ fpA, (m1 ≤ b ∧ b < m2) ∨ ∃ i, i < j + 1 ∧ b ∈ FC i := fun b hb => by
              rcases rA b hb with h | h
              · rcases hfp b h with h2 | ⟨i, h2, h3⟩
                · exact .inl h2
                · exact .inr ⟨i, by omega, h3⟩
              · exact .inr ⟨j, by omega, h⟩
            have k3 : (0 : Int) ≤ (q : Int) := by omega
            have k4 : (q : Int) < (n0 : Int) := by omega
            have HTK := hidden htk
            have HFA := hidden hfA
            have MA := hidden mA
            have TA := hidden (tn.trans (Turned.setCell (w := wr) (g := gS) (j := q) (.slice av x1.length cv) (List.mem_cons_self : gS ∈ [gS])))
            have XOR := hidden xo
            have nO : Hid (w1.heap.size ≠ gS) := by unfold Hid; omega
            have nC : Hid (gC ≠ gS) := ncs
            have hT : Hid (wr.cell? ⟨gC, j * 2, none⟩ = some (.int .i64 (q : Int)) ∧ wr.cell? ⟨gC, j * 2 + 1, none⟩ = some (.slice av x1.length cv)) := ⟨d0, d1⟩
            have k6 : (j : Int) < 20 := by omega
            have hbit := bit_zero j
            have HS := hidden (keptD_not (cs := cs) hbit)
            have hbw : (bits BinOp.and IntKind.i64 0 1 == 1) = false := by decide
            have TN := hidden tn
            have SN := hidden hS
            have FN := hidden hfp
            clear hdj htk hmem mx rx cv0 cv1 mr hfA mA rA tn hS hfp xo hgm ncs hbit d0 d1 cOld fz XOR nO nC hT HFA MA TA
            go_wp2
            go_roundw
            case rel => exact ⟨j + 1, fpS, by omega, by go_num, TN.out, by rw [HS.out]; exact SN.out, fun b hb => by
              rcases FN.out b hb with h2 | ⟨i, h2, h3⟩
              · exact .inl h2
              · exact .inr ⟨i, by omega, h3⟩⟩
            case measure => simp [intOf]; omega
          · have e : 20 = j := by omega
            subst e
            have yo := xo.alloc (.cells #[] 108)
            have ys := yo.set 1 (.slice (some ⟨wr.heap.size, 0, none⟩) 0 0)
            have yt := ((XR.out.turned tn (by simp; omega)).alloc (.cells #[] 108)).other (g := w1.heap.size) (by omega) 1 (.slice (some ⟨wr.heap.size, 0, none⟩) 0 0)
            obtain ⟨s0, s1, s2, s3⟩ := yo.cells4
            have fo := yo.frozen 1
            obtain ⟨t0, t1, t2, t3⟩ := Box.cells4 (v0 := .slice (some ⟨gS, 0, none⟩) n0 e0) (v1 := (.slice (some ⟨wr.heap.size, 0, none⟩) 0 0)) (v2 := .bool f) (v3 := .slice b3 n3 e3) ys
            obtain ⟨p0, p1, p2, p3⟩ := yt.cells4
            have fz := yt.frozen
            have zl : (wr.alloc (.cells #[] 108)).heap.size = wr.heap.size + 1 := by simp
            have ZL := hidden zl
            have bo := But.setCell (lo := w1.heap.size) (hi := w1.heap.size + 1) (g := w1.heap.size) (j := 1) (w := (wr.alloc (.cells #[] 108))) (Nat.le_refl _) (Nat.lt_succ_self _) (.slice (some ⟨wr.heap.size, 0, none⟩) 0 0)
            have bl : Below wr.heap.size wr (wr.alloc (.cells #[] 108)) := (Below.refl _ _).alloc (Nat.le_refl _) _
            have kl := ((lit0_mine (t := tWr) (E := 108) wr).own (lo := wr.heap.size) (hi := wr.heap.size + 1) (fun b hb => by simp at hb; omega)).but bo (.inr (by omega))
            have k0 := ((hS.own (lo := m1) (hi := w1.heap.size) (fun b hb => by
              rcases hfp b hb with h | ⟨i, h2, h3⟩
              · omega
              · by_cases hin : i < n1
                · obtain ⟨_, _, _, r, _⟩ := HC1.out i _ (List.getElem?_eq_getElem (by omega))
                  have := r b h3
                  omega
                · omega)).below bl).but bo (.inl (Nat.le_refl _))
            have k3 := ((L3.out.but (tn.but (lo := m1) (hi := m2) (by simp; omega)) (.inl (Nat.le_refl _))).below bl).but bo (.inl (by omega))
            have kb : Below w.heap.size w ((wr.alloc (.cells #[] 108)).setCell ⟨w1.heap.size, 1, none⟩ (.slice (some ⟨wr.heap.size, 0, none⟩) 0 0)) := LB.out.trans ((tn.below (N := w.heap.size) (by omega) (by simp; omega)).trans ((bl.mono (by omega)).trans (bo.below (by omega) (by omega))))
            have zs := bo.size
            clear zl bo bl hS tn hfp xo yo ys yt q0 q1 q2 q3 XM hC0 HC1 HC2 MS0 RS0
            go_wp2
            generalize ((wr.alloc (.cells #[] 108)).setCell ⟨w1.heap.size, 1, none⟩ (.slice (some ⟨wr.heap.size, 0, none⟩) 0 0)) = wz at t0 t1 t2 t3 p0 p1 p2 p3 fz kl k0 k3 kb zs ⊢
            have zL := ZL.out
            have hbt : But (w.heap.size + 1) (w.heap.size + 2) wz ((((wz.setCell ⟨w.heap.size + 1, 0, none⟩ (.slice (some ⟨gS, 0, none⟩) n0 e0)).setCell ⟨w.heap.size + 1, 1, none⟩ (.slice (some ⟨wr.heap.size, 0, none⟩) 0 0)).setCell ⟨w.heap.size + 1, 2, none⟩ (.bool f)).setCell ⟨w.heap.size + 1, 3, none⟩ (.slice b3 n3 e3)) :=
              (((But.setCell (by omega) (by omega) _).trans (But.setCell (by omega) (by omega) _)).trans (But.setCell (by omega) (by omega) _)).trans (But.setCell (by omega) (by omega) _)
            have z9 := hbt.size
            refine bodyPost_ret (v := .agg #[.slice (some ⟨gS, 0, none⟩) n0 e0, (.slice (some ⟨wr.heap.size, 0, none⟩) 0 0), .bool f, .slice b3 n3 e3]) (by simp [results, Try.results43, go_sem, p0, p1, p2, p3]) rfl ?_
            exact ⟨_, _, _, rfl, mem_own3 (k0.but hbt (by omega)) (kl.but hbt (by omega)) (k3.but hbt (by omega)) (by omega) (by omega) (by omega) (by omega) (by omega) (by omega), Below.andBut kb hbt (by omega)⟩
  · have hM : memB ss cs bs = false := by simpa using hM
    have e1 : faSS ss cs bs k = ss := by unfold faSS; simp [hM]
    have e2 : faCS ss cs bs = cs := by unfold faCS; simp [hM]
    rw [e1, e2]
    clear e1 e2
    have hA : Below w.heap.size w ((w.alloc (.cells #[.slice a0 n0 c0, .slice a1 n1 c1, .bool f, .slice a3 n3 c3] 73)).alloc (.cells #[.slice none 0 0, .slice none 0 0, .bool false, .slice none 0 0] 73)) := ((Below.refl _ _).alloc (Nat.le_refl _) _).alloc (by simp) _
    have xm : Box ((w.alloc (.cells #[.slice a0 n0 c0, .slice a1 n1 c1, .bool f, .slice a3 n3 c3] 73)).alloc (.cells #[.slice none 0 0, .slice none 0 0, .bool false, .slice none 0 0] 73)) w.heap.size 73 #[.slice a0 n0 c0, .slice a1 n1 c1, .bool f, .slice a3 n3 c3] := (Box.new w _ _).alloc _
    have xr : Box ((w.alloc (.cells #[.slice a0 n0 c0, .slice a1 n1 c1, .bool f, .slice a3 n3 c3] 73)).alloc (.cells #[.slice none 0 0, .slice none 0 0, .bool false, .slice none 0 0] 73)) (w.heap.size + 1) 73 #[.slice none 0 0, .slice none 0 0, .bool false, .slice none 0 0] := by
      have := Box.new (w.alloc (.cells #[.slice a0 n0 c0, .slice a1 n1 c1, .bool f, .slice a3 n3 c3] 73)) 73 #[.slice none 0 0, .slice none 0 0, .bool false, .slice none 0 0]
      rw [show (w.alloc (.cells #[.slice a0 n0 c0, .slice a1 n1 c1, .bool f, .slice a3 n3 c3] 73)).heap.size = w.heap.size + 1 by simp] at this
      exact this
    go_enter Try.func43, Try.ntmps43
    go_wp2_with fail
    generalize hW : (w.alloc (.cells #[.slice a0 n0 c0, .slice a1 n1 c1, .bool f, .slice a3 n3 c3] 73)).alloc (.cells #[.slice none 0 0, .slice none 0 0, .bool false, .slice none 0 0] 73) = W at hA xm xr ⊢
    clear hW
    have zr := xr.lt
    obtain ⟨q0, q1, q2, q3⟩ := xm.cells4
    have XM := hidden xm
    have XR := hidden xr
    clear xm xr
    refine (l2Copy_any _ E _ _ _ _ _ _ _ _ _ ss cs f bs (h0.below hA) (h1.below hA) (h3.below hA) hw).mono ?_
    intro e w1 hc
    obtain ⟨b0, b1, b3, e0, e1, e3, m1, m2, rfl, o3, o0, o1, r1, r2, r3, bb⟩ := copy_shapes hl0 hl1 hl3 hc
    clear hc
    have z1 := bb.size
    have sW : w.heap.size + 2 ≤ W.heap.size := by omega
    have ba : Below w1.heap.size w1 (w1.alloc (.cells #[.slice b0 n0 e0, .slice b1 n1 e1, .bool f, .slice b3 n3 e3] 73)) := (Below.refl _ _).alloc (Nat.le_refl _) _
    have yo := Box.new w1 73 #[.slice b0 n0 e0, .slice b1 n1 e1, .bool f, .slice b3 n3 e3]
    have zo := yo.lt
    have YO := hidden yo
    have YR := hidden ((XR.out.below bb zr).below ba (by omega))
    have YM := hidden ((XM.out.below bb (by omega)).below ba (by omega))
    have K0 := hidden (o0.below ba)
    have K1 := hidden (o1.below ba)
    have K3 := hidden (o3.below ba)
    have KB := hidden (hA.trans ((bb.mono (by omega : w.heap.size ≤ W.heap.size)).trans (ba.mono (by omega))))
    clear yo o0 o1 o3 XM XR bb ba hA q0 q1 q2 q3
    obtain ⟨q0, q1, q2, q3⟩ := YM.out.cells4
    go_wp2_with fail
    generalize w1.alloc (.cells #[.slice b0 n0 e0, .slice b1 n1 e1, .bool f, .slice b3 n3 e3] 73) = w2 at YO YR YM K0 K1 K3 KB zo q0 q1 q2 q3 ⊢
    refine (specMemOk_any _ E _ _ _ _ _ _ _ _ _ ss cs f bs (h0.below KB.out) (h1.below KB.out) (h3.below KB.out) hw).mono ?_
    rintro e w3 ⟨rfl, b4⟩
    have z3 := b4.size
    have XO := hidden (YO.out.below b4 (by omega))
    have XR := hidden (YR.out.below b4 (by omega))
    have XM := hidden (YM.out.below b4 (by omega))
    have L0 := hidden (K0.out.below b4)
    have L1 := hidden (K1.out.below b4)
    have L3 := hidden (K3.out.below b4)
    have LB := hidden (KB.out.trans (b4.mono (by have := KB.out.size; omega)))
    clear YO YR YM K0 K1 K3 KB b4 q0 q1 q2 q3
    obtain ⟨q0, q1, q2, q3⟩ := XM.out.cells4
    obtain ⟨x0, x1, x2, x3⟩ := XO.out.cells4
    obtain ⟨p0, p1, p2, p3⟩ := XR.out.cells4
    have fz := XR.out.frozen
    have hbt : But (w.heap.size + 1) (w.heap.size + 2) w3 ((((w3.setCell ⟨w.heap.size + 1, 0, none⟩ (.slice b0 n0 e0)).setCell ⟨w.heap.size + 1, 1, none⟩ (.slice b1 n1 e1)).setCell ⟨w.heap.size + 1, 2, none⟩ (.bool f)).setCell ⟨w.heap.size + 1, 3, none⟩ (.slice b3 n3 e3)) :=
      (((But.setCell (by omega) (by omega) _).trans (But.setCell (by omega) (by omega) _)).trans (But.setCell (by omega) (by omega) _)).trans (But.setCell (by omega) (by omega) _)
    have z9 := hbt.size
    have FIN : Hid ((tMem 108).Own ((((w3.setCell ⟨w.heap.size + 1, 0, none⟩ (.slice b0 n0 e0)).setCell ⟨w.heap.size + 1, 1, none⟩ (.slice b1 n1 e1)).setCell ⟨w.heap.size + 1, 2, none⟩ (.bool f)).setCell ⟨w.heap.size + 1, 3, none⟩ (.slice b3 n3 e3)) w.heap.size ((((w3.setCell ⟨w.heap.size + 1, 0, none⟩ (.slice b0 n0 e0)).setCell ⟨w.heap.size + 1, 1, none⟩ (.slice b1 n1 e1)).setCell ⟨w.heap.size + 1, 2, none⟩ (.bool f)).setCell ⟨w.heap.size + 1, 3, none⟩ (.slice b3 n3 e3)).heap.size [.slice b0 n0 e0, .slice b1 n1 e1, .bool f, .slice b3 n3 e3] (ss, cs, f, bs)) := mem_own3 (L0.out.but hbt (by omega)) (L1.out.but hbt (by omega)) (L3.out.but hbt (by omega)) (by omega) (by omega) (by omega) (by omega) (by omega) (by omega)
    have FB := hidden (Below.andBut LB.out hbt (by omega))
    clear hbt
    go_wp2
    refine bodyPost_ret (v := .agg #[.slice b0 n0 e0, .slice b1 n1 e1, .bool f, .slice b3 n3 e3]) (by simp [results, Try.results43, go_sem, p0, p1, p2, p3]) rfl ?_
    exact ⟨_, _, _, rfl, FIN.out, FB.out⟩

end Go.Proofs.Ytlcjfgmmjkandaa

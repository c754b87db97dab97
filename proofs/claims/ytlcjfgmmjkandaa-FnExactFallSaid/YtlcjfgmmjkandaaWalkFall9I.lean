/-
  The program's Fall walked. Condition: the disks weigh at most 2097152.
-/
import Derived.Test.YtlcjfgmmjkandaaFall9
import Derived.Test.YtlcjfgmmjkandaaMems9
import Derived.Test.YtlcjfgmmjkandaaHeld
namespace Go.Proofs.Ytlcjfgmmjkandaa
open Go.RowKit

theorem keepAt_any (w : World) (a : Option Addr) (n cap j : Nat) (ks : List Int) (hl : ks.length = n) (hr : Reads .i64 w a ks) :
    Calls Try.prog 46 #[.slice a n cap, .int .i64 (j : Int)] w fun e w' => e = .returned (.int .i64 (ks.getD j 0)) ∧ w' = w := by
  have k1 : (0 : Int) ≤ (j : Int) := by omega
  by_cases hkj : j < n
  · have k2 : (j : Int) < (n : Int) := by omega
    have k3 : ¬ (n : Int) ≤ (j : Int) := by omega
    rcases hr.cases with h9 | ⟨kb, ko, rfl, hkb, hkc⟩
    · omega
    have kc := hkc j (by omega)
    clear hkc
    generalize ks.getD j 0 = kv at kc
    go_enter Try.func46, Try.ntmps46
    go_wp2
    go_ret
    exact ⟨rfl, rfl⟩
  · have k3 : (n : Int) ≤ (j : Int) := by omega
    have e0 : ks.getD j 0 = 0 := by rw [List.getD_eq_getElem?_getD, List.getElem?_eq_none (by omega)]; rfl
    rw [e0]
    clear e0
    go_enter Try.func46, Try.ntmps46
    go_wp2
    go_ret
    exact ⟨rfl, rfl⟩

set_option linter.unusedSimpArgs false in
set_option maxRecDepth 20000 in
set_option maxHeartbeats 3200000 in
theorem implFall_any (w : World) (E F : TypeId) (a ak : Option Addr) (n cap nk ck : Nat) (ms : List MemD) (ks : List Int) (h0 : (tMemS E F).Rd w [.slice a n cap] ms) (h1 : tIntS.Rd w [.slice ak nk ck] ks) (hw : wtMemS ms ≤ 2097152) :
    Calls Try.prog 18 #[.slice a n cap, .slice ak nk ck] w fun e w' => MemsOut w w' e n (fallL ms ks) := by
  obtain ⟨hl, hc, hm⟩ := row_length h0
  obtain ⟨hrk, hlk, _, _⟩ := ints_rd h1
  have hn : n ≤ 2097152 := by unfold wtMemS at hw; omega
  obtain ⟨i4, hi4, hz0, hz1, hz2⟩ := info_parts Try.infoMem
  have ml := lit0_mine (t := tMem 108) (E := 73) w
  have hB := new_below w (.cells #[] 73)
  go_enter Try.func18, Try.ntmps18
  go_wp2
  generalize hW0 : w.alloc (.cells #[] 73) = W at ml hB ⊢
  clear hW0
  have ML := hidden ml
  clear ml
  go_loopw [5, 11] (fun vv i wr => ∃ (j : Nat) (v0 : Value) (fp0 : List Nat), j ≤ n ∧ i = .int .i64 j ∧ v0 = vv ∧ (tMemS 108 73).Mine wr [v0] ((fallL ms ks).take j) fp0 ∧ (∀ b ∈ fp0, w.heap.size ≤ b) ∧ Below w.heap.size w wr) (fun _ i _ => n - (intOf i).toNat)
  case atStart => exact ⟨0, _, [w.heap.size], Nat.zero_le _, rfl, rfl, ML.out, by simp, hB⟩
  case round =>
    clear ML hB
    obtain ⟨j, v0, fp0, hj, rfl, hvv, hm0, hfp, hb⟩ := hrel
    subst hvv
    have zw := hb.size
    by_cases hjn : j < n
    · rcases quads_at rfl h0 with h0' | ⟨b, off, rfl, hbl, hcs⟩
      · omega
      have hdj : ms[j]? = some (ms[j]'(by omega)) := List.getElem?_eq_getElem (by omega)
      have htk := fallL_take (ks := ks) hdj
      generalize ms[j]'(by omega) = d at hdj htk
      have hin := Nat.le_trans (inner_leM hdj) hw
      obtain ⟨u0, u1, u2, u3, hv0, hv1, hv2, hv3, hrv⟩ := hcs j d hdj
      obtain ⟨a0, c0, a1, c1, a3, c3, ss, cs, f, bs, rfl, rfl, rfl, rfl, rfl, r0, r1, r3⟩ := mem_at hrv
      have pv0 := (hb.cell (p := ⟨b, off + j * 4, none⟩) hbl).trans hv0
      have pv1 := (hb.cell (p := ⟨b, off + j * 4 + 1, none⟩) hbl).trans hv1
      have pv2 := (hb.cell (p := ⟨b, off + j * 4 + 2, none⟩) hbl).trans hv2
      have pv3 := (hb.cell (p := ⟨b, off + j * 4 + 3, none⟩) hbl).trans hv3
      have R0 := hidden (r0.below hb)
      have R1 := hidden (r1.below hb)
      have R3 := hidden (r3.below hb)
      have k1 : (0 : Int) ≤ (j : Int) := by omega
      have k2 : (j : Int) < (n : Int) := by omega
      have HTK := hidden htk
      have HM := hidden hm0
      have HFP := hidden hfp
      have HB := hidden hb
      have HL : Hid (((fallL ms ks).take j).length = j) := by unfold Hid; rw [List.length_take, fallL_length]; omega
      have L1 : Hid (((fallL ms ks).take j).length + 1 ≤ maxLen) := by unfold Hid; rw [HL.out]; unfold maxLen; omega
      have L2 : Hid ((((fallL ms ks).take j).length + 1) * 80 ≤ 140737488355328) := by unfold Hid; rw [HL.out]; omega
      have HK := hidden (hrk.below hb)
      clear hcs hdj hv0 hv1 hv2 hv3 hrv htk hm0 hfp hb r0 r1 r3
      have nb := new_below wr (.cells #[.slice a0 ss.length c0, .slice a1 cs.length c1, .bool f, .slice a3 bs.length c3] 73)
      have xmm := Box.new wr 73 #[.slice a0 ss.length c0, .slice a1 cs.length c1, .bool f, .slice a3 bs.length c3]
      have HK2 := hidden (HK.out.below nb)
      have R0' := hidden (R0.out.below nb)
      have R1' := hidden (R1.out.below nb)
      have R3' := hidden (R3.out.below nb)
      have HB' := hidden (Below.andThen HB.out nb)
      have HM' := hidden (HM.out.below nb)
      have hzm : (wr.alloc (.cells #[.slice a0 ss.length c0, .slice a1 cs.length c1, .bool f, .slice a3 bs.length c3] 73)).heap.size = wr.heap.size + 1 := by simp
      have XMM := hidden xmm
      have FLT := hidden HM.out.lt
      clear xmm nb HB HM HK R0 R1 R3
      go_wp2_with fail
      generalize wr.alloc (.cells #[.slice a0 ss.length c0, .slice a1 cs.length c1, .bool f, .slice a3 bs.length c3] 73) = wm at R0' R1' R3' HB' HM' HK2 XMM hzm ⊢
      obtain ⟨MB, hMB⟩ : ∃ MB, wr.heap.size = MB := ⟨_, rfl⟩
      rw [hMB] at XMM hzm zw FLT ⊢
      clear hMB pv0 pv1 pv2 pv3
      have zMB : MB < wm.heap.size := by omega
      have zwm : w.heap.size ≤ wm.heap.size := by omega
      clear hzm
      have mk : Hid (∀ w', Box w' MB 73 #[.slice a0 ss.length c0, .slice a1 cs.length c1, .bool f, .slice a3 bs.length c3] → w'.cell? ⟨MB, 0, none⟩ = some (.slice a0 ss.length c0) ∧ w'.cell? ⟨MB, 1, none⟩ = some (.slice a1 cs.length c1) ∧ w'.cell? ⟨MB, 2, none⟩ = some (.bool f) ∧ w'.cell? ⟨MB, 3, none⟩ = some (.slice a3 bs.length c3)) := fun w' h2 => ⟨h2.cell 0, h2.cell 1, h2.cell 2, h2.cell 3⟩
      have hS : wm.drew.cell? ⟨MB, 0, none⟩ = some (.slice a0 ss.length c0) ∧ wm.drew.cell? ⟨MB, 1, none⟩ = some (.slice a1 cs.length c1) ∧ wm.drew.cell? ⟨MB, 2, none⟩ = some (.bool f) ∧ wm.drew.cell? ⟨MB, 3, none⟩ = some (.slice a3 bs.length c3) := mk.out wm.drew XMM.out
      refine Upto.start (S := fun w' => w'.cell? ⟨MB, 0, none⟩ = some (.slice a0 ss.length c0) ∧ w'.cell? ⟨MB, 1, none⟩ = some (.slice a1 cs.length c1) ∧ w'.cell? ⟨MB, 2, none⟩ = some (.bool f) ∧ w'.cell? ⟨MB, 3, none⟩ = some (.slice a3 bs.length c3)) (k := 8) (by kernel_rfl) ?_
      refine Upto.t 0 hS ?_
      refine Upto.t 1 hS ?_
      refine Upto.t 2 hS ?_
      refine Upto.t 3 hS ?_
      refine Upto.one (i := 4) (by kernel_rfl) rfl (fun K hK => ?_)
      go_simp
      refine (keepAt_any _ _ _ _ j ks hlk HK2.out.draw).mono ?_
      rintro e wk ⟨rfl, hwk⟩
      subst wk
      go_wp2_with fail
      refine hK.out _ _ (fun _ => hS) ?_
      clear hK K
      refine Upto.one (i := 5) (by kernel_rfl) rfl (fun K hK => ?_)
      go_simp
      refine (implFallMem_any _ E _ _ _ _ _ _ _ _ _ ss cs f bs _ R0'.out.drew R1'.out.drew R3'.out.drew hin).mono ?_
      rintro e wc ⟨y0, y1, y3, rfl, om, bc⟩
      have hbc' : Below wm.heap.size wm wc := (Below.refl wm.heap.size wm).drew.trans bc
      obtain ⟨fpx, mx, rx⟩ := om.mine
      obtain ⟨e0, l0, g0, e1, l1, g1, e3, l3, g3, rfl, rfl, rfl⟩ := mem_shape om.rd
      have xmc := XMM.out.below hbc' zMB
      have hS3 : wc.cell? ⟨MB, 0, none⟩ = some (.slice a0 ss.length c0) ∧ wc.cell? ⟨MB, 1, none⟩ = some (.slice a1 cs.length c1) ∧ wc.cell? ⟨MB, 2, none⟩ = some (.bool f) ∧ wc.cell? ⟨MB, 3, none⟩ = some (.slice a3 bs.length c3) := mk.out wc xmc
      have hS4 : (wc.alloc (.cells #[.slice e0 l0 g0, .slice e1 l1 g1, .bool f, .slice e3 l3 g3] 73)).cell? ⟨MB, 0, none⟩ = some (.slice a0 ss.length c0) ∧ (wc.alloc (.cells #[.slice e0 l0 g0, .slice e1 l1 g1, .bool f, .slice e3 l3 g3] 73)).cell? ⟨MB, 1, none⟩ = some (.slice a1 cs.length c1) ∧ (wc.alloc (.cells #[.slice e0 l0 g0, .slice e1 l1 g1, .bool f, .slice e3 l3 g3] 73)).cell? ⟨MB, 2, none⟩ = some (.bool f) ∧ (wc.alloc (.cells #[.slice e0 l0 g0, .slice e1 l1 g1, .bool f, .slice e3 l3 g3] 73)).cell? ⟨MB, 3, none⟩ = some (.slice a3 bs.length c3) := mk.out _ (xmc.alloc _)
      have XMC := hidden xmc
      have MX := hidden mx
      have RX : Hid (∀ b ∈ fpx, wm.heap.size ≤ b ∧ b < wc.heap.size) := rx
      have HBC := hidden hbc'
      clear xmc mx rx hbc' bc om R0' R1' R3'
      go_wp2_with fail
      refine hK.out _ _ (fun _ => hS3) ?_
      clear hK K
      refine Upto.one (i := 6) (by kernel_rfl) rfl (fun K hK => ?_)
      go_simp
      refine hK.out _ _ (fun _ => hS4) ?_
      clear hK K
      refine Upto.one (i := 7) (by kernel_rfl) rfl (fun K hK => ?_)
      refine step_appT (tMem 108) (by rfl) _ _ 30 (by rfl) 73 i4 (.agg #[.slice none 0 0, .slice none 0 0, .bool false, .slice none 0 0]) 80 Try.underlying30 hi4 hz0 hz1 hz2 rfl (by decide) v0 ((fallL ms ks).take j) fp0 (by rfl) ?_ ⟨wc.heap.size, 0, none⟩ 1 [.slice e0 l0 g0, .slice e1 l1 g1, .bool f, .slice e3 l3 g3] (fall1 (ss, cs, f, bs) (ks.getD j 0)) fpx (by rfl) ?_ ?_ ?_ ?_ ?_ ?_ ?_
      · exact (HM'.out.below HBC.out).alloc _
      · exact MX.out.alloc _
      · intro b hb hb'
        have h1 := HM'.out.lt b hb
        have h2 := RX.out b hb'
        omega
      · exact news_new _ _ _
      · intro u hu
        simp at hu
        rcases hu with hu | hu | hu | hu <;> (rw [hu]; rfl)
      · exact L1.out
      · exact L2.out
      intro g cap wA fpA m1 m2 m3
      rw [HL.out] at m1 ⊢
      rw [← HTK.out] at m1
      have ym := (XMC.out.alloc (.cells #[.slice e0 l0 g0, .slice e1 l1 g1, .bool f, .slice e3 l3 g3] 73)).turned m3 (fun hm => by have := FLT.out _ hm; omega)
      have hS5 : wA.cell? ⟨MB, 0, none⟩ = some (.slice a0 ss.length c0) ∧ wA.cell? ⟨MB, 1, none⟩ = some (.slice a1 cs.length c1) ∧ wA.cell? ⟨MB, 2, none⟩ = some (.bool f) ∧ wA.cell? ⟨MB, 3, none⟩ = some (.slice a3 bs.length c3) := mk.out wA ym
      have HFA := hidden (round_fp (N := w.heap.size) zwm HBC.out HFP.out RX.out m2)
      have BA := hidden (round_below HB'.out HBC.out m3 HFP.out)
      have M1 := hidden m1
      clear ym m1 m2 m3
      refine hK.out _ _ (fun _ => hS5) ?_
      clear hK K
      simp only [Act.put, List.setIfInBounds_toArray, List.set_cons_zero, List.set_cons_succ]
      refine Upto.one (i := 8) (by kernel_rfl) rfl (fun K hK => ?_)
      go_simp
      refine hK.out _ _ (fun h => absurd rfl h) ?_
      clear hK K
      refine Upto.done (by kernel_rfl) ?_ _
      clear hS hS3 hS4 hS5 XMC XMM mk FLT
      go_wp2
      go_roundw
      case rel => exact ⟨j + 1, _, fpA, by omega, by go_num, rfl, M1.out, HFA.out, BA.out⟩
      case measure => simp [intOf]; omega
    · have ej : j = n := by omega
      subst ej
      rw [List.take_of_length_le (by rw [fallL_length]; omega)] at hm0
      have hlt := hm0.lt
      obtain ⟨eM, gM, hvM⟩ := row_shape hm0.rd
      rw [fallL_length, hl] at hvM
      subst hvM
      have KM := hidden (hm0.own (lo := w.heap.size) (hi := wr.heap.size) (fun b hb => ⟨hfp b hb, hlt b hb⟩))
      clear hm0 hlt
      go_wp2
      go_ret
      exact ⟨eM, gM, rfl, KM.out, hb⟩

end Go.Proofs.Ytlcjfgmmjkandaa

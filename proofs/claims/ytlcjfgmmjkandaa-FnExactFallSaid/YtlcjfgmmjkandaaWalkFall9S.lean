/-
  The specification's Fall walked. Condition: the disks weigh at most 2097152.
-/
import Derived.Test.YtlcjfgmmjkandaaFall9
import Derived.Test.YtlcjfgmmjkandaaWalkFallSpec
import Derived.Test.YtlcjfgmmjkandaaMems9
namespace Go.Proofs.Ytlcjfgmmjkandaa
open Go.RowKit

set_option linter.unusedSimpArgs false in
set_option maxRecDepth 20000 in
set_option maxHeartbeats 3200000 in
theorem specFall_any (w : World) (E F : TypeId) (a ak : Option Addr) (n cap nk ck : Nat) (ms : List MemD) (ks : List Int) (h0 : (tMemS E F).Rd w [.slice a n cap] ms) (h1 : tIntS.Rd w [.slice ak nk ck] ks) (hw : wtMemS ms ≤ 2097152) :
    Calls Try.prog 15 #[.slice a n cap, .slice ak nk ck] w fun e w' => MemsOut w w' e n (fallL ms ks) := by
  obtain ⟨hl, hc, hm⟩ := row_length h0
  obtain ⟨hrk, hlk, _, _⟩ := ints_rd h1
  have hn : n ≤ 2097152 := by unfold wtMemS at hw; omega
  obtain ⟨i4, hi4, hz0, hz1, hz2⟩ := info_parts Try.infoMem
  have ml := lit0_mine (t := tMem 108) (E := 73) w
  have hB := new_below w (.cells #[] 73)
  go_enter Try.func15, Try.ntmps15
  go_wp2
  generalize hW0 : w.alloc (.cells #[] 73) = W at ml hB ⊢
  clear hW0
  have ML := hidden ml
  clear ml
  go_loopw [5, 6] (fun vv i wr => ∃ (j : Nat) (v0 : Value) (fp0 : List Nat), j ≤ n ∧ i = .int .i64 j ∧ v0 = vv ∧ (tMemS 108 73).Mine wr [v0] ((fallL ms ks).take j) fp0 ∧ (∀ b ∈ fp0, w.heap.size ≤ b) ∧ Below w.heap.size w wr) (fun _ i _ => n - (intOf i).toNat)
  case atStart => exact ⟨0, _, [w.heap.size], Nat.zero_le _, rfl, rfl, ML.out, by simp, hB⟩
  case round =>
    clear ML hB
    obtain ⟨j, v0, fp0, hj, rfl, hvv, hm0, hfp, hb⟩ := hrel
    subst hvv
    have zw := hb.size
    by_cases hjn : j < n
    · rcases quads_at rfl h0 with h0' | ⟨b, off, rfl, hbl, hcs⟩
      · omega
      have hdj : ms[j]? = some (ms[j]'(by omega)) := List.getElem?_eq_getElem (by omega)
      have htk := fallL_take (ks := ks) hdj
      generalize ms[j]'(by omega) = d at hdj htk
      have hin := Nat.le_trans (inner_leM hdj) hw
      obtain ⟨u0, u1, u2, u3, hv0, hv1, hv2, hv3, hrv⟩ := hcs j d hdj
      obtain ⟨a0, c0, a1, c1, a3, c3, ss, cs, f, bs, rfl, rfl, rfl, rfl, rfl, r0, r1, r3⟩ := mem_at hrv
      have pv0 := (hb.cell (p := ⟨b, off + j * 4, none⟩) hbl).trans hv0
      have pv1 := (hb.cell (p := ⟨b, off + j * 4 + 1, none⟩) hbl).trans hv1
      have pv2 := (hb.cell (p := ⟨b, off + j * 4 + 2, none⟩) hbl).trans hv2
      have pv3 := (hb.cell (p := ⟨b, off + j * 4 + 3, none⟩) hbl).trans hv3
      have R0 := hidden (r0.below hb)
      have R1 := hidden (r1.below hb)
      have R3 := hidden (r3.below hb)
      have k1 : (0 : Int) ≤ (j : Int) := by omega
      have k2 : (j : Int) < (n : Int) := by omega
      have HTK := hidden htk
      have HM := hidden hm0
      have HFP := hidden hfp
      have HB := hidden hb
      have HL : Hid (((fallL ms ks).take j).length = j) := by unfold Hid; rw [List.length_take, fallL_length]; omega
      have L1 : Hid (((fallL ms ks).take j).length + 1 ≤ maxLen) := by unfold Hid; rw [HL.out]; unfold maxLen; omega
      have L2 : Hid ((((fallL ms ks).take j).length + 1) * 80 ≤ 140737488355328) := by unfold Hid; rw [HL.out]; omega
      have HK := hidden (hrk.below hb)
      clear hcs hdj hv0 hv1 hv2 hv3 hrv htk hm0 hfp hb r0 r1 r3
      have rest : Hid (∀ kv : Int, kv = ks.getD j 0 → Calls Try.prog 43 #[.agg #[.slice a0 ss.length c0, .slice a1 cs.length c1, .bool f, .slice a3 bs.length c3], .int .i64 kv] wr fun e w' => ∃ v0 v1 v3, e = .returned (.agg #[v0, v1, .bool f, v3]) ∧ (tMem 108).Own w' wr.heap.size w'.heap.size [v0, v1, .bool f, v3] (fall1 (ss, cs, f, bs) (ks.getD j 0)) ∧ Below wr.heap.size wr w') := fun kv hkv => by subst hkv; exact specFallMem_any wr E a0 a1 a3 _ c0 _ c1 _ c3 ss cs f bs _ R0.out R1.out R3.out hin
      by_cases hkj : j < nk
      · have k3 : (j : Int) < (nk : Int) := by omega
        rcases HK.out.cases with h9 | ⟨kb, ko, rfl, hkb, hkc⟩
        · omega
        have kc := hkc j (by omega)
        clear hkc
        obtain ⟨kv, hkv⟩ : ∃ kv, kv = ks.getD j 0 := ⟨_, rfl⟩
        rw [← hkv] at kc
        have FC := hidden (rest.out kv hkv)
        clear hkv rest
        go_wp2_with fail
        clear kc
        refine FC.out.mono ?_
        rintro e wc ⟨y0, y1, y3, rfl, om, bc⟩
        obtain ⟨fpx, mx, rx⟩ := om.mine
        obtain ⟨e0, l0, g0, e1, l1, g1, e3, l3, g3, rfl, rfl, rfl⟩ := mem_shape om.rd
        have MX := hidden mx
        have RX := hidden rx
        have HBC := hidden bc
        clear mx rx bc om R0 R1 R3 pv0 pv1 pv2 pv3 FC
        go_wp2_with (at_builtin; refine wpList_appT (tMem 108) (by rfl) _ _ 30 (by rfl) 73 i4 (.agg #[.slice none 0 0, .slice none 0 0, .bool false, .slice none 0 0]) 80 Try.underlying30 hi4 hz0 hz1 hz2 rfl (by decide) v0 ((fallL ms ks).take j) fp0 (by rfl) ?_ ⟨wc.heap.size, 0, none⟩ 1 [.slice e0 l0 g0, .slice e1 l1 g1, .bool f, .slice e3 l3 g3] (fall1 (ss, cs, f, bs) (ks.getD j 0)) fpx (by rfl) ?_ ?_ ?_ ?_ ?_ ?_ ?_; exact (HM.out.below HBC.out).alloc _; exact MX.out.alloc _; (intro b hb hb'; have h1 := HM.out.lt b hb; have h2 := RX.out b hb'; omega); exact news_new _ _ _; (intro u hu; simp at hu; rcases hu with hu | hu | hu | hu <;> (rw [hu]; rfl)); exact L1.out; exact L2.out; intro v9 wA fpA m1 m2 m3; rw [← HTK.out] at m1; have M1 := hidden m1; have M2 := hidden m2; have M3 := hidden m3; clear m1 m2 m3)
        have HFA := hidden (round_fp (N := w.heap.size) zw HBC.out HFP.out RX.out M2.out)
        have BA := hidden (round_below HB.out HBC.out M3.out HFP.out)
        go_roundw
        case rel => exact ⟨j + 1, _, fpA, by omega, by go_num, rfl, M1.out, HFA.out, BA.out⟩
        case measure => simp [intOf]; omega
      · have k3 : ¬ (j : Int) < (nk : Int) := by omega
        have FC := hidden (rest.out 0 (by rw [List.getD_eq_getElem?_getD, List.getElem?_eq_none (by omega)]; rfl))
        clear rest
        go_wp2_with fail
        refine FC.out.mono ?_
        rintro e wc ⟨y0, y1, y3, rfl, om, bc⟩
        obtain ⟨fpx, mx, rx⟩ := om.mine
        obtain ⟨e0, l0, g0, e1, l1, g1, e3, l3, g3, rfl, rfl, rfl⟩ := mem_shape om.rd
        have MX := hidden mx
        have RX := hidden rx
        have HBC := hidden bc
        clear mx rx bc om R0 R1 R3 pv0 pv1 pv2 pv3 FC
        go_wp2_with (at_builtin; refine wpList_appT (tMem 108) (by rfl) _ _ 30 (by rfl) 73 i4 (.agg #[.slice none 0 0, .slice none 0 0, .bool false, .slice none 0 0]) 80 Try.underlying30 hi4 hz0 hz1 hz2 rfl (by decide) v0 ((fallL ms ks).take j) fp0 (by rfl) ?_ ⟨wc.heap.size, 0, none⟩ 1 [.slice e0 l0 g0, .slice e1 l1 g1, .bool f, .slice e3 l3 g3] (fall1 (ss, cs, f, bs) (ks.getD j 0)) fpx (by rfl) ?_ ?_ ?_ ?_ ?_ ?_ ?_; exact (HM.out.below HBC.out).alloc _; exact MX.out.alloc _; (intro b hb hb'; have h1 := HM.out.lt b hb; have h2 := RX.out b hb'; omega); exact news_new _ _ _; (intro u hu; simp at hu; rcases hu with hu | hu | hu | hu <;> (rw [hu]; rfl)); exact L1.out; exact L2.out; intro v9 wA fpA m1 m2 m3; rw [← HTK.out] at m1; have M1 := hidden m1; have M2 := hidden m2; have M3 := hidden m3; clear m1 m2 m3)
        have HFA := hidden (round_fp (N := w.heap.size) zw HBC.out HFP.out RX.out M2.out)
        have BA := hidden (round_below HB.out HBC.out M3.out HFP.out)
        go_roundw
        case rel => exact ⟨j + 1, _, fpA, by omega, by go_num, rfl, M1.out, HFA.out, BA.out⟩
        case measure => simp [intOf]; omega
    · have ej : j = n := by omega
      subst ej
      rw [List.take_of_length_le (by rw [fallL_length]; omega)] at hm0
      have hlt := hm0.lt
      obtain ⟨eM, gM, hvM⟩ := row_shape hm0.rd
      rw [fallL_length, hl] at hvM
      subst hvM
      have KM := hidden (hm0.own (lo := w.heap.size) (hi := wr.heap.size) (fun b hb => ⟨hfp b hb, hlt b hb⟩))
      clear hm0 hlt
      go_wp2
      go_ret
      exact ⟨eM, gM, rfl, KM.out, hb⟩

end Go.Proofs.Ytlcjfgmmjkandaa

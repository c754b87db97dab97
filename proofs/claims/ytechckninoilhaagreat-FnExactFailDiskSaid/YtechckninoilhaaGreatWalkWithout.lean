/-
  The walk of the specification's l2Without: the numbers without one, in memory of its own. Condition: at most 2097152.
-/
import Derived.Test.YtechckninoilhaaGreatWalkDel
namespace Go.Proofs.YtechckninoilhaaGreat
open Go.RowKit

set_option maxRecDepth 20000 in
set_option maxHeartbeats 800000 in
theorem l2Without_any (w : World) (a : Option Addr) (len cap : Nat) (zs : List Int) (n : Int) (h : tIntS.Rd w [.slice a len cap] zs) (hlen : len ≤ 2097152) :
    Calls Tryz.prog 154 #[.slice a len cap, .int .i64 n] w fun e w' => ∃ v, e = .returned v ∧ tIntS.Own w' w.heap.size w'.heap.size [v] (filt zs n) ∧ Below w.heap.size w w' := by
  obtain ⟨hr, hl, _, _⟩ := ints_rd h
  obtain ⟨i3, hi3, hx0, hx1, hx2⟩ := info_parts Tryz.info3
  go_enter Tryz.func154, Tryz.ntmps154
  go_wp2
  go_loopw [5, 6] (fun v i wr => ∃ (j : Nat) (fp : List Nat), j ≤ len ∧ i = .int .i64 j ∧ tIntS.Mine wr [v] (filt (zs.take j) n) fp ∧ (∀ b ∈ fp, w.heap.size ≤ b) ∧ Below w.heap.size w wr) (fun _ i _ => len - (intOf i).toNat)
  case atStart => exact ⟨0, [w.heap.size], Nat.zero_le _, rfl, lit0_mine _, by simp, (Below.refl _ _).alloc (Nat.le_refl _) _⟩
  case round =>
    obtain ⟨j, fp, hj, rfl, hm, hfp, hb⟩ := hrel
    have hs := hb.size
    by_cases hlt : j < len
    · rcases hr.cases with h0 | ⟨b, off, rfl, hbl, hcz⟩
      · omega
      have hc1 := (hb.cell (p := ⟨b, off + j, none⟩) hbl).trans (hcz j (by omega))
      have htk : zs.take (j + 1) = zs.take j ++ [zs.getD j 0] := by rw [List.take_add_one, List.getD_eq_getElem?_getD, List.getElem?_eq_getElem (by omega)]; rfl
      generalize zs.getD j 0 = x at hc1 htk
      have k1 : (0 : Int) ≤ (j : Int) := by omega
      have k2 : (j : Int) < (len : Int) := by omega
      have HTK := hidden htk
      clear hcz htk
      by_cases hxn : x = n
      · have HF : Hid (filt (zs.take (j + 1)) n = filt (zs.take j) n) := by unfold Hid; rw [HTK.out, filt_snoc, if_pos hxn]
        subst hxn
        go_wp2
        go_roundw
        case rel => exact ⟨j + 1, fp, by omega, by go_num, by rw [HF.out]; exact hm, hfp, hb⟩
        case measure => simp [intOf]; omega
      · have HF : Hid (filt (zs.take (j + 1)) n = filt (zs.take j) n ++ [x]) := by unfold Hid; rw [HTK.out, filt_snoc, if_neg hxn]
        have MA := hidden (hm.alloc (.cells #[.int .i64 x] 3))
        have LI : Hid (intTy.Mine (wr.alloc (.cells #[.int .i64 x] 3)) [.int .i64 x] x []) := ⟨⟨rfl, rfl⟩, by simp⟩
        have NN := hidden (news_new wr #[.int .i64 x] 3)
        have BA := hidden (hb.alloc hs (.cells #[.int .i64 x] 3))
        have ZA : Hid ((wr.alloc (.cells #[.int .i64 x] 3)).heap.size = wr.heap.size + 1) := by unfold Hid; simp
        have hkl := filt_length (zs.take j) n
        rw [List.length_take] at hkl
        have L1 : Hid ((filt (zs.take j) n).length + 1 ≤ maxLen) := by unfold Hid maxLen; omega
        have L2 : Hid (((filt (zs.take j) n).length + 1) * 8 ≤ 140737488355328) := by unfold Hid; omega
        have HFP := hidden hfp
        clear hm hfp hb hkl
        go_wp2_with (at_builtin; refine wpList_appT intTy rfl (.tmp 20) (.tmp 25) 49 rfl 3 i3 (.int .i64 0) 8 Tryz.underlying49 hi3 hx0 hx1 hx2 rfl Nat.zero_lt_one u5 (filt (zs.take j) n) fp rfl ?_ ⟨wr.heap.size, 0, none⟩ 1 [.int .i64 x] x [] rfl ?_ ?_ ?_ ?_ ?_ ?_ ?_; exact MA.out; exact LI.out; simp; exact NN.out; (intro u hu; simp at hu; rw [hu]; rfl); exact L1.out; exact L2.out; intro v2 w2 fp2 m1 m2 m3; rw [← HF.out] at m1; have M1 := hidden m1; have M2 := hidden m2; have M3 := hidden m3; clear m1 m2 m3)
        have hf2 : ∀ b ∈ fp2, w.heap.size ≤ b := fun b hb => by
          rcases M2.out b hb with h | h | h
          · exact HFP.out b h
          · simp at h
          · have h1 := h.1
            have h2 := ZA.out
            omega
        have HB := hidden (BA.out.trans (M3.out.below (N := w.heap.size) (by have := ZA.out; omega) (fun b hb => HFP.out b hb)))
        have HF2 := hidden hf2
        clear hf2
        go_roundw
        case rel => exact ⟨j + 1, fp2, by omega, by go_num, M1.out, HF2.out, HB.out⟩
        case measure => simp [intOf]; omega
    · have e : j = len := by omega
      subst e
      rw [List.take_of_length_le (by omega)] at hm
      have hltb := hm.lt
      have HO := hidden (hm.own (lo := w.heap.size) (hi := wr.heap.size) (fun b hb' => ⟨hfp b hb', hltb b hb'⟩))
      go_wp2
      go_ret
      exact ⟨_, rfl, HO.out, hb⟩

end Go.Proofs.YtechckninoilhaaGreat

/-
  The walks of both MemNew (the program's and the specification's): a new disk, in memory of its own. No condition.
-/
import Derived.Test.YtgjldmjlbhkgbaaData
import Derived.Test.YtgjldmjlbhkgbaaWalkSecOk
import Derived.Test.YtgjldmjlbhkgbaaBox
namespace Go.Proofs.Ytgjldmjlbhkgbaa
open Go.RowKit

/-- A new disk. -/
def newSS (n : Int) : List (List Int) := if 1 ≤ n ∧ n ≤ 20 then List.replicate n.toNat [] else []

set_option maxRecDepth 20000 in
set_option maxHeartbeats 800000 in
theorem implMemNew_any (w : World) (n : Int) :
    Calls Try.prog 51 #[.int .i64 n] w fun e w' => ∃ a0 c0, e = .returned (.agg #[.slice a0 (newSS n).length c0, .slice none 0 0, .bool false, .slice none 0 0]) ∧
      tIntSS.Own w' w.heap.size w'.heap.size [.slice a0 (newSS n).length c0] (newSS n) ∧ Below w.heap.size w w' := by
  obtain ⟨i0, hi, hz0, hz1, hz2⟩ := info_parts Try.infoIntS
  have hA : Below w.heap.size w (w.alloc (.cells #[.slice none 0 0, .slice none 0 0, .bool false, .slice none 0 0] 57)) := (Below.refl _ _).alloc (Nat.le_refl _) _
  by_cases h1 : 1 ≤ n
  · by_cases h2 : n ≤ 20
    · obtain ⟨k, rfl⟩ : ∃ k : Nat, n = (k : Int) := ⟨n.toNat, by omega⟩
      have hk : k ≤ 20 := by omega
      have hb3 : i0.bytes * k ≤ 281474976710656 := by rw [hz2]; omega
      have hm3 : k ≤ maxLen := by unfold maxLen; omega
      have hN : newSS (k : Int) = List.replicate k [] := by unfold newSS; rw [if_pos ⟨h1, h2⟩, Int.toNat_natCast]
      have HN := hidden hN
      clear hN
      go_enter Try.func51, Try.ntmps51
      go_wp2_with (at_make; refine wpList_make_full _ rfl _ _ 53 rfl (w.heap.size + 1) 55 i0 (.slice none 0 0) 1 Try.underlying53 hi hz0 hz1 _ _ _ _ k rfl rfl rfl rfl hb3 hm3 (by simp) ?_; intro w1 hown hgrow; have hB1 : Below (w.alloc (.cells #[.slice none 0 0, .slice none 0 0, .bool false, .slice none 0 0] 57)).heap.size (w.alloc (.cells #[.slice none 0 0, .slice none 0 0, .bool false, .slice none 0 0] 57)) w1 := (Below.refl _ _).grown hgrow (Nat.le_refl _) (by simp); have hbx := (Box.new w 57 #[.slice none 0 0, .slice none 0 0, .bool false, .slice none 0 0]).below hB1 (by simp); obtain ⟨b0, b1, b2, b3⟩ := hbx.cells4; have fz := hbx.frozen)
      have hs1 : w.heap.size + 1 ≤ w1.heap.size := by have := hgrow.size; simp at this; exact this
      have hO := row_made (t := tIntS) (z := []) hown (by omega) rfl (fun _ => .inl ⟨rfl, rfl, rfl⟩)
      have eW : (w.alloc (.cells #[.slice none 0 0, .slice none 0 0, .bool false, .slice none 0 0] 57)).heap.size = w.heap.size + 1 := by simp
      rw [eW] at hO
      have hbt : But w.heap.size (w.heap.size + 1) w1 ((((w1.setCell ⟨w.heap.size, 0, none⟩ (.slice (some ⟨w.heap.size + 1, 0, none⟩) k k)).setCell ⟨w.heap.size, 1, none⟩ (.slice none 0 0)).setCell ⟨w.heap.size, 2, none⟩ (.bool false)).setCell ⟨w.heap.size, 3, none⟩ (.slice none 0 0)) :=
        (((But.setCell (by omega) (by omega) _).trans (But.setCell (by omega) (by omega) _)).trans (But.setCell (by omega) (by omega) _)).trans (But.setCell (by omega) (by omega) _)
      have hO' := hO.but hbt (.inr (Nat.le_refl _))
      have hB' := Below.andBut (hA.trans (hB1.mono (by simp))) hbt (Nat.le_refl _)
      have hS := hbt.size
      refine bodyPost_ret (v := .agg #[.slice (some ⟨w.heap.size + 1, 0, none⟩) k k, .slice none 0 0, .bool false, .slice none 0 0]) (by simp [results, Try.results51, go_sem, b0, b1, b2, b3]) rfl ?_
      have hl : (newSS (k : Int)).length = k := by rw [HN.out, List.length_replicate]
      rw [hl, HN.out]
      exact ⟨_, _, rfl, hO'.widen (by omega) hS, hB'⟩
    · have hN : newSS n = [] := by unfold newSS; rw [if_neg (by omega)]
      rw [hN]
      go_enter Try.func51, Try.ntmps51
      go_wp2
      refine bodyPost_ret (v := .agg #[.slice none 0 0, .slice none 0 0, .bool false, .slice none 0 0]) (by simp [results, Try.results51, go_sem]) rfl ⟨none, 0, rfl, nil_own _ _ _, hA⟩
  · have hN : newSS n = [] := by unfold newSS; rw [if_neg (by omega)]
    rw [hN]
    go_enter Try.func51, Try.ntmps51
    go_wp2
    refine bodyPost_ret (v := .agg #[.slice none 0 0, .slice none 0 0, .bool false, .slice none 0 0]) (by simp [results, Try.results51, go_sem]) rfl ⟨none, 0, rfl, nil_own _ _ _, hA⟩

set_option maxRecDepth 20000 in
set_option maxHeartbeats 800000 in
theorem specMemNew_any (w : World) (n : Int) :
    Calls Try.prog 29 #[.int .i64 n] w fun e w' => ∃ a0 c0, e = .returned (.agg #[.slice a0 (newSS n).length c0, .slice none 0 0, .bool false, .slice none 0 0]) ∧
      tIntSS.Own w' w.heap.size w'.heap.size [.slice a0 (newSS n).length c0] (newSS n) ∧ Below w.heap.size w w' := by
  obtain ⟨i0, hi, hz0, hz1, hz2⟩ := info_parts Try.infoIntS
  by_cases h1 : inB n 1 20 = true
  · have hn : 1 ≤ n ∧ n ≤ 20 := by unfold inB at h1; simpa using h1
    obtain ⟨k, rfl⟩ : ∃ k : Nat, n = (k : Int) := ⟨n.toNat, by omega⟩
    have hk : k ≤ 20 := by omega
    have hN : newSS (k : Int) = List.replicate k [] := by unfold newSS; rw [if_pos hn, Int.toNat_natCast]
    have HN := hidden hN
    clear hN hn
    have hA : Below w.heap.size w ((w.alloc (.cells #[.slice none 0 0, .slice none 0 0, .bool false, .slice none 0 0] 57)).alloc (.cells #[.slice none 0 0, .slice none 0 0, .bool false, .slice none 0 0] 57)) := ((Below.refl _ _).alloc (Nat.le_refl _) _).alloc (by simp) _
    have hB0 : Box ((w.alloc (.cells #[.slice none 0 0, .slice none 0 0, .bool false, .slice none 0 0] 57)).alloc (.cells #[.slice none 0 0, .slice none 0 0, .bool false, .slice none 0 0] 57)) w.heap.size 57 #[.slice none 0 0, .slice none 0 0, .bool false, .slice none 0 0] := (Box.new w _ _).alloc _
    have hB1 : Box ((w.alloc (.cells #[.slice none 0 0, .slice none 0 0, .bool false, .slice none 0 0] 57)).alloc (.cells #[.slice none 0 0, .slice none 0 0, .bool false, .slice none 0 0] 57)) (w.heap.size + 1) 57 #[.slice none 0 0, .slice none 0 0, .bool false, .slice none 0 0] := by
      have := Box.new (w.alloc (.cells #[.slice none 0 0, .slice none 0 0, .bool false, .slice none 0 0] 57)) 57 #[.slice none 0 0, .slice none 0 0, .bool false, .slice none 0 0]
      rw [show (w.alloc (.cells #[.slice none 0 0, .slice none 0 0, .bool false, .slice none 0 0] 57)).heap.size = w.heap.size + 1 by simp] at this
      exact this
    go_enter Try.func29, Try.ntmps29
    go_wp2_with fail
    refine (l1In_any _ _ _ _).mono ?_
    rintro e w1 ⟨rfl, hw1⟩
    subst w1
    go_wp2
    generalize hW : (w.alloc (.cells #[.slice none 0 0, .slice none 0 0, .bool false, .slice none 0 0] 57)).alloc (.cells #[.slice none 0 0, .slice none 0 0, .bool false, .slice none 0 0] 57) = W at hA hB0 hB1 ⊢
    clear hW
    go_loopw [4] (fun i wr => ∃ (j : Nat) (v : Value) (fp : List Nat), j ≤ k ∧ i = .int .i64 j ∧ Box wr w.heap.size 57 #[.slice none 0 0, .slice none 0 0, .bool false, .slice none 0 0] ∧ Box wr (w.heap.size + 1) 57 #[v, .slice none 0 0, .bool false, .slice none 0 0] ∧ tIntSS.Mine wr [v] (List.replicate j []) fp ∧ (∀ b ∈ fp, w.heap.size + 1 < b) ∧ Below w.heap.size w wr) (fun i _ => k - (intOf i).toNat)
    case atStart => exact ⟨0, _, [], Nat.zero_le _, rfl, hB0, hB1, nil_mine _, by simp, hA⟩
    case round =>
      clear hA hB0 hB1
      obtain ⟨j, v, fp, hj, rfl, x0, x1, ho, hfp, hb⟩ := hrel
      obtain ⟨q0, _, _, _⟩ := x1.cells4
      by_cases hjn : j < k
      · have hj1 : (j : Int) < (k : Int) := by omega
        have M1 := hidden (((ho.alloc (.cells #[] 3)).alloc (.cells #[.slice (some ⟨wr.heap.size, 0, none⟩) 0 0] 55)))
        have E1 := hidden ((lit0_mine (t := intTy) (E := 3) wr).alloc (.cells #[.slice (some ⟨wr.heap.size, 0, none⟩) 0 0] 55))
        have n1 := news_new (wr.alloc (.cells #[] 3)) #[.slice (some ⟨wr.heap.size, 0, none⟩) 0 0] 55
        rw [show (wr.alloc (.cells #[] 3)).heap.size = wr.heap.size + 1 by simp] at n1
        have N1 := hidden n1
        clear n1
        have hlt := ho.lt
        have D1 := hidden (show ∀ b ∈ fp, b ∉ [wr.heap.size] from fun b hb hb' => by have := hlt b hb; simp at hb'; omega)
        have X0 := hidden ((x0.alloc (.cells #[] 3)).alloc (.cells #[.slice (some ⟨wr.heap.size, 0, none⟩) 0 0] 55))
        have X1 := hidden ((x1.alloc (.cells #[] 3)).alloc (.cells #[.slice (some ⟨wr.heap.size, 0, none⟩) 0 0] 55))
        have F0 := hidden (show w.heap.size ∉ fp from fun hm => by have := hfp _ hm; omega)
        have F1 := hidden (show w.heap.size + 1 ∉ fp from fun hm => by have := hfp _ hm; omega)
        have HFP := hidden hfp
        have BA := hidden ((hb.alloc hb.size (.cells #[] 3)).alloc (by simp; have := hb.size; omega) (.cells #[.slice (some ⟨wr.heap.size, 0, none⟩) 0 0] 55))
        have hsz := x1.lt
        have O1 := hidden (show ∀ u ∈ [Value.slice (some ⟨wr.heap.size, 0, none⟩) 0 0], u.oneCell' = true from fun u hu => by simp at hu; rw [hu]; rfl)
        have L1 := hidden (show (List.replicate j ([] : List Int)).length + 1 ≤ maxLen by rw [List.length_replicate]; unfold maxLen; omega)
        have L2 := hidden (show ((List.replicate j ([] : List Int)).length + 1) * 24 ≤ 140737488355328 by rw [List.length_replicate]; omega)
        clear ho hlt hfp x0 x1 hb
        have HREP := hidden (show List.replicate j ([] : List Int) ++ [[]] = List.replicate (j + 1) [] by rw [List.replicate_succ'])
        go_wp2_with (at_builtin; refine wpList_appT tIntS rfl (.tmp 16) (.tmp 18) 53 rfl 55 i0 (.slice none 0 0) 24 Try.underlying53 hi hz0 hz1 hz2 rfl Nat.zero_lt_one v (List.replicate j []) fp rfl ?_ ⟨wr.heap.size + 1, 0, none⟩ 1 [.slice (some ⟨wr.heap.size, 0, none⟩) 0 0] [] [wr.heap.size] rfl ?_ ?_ ?_ ?_ ?_ ?_ ?_; exact M1.out; exact E1.out; exact D1.out; exact N1.out; exact O1.out; exact L1.out; exact L2.out; intro v2 w2 fp2 m1 m2 m3; rw [HREP.out] at m1; obtain ⟨a2, c2, hv2⟩ := row_shape m1.rd; rw [List.length_replicate] at hv2; subst hv2; have y1 := X1.out.turned m3 F1.out; obtain ⟨r0, _, _, _⟩ := y1.cells4; have fz := y1.frozen 0; have Y1 := hidden y1; have HM1 := hidden m1; have HM2 := hidden m2; have HM3 := hidden m3; clear m1 m2 m3 y1)
        have hf2 : ∀ b ∈ fp2, w.heap.size + 1 < b := by
          intro b hb
          rcases HM2.out b hb with h | h | h
          · exact HFP.out b h
          · simp at h
            omega
          · have := h.1
            simp at this
            omega
        have hmine := HM1.out.setCell (g := w.heap.size + 1) (j := 0) (fun hm => by have := hf2 _ hm; omega) (.slice a2 (j + 1) c2)
        have Z0 := hidden ((X0.out.turned HM3.out F0.out).other (g := w.heap.size + 1) (by omega) 0 (.slice a2 (j + 1) c2))
        have Z1 := hidden (Y1.out.set 0 (.slice a2 (j + 1) c2))
        have ZM := hidden hmine
        have ZB := hidden ((BA.out.trans (HM3.out.below (N := w.heap.size) (by simp; omega) (fun b hb => by have := HFP.out b hb; omega))).setCell (p := ⟨w.heap.size + 1, 0, none⟩) (by simp) (.slice a2 (j + 1) c2))
        clear M1 E1 N1 D1 O1 L1 L2 X0 X1 F0 F1 HFP BA HM1 HM2 HM3 Y1 hmine HREP
        go_roundw
        case rel => exact ⟨j + 1, _, fp2, by omega, by go_num, Z0.out, Z1.out, ZM.out, hf2, ZB.out⟩
        case measure => simp [intOf]; omega
      · have e : j = k := by omega
        subst e
        obtain ⟨a0, c0, hv⟩ := row_shape ho.rd
        subst hv
        rw [List.length_replicate] at q0 x1 ho
        obtain ⟨_, q1, q2, q3⟩ := x1.cells4
        obtain ⟨p0, p1, p2, p3⟩ := x0.cells4
        have fz := x0.frozen
        have hbt : But w.heap.size (w.heap.size + 1) wr ((((wr.setCell ⟨w.heap.size, 0, none⟩ (.slice a0 j c0)).setCell ⟨w.heap.size, 1, none⟩ (.slice none 0 0)).setCell ⟨w.heap.size, 2, none⟩ (.bool false)).setCell ⟨w.heap.size, 3, none⟩ (.slice none 0 0)) :=
          (((But.setCell (by omega) (by omega) _).trans (But.setCell (by omega) (by omega) _)).trans (But.setCell (by omega) (by omega) _)).trans (But.setCell (by omega) (by omega) _)
        have hlt := ho.lt
        have HO := hidden ((ho.own (lo := w.heap.size + 1) (hi := wr.heap.size) (fun b hb => by have h1 := hfp b hb; have h2 := hlt b hb; omega)).but hbt (.inr (Nat.le_refl _)))
        have HB := hidden (Below.andBut hb hbt (Nat.le_refl _))
        have HS := hidden hbt.size
        clear hbt ho hb hfp hlt x0 x1
        go_wp2
        refine bodyPost_ret (v := .agg #[.slice a0 j c0, .slice none 0 0, .bool false, .slice none 0 0]) (by simp [results, Try.results29, go_sem, p0, p1, p2, p3]) rfl ?_
        have hl : (newSS (j : Int)).length = j := by rw [HN.out, List.length_replicate]
        rw [hl, HN.out]
        exact ⟨_, _, rfl, HO.out.widen (by omega) HS.out, HB.out⟩
  · have hN : newSS n = [] := by unfold newSS; rw [if_neg (by intro h; apply h1; unfold inB; simp; omega)]
    rw [hN]
    have h1 : inB n 1 20 = false := by simpa using h1
    have hA : Below w.heap.size w (w.alloc (.cells #[.slice none 0 0, .slice none 0 0, .bool false, .slice none 0 0] 57)) := (Below.refl _ _).alloc (Nat.le_refl _) _
    go_enter Try.func29, Try.ntmps29
    go_wp2_with fail
    refine (l1In_any _ _ _ _).mono ?_
    rintro e w1 ⟨rfl, hw1⟩
    subst w1
    go_wp2
    refine bodyPost_ret (v := .agg #[.slice none 0 0, .slice none 0 0, .bool false, .slice none 0 0]) (by simp [results, Try.results29, go_sem]) rfl ⟨none, 0, rfl, nil_own _ _ _, hA⟩

end Go.Proofs.Ytgjldmjlbhkgbaa

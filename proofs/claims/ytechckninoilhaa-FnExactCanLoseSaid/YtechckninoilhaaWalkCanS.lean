/-
  The specification's CanLose walked. Condition: the array weighs at most 2097152.
-/
import Derived.Test.YtechckninoilhaaCan11
namespace Go.Proofs.Ytechckninoilhaa
open Go.RowKit

set_option maxRecDepth 20000 in
set_option maxHeartbeats 1600000 in
theorem specCanLose_any (w : World) (E F G : TypeId) (x : ArrN) (am ad : Option Addr) (nm cm nd cd : Nat) (ms : List MemD) (ds : List (Int × List Int)) (m : Int) (h0 : (tMemS E F).Rd w [.slice am nm cm] ms) (h1 : (tWrS G).Rd w [.slice ad nd cd] ds) (hw : wtArr ms ds ≤ 2097152) :
    Calls Try.prog 5 #[.agg #[.int .i64 x.id, .int .i64 x.n, .int .i64 x.s, .slice am nm cm, .int .i64 x.lost, .int .i64 x.built, .int .i64 x.seq, .int .i64 x.tail, .int .i64 x.gen, .slice ad nd cd, .int .i64 x.fuse, .bool x.down, .bool x.broken], .int .i64 m] w fun e w' => e = .returned (.bool (can11 x ms ds m)) ∧ Below w.heap.size w w' := by
  have hwm : wtMemS ms ≤ 2097152 := by unfold wtArr at hw; omega
  obtain ⟨hl, hcp, hcm⟩ := row_length h0
  have hA := new_below w (.cells #[.int .i64 x.id, .int .i64 x.n, .int .i64 x.s, .slice am nm cm, .int .i64 x.lost, .int .i64 x.built, .int .i64 x.seq, .int .i64 x.tail, .int .i64 x.gen, .slice ad nd cd, .int .i64 x.fuse, .bool x.down, .bool x.broken] 34)
  have X := Box.new w 34 #[.int .i64 x.id, .int .i64 x.n, .int .i64 x.s, .slice am nm cm, .int .i64 x.lost, .int .i64 x.built, .int .i64 x.seq, .int .i64 x.tail, .int .i64 x.gen, .slice ad nd cd, .int .i64 x.fuse, .bool x.down, .bool x.broken]
  have zA := X.lt
  obtain ⟨k0, k1, k2, k3, k4, k5, k6, k7, k8, k9, k10, k11, k12⟩ := X.cells13
  have r0 := h0.below hA
  have r1 := h1.below hA
  go_enter Try.func5, Try.ntmps5
  go_wp2_with fail
  generalize w.alloc (.cells #[.int .i64 x.id, .int .i64 x.n, .int .i64 x.s, .slice am nm cm, .int .i64 x.lost, .int .i64 x.built, .int .i64 x.seq, .int .i64 x.tail, .int .i64 x.gen, .slice ad nd cd, .int .i64 x.fuse, .bool x.down, .bool x.broken] 34) = W at hA X zA r0 r1 k0 k1 k2 k3 k4 k5 k6 k7 k8 k9 k10 k11 k12 ⊢
  refine (specArrOk_any _ E F G x _ _ _ _ _ _ ms ds r0 r1 hw).mono ?_
  rintro e w1 ⟨rfl, b1⟩
  have X1 := X.below b1 zA
  have B1 := Below.andThen hA b1
  have q1 := r0.below b1
  clear k0 k1 k2 k3 k4 k5 k6 k7 k8 k9 k10 k11 k12 X b1 hA zA r0 r1
  obtain ⟨k0, k1, k2, k3, k4, k5, k6, k7, k8, k9, k10, k11, k12⟩ := X1.cells13
  cases ha : arrB x ms ds
  · skip
    have HF : Hid (can11 x ms ds m = false) := can_no (by unfold canK; rw [ha]; rfl)
    have FB := hidden B1
    go_wp2
    go_ret
    exact ⟨ret_bool (by rw [HF.out]), FB.out⟩
  have hmn : (ms.length : Int) = x.n ∧ 3 ≤ x.n ∧ x.n ≤ 5 := by unfold arrB memsB at ha; simp only [Bool.and_eq_true, geoB_iff, decide_eq_true_eq] at ha; exact ⟨ha.2.2.1.2, ha.1.1, ha.1.2.1⟩
  have HA := hidden ha
  clear ha
  cases hbr : x.broken
  case true =>
    rw [hbr] at k12
    have HBR := hidden hbr
    clear hbr
    have HF : Hid (can11 x ms ds m = false) := can_no (by unfold canK; rw [HBR.out]; simp)
    have FB := hidden B1
    go_wp2
    go_ret
    exact ⟨ret_bool (by rw [HF.out]), FB.out⟩
  rw [hbr] at k12
  have HBR := hidden hbr
  clear hbr
  have hw1 : IntKind.i64.wrap ((nm : Int) - 1) = (nm : Int) - 1 := IntWalk.i64_in _ (by omega)
  go_wp2_with fail
  refine (l1In_any _ _ _ _).mono ?_
  rintro e wq ⟨rfl, hq⟩
  obtain rfl := hq.symm
  have hnl : ((nm : Int) - 1) = ((ms.length : Int) - 1) := by omega
  cases hin : inB m 0 ((nm : Int) - 1)
  · skip
    have HF : Hid (can11 x ms ds m = false) := can_no (by unfold canK; rw [hnl] at hin; rw [hin]; simp)
    have FB := hidden B1
    go_wp2
    go_ret
    exact ⟨ret_bool (by rw [HF.out]), FB.out⟩
  have HIN : Hid (inB m 0 ((ms.length : Int) - 1) = true) := by unfold Hid; rw [← hnl]; exact hin
  by_cases l1 : x.lost = -1
  · have e1 : (x.lost != -1) = false := by simp [l1]
    have HL1 := hidden l1
    clear l1
    have HCO : Hid (can11 x ms ds m = !othB ms m ms.length) := can_of (by unfold canK; rw [HA.out, HIN.out, HBR.out, HL1.out]; rfl)
    skip
    rcases quads_at rfl q1 with h0' | ⟨b, off, rfl, hbl, hcs⟩
    · omega
    have hdn : dataN 0 = 6 := rfl
    go_wp2
    go_loopw [5] (fun i wr => ∃ j : Nat, j ≤ nm ∧ i = .int .i64 j ∧ othB ms m j = false ∧ Same w1 wr) (fun i _ => nm - (intOf i).toNat)
    case atStart => exact ⟨0, Nat.zero_le _, rfl, rfl, Same.refl _⟩
    case round =>
      obtain ⟨j, hj, rfl, ho, hs⟩ := hrel
      have c3 := (hs.cell _).trans k3
      by_cases hjn : j < nm
      · obtain ⟨d, hdj⟩ : ∃ d, ms[j]? = some d := ⟨_, List.getElem?_eq_getElem (by omega)⟩
        obtain ⟨v0, v1, v2, v3, y0, y1, y2, y3, hrv⟩ := hcs j d hdj
        have hwd := inner_leM hdj
        obtain ⟨a0, c0, a1, c1, a3, c3', ss, cs, f, bs, rfl, rfl, rfl, rfl, rfl, p0, p1, p3⟩ := mem_at hrv
        obtain ⟨R3, hl3, _, _⟩ := ints_rd p3
        have hbs : bs.length ≤ 2097152 := by unfold wtMem at hwd; dsimp only at hwd; omega
        have i1 : (0 : Int) ≤ (j : Int) := by omega
        have i3 : (j : Int) < (nm : Int) := by omega
        have HO := hidden ho
        clear p0 p1 p3 hrv y0 y1 y2 ho hwd
        have y3r := (hs.cell _).trans y3
        obtain ⟨wo, hwo⟩ : ∃ x, x = wr := ⟨_, rfl⟩
        subst hwo
        go_wp2
        go_loopw [6] (fun i wr => ∃ k : Nat, k ≤ bs.length ∧ i = .int .i64 k ∧ ((j : Int) ≠ m → spoB (bs.take k) = false) ∧ Same w1 wr) (fun i _ => bs.length - (intOf i).toNat)
        case atStart => exact ⟨0, Nat.zero_le _, rfl, fun _ => rfl, hs⟩
        case round =>
          clear c3 y3r hs
          obtain ⟨k, hk, rfl, hsp, hs⟩ := hrel
          have c3 := (hs.cell _).trans k3
          have z3 := (hs.cell _).trans y3
          by_cases hkn : k < bs.length
          · rcases R3.cases with h0' | ⟨b3, o3, rfl, hb3, hc3⟩
            · omega
            have e3 := (hs.cell ⟨b3, o3 + k, none⟩).trans (hc3 k hkn)
            have k1 : (0 : Int) ≤ (k : Int) := by omega
            have k2' : (k : Int) < (bs.length : Int) := by omega
            by_cases hjm : (j : Int) = m
            · have g1 : ((j : Int) != m) = false := by simp [hjm]
              have HSP := hidden (show (j : Int) ≠ m → spoB (bs.take (k + 1)) = false from fun h => absurd hjm h)
              generalize bs.getD k 0 = y at e3
              clear hjm hsp hc3
              go_wp2_with fail
              go_quiet (fail)
              go_wp2
              go_roundw
              case rel => exact ⟨k + 1, by omega, by go_num, HSP.out, hs.drewN _⟩
              case measure => simp [intOf]; omega
            · have g1 : ((j : Int) != m) = true := by simp [hjm]
              by_cases hge : dataN 0 ≤ bs.getD k 0
              · have HF : Hid (can11 x ms ds m = false) := by unfold Hid; rw [HCO.out, oth_hit hdj hjm (spo_hit hkn hge)]; rfl
                generalize bs.getD k 0 = y at e3 hge
                clear hjm hsp hc3
                go_wp2_with fail
                go_quiet ((go_at_call 13; exact Calls.quiet_of_same (specDataAt_any _ _)))
                go_wp2
                go_ret
                exact ⟨ret_bool (by rw [HF.out]), Below.andSame B1 (hs.drewN _)⟩
              · have HSP := hidden (show (j : Int) ≠ m → spoB (bs.take (k + 1)) = false from fun _ => spo_step hkn hge (hsp hjm))
                generalize bs.getD k 0 = y at e3 hge
                clear hjm hsp hc3
                go_wp2_with fail
                go_quiet ((go_at_call 13; exact Calls.quiet_of_same (specDataAt_any _ _)))
                go_wp2
                go_roundw
                case rel => exact ⟨k + 1, by omega, by go_num, HSP.out, hs.drewN _⟩
                case measure => simp [intOf]; omega
          · have ek : k = bs.length := by omega
            have HO2 := hidden (oth_other hdj (fun h => by have := hsp h; rw [ek, List.take_length] at this; exact this) HO.out)
            clear hsp ek
            go_wp2
            go_roundw
            case rel => exact ⟨j + 1, by omega, by go_num, HO2.out, hs⟩
            case measure => simp [intOf]; omega
      · have ej : j = ms.length := by omega
        have HF : Hid (can11 x ms ds m = true) := by unfold Hid; rw [HCO.out, ← ej, ho]; rfl
        clear ej ho
        go_wp2
        go_ret
        exact ⟨ret_bool (by rw [HF.out]), Below.andSame B1 hs⟩
  · have e1 : (x.lost != -1) = true := by simp [l1]
    by_cases l2 : x.lost = m
    · have e2 : (x.lost != m) = false := by simp [l2]
      have HL1 := hidden l2
      clear l1 l2
      have HCO : Hid (can11 x ms ds m = !othB ms m ms.length) := can_of (by unfold canK; rw [HA.out, HIN.out, HBR.out, HL1.out]; simp)
      skip
      rcases quads_at rfl q1 with h0' | ⟨b, off, rfl, hbl, hcs⟩
      · omega
      have hdn : dataN 0 = 6 := rfl
      go_wp2
      go_loopw [5] (fun i wr => ∃ j : Nat, j ≤ nm ∧ i = .int .i64 j ∧ othB ms m j = false ∧ Same w1 wr) (fun i _ => nm - (intOf i).toNat)
      case atStart => exact ⟨0, Nat.zero_le _, rfl, rfl, Same.refl _⟩
      case round =>
        obtain ⟨j, hj, rfl, ho, hs⟩ := hrel
        have c3 := (hs.cell _).trans k3
        by_cases hjn : j < nm
        · obtain ⟨d, hdj⟩ : ∃ d, ms[j]? = some d := ⟨_, List.getElem?_eq_getElem (by omega)⟩
          obtain ⟨v0, v1, v2, v3, y0, y1, y2, y3, hrv⟩ := hcs j d hdj
          have hwd := inner_leM hdj
          obtain ⟨a0, c0, a1, c1, a3, c3', ss, cs, f, bs, rfl, rfl, rfl, rfl, rfl, p0, p1, p3⟩ := mem_at hrv
          obtain ⟨R3, hl3, _, _⟩ := ints_rd p3
          have hbs : bs.length ≤ 2097152 := by unfold wtMem at hwd; dsimp only at hwd; omega
          have i1 : (0 : Int) ≤ (j : Int) := by omega
          have i3 : (j : Int) < (nm : Int) := by omega
          have HO := hidden ho
          clear p0 p1 p3 hrv y0 y1 y2 ho hwd
          have y3r := (hs.cell _).trans y3
          obtain ⟨wo, hwo⟩ : ∃ x, x = wr := ⟨_, rfl⟩
          subst hwo
          go_wp2
          go_loopw [6] (fun i wr => ∃ k : Nat, k ≤ bs.length ∧ i = .int .i64 k ∧ ((j : Int) ≠ m → spoB (bs.take k) = false) ∧ Same w1 wr) (fun i _ => bs.length - (intOf i).toNat)
          case atStart => exact ⟨0, Nat.zero_le _, rfl, fun _ => rfl, hs⟩
          case round =>
            clear c3 y3r hs
            obtain ⟨k, hk, rfl, hsp, hs⟩ := hrel
            have c3 := (hs.cell _).trans k3
            have z3 := (hs.cell _).trans y3
            by_cases hkn : k < bs.length
            · rcases R3.cases with h0' | ⟨b3, o3, rfl, hb3, hc3⟩
              · omega
              have e3 := (hs.cell ⟨b3, o3 + k, none⟩).trans (hc3 k hkn)
              have k1 : (0 : Int) ≤ (k : Int) := by omega
              have k2' : (k : Int) < (bs.length : Int) := by omega
              by_cases hjm : (j : Int) = m
              · have g1 : ((j : Int) != m) = false := by simp [hjm]
                have HSP := hidden (show (j : Int) ≠ m → spoB (bs.take (k + 1)) = false from fun h => absurd hjm h)
                generalize bs.getD k 0 = y at e3
                clear hjm hsp hc3
                go_wp2_with fail
                go_quiet (fail)
                go_wp2
                go_roundw
                case rel => exact ⟨k + 1, by omega, by go_num, HSP.out, hs.drewN _⟩
                case measure => simp [intOf]; omega
              · have g1 : ((j : Int) != m) = true := by simp [hjm]
                by_cases hge : dataN 0 ≤ bs.getD k 0
                · have HF : Hid (can11 x ms ds m = false) := by unfold Hid; rw [HCO.out, oth_hit hdj hjm (spo_hit hkn hge)]; rfl
                  generalize bs.getD k 0 = y at e3 hge
                  clear hjm hsp hc3
                  go_wp2_with fail
                  go_quiet ((go_at_call 13; exact Calls.quiet_of_same (specDataAt_any _ _)))
                  go_wp2
                  go_ret
                  exact ⟨ret_bool (by rw [HF.out]), Below.andSame B1 (hs.drewN _)⟩
                · have HSP := hidden (show (j : Int) ≠ m → spoB (bs.take (k + 1)) = false from fun _ => spo_step hkn hge (hsp hjm))
                  generalize bs.getD k 0 = y at e3 hge
                  clear hjm hsp hc3
                  go_wp2_with fail
                  go_quiet ((go_at_call 13; exact Calls.quiet_of_same (specDataAt_any _ _)))
                  go_wp2
                  go_roundw
                  case rel => exact ⟨k + 1, by omega, by go_num, HSP.out, hs.drewN _⟩
                  case measure => simp [intOf]; omega
            · have ek : k = bs.length := by omega
              have HO2 := hidden (oth_other hdj (fun h => by have := hsp h; rw [ek, List.take_length] at this; exact this) HO.out)
              clear hsp ek
              go_wp2
              go_roundw
              case rel => exact ⟨j + 1, by omega, by go_num, HO2.out, hs⟩
              case measure => simp [intOf]; omega
        · have ej : j = ms.length := by omega
          have HF : Hid (can11 x ms ds m = true) := by unfold Hid; rw [HCO.out, ← ej, ho]; rfl
          clear ej ho
          go_wp2
          go_ret
          exact ⟨ret_bool (by rw [HF.out]), Below.andSame B1 hs⟩
    · have e2 : (x.lost != m) = true := by simp [l2]
      have HL1 := hidden (show (decide (x.lost = -1) || decide (x.lost = m)) = false by simp [l1, l2])
      clear l1 l2
      have HF : Hid (can11 x ms ds m = false) := can_no (by unfold canK; rw [HL1.out]; simp)
      have FB := hidden B1
      go_wp2
      go_ret
      exact ⟨ret_bool (by rw [HF.out]), FB.out⟩

end Go.Proofs.Ytechckninoilhaa

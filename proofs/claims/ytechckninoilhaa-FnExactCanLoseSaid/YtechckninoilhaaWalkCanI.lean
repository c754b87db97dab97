/-
  The program's CanLose walked. Condition: the array weighs at most 2097152.
-/
import Derived.Test.YtechckninoilhaaCan11
import Derived.Test.YtechckninoilhaaWalkImplArrOk2
import Derived.Test.YtechckninoilhaaWalkDiskAt
namespace Go.Proofs.Ytechckninoilhaa
open Go.RowKit

theorem spo1_any (w : World) (y : Int) : Calls Try.prog 54 #[.int .i64 y] w fun e w' => e = .returned (.bool (decide (dataN 0 ≤ y))) ∧ Same w w' := by
  go_enter Try.func54, Try.ntmps54
  go_wp2_with fail
  refine (implDataAt_any _ _).mono ?_
  rintro e wq ⟨rfl, hq⟩
  subst hq
  go_wp2
  go_ret
  exact ⟨rfl, Same.refl _⟩

set_option maxHeartbeats 400000 in
theorem spoIndex_any (w : World) (a : Option Addr) (len cap : Nat) (zs : List Int) (hz : zs.length = len) (hr : Reads .i64 w a zs) (hlen : len ≤ 2097152) :
    Calls Try.prog 66 #[.slice a len cap, .func (Fn.func 54) #[] #[]] w fun e w' => ((e = .returned (.int .i64 (-1)) ∧ spoB zs = false) ∨ ∃ j : Nat, j < len ∧ e = .returned (.int .i64 j) ∧ spoB zs = true) ∧ Same w w' := by
  go_enter Try.func66, Try.ntmps66
  go_wp2
  go_loopw [8] (fun i wr => ∃ j : Nat, j ≤ len ∧ i = .int .i64 j ∧ spoB (zs.take j) = false ∧ Same w wr) (fun i _ => len - (intOf i).toNat)
  case atStart => exact ⟨0, Nat.zero_le _, rfl, rfl, Same.refl _⟩
  case round =>
    obtain ⟨j, hj, rfl, ht, hs⟩ := hrel
    by_cases hlt : j < len
    · rcases hr.cases with h0 | ⟨b, off, rfl, hbl, hcz⟩
      · omega
      have hc1 := (hs.cell _).trans (hcz j (by omega))
      by_cases hge : dataN 0 ≤ zs.getD j 0
      · have HX := hidden (spo_hit (by omega) hge)
        generalize zs.getD j 0 = x at hc1 hge
        have hd : decide (dataN 0 ≤ x) = true := decide_eq_true hge
        clear hcz ht hge
        go_wp2_with fail
        refine (spo1_any _ _).mono ?_
        rintro e w1 ⟨rfl, hs1⟩
        go_wp2
        go_ret
        exact ⟨.inr ⟨j, hlt, rfl, HX.out⟩, hs.trans hs1⟩
      · have HT := hidden (spo_step (by omega) hge ht)
        generalize zs.getD j 0 = x at hc1 hge
        have hd : decide (dataN 0 ≤ x) = false := decide_eq_false hge
        clear hcz ht hge
        go_wp2_with fail
        refine (spo1_any _ _).mono ?_
        rintro e w1 ⟨rfl, hs1⟩
        go_wp2
        go_roundw
        case rel => exact ⟨j + 1, by omega, by go_num, HT.out, hs.trans hs1⟩
        case measure => simp [intOf]; omega
    · have e : j = zs.length := by omega
      have HT : Hid (spoB zs = false) := by unfold Hid; rw [e, List.take_length] at ht; exact ht
      clear ht e
      go_wp2
      go_ret
      exact ⟨.inl ⟨rfl, HT.out⟩, hs⟩

theorem spoHas_any (w : World) (a : Option Addr) (len cap : Nat) (zs : List Int) (hz : zs.length = len) (hr : Reads .i64 w a zs) (hlen : len ≤ 2097152) :
    Calls Try.prog 53 #[.slice a len cap, .func (Fn.func 54) #[] #[]] w fun e w' => e = .returned (.bool (spoB zs)) ∧ Same w w' := by
  go_enter Try.func53, Try.ntmps53
  go_wp2_with fail
  refine (spoIndex_any _ _ _ _ zs hz hr hlen).mono ?_
  rintro e w1 ⟨⟨rfl, h⟩ | ⟨j, hj, rfl, h⟩, hs⟩
  · have H := hidden h
    clear h
    go_wp2
    go_ret
    exact ⟨ret_bool (by rw [H.out]), hs⟩
  · have H := hidden h
    have j0 : (0 : Int) ≤ (j : Int) := by omega
    clear h
    go_wp2
    go_ret
    exact ⟨ret_bool (by rw [H.out]), hs⟩

theorem spoilt_any (w : World) (v0 v1 v2 : Value) (a : Option Addr) (len cap : Nat) (zs : List Int) (hz : zs.length = len) (hr : Reads .i64 w a zs) (hlen : len ≤ 2097152) :
    Calls Try.prog 36 #[.agg #[v0, v1, v2, .slice a len cap]] w fun e w' => e = .returned (.bool (spoB zs)) ∧ Below w.heap.size w w' := by
  have hA := new_below w (.cells #[v0, v1, v2, .slice a len cap] 67)
  have X := Box.new w 67 #[v0, v1, v2, .slice a len cap]
  obtain ⟨k0, k1, k2, k3⟩ := X.cells4
  have r0 := hr.below hA
  go_enter Try.func36, Try.ntmps36
  go_wp2_with fail
  refine (spoHas_any _ _ _ _ zs hz r0 hlen).mono ?_
  rintro e w1 ⟨rfl, hs⟩
  go_wp2
  go_ret
  exact ⟨rfl, Below.andSame hA hs⟩

set_option maxRecDepth 20000 in
set_option maxHeartbeats 1600000 in
theorem othersSpoilt_any (w : World) (E F : TypeId) (x : ArrN) (am ad : Option Addr) (nm cm nd cd : Nat) (ms : List MemD) (m : Int) (h0 : (tMemS E F).Rd w [.slice am nm cm] ms) (hwm : wtMemS ms ≤ 2097152) (hn3 : 3 ≤ nm) :
    Calls Try.prog 19 #[.agg #[.int .i64 x.id, .int .i64 x.n, .int .i64 x.s, .slice am nm cm, .int .i64 x.lost, .int .i64 x.built, .int .i64 x.seq, .int .i64 x.tail, .int .i64 x.gen, .slice ad nd cd, .int .i64 x.fuse, .bool x.down, .bool x.broken], .int .i64 m] w fun e w' => e = .returned (.bool (othB ms m ms.length)) ∧ Below w.heap.size w w' := by
  obtain ⟨hl, hcp, hcm⟩ := row_length h0
  have hnm : nm ≤ 2097152 := by unfold wtMemS at hwm; omega
  have hA := new_below w (.cells #[.int .i64 x.id, .int .i64 x.n, .int .i64 x.s, .slice am nm cm, .int .i64 x.lost, .int .i64 x.built, .int .i64 x.seq, .int .i64 x.tail, .int .i64 x.gen, .slice ad nd cd, .int .i64 x.fuse, .bool x.down, .bool x.broken] 34)
  have X := Box.new w 34 #[.int .i64 x.id, .int .i64 x.n, .int .i64 x.s, .slice am nm cm, .int .i64 x.lost, .int .i64 x.built, .int .i64 x.seq, .int .i64 x.tail, .int .i64 x.gen, .slice ad nd cd, .int .i64 x.fuse, .bool x.down, .bool x.broken]
  have k3 := X.cells13.2.2.2.1
  have r0 := h0.below hA
  rcases quads_at rfl r0 with h0' | ⟨b, off, rfl, hbl, hcs⟩
  · omega
  go_enter Try.func19, Try.ntmps19
  go_wp2
  generalize w.alloc (.cells #[.int .i64 x.id, .int .i64 x.n, .int .i64 x.s, .slice (some ⟨b, off, none⟩) nm cm, .int .i64 x.lost, .int .i64 x.built, .int .i64 x.seq, .int .i64 x.tail, .int .i64 x.gen, .slice ad nd cd, .int .i64 x.fuse, .bool x.down, .bool x.broken] 34) = W at hA X k3 hbl hcs ⊢
  go_loopw [11] (fun i wr => ∃ j : Nat, j ≤ nm ∧ i = .int .i64 j ∧ othB ms m j = false ∧ Below W.heap.size W wr) (fun i _ => nm - (intOf i).toNat)
  case atStart => exact ⟨0, Nat.zero_le _, rfl, rfl, Below.refl _ _⟩
  case round =>
    obtain ⟨j, hj, rfl, ho, hb⟩ := hrel
    by_cases hjn : j < nm
    · obtain ⟨d, hdj⟩ : ∃ d, ms[j]? = some d := ⟨_, List.getElem?_eq_getElem (by omega)⟩
      obtain ⟨v0, v1, v2, v3, y0, y1, y2, y3, hrv⟩ := hcs j d hdj
      have hwd := inner_leM hdj
      obtain ⟨a0, c0, a1, c1, a3, c3', ss, cs, f, bs, rfl, rfl, rfl, rfl, rfl, p0, p1, p3⟩ := mem_at hrv
      have p3b := p3.below hb
      obtain ⟨R3, hl3, _, _⟩ := ints_rd p3b
      have hbs : bs.length ≤ 2097152 := by unfold wtMem at hwd; dsimp only at hwd; omega
      have i1 : (0 : Int) ≤ (j : Int) := by omega
      have i3 : (j : Int) < (nm : Int) := by omega
      have z0 := (hb.cell (p := ⟨b, off + j * 4, none⟩) hbl).trans y0
      have z1 := (hb.cell (p := ⟨b, off + j * 4 + 1, none⟩) hbl).trans y1
      have z2 := (hb.cell (p := ⟨b, off + j * 4 + 2, none⟩) hbl).trans y2
      have z3 := (hb.cell (p := ⟨b, off + j * 4 + 3, none⟩) hbl).trans y3
      have n1 := (new_below wr (.cells #[.slice a0 ss.length c0, .slice a1 cs.length c1, .bool f, .slice a3 bs.length c3'] 46)).alloc (by simp) (.cells #[.slice a0 ss.length c0, .slice a1 cs.length c1, .bool f, .slice a3 bs.length c3'] 69)
      have HO := hidden ho
      clear p0 p1 p3 p3b hrv y0 y1 y2 y3 ho hwd
      by_cases hjm : (j : Int) = m
      · have g1 : ((j : Int) != m) = false := by simp [hjm]
        have HO2 := hidden (oth_same hjm HO.out)
        clear hjm
        go_wp2_with fail
        go_roundw
        case rel => exact ⟨j + 1, by omega, by go_num, HO2.out, hb.trans (n1.mono hb.size)⟩
        case measure => simp [intOf]; omega
      · have g1 : ((j : Int) != m) = true := by simp [hjm]
        go_wp2_with fail
        refine (spoilt_any _ _ _ _ _ _ _ bs rfl (R3.below n1) hbs).mono ?_
        rintro e w1 ⟨rfl, b1⟩
        have B1 := hb.trans ((Below.andThen n1 b1).mono hb.size)
        cases hsp : spoB bs
        · have HO2 := hidden (oth_other hdj (fun _ => hsp) HO.out)
          clear hsp hjm
          go_wp2
          go_roundw
          case rel => exact ⟨j + 1, by omega, by go_num, HO2.out, B1⟩
          case measure => simp [intOf]; omega
        · have HF := hidden (oth_hit hdj hjm hsp)
          clear hsp hjm
          go_wp2
          go_ret
          exact ⟨ret_bool (by rw [HF.out]), Below.andThen hA B1⟩
    · have ej : j = ms.length := by omega
      have HF : Hid (othB ms m ms.length = false) := by unfold Hid; rw [← ej, ho]
      clear ej ho
      go_wp2
      go_ret
      exact ⟨ret_bool (by rw [HF.out]), Below.andThen hA hb⟩

set_option maxRecDepth 20000 in
set_option maxHeartbeats 1600000 in
theorem implCanLose_any (w : World) (E F G : TypeId) (x : ArrN) (am ad : Option Addr) (nm cm nd cd : Nat) (ms : List MemD) (ds : List (Int × List Int)) (m : Int) (h0 : (tMemS E F).Rd w [.slice am nm cm] ms) (h1 : (tWrS G).Rd w [.slice ad nd cd] ds) (hw : wtArr ms ds ≤ 2097152) :
    Calls Try.prog 7 #[.agg #[.int .i64 x.id, .int .i64 x.n, .int .i64 x.s, .slice am nm cm, .int .i64 x.lost, .int .i64 x.built, .int .i64 x.seq, .int .i64 x.tail, .int .i64 x.gen, .slice ad nd cd, .int .i64 x.fuse, .bool x.down, .bool x.broken], .int .i64 m] w fun e w' => e = .returned (.bool (can11 x ms ds m)) ∧ Below w.heap.size w w' := by
  have hwm : wtMemS ms ≤ 2097152 := by unfold wtArr at hw; omega
  obtain ⟨hl, hcp, hcm⟩ := row_length h0
  have hA := new_below w (.cells #[.int .i64 x.id, .int .i64 x.n, .int .i64 x.s, .slice am nm cm, .int .i64 x.lost, .int .i64 x.built, .int .i64 x.seq, .int .i64 x.tail, .int .i64 x.gen, .slice ad nd cd, .int .i64 x.fuse, .bool x.down, .bool x.broken] 34)
  have X := Box.new w 34 #[.int .i64 x.id, .int .i64 x.n, .int .i64 x.s, .slice am nm cm, .int .i64 x.lost, .int .i64 x.built, .int .i64 x.seq, .int .i64 x.tail, .int .i64 x.gen, .slice ad nd cd, .int .i64 x.fuse, .bool x.down, .bool x.broken]
  have zA := X.lt
  obtain ⟨k0, k1, k2, k3, k4, k5, k6, k7, k8, k9, k10, k11, k12⟩ := X.cells13
  have r0 := h0.below hA
  have r1 := h1.below hA
  go_enter Try.func7, Try.ntmps7
  go_wp2_with fail
  generalize w.alloc (.cells #[.int .i64 x.id, .int .i64 x.n, .int .i64 x.s, .slice am nm cm, .int .i64 x.lost, .int .i64 x.built, .int .i64 x.seq, .int .i64 x.tail, .int .i64 x.gen, .slice ad nd cd, .int .i64 x.fuse, .bool x.down, .bool x.broken] 34) = W at hA X zA r0 r1 k0 k1 k2 k3 k4 k5 k6 k7 k8 k9 k10 k11 k12 ⊢
  refine (implArrOk_any _ E F G x _ _ _ _ _ _ ms ds r0 r1 hw).mono ?_
  rintro e w1 ⟨rfl, b1⟩
  have X1 := X.below b1 zA
  have B1 := Below.andThen hA b1
  have q1 := r0.below b1
  clear k0 k1 k2 k3 k4 k5 k6 k7 k8 k9 k10 k11 k12 X b1 hA zA r0 r1
  obtain ⟨k0, k1, k2, k3, k4, k5, k6, k7, k8, k9, k10, k11, k12⟩ := X1.cells13
  cases ha : arrB x ms ds
  · skip
    have HF : Hid (can11 x ms ds m = false) := can_no (by unfold canK; rw [ha]; rfl)
    have FB := hidden B1
    go_wp2
    go_ret
    exact ⟨ret_bool (by rw [HF.out]), FB.out⟩
  have hmn : (ms.length : Int) = x.n ∧ 3 ≤ x.n ∧ x.n ≤ 5 := by unfold arrB memsB at ha; simp only [Bool.and_eq_true, geoB_iff, decide_eq_true_eq] at ha; exact ⟨ha.2.2.1.2, ha.1.1, ha.1.2.1⟩
  have HA := hidden ha
  clear ha
  go_wp2_with fail
  refine (hasDisk_any _ x _ _ _ _ _ _ m).mono ?_
  rintro e w2 ⟨rfl, b2⟩
  have X2 := X1.below b2 X1.lt
  have B2 := Below.andThen B1 b2
  have q2 := q1.below b2
  clear k0 k1 k2 k3 k4 k5 k6 k7 k8 k9 k10 k11 k12 X1 B1 b2 q1
  obtain ⟨k0, k1, k2, k3, k4, k5, k6, k7, k8, k9, k10, k11, k12⟩ := X2.cells13
  have hnl : ((nm : Int) - 1) = ((ms.length : Int) - 1) := by omega
  cases hin : inB m 0 ((nm : Int) - 1)
  · skip
    have HF : Hid (can11 x ms ds m = false) := can_no (by unfold canK; rw [hnl] at hin; rw [hin]; simp)
    have FB := hidden B2
    go_wp2
    go_ret
    exact ⟨ret_bool (by rw [HF.out]), FB.out⟩
  have HIN : Hid (inB m 0 ((ms.length : Int) - 1) = true) := by unfold Hid; rw [← hnl]; exact hin
  clear hin
  cases hbr : x.broken
  case true =>
    rw [hbr] at k12
    have HBR := hidden hbr
    clear hbr
    have HF : Hid (can11 x ms ds m = false) := can_no (by unfold canK; rw [HBR.out]; simp)
    have FB := hidden B2
    go_wp2
    go_ret
    exact ⟨ret_bool (by rw [HF.out]), FB.out⟩
  have HBR := hidden hbr
  rw [hbr] at k12
  clear hbr
  by_cases l1 : x.lost = -1
  · have e1 : (x.lost == -1) = true := by simp [l1]
    have HL1 := hidden l1
    clear l1
    have HCO : Hid (can11 x ms ds m = !othB ms m ms.length) := can_of (by unfold canK; rw [HA.out, HIN.out, HBR.out, HL1.out]; rfl)
    go_wp2_with fail
    refine (othersSpoilt_any _ E F {x with broken := false} _ _ _ _ _ _ ms m q2 hwm (by omega)).mono ?_
    rintro e w3 ⟨rfl, b3⟩
    have FB := hidden (Below.andThen B2 b3)
    generalize othB ms m ms.length = o at HCO ⊢
    go_wp2
    go_ret
    exact ⟨ret_bool (by rw [HCO.out]), FB.out⟩
  · have e1 : (x.lost == -1) = false := by simp [l1]
    by_cases l2 : x.lost = m
    · have e2 : (x.lost == m) = true := by simp [l2]
      have HL1 := hidden l2
      clear l1 l2
      have HCO : Hid (can11 x ms ds m = !othB ms m ms.length) := can_of (by unfold canK; rw [HA.out, HIN.out, HBR.out, HL1.out]; simp)
      go_wp2_with fail
      refine (othersSpoilt_any _ E F {x with broken := false} _ _ _ _ _ _ ms m q2 hwm (by omega)).mono ?_
      rintro e w3 ⟨rfl, b3⟩
      have FB := hidden (Below.andThen B2 b3)
      generalize othB ms m ms.length = o at HCO ⊢
      go_wp2
      go_ret
      exact ⟨ret_bool (by rw [HCO.out]), FB.out⟩
    · have e2 : (x.lost == m) = false := by simp [l2]
      have HL1 := hidden (show (decide (x.lost = -1) || decide (x.lost = m)) = false by simp [l1, l2])
      clear l1 l2
      have HF : Hid (can11 x ms ds m = false) := can_no (by unfold canK; rw [HL1.out]; simp)
      have FB := hidden B2
      go_wp2
      go_ret
      exact ⟨ret_bool (by rw [HF.out]), FB.out⟩

end Go.Proofs.Ytechckninoilhaa

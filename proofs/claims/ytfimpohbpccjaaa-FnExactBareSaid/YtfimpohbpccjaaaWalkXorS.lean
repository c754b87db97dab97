/-
  The specification's XorAt and Bare walked. Condition: the array weighs at most 2097152.
-/
import Derived.Test.YtfimpohbpccjaaaXor10
import Derived.Test.YtfimpohbpccjaaaWalkArrOk3
namespace Go.Proofs.Ytfimpohbpccjaaa
open Go.RowKit

set_option maxRecDepth 20000 in
set_option maxHeartbeats 1600000 in
theorem specXorAt_any (w : World) (E F G : TypeId) (x : ArrN) (am ad : Option Addr) (nm cm nd cd : Nat) (ms : List MemD) (ds : List (Int × List Int)) (s : Int) (h0 : (tMemS E F).Rd w [.slice am nm cm] ms) (h1 : (tWrS G).Rd w [.slice ad nd cd] ds) (hw : wtArr ms ds ≤ 2097152) :
    Calls Try.prog 48 #[.agg #[.int .i64 x.id, .int .i64 x.n, .int .i64 x.s, .slice am nm cm, .int .i64 x.lost, .int .i64 x.built, .int .i64 x.seq, .int .i64 x.tail, .int .i64 x.gen, .slice ad nd cd, .int .i64 x.fuse, .bool x.down, .bool x.broken], .int .i64 s] w fun e w' => e = .returned (.tuple #[.int .i64 (xor10 x ms ds s), .bool (there10 x ms ds s)]) ∧ Below w.heap.size w w' := by
  have hwm : wtMemS ms ≤ 2097152 := by unfold wtArr at hw; omega
  obtain ⟨hl, hcp, hcm⟩ := row_length h0
  have hA := new_below w (.cells #[.int .i64 x.id, .int .i64 x.n, .int .i64 x.s, .slice am nm cm, .int .i64 x.lost, .int .i64 x.built, .int .i64 x.seq, .int .i64 x.tail, .int .i64 x.gen, .slice ad nd cd, .int .i64 x.fuse, .bool x.down, .bool x.broken] 34)
  have X := Box.new w 34 #[.int .i64 x.id, .int .i64 x.n, .int .i64 x.s, .slice am nm cm, .int .i64 x.lost, .int .i64 x.built, .int .i64 x.seq, .int .i64 x.tail, .int .i64 x.gen, .slice ad nd cd, .int .i64 x.fuse, .bool x.down, .bool x.broken]
  have zA := X.lt
  obtain ⟨k0, k1, k2, k3, k4, k5, k6, k7, k8, k9, k10, k11, k12⟩ := X.cells13
  have r0 := h0.below hA
  have r1 := h1.below hA
  go_enter Try.func48, Try.ntmps48
  go_wp2_with fail
  generalize w.alloc (.cells #[.int .i64 x.id, .int .i64 x.n, .int .i64 x.s, .slice am nm cm, .int .i64 x.lost, .int .i64 x.built, .int .i64 x.seq, .int .i64 x.tail, .int .i64 x.gen, .slice ad nd cd, .int .i64 x.fuse, .bool x.down, .bool x.broken] 34) = W at hA X zA r0 r1 k0 k1 k2 k3 k4 k5 k6 k7 k8 k9 k10 k11 k12 ⊢
  refine (specArrOk_any _ E F G x _ _ _ _ _ _ ms ds r0 r1 hw).mono ?_
  rintro e w1 ⟨rfl, b1⟩
  have X1 := X.below b1 zA
  have B1 := Below.andThen hA b1
  have q1 := r0.below b1
  clear k0 k1 k2 k3 k4 k5 k6 k7 k8 k9 k10 k11 k12 X b1 hA zA r0 r1
  obtain ⟨k0, k1, k2, k3, k4, k5, k6, k7, k8, k9, k10, k11, k12⟩ := X1.cells13
  cases ha : arrB x ms ds
  · skip
    have HF : Hid (there10 x ms ds s = false ∧ xor10 x ms ds s = 0) := by
      have h := (by unfold there10; simp [ha] : there10 x ms ds s = false)
      exact ⟨h, there_no h⟩
    have FB := hidden B1
    go_wp2
    refine bodyPost_ret (v := .tuple #[.int .i64 0, .bool false]) (by simp [results, Try.results48, go_sem]) rfl ?_
    exact ⟨by rw [HF.out.1, HF.out.2], FB.out⟩
  · have hg : geoB x.n x.s = true := by unfold arrB at ha; simp only [Bool.and_eq_true] at ha; exact ha.1
    obtain ⟨g1, g2, g3, g4⟩ := geoB_iff.1 hg
    have hws : IntKind.i64.wrap (x.s - 1) = x.s - 1 := IntWalk.i64_in _ (by omega)
    have HA := hidden ha
    clear ha
    go_wp2_with fail
    refine (l1In_any _ _ _ _).mono ?_
    rintro e wq ⟨rfl, hq⟩
    obtain rfl := hq.symm
    cases hin : inB s 0 (x.s - 1)
    · skip
      have HF : Hid (there10 x ms ds s = false ∧ xor10 x ms ds s = 0) := by
        have h := (by unfold there10; simp [hin] : there10 x ms ds s = false)
        exact ⟨h, there_no h⟩
      have FB := hidden B1
      go_wp2
      refine bodyPost_ret (v := .tuple #[.int .i64 0, .bool false]) (by simp [results, Try.results48, go_sem]) rfl ?_
      exact ⟨by rw [HF.out.1, HF.out.2], FB.out⟩
    · have HIN := hidden hin
      clear hin
      obtain ⟨n, hn⟩ : ∃ n : Nat, x.n = (n : Int) := ⟨x.n.toNat, by omega⟩
      have HNT : Hid (x.n.toNat = n) := by unfold Hid; omega
      have HN := hidden hn
      have hn5 : n ≤ 5 := by omega
      clear hn
      clear k0 k1 k2 k3 k4 k5 k6 k7 k8 k9 k10 k11 k12
      go_wp2
      go_loopw [6, 7] (fun v i wr => ∃ j : Nat, j ≤ n ∧ i = .int .i64 j ∧ v = .int .i64 (xorL (wordL x ms s j)) ∧ missL x ms s j = [] ∧ Below w1.heap.size w1 wr) (fun _ i _ => n - (intOf i).toNat)
      case atStart => exact ⟨0, Nat.zero_le _, rfl, rfl, rfl, Below.refl _ _⟩
      case round =>
        obtain ⟨j, hj, rfl, rfl, hm1, hb⟩ := hrel
        have Xr := X1.below hb X1.lt
        obtain ⟨k0, k1, k2, k3, k4, k5, k6, k7, k8, k9, k10, k11, k12⟩ := Xr.cells13
        have zs := hb.size
        by_cases hjn : j < n
        · have hlt : (j : Int) < x.n := by have := HN.out; omega
          go_wp2_with fail
          refine (l6Word_any _ E F x _ _ _ _ _ _ ms (j : Int) s (q1.below hb) hwm).mono ?_
          rintro e w2 ⟨rfl, b2⟩
          have B2 := hb.trans (b2.mono hb.size)
          have FB2 := Below.andThen B1 B2
          clear k0 k1 k2 k3 k4 k5 k6 k7 k8 k9 k10 k11 k12 Xr b2 hb
          cases hh : has6 x ms (j : Int) s
          · skip
            have HF : Hid (there10 x ms ds s = false ∧ xor10 x ms ds s = 0) := by
              have h := there_miss (ds := ds) (by have := HNT.out; omega) hh
              exact ⟨h, there_no h⟩
            have FB := hidden FB2
            go_wp2
            refine bodyPost_ret (v := .tuple #[.int .i64 0, .bool false]) (by simp [results, Try.results48, go_sem]) rfl ?_
            exact ⟨by rw [HF.out.1, HF.out.2], FB.out⟩
          · have hm2 := hidden (miss_grow hm1 hh)
            have hx := xorL_snoc (wordL x ms s j) (word6 x ms (j : Int) s)
            rw [← wordL_succ] at hx
            generalize word6 x ms (j : Int) s = y at hx ⊢
            generalize xorL (wordL x ms s j) = z at hx ⊢
            have HX := hidden hx
            have HB2 := hidden B2
            clear hx B2 FB2 hm1 hh
            go_wp2
            go_roundw
            case rel => exact ⟨j + 1, by omega, by go_num, by rw [← HX.out], hm2.out, HB2.out⟩
            case measure => simp [intOf]; omega
        · have ej : j = n := by omega
          subst ej
          have hge : x.n ≤ (j : Int) := by have := HN.out; omega
          obtain ⟨t1, t2⟩ := there_all HA.out HIN.out (by rw [HNT.out]; exact hm1)
          rw [HNT.out] at t2
          have HT1 := hidden t1
          have HT2 := hidden t2
          have FB := hidden (Below.andThen B1 hb)
          clear t1 t2 hm1 hb
          generalize xorL (wordL x ms s j) = z at HT2 ⊢
          go_wp2
          refine bodyPost_ret (v := .tuple #[.int .i64 z, .bool true]) (by simp [results, Try.results48, go_sem]) rfl ?_
          exact ⟨by rw [HT1.out, HT2.out], FB.out⟩

set_option maxRecDepth 20000 in
set_option maxHeartbeats 1600000 in
theorem specBare_any (w : World) (E F G : TypeId) (x : ArrN) (am ad : Option Addr) (nm cm nd cd : Nat) (ms : List MemD) (ds : List (Int × List Int))  (h0 : (tMemS E F).Rd w [.slice am nm cm] ms) (h1 : (tWrS G).Rd w [.slice ad nd cd] ds) (hw : wtArr ms ds ≤ 2097152) :
    Calls Try.prog 21 #[.agg #[.int .i64 x.id, .int .i64 x.n, .int .i64 x.s, .slice am nm cm, .int .i64 x.lost, .int .i64 x.built, .int .i64 x.seq, .int .i64 x.tail, .int .i64 x.gen, .slice ad nd cd, .int .i64 x.fuse, .bool x.down, .bool x.broken]] w fun e w' => e = .returned (.int .i64 (bare10 x ms ds)) ∧ Below w.heap.size w w' := by
  have hwm : wtMemS ms ≤ 2097152 := by unfold wtArr at hw; omega
  obtain ⟨hl, hcp, hcm⟩ := row_length h0
  have hA := new_below w (.cells #[.int .i64 x.id, .int .i64 x.n, .int .i64 x.s, .slice am nm cm, .int .i64 x.lost, .int .i64 x.built, .int .i64 x.seq, .int .i64 x.tail, .int .i64 x.gen, .slice ad nd cd, .int .i64 x.fuse, .bool x.down, .bool x.broken] 34)
  have X := Box.new w 34 #[.int .i64 x.id, .int .i64 x.n, .int .i64 x.s, .slice am nm cm, .int .i64 x.lost, .int .i64 x.built, .int .i64 x.seq, .int .i64 x.tail, .int .i64 x.gen, .slice ad nd cd, .int .i64 x.fuse, .bool x.down, .bool x.broken]
  have zA := X.lt
  obtain ⟨k0, k1, k2, k3, k4, k5, k6, k7, k8, k9, k10, k11, k12⟩ := X.cells13
  have r0 := h0.below hA
  have r1 := h1.below hA
  clear k0 k1 k2 k3 k4 k5 k6 k7 k8 k9 k10 k11 k12
  go_enter Try.func21, Try.ntmps21
  go_wp2
  generalize w.alloc (.cells #[.int .i64 x.id, .int .i64 x.n, .int .i64 x.s, .slice am nm cm, .int .i64 x.lost, .int .i64 x.built, .int .i64 x.seq, .int .i64 x.tail, .int .i64 x.gen, .slice ad nd cd, .int .i64 x.fuse, .bool x.down, .bool x.broken] 34) = W at hA X zA r0 r1 ⊢
  go_loopw [3, 4] (fun v i wr => ∃ j : Nat, i = .int .i64 j ∧ v = .int .i64 ((bareL x ms ds j).length : Int) ∧ (0 < j → arrB x ms ds = true ∧ (j : Int) ≤ x.s) ∧ Below W.heap.size W wr) (fun _ i _ => x.s.toNat - (intOf i).toNat)
  case atStart => exact ⟨0, rfl, rfl, fun h => absurd h (by omega), Below.refl _ _⟩
  case round =>
    obtain ⟨j, rfl, rfl, hj, hb⟩ := hrel
    have Xr := X.below hb zA
    obtain ⟨k0, k1, k2, k3, k4, k5, k6, k7, k8, k9, k10, k11, k12⟩ := Xr.cells13
    have zs := hb.size
    by_cases hlt : (j : Int) < x.s
    · have HJ := hidden hj
      clear hj
      go_wp2_with fail
      refine (specArrOk_any _ E F G x _ _ _ _ _ _ ms ds (r0.below hb) (r1.below hb) hw).mono ?_
      rintro e w2 ⟨rfl, b2⟩
      have X2 := Xr.below b2 Xr.lt
      have B2 := hb.trans (b2.mono hb.size)
      clear k0 k1 k2 k3 k4 k5 k6 k7 k8 k9 k10 k11 k12 Xr b2 hb
      cases ha : arrB x ms ds
      · have hb0 := bare_no (x := x) (ms := ms) (ds := ds) ha
        have hj0 : j = 0 := by
          rcases Nat.eq_zero_or_pos j with h | h
          · exact h
          · have := (HJ.out h).1; rw [ha] at this; cases this
        subst hj0
        have HB0 := hidden hb0
        have FB := hidden (Below.andThen hA B2)
        clear hb0 B2 hlt
        go_wp2
        go_ret
        exact ⟨ret_int (by rw [HB0.out]; rfl), FB.out⟩
      · have hg : geoB x.n x.s = true := by unfold arrB at ha; simp only [Bool.and_eq_true] at ha; exact ha.1
        obtain ⟨g1, g2, g3, g4⟩ := geoB_iff.1 hg
        have HA := hidden ha
        obtain ⟨k0, k1, k2, k3, k4, k5, k6, k7, k8, k9, k10, k11, k12⟩ := X2.cells13
        clear ha hg
        go_wp2_with fail
        refine (specXorAt_any _ E F G x _ _ _ _ _ _ ms ds (j : Int) (r0.below B2) (r1.below B2) hw).mono ?_
        rintro e w3 ⟨rfl, b3⟩
        have HB3 := hidden (B2.trans (b3.mono B2.size))
        clear k0 k1 k2 k3 k4 k5 k6 k7 k8 k9 k10 k11 k12 X2 b3 B2
        have hle := bareL_le x ms ds j
        cases ht : there10 x ms ds (j : Int)
        · have hs := bareL_no ht
          generalize (bareL x ms ds j).length = k at hs hle ⊢
          have HS := hidden hs
          clear hs ht
          go_wp2
          go_roundw
          case rel => exact ⟨j + 1, by go_num, by rw [HS.out]; go_num, fun _ => ⟨HA.out, by omega⟩, HB3.out⟩
          case measure => simp [intOf]; omega
        · have hs := bareL_yes ht
          generalize (bareL x ms ds j).length = k at hs hle ⊢
          have HS := hidden hs
          clear hs ht
          go_wp2
          go_roundw
          case rel => exact ⟨j + 1, by go_num, by rw [HS.out], fun _ => ⟨HA.out, by omega⟩, HB3.out⟩
          case measure => simp [intOf]; omega
    · have HV : Hid (bare10 x ms ds = ((bareL x ms ds j).length : Int)) := by
        unfold Hid
        cases ha : arrB x ms ds
        · rw [bare_no ha]
          rcases Nat.eq_zero_or_pos j with h | h
          · subst h; rfl
          · have := (hj h).1; rw [ha] at this; cases this
        · have hg : geoB x.n x.s = true := by unfold arrB at ha; simp only [Bool.and_eq_true] at ha; exact ha.1
          obtain ⟨g1, g2, g3, g4⟩ := geoB_iff.1 hg
          rw [bare_of ha]
          have : x.s.toNat = j := by
            rcases Nat.eq_zero_or_pos j with h | h
            · omega
            · have := (hj h).2; omega
          rw [this]
      have hge : x.s ≤ (j : Int) := by omega
      have FB := hidden (Below.andThen hA hb)
      clear hlt hj hb
      generalize ((bareL x ms ds j).length : Int) = z at HV ⊢
      go_wp2
      go_ret
      exact ⟨ret_int (by rw [HV.out]), FB.out⟩

end Go.Proofs.Ytfimpohbpccjaaa

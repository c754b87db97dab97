/-
  The program's LostAt walked. Condition: the array weighs at most 2097152.
-/
import Derived.Test.YtffekcblokohkabLost11
import Derived.Test.YtffekcblokohkabWalkImplWords
namespace Go.Proofs.Ytffekcblokohkab
open Go.RowKit

set_option maxRecDepth 20000 in
set_option maxHeartbeats 1600000 in
theorem implLostAt_any (w : World) (E F G : TypeId) (x : ArrN) (am ad : Option Addr) (nm cm nd cd : Nat) (ms : List MemD) (ds : List (Int × List Int)) (s : Int) (h0 : (tMemS E F).Rd w [.slice am nm cm] ms) (h1 : (tWrS G).Rd w [.slice ad nd cd] ds) (hw : wtArr ms ds ≤ 2097152) :
    Calls Try.prog 7 #[.agg #[.int .i64 x.id, .int .i64 x.n, .int .i64 x.s, .slice am nm cm, .int .i64 x.lost, .int .i64 x.built, .int .i64 x.seq, .int .i64 x.tail, .int .i64 x.gen, .slice ad nd cd, .int .i64 x.fuse, .bool x.down, .bool x.broken], .int .i64 s] w fun e w' => e = .returned (.int .i64 (lost11 x ms ds s)) ∧ Below w.heap.size w w' := by
  have hwm : wtMemS ms ≤ 2097152 := by unfold wtArr at hw; omega
  obtain ⟨hl, hcp, hcm⟩ := row_length h0
  have hA := new_below w (.cells #[.int .i64 x.id, .int .i64 x.n, .int .i64 x.s, .slice am nm cm, .int .i64 x.lost, .int .i64 x.built, .int .i64 x.seq, .int .i64 x.tail, .int .i64 x.gen, .slice ad nd cd, .int .i64 x.fuse, .bool x.down, .bool x.broken] 34)
  have X := Box.new w 34 #[.int .i64 x.id, .int .i64 x.n, .int .i64 x.s, .slice am nm cm, .int .i64 x.lost, .int .i64 x.built, .int .i64 x.seq, .int .i64 x.tail, .int .i64 x.gen, .slice ad nd cd, .int .i64 x.fuse, .bool x.down, .bool x.broken]
  have zA := X.lt
  obtain ⟨k0, k1, k2, k3, k4, k5, k6, k7, k8, k9, k10, k11, k12⟩ := X.cells13
  have r0 := h0.below hA
  have r1 := h1.below hA
  go_enter Try.func7, Try.ntmps7
  go_wp2_with fail
  generalize w.alloc (.cells #[.int .i64 x.id, .int .i64 x.n, .int .i64 x.s, .slice am nm cm, .int .i64 x.lost, .int .i64 x.built, .int .i64 x.seq, .int .i64 x.tail, .int .i64 x.gen, .slice ad nd cd, .int .i64 x.fuse, .bool x.down, .bool x.broken] 34) = W at hA X zA r0 r1 k0 k1 k2 k3 k4 k5 k6 k7 k8 k9 k10 k11 k12 ⊢
  refine (implArrOk_any _ E F G x _ _ _ _ _ _ ms ds r0 r1 hw).mono ?_
  rintro e w0 ⟨rfl, b1⟩
  have X1 := X.below b1 zA
  have B0 := Below.andThen hA b1
  have q0 := r0.below b1
  clear k0 k1 k2 k3 k4 k5 k6 k7 k8 k9 k10 k11 k12 X b1 hA zA r0 r1
  obtain ⟨k0, k1, k2, k3, k4, k5, k6, k7, k8, k9, k10, k11, k12⟩ := X1.cells13
  cases ha : arrB x ms ds
  · skip
    have HF : Hid (lost11 x ms ds s = x.n) := lost_no (by unfold lostK; rw [ha]; rfl)
    have FB := hidden B0
    go_wp2
    go_ret
    exact ⟨ret_int (by rw [HF.out]), FB.out⟩
  · have hg : geoB x.n x.s = true := by unfold arrB at ha; simp only [Bool.and_eq_true] at ha; exact ha.1
    have hmn : (ms.length : Int) = x.n := by unfold arrB memsB at ha; simp only [Bool.and_eq_true, decide_eq_true_eq] at ha; exact ha.2.2.1.2
    have hst := stripe_in6 (x := x) (y := s) hg
    obtain ⟨g1, g2, g3, g4⟩ := geoB_iff.1 hg
    have HA := hidden ha
    clear ha
    go_wp2_with fail
    refine (hasStripe_any _ x.n x.s s).mono ?_
    rintro e w1 ⟨rfl, b2⟩
    have X2 := X1.below b2 X1.lt
    have B1 := Below.andThen B0 b2
    have q1 := q0.below b2
    clear k0 k1 k2 k3 k4 k5 k6 k7 k8 k9 k10 k11 k12 X1 b2 B0 q0
    obtain ⟨k0, k1, k2, k3, k4, k5, k6, k7, k8, k9, k10, k11, k12⟩ := X2.cells13
    cases hin : stripeB x.n x.s s
    · skip
      have HF : Hid (lost11 x ms ds s = x.n) := lost_no (by unfold lostK; rw [← hst, hin]; simp)
      have FB := hidden B1
      go_wp2
      go_ret
      exact ⟨ret_int (by rw [HF.out]), FB.out⟩
    have HLO : Hid (lost11 x ms ds s = ((missL x ms s x.n.toNat).length : Int)) := lost_of (by unfold lostK; rw [HA.out, ← hst, hin]; rfl)
    obtain ⟨n, hn⟩ : ∃ n : Nat, nm = n := ⟨_, rfl⟩
    subst hn
    have HNT : Hid (x.n.toNat = nm) := by unfold Hid; omega
    have hn5 : nm ≤ 5 := by omega
    clear hst hin hmn
    go_wp2
    go_loopw [5, 25] (fun v i wr => ∃ j : Nat, j ≤ nm ∧ i = .int .i64 j ∧ v = .int .i64 ((missL x ms s j).length : Int) ∧ Below w1.heap.size w1 wr) (fun _ i _ => nm - (intOf i).toNat)
    case atStart => exact ⟨0, Nat.zero_le _, rfl, rfl, Below.refl _ _⟩
    case round =>
      clear k0 k1 k2 k3 k4 k5 k6 k7 k8 k9 k10 k11 k12
      obtain ⟨j, hj, rfl, rfl, hb⟩ := hrel
      have Xr := X2.below hb X2.lt
      obtain ⟨k0, k1, k2, k3, k4, k5, k6, k7, k8, k9, k10, k11, k12⟩ := Xr.cells13
      have hle := missN_le x ms s j
      by_cases hjn : j < nm
      · have hlt : (j : Int) < (nm : Int) := by omega
        go_wp2_with fail
        refine (diskAt_any _ E F x _ _ _ _ _ _ ms j (q1.below hb) hwm hjn).mono ?_
        rintro e w5 ⟨v, rfl, hd, b5⟩
        have B5 := hb.trans (b5.mono hb.size)
        clear k0 k1 k2 k3 k4 k5 k6 k7 k8 k9 k10 k11 k12 Xr b5 hb
        go_wp2_with fail
        refine (wordOn_any _ E x ms j v s hd hwm).mono ?_
        rintro e w6 ⟨rfl, b6⟩
        have B2 := B5.trans (b6.mono B5.size)
        clear b6 B5 hd
        generalize word6 x ms (j : Int) s = y
        cases hh : has6 x ms (j : Int) s
        · have hs := missN_no hh
          generalize (missL x ms s j).length = k at hs hle ⊢
          have HS := hidden hs
          have HB2 := hidden B2
          clear hs hh B2
          go_wp2
          go_roundw
          case rel => exact ⟨j + 1, by omega, by go_num, by rw [HS.out]; go_num, HB2.out⟩
          case measure => simp [intOf]; omega
        · have hs := missN_yes hh
          generalize (missL x ms s j).length = k at hs hle ⊢
          have HS := hidden hs
          have HB2 := hidden B2
          clear hs hh B2
          go_wp2
          go_roundw
          case rel => exact ⟨j + 1, by omega, by go_num, by rw [HS.out], HB2.out⟩
          case measure => simp [intOf]; omega
      · have ej : j = nm := by omega
        subst ej
        have HV : Hid (lost11 x ms ds s = ((missL x ms s j).length : Int)) := by unfold Hid; rw [HLO.out, HNT.out]
        have FB := hidden (Below.andThen B1 hb)
        clear hb
        generalize ((missL x ms s j).length : Int) = z at HV ⊢
        go_wp2
        go_ret
        exact ⟨ret_int (by rw [HV.out]), FB.out⟩

end Go.Proofs.Ytffekcblokohkab

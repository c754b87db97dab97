/-
  The walks of the specification's looks whether an array is right, and whether a disk of it lives at a stripe. Condition: it weighs at most 2097152.
-/
import Derived.Test.YtfimpohbpccjaaaWalkArrOk2
namespace Go.Proofs.Ytfimpohbpccjaaa
open Go.RowKit

def liveB (x : ArrN) (ms : List MemD) (m s : Int) : Bool := inB m 0 ((ms.length : Int) - 1) && (!(ms.getD m.toNat ([], [], false, [])).2.2.1 && (!decide (m = x.lost) || decide (s < x.built)))

set_option maxHeartbeats 3200000 in
theorem specArrOk_any (w : World) (E F G : TypeId) (x : ArrN) (am ad : Option Addr) (nm cm nd cd : Nat) (ms : List MemD) (ds : List (Int × List Int)) (h0 : (tMemS E F).Rd w [.slice am nm cm] ms) (h1 : (tWrS G).Rd w [.slice ad nd cd] ds) (hw : wtArr ms ds ≤ 2097152) :
    Calls Try.prog 37 #[.agg #[.int .i64 x.id, .int .i64 x.n, .int .i64 x.s, .slice am nm cm, .int .i64 x.lost, .int .i64 x.built, .int .i64 x.seq, .int .i64 x.tail, .int .i64 x.gen, .slice ad nd cd, .int .i64 x.fuse, .bool x.down, .bool x.broken]] w fun e w' => e = .returned (.bool (arrB x ms ds)) ∧ Below w.heap.size w w' := by
  have hwm : wtMemS ms ≤ 2097152 := by unfold wtArr at hw; omega
  have hwd : wtWrS ds ≤ 2097152 := by unfold wtArr at hw; omega
  have hA := new_below w (.cells #[.int .i64 x.id, .int .i64 x.n, .int .i64 x.s, .slice am nm cm, .int .i64 x.lost, .int .i64 x.built, .int .i64 x.seq, .int .i64 x.tail, .int .i64 x.gen, .slice ad nd cd, .int .i64 x.fuse, .bool x.down, .bool x.broken] 34)
  have X := Box.new w 34 #[.int .i64 x.id, .int .i64 x.n, .int .i64 x.s, .slice am nm cm, .int .i64 x.lost, .int .i64 x.built, .int .i64 x.seq, .int .i64 x.tail, .int .i64 x.gen, .slice ad nd cd, .int .i64 x.fuse, .bool x.down, .bool x.broken]
  obtain ⟨k0, k1, k2, k3, k4, k5, k6, k7, k8, k9, k10, k11, k12⟩ := X.cells13
  have zA := X.lt
  have r0 := h0.below hA
  have r1 := h1.below hA
  go_enter Try.func37, Try.ntmps37
  go_wp2_with fail
  generalize w.alloc (.cells #[.int .i64 x.id, .int .i64 x.n, .int .i64 x.s, .slice am nm cm, .int .i64 x.lost, .int .i64 x.built, .int .i64 x.seq, .int .i64 x.tail, .int .i64 x.gen, .slice ad nd cd, .int .i64 x.fuse, .bool x.down, .bool x.broken] 34) = W at hA X zA r0 r1 k0 k1 k2 k3 k4 k5 k6 k7 k8 k9 k10 k11 k12 ⊢
  refine (specGeoOk_any _ _ _).mono ?_
  rintro e w1 ⟨rfl, b1⟩
  have X1 := X.below b1 X.lt
  have B1 := Below.andThen hA b1
  have q1 := r0.below b1
  have t1 := r1.below b1
  clear k0 k1 k2 k3 k4 k5 k6 k7 k8 k9 k10 k11 k12 b1 hA X r0 r1
  obtain ⟨k0, k1, k2, k3, k4, k5, k6, k7, k8, k9, k10, k11, k12⟩ := X1.cells13
  cases hg : geoB x.n x.s
  · skip
    have HF : Hid (arrB x ms ds = false) := by unfold Hid arrB; simp [hg]
    go_wp2
    go_ret
    exact ⟨ret_bool HF.out.symm, B1⟩
  · obtain ⟨g1, g2, g3, g4⟩ := geoB_iff.1 hg
    have hws : IntKind.i64.wrap (x.n - 1) = x.n - 1 := IntWalk.i64_in _ (by omega)
    go_wp2_with fail
    refine (l1In_any _ _ _ _).mono ?_
    rintro e wq ⟨rfl, hq⟩
    obtain rfl := hq.symm
    cases hid : inB x.id 1 60000
    · skip
      have HF : Hid (arrB x ms ds = false) := by unfold Hid arrB; simp [hid]
      go_wp2
      go_ret
      exact ⟨ret_bool HF.out.symm, B1⟩
    · skip
      go_wp2_with fail
      refine (l6Mems_any _ E F x _ _ _ _ _ _ ms q1 hwm hg).mono ?_
      rintro e w2 ⟨rfl, b2⟩
      have X2 := X1.below b2 X1.lt
      have B2 := Below.andThen B1 b2
      have q2 := q1.below b2
      have t2 := t1.below b2
      clear k0 k1 k2 k3 k4 k5 k6 k7 k8 k9 k10 k11 k12 b2 B1 X1 q1 t1
      obtain ⟨k0, k1, k2, k3, k4, k5, k6, k7, k8, k9, k10, k11, k12⟩ := X2.cells13
      cases hms : memsB x ms
      · skip
        have HF : Hid (arrB x ms ds = false) := by unfold Hid arrB; simp [hms]
        go_wp2
        go_ret
        exact ⟨ret_bool HF.out.symm, B2⟩
      · skip
        go_wp2_with fail
        refine (l6Dirty_any _ G x _ _ _ _ _ _ ds t2 hwd hg).mono ?_
        rintro e w3 ⟨rfl, b3⟩
        have X3 := X2.below b3 X2.lt
        have B3 := Below.andThen B2 b3
        have q3 := q2.below b3
        have t3 := t2.below b3
        clear k0 k1 k2 k3 k4 k5 k6 k7 k8 k9 k10 k11 k12 b3 B2 X2 q2 t2
        obtain ⟨k0, k1, k2, k3, k4, k5, k6, k7, k8, k9, k10, k11, k12⟩ := X3.cells13
        cases hds : entsB x ds
        · skip
          have HF : Hid (arrB x ms ds = false) := by unfold Hid arrB; simp [hds]
          go_wp2
          go_ret
          exact ⟨ret_bool HF.out.symm, B3⟩
        · skip
          go_wp2_with fail
          refine (l1In_any _ _ _ _).mono ?_
          rintro e wq ⟨rfl, hq⟩
          obtain rfl := hq.symm
          cases hlo : inB x.lost (-1) (x.n - 1)
          · skip
            have HF : Hid (arrB x ms ds = false) := by unfold Hid arrB; simp [lostB6, hlo]
            go_wp2
            go_ret
            exact ⟨ret_bool HF.out.symm, B3⟩
          · skip
            go_wp2_with fail
            refine (l1In_any _ _ _ _).mono ?_
            rintro e wq ⟨rfl, hq⟩
            obtain rfl := hq.symm
            cases hbu : inB x.built 0 x.s
            · skip
              have HF : Hid (arrB x ms ds = false) := by unfold Hid arrB; simp [lostB6, hbu]
              go_wp2
              go_ret
              exact ⟨ret_bool HF.out.symm, B3⟩
            · skip
              have hlb : (x.lost = -1 ∧ ¬ x.built = 0) ∨ (x.lost = -1 ∧ x.built = 0) ∨ ¬ x.lost = -1 := by omega
              have HLB : Hid (lostB6 x = (!decide (x.lost = -1) || decide (x.built = 0))) := by unfold Hid lostB6; rw [hlo, hbu]; simp
              rcases hlb with ⟨l1, l2⟩ | ⟨l1, l2⟩ | l1
              · have e1 : (x.lost == -1) = true := by simpa using l1
                have e2 : (x.built != 0) = true := by simpa using l2
                have e3 : (x.built == 0) = false := by simpa using l2
                have hL : lostB6 x = false := by rw [HLB.out]; simp [l1, l2]
                rw [l1] at k4
                have HF : Hid (arrB x ms ds = false) := by unfold Hid arrB; simp [hL]
                clear hL l1 l2
                go_wp2
                go_ret
                exact ⟨ret_bool HF.out.symm, B3⟩
              · have e1 : (x.lost == -1) = true := by simpa using l1
                have e2 : (x.built != 0) = false := by simpa using l2
                have e3 : (x.built == 0) = true := by simpa using l2
                have HLT : Hid (lostB6 x = true) := by unfold Hid; rw [HLB.out]; simp [l2]
                rw [l1] at k4
                rw [l2] at k5
                clear l1 l2
                have HT : Hid (arrB x ms ds = seqB6 x) := by unfold Hid arrB; rw [hg, hid, hms, hds, HLT.out]; rfl
                go_wp2_with fail
                refine (l1In_any _ _ _ _).mono ?_
                rintro e wq ⟨rfl, hq⟩
                obtain rfl := hq.symm
                cases ht : inB x.tail 0 60000
                · have HF : Hid (arrB x ms ds = false) := by unfold Hid; rw [HT.out]; unfold seqB6; simp [ht]
                  go_wp2
                  go_ret
                  exact ⟨ret_bool HF.out.symm, B3⟩
                · skip
                  have ht2 : 0 ≤ x.tail ∧ x.tail ≤ 60000 := by unfold inB at ht; simpa using ht
                  have hw4 : IntKind.i64.wrap (x.tail + 4) = x.tail + 4 := IntWalk.i64_in _ (by omega)
                  go_wp2_with fail
                  refine (l1In_any _ _ _ _).mono ?_
                  rintro e wq ⟨rfl, hq⟩
                  obtain rfl := hq.symm
                  cases hs : inB x.seq x.tail 60000
                  · have HF : Hid (arrB x ms ds = false) := by unfold Hid; rw [HT.out]; unfold seqB6; simp [hs]
                    go_wp2
                    go_ret
                    exact ⟨ret_bool HF.out.symm, B3⟩
                  · skip
                    by_cases hle : x.seq ≤ x.tail + 4
                    · skip
                      go_wp2_with fail
                      refine (l1In_any _ _ _ _).mono ?_
                      rintro e wq ⟨rfl, hq⟩
                      obtain rfl := hq.symm
                      cases hge : inB x.gen 0 60000
                      · have HF : Hid (arrB x ms ds = false) := by unfold Hid; rw [HT.out]; unfold seqB6; simp [hge]
                        go_wp2
                        go_ret
                        exact ⟨ret_bool HF.out.symm, B3⟩
                      · skip
                        have HF : Hid (arrB x ms ds = inB x.fuse (-1) 1000) := by unfold Hid; rw [HT.out]; unfold seqB6; simp [ht, hs, hle, hge]
                        go_wp2_with fail
                        refine (l1In_any _ _ _ _).mono ?_
                        rintro e wq ⟨rfl, hq⟩
                        obtain rfl := hq.symm
                        cases hfu : inB x.fuse (-1) 1000
                        · go_wp2
                          go_ret
                          exact ⟨ret_bool (by rw [HF.out, hfu]), B3⟩
                        · go_wp2
                          go_ret
                          exact ⟨ret_bool (by rw [HF.out, hfu]), B3⟩
                    · have HF : Hid (arrB x ms ds = false) := by unfold Hid; rw [HT.out]; unfold seqB6; simp; omega
                      have hgt : x.tail + 4 < x.seq := by omega
                      go_wp2
                      go_ret
                      exact ⟨ret_bool HF.out.symm, B3⟩
              · have e1 : (x.lost == -1) = false := by simpa using l1
                have HLT : Hid (lostB6 x = true) := by unfold Hid; rw [HLB.out]; simp [l1]
                clear l1
                have HT : Hid (arrB x ms ds = seqB6 x) := by unfold Hid arrB; rw [hg, hid, hms, hds, HLT.out]; rfl
                go_wp2_with fail
                refine (l1In_any _ _ _ _).mono ?_
                rintro e wq ⟨rfl, hq⟩
                obtain rfl := hq.symm
                cases ht : inB x.tail 0 60000
                · have HF : Hid (arrB x ms ds = false) := by unfold Hid; rw [HT.out]; unfold seqB6; simp [ht]
                  go_wp2
                  go_ret
                  exact ⟨ret_bool HF.out.symm, B3⟩
                · skip
                  have ht2 : 0 ≤ x.tail ∧ x.tail ≤ 60000 := by unfold inB at ht; simpa using ht
                  have hw4 : IntKind.i64.wrap (x.tail + 4) = x.tail + 4 := IntWalk.i64_in _ (by omega)
                  go_wp2_with fail
                  refine (l1In_any _ _ _ _).mono ?_
                  rintro e wq ⟨rfl, hq⟩
                  obtain rfl := hq.symm
                  cases hs : inB x.seq x.tail 60000
                  · have HF : Hid (arrB x ms ds = false) := by unfold Hid; rw [HT.out]; unfold seqB6; simp [hs]
                    go_wp2
                    go_ret
                    exact ⟨ret_bool HF.out.symm, B3⟩
                  · skip
                    by_cases hle : x.seq ≤ x.tail + 4
                    · skip
                      go_wp2_with fail
                      refine (l1In_any _ _ _ _).mono ?_
                      rintro e wq ⟨rfl, hq⟩
                      obtain rfl := hq.symm
                      cases hge : inB x.gen 0 60000
                      · have HF : Hid (arrB x ms ds = false) := by unfold Hid; rw [HT.out]; unfold seqB6; simp [hge]
                        go_wp2
                        go_ret
                        exact ⟨ret_bool HF.out.symm, B3⟩
                      · skip
                        have HF : Hid (arrB x ms ds = inB x.fuse (-1) 1000) := by unfold Hid; rw [HT.out]; unfold seqB6; simp [ht, hs, hle, hge]
                        go_wp2_with fail
                        refine (l1In_any _ _ _ _).mono ?_
                        rintro e wq ⟨rfl, hq⟩
                        obtain rfl := hq.symm
                        cases hfu : inB x.fuse (-1) 1000
                        · go_wp2
                          go_ret
                          exact ⟨ret_bool (by rw [HF.out, hfu]), B3⟩
                        · go_wp2
                          go_ret
                          exact ⟨ret_bool (by rw [HF.out, hfu]), B3⟩
                    · have HF : Hid (arrB x ms ds = false) := by unfold Hid; rw [HT.out]; unfold seqB6; simp; omega
                      have hgt : x.tail + 4 < x.seq := by omega
                      go_wp2
                      go_ret
                      exact ⟨ret_bool HF.out.symm, B3⟩

set_option maxHeartbeats 1600000 in
theorem specLiveAt_any (w : World) (E F : TypeId) (x : ArrN) (am ad : Option Addr) (nm cm nd cd : Nat) (ms : List MemD) (m s : Int) (h0 : (tMemS E F).Rd w [.slice am nm cm] ms) (hw : wtMemS ms ≤ 2097152) :
    Calls Try.prog 9 #[.agg #[.int .i64 x.id, .int .i64 x.n, .int .i64 x.s, .slice am nm cm, .int .i64 x.lost, .int .i64 x.built, .int .i64 x.seq, .int .i64 x.tail, .int .i64 x.gen, .slice ad nd cd, .int .i64 x.fuse, .bool x.down, .bool x.broken], .int .i64 m, .int .i64 s] w fun e w' => e = .returned (.bool (liveB x ms m s)) ∧ Below w.heap.size w w' := by
  obtain ⟨hl, hc, hm⟩ := row_length h0
  have hnm : nm ≤ 2097152 := by unfold wtMemS at hw; omega
  have hA := new_below w (.cells #[.int .i64 x.id, .int .i64 x.n, .int .i64 x.s, .slice am nm cm, .int .i64 x.lost, .int .i64 x.built, .int .i64 x.seq, .int .i64 x.tail, .int .i64 x.gen, .slice ad nd cd, .int .i64 x.fuse, .bool x.down, .bool x.broken] 34)
  have X := Box.new w 34 #[.int .i64 x.id, .int .i64 x.n, .int .i64 x.s, .slice am nm cm, .int .i64 x.lost, .int .i64 x.built, .int .i64 x.seq, .int .i64 x.tail, .int .i64 x.gen, .slice ad nd cd, .int .i64 x.fuse, .bool x.down, .bool x.broken]
  obtain ⟨k0, k1, k2, k3, k4, k5, k6, k7, k8, k9, k10, k11, k12⟩ := X.cells13
  have h1 := h0.below hA
  have hwn : IntKind.i64.wrap ((nm : Int) - 1) = (nm : Int) - 1 := IntWalk.i64_in _ (by omega)
  go_enter Try.func9, Try.ntmps9
  go_wp2_with fail
  generalize w.alloc (.cells #[.int .i64 x.id, .int .i64 x.n, .int .i64 x.s, .slice am nm cm, .int .i64 x.lost, .int .i64 x.built, .int .i64 x.seq, .int .i64 x.tail, .int .i64 x.gen, .slice ad nd cd, .int .i64 x.fuse, .bool x.down, .bool x.broken] 34) = W at hA X h1 k0 k1 k2 k3 k4 k5 k6 k7 k8 k9 k10 k11 k12 ⊢
  refine (l1In_any _ _ _ _).mono ?_
  rintro e wq ⟨rfl, hq⟩
  obtain rfl := hq.symm
  cases hi : inB m 0 ((nm : Int) - 1)
  · have HF : Hid (liveB x ms m s = false) := by unfold Hid liveB; rw [hl, hi]; rfl
    go_wp2
    go_ret
    exact ⟨ret_bool HF.out.symm, hA⟩
  · have hi2 : 0 ≤ m ∧ m ≤ (nm : Int) - 1 := by unfold inB at hi; simpa using hi
    obtain ⟨j, rfl⟩ := Int.eq_ofNat_of_zero_le hi2.1
    rcases quads_at rfl h1 with h0' | ⟨b, off, rfl, hbl, hcs⟩
    · omega
    have hdj : ms[j]? = some (ms[j]'(by omega)) := List.getElem?_eq_getElem (by omega)
    generalize ms[j]'(by omega) = d at hdj
    obtain ⟨v0, v1, v2, v3, hv0, hv1, hv2, hv3, hrv⟩ := hcs j d hdj
    obtain ⟨a0, c0, a1, c1, a3, c3, ss, cs, f, bs, rfl, rfl, rfl, rfl, rfl, r0, r1, r3⟩ := mem_at hrv
    have i1 : (0 : Int) ≤ (j : Int) := by omega
    have i2 : (j : Int) < (nm : Int) := by omega
    have HD : Hid (liveB x ms (j : Int) s = (!f && (!decide ((j : Int) = x.lost) || decide (s < x.built)))) := by
      unfold Hid liveB
      rw [hl, hi, Int.toNat_natCast, List.getD_eq_getElem?_getD, hdj]
      rfl
    clear hcs hv0 hv1 hv3 hrv r0 r1 r3 hdj
    cases f
    · by_cases hj : (j : Int) = x.lost
      · have e1 : ((j : Int) == x.lost) = true := by simpa using hj
        have e2 : ((j : Int) != x.lost) = false := by simpa using hj
        have HF : Hid (liveB x ms (j : Int) s = decide (s < x.built)) := by unfold Hid; rw [HD.out]; simp [hj]
        clear hj
        go_wp2
        go_ret
        exact ⟨ret_bool HF.out.symm, hA⟩
      · have e1 : ((j : Int) == x.lost) = false := by simpa using hj
        have e2 : ((j : Int) != x.lost) = true := by simpa using hj
        have HF : Hid (liveB x ms (j : Int) s = true) := by unfold Hid; rw [HD.out]; simp [hj]
        clear hj
        go_wp2
        go_ret
        exact ⟨ret_bool HF.out.symm, hA⟩
    · have HF : Hid (liveB x ms (j : Int) s = false) := by unfold Hid; rw [HD.out]; rfl
      go_wp2
      go_ret
      exact ⟨ret_bool HF.out.symm, hA⟩

end Go.Proofs.Ytfimpohbpccjaaa

/-
  What a disk of an array holds of a stripe (word6), and the walk of the specification's look for it. Condition: the array weighs at most 2097152.
-/
import Derived.Test.YtfimpohbpccjaaaWalkArrOk3
import Derived.Test.YtfimpohbpccjaaaWalkRead
import Derived.Test.YtfimpohbpccjaaaLawSlotOf
namespace Go.Proofs.Ytfimpohbpccjaaa
open Go.RowKit

def memD (ms : List MemD) (m : Int) : MemD := ms.getD m.toNat ([], [], false, [])
def sec6 (ms : List MemD) (m s : Int) : List Int := readD (memD ms m).1 (memD ms m).2.1 (memD ms m).2.2.1 (memD ms m).2.2.2 (dataN s)
def has6 (x : ArrN) (ms : List MemD) (m s : Int) : Bool := liveB x ms m s && (readOk (memD ms m).1 (memD ms m).2.1 (memD ms m).2.2.1 (memD ms m).2.2.2 (dataN s) && decide ((sec6 ms m s).length = 1))
def word6 (x : ArrN) (ms : List MemD) (m s : Int) : Int := if has6 x ms m s = true then (sec6 ms m s).getD 0 0 else 0
theorem has6_live {x : ArrN} {ms : List MemD} {m s : Int} (h : liveB x ms m s = false) : has6 x ms m s = false := by unfold has6; rw [h]; rfl
theorem word6_no {x : ArrN} {ms : List MemD} {m s : Int} (h : has6 x ms m s = false) : word6 x ms m s = 0 := by unfold word6; rw [if_neg (by simp [h])]
theorem word6_of {x : ArrN} {ms : List MemD} {m s : Int} (h : has6 x ms m s = true) : word6 x ms m s = (sec6 ms m s).getD 0 0 := by unfold word6; rw [if_pos h]
theorem live_in {x : ArrN} {ms : List MemD} {m s : Int} (h : liveB x ms m s = true) : 0 ≤ m ∧ m < (ms.length : Int) := by
  unfold liveB inB at h
  simp only [Bool.and_eq_true, decide_eq_true_eq] at h
  omega
theorem ret_word {x : ArrN} {ms : List MemD} {m s : Int} (h : has6 x ms m s = false) : Ending.returned (.tuple #[.int .i64 0, .bool false]) = .returned (.tuple #[.int .i64 (word6 x ms m s), .bool (has6 x ms m s)]) := by rw [word6_no h, h]

set_option linter.unusedSimpArgs false in
set_option maxHeartbeats 3200000 in
theorem l6Word_any (w : World) (E F : TypeId) (x : ArrN) (am ad : Option Addr) (nm cm nd cd : Nat) (ms : List MemD) (m s : Int) (h0 : (tMemS E F).Rd w [.slice am nm cm] ms) (hw : wtMemS ms ≤ 2097152) :
    Calls Try.prog 60 #[.agg #[.int .i64 x.id, .int .i64 x.n, .int .i64 x.s, .slice am nm cm, .int .i64 x.lost, .int .i64 x.built, .int .i64 x.seq, .int .i64 x.tail, .int .i64 x.gen, .slice ad nd cd, .int .i64 x.fuse, .bool x.down, .bool x.broken], .int .i64 m, .int .i64 s] w fun e w' => e = .returned (.tuple #[.int .i64 (word6 x ms m s), .bool (has6 x ms m s)]) ∧ Below w.heap.size w w' := by
  obtain ⟨hl, hc, hm⟩ := row_length h0
  have hnm : nm ≤ 2097152 := by unfold wtMemS at hw; omega
  have hA := new_below w (.cells #[.int .i64 x.id, .int .i64 x.n, .int .i64 x.s, .slice am nm cm, .int .i64 x.lost, .int .i64 x.built, .int .i64 x.seq, .int .i64 x.tail, .int .i64 x.gen, .slice ad nd cd, .int .i64 x.fuse, .bool x.down, .bool x.broken] 34)
  have X := Box.new w 34 #[.int .i64 x.id, .int .i64 x.n, .int .i64 x.s, .slice am nm cm, .int .i64 x.lost, .int .i64 x.built, .int .i64 x.seq, .int .i64 x.tail, .int .i64 x.gen, .slice ad nd cd, .int .i64 x.fuse, .bool x.down, .bool x.broken]
  obtain ⟨k0, k1, k2, k3, k4, k5, k6, k7, k8, k9, k10, k11, k12⟩ := X.cells13
  have zA := X.lt
  have h1 := h0.below hA
  go_enter Try.func60, Try.ntmps60
  go_wp2_with fail
  generalize w.alloc (.cells #[.int .i64 x.id, .int .i64 x.n, .int .i64 x.s, .slice am nm cm, .int .i64 x.lost, .int .i64 x.built, .int .i64 x.seq, .int .i64 x.tail, .int .i64 x.gen, .slice ad nd cd, .int .i64 x.fuse, .bool x.down, .bool x.broken] 34) = W at hA X zA h1 k0 k1 k2 k3 k4 k5 k6 k7 k8 k9 k10 k11 k12 ⊢
  refine (specLiveAt_any _ E F x _ _ _ _ _ _ ms m s h1 hw).mono ?_
  rintro e w1 ⟨rfl, b1⟩
  have X1 := X.below b1 zA
  have B1 := Below.andThen hA b1
  have h2 := h1.below b1
  clear k0 k1 k2 k3 k4 k5 k6 k7 k8 k9 k10 k11 k12 X b1 hA zA h1
  obtain ⟨k0, k1, k2, k3, k4, k5, k6, k7, k8, k9, k10, k11, k12⟩ := X1.cells13
  cases hlv : liveB x ms m s
  · have HF := hidden (ret_word (has6_live hlv))
    go_wp2
    refine bodyPost_ret (v := .tuple #[.int .i64 0, .bool false]) (by simp [results, Try.results60, go_sem]) rfl ?_
    exact ⟨HF.out, B1⟩
  · obtain ⟨m1, m2⟩ := live_in hlv
    obtain ⟨j, rfl⟩ := Int.eq_ofNat_of_zero_le m1
    rcases quads_at rfl h2 with h0' | ⟨b, off, rfl, hbl, hcs⟩
    · omega
    have hdj : ms[j]? = some (ms[j]'(by omega)) := List.getElem?_eq_getElem (by omega)
    generalize ms[j]'(by omega) = d at hdj
    obtain ⟨v0, v1, v2, v3, hv0, hv1, hv2, hv3, hrv⟩ := hcs j d hdj
    obtain ⟨a0, c0, a1, c1, a3, c3, ss, cs, f, bs, rfl, rfl, rfl, rfl, rfl, r0, r1, r3⟩ := mem_at hrv
    have hwm := Nat.le_trans (inner_leM hdj) hw
    have hmd : memD ms (j : Int) = (ss, cs, f, bs) := by unfold memD; rw [Int.toNat_natCast, List.getD_eq_getElem?_getD, hdj]; rfl
    have hsec : sec6 ms (j : Int) s = readD ss cs f bs (dataN s) := by unfold sec6; rw [hmd]
    have hhas : has6 x ms (j : Int) s = (readOk ss cs f bs (dataN s) && decide ((readD ss cs f bs (dataN s)).length = 1)) := by unfold has6; rw [hlv, hsec, hmd]; rfl
    have hwd : has6 x ms (j : Int) s = true → word6 x ms (j : Int) s = (readD ss cs f bs (dataN s)).getD 0 0 := fun h => by rw [word6_of h, hsec]
    have HH := hidden hhas
    have HWD := hidden hwd
    have i1 : (0 : Int) ≤ (j : Int) := by omega
    have i2 : (j : Int) < (nm : Int) := by omega
    clear hcs hrv hdj hmd hsec hhas hwd m1 m2
    have zb : b < w1.heap.size := hbl
    have zx := X1.lt
    go_wp2_with fail
    refine wp_region_held_drew (S := fun w' => w'.cell? ⟨w.heap.size, 3, none⟩ = some (.slice (some ⟨b, off, none⟩) nm cm) ∧ w'.cell? ⟨b, off + j * 4, none⟩ = some (.slice a0 ss.length c0) ∧ w'.cell? ⟨b, off + j * 4 + 1, none⟩ = some (.slice a1 cs.length c1) ∧ w'.cell? ⟨b, off + j * 4 + 2, none⟩ = some (.bool f) ∧ w'.cell? ⟨b, off + j * 4 + 3, none⟩ = some (.slice a3 bs.length c3)) (by kernel_rfl) ?_ (fun hHeld => ?_)
    · exact ⟨k3, hv0, hv1, hv2, hv3⟩
    refine held_take (i := 0) (v := ?_) rfl (by kernel_rfl) (by kernel_rfl) (by kernel_rfl) (fun _ _ _ h => h) (by kernel_rfl) ?_ hHeld ?_
    rotate_left 1
    · (intro w hSw; (try dsimp only at hSw); go_split_ands; go_simp; first | done | with_reducible rfl)
    simp only [Act.put, List.setIfInBounds_toArray, List.set_cons_zero, List.set_cons_succ]
    refine held_take (i := 1) (v := ?_) rfl (by kernel_rfl) (by kernel_rfl) (by kernel_rfl) (fun _ _ _ h => h) (by kernel_rfl) ?_ hHeld ?_
    rotate_left 1
    · (intro w hSw; (try dsimp only at hSw); go_split_ands; go_simp; first | done | with_reducible rfl)
    simp only [Act.put, List.setIfInBounds_toArray, List.set_cons_zero, List.set_cons_succ]
    refine held_take (i := 2) (v := ?_) rfl (by kernel_rfl) (by kernel_rfl) (by kernel_rfl) (fun _ _ _ h => h) (by kernel_rfl) ?_ hHeld ?_
    rotate_left 1
    · (intro w hSw; (try dsimp only at hSw); go_split_ands; go_simp; first | done | with_reducible rfl)
    simp only [Act.put, List.setIfInBounds_toArray, List.set_cons_zero, List.set_cons_succ]
    refine held_take (i := 3) (v := ?_) rfl (by kernel_rfl) (by kernel_rfl) (by kernel_rfl) (fun _ _ _ h => h) (by kernel_rfl) ?_ hHeld ?_
    rotate_left 1
    · (intro w hSw; (try dsimp only at hSw); go_split_ands; go_simp; first | done | with_reducible rfl)
    simp only [Act.put, List.setIfInBounds_toArray, List.set_cons_zero, List.set_cons_succ]
    refine held_take (i := 4) (v := ?_) rfl (by kernel_rfl) (by kernel_rfl) (by kernel_rfl) (fun _ _ _ h => h) (by kernel_rfl) ?_ hHeld ?_
    rotate_left 1
    · (intro w hSw; (try dsimp only at hSw); go_split_ands; go_simp; first | done | with_reducible rfl)
    simp only [Act.put, List.setIfInBounds_toArray, List.set_cons_zero, List.set_cons_succ]
    refine held_take (i := 5) (v := ?_) rfl (by kernel_rfl) (by kernel_rfl) (by kernel_rfl) (fun _ _ _ h => h) (by kernel_rfl) ?_ hHeld ?_
    rotate_left 1
    · (intro w hSw; (try dsimp only at hSw); go_split_ands; go_simp; first | done | with_reducible rfl)
    simp only [Act.put, List.setIfInBounds_toArray, List.set_cons_zero, List.set_cons_succ]
    refine held_one (i := 6) (by kernel_rfl) rfl (by kernel_rfl) (fun K hK => ?_)
    go_simp
    refine (specDataAt_any _ _).mono ?_
    rintro e w2 ⟨rfl, hw2⟩
    subst hw2
    go_wp2_with fail
    clear hHeld
    refine hK.out _ _ ?_ (fun hHeld => ?_)
    · exact ⟨k3, hv0, hv1, hv2, hv3⟩
    clear hK K
    refine held_one (i := 7) (by kernel_rfl) rfl (by kernel_rfl) (fun K hK => ?_)
    go_simp
    refine (specReadSec_any _ E _ _ _ _ _ _ _ _ _ ss cs f bs (dataN s) r0.drew r1.drew r3.drew hwm).mono ?_
    rintro e w3 ⟨a', l, c', rfl, o3, b3⟩
    have b3' : Below w1.heap.size w1 w3 := (Below.refl w1.heap.size w1).drew.trans b3
    clear b3
    go_wp2_with fail
    clear hHeld
    refine hK.out _ _ ?_ (fun hHeld => ?_)
    · exact ⟨(b3'.cell (p := ⟨w.heap.size, 3, none⟩) zx).trans k3, (b3'.cell (p := ⟨b, off + j * 4, none⟩) zb).trans hv0, (b3'.cell (p := ⟨b, off + j * 4 + 1, none⟩) zb).trans hv1, (b3'.cell (p := ⟨b, off + j * 4 + 2, none⟩) zb).trans hv2, (b3'.cell (p := ⟨b, off + j * 4 + 3, none⟩) zb).trans hv3⟩
    clear hK K
    refine held_take (i := 8) (v := ?_) rfl (by kernel_rfl) (by kernel_rfl) (by kernel_rfl) (fun _ _ _ h => h) (by kernel_rfl) ?_ hHeld ?_
    rotate_left 1
    · (intro w hSw; (try dsimp only at hSw); go_split_ands; go_simp; first | done | with_reducible rfl)
    simp only [Act.put, List.setIfInBounds_toArray, List.set_cons_zero, List.set_cons_succ]
    refine held_take (i := 9) (v := ?_) rfl (by kernel_rfl) (by kernel_rfl) (by kernel_rfl) (fun _ _ _ h => h) (by kernel_rfl) ?_ hHeld ?_
    rotate_left 1
    · (intro w hSw; (try dsimp only at hSw); go_split_ands; go_simp; first | done | with_reducible rfl)
    simp only [Act.put, List.setIfInBounds_toArray, List.set_cons_zero, List.set_cons_succ]
    refine held_take (i := 10) (v := ?_) rfl (by kernel_rfl) (by kernel_rfl) (by kernel_rfl) (fun _ _ _ h => h) (by kernel_rfl) ?_ hHeld ?_
    rotate_left 1
    · (intro w hSw; (try dsimp only at hSw); go_split_ands; go_simp; first | done | with_reducible rfl)
    simp only [Act.put, List.setIfInBounds_toArray, List.set_cons_zero, List.set_cons_succ]
    refine held_take (i := 11) (v := ?_) rfl (by kernel_rfl) (by kernel_rfl) (by kernel_rfl) (fun _ _ _ h => h) (by kernel_rfl) ?_ hHeld ?_
    rotate_left 1
    · (intro w hSw; (try dsimp only at hSw); go_split_ands; go_simp; first | done | with_reducible rfl)
    simp only [Act.put, List.setIfInBounds_toArray, List.set_cons_zero, List.set_cons_succ]
    refine held_take (i := 12) (v := ?_) rfl (by kernel_rfl) (by kernel_rfl) (by kernel_rfl) (fun _ _ _ h => h) (by kernel_rfl) ?_ hHeld ?_
    rotate_left 1
    · (intro w hSw; (try dsimp only at hSw); go_split_ands; go_simp; first | done | with_reducible rfl)
    simp only [Act.put, List.setIfInBounds_toArray, List.set_cons_zero, List.set_cons_succ]
    refine wpAnyH_done (by kernel_rfl) ?_ _
    clear hHeld
    have B3 := Below.andThen B1 b3'
    obtain ⟨rd3, hl3, _, _⟩ := ints_rd o3.rd
    clear o3 b3' r0 r1 r3 hv0 hv1 hv2 hv3 k0 k1 k2 k3 k4 k5 k6 k7 k8 k9 k10 k11 k12 X1 B1 h2
    generalize readD ss cs f bs (dataN s) = L at rd3 hl3 HH HWD
    generalize readOk ss cs f bs (dataN s) = ok at HH ⊢
    cases ok
    · have HF := hidden (ret_word (x := x) (ms := ms) (m := (j : Int)) (s := s) (by rw [HH.out]; rfl))
      go_wp2
      refine bodyPost_ret (v := .tuple #[.int .i64 0, .bool false]) (by simp [results, Try.results60, go_sem]) rfl ?_
      exact ⟨HF.out, B3⟩
    · by_cases h1 : l = 1
      · subst h1
        obtain ⟨z, rfl⟩ : ∃ z, L = [z] := by
          match L, hl3 with
          | [z], _ => exact ⟨z, rfl⟩
        have hT : has6 x ms (j : Int) s = true := by rw [HH.out]; rfl
        have HF : Hid (Ending.returned (.tuple #[.int .i64 z, .bool true]) = .returned (.tuple #[.int .i64 (word6 x ms (j : Int) s), .bool (has6 x ms (j : Int) s)])) := by unfold Hid; rw [HWD.out hT, hT]; rfl
        rcases rd3.cases with h0'' | ⟨b', off', rfl, hb', hc'⟩
        · simp at h0''
        have q0 : w3.cell? ⟨b', off', none⟩ = some (.int .i64 z) := hc' 0 (by simp)
        clear hc' hT
        go_wp2
        refine bodyPost_ret (v := .tuple #[.int .i64 z, .bool true]) (by simp [results, Try.results60, go_sem]) rfl ?_
        exact ⟨HF.out, B3⟩
      · have HF := hidden (ret_word (x := x) (ms := ms) (m := (j : Int)) (s := s) (by rw [HH.out, hl3]; simp [h1]))
        have e1 : ((l : Int) == 1) = false := by simp; omega
        have e2 : ((l : Int) != 1) = true := by simp; omega
        go_wp2
        refine bodyPost_ret (v := .tuple #[.int .i64 0, .bool false]) (by simp [results, Try.results60, go_sem]) rfl ?_
        exact ⟨HF.out, B3⟩

end Go.Proofs.Ytfimpohbpccjaaa

/-
  The walks of what a disk reads in each of its states, and of the word that it holds of a stripe. Condition: the disk weighs at most 2097152.
-/
import Derived.Test.YtfimpohbpccjaaaWalkDiskAt
import Derived.Test.YtfimpohbpccjaaaWalkWords
import Derived.Test.YtfimpohbpccjaaaHeld
import Derived.Test.YtfimpohbpccjaaaWalkRead2
namespace Go.Proofs.Ytfimpohbpccjaaa
open Go.RowKit

set_option maxHeartbeats 800000 in
theorem read_store (w : World) (E : TypeId) (a0 a1 a3 : Option Addr) (n0 c0 n1 c1 n3 c3 : Nat) (ss : List (List Int)) (cs : List (Int × List Int)) (f : Bool) (bs : List Int) (n : Int) (h0 : tIntSS.Rd w [.slice a0 n0 c0] ss) (h1 : (tWrS E).Rd w [.slice a1 n1 c1] cs) (h3 : tIntS.Rd w [.slice a3 n3 c3] bs) (hw : wtMem (ss, cs, f, bs) ≤ 2097152) :
    Calls Try.prog 120 #[.agg #[.slice a0 n0 c0, .slice a1 n1 c1, .bool f, .slice a3 n3 c3], .int .i64 n] w fun e w' => ∃ a' l c', e = .returned (.tuple #[.slice a' l c', .bool (readOk ss cs f bs n)]) ∧ tIntS.Own w' w.heap.size w'.heap.size [.slice a' l c'] (readD ss cs f bs n) ∧ Below w.heap.size w w' := by
  have hA := new_below w (.cells #[.slice a0 n0 c0, .slice a1 n1 c1, .bool f, .slice a3 n3 c3] 86)
  have X := Box.new w 86 #[.slice a0 n0 c0, .slice a1 n1 c1, .bool f, .slice a3 n3 c3]
  have k0 := X.cell 0
  have k1 := X.cell 1
  have k2 := X.cell 2
  have k3 := X.cell 3
  have r0 := h0.below hA
  have r1 := h1.below hA
  have r3 := h3.below hA
  have zA := hA.size
  go_enter Try.func120, Try.ntmps120
  go_wp2_with fail
  refine (implReadSec_any _ E _ _ _ _ _ _ _ _ _ ss cs f bs n r0 r1 r3 hw).mono ?_
  rintro e w1 ⟨a', l, c', rfl, o1, b1⟩
  have HO := hidden (o1.widen (lo' := w.heap.size) zA (Nat.le_refl _))
  have HB := hidden (Below.andThen hA b1)
  clear o1 b1 k0 k1 k2 k3 r0 r1 r3 X
  go_wp2
  refine bodyPost_ret (v := .tuple #[.slice a' l c', .bool (readOk ss cs f bs n)]) (by simp [results, Try.results120, go_sem]) rfl ?_
  exact ⟨_, _, _, rfl, HO.out, HB.out⟩
theorem read_failed (w : World) (n : Int) : Calls Try.prog 127 #[.agg #[], .int .i64 n] w fun e w' => ∃ a' c', e = .returned (.tuple #[.slice a' 0 c', .bool false]) ∧ Below w.heap.size w w' := by
  have hA := (new_below w (.cells #[] 92)).alloc (by simp) (.cells #[] 3)
  go_enter Try.func127, Try.ntmps127
  go_wp2
  refine bodyPost_ret (v := .tuple #[.slice (some ⟨w.heap.size + 1, 0, none⟩) 0 0, .bool false]) (by simp [results, Try.results127, go_sem]) rfl ?_
  exact ⟨_, _, rfl, hA⟩

theorem live_at6 {x : ArrN} {ms : List MemD} {j : Nat} {s : Int} {d : MemD} (h : ms[j]? = some d) : liveB x ms (j : Int) s = (!d.2.2.1 && (!decide ((j : Int) = x.lost) || decide (s < x.built))) := by
  have hj := (List.getElem?_eq_some_iff.1 h).1
  unfold liveB
  rw [show inB (j : Int) 0 ((ms.length : Int) - 1) = true from inB_iff.2 (by omega), Int.toNat_natCast, List.getD_eq_getElem?_getD, h]
  rfl
theorem memD_at6 {ms : List MemD} {j : Nat} {d : MemD} (h : ms[j]? = some d) : memD ms (j : Int) = d := by unfold memD; rw [Int.toNat_natCast, List.getD_eq_getElem?_getD, h]; rfl
theorem has_at6 {x : ArrN} {ms : List MemD} {j : Nat} {s : Int} {ss : List (List Int)} {cs : List (Int × List Int)} {f : Bool} {bs : List Int} (h : ms[j]? = some (ss, cs, f, bs)) : has6 x ms (j : Int) s = (liveB x ms (j : Int) s && (readOk ss cs f bs (dataN s) && decide ((readD ss cs f bs (dataN s)).length = 1))) ∧ (has6 x ms (j : Int) s = true → word6 x ms (j : Int) s = (readD ss cs f bs (dataN s)).getD 0 0) := by
  have hm := memD_at6 h
  have hsec : sec6 ms (j : Int) s = readD ss cs f bs (dataN s) := by unfold sec6; rw [hm]
  refine ⟨by unfold has6; rw [hsec, hm], fun h => by rw [word6_of h, hsec]⟩

set_option linter.unusedSimpArgs false in
set_option maxRecDepth 20000 in
set_option maxHeartbeats 3200000 in
theorem wordOn_failed (w : World) (x : ArrN) (ms : List MemD) (j : Nat) (s : Int) (hd : has6 x ms (j : Int) s = false) :
    Calls Try.prog 41 #[.iface 92 (.agg #[]), .int .i64 s] w fun e w' => e = .returned (.tuple #[.int .i64 (word6 x ms (j : Int) s), .bool (has6 x ms (j : Int) s)]) ∧ Below w.heap.size w w' := by
  have na : ∀ w, Sem.run Try.prog (nilAhead (245 + 1) 92 (.agg #[]) "loop.example/g00398/impl.read") w = .ok (some false) w := fun w => by kernel_rfl
  have HD := hidden hd
  clear hd
  go_enter Try.func41, Try.ntmps41
  go_wp2_with fail
  refine wp_region_held_drew (S := fun w' => Below w.heap.size w w') (by kernel_rfl) ?_ (fun hHeld => ?_)
  · exact (Below.refl _ _).drew
  refine held_take (i := 0) (v := ?_) rfl (by kernel_rfl) (by kernel_rfl) (by kernel_rfl) (fun _ _ _ h => h) (by kernel_rfl) ?_ hHeld ?_
  rotate_left 1
  · (intro w hSw; (try dsimp only at hSw); go_split_ands; go_simp; first | done | with_reducible rfl)
  simp only [Act.put, List.setIfInBounds_toArray, List.set_cons_zero, List.set_cons_succ]
  refine held_take (i := 1) (v := ?_) rfl (by kernel_rfl) (by kernel_rfl) (by kernel_rfl) (fun _ _ _ h => h) (by kernel_rfl) ?_ hHeld ?_
  rotate_left 1
  · (intro w hSw; (try dsimp only at hSw); go_split_ands; go_simp; first | done | with_reducible rfl)
  simp only [Act.put, List.setIfInBounds_toArray, List.set_cons_zero, List.set_cons_succ]
  refine held_take (i := 3) (v := ?_) rfl (by kernel_rfl) (by kernel_rfl) (by kernel_rfl) (fun _ _ _ h => h) (by kernel_rfl) ?_ hHeld ?_
  rotate_left 1
  · (intro w hSw; (try dsimp only at hSw); go_split_ands; go_simp; first | done | with_reducible rfl)
  simp only [Act.put, List.setIfInBounds_toArray, List.set_cons_zero, List.set_cons_succ]
  refine held_take (i := 4) (v := ?_) rfl (by kernel_rfl) (by kernel_rfl) (by kernel_rfl) (fun _ _ _ h => h) (by kernel_rfl) ?_ hHeld ?_
  rotate_left 1
  · (intro w hSw; (try dsimp only at hSw); go_split_ands; go_simp; first | done | with_reducible rfl)
  simp only [Act.put, List.setIfInBounds_toArray, List.set_cons_zero, List.set_cons_succ]
  refine held_take (i := 5) (v := ?_) rfl (by kernel_rfl) (by kernel_rfl) (by kernel_rfl) (fun _ _ _ h => h) (by kernel_rfl) ?_ hHeld ?_
  rotate_left 1
  · (intro w hSw; (try dsimp only at hSw); go_split_ands; go_simp; first | done | with_reducible rfl)
  simp only [Act.put, List.setIfInBounds_toArray, List.set_cons_zero, List.set_cons_succ]
  refine held_one (i := 2) (by kernel_rfl) rfl (by kernel_rfl) (fun K hK => ?_)
  go_simp
  refine (implDataAt_any _ _).mono ?_
  rintro e w1 ⟨rfl, h1⟩
  subst h1
  go_wp2_with fail
  clear hHeld
  refine hK.out _ _ ?_ (fun hHeld => ?_)
  · exact (Below.refl _ _).drew
  clear hK K
  refine held_one (i := 6) (by kernel_rfl) rfl (by kernel_rfl) (fun K hK => ?_)
  go_simp
  refine (read_failed _ _).mono ?_
  rintro e w2 ⟨a', c', rfl, b2⟩
  have b2' : Below w.heap.size w w2 := (Below.refl w.heap.size w).drew.trans b2
  clear b2
  go_wp2_with fail
  clear hHeld
  refine hK.out _ _ ?_ (fun hHeld => ?_)
  · exact b2'
  clear hK K
  refine held_take (i := 7) (v := ?_) rfl (by kernel_rfl) (by kernel_rfl) (by kernel_rfl) (fun _ _ _ h => h) (by kernel_rfl) ?_ hHeld ?_
  rotate_left 1
  · (intro w hSw; (try dsimp only at hSw); go_split_ands; go_simp; first | done | with_reducible rfl)
  simp only [Act.put, List.setIfInBounds_toArray, List.set_cons_zero, List.set_cons_succ]
  refine held_take (i := 8) (v := ?_) rfl (by kernel_rfl) (by kernel_rfl) (by kernel_rfl) (fun _ _ _ h => h) (by kernel_rfl) ?_ hHeld ?_
  rotate_left 1
  · (intro w hSw; (try dsimp only at hSw); go_split_ands; go_simp; first | done | with_reducible rfl)
  simp only [Act.put, List.setIfInBounds_toArray, List.set_cons_zero, List.set_cons_succ]
  refine held_take (i := 9) (v := ?_) rfl (by kernel_rfl) (by kernel_rfl) (by kernel_rfl) (fun _ _ _ h => h) (by kernel_rfl) ?_ hHeld ?_
  rotate_left 1
  · (intro w hSw; (try dsimp only at hSw); go_split_ands; go_simp; first | done | with_reducible rfl)
  simp only [Act.put, List.setIfInBounds_toArray, List.set_cons_zero, List.set_cons_succ]
  refine held_take (i := 10) (v := ?_) rfl (by kernel_rfl) (by kernel_rfl) (by kernel_rfl) (fun _ _ _ h => h) (by kernel_rfl) ?_ hHeld ?_
  rotate_left 1
  · (intro w hSw; (try dsimp only at hSw); go_split_ands; go_simp; first | done | with_reducible rfl)
  simp only [Act.put, List.setIfInBounds_toArray, List.set_cons_zero, List.set_cons_succ]
  refine held_take (i := 11) (v := ?_) rfl (by kernel_rfl) (by kernel_rfl) (by kernel_rfl) (fun _ _ _ h => h) (by kernel_rfl) ?_ hHeld ?_
  rotate_left 1
  · (intro w hSw; (try dsimp only at hSw); go_split_ands; go_simp; first | done | with_reducible rfl)
  simp only [Act.put, List.setIfInBounds_toArray, List.set_cons_zero, List.set_cons_succ]
  refine wpAnyH_done (by kernel_rfl) ?_ _
  clear hHeld
  have HB := hidden b2'
  go_wp2
  refine bodyPost_ret (v := .tuple #[.int .i64 0, .bool false]) (by simp [results, Try.results41, go_sem]) rfl ?_
  exact ⟨ret_word HD.out, HB.out⟩

set_option linter.unusedSimpArgs false in
set_option maxRecDepth 20000 in
set_option maxHeartbeats 3200000 in
theorem wordOn_lost (w : World) (E : TypeId) (x : ArrN) (ms : List MemD) (j : Nat) (s : Int) (a0 a1 a3 : Option Addr) (c0 c1 c3 : Nat) (ss : List (List Int)) (cs : List (Int × List Int)) (bs : List Int) (h0 : tIntSS.Rd w [.slice a0 ss.length c0] ss) (h1 : (tWrS E).Rd w [.slice a1 cs.length c1] cs) (h3 : tIntS.Rd w [.slice a3 bs.length c3] bs) (hw : wtMem (ss, cs, false, bs) ≤ 2097152) (hd : has6 x ms (j : Int) s = (decide (s < x.built) && (readOk ss cs false bs (dataN s) && decide ((readD ss cs false bs (dataN s)).length = 1)))) (hv : has6 x ms (j : Int) s = true → word6 x ms (j : Int) s = (readD ss cs false bs (dataN s)).getD 0 0) :
    Calls Try.prog 41 #[.iface 90 (.agg #[.slice a0 ss.length c0, .slice a1 cs.length c1, .bool false, .slice a3 bs.length c3, .int .i64 x.built]), .int .i64 s] w fun e w' => e = .returned (.tuple #[.int .i64 (word6 x ms (j : Int) s), .bool (has6 x ms (j : Int) s)]) ∧ Below w.heap.size w w' := by
  have na : ∀ w, Sem.run Try.prog (nilAhead (245 + 1) 90 (.agg #[.slice a0 ss.length c0, .slice a1 cs.length c1, .bool false, .slice a3 bs.length c3, .int .i64 x.built]) "loop.example/g00398/impl.read") w = .ok (some false) w := fun w => by kernel_rfl
  have HD := hidden hd
  have HV := hidden hv
  clear hd hv
  go_enter Try.func41, Try.ntmps41
  go_wp2_with fail
  refine wp_region_held_drew (S := fun w' => Below w.heap.size w w') (by kernel_rfl) ?_ (fun hHeld => ?_)
  · exact (Below.refl _ _).drew
  refine held_take (i := 0) (v := ?_) rfl (by kernel_rfl) (by kernel_rfl) (by kernel_rfl) (fun _ _ _ h => h) (by kernel_rfl) ?_ hHeld ?_
  rotate_left 1
  · (intro w hSw; (try dsimp only at hSw); go_split_ands; go_simp; first | done | with_reducible rfl)
  simp only [Act.put, List.setIfInBounds_toArray, List.set_cons_zero, List.set_cons_succ]
  refine held_take (i := 1) (v := ?_) rfl (by kernel_rfl) (by kernel_rfl) (by kernel_rfl) (fun _ _ _ h => h) (by kernel_rfl) ?_ hHeld ?_
  rotate_left 1
  · (intro w hSw; (try dsimp only at hSw); go_split_ands; go_simp; first | done | with_reducible rfl)
  simp only [Act.put, List.setIfInBounds_toArray, List.set_cons_zero, List.set_cons_succ]
  refine held_take (i := 3) (v := ?_) rfl (by kernel_rfl) (by kernel_rfl) (by kernel_rfl) (fun _ _ _ h => h) (by kernel_rfl) ?_ hHeld ?_
  rotate_left 1
  · (intro w hSw; (try dsimp only at hSw); go_split_ands; go_simp; first | done | with_reducible rfl)
  simp only [Act.put, List.setIfInBounds_toArray, List.set_cons_zero, List.set_cons_succ]
  refine held_take (i := 4) (v := ?_) rfl (by kernel_rfl) (by kernel_rfl) (by kernel_rfl) (fun _ _ _ h => h) (by kernel_rfl) ?_ hHeld ?_
  rotate_left 1
  · (intro w hSw; (try dsimp only at hSw); go_split_ands; go_simp; first | done | with_reducible rfl)
  simp only [Act.put, List.setIfInBounds_toArray, List.set_cons_zero, List.set_cons_succ]
  refine held_take (i := 5) (v := ?_) rfl (by kernel_rfl) (by kernel_rfl) (by kernel_rfl) (fun _ _ _ h => h) (by kernel_rfl) ?_ hHeld ?_
  rotate_left 1
  · (intro w hSw; (try dsimp only at hSw); go_split_ands; go_simp; first | done | with_reducible rfl)
  simp only [Act.put, List.setIfInBounds_toArray, List.set_cons_zero, List.set_cons_succ]
  refine held_one (i := 2) (by kernel_rfl) rfl (by kernel_rfl) (fun K hK => ?_)
  go_simp
  refine (implDataAt_any _ _).mono ?_
  rintro e w1 ⟨rfl, h1⟩
  subst h1
  go_wp2_with fail
  clear hHeld
  refine hK.out _ _ ?_ (fun hHeld => ?_)
  · exact (Below.refl _ _).drew
  clear hK K
  refine held_one (i := 6) (by kernel_rfl) rfl (by kernel_rfl) (fun K hK => ?_)
  go_simp
  refine (read_store _ E _ _ _ _ _ _ _ _ _ ss cs false bs _ h0.drew h1.drew h3.drew hw).mono ?_
  rintro e w2 ⟨a', l, c', rfl, o2, b2⟩
  have b2' : Below w.heap.size w w2 := (Below.refl w.heap.size w).drew.trans b2
  clear b2
  go_wp2_with fail
  clear hHeld
  refine hK.out _ _ ?_ (fun hHeld => ?_)
  · exact b2'
  clear hK K
  refine held_take (i := 7) (v := ?_) rfl (by kernel_rfl) (by kernel_rfl) (by kernel_rfl) (fun _ _ _ h => h) (by kernel_rfl) ?_ hHeld ?_
  rotate_left 1
  · (intro w hSw; (try dsimp only at hSw); go_split_ands; go_simp; first | done | with_reducible rfl)
  simp only [Act.put, List.setIfInBounds_toArray, List.set_cons_zero, List.set_cons_succ]
  refine held_take (i := 8) (v := ?_) rfl (by kernel_rfl) (by kernel_rfl) (by kernel_rfl) (fun _ _ _ h => h) (by kernel_rfl) ?_ hHeld ?_
  rotate_left 1
  · (intro w hSw; (try dsimp only at hSw); go_split_ands; go_simp; first | done | with_reducible rfl)
  simp only [Act.put, List.setIfInBounds_toArray, List.set_cons_zero, List.set_cons_succ]
  refine held_take (i := 9) (v := ?_) rfl (by kernel_rfl) (by kernel_rfl) (by kernel_rfl) (fun _ _ _ h => h) (by kernel_rfl) ?_ hHeld ?_
  rotate_left 1
  · (intro w hSw; (try dsimp only at hSw); go_split_ands; go_simp; first | done | with_reducible rfl)
  simp only [Act.put, List.setIfInBounds_toArray, List.set_cons_zero, List.set_cons_succ]
  refine held_take (i := 10) (v := ?_) rfl (by kernel_rfl) (by kernel_rfl) (by kernel_rfl) (fun _ _ _ h => h) (by kernel_rfl) ?_ hHeld ?_
  rotate_left 1
  · (intro w hSw; (try dsimp only at hSw); go_split_ands; go_simp; first | done | with_reducible rfl)
  simp only [Act.put, List.setIfInBounds_toArray, List.set_cons_zero, List.set_cons_succ]
  refine held_take (i := 11) (v := ?_) rfl (by kernel_rfl) (by kernel_rfl) (by kernel_rfl) (fun _ _ _ h => h) (by kernel_rfl) ?_ hHeld ?_
  rotate_left 1
  · (intro w hSw; (try dsimp only at hSw); go_split_ands; go_simp; first | done | with_reducible rfl)
  simp only [Act.put, List.setIfInBounds_toArray, List.set_cons_zero, List.set_cons_succ]
  refine wpAnyH_done (by kernel_rfl) ?_ _
  clear hHeld
  have HO := hidden o2
  clear o2
  cases hok : readOk ss cs false bs (dataN s)
  · have HF : Hid (has6 x ms (j : Int) s = false) := by unfold Hid; rw [HD.out, hok]; simp
    go_wp2
    refine bodyPost_ret (v := .tuple #[.int .i64 0, .bool false]) (by simp [results, Try.results41, go_sem]) rfl ?_
    exact ⟨ret_word HF.out, b2'⟩
  · go_wp2_with fail
    refine (bears_lost _ _ _ _ _ _ _ _ _ _ _ _ _).mono ?_
    rintro e w3 ⟨rfl, b3⟩
    have B3 := hidden (Below.andThen b2' b3)
    have o3 := HO.out.below b3
    clear b3
    obtain ⟨hr, hln, _⟩ := ints_rd o3.rd
    cases hbu : decide (s < x.built)
    · have HF : Hid (has6 x ms (j : Int) s = false) := by unfold Hid; rw [HD.out, hbu]; rfl
      go_wp2
      refine bodyPost_ret (v := .tuple #[.int .i64 0, .bool false]) (by simp [results, Try.results41, go_sem]) rfl ?_
      exact ⟨ret_word HF.out, B3.out⟩
    · skip
      have HD2 : Hid (has6 x ms (j : Int) s = decide ((readD ss cs false bs (dataN s)).length = 1)) := by unfold Hid; rw [HD.out, hok, hbu]; simp
      generalize hps : readD ss cs false bs (dataN s) = ps at hr hln HD2 HV
      have HPS := hidden hps
      clear hps
      by_cases h1 : l = 1
      · subst h1
        have hT : has6 x ms (j : Int) s = true := by rw [HD2.out, hln]; rfl
        have hV := HV.out hT
        obtain ⟨y, rfl⟩ : ∃ y, ps = [y] := by match ps, hln with | [y], _ => exact ⟨y, rfl⟩
        rcases hr with h0' | ⟨b, off, rfl, hbl, hrr⟩
        · simp at h0'
        have hc : w3.cell? ⟨b, off, none⟩ = some (.int .i64 y) := hrr 0 (by simp)
        go_wp2
        refine bodyPost_ret (v := .tuple #[.int .i64 y, .bool true]) (by simp [results, Try.results41, go_sem]) rfl ?_
        exact ⟨by rw [hV, hT]; rfl, B3.out⟩
      · have HF : Hid (has6 x ms (j : Int) s = false) := by unfold Hid; rw [HD2.out, hln]; simpa using h1
        have hl1 : ((l : Int) == 1) = false := by simp; omega
        have hl2 : ((l : Int) != 1) = true := by simp; omega
        go_wp2
        refine bodyPost_ret (v := .tuple #[.int .i64 0, .bool false]) (by simp [results, Try.results41, go_sem]) rfl ?_
        exact ⟨ret_word HF.out, B3.out⟩

set_option linter.unusedSimpArgs false in
set_option maxRecDepth 20000 in
set_option maxHeartbeats 3200000 in
theorem wordOn_sound (w : World) (E : TypeId) (x : ArrN) (ms : List MemD) (j : Nat) (s : Int) (a0 a1 a3 : Option Addr) (c0 c1 c3 : Nat) (ss : List (List Int)) (cs : List (Int × List Int)) (bs : List Int) (h0 : tIntSS.Rd w [.slice a0 ss.length c0] ss) (h1 : (tWrS E).Rd w [.slice a1 cs.length c1] cs) (h3 : tIntS.Rd w [.slice a3 bs.length c3] bs) (hw : wtMem (ss, cs, false, bs) ≤ 2097152) (hd : has6 x ms (j : Int) s = (true && (readOk ss cs false bs (dataN s) && decide ((readD ss cs false bs (dataN s)).length = 1)))) (hv : has6 x ms (j : Int) s = true → word6 x ms (j : Int) s = (readD ss cs false bs (dataN s)).getD 0 0) :
    Calls Try.prog 41 #[.iface 88 (.agg #[.slice a0 ss.length c0, .slice a1 cs.length c1, .bool false, .slice a3 bs.length c3]), .int .i64 s] w fun e w' => e = .returned (.tuple #[.int .i64 (word6 x ms (j : Int) s), .bool (has6 x ms (j : Int) s)]) ∧ Below w.heap.size w w' := by
  have na : ∀ w, Sem.run Try.prog (nilAhead (245 + 1) 88 (.agg #[.slice a0 ss.length c0, .slice a1 cs.length c1, .bool false, .slice a3 bs.length c3]) "loop.example/g00398/impl.read") w = .ok (some false) w := fun w => by kernel_rfl
  have HD := hidden hd
  have HV := hidden hv
  clear hd hv
  go_enter Try.func41, Try.ntmps41
  go_wp2_with fail
  refine wp_region_held_drew (S := fun w' => Below w.heap.size w w') (by kernel_rfl) ?_ (fun hHeld => ?_)
  · exact (Below.refl _ _).drew
  refine held_take (i := 0) (v := ?_) rfl (by kernel_rfl) (by kernel_rfl) (by kernel_rfl) (fun _ _ _ h => h) (by kernel_rfl) ?_ hHeld ?_
  rotate_left 1
  · (intro w hSw; (try dsimp only at hSw); go_split_ands; go_simp; first | done | with_reducible rfl)
  simp only [Act.put, List.setIfInBounds_toArray, List.set_cons_zero, List.set_cons_succ]
  refine held_take (i := 1) (v := ?_) rfl (by kernel_rfl) (by kernel_rfl) (by kernel_rfl) (fun _ _ _ h => h) (by kernel_rfl) ?_ hHeld ?_
  rotate_left 1
  · (intro w hSw; (try dsimp only at hSw); go_split_ands; go_simp; first | done | with_reducible rfl)
  simp only [Act.put, List.setIfInBounds_toArray, List.set_cons_zero, List.set_cons_succ]
  refine held_take (i := 3) (v := ?_) rfl (by kernel_rfl) (by kernel_rfl) (by kernel_rfl) (fun _ _ _ h => h) (by kernel_rfl) ?_ hHeld ?_
  rotate_left 1
  · (intro w hSw; (try dsimp only at hSw); go_split_ands; go_simp; first | done | with_reducible rfl)
  simp only [Act.put, List.setIfInBounds_toArray, List.set_cons_zero, List.set_cons_succ]
  refine held_take (i := 4) (v := ?_) rfl (by kernel_rfl) (by kernel_rfl) (by kernel_rfl) (fun _ _ _ h => h) (by kernel_rfl) ?_ hHeld ?_
  rotate_left 1
  · (intro w hSw; (try dsimp only at hSw); go_split_ands; go_simp; first | done | with_reducible rfl)
  simp only [Act.put, List.setIfInBounds_toArray, List.set_cons_zero, List.set_cons_succ]
  refine held_take (i := 5) (v := ?_) rfl (by kernel_rfl) (by kernel_rfl) (by kernel_rfl) (fun _ _ _ h => h) (by kernel_rfl) ?_ hHeld ?_
  rotate_left 1
  · (intro w hSw; (try dsimp only at hSw); go_split_ands; go_simp; first | done | with_reducible rfl)
  simp only [Act.put, List.setIfInBounds_toArray, List.set_cons_zero, List.set_cons_succ]
  refine held_one (i := 2) (by kernel_rfl) rfl (by kernel_rfl) (fun K hK => ?_)
  go_simp
  refine (implDataAt_any _ _).mono ?_
  rintro e w1 ⟨rfl, h1⟩
  subst h1
  go_wp2_with fail
  clear hHeld
  refine hK.out _ _ ?_ (fun hHeld => ?_)
  · exact (Below.refl _ _).drew
  clear hK K
  refine held_one (i := 6) (by kernel_rfl) rfl (by kernel_rfl) (fun K hK => ?_)
  go_simp
  refine (read_store _ E _ _ _ _ _ _ _ _ _ ss cs false bs _ h0.drew h1.drew h3.drew hw).mono ?_
  rintro e w2 ⟨a', l, c', rfl, o2, b2⟩
  have b2' : Below w.heap.size w w2 := (Below.refl w.heap.size w).drew.trans b2
  clear b2
  go_wp2_with fail
  clear hHeld
  refine hK.out _ _ ?_ (fun hHeld => ?_)
  · exact b2'
  clear hK K
  refine held_take (i := 7) (v := ?_) rfl (by kernel_rfl) (by kernel_rfl) (by kernel_rfl) (fun _ _ _ h => h) (by kernel_rfl) ?_ hHeld ?_
  rotate_left 1
  · (intro w hSw; (try dsimp only at hSw); go_split_ands; go_simp; first | done | with_reducible rfl)
  simp only [Act.put, List.setIfInBounds_toArray, List.set_cons_zero, List.set_cons_succ]
  refine held_take (i := 8) (v := ?_) rfl (by kernel_rfl) (by kernel_rfl) (by kernel_rfl) (fun _ _ _ h => h) (by kernel_rfl) ?_ hHeld ?_
  rotate_left 1
  · (intro w hSw; (try dsimp only at hSw); go_split_ands; go_simp; first | done | with_reducible rfl)
  simp only [Act.put, List.setIfInBounds_toArray, List.set_cons_zero, List.set_cons_succ]
  refine held_take (i := 9) (v := ?_) rfl (by kernel_rfl) (by kernel_rfl) (by kernel_rfl) (fun _ _ _ h => h) (by kernel_rfl) ?_ hHeld ?_
  rotate_left 1
  · (intro w hSw; (try dsimp only at hSw); go_split_ands; go_simp; first | done | with_reducible rfl)
  simp only [Act.put, List.setIfInBounds_toArray, List.set_cons_zero, List.set_cons_succ]
  refine held_take (i := 10) (v := ?_) rfl (by kernel_rfl) (by kernel_rfl) (by kernel_rfl) (fun _ _ _ h => h) (by kernel_rfl) ?_ hHeld ?_
  rotate_left 1
  · (intro w hSw; (try dsimp only at hSw); go_split_ands; go_simp; first | done | with_reducible rfl)
  simp only [Act.put, List.setIfInBounds_toArray, List.set_cons_zero, List.set_cons_succ]
  refine held_take (i := 11) (v := ?_) rfl (by kernel_rfl) (by kernel_rfl) (by kernel_rfl) (fun _ _ _ h => h) (by kernel_rfl) ?_ hHeld ?_
  rotate_left 1
  · (intro w hSw; (try dsimp only at hSw); go_split_ands; go_simp; first | done | with_reducible rfl)
  simp only [Act.put, List.setIfInBounds_toArray, List.set_cons_zero, List.set_cons_succ]
  refine wpAnyH_done (by kernel_rfl) ?_ _
  clear hHeld
  have HO := hidden o2
  clear o2
  cases hok : readOk ss cs false bs (dataN s)
  · have HF : Hid (has6 x ms (j : Int) s = false) := by unfold Hid; rw [HD.out, hok]; simp
    go_wp2
    refine bodyPost_ret (v := .tuple #[.int .i64 0, .bool false]) (by simp [results, Try.results41, go_sem]) rfl ?_
    exact ⟨ret_word HF.out, b2'⟩
  · go_wp2_with fail
    refine (bears_sound _ _ _ _ _ _ _ _ _ _ _ _).mono ?_
    rintro e w3 ⟨rfl, b3⟩
    have B3 := hidden (Below.andThen b2' b3)
    have o3 := HO.out.below b3
    clear b3
    obtain ⟨hr, hln, _⟩ := ints_rd o3.rd
    have HD2 : Hid (has6 x ms (j : Int) s = decide ((readD ss cs false bs (dataN s)).length = 1)) := by unfold Hid; rw [HD.out, hok]; simp
    generalize hps : readD ss cs false bs (dataN s) = ps at hr hln HD2 HV
    have HPS := hidden hps
    clear hps
    by_cases h1 : l = 1
    · subst h1
      have hT : has6 x ms (j : Int) s = true := by rw [HD2.out, hln]; rfl
      have hV := HV.out hT
      obtain ⟨y, rfl⟩ : ∃ y, ps = [y] := by match ps, hln with | [y], _ => exact ⟨y, rfl⟩
      rcases hr with h0' | ⟨b, off, rfl, hbl, hrr⟩
      · simp at h0'
      have hc : w3.cell? ⟨b, off, none⟩ = some (.int .i64 y) := hrr 0 (by simp)
      go_wp2
      refine bodyPost_ret (v := .tuple #[.int .i64 y, .bool true]) (by simp [results, Try.results41, go_sem]) rfl ?_
      exact ⟨by rw [hV, hT]; rfl, B3.out⟩
    · have HF : Hid (has6 x ms (j : Int) s = false) := by unfold Hid; rw [HD2.out, hln]; simpa using h1
      have hl1 : ((l : Int) == 1) = false := by simp; omega
      have hl2 : ((l : Int) != 1) = true := by simp; omega
      go_wp2
      refine bodyPost_ret (v := .tuple #[.int .i64 0, .bool false]) (by simp [results, Try.results41, go_sem]) rfl ?_
      exact ⟨ret_word HF.out, B3.out⟩

end Go.Proofs.Ytfimpohbpccjaaa

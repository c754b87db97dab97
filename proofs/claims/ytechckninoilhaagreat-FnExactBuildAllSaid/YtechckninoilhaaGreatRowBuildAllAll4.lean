/-
 The walk of the program's buildStripe. Conditions: a stripe may be built; the array weighs at most 2097152.
-/
import Derived.Test.YtechckninoilhaaGreatRowBuildAllAll5
import Derived.Test.YtechckninoilhaaGreatRowBuildAllAll8
import Derived.Test.YtechckninoilhaaGreatHeld
import Derived.Test.YtechckninoilhaaGreatRowBuildAllAll7
import Derived.Test.YtechckninoilhaaGreatOrder
import Derived.OrdersHeld
import Derived.RegionTactic
import Derived.Test.YtechckninoilhaaGreatRowBuildAllAll11
import Derived.Test.YtechckninoilhaaGreatBox

set_option maxRecDepth 100000
set_option maxHeartbeats 8000000
set_option linter.unusedSimpArgs false

namespace Go.Proofs.YtechckninoilhaaGreat
open Go.RowKit

theorem read_store (w : World) (E : TypeId) (a0 a1 a3 : Option Addr) (n0 c0 n1 c1 n3 c3 : Nat) (ss : List (List Int)) (cs : List (Int × List Int)) (f : Bool) (bs : List Int) (n : Int) (h0 : tIntSS.Rd w [.slice a0 n0 c0] ss) (h1 : (tWrS E).Rd w [.slice a1 n1 c1] cs) (h3 : tIntS.Rd w [.slice a3 n3 c3] bs) (hw : wtMem (ss, cs, f, bs) <= 2097152) :
 Calls Tryz.prog 196 #[.agg #[.slice a0 n0 c0, .slice a1 n1 c1, .bool f, .slice a3 n3 c3], .int .i64 n] w fun e w' => ∃ a' l c', e = .returned (.tuple #[.slice a' l c', .bool (readOk ss cs f bs n)]) /\ tIntS.Own w' w.heap.size w'.heap.size [.slice a' l c'] (readD ss cs f bs n) /\ Below w.heap.size w w' := by
 have hA := new_below w (.cells #[.slice a0 n0 c0, .slice a1 n1 c1, .bool f, .slice a3 n3 c3] 163)
 have X := Box.new w 163 #[.slice a0 n0 c0, .slice a1 n1 c1, .bool f, .slice a3 n3 c3]
 have k0 := X.cell 0
 have k1 := X.cell 1
 have k2 := X.cell 2
 have k3 := X.cell 3
 have r0 := h0.below hA
 have r1 := h1.below hA
 have r3 := h3.below hA
 have zA := hA.size
 go_enter Tryz.func196, Tryz.ntmps196
 go_wp2_with fail
 refine (implReadSec_any _ E _ _ _ _ _ _ _ _ _ ss cs f bs n r0 r1 r3 hw).mono ?_
 rintro e w1 ⟨a', l, c', rfl, o1, b1⟩
 have HO := hidden (o1.widen (lo' := w.heap.size) zA (Nat.le_refl _))
 have HB := hidden (Below.andThen hA b1)
 clear o1 b1 k0 k1 k2 k3 r0 r1 r3 X
 go_wp2
 refine bodyPost_ret (v := .tuple #[.slice a' l c', .bool (readOk ss cs f bs n)]) (by simp [results, Tryz.results196, go_sem]) rfl ?_
 exact ⟨_, _, _, rfl, HO.out, HB.out⟩
theorem read_failed (w : World) (n : Int) : Calls Tryz.prog 195 #[.agg #[], .int .i64 n] w fun e w' => ∃ a' c', e = .returned (.tuple #[.slice a' 0 c', .bool false]) /\ Below w.heap.size w w' := by
 have hA := (new_below w (.cells #[] 161)).alloc (by simp) (.cells #[] 3)
 go_enter Tryz.func195, Tryz.ntmps195
 go_wp2
 refine bodyPost_ret (v := .tuple #[.slice (some ⟨w.heap.size + 1, 0, none⟩) 0 0, .bool false]) (by simp [results, Tryz.results195, go_sem]) rfl ?_
 exact ⟨_, _, rfl, hA⟩

theorem live_at6 {x : ArrN} {ms : List MemD} {j : Nat} {s : Int} {d : MemD} (h : ms[j]? = some d) : liveB x ms (j : Int) s = (!d.2.2.1 && (!decide ((j : Int) = x.lost) || decide (s < x.built))) := by
 have hj := (List.getElem?_eq_some_iff.1 h).1
 unfold liveB
 rw [show inB (j : Int) 0 ((ms.length : Int) - 1) = true from inB_iff.2 (by omega), Int.toNat_natCast, List.getD_eq_getElem?_getD, h]
 rfl
theorem memD_at6 {ms : List MemD} {j : Nat} {d : MemD} (h : ms[j]? = some d) : memD ms (j : Int) = d := by unfold memD; rw [Int.toNat_natCast, List.getD_eq_getElem?_getD, h]; rfl
theorem has_at6 {x : ArrN} {ms : List MemD} {j : Nat} {s : Int} {ss : List (List Int)} {cs : List (Int × List Int)} {f : Bool} {bs : List Int} (h : ms[j]? = some (ss, cs, f, bs)) : has6 x ms (j : Int) s = (liveB x ms (j : Int) s && (readOk ss cs f bs (dataN s) && decide ((readD ss cs f bs (dataN s)).length = 1))) /\ (has6 x ms (j : Int) s = true -> word6 x ms (j : Int) s = (readD ss cs f bs (dataN s)).getD 0 0) := by
 have hm := memD_at6 h
 have hsec : sec6 ms (j : Int) s = readD ss cs f bs (dataN s) := by unfold sec6; rw [hm]
 refine ⟨by unfold has6; rw [hsec, hm], fun h => by rw [word6_of h, hsec]⟩

theorem wordOn_failed (w : World) (x : ArrN) (ms : List MemD) (j : Nat) (s : Int) (hd : has6 x ms (j : Int) s = false) :
 Calls Tryz.prog 155 #[.iface 161 (.agg #[]), .int .i64 s] w fun e w' => e = .returned (.tuple #[.int .i64 (word6 x ms (j : Int) s), .bool (has6 x ms (j : Int) s)]) /\ Below w.heap.size w w' := by
 have na : ∀ w, Sem.run Tryz.prog (nilAhead (293 + 1) 161 (.agg #[]) "loop.example/g00398/impl.read") w = .ok (some false) w := fun w => by kernel_rfl
 have HD := hidden hd
 clear hd
 go_enter Tryz.func155, Tryz.ntmps155
 go_wp2_with fail
 refine wp_region_held_drew (S := fun w' => Below w.heap.size w w') (by kernel_rfl) ?_ (fun hHeld => ?_)
 . exact (Below.refl _ _).drew
 refine held_take (i := 0) (v := ?_) rfl (by kernel_rfl) (by kernel_rfl) (by kernel_rfl) (fun _ _ _ h => h) (by kernel_rfl) ?_ hHeld ?_
 rotate_left 1
 . (intro w hSw; (try dsimp only at hSw); go_split_ands; go_simp; first | done | with_reducible rfl)
 simp only [Act.put, List.setIfInBounds_toArray, List.set_cons_zero, List.set_cons_succ]
 refine held_take (i := 1) (v := ?_) rfl (by kernel_rfl) (by kernel_rfl) (by kernel_rfl) (fun _ _ _ h => h) (by kernel_rfl) ?_ hHeld ?_
 rotate_left 1
 . (intro w hSw; (try dsimp only at hSw); go_split_ands; go_simp; first | done | with_reducible rfl)
 simp only [Act.put, List.setIfInBounds_toArray, List.set_cons_zero, List.set_cons_succ]
 refine held_take (i := 3) (v := ?_) rfl (by kernel_rfl) (by kernel_rfl) (by kernel_rfl) (fun _ _ _ h => h) (by kernel_rfl) ?_ hHeld ?_
 rotate_left 1
 . (intro w hSw; (try dsimp only at hSw); go_split_ands; go_simp; first | done | with_reducible rfl)
 simp only [Act.put, List.setIfInBounds_toArray, List.set_cons_zero, List.set_cons_succ]
 refine held_take (i := 4) (v := ?_) rfl (by kernel_rfl) (by kernel_rfl) (by kernel_rfl) (fun _ _ _ h => h) (by kernel_rfl) ?_ hHeld ?_
 rotate_left 1
 . (intro w hSw; (try dsimp only at hSw); go_split_ands; go_simp; first | done | with_reducible rfl)
 simp only [Act.put, List.setIfInBounds_toArray, List.set_cons_zero, List.set_cons_succ]
 refine held_take (i := 5) (v := ?_) rfl (by kernel_rfl) (by kernel_rfl) (by kernel_rfl) (fun _ _ _ h => h) (by kernel_rfl) ?_ hHeld ?_
 rotate_left 1
 . (intro w hSw; (try dsimp only at hSw); go_split_ands; go_simp; first | done | with_reducible rfl)
 simp only [Act.put, List.setIfInBounds_toArray, List.set_cons_zero, List.set_cons_succ]
 refine held_one (i := 2) (by kernel_rfl) rfl (by kernel_rfl) (fun K hK => ?_)
 go_simp
 refine (implDataAt_any _ _).mono ?_
 rintro e w1 ⟨rfl, h1⟩
 subst h1
 go_wp2_with fail
 clear hHeld
 refine hK.out _ _ ?_ (fun hHeld => ?_)
 . exact (Below.refl _ _).drew
 clear hK K
 refine held_one (i := 6) (by kernel_rfl) rfl (by kernel_rfl) (fun K hK => ?_)
 go_simp
 refine (read_failed _ _).mono ?_
 rintro e w2 ⟨a', c', rfl, b2⟩
 have b2' : Below w.heap.size w w2 := (Below.refl w.heap.size w).drew.trans b2
 clear b2
 go_wp2_with fail
 clear hHeld
 refine hK.out _ _ ?_ (fun hHeld => ?_)
 . exact b2'
 clear hK K
 refine held_take (i := 7) (v := ?_) rfl (by kernel_rfl) (by kernel_rfl) (by kernel_rfl) (fun _ _ _ h => h) (by kernel_rfl) ?_ hHeld ?_
 rotate_left 1
 . (intro w hSw; (try dsimp only at hSw); go_split_ands; go_simp; first | done | with_reducible rfl)
 simp only [Act.put, List.setIfInBounds_toArray, List.set_cons_zero, List.set_cons_succ]
 refine held_take (i := 8) (v := ?_) rfl (by kernel_rfl) (by kernel_rfl) (by kernel_rfl) (fun _ _ _ h => h) (by kernel_rfl) ?_ hHeld ?_
 rotate_left 1
 . (intro w hSw; (try dsimp only at hSw); go_split_ands; go_simp; first | done | with_reducible rfl)
 simp only [Act.put, List.setIfInBounds_toArray, List.set_cons_zero, List.set_cons_succ]
 refine held_take (i := 9) (v := ?_) rfl (by kernel_rfl) (by kernel_rfl) (by kernel_rfl) (fun _ _ _ h => h) (by kernel_rfl) ?_ hHeld ?_
 rotate_left 1
 . (intro w hSw; (try dsimp only at hSw); go_split_ands; go_simp; first | done | with_reducible rfl)
 simp only [Act.put, List.setIfInBounds_toArray, List.set_cons_zero, List.set_cons_succ]
 refine held_take (i := 10) (v := ?_) rfl (by kernel_rfl) (by kernel_rfl) (by kernel_rfl) (fun _ _ _ h => h) (by kernel_rfl) ?_ hHeld ?_
 rotate_left 1
 . (intro w hSw; (try dsimp only at hSw); go_split_ands; go_simp; first | done | with_reducible rfl)
 simp only [Act.put, List.setIfInBounds_toArray, List.set_cons_zero, List.set_cons_succ]
 refine held_take (i := 11) (v := ?_) rfl (by kernel_rfl) (by kernel_rfl) (by kernel_rfl) (fun _ _ _ h => h) (by kernel_rfl) ?_ hHeld ?_
 rotate_left 1
 . (intro w hSw; (try dsimp only at hSw); go_split_ands; go_simp; first | done | with_reducible rfl)
 simp only [Act.put, List.setIfInBounds_toArray, List.set_cons_zero, List.set_cons_succ]
 refine wpAnyH_done (by kernel_rfl) ?_ _
 clear hHeld
 have HB := hidden b2'
 go_wp2
 refine bodyPost_ret (v := .tuple #[.int .i64 0, .bool false]) (by simp [results, Tryz.results155, go_sem]) rfl ?_
 exact ⟨ret_word HD.out, HB.out⟩

theorem wordOn_lost (w : World) (E : TypeId) (x : ArrN) (ms : List MemD) (j : Nat) (s : Int) (a0 a1 a3 : Option Addr) (c0 c1 c3 : Nat) (ss : List (List Int)) (cs : List (Int × List Int)) (bs : List Int) (h0 : tIntSS.Rd w [.slice a0 ss.length c0] ss) (h1 : (tWrS E).Rd w [.slice a1 cs.length c1] cs) (h3 : tIntS.Rd w [.slice a3 bs.length c3] bs) (hw : wtMem (ss, cs, false, bs) <= 2097152) (hd : has6 x ms (j : Int) s = (decide (s < x.built) && (readOk ss cs false bs (dataN s) && decide ((readD ss cs false bs (dataN s)).length = 1)))) (hv : has6 x ms (j : Int) s = true -> word6 x ms (j : Int) s = (readD ss cs false bs (dataN s)).getD 0 0) :
 Calls Tryz.prog 155 #[.iface 165 (.agg #[.slice a0 ss.length c0, .slice a1 cs.length c1, .bool false, .slice a3 bs.length c3, .int .i64 x.built]), .int .i64 s] w fun e w' => e = .returned (.tuple #[.int .i64 (word6 x ms (j : Int) s), .bool (has6 x ms (j : Int) s)]) /\ Below w.heap.size w w' := by
 have na : ∀ w, Sem.run Tryz.prog (nilAhead (293 + 1) 165 (.agg #[.slice a0 ss.length c0, .slice a1 cs.length c1, .bool false, .slice a3 bs.length c3, .int .i64 x.built]) "loop.example/g00398/impl.read") w = .ok (some false) w := fun w => by kernel_rfl
 have HD := hidden hd
 have HV := hidden hv
 clear hd hv
 go_enter Tryz.func155, Tryz.ntmps155
 go_wp2_with fail
 refine wp_region_held_drew (S := fun w' => Below w.heap.size w w') (by kernel_rfl) ?_ (fun hHeld => ?_)
 . exact (Below.refl _ _).drew
 refine held_take (i := 0) (v := ?_) rfl (by kernel_rfl) (by kernel_rfl) (by kernel_rfl) (fun _ _ _ h => h) (by kernel_rfl) ?_ hHeld ?_
 rotate_left 1
 . (intro w hSw; (try dsimp only at hSw); go_split_ands; go_simp; first | done | with_reducible rfl)
 simp only [Act.put, List.setIfInBounds_toArray, List.set_cons_zero, List.set_cons_succ]
 refine held_take (i := 1) (v := ?_) rfl (by kernel_rfl) (by kernel_rfl) (by kernel_rfl) (fun _ _ _ h => h) (by kernel_rfl) ?_ hHeld ?_
 rotate_left 1
 . (intro w hSw; (try dsimp only at hSw); go_split_ands; go_simp; first | done | with_reducible rfl)
 simp only [Act.put, List.setIfInBounds_toArray, List.set_cons_zero, List.set_cons_succ]
 refine held_take (i := 3) (v := ?_) rfl (by kernel_rfl) (by kernel_rfl) (by kernel_rfl) (fun _ _ _ h => h) (by kernel_rfl) ?_ hHeld ?_
 rotate_left 1
 . (intro w hSw; (try dsimp only at hSw); go_split_ands; go_simp; first | done | with_reducible rfl)
 simp only [Act.put, List.setIfInBounds_toArray, List.set_cons_zero, List.set_cons_succ]
 refine held_take (i := 4) (v := ?_) rfl (by kernel_rfl) (by kernel_rfl) (by kernel_rfl) (fun _ _ _ h => h) (by kernel_rfl) ?_ hHeld ?_
 rotate_left 1
 . (intro w hSw; (try dsimp only at hSw); go_split_ands; go_simp; first | done | with_reducible rfl)
 simp only [Act.put, List.setIfInBounds_toArray, List.set_cons_zero, List.set_cons_succ]
 refine held_take (i := 5) (v := ?_) rfl (by kernel_rfl) (by kernel_rfl) (by kernel_rfl) (fun _ _ _ h => h) (by kernel_rfl) ?_ hHeld ?_
 rotate_left 1
 . (intro w hSw; (try dsimp only at hSw); go_split_ands; go_simp; first | done | with_reducible rfl)
 simp only [Act.put, List.setIfInBounds_toArray, List.set_cons_zero, List.set_cons_succ]
 refine held_one (i := 2) (by kernel_rfl) rfl (by kernel_rfl) (fun K hK => ?_)
 go_simp
 refine (implDataAt_any _ _).mono ?_
 rintro e w1 ⟨rfl, h1⟩
 subst h1
 go_wp2_with fail
 clear hHeld
 refine hK.out _ _ ?_ (fun hHeld => ?_)
 . exact (Below.refl _ _).drew
 clear hK K
 refine held_one (i := 6) (by kernel_rfl) rfl (by kernel_rfl) (fun K hK => ?_)
 go_simp
 refine (read_store _ E _ _ _ _ _ _ _ _ _ ss cs false bs _ h0.drew h1.drew h3.drew hw).mono ?_
 rintro e w2 ⟨a', l, c', rfl, o2, b2⟩
 have b2' : Below w.heap.size w w2 := (Below.refl w.heap.size w).drew.trans b2
 clear b2
 go_wp2_with fail
 clear hHeld
 refine hK.out _ _ ?_ (fun hHeld => ?_)
 . exact b2'
 clear hK K
 refine held_take (i := 7) (v := ?_) rfl (by kernel_rfl) (by kernel_rfl) (by kernel_rfl) (fun _ _ _ h => h) (by kernel_rfl) ?_ hHeld ?_
 rotate_left 1
 . (intro w hSw; (try dsimp only at hSw); go_split_ands; go_simp; first | done | with_reducible rfl)
 simp only [Act.put, List.setIfInBounds_toArray, List.set_cons_zero, List.set_cons_succ]
 refine held_take (i := 8) (v := ?_) rfl (by kernel_rfl) (by kernel_rfl) (by kernel_rfl) (fun _ _ _ h => h) (by kernel_rfl) ?_ hHeld ?_
 rotate_left 1
 . (intro w hSw; (try dsimp only at hSw); go_split_ands; go_simp; first | done | with_reducible rfl)
 simp only [Act.put, List.setIfInBounds_toArray, List.set_cons_zero, List.set_cons_succ]
 refine held_take (i := 9) (v := ?_) rfl (by kernel_rfl) (by kernel_rfl) (by kernel_rfl) (fun _ _ _ h => h) (by kernel_rfl) ?_ hHeld ?_
 rotate_left 1
 . (intro w hSw; (try dsimp only at hSw); go_split_ands; go_simp; first | done | with_reducible rfl)
 simp only [Act.put, List.setIfInBounds_toArray, List.set_cons_zero, List.set_cons_succ]
 refine held_take (i := 10) (v := ?_) rfl (by kernel_rfl) (by kernel_rfl) (by kernel_rfl) (fun _ _ _ h => h) (by kernel_rfl) ?_ hHeld ?_
 rotate_left 1
 . (intro w hSw; (try dsimp only at hSw); go_split_ands; go_simp; first | done | with_reducible rfl)
 simp only [Act.put, List.setIfInBounds_toArray, List.set_cons_zero, List.set_cons_succ]
 refine held_take (i := 11) (v := ?_) rfl (by kernel_rfl) (by kernel_rfl) (by kernel_rfl) (fun _ _ _ h => h) (by kernel_rfl) ?_ hHeld ?_
 rotate_left 1
 . (intro w hSw; (try dsimp only at hSw); go_split_ands; go_simp; first | done | with_reducible rfl)
 simp only [Act.put, List.setIfInBounds_toArray, List.set_cons_zero, List.set_cons_succ]
 refine wpAnyH_done (by kernel_rfl) ?_ _
 clear hHeld
 have HO := hidden o2
 clear o2
 cases hok : readOk ss cs false bs (dataN s)
 . have HF : Hid (has6 x ms (j : Int) s = false) := by unfold Hid; rw [HD.out, hok]; simp
   go_wp2
   refine bodyPost_ret (v := .tuple #[.int .i64 0, .bool false]) (by simp [results, Tryz.results155, go_sem]) rfl ?_
   exact ⟨ret_word HF.out, b2'⟩
 go_wp2_with fail
 refine (bears_lost _ _ _ _ _ _ _ _ _ _ _ _ _).mono ?_
 rintro e w3 ⟨rfl, b3⟩
 have B3 := hidden (Below.andThen b2' b3)
 have o3 := HO.out.below b3
 clear b3
 obtain ⟨hr, hln, _⟩ := ints_rd o3.rd
 cases hbu : decide (s < x.built)
 . have HF : Hid (has6 x ms (j : Int) s = false) := by unfold Hid; rw [HD.out, hbu]; rfl
   go_wp2
   refine bodyPost_ret (v := .tuple #[.int .i64 0, .bool false]) (by simp [results, Tryz.results155, go_sem]) rfl ?_
   exact ⟨ret_word HF.out, B3.out⟩
 skip
 have HD2 : Hid (has6 x ms (j : Int) s = decide ((readD ss cs false bs (dataN s)).length = 1)) := by unfold Hid; rw [HD.out, hok, hbu]; simp
 generalize hps : readD ss cs false bs (dataN s) = ps at hr hln HD2 HV
 have HPS := hidden hps
 clear hps
 by_cases h1 : l = 1
 . subst h1
   have hT : has6 x ms (j : Int) s = true := by rw [HD2.out, hln]; rfl
   have hV := HV.out hT
   obtain ⟨y, rfl⟩ : ∃ y, ps = [y] := by match ps, hln with | [y], _ => exact ⟨y, rfl⟩
   rcases hr with h0' | ⟨b, off, rfl, hbl, hrr⟩
   . simp at h0'
   have hc : w3.cell? ⟨b, off, none⟩ = some (.int .i64 y) := hrr 0 (by simp)
   go_wp2
   refine bodyPost_ret (v := .tuple #[.int .i64 y, .bool true]) (by simp [results, Tryz.results155, go_sem]) rfl ?_
   exact ⟨by rw [hV, hT]; rfl, B3.out⟩
 have HF : Hid (has6 x ms (j : Int) s = false) := by unfold Hid; rw [HD2.out, hln]; simpa using h1
 have hl1 : ((l : Int) == 1) = false := by simp; omega
 have hl2 : ((l : Int) != 1) = true := by simp; omega
 go_wp2
 refine bodyPost_ret (v := .tuple #[.int .i64 0, .bool false]) (by simp [results, Tryz.results155, go_sem]) rfl ?_
 exact ⟨ret_word HF.out, B3.out⟩

theorem wordOn_sound (w : World) (E : TypeId) (x : ArrN) (ms : List MemD) (j : Nat) (s : Int) (a0 a1 a3 : Option Addr) (c0 c1 c3 : Nat) (ss : List (List Int)) (cs : List (Int × List Int)) (bs : List Int) (h0 : tIntSS.Rd w [.slice a0 ss.length c0] ss) (h1 : (tWrS E).Rd w [.slice a1 cs.length c1] cs) (h3 : tIntS.Rd w [.slice a3 bs.length c3] bs) (hw : wtMem (ss, cs, false, bs) <= 2097152) (hd : has6 x ms (j : Int) s = (true && (readOk ss cs false bs (dataN s) && decide ((readD ss cs false bs (dataN s)).length = 1)))) (hv : has6 x ms (j : Int) s = true -> word6 x ms (j : Int) s = (readD ss cs false bs (dataN s)).getD 0 0) :
 Calls Tryz.prog 155 #[.iface 167 (.agg #[.slice a0 ss.length c0, .slice a1 cs.length c1, .bool false, .slice a3 bs.length c3]), .int .i64 s] w fun e w' => e = .returned (.tuple #[.int .i64 (word6 x ms (j : Int) s), .bool (has6 x ms (j : Int) s)]) /\ Below w.heap.size w w' := by
 have na : ∀ w, Sem.run Tryz.prog (nilAhead (293 + 1) 167 (.agg #[.slice a0 ss.length c0, .slice a1 cs.length c1, .bool false, .slice a3 bs.length c3]) "loop.example/g00398/impl.read") w = .ok (some false) w := fun w => by kernel_rfl
 have HD := hidden hd
 have HV := hidden hv
 clear hd hv
 go_enter Tryz.func155, Tryz.ntmps155
 go_wp2_with fail
 refine wp_region_held_drew (S := fun w' => Below w.heap.size w w') (by kernel_rfl) ?_ (fun hHeld => ?_)
 . exact (Below.refl _ _).drew
 refine held_take (i := 0) (v := ?_) rfl (by kernel_rfl) (by kernel_rfl) (by kernel_rfl) (fun _ _ _ h => h) (by kernel_rfl) ?_ hHeld ?_
 rotate_left 1
 . (intro w hSw; (try dsimp only at hSw); go_split_ands; go_simp; first | done | with_reducible rfl)
 simp only [Act.put, List.setIfInBounds_toArray, List.set_cons_zero, List.set_cons_succ]
 refine held_take (i := 1) (v := ?_) rfl (by kernel_rfl) (by kernel_rfl) (by kernel_rfl) (fun _ _ _ h => h) (by kernel_rfl) ?_ hHeld ?_
 rotate_left 1
 . (intro w hSw; (try dsimp only at hSw); go_split_ands; go_simp; first | done | with_reducible rfl)
 simp only [Act.put, List.setIfInBounds_toArray, List.set_cons_zero, List.set_cons_succ]
 refine held_take (i := 3) (v := ?_) rfl (by kernel_rfl) (by kernel_rfl) (by kernel_rfl) (fun _ _ _ h => h) (by kernel_rfl) ?_ hHeld ?_
 rotate_left 1
 . (intro w hSw; (try dsimp only at hSw); go_split_ands; go_simp; first | done | with_reducible rfl)
 simp only [Act.put, List.setIfInBounds_toArray, List.set_cons_zero, List.set_cons_succ]
 refine held_take (i := 4) (v := ?_) rfl (by kernel_rfl) (by kernel_rfl) (by kernel_rfl) (fun _ _ _ h => h) (by kernel_rfl) ?_ hHeld ?_
 rotate_left 1
 . (intro w hSw; (try dsimp only at hSw); go_split_ands; go_simp; first | done | with_reducible rfl)
 simp only [Act.put, List.setIfInBounds_toArray, List.set_cons_zero, List.set_cons_succ]
 refine held_take (i := 5) (v := ?_) rfl (by kernel_rfl) (by kernel_rfl) (by kernel_rfl) (fun _ _ _ h => h) (by kernel_rfl) ?_ hHeld ?_
 rotate_left 1
 . (intro w hSw; (try dsimp only at hSw); go_split_ands; go_simp; first | done | with_reducible rfl)
 simp only [Act.put, List.setIfInBounds_toArray, List.set_cons_zero, List.set_cons_succ]
 refine held_one (i := 2) (by kernel_rfl) rfl (by kernel_rfl) (fun K hK => ?_)
 go_simp
 refine (implDataAt_any _ _).mono ?_
 rintro e w1 ⟨rfl, h1⟩
 subst h1
 go_wp2_with fail
 clear hHeld
 refine hK.out _ _ ?_ (fun hHeld => ?_)
 . exact (Below.refl _ _).drew
 clear hK K
 refine held_one (i := 6) (by kernel_rfl) rfl (by kernel_rfl) (fun K hK => ?_)
 go_simp
 refine (read_store _ E _ _ _ _ _ _ _ _ _ ss cs false bs _ h0.drew h1.drew h3.drew hw).mono ?_
 rintro e w2 ⟨a', l, c', rfl, o2, b2⟩
 have b2' : Below w.heap.size w w2 := (Below.refl w.heap.size w).drew.trans b2
 clear b2
 go_wp2_with fail
 clear hHeld
 refine hK.out _ _ ?_ (fun hHeld => ?_)
 . exact b2'
 clear hK K
 refine held_take (i := 7) (v := ?_) rfl (by kernel_rfl) (by kernel_rfl) (by kernel_rfl) (fun _ _ _ h => h) (by kernel_rfl) ?_ hHeld ?_
 rotate_left 1
 . (intro w hSw; (try dsimp only at hSw); go_split_ands; go_simp; first | done | with_reducible rfl)
 simp only [Act.put, List.setIfInBounds_toArray, List.set_cons_zero, List.set_cons_succ]
 refine held_take (i := 8) (v := ?_) rfl (by kernel_rfl) (by kernel_rfl) (by kernel_rfl) (fun _ _ _ h => h) (by kernel_rfl) ?_ hHeld ?_
 rotate_left 1
 . (intro w hSw; (try dsimp only at hSw); go_split_ands; go_simp; first | done | with_reducible rfl)
 simp only [Act.put, List.setIfInBounds_toArray, List.set_cons_zero, List.set_cons_succ]
 refine held_take (i := 9) (v := ?_) rfl (by kernel_rfl) (by kernel_rfl) (by kernel_rfl) (fun _ _ _ h => h) (by kernel_rfl) ?_ hHeld ?_
 rotate_left 1
 . (intro w hSw; (try dsimp only at hSw); go_split_ands; go_simp; first | done | with_reducible rfl)
 simp only [Act.put, List.setIfInBounds_toArray, List.set_cons_zero, List.set_cons_succ]
 refine held_take (i := 10) (v := ?_) rfl (by kernel_rfl) (by kernel_rfl) (by kernel_rfl) (fun _ _ _ h => h) (by kernel_rfl) ?_ hHeld ?_
 rotate_left 1
 . (intro w hSw; (try dsimp only at hSw); go_split_ands; go_simp; first | done | with_reducible rfl)
 simp only [Act.put, List.setIfInBounds_toArray, List.set_cons_zero, List.set_cons_succ]
 refine held_take (i := 11) (v := ?_) rfl (by kernel_rfl) (by kernel_rfl) (by kernel_rfl) (fun _ _ _ h => h) (by kernel_rfl) ?_ hHeld ?_
 rotate_left 1
 . (intro w hSw; (try dsimp only at hSw); go_split_ands; go_simp; first | done | with_reducible rfl)
 simp only [Act.put, List.setIfInBounds_toArray, List.set_cons_zero, List.set_cons_succ]
 refine wpAnyH_done (by kernel_rfl) ?_ _
 clear hHeld
 have HO := hidden o2
 clear o2
 cases hok : readOk ss cs false bs (dataN s)
 . have HF : Hid (has6 x ms (j : Int) s = false) := by unfold Hid; rw [HD.out, hok]; simp
   go_wp2
   refine bodyPost_ret (v := .tuple #[.int .i64 0, .bool false]) (by simp [results, Tryz.results155, go_sem]) rfl ?_
   exact ⟨ret_word HF.out, b2'⟩
 go_wp2_with fail
 refine (bears_sound _ _ _ _ _ _ _ _ _ _ _ _).mono ?_
 rintro e w3 ⟨rfl, b3⟩
 have B3 := hidden (Below.andThen b2' b3)
 have o3 := HO.out.below b3
 clear b3
 obtain ⟨hr, hln, _⟩ := ints_rd o3.rd
 have HD2 : Hid (has6 x ms (j : Int) s = decide ((readD ss cs false bs (dataN s)).length = 1)) := by unfold Hid; rw [HD.out, hok]; simp
 generalize hps : readD ss cs false bs (dataN s) = ps at hr hln HD2 HV
 have HPS := hidden hps
 clear hps
 by_cases h1 : l = 1
 . subst h1
   have hT : has6 x ms (j : Int) s = true := by rw [HD2.out, hln]; rfl
   have hV := HV.out hT
   obtain ⟨y, rfl⟩ : ∃ y, ps = [y] := by match ps, hln with | [y], _ => exact ⟨y, rfl⟩
   rcases hr with h0' | ⟨b, off, rfl, hbl, hrr⟩
   . simp at h0'
   have hc : w3.cell? ⟨b, off, none⟩ = some (.int .i64 y) := hrr 0 (by simp)
   go_wp2
   refine bodyPost_ret (v := .tuple #[.int .i64 y, .bool true]) (by simp [results, Tryz.results155, go_sem]) rfl ?_
   exact ⟨by rw [hV, hT]; rfl, B3.out⟩
 have HF : Hid (has6 x ms (j : Int) s = false) := by unfold Hid; rw [HD2.out, hln]; simpa using h1
 have hl1 : ((l : Int) == 1) = false := by simp; omega
 have hl2 : ((l : Int) != 1) = true := by simp; omega
 go_wp2
 refine bodyPost_ret (v := .tuple #[.int .i64 0, .bool false]) (by simp [results, Tryz.results155, go_sem]) rfl ?_
 exact ⟨ret_word HF.out, B3.out⟩

theorem wordOn_any (w : World) (E : TypeId) (x : ArrN) (ms : List MemD) (j : Nat) (v : Value) (s : Int) (hd : DiskV w E x ms j v) (hw : wtMemS ms <= 2097152) :
 Calls Tryz.prog 155 #[v, .int .i64 s] w fun e w' => e = .returned (.tuple #[.int .i64 (word6 x ms (j : Int) s), .bool (has6 x ms (j : Int) s)]) /\ Below w.heap.size w w' := by
 obtain ⟨a0, a1, a3, c0, c1, c3, ss, cs, f, bs, hj, r0, r1, r3, h⟩ := hd
 have hwm := Nat.le_trans (inner_leM hj) hw
 obtain ⟨hh, hv⟩ := has_at6 (x := x) (s := s) hj
 have hl := live_at6 (x := x) (s := s) hj
 rcases h with ⟨rfl, rfl⟩ | ⟨rfl, hx, rfl⟩ | ⟨rfl, hx, rfl⟩
 . exact wordOn_failed w x ms j s (by rw [hh, hl]; rfl)
 . exact wordOn_lost w E x ms j s a0 a1 a3 c0 c1 c3 ss cs bs r0 r1 r3 hwm (by rw [hh, hl]; simp [hx]) hv
 exact wordOn_sound w E x ms j s a0 a1 a3 c0 c1 c3 ss cs bs r0 r1 r3 hwm (by rw [hh, hl]; simp [hx]) hv

theorem fill6 (x : ArrN) (ms : List MemD) (s : Int) (n j : Nat) (h : j < n) : (wordL x ms s j ++ List.replicate (n - j) (0 : Int)).set j (word6 x ms (j : Int) s) = wordL x ms s (j + 1) ++ List.replicate (n - (j + 1)) (0 : Int) := by
 have e : n - j = (n - (j + 1)) + 1 := by omega
 rw [List.set_append, if_neg (by rw [wordL_len]; omega), wordL_len, Nat.sub_self, e, List.replicate_succ, List.set_cons_zero, wordL_succ, List.append_assoc]
 rfl

theorem implWords_any (w : World) (E F G : TypeId) (x : ArrN) (am ad : Option Addr) (nm cm nd cd : Nat) (ms : List MemD) (ds : List (Int × List Int)) (s : Int) (h0 : (tMemS E F).Rd w [.slice am nm cm] ms) (h1 : (tWrS G).Rd w [.slice ad nd cd] ds) (hw : wtArr ms ds <= 2097152) :
 Calls Tryz.prog 131 #[.agg #[.int .i64 x.id, .int .i64 x.n, .int .i64 x.s, .slice am nm cm, .int .i64 x.lost, .int .i64 x.built, .int .i64 x.seq, .int .i64 x.tail, .int .i64 x.gen, .slice ad nd cd, .int .i64 x.fuse, .bool x.down, .bool x.broken], .int .i64 s] w fun e w' => ∃ a' l' c', e = .returned (.tuple #[.slice a' l' c', .bool (wordsOk6 x ms ds s)]) /\ tIntS.Own w' w.heap.size w'.heap.size [.slice a' l' c'] (wordsL6 x ms ds s) /\ Below w.heap.size w w' := by
 have hwm : wtMemS ms <= 2097152 := by unfold wtArr at hw; omega
 obtain ⟨hl, hc, hm⟩ := row_length h0
 obtain ⟨i0, hi, hz0, hz1, hz2⟩ := info_parts Tryz.info3
 have hA := new_below w (.cells #[.int .i64 x.id, .int .i64 x.n, .int .i64 x.s, .slice am nm cm, .int .i64 x.lost, .int .i64 x.built, .int .i64 x.seq, .int .i64 x.tail, .int .i64 x.gen, .slice ad nd cd, .int .i64 x.fuse, .bool x.down, .bool x.broken] 33)
 have X := Box.new w 33 #[.int .i64 x.id, .int .i64 x.n, .int .i64 x.s, .slice am nm cm, .int .i64 x.lost, .int .i64 x.built, .int .i64 x.seq, .int .i64 x.tail, .int .i64 x.gen, .slice ad nd cd, .int .i64 x.fuse, .bool x.down, .bool x.broken]
 obtain ⟨k0, k1, k2, k3, k4, k5, k6, k7, k8, k9, k10, k11, k12⟩ := X.cells13
 have zA := X.lt
 have r0 := h0.below hA
 have r1 := h1.below hA
 go_enter Tryz.func131, Tryz.ntmps131
 go_wp2_with fail
 generalize w.alloc (.cells #[.int .i64 x.id, .int .i64 x.n, .int .i64 x.s, .slice am nm cm, .int .i64 x.lost, .int .i64 x.built, .int .i64 x.seq, .int .i64 x.tail, .int .i64 x.gen, .slice ad nd cd, .int .i64 x.fuse, .bool x.down, .bool x.broken] 33) = W at hA X zA r0 r1 k0 k1 k2 k3 k4 k5 k6 k7 k8 k9 k10 k11 k12 ⊢
 refine (implArrOk_any _ E F G x _ _ _ _ _ _ ms ds r0 r1 hw).mono ?_
 rintro e w1 ⟨rfl, b1⟩
 have X1 := X.below b1 zA
 have B1 := Below.andThen hA b1
 have q1 := r0.below b1
 clear k0 k1 k2 k3 k4 k5 k6 k7 k8 k9 k10 k11 k12 X b1 hA zA r0 r1
 obtain ⟨k0, k1, k2, k3, k4, k5, k6, k7, k8, k9, k10, k11, k12⟩ := X1.cells13
 cases ha : arrB x ms ds
 . skip
   have HF : Hid (wordsOk6 x ms ds s = false /\ wordsL6 x ms ds s = []) := by unfold Hid wordsOk6 wordsL6 okB6; simp [ha]
   have FO := hidden ((own_ints (Owns.lit .i64 3 w1 [] 0 #[] rfl rfl (by unfold maxLen; omega))).widen (lo' := w.heap.size) B1.size (Nat.le_refl _))
   have FB := hidden (B1.alloc B1.size (.cells #[] 3))
   go_wp2
   refine bodyPost_ret (v := .tuple #[.slice (some ⟨w1.heap.size, 0, none⟩) 0 0, .bool false]) (by simp [results, Tryz.results131, go_sem]) rfl ?_
   exact ⟨_, _, _, by rw [HF.out.1], by rw [HF.out.2]; exact FO.out, FB.out⟩
 have hg : geoB x.n x.s = true := by unfold arrB at ha; simp only [Bool.and_eq_true] at ha; exact ha.1
 have hmn : (ms.length : Int) = x.n := by unfold arrB memsB at ha; simp only [Bool.and_eq_true, decide_eq_true_eq] at ha; exact ha.2.2.1.2
 have HMN := hidden hmn
 clear hmn
 obtain ⟨g1, g2, g3, g4⟩ := geoB_iff.1 hg
 cases hbr : x.broken
 . rw [hbr] at k12
   go_wp2_with fail
   refine (hasStripe_any _ x.n x.s s).mono ?_
   rintro e w2 ⟨rfl, b2⟩
   have X2 := X1.below b2 X1.lt
   have B2 := Below.andThen B1 b2
   have q2 := q1.below b2
   clear k0 k1 k2 k3 k4 k5 k6 k7 k8 k9 k10 k11 k12 X1 b2 B1 q1
   have hst := stripe_in6 (x := x) (y := s) hg
   cases hin : stripeB x.n x.s s
   . skip
     have HF : Hid (wordsOk6 x ms ds s = false /\ wordsL6 x ms ds s = []) := by unfold Hid wordsOk6 wordsL6 okB6; rw [← hst, hin]; simp
     have FO := hidden ((own_ints (Owns.lit .i64 3 w2 [] 0 #[] rfl rfl (by unfold maxLen; omega))).widen (lo' := w.heap.size) B2.size (Nat.le_refl _))
     have FB := hidden (B2.alloc B2.size (.cells #[] 3))
     go_wp2
     refine bodyPost_ret (v := .tuple #[.slice (some ⟨w2.heap.size, 0, none⟩) 0 0, .bool false]) (by simp [results, Tryz.results131, go_sem]) rfl ?_
     exact ⟨_, _, _, by rw [HF.out.1], by rw [HF.out.2]; exact FO.out, FB.out⟩
   have HF : Hid (wordsOk6 x ms ds s = wordsB x ms s /\ wordsL6 x ms ds s = words6 x ms s) := by unfold Hid wordsOk6 wordsL6 okB6; rw [ha, hbr, ← hst, hin]; exact ⟨rfl, rfl⟩
   clear hst hbr ha hin
   obtain ⟨n, hn⟩ : ∃ n : Nat, x.n = (n : Int) := ⟨x.n.toNat, by omega⟩
   have HN := hidden hn
   have HNT : Hid (x.n.toNat = n) := by unfold Hid; omega
   have hn5 : n <= 5 := by omega
   have hn3 : 3 <= n := by omega
   have hnm : n = nm := by have := HMN.out; omega
   have HNM := hidden hnm
   clear hnm
   obtain ⟨k0, k1, k2, k3, k4, k5, k6, k7, k8, k9, k10, k11, k12⟩ := X2.cells13
   rw [hn] at k1
   clear hn k0 k2 k3 k4 k5 k6 k7 k8 k9 k10 k11 k12
   have hb3 : i0.bytes * n <= 281474976710656 := by rw [hz2]; omega
   have hm3 : n <= maxLen := by unfold maxLen; omega
   go_wp2_with (at_make; refine wpList_make_full _ rfl _ _ 49 rfl w2.heap.size 3 i0 (.int .i64 0) 1 Tryz.underlying49 hi hz0 hz1 _ _ _ _ n rfl rfl rfl rfl hb3 hm3 (Nat.le_refl _) ?_; intro w3 hown hgrow)
   have hO : Owns .i64 3 w3 w2.heap.size (.slice (some ⟨w2.heap.size, 0, none⟩) n n) (List.replicate n 0) := by
    rw [made_ints] at hown
    unfold Owns
    rw [List.length_replicate]
    exact hown
   have hO1 := hO.own
   have hB1 : Below w2.heap.size w2 w3 := (Below.refl _ _).grown hgrow (Nat.le_refl _) (by simp)
   have zw : w2.heap.size < w3.heap.size := hO1.2 _ rfl
   generalize w3.heap.size = hi1 at hO1 zw
   clear hown hgrow hO k1
   go_loopw [7, 32] (fun lo i wr => ∃ j : Nat, j <= n /\ i = .int .i64 j /\ lo = .int .i64 (lostN (missL x ms s j)) /\ (missL x ms s j).length <= 1 /\ Own .i64 3 wr w2.heap.size hi1 (.slice (some ⟨w2.heap.size, 0, none⟩) n n) (wordL x ms s j ++ List.replicate (n - j) 0) /\ Below w2.heap.size w2 wr) (fun _ i _ => n - (intOf i).toNat)
   case atStart => exact ⟨0, Nat.zero_le _, rfl, rfl, Nat.zero_le _, by simpa [wordL] using hO1, hB1⟩
   clear hO1 hB1
   obtain ⟨j, hj, rfl, rfl, hm1, ho, hb⟩ := hrel
   have Xr := X2.below hb X2.lt
   have zs := hb.size
   by_cases hlt : j < n
   . obtain ⟨k0, k1, k2, k3, k4, k5, k6, k7, k8, k9, k10, k11, k12⟩ := Xr.cells13
     have hlt' : (j : Int) < (n : Int) := by omega
     go_wp2_with fail
     refine (diskAt_any _ E F x _ _ _ _ _ _ ms j (q2.below hb) hwm (by have := HNM.out; omega)).mono ?_
     rintro e w5 ⟨v, rfl, hd, b5⟩
     have o5 := ho.below b5
     have B5 := hb.trans (b5.mono zs)
     clear k0 k1 k2 k3 k4 k5 k6 k7 k8 k9 k10 k11 k12 Xr b5 ho hb
     go_wp2_with fail
     refine (wordOn_any _ E x ms j v s hd hwm).mono ?_
     rintro e w6 ⟨rfl, b6⟩
     have o6 := o5.below b6
     have B6 := B5.trans (b6.mono B5.size)
     clear b6 o5 B5 hd
     have hfs := fill6 x ms s n j hlt
     obtain ⟨hcy, hfy, hst, hbt⟩ := o6.store j hlt (word6 x ms (j : Int) s)
     rw [hfs] at hst
     have HST := hidden hst
     have HB : Hid (Below w2.heap.size w2 (w6.setCell ⟨w2.heap.size, j, none⟩ (.int .i64 (word6 x ms (j : Int) s)))) := B6.setCell (Nat.le_refl _) _
     have hj0 : (0 : Int) <= (j : Int) := Int.natCast_nonneg _
     clear hst hbt hfs
     generalize (wordL x ms s j ++ List.replicate (n - j) 0).getD j 0 = old at hcy
     cases hh : has6 x ms (j : Int) s
     . have hmn := missL_no hh
       rcases list_cases hm1 with h00 | ⟨p, hp⟩
       . have hl0 : lostN (missL x ms s j) = -1 := by rw [h00]; rfl
         have hl1 : lostN (missL x ms s (j + 1)) = (j : Int) := by rw [hmn, h00]; rfl
         have hc1 : (missL x ms s (j + 1)).length <= 1 := by rw [hmn, h00]; exact Nat.le_refl _
         have HL1 := hidden hl1
         have HC1 := hidden hc1
         rw [hl0]
         clear hmn h00 hl0 hl1 hc1 B6 o6
         generalize word6 x ms (j : Int) s = y at HST HB ⊢
         go_wp2
         go_roundw
         case rel => exact ⟨j + 1, by omega, by go_num, by rw [HL1.out], HC1.out, HST.out, HB.out⟩
         case measure => simp [intOf]; omega
       have hl0 : lostN (missL x ms s j) = (p : Int) := by rw [hp]; rfl
       obtain ⟨t1, t2⟩ := words_two (x := x) (ms := ms) (s := s) (j := j + 1) (by rw [hmn, hp]; exact Nat.le_refl _) (by have := HNT.out; omega)
       have HT1 := hidden t1
       have HT2 := hidden t2
       rw [hl0]
       have hp0 : ((p : Int) != -1) = true := by simp
       have hp1 : ((p : Int) == -1) = false := by simp
       clear hmn hp hl0 t1 t2 HST HB
       have FO := hidden ((own_ints (Owns.lit .i64 3 w6 [] 0 #[] rfl rfl (by unfold maxLen; omega))).widen (lo' := w.heap.size) (Nat.le_trans B2.size B6.size) (Nat.le_refl _))
       have FB := hidden (B2.trans ((B6.alloc B6.size (.cells #[] 3)).mono B2.size))
       clear B6 o6
       go_wp2
       refine bodyPost_ret (v := .tuple #[.slice (some ⟨w6.heap.size, 0, none⟩) 0 0, .bool false]) (by simp [results, Tryz.results131, go_sem]) rfl ?_
       exact ⟨_, _, _, by rw [HF.out.1, HT1.out], by rw [HF.out.2, HT2.out]; exact FO.out, FB.out⟩
     have hmy := missL_yes hh
     have HL1 : Hid (lostN (missL x ms s (j + 1)) = lostN (missL x ms s j)) := by unfold Hid; rw [hmy]
     have HC1 : Hid ((missL x ms s (j + 1)).length <= 1) := by unfold Hid; rw [hmy]; exact hm1
     clear hmy B6 o6
     generalize word6 x ms (j : Int) s = y at HST HB ⊢
     go_wp2
     go_roundw
     case rel => exact ⟨j + 1, by omega, by go_num, by rw [HL1.out], HC1.out, HST.out, HB.out⟩
     case measure => simp [intOf]; omega
   have ej : j = n := by omega
   subst ej
   rw [Nat.sub_self, List.replicate_zero, List.append_nil] at ho
   have hlen := wordL_len x ms s j
   rcases list_cases hm1 with h00 | ⟨p, hp⟩
   . have hl0 : lostN (missL x ms s j) = -1 := by rw [h00]; rfl
     obtain ⟨t1, t2⟩ := words_none (x := x) (ms := ms) (s := s) (by rw [HNT.out]; exact h00)
     rw [HNT.out] at t2
     have HT1 := hidden t1
     have HT2 := hidden t2
     rw [hl0]
     clear h00 hl0 t1 t2
     have FO := hidden ((own_ints ho.1).widen (lo' := w.heap.size) B2.size (Nat.le_refl _))
     have FB := hidden (B2.trans (hb.mono B2.size))
     clear ho hb Xr hlen hm1 hj hlt
     go_wp2
     refine bodyPost_ret (v := .tuple #[.slice (some ⟨w2.heap.size, 0, none⟩) j j, .bool true]) (by simp [results, Tryz.results131, go_sem]) rfl ?_
     exact ⟨_, _, _, by rw [HF.out.1, HT1.out], by rw [HF.out.2, HT2.out]; exact FO.out, FB.out⟩
   have hl0 : lostN (missL x ms s j) = (p : Int) := by rw [hp]; rfl
   have hpj : p < j := missL_lt (x := x) (ms := ms) (s := s) (by rw [hp]; simp)
   obtain ⟨t1, t2⟩ := words_one (x := x) (ms := ms) (s := s) (p := p) (by rw [HNT.out]; exact hp)
   rw [HNT.out] at t2
   have HT1 := hidden t1
   have HT2 := hidden t2
   rw [hl0]
   clear hp hl0 t1 t2
   have hp0 : ((p : Int) != -1) = true := by simp
   have hp1 : ((p : Int) == -1) = false := by simp
   have hp2 : (0 : Int) <= (p : Int) := by omega
   have hp3 : (p : Int) < (j : Int) := by omega
   go_wp2_with fail
   refine (implMissingWord_any _ _ _ _ (wordL x ms s j) (p : Int) hlen ho.reads (by omega)).mono ?_
   rintro e w7 ⟨rfl, hs7⟩
   have O1 := ho.same hs7
   have B7 := hb.trans (hs7.below _)
   obtain ⟨c1, f1, O2, t2⟩ := O1.store p hpj (skipL (wordL x ms s j) (p : Int) j)
   have FO := hidden ((own_ints O2.1).widen (lo' := w.heap.size) B2.size (Nat.le_refl _))
   have FB := hidden (B2.trans ((B7.setCell (p := ⟨w2.heap.size, p, none⟩) (Nat.le_refl _) (.int .i64 (skipL (wordL x ms s j) (p : Int) j))).mono B2.size))
   generalize (wordL x ms s j).getD p 0 = y at c1
   generalize skipL (wordL x ms s j) (p : Int) j = q at FO FB HT2 ⊢
   clear O1 O2 t2 ho hb hs7 Xr B7
   go_wp2
   refine bodyPost_ret (v := .tuple #[.slice (some ⟨w2.heap.size, 0, none⟩) j j, .bool true]) (by simp [results, Tryz.results131, go_sem]) rfl ?_
   exact ⟨_, _, _, by rw [HF.out.1, HT1.out], by rw [HF.out.2, HT2.out]; exact FO.out, FB.out⟩
 rw [hbr] at k12
 have HF : Hid (wordsOk6 x ms ds s = false /\ wordsL6 x ms ds s = []) := by unfold Hid wordsOk6 wordsL6 okB6; simp [hbr]
 have FO := hidden ((own_ints (Owns.lit .i64 3 w1 [] 0 #[] rfl rfl (by unfold maxLen; omega))).widen (lo' := w.heap.size) B1.size (Nat.le_refl _))
 have FB := hidden (B1.alloc B1.size (.cells #[] 3))
 go_wp2
 refine bodyPost_ret (v := .tuple #[.slice (some ⟨w1.heap.size, 0, none⟩) 0 0, .bool false]) (by simp [results, Tryz.results131, go_sem]) rfl ?_
 exact ⟨_, _, _, by rw [HF.out.1], by rw [HF.out.2]; exact FO.out, FB.out⟩

def Late (P : Program) (ops : Array Oper) (Q : Exit -> Act -> World -> Prop) (S : World -> Prop) (k : Nat) : Nat -> Array Bool -> Act -> World -> Prop
 | 0, l, a, w => Region.ready .any ops l = [] /\ Q .normal a w
 | n + 1, l, a, w => (Region.ready .any ops l = [] -> Q .normal a w) /\ ∀ j ∈ Region.ready .any ops l, wpOp P ops Q j (fun a' w' => (j ≠ k -> l.getD k true = false -> S w') /\ Late P ops Q S k n (l.setIfInBounds j true) a' w') a w

section
variable {P : Program} {ops : Array Oper} {Q : Exit -> Act -> World -> Prop} {S : World -> Prop} {k : Nat}

theorem Late.any : ∀ (n : Nat) (l : Array Bool) (a : Act) (w : World), Late P ops Q S k n l a w -> wpAny P .any ops Q n l a w
 | 0, _, _, _, h => h
 | n + 1, _, _, _, h => ⟨h.1, fun j hj => wpOp_mono (fun a' w' h' => Late.any n _ a' w' h'.2) (h.2 j hj)⟩

theorem Late.start {id : Nat} {a : Act} {w : World} (hm : P.follows .mixedOrders = true) (h : Late P ops Q S k ops.size (Array.replicate ops.size false) a w.drew) : (Code.region id ops true).wp P Q a w :=
 wp_region_any hm (Late.any _ _ _ _ h)

theorem Late.first {i : Nat} {oi ok : Oper} {v : Value} (hi : ops[i]? = some oi) (hk : ops[k]? = some ok) (hki : ∃ e ∈ ok.after, Region.binds .any e = true /\ e.on = i)
 (hsel : ∀ (j : Nat) (o : Oper) cs b, ops[j]? = some o -> o.op ≠ .select cs b) (hQ : ∀ c a w, Q (.panic c) (a.put oi.dst v) w -> Q (.panic c) a w) (n : Nat) :
 ∀ (l : Array Bool) (a : Act) (w : World),
  (∀ j oj, ops[j]? = some oj -> j ≠ i -> l.getD j true = false -> (∀ e ∈ oj.after, Region.binds .any e = true -> e.on ≠ i) -> oi.apart ops oj = true) ->
  l.getD k true = false -> i ∈ Region.ready .any ops l -> YieldsIf P ops S oi v a -> S w -> Late P ops Q S k n (l.setIfInBounds i true) (a.put oi.dst v) w -> Late P ops Q S k (n + 1) l a w := by
 induction n with
 | zero =>
  intro l a w _ hkl hr hy hS H
  constructor
  . intro h
    rw [h] at hr
    simp at hr
  intro j hj
  by_cases hji : j = i
  . rw [hji]
    exact hy.wpOp hi hS ⟨fun _ _ => hS, H⟩
  have h2 := ready_mono (i := i) hj hji
  rw [H.1] at h2
  simp at h2
 | succ n ih =>
  intro l a w hfree hkl hr hy hS H
  constructor
  . intro h
    rw [h] at hr
    simp at hr
  intro j hj
  by_cases hji : j = i
  . rw [hji]
    exact hy.wpOp hi hS ⟨fun _ _ => hS, H⟩
  obtain ⟨hju, oj, hoj, hall⟩ := mem_ready.1 hj
  have hiu := (mem_ready.1 hr).1
  have hno : ∀ e ∈ oj.after, Region.binds .any e = true -> e.on ≠ i := fun e he hb hon => unlisted hiu (hon ▸ hall e he hb)
  have hjk : j ≠ k := by
   intro hjk
   rw [hjk, hk] at hoj
   obtain ⟨e, he, hb, hon⟩ := hki
   cases hoj
   exact hno e he hb hon
  have h1 := H.2 j (ready_mono hj hji)
  have h2 := wpOp_putIf hoj (hfree j oj hoj hji hju hno) (fun cs b => hsel i oi cs b hi) (fun cs b => hsel j oj cs b hoj) hQ hy h1
  refine wpOp_mono ?_ h2
  intro a' w' h3
  have hik : i ≠ k := by
   intro hik
   obtain ⟨_, ok', hok', hall'⟩ := mem_ready.1 hr
   rw [hik, hk] at hok'
   obtain ⟨e, he, hb, hon⟩ := hki
   cases hok'
   exact unlisted hiu (hon ▸ hall' e he hb)
  have hS' := h3.2.1 hjk (by rw [getD_set_ne true hik]; exact hkl)
  refine ⟨fun _ _ => hS', ih _ a' w' ?_ (by rw [getD_set_ne true hjk]; exact hkl) (ready_mono hr (Ne.symm hji)) h3.1 hS' ?_⟩
  . intro m om hm hmi hun hnm
    refine hfree m om hm hmi ?_ hnm
    by_cases hjm : j = m
    . rw [← hjm]
      exact hju
    rw [getD_set_ne true hjm] at hun
    exact hun
  rw [Array.setIfInBounds_comm _ _ hji]
  exact h3.2.2

theorem Late.take {i : Nat} {oi : Oper} {v : Value} {n : Nat} {l : Array Bool} {a : Act} {w : World} {tl : List Oper} (hi' : ops.toList.drop i = oi :: tl)
 (hki : ((ops[k]?).map fun o => o.after.any fun e => Region.binds .any e && e.on == i) = some true) (hs : Region.noSelect ops = true) (hf : Region.free .any ops l i = true) (hr : (Region.ready .any ops l).contains i = true)
 (hQ : ∀ c a w, Q (.panic c) (a.put oi.dst v) w -> Q (.panic c) a w) (hy : YieldsIf P ops S oi v a) (hS : S w) (h : Late P ops Q S k n (l.setIfInBounds i true) (a.put oi.dst v) w) (hkl : l.getD k true = false := by kernel_rfl) : Late P ops Q S k (n + 1) l a w := by
 have hi := op_at hi'
 cases hk : ops[k]? with
 | none => rw [hk] at hki; cases hki
 | some ok =>
  rw [hk] at hki
  simp only [Option.map_some, Option.some.injEq, Array.any_eq_true', Bool.and_eq_true, beq_iff_eq] at hki
  exact Late.first hi hk hki (Region.noSelect_spec hs) hQ n l a w (Region.free_spec hi hf) hkl (by simpa using hr) hy hS h

theorem Late.one {i : Nat} {o : Oper} {n : Nat} {l : Array Bool} {a : Act} {w : World} {tl : List Oper} (hr : Region.ready .any ops l = [i]) (ho : ops.toList.drop i = o :: tl)
 (h : ∀ K' : Act -> World -> Prop, Shut (∀ a w, (i ≠ k -> S w) -> Late P ops Q S k n (l.setIfInBounds i true) a w -> K' a w) -> if Region.wanted o (yielded ops a.tmps) = true then Oper.wp P o a w K' Q else K' (a.put o.dst undef) w) : Late P ops Q S k (n + 1) l a w := by
 constructor
 . intro h0
   rw [hr] at h0
   simp at h0
 intro j hj
 rw [hr] at hj
 simp at hj
 rw [hj]
 exact wpOp_step (op_at ho) (fun K' hK => h K' (fun a w hS hW => hK a w ⟨fun h _ => hS h, hW⟩))

theorem Late.late {i : Nat} {o : Oper} {n : Nat} {l : Array Bool} {a : Act} {w : World} {tl : List Oper} (hr : Region.ready .any ops l = [i]) (ho : ops.toList.drop i = o :: tl) (hl : l.getD k true = true)
 (h : ∀ K' : Act -> World -> Prop, Shut (∀ a w, Late P ops Q S k n (l.setIfInBounds i true) a w -> K' a w) -> if Region.wanted o (yielded ops a.tmps) = true then Oper.wp P o a w K' Q else K' (a.put o.dst undef) w) : Late P ops Q S k (n + 1) l a w := by
 constructor
 . intro h0
   rw [hr] at h0
   simp at h0
 intro j hj
 rw [hr] at hj
 simp at hj
 rw [hj]
 exact wpOp_step (op_at ho) (fun K' hK => h K' (fun a w hW => hK a w ⟨fun _ h0 => (by rw [hl] at h0; cases h0), hW⟩))

theorem Late.two {i i' : Nat} {o o' : Oper} {n : Nat} {l : Array Bool} {a : Act} {w : World} {tl tl' : List Oper} (hr : Region.ready .any ops l = [i, i']) (ho : ops.toList.drop i = o :: tl) (ho' : ops.toList.drop i' = o' :: tl')
 (h : ∀ K' : Act -> World -> Prop, Shut (∀ a w, (i ≠ k -> S w) -> Late P ops Q S k n (l.setIfInBounds i true) a w -> K' a w) -> if Region.wanted o (yielded ops a.tmps) = true then Oper.wp P o a w K' Q else K' (a.put o.dst undef) w)
 (h' : ∀ K' : Act -> World -> Prop, Shut (∀ a w, (i' ≠ k -> S w) -> Late P ops Q S k n (l.setIfInBounds i' true) a w -> K' a w) -> if Region.wanted o' (yielded ops a.tmps) = true then Oper.wp P o' a w K' Q else K' (a.put o'.dst undef) w) : Late P ops Q S k (n + 1) l a w := by
 constructor
 . intro h0
   rw [hr] at h0
   simp at h0
 intro j hj
 rw [hr] at hj
 simp only [List.mem_cons, List.not_mem_nil, or_false] at hj
 rcases hj with hj | hj
 . rw [hj]
   exact wpOp_step (op_at ho) (fun K' hK => h K' (fun a w hS hW => hK a w ⟨fun h _ => hS h, hW⟩))
 rw [hj]
 exact wpOp_step (op_at ho') (fun K' hK => h' K' (fun a w hS hW => hK a w ⟨fun h _ => hS h, hW⟩))

theorem Late.done {l : Array Bool} {a : Act} {w : World} (hr : Region.ready .any ops l = []) (h : Q .normal a w) : ∀ n, Late P ops Q S k n l a w
 | 0 => ⟨hr, h⟩
 | _ + 1 => ⟨fun _ => h, by rw [hr]; simp⟩

end

theorem writeOp1_runs (w : World) (B p q y u m : Nat) (n : Int) (a5 : Option Addr) (c5 : Nat) (sw : List Int) (fs : List Nat) (hp : Box w p 53 #[.pointer (some ⟨B, 0, none⟩)]) (hq : Box w q 3 #[.int .i64 (m : Int)]) (hy : Box w y 3 #[.int .i64 n]) (hu : Box w u 49 #[.slice a5 sw.length c5]) (h5 : tIntS.Mine w [.slice a5 sw.length c5] sw fs) (hl5 : sw.length <= 2097152) : OpRuns B (p :: q :: y :: u :: fs) 158 #[.pointer (some ⟨p, 0, none⟩), .pointer (some ⟨q, 0, none⟩), .pointer (some ⟨y, 0, none⟩), .pointer (some ⟨u, 0, none⟩)] (wrK n sw m) w := by
 intro x ms ds fm fd hA hM hdis hlt
 dsimp only [wrK] at hlt
 obtain ⟨bm, bd, cm, cd, X, hmm, hdd, hr, r1, r2⟩ := hA
 have hm63 := (row_length hmm.rd).2
 obtain ⟨g, rfl⟩ := row_head hmm (by omega)
 have hdj : ms[m]? = some (ms[m]'(by omega)) := List.getElem?_eq_getElem (by omega)
 generalize ms[m]'(by omega) = d at hdj
 have hgm : ms.getD m memZ = d := getD_at hdj
 obtain ⟨hgl, a0, a1, a3, c0, c1, c3, ss, cs, f, bs, rfl, q0, q1, q2, q3, p0, p1, p3⟩ := disk_at hmm hdj
 have X0 := X
 unfold arrC at X0
 obtain ⟨k0, k1, k2, k3, k4, k5, k6, k7, k8, k9, k10, k11, k12⟩ := X0.cells13
 have zp := hp.lt
 have cp := hp.cell 0
 have zq := hq.lt
 have cq := hq.cell 0
 have zy := hy.lt
 have cy := hy.cell 0
 have zu := hu.lt
 have cu := hu.cell 0
 have hwt := memB_light (hM m _ hdj) f
 dsimp only at hwt
 have zB := X.lt
 have p5 := h5.rd
 have XH := hidden X
 have MH := hidden hmm
 have DH := hidden hdd
 have R0 := hidden p0
 have R1 := hidden p1
 have R3 := hidden p3
 have R5 := hidden p5
 have HG := hidden hgm
 have hS : w.drew.cell? ⟨p, 0, none⟩ = some (.pointer (some ⟨B, 0, none⟩)) /\ w.drew.cell? ⟨q, 0, none⟩ = some (.int .i64 (m : Int)) /\ w.drew.cell? ⟨y, 0, none⟩ = some (.int .i64 n) /\ w.drew.cell? ⟨u, 0, none⟩ = some (.slice a5 sw.length c5) /\ w.drew.cell? ⟨B, 3, none⟩ = some (.slice (some ⟨g, 0, none⟩) ms.length cm) /\ w.drew.cell? ⟨g, m * 4, none⟩ = some (.slice a0 ss.length c0) /\ w.drew.cell? ⟨g, m * 4 + 1, none⟩ = some (.slice a1 cs.length c1) /\ w.drew.cell? ⟨g, m * 4 + 2, none⟩ = some (.bool f) /\ w.drew.cell? ⟨g, m * 4 + 3, none⟩ = some (.slice a3 bs.length c3) := ⟨cp, cq, cy, cu, k3, q0, q1, q2, q3⟩
 have i1 : (0 : Int) <= (m : Int) := by omega
 have i3 : (m : Int) < (ms.length : Int) := by omega
 clear X X0 hmm hdd p0 p1 p3 p5 h5 hM hdj hgm hdis
 go_enter Tryz.func158, Tryz.ntmps158
 go_wp2_with fail
 refine Late.start (S := fun w' => w'.cell? ⟨p, 0, none⟩ = some (.pointer (some ⟨B, 0, none⟩)) /\ w'.cell? ⟨q, 0, none⟩ = some (.int .i64 (m : Int)) /\ w'.cell? ⟨y, 0, none⟩ = some (.int .i64 n) /\ w'.cell? ⟨u, 0, none⟩ = some (.slice a5 sw.length c5) /\ w'.cell? ⟨B, 3, none⟩ = some (.slice (some ⟨g, 0, none⟩) ms.length cm) /\ w'.cell? ⟨g, m * 4, none⟩ = some (.slice a0 ss.length c0) /\ w'.cell? ⟨g, m * 4 + 1, none⟩ = some (.slice a1 cs.length c1) /\ w'.cell? ⟨g, m * 4 + 2, none⟩ = some (.bool f) /\ w'.cell? ⟨g, m * 4 + 3, none⟩ = some (.slice a3 bs.length c3)) (k := 19) (by kernel_rfl) ?_
 refine Late.take (i := 0) (v := ?_) rfl (by kernel_rfl) (by kernel_rfl) (by kernel_rfl) (by kernel_rfl) (fun _ _ _ h => h) (Or.inl ⟨by rfl, ?_⟩) hS ?_
 rotate_left 1
 . (intro w hSw; (try dsimp only at hSw); go_split_ands; go_simp; first | done | with_reducible rfl)
 simp only [Act.put, List.setIfInBounds_toArray, List.set_cons_zero, List.set_cons_succ]
 refine Late.take (i := 1) (v := ?_) rfl (by kernel_rfl) (by kernel_rfl) (by kernel_rfl) (by kernel_rfl) (fun _ _ _ h => h) (Or.inl ⟨by rfl, ?_⟩) hS ?_
 rotate_left 1
 . (intro w hSw; (try dsimp only at hSw); go_split_ands; go_simp; first | done | with_reducible rfl)
 simp only [Act.put, List.setIfInBounds_toArray, List.set_cons_zero, List.set_cons_succ]
 refine Late.take (i := 2) (v := ?_) rfl (by kernel_rfl) (by kernel_rfl) (by kernel_rfl) (by kernel_rfl) (fun _ _ _ h => h) (Or.inl ⟨by rfl, ?_⟩) hS ?_
 rotate_left 1
 . (intro w hSw; (try dsimp only at hSw); go_split_ands; go_simp; first | done | with_reducible rfl)
 simp only [Act.put, List.setIfInBounds_toArray, List.set_cons_zero, List.set_cons_succ]
 refine Late.take (i := 3) (v := ?_) rfl (by kernel_rfl) (by kernel_rfl) (by kernel_rfl) (by kernel_rfl) (fun _ _ _ h => h) (Or.inl ⟨by rfl, ?_⟩) hS ?_
 rotate_left 1
 . (intro w hSw; (try dsimp only at hSw); go_split_ands; go_simp; first | done | with_reducible rfl)
 simp only [Act.put, List.setIfInBounds_toArray, List.set_cons_zero, List.set_cons_succ]
 refine Late.take (i := 4) (v := ?_) rfl (by kernel_rfl) (by kernel_rfl) (by kernel_rfl) (by kernel_rfl) (fun _ _ _ h => h) (Or.inl ⟨by rfl, ?_⟩) hS ?_
 rotate_left 1
 . (intro w hSw; (try dsimp only at hSw); go_split_ands; go_simp; first | done | with_reducible rfl)
 simp only [Act.put, List.setIfInBounds_toArray, List.set_cons_zero, List.set_cons_succ]
 refine Late.take (i := 5) (v := ?_) rfl (by kernel_rfl) (by kernel_rfl) (by kernel_rfl) (by kernel_rfl) (fun _ _ _ h => h) (Or.inl ⟨by rfl, ?_⟩) hS ?_
 rotate_left 1
 . (intro w hSw; (try dsimp only at hSw); go_split_ands; go_simp; first | done | with_reducible rfl)
 simp only [Act.put, List.setIfInBounds_toArray, List.set_cons_zero, List.set_cons_succ]
 refine Late.take (i := 6) (v := ?_) rfl (by kernel_rfl) (by kernel_rfl) (by kernel_rfl) (by kernel_rfl) (fun _ _ _ h => h) (Or.inl ⟨by rfl, ?_⟩) hS ?_
 rotate_left 1
 . (intro w hSw; (try dsimp only at hSw); go_split_ands; go_simp; first | done | with_reducible rfl)
 simp only [Act.put, List.setIfInBounds_toArray, List.set_cons_zero, List.set_cons_succ]
 refine Late.take (i := 7) (v := ?_) rfl (by kernel_rfl) (by kernel_rfl) (by kernel_rfl) (by kernel_rfl) (fun _ _ _ h => h) (Or.inl ⟨by rfl, ?_⟩) hS ?_
 rotate_left 1
 . (intro w hSw; (try dsimp only at hSw); go_split_ands; go_simp; first | done | with_reducible rfl)
 simp only [Act.put, List.setIfInBounds_toArray, List.set_cons_zero, List.set_cons_succ]
 refine Late.take (i := 8) (v := ?_) rfl (by kernel_rfl) (by kernel_rfl) (by kernel_rfl) (by kernel_rfl) (fun _ _ _ h => h) (Or.inl ⟨by rfl, ?_⟩) hS ?_
 rotate_left 1
 . (intro w hSw; (try dsimp only at hSw); go_split_ands; go_simp; first | done | with_reducible rfl)
 simp only [Act.put, List.setIfInBounds_toArray, List.set_cons_zero, List.set_cons_succ]
 refine Late.take (i := 9) (v := ?_) rfl (by kernel_rfl) (by kernel_rfl) (by kernel_rfl) (by kernel_rfl) (fun _ _ _ h => h) (Or.inl ⟨by rfl, ?_⟩) hS ?_
 rotate_left 1
 . (intro w hSw; (try dsimp only at hSw); go_split_ands; go_simp; first | done | with_reducible rfl)
 simp only [Act.put, List.setIfInBounds_toArray, List.set_cons_zero, List.set_cons_succ]
 refine Late.take (i := 10) (v := ?_) rfl (by kernel_rfl) (by kernel_rfl) (by kernel_rfl) (by kernel_rfl) (fun _ _ _ h => h) (Or.inl ⟨by rfl, ?_⟩) hS ?_
 rotate_left 1
 . (intro w hSw; (try dsimp only at hSw); go_split_ands; go_simp; first | done | with_reducible rfl)
 simp only [Act.put, List.setIfInBounds_toArray, List.set_cons_zero, List.set_cons_succ]
 refine Late.take (i := 11) (v := ?_) rfl (by kernel_rfl) (by kernel_rfl) (by kernel_rfl) (by kernel_rfl) (fun _ _ _ h => h) (Or.inl ⟨by rfl, ?_⟩) hS ?_
 rotate_left 1
 . (intro w hSw; (try dsimp only at hSw); go_split_ands; go_simp; first | done | with_reducible rfl)
 simp only [Act.put, List.setIfInBounds_toArray, List.set_cons_zero, List.set_cons_succ]
 refine Late.take (i := 12) (v := ?_) rfl (by kernel_rfl) (by kernel_rfl) (by kernel_rfl) (by kernel_rfl) (fun _ _ _ h => h) (Or.inl ⟨by rfl, ?_⟩) hS ?_
 rotate_left 1
 . (intro w hSw; (try dsimp only at hSw); go_split_ands; go_simp; first | done | with_reducible rfl)
 simp only [Act.put, List.setIfInBounds_toArray, List.set_cons_zero, List.set_cons_succ]
 refine Late.take (i := 13) (v := ?_) rfl (by kernel_rfl) (by kernel_rfl) (by kernel_rfl) (by kernel_rfl) (fun _ _ _ h => h) (Or.inl ⟨by rfl, ?_⟩) hS ?_
 rotate_left 1
 . (intro w hSw; (try dsimp only at hSw); go_split_ands; go_simp; first | done | with_reducible rfl)
 simp only [Act.put, List.setIfInBounds_toArray, List.set_cons_zero, List.set_cons_succ]
 refine Late.one (i := 14) (by kernel_rfl) rfl (fun K hK => ?_)
 go_simp
 refine (implWriteSec_any _ 109 _ _ _ _ _ _ _ _ _ _ _ _ ss cs f bs n sw R0.out.drew R1.out.drew R3.out.drew R5.out.drew (by omega) (by omega)).mono ?_
 rintro e w2 ⟨u0, u1, u3, rfl, o2, b2'⟩
 have b2 : Below w.heap.size w w2 := (Below.refl w.heap.size w).drew.trans b2'
 have o2b : (tMem 109).Own w2 w.heap.size w2.heap.size [u0, u1, .bool f, u3] _ := o2
 obtain ⟨d0, l0, f0, d1, l1, f1, d3, l3, f3, hv0, hv1, hv3⟩ := mem_slices o2b
 subst hv0 hv1 hv3
 obtain ⟨fpx, mx, rx⟩ := o2b.mine
 obtain ⟨cOld, fz, hgm, fm9, hA9, hMv9⟩ := arr_store (m := m) XH.out MH.out DH.out hr r1 r2 b2 (by omega) mx (fun b hb => (rx b hb).1)
 obtain ⟨o0, t0⟩ := cOld 0 (by omega)
 obtain ⟨o1, t1⟩ := cOld 1 (by omega)
 obtain ⟨o2', t2⟩ := cOld 2 (by omega)
 obtain ⟨o3, t3⟩ := cOld 3 (by omega)
 rw [Nat.add_zero] at t0
 have HA := hidden hA9
 have HMV := hidden hMv9
 have hS2 : w2.cell? ⟨p, 0, none⟩ = some (.pointer (some ⟨B, 0, none⟩)) /\ w2.cell? ⟨q, 0, none⟩ = some (.int .i64 (m : Int)) /\ w2.cell? ⟨y, 0, none⟩ = some (.int .i64 n) /\ w2.cell? ⟨u, 0, none⟩ = some (.slice a5 sw.length c5) /\ w2.cell? ⟨B, 3, none⟩ = some (.slice (some ⟨g, 0, none⟩) ms.length cm) /\ w2.cell? ⟨g, m * 4, none⟩ = some (.slice a0 ss.length c0) /\ w2.cell? ⟨g, m * 4 + 1, none⟩ = some (.slice a1 cs.length c1) /\ w2.cell? ⟨g, m * 4 + 2, none⟩ = some (.bool f) /\ w2.cell? ⟨g, m * 4 + 3, none⟩ = some (.slice a3 bs.length c3) := ⟨(b2.cell (p := ⟨p, 0, none⟩) zp).trans cp, (b2.cell (p := ⟨q, 0, none⟩) zq).trans cq, (b2.cell (p := ⟨y, 0, none⟩) zy).trans cy, (b2.cell (p := ⟨u, 0, none⟩) zu).trans cu, (b2.cell (p := ⟨B, 3, none⟩) zB).trans k3, (b2.cell (p := ⟨g, m * 4, none⟩) hgl).trans q0, (b2.cell (p := ⟨g, m * 4 + 1, none⟩) hgl).trans q1, (b2.cell (p := ⟨g, m * 4 + 2, none⟩) hgl).trans q2, (b2.cell (p := ⟨g, m * 4 + 3, none⟩) hgl).trans q3⟩
 have gB : ¬ g = B := fun e => r1 (e ▸ hgm)
 unfold put4 at HA HMV
 have HF : Hid (∀ W, ArrAt W B x (ms.set m (wrM (ss, cs, f, bs) n sw)) ds fm9 fd -> Moved B fm w fm9 W -> (Ending.returned (Value.tuple #[]) = .returned (.tuple #[]) /\ ∃ fm', ArrAt W B x (ms.set (wrK n sw m).1 (opF (wrK n sw m) x (ms.getD (wrK n sw m).1 memZ))) ds fm' fd /\ Moved B fm w fm' W)) := fun W h1 h2 => ⟨rfl, fm9, by show ArrAt W B x (ms.set m (opF (wrK n sw m) x (ms.getD m memZ))) ds fm9 fd; rw [HG.out]; exact h1, h2⟩
 clear cp cq cy cu k3 q0 q1 q2 q3 o2 o2b b2 b2' mx rx cOld hA9 hMv9 XH MH DH R0 R1 R3 R5 hwt HG
 go_wp2_with fail
 refine hK.out _ _ (fun _ => hS2) ?_
 clear hK K
 refine Late.take (i := 15) (v := ?_) rfl (by kernel_rfl) (by kernel_rfl) (by kernel_rfl) (by kernel_rfl) (fun _ _ _ h => h) (Or.inl ⟨by rfl, ?_⟩) hS2 ?_
 rotate_left 1
 . (intro w hSw; (try dsimp only at hSw); go_split_ands; go_simp; first | done | with_reducible rfl)
 simp only [Act.put, List.setIfInBounds_toArray, List.set_cons_zero, List.set_cons_succ]
 refine Late.take (i := 16) (v := ?_) rfl (by kernel_rfl) (by kernel_rfl) (by kernel_rfl) (by kernel_rfl) (fun _ _ _ h => h) (Or.inl ⟨by rfl, ?_⟩) hS2 ?_
 rotate_left 1
 . (intro w hSw; (try dsimp only at hSw); go_split_ands; go_simp; first | done | with_reducible rfl)
 simp only [Act.put, List.setIfInBounds_toArray, List.set_cons_zero, List.set_cons_succ]
 refine Late.take (i := 18) (v := ?_) rfl (by kernel_rfl) (by kernel_rfl) (by kernel_rfl) (by kernel_rfl) (fun _ _ _ h => h) (Or.inl ⟨by rfl, ?_⟩) hS2 ?_
 rotate_left 1
 . (intro w hSw; (try dsimp only at hSw); go_split_ands; go_simp; first | done | with_reducible rfl)
 simp only [Act.put, List.setIfInBounds_toArray, List.set_cons_zero, List.set_cons_succ]
 refine Late.two (i := 17) (i' := 19) (by kernel_rfl) rfl rfl (fun K hK => ?_) (fun K hK => ?_)
 . go_simp
   refine hK.out _ _ (fun _ => hS2) ?_
   clear hK K
   refine Late.one (i := 19) (by kernel_rfl) rfl (fun K hK => ?_)
   go_simp
   refine hK.out _ _ (fun h => absurd rfl h) ?_
   clear hK K
   refine Late.done (by kernel_rfl) ?_ _
   clear hS hS2 t0 t1 t2 t3 fz
   go_wp2
   refine bodyPost_end (v := .tuple #[]) (results_none rfl _ _ _) rfl ?_
   exact ⟨rfl, (HF.out _ HA.out HMV.out).2⟩
 go_simp
 refine hK.out _ _ (fun h => absurd rfl h) ?_
 clear hK K
 refine Late.late (i := 17) (by kernel_rfl) rfl (by kernel_rfl) (fun K hK => ?_)
 go_simp
 refine hK.out _ _ ?_
 clear hK K
 refine Late.done (by kernel_rfl) ?_ _
 clear hS hS2 t0 t1 t2 t3 fz
 go_wp2
 refine bodyPost_end (v := .tuple #[]) (results_none rfl _ _ _) rfl ?_
 exact ⟨rfl, (HF.out _ HA.out HMV.out).2⟩

theorem writeOp_any (w : World) (B m : Nat) (n : Int) (a5 : Option Addr) (c5 : Nat) (sw : List Int) (fs : List Nat) (h5 : tIntS.Mine w [.slice a5 sw.length c5] sw fs) (hl5 : sw.length <= 2097152) : Calls Tryz.prog 132 #[.pointer (some ⟨B, 0, none⟩), .int .i64 (m : Int), .int .i64 n, .slice a5 sw.length c5] w fun e w' => ∃ v fp, e = .returned v /\ (opTy B).Mine w' [v] (wrK n sw m) fp /\ (∀ b ∈ fp, b ∈ fs ∨ (w.heap.size <= b /\ b < w'.heap.size)) /\ Below w.heap.size w w' := by
 have hmf : ∀ (fn : Fn) (first cap : Array Value) (w : World), (Instr.makeFunc fn first cap).run Tryz.prog w = .ok (.func fn first cap) w := fun _ _ _ _ => rfl
 have hb : Below w.heap.size w ((((w.alloc (.cells #[.pointer (some ⟨B, 0, none⟩)] 53)).alloc (.cells #[.int .i64 (m : Int)] 3)).alloc (.cells #[.int .i64 n] 3)).alloc (.cells #[.slice a5 sw.length c5] 49)) := ((((Below.refl _ _).alloc (Nat.le_refl _) _).alloc (by simp) _).alloc (by simp; omega) _).alloc (by simp; omega) _
 have zz : ∀ v : World, ∀ ob : Obj, (v.alloc ob).heap.size = v.heap.size + 1 := fun v ob => by simp
 have b0 := Box.new w 53 #[.pointer (some ⟨B, 0, none⟩)]
 replace b0 := b0.alloc (.cells #[.int .i64 (m : Int)] 3)
 replace b0 := b0.alloc (.cells #[.int .i64 n] 3)
 replace b0 := b0.alloc (.cells #[.slice a5 sw.length c5] 49)
 have b1 := Box.new (w.alloc (.cells #[.pointer (some ⟨B, 0, none⟩)] 53)) 3 #[.int .i64 (m : Int)]
 rw [zz] at b1
 replace b1 := b1.alloc (.cells #[.int .i64 n] 3)
 replace b1 := b1.alloc (.cells #[.slice a5 sw.length c5] 49)
 have b2 := Box.new ((w.alloc (.cells #[.pointer (some ⟨B, 0, none⟩)] 53)).alloc (.cells #[.int .i64 (m : Int)] 3)) 3 #[.int .i64 n]
 rw [zz, zz] at b2
 replace b2 := b2.alloc (.cells #[.slice a5 sw.length c5] 49)
 have b3 := Box.new (((w.alloc (.cells #[.pointer (some ⟨B, 0, none⟩)] 53)).alloc (.cells #[.int .i64 (m : Int)] 3)).alloc (.cells #[.int .i64 n] 3)) 49 #[.slice a5 sw.length c5]
 rw [zz, zz, zz] at b3
 have hsz : ((((w.alloc (.cells #[.pointer (some ⟨B, 0, none⟩)] 53)).alloc (.cells #[.int .i64 (m : Int)] 3)).alloc (.cells #[.int .i64 n] 3)).alloc (.cells #[.slice a5 sw.length c5] 49)).heap.size = w.heap.size + 1 + 1 + 1 + 1 := by simp
 have hlt := h5.lt
 have h5w : tIntS.Mine ((((w.alloc (.cells #[.pointer (some ⟨B, 0, none⟩)] 53)).alloc (.cells #[.int .i64 (m : Int)] 3)).alloc (.cells #[.int .i64 n] 3)).alloc (.cells #[.slice a5 sw.length c5] 49)) [.slice a5 sw.length c5] sw fs := h5.below hb
 have HO : Hid ((opTy B).Mine ((((w.alloc (.cells #[.pointer (some ⟨B, 0, none⟩)] 53)).alloc (.cells #[.int .i64 (m : Int)] 3)).alloc (.cells #[.int .i64 n] 3)).alloc (.cells #[.slice a5 sw.length c5] 49)) [.func (Fn.func 158) #[] #[.pointer (some ⟨w.heap.size, 0, none⟩), .pointer (some ⟨w.heap.size + 1, 0, none⟩), .pointer (some ⟨w.heap.size + 1 + 1, 0, none⟩), .pointer (some ⟨w.heap.size + 1 + 1 + 1, 0, none⟩)]] (wrK n sw m) ((w.heap.size) :: (w.heap.size + 1) :: (w.heap.size + 1 + 1) :: (w.heap.size + 1 + 1 + 1) :: fs)) := by
  refine ⟨⟨158, _, rfl, enters_of Tryz.func158 (by kernel_rfl) (by kernel_rfl) _, ?_, fun w' hk hs => ?_⟩, ?_⟩
  . intro b hb'
    simp only [List.mem_cons] at hb'
    rcases hb' with h | h | h | h | h
    . omega
    . omega
    . omega
    . omega
    have := hlt b h; omega
  . exact writeOp1_runs w' B _ _ _ _ m n a5 c5 sw fs (b0.kept (hk _ (by simp))) (b1.kept (hk _ (by simp))) (b2.kept (hk _ (by simp))) (b3.kept (hk _ (by simp))) ⟨tIntS.owKept h5w.1 (fun b hb' => hk b (by simp [hb'])) hs, h5.2⟩ hl5
  have n0 : ∀ k, w.heap.size <= k -> k ∉ fs := fun k hk hm => by have := hlt k hm; omega
  simp only [List.nodup_cons, List.mem_cons]
  refine ⟨fun h => ?_, fun h => ?_, fun h => ?_, n0 _ (by omega), h5.2⟩
  . rcases h with h | h | h | h
    . omega
    . omega
    . omega
    exact n0 _ (by omega) h
  . rcases h with h | h | h
    . omega
    . omega
    exact n0 _ (by omega) h
  rcases h with h | h
  . omega
  exact n0 _ (by omega) h
 have HB := hidden hb
 have HFP : Hid (∀ b ∈ ((w.heap.size) :: (w.heap.size + 1) :: (w.heap.size + 1 + 1) :: (w.heap.size + 1 + 1 + 1) :: fs), b ∈ fs ∨ (w.heap.size <= b /\ b < ((((w.alloc (.cells #[.pointer (some ⟨B, 0, none⟩)] 53)).alloc (.cells #[.int .i64 (m : Int)] 3)).alloc (.cells #[.int .i64 n] 3)).alloc (.cells #[.slice a5 sw.length c5] 49)).heap.size)) := by
  intro b hb'
  simp only [List.mem_cons] at hb'
  rcases hb' with h | h | h | h | h
  . exact .inr (by omega)
  . exact .inr (by omega)
  . exact .inr (by omega)
  . exact .inr (by omega)
  exact .inl h
 clear hb b0 b1 b2 b3 hsz h5w zz
 go_enter Tryz.func132, Tryz.ntmps132
 go_wp2
 go_ret
 exact ⟨_, _, rfl, HO.out, HFP.out, HB.out⟩

theorem lit1_mine {t : Ty} (ht : t.n = 1) {E : TypeId} {w : World} {v : Value} {x : t.D} {fp : List Nat} (h : t.Mine w [v] x fp) : (rowTy t E).Mine (w.alloc (.cells #[v] E)) [.slice (some ⟨w.heap.size, 0, none⟩) 1 1] [x] (w.heap.size :: fp) := by
 have hb := new_below w (.cells #[v] E)
 have h2 := h.below hb
 refine ⟨.inr ⟨w.heap.size, 1, #[v], [fp], rfl, Nat.le_refl _, by omega, heap_alloc_new w _, by simp [ht], by simp, rfl, fun i z hz => ?_⟩, ?_⟩
 . cases i with
   | zero =>
    simp at hz
    subst hz
    refine ⟨fp, rfl, ?_⟩
    rw [ht]
    exact h2.1
   | succ i => simp at hz
 rw [List.nodup_cons]
 exact ⟨fun hm => by have := h.lt _ hm; omega, h.2⟩

theorem buildStripe_any (w : World) (B : Nat) (x : ArrN) (ms : List MemD) (ds : List (Int × List Int)) (fm fd : List Nat) (h : ArrAt w B x ms ds fm fd) (hw : wtArr ms ds <= 2097152) (hk : nextK x ms ds = 0) :
 Calls Tryz.prog 94 #[.pointer (some ⟨B, 0, none⟩)] w (Did w B fm ds fd (stepA (x, ms))) := by
 obtain ⟨ha, hdn, hl, _, hbr, hb0, hbs, hwb, hwl⟩ := next_zero hk
 have hlo := arr_lost ha
 have hne := lost_pos (.inr hl)
 obtain ⟨g1, g2, g3, g4⟩ := geoB_iff.1 (arr_split.1 ha).1
 obtain ⟨fc, mk, _⟩ := arr_facts ha
 have hln := arr_len ha
 have i1 : (0 : Int) <= x.lost := by omega
 have hlt9 : ((x.lost.toNat : Nat) : Int) = x.lost := by omega
 have hm : x.lost.toNat < ms.length := by omega
 have hflag : flagAt ms x.lost.toNat = false := by unfold lostT at hl; simp only [Bool.and_eq_true, Bool.not_eq_true'] at hl; exact hl.2
 have HA := hidden h
 have hlB := h.lt
 have hlm := h.ltm.1
 have HSA : Hid (stepA (x, ms) = if (stepQ (x, ms)).1.down = true then stepQ (x, ms) else ({(stepQ (x, ms)).1 with built := (stepQ (x, ms)).1.built + 1}, (stepQ (x, ms)).2)) := by unfold Hid stepA; rw [if_pos hwb]
 have HSQ : Hid (stepQ (x, ms) = runS (x, ms) [wrK (dataN x.built) [(words6 x ms x.built).getD x.lost.toNat 0] x.lost.toNat]) := rfl
 have HSN := hidden (runS_keeps (q := (x, ms)) mk fc [wrK (dataN x.built) [(words6 x ms x.built).getD x.lost.toNat 0] x.lost.toNat]).2.1
 have hwn : (words6 x ms x.built).length = x.n.toNat := words6_len hwb
 obtain ⟨bm, bd, cm, cd, X, hmm, hdd, hr, r1, r2⟩ := h
 unfold arrC at X
 have HM := hidden hmm.rd
 have HD := hidden hdd.rd
 have hS : w.drew.cell? ⟨B, 0, none⟩ = some (.int .i64 x.id) /\ w.drew.cell? ⟨B, 1, none⟩ = some (.int .i64 x.n) /\ w.drew.cell? ⟨B, 2, none⟩ = some (.int .i64 x.s) /\ w.drew.cell? ⟨B, 3, none⟩ = some (.slice bm ms.length cm) /\ w.drew.cell? ⟨B, 4, none⟩ = some (.int .i64 x.lost) /\ w.drew.cell? ⟨B, 5, none⟩ = some (.int .i64 x.built) /\ w.drew.cell? ⟨B, 6, none⟩ = some (.int .i64 x.seq) /\ w.drew.cell? ⟨B, 7, none⟩ = some (.int .i64 x.tail) /\ w.drew.cell? ⟨B, 8, none⟩ = some (.int .i64 x.gen) /\ w.drew.cell? ⟨B, 9, none⟩ = some (.slice bd ds.length cd) /\ w.drew.cell? ⟨B, 10, none⟩ = some (.int .i64 x.fuse) /\ w.drew.cell? ⟨B, 11, none⟩ = some (.bool x.down) /\ w.drew.cell? ⟨B, 12, none⟩ = some (.bool x.broken) := X.cells13
 have HDN := hidden hdn
 have hwr : IntKind.i64.wrap (x.built + 1) = x.built + 1 := IntWalk.i64_in _ (by omega)
 clear hmm hdd hr r1 r2 X ha hdn hl hbr hwb hne
 go_enter Tryz.func94, Tryz.ntmps94
 go_wp2_with fail
 refine wp_region_held_drew (S := fun w' => w'.cell? ⟨B, 0, none⟩ = some (.int .i64 x.id) /\ w'.cell? ⟨B, 1, none⟩ = some (.int .i64 x.n) /\ w'.cell? ⟨B, 2, none⟩ = some (.int .i64 x.s) /\ w'.cell? ⟨B, 3, none⟩ = some (.slice bm ms.length cm) /\ w'.cell? ⟨B, 4, none⟩ = some (.int .i64 x.lost) /\ w'.cell? ⟨B, 5, none⟩ = some (.int .i64 x.built) /\ w'.cell? ⟨B, 6, none⟩ = some (.int .i64 x.seq) /\ w'.cell? ⟨B, 7, none⟩ = some (.int .i64 x.tail) /\ w'.cell? ⟨B, 8, none⟩ = some (.int .i64 x.gen) /\ w'.cell? ⟨B, 9, none⟩ = some (.slice bd ds.length cd) /\ w'.cell? ⟨B, 10, none⟩ = some (.int .i64 x.fuse) /\ w'.cell? ⟨B, 11, none⟩ = some (.bool x.down) /\ w'.cell? ⟨B, 12, none⟩ = some (.bool x.broken)) (by kernel_rfl) ?_ (fun hHeld => ?_)
 . exact hS
 refine held_t 0 hHeld ?_
 refine held_t 1 hHeld ?_
 refine held_t 2 hHeld ?_
 refine held_t 3 hHeld ?_
 refine held_t 4 hHeld ?_
 refine held_t 5 hHeld ?_
 refine held_t 6 hHeld ?_
 refine held_one (i := 7) (by kernel_rfl) rfl (by kernel_rfl) (fun K hK => ?_)
 go_simp
 refine (implWords_any _ _ _ _ x _ _ _ _ _ _ ms ds x.built HM.out.drew HD.out.drew hw).mono ?_
 rintro e w1 ⟨a1, l1, c1, rfl, o1, b1'⟩
 have b1 : Below w.heap.size w w1 := (Below.refl w.heap.size w).drew.trans b1'
 have o1b : tIntS.Own w1 w.heap.size w1.heap.size [.slice a1 l1 c1] (wordsL6 x ms ds x.built) := o1
 rw [hwl] at o1b
 have hS1 : w1.cell? ⟨B, 0, none⟩ = some (.int .i64 x.id) /\ w1.cell? ⟨B, 1, none⟩ = some (.int .i64 x.n) /\ w1.cell? ⟨B, 2, none⟩ = some (.int .i64 x.s) /\ w1.cell? ⟨B, 3, none⟩ = some (.slice bm ms.length cm) /\ w1.cell? ⟨B, 4, none⟩ = some (.int .i64 x.lost) /\ w1.cell? ⟨B, 5, none⟩ = some (.int .i64 x.built) /\ w1.cell? ⟨B, 6, none⟩ = some (.int .i64 x.seq) /\ w1.cell? ⟨B, 7, none⟩ = some (.int .i64 x.tail) /\ w1.cell? ⟨B, 8, none⟩ = some (.int .i64 x.gen) /\ w1.cell? ⟨B, 9, none⟩ = some (.slice bd ds.length cd) /\ w1.cell? ⟨B, 10, none⟩ = some (.int .i64 x.fuse) /\ w1.cell? ⟨B, 11, none⟩ = some (.bool x.down) /\ w1.cell? ⟨B, 12, none⟩ = some (.bool x.broken) := ⟨(b1.cell (p := ⟨B, 0, none⟩) hlB).trans hS.1, (b1.cell (p := ⟨B, 1, none⟩) hlB).trans hS.2.1, (b1.cell (p := ⟨B, 2, none⟩) hlB).trans hS.2.2.1, (b1.cell (p := ⟨B, 3, none⟩) hlB).trans hS.2.2.2.1, (b1.cell (p := ⟨B, 4, none⟩) hlB).trans hS.2.2.2.2.1, (b1.cell (p := ⟨B, 5, none⟩) hlB).trans hS.2.2.2.2.2.1, (b1.cell (p := ⟨B, 6, none⟩) hlB).trans hS.2.2.2.2.2.2.1, (b1.cell (p := ⟨B, 7, none⟩) hlB).trans hS.2.2.2.2.2.2.2.1, (b1.cell (p := ⟨B, 8, none⟩) hlB).trans hS.2.2.2.2.2.2.2.2.1, (b1.cell (p := ⟨B, 9, none⟩) hlB).trans hS.2.2.2.2.2.2.2.2.2.1, (b1.cell (p := ⟨B, 10, none⟩) hlB).trans hS.2.2.2.2.2.2.2.2.2.2.1, (b1.cell (p := ⟨B, 11, none⟩) hlB).trans hS.2.2.2.2.2.2.2.2.2.2.2.1, (b1.cell (p := ⟨B, 12, none⟩) hlB).trans hS.2.2.2.2.2.2.2.2.2.2.2.2⟩
 have OW := hidden o1b
 have B1 := hidden b1
 have z1 := b1.size
 clear o1 o1b b1 b1' hHeld
 go_wp2_with fail
 refine hK.out _ _ ?_ (fun hHeld => ?_)
 . exact hS1
 clear hK K
 refine held_t 8 hHeld ?_
 refine held_t 9 hHeld ?_
 refine held_t 10 hHeld ?_
 refine held_t 11 hHeld ?_
 refine held_t 12 hHeld ?_
 refine wpAnyH_done (by kernel_rfl) ?_ _
 have HA1 := hidden (HA.out.below B1.out)
 have MV1 := hidden ((Moved.refl B fm w).below B1.out)
 have k4 := hS1.2.2.2.2.1
 have k5 := hS1.2.2.2.2.2.1
 clear hHeld hS hS1 HM HD
 obtain ⟨hln1, _⟩ := row_length OW.out.rd
 subst hln1
 obtain ⟨fw, mw, rw1⟩ := OW.out.mine
 generalize words6 x ms x.built = ps at mw OW hwn HSQ HSN ⊢
 have hmp : x.lost.toNat < ps.length := by omega
 clear hwn hwl
 rcases (ints_rd mw.rd).1.cases with h0 | ⟨gb, off, hgo, hgl, hcz⟩
 . omega
 subst hgo
 have hcm := hcz x.lost.toNat hmp
 generalize hy : ps.getD x.lost.toNat 0 = y at hcm HSQ HSN
 have HY := hidden hy
 clear hy
 have hT : w1.drew.cell? ⟨B, 4, none⟩ = some (.int .i64 x.lost) /\ w1.drew.cell? ⟨B, 5, none⟩ = some (.int .i64 x.built) /\ w1.drew.cell? ⟨gb, off + x.lost.toNat, none⟩ = some (.int .i64 y) := ⟨k4, k5, hcm⟩
 have i3 : x.lost < (ps.length : Int) := by omega
 clear hcz
 go_wp2_with fail
 refine wp_region_held_drew (S := fun w' => w'.cell? ⟨B, 4, none⟩ = some (.int .i64 x.lost) /\ w'.cell? ⟨B, 5, none⟩ = some (.int .i64 x.built) /\ w'.cell? ⟨gb, off + x.lost.toNat, none⟩ = some (.int .i64 y)) (by kernel_rfl) ?_ (fun hHeld => ?_)
 . exact hT
 refine held_t 0 hHeld ?_
 refine held_t 1 hHeld ?_
 refine held_t 2 hHeld ?_
 refine held_t 3 hHeld ?_
 refine held_t 4 hHeld ?_
 refine held_t 5 hHeld ?_
 refine held_t 6 hHeld ?_
 refine held_t 7 hHeld ?_
 refine held_t 8 hHeld ?_
 refine held_t 9 hHeld ?_
 refine held_t 11 hHeld ?_
 refine held_t 12 hHeld ?_
 refine held_t 13 hHeld ?_
 refine held_t 14 hHeld ?_
 refine held_t 15 hHeld ?_
 refine held_t 16 hHeld ?_
 refine held_t 17 hHeld ?_
 have bn := new_below w1 (.cells #[.int .i64 y] 3)
 have zn : (w1.alloc (.cells #[.int .i64 y] 3)).heap.size = w1.heap.size + 1 := by simp
 have hT2 : (w1.alloc (.cells #[.int .i64 y] 3)).drew.cell? ⟨B, 4, none⟩ = some (.int .i64 x.lost) /\ (w1.alloc (.cells #[.int .i64 y] 3)).drew.cell? ⟨B, 5, none⟩ = some (.int .i64 x.built) /\ (w1.alloc (.cells #[.int .i64 y] 3)).drew.cell? ⟨gb, off + x.lost.toNat, none⟩ = some (.int .i64 y) := ⟨(bn.cell (p := ⟨B, 4, none⟩) (show B < w1.heap.size by omega)).trans k4, (bn.cell (p := ⟨B, 5, none⟩) (show B < w1.heap.size by omega)).trans k5, (bn.cell (p := ⟨gb, off + x.lost.toNat, none⟩) hgl).trans hcm⟩
 have osec := own_ints (Owns.lit .i64 3 w1 [y] 1 #[.int .i64 y] rfl rfl (by unfold maxLen; omega))
 obtain ⟨fs, msec, rs⟩ := osec.mine
 have HA2 := hidden (HA1.out.below bn).drew
 have MV2 := hidden (MV1.out.below bn).drew
 have MS : Hid (tIntS.Mine (w1.alloc (.cells #[.int .i64 y] 3)).drew [.slice (some ⟨w1.heap.size, 0, none⟩) 1 1] [y] fs) := msec.below ((Below.refl _ _).drew)
 have MW := hidden ((mw.below bn).below ((Below.refl _ _).drew))
 have RW := hidden rw1
 have RS := hidden rs
 clear osec msec rs bn
 refine held_two (i := 10) (i' := 18) (by kernel_rfl) rfl rfl (by kernel_rfl) (by kernel_rfl) (fun K hK => ?_) (fun K hK => ?_)
 . go_simp
   refine (implDataAt_any _ x.built).mono ?_
   rintro e w1d ⟨rfl, hwd⟩
   subst hwd
   clear hHeld
   go_wp2_with fail
   refine hK.out _ _ ?_ (fun hHeld => ?_)
   . exact hT
   clear hK K hHeld
   refine held_one (i := 18) (by kernel_rfl) rfl (by kernel_rfl) (fun K hK => ?_)
   go_simp
   refine hK.out _ _ ?_ (fun hHeld => ?_)
   . exact hT2
   clear hK K hHeld
   have zS2 : w1.heap.size < (w1.alloc (.cells #[.int .i64 y] 3)).drew.heap.size := by simp
   generalize (w1.alloc (.cells #[.int .i64 y] 3)).drew = w2 at hT2 HA2 MV2 MS MW zS2 ⊢
   have zw2 := MV2.out.size
   have HWO := hidden (writeOp_any w2 B x.lost.toNat (dataN x.built) (some ⟨w1.heap.size, 0, none⟩) 1 [y] fs MS.out (by simp))
   rw [hlt9] at HWO
   refine held_one (i := 19) (by kernel_rfl) rfl (by kernel_rfl) (fun K hK => ?_)
   go_simp
   refine HWO.out.mono ?_
   rintro e w3 ⟨v, fp, rfl, mv, hfp, b3⟩
   have hvv : ∃ F cp, v = .func (Fn.func F) #[] cp := by obtain ⟨⟨F, cp, h1, _⟩, _⟩ := mv; simp only [List.cons.injEq, and_true] at h1; exact ⟨F, cp, h1⟩
   obtain ⟨Fv, cpv, rfl⟩ := hvv
   have bn3 := new_below w3 (.cells #[.func (Fn.func Fv) #[] cpv] 131)
   have M3 := lit1_mine (E := 131) rfl mv
   have b23 := Below.andThen b3 bn3
   have z3 := b3.size
   have zn3 : (w3.alloc (.cells #[.func (Fn.func Fv) #[] cpv] 131)).heap.size = w3.heap.size + 1 := by simp
   have hT3 : w3.cell? ⟨B, 4, none⟩ = some (.int .i64 x.lost) /\ w3.cell? ⟨B, 5, none⟩ = some (.int .i64 x.built) /\ w3.cell? ⟨gb, off + x.lost.toNat, none⟩ = some (.int .i64 y) := ⟨(b3.cell (p := ⟨B, 4, none⟩) (show B < w2.heap.size by omega)).trans hT2.1, (b3.cell (p := ⟨B, 5, none⟩) (show B < w2.heap.size by omega)).trans hT2.2.1, (b3.cell (p := ⟨gb, off + x.lost.toNat, none⟩) (show gb < w2.heap.size by omega)).trans hT2.2.2⟩
   have hT4 : (w3.alloc (.cells #[.func (Fn.func Fv) #[] cpv] 131)).cell? ⟨B, 4, none⟩ = some (.int .i64 x.lost) /\ (w3.alloc (.cells #[.func (Fn.func Fv) #[] cpv] 131)).cell? ⟨B, 5, none⟩ = some (.int .i64 x.built) /\ (w3.alloc (.cells #[.func (Fn.func Fv) #[] cpv] 131)).cell? ⟨gb, off + x.lost.toNat, none⟩ = some (.int .i64 y) := ⟨(b23.cell (p := ⟨B, 4, none⟩) (show B < w2.heap.size by omega)).trans hT2.1, (b23.cell (p := ⟨B, 5, none⟩) (show B < w2.heap.size by omega)).trans hT2.2.1, (b23.cell (p := ⟨gb, off + x.lost.toNat, none⟩) (show gb < w2.heap.size by omega)).trans hT2.2.2⟩
   have hfp1 : ∀ b ∈ (w3.heap.size :: fp), w1.heap.size <= b := fun b hb => by
    rcases List.mem_cons.1 hb with rfl | hb
    . omega
    rcases hfp b hb with h | h
    . have := (RS.out b h).1; omega
    omega
   have HPF := hidden (perform_any (w3.alloc (.cells #[.func (Fn.func Fv) #[] cpv] 131)) B x ms ds fm fd (HA2.out.below b23) fc HDN.out mk (some ⟨w3.heap.size, 0, none⟩) 1 [wrK (dataN x.built) [y] x.lost.toNat] (w3.heap.size :: fp) M3 (fun b hb => by have := hfp1 b hb; exact ⟨by omega, fun hm' => by have := hlm b hm'; omega⟩) (fun o ho => by simp at ho; subst ho; exact ⟨hm, hflag⟩))
   have MV3 := hidden (MV2.out.below b23)
   have MW3 := hidden (MW.out.below b23)
   rw [← HSQ.out] at HPF
   clear mv M3 b3 bn3 b23 HA2 MV2 MW hfp1 hfp HWO
   go_wp2_with fail
   refine hK.out _ _ ?_ (fun hHeld => ?_)
   . exact hT3
   clear hK K hHeld
   refine held_one (i := 20) (by kernel_rfl) rfl (by kernel_rfl) (fun K hK => ?_)
   go_simp
   refine hK.out _ _ ?_ (fun hHeld => ?_)
   . exact hT4
   clear hK K hHeld
   generalize w3.alloc (.cells #[.func (Fn.func Fv) #[] cpv] 131) = w4 at HPF MV3 MW3 hT4 zn3 ⊢
   refine held_one (i := 21) (by kernel_rfl) rfl (by kernel_rfl) (fun K hK => ?_)
   go_simp
   refine HPF.out.mono ?_
   rintro e w5 ⟨he, fm5, A5, M5⟩
   have MV5 := hidden (MV3.out.trans M5)
   rw [← HSQ.out] at HSN
   have hbw := M5.mine MW3.out (fun hm' => by have := (RW.out _ hm').1; omega) (fun b hb hm' => by have h1 := (RW.out b hb).1; have h2 := hlm b hm'; omega)
   clear HPF M5 MV3 MW3 hT hT2 hT3 hT4
   generalize stepQ (x, ms) = st at he A5 HSA HSN
   obtain ⟨z, os⟩ := st
   dsimp only at he A5 HSA HSN
   unfold EndOf at he
   cases hd : z.down
   . rw [if_neg (by simp [hd])] at he
     subst he
     have HV : Hid (stepA (x, ms) = ({z with built := z.built + 1}, os)) := by unfold Hid; rw [HSA.out, if_neg (by simp [hd])]
     have HE := hidden (EndOf.fine (y := {z with built := z.built + 1}) hd)
     obtain ⟨d4, d5, _, d11, _, fz⟩ := arr_cells A5
     have hb5 : z.built = x.built := HSN.out.2.2.2.2.1
     have hT5 : w5.cell? ⟨B, 4, none⟩ = some (.int .i64 x.lost) /\ w5.cell? ⟨B, 5, none⟩ = some (.int .i64 x.built) /\ w5.cell? ⟨gb, off + x.lost.toNat, none⟩ = some (.int .i64 y) := by
      refine ⟨?_, ?_, ?_⟩
      . rw [d4, HSN.out.2.2.2.1]
      . rw [d5, hb5]
      rcases (ints_rd hbw.rd).1.cases with h0 | ⟨gb2, off2, hgo2, _, hcz2⟩
      . omega
      simp at hgo2
      obtain ⟨rfl, rfl⟩ := hgo2
      rw [hcz2 x.lost.toNat hmp, HY.out]
     have HA6 := hidden (arr_built0 A5 (z.built + 1))
     have MV6 := hidden (MV5.out.trans (Moved.set (B := B) (j := 5) (fm := fm5) (w := w5) (.int .i64 (z.built + 1))))
     rw [hb5] at d5 HA6 MV6 HE HV
     clear hd hbw A5 MV5 HSA HSN hb5 d4 d11
     go_wp2_with fail
     refine hK.out _ _ ?_ (fun hHeld => ?_)
     . exact hT5
     clear hK K hHeld hT5
     refine wpAnyH_done (by kernel_rfl) ?_ _
     go_wp2
     refine bodyPost_end (v := .tuple #[]) (results_none rfl _ _ _) rfl ?_
     exact ⟨by rw [HV.out]; exact HE.out, fm5, by rw [HV.out]; exact HA6.out, MV6.out⟩
   rw [if_pos hd] at he
   subst he
   have HV : Hid (stepA (x, ms) = (z, os)) := by unfold Hid; rw [HSA.out, if_pos hd]
   have HE := hidden (EndOf.gone hd)
   have HA5 := hidden A5
   clear hd hbw A5 HSA HSN
   go_wp2
   exact ⟨rfl, by rw [HV.out]; exact HE.out, fm5, by rw [HV.out]; exact HA5.out, MV5.out⟩
 go_simp
 refine hK.out _ _ ?_ (fun hHeld => ?_)
 . exact hT2
 clear hK K hHeld
 refine held_one (i := 10) (by kernel_rfl) rfl (by kernel_rfl) (fun K hK => ?_)
 go_simp
 refine (implDataAt_any _ x.built).mono ?_
 rintro e w1d ⟨rfl, hwd⟩
 subst hwd
 go_wp2_with fail
 refine hK.out _ _ ?_ (fun hHeld => ?_)
 . exact hT2
 clear hK K hHeld
 have zS2 : w1.heap.size < (w1.alloc (.cells #[.int .i64 y] 3)).drew.heap.size := by simp
 generalize (w1.alloc (.cells #[.int .i64 y] 3)).drew = w2 at hT2 HA2 MV2 MS MW zS2 ⊢
 have zw2 := MV2.out.size
 have HWO := hidden (writeOp_any w2 B x.lost.toNat (dataN x.built) (some ⟨w1.heap.size, 0, none⟩) 1 [y] fs MS.out (by simp))
 rw [hlt9] at HWO
 refine held_one (i := 19) (by kernel_rfl) rfl (by kernel_rfl) (fun K hK => ?_)
 go_simp
 refine HWO.out.mono ?_
 rintro e w3 ⟨v, fp, rfl, mv, hfp, b3⟩
 have hvv : ∃ F cp, v = .func (Fn.func F) #[] cp := by obtain ⟨⟨F, cp, h1, _⟩, _⟩ := mv; simp only [List.cons.injEq, and_true] at h1; exact ⟨F, cp, h1⟩
 obtain ⟨Fv, cpv, rfl⟩ := hvv
 have bn3 := new_below w3 (.cells #[.func (Fn.func Fv) #[] cpv] 131)
 have M3 := lit1_mine (E := 131) rfl mv
 have b23 := Below.andThen b3 bn3
 have z3 := b3.size
 have zn3 : (w3.alloc (.cells #[.func (Fn.func Fv) #[] cpv] 131)).heap.size = w3.heap.size + 1 := by simp
 have hT3 : w3.cell? ⟨B, 4, none⟩ = some (.int .i64 x.lost) /\ w3.cell? ⟨B, 5, none⟩ = some (.int .i64 x.built) /\ w3.cell? ⟨gb, off + x.lost.toNat, none⟩ = some (.int .i64 y) := ⟨(b3.cell (p := ⟨B, 4, none⟩) (show B < w2.heap.size by omega)).trans hT2.1, (b3.cell (p := ⟨B, 5, none⟩) (show B < w2.heap.size by omega)).trans hT2.2.1, (b3.cell (p := ⟨gb, off + x.lost.toNat, none⟩) (show gb < w2.heap.size by omega)).trans hT2.2.2⟩
 have hT4 : (w3.alloc (.cells #[.func (Fn.func Fv) #[] cpv] 131)).cell? ⟨B, 4, none⟩ = some (.int .i64 x.lost) /\ (w3.alloc (.cells #[.func (Fn.func Fv) #[] cpv] 131)).cell? ⟨B, 5, none⟩ = some (.int .i64 x.built) /\ (w3.alloc (.cells #[.func (Fn.func Fv) #[] cpv] 131)).cell? ⟨gb, off + x.lost.toNat, none⟩ = some (.int .i64 y) := ⟨(b23.cell (p := ⟨B, 4, none⟩) (show B < w2.heap.size by omega)).trans hT2.1, (b23.cell (p := ⟨B, 5, none⟩) (show B < w2.heap.size by omega)).trans hT2.2.1, (b23.cell (p := ⟨gb, off + x.lost.toNat, none⟩) (show gb < w2.heap.size by omega)).trans hT2.2.2⟩
 have hfp1 : ∀ b ∈ (w3.heap.size :: fp), w1.heap.size <= b := fun b hb => by
  rcases List.mem_cons.1 hb with rfl | hb
  . omega
  rcases hfp b hb with h | h
  . have := (RS.out b h).1; omega
  omega
 have HPF := hidden (perform_any (w3.alloc (.cells #[.func (Fn.func Fv) #[] cpv] 131)) B x ms ds fm fd (HA2.out.below b23) fc HDN.out mk (some ⟨w3.heap.size, 0, none⟩) 1 [wrK (dataN x.built) [y] x.lost.toNat] (w3.heap.size :: fp) M3 (fun b hb => by have := hfp1 b hb; exact ⟨by omega, fun hm' => by have := hlm b hm'; omega⟩) (fun o ho => by simp at ho; subst ho; exact ⟨hm, hflag⟩))
 have MV3 := hidden (MV2.out.below b23)
 have MW3 := hidden (MW.out.below b23)
 rw [← HSQ.out] at HPF
 clear mv M3 b3 bn3 b23 HA2 MV2 MW hfp1 hfp HWO
 go_wp2_with fail
 refine hK.out _ _ ?_ (fun hHeld => ?_)
 . exact hT3
 clear hK K hHeld
 refine held_one (i := 20) (by kernel_rfl) rfl (by kernel_rfl) (fun K hK => ?_)
 go_simp
 refine hK.out _ _ ?_ (fun hHeld => ?_)
 . exact hT4
 clear hK K hHeld
 generalize w3.alloc (.cells #[.func (Fn.func Fv) #[] cpv] 131) = w4 at HPF MV3 MW3 hT4 zn3 ⊢
 refine held_one (i := 21) (by kernel_rfl) rfl (by kernel_rfl) (fun K hK => ?_)
 go_simp
 refine HPF.out.mono ?_
 rintro e w5 ⟨he, fm5, A5, M5⟩
 have MV5 := hidden (MV3.out.trans M5)
 rw [← HSQ.out] at HSN
 have hbw := M5.mine MW3.out (fun hm' => by have := (RW.out _ hm').1; omega) (fun b hb hm' => by have h1 := (RW.out b hb).1; have h2 := hlm b hm'; omega)
 clear HPF M5 MV3 MW3 hT hT2 hT3 hT4
 generalize stepQ (x, ms) = st at he A5 HSA HSN
 obtain ⟨z, os⟩ := st
 dsimp only at he A5 HSA HSN
 unfold EndOf at he
 cases hd : z.down
 . rw [if_neg (by simp [hd])] at he
   subst he
   have HV : Hid (stepA (x, ms) = ({z with built := z.built + 1}, os)) := by unfold Hid; rw [HSA.out, if_neg (by simp [hd])]
   have HE := hidden (EndOf.fine (y := {z with built := z.built + 1}) hd)
   obtain ⟨d4, d5, _, d11, _, fz⟩ := arr_cells A5
   have hb5 : z.built = x.built := HSN.out.2.2.2.2.1
   have hT5 : w5.cell? ⟨B, 4, none⟩ = some (.int .i64 x.lost) /\ w5.cell? ⟨B, 5, none⟩ = some (.int .i64 x.built) /\ w5.cell? ⟨gb, off + x.lost.toNat, none⟩ = some (.int .i64 y) := by
    refine ⟨?_, ?_, ?_⟩
    . rw [d4, HSN.out.2.2.2.1]
    . rw [d5, hb5]
    rcases (ints_rd hbw.rd).1.cases with h0 | ⟨gb2, off2, hgo2, _, hcz2⟩
    . omega
    simp at hgo2
    obtain ⟨rfl, rfl⟩ := hgo2
    rw [hcz2 x.lost.toNat hmp, HY.out]
   have HA6 := hidden (arr_built0 A5 (z.built + 1))
   have MV6 := hidden (MV5.out.trans (Moved.set (B := B) (j := 5) (fm := fm5) (w := w5) (.int .i64 (z.built + 1))))
   rw [hb5] at d5 HA6 MV6 HE HV
   clear hd hbw A5 MV5 HSA HSN hb5 d4 d11
   go_wp2_with fail
   refine hK.out _ _ ?_ (fun hHeld => ?_)
   . exact hT5
   clear hK K hHeld hT5
   refine wpAnyH_done (by kernel_rfl) ?_ _
   go_wp2
   refine bodyPost_end (v := .tuple #[]) (results_none rfl _ _ _) rfl ?_
   exact ⟨by rw [HV.out]; exact HE.out, fm5, by rw [HV.out]; exact HA6.out, MV6.out⟩
 rw [if_pos hd] at he
 subst he
 have HV : Hid (stepA (x, ms) = (z, os)) := by unfold Hid; rw [HSA.out, if_pos hd]
 have HE := hidden (EndOf.gone hd)
 have HA5 := hidden A5
 clear hd hbw A5 HSA HSN
 go_wp2
 exact ⟨rfl, by rw [HV.out]; exact HE.out, fm5, by rw [HV.out]; exact HA5.out, MV5.out⟩

end Go.Proofs.YtechckninoilhaaGreat

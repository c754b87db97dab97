/-
 The specification's BuildStep walked. Condition: the array weighs at most 2097152.
-/
import Derived.Test.YtechckninoilhaaGreatRowBuildAllAll7
import Derived.Test.YtechckninoilhaaGreatHeld
import Derived.Test.YtechckninoilhaaGreatWalkArr
import Derived.Test.YtechckninoilhaaGreatRowBuildAllAll12
import Derived.Test.YtechckninoilhaaGreatRowBuildAllAll8
import Derived.Test.YtechckninoilhaaGreatRowBuildAllAll6
import Derived.Test.YtechckninoilhaaGreatRowBuildAllAll9
import Derived.Test.YtechckninoilhaaGreatOut8

set_option maxRecDepth 100000
set_option maxHeartbeats 8000000
set_option linter.unusedSimpArgs false

namespace Go.Proofs.YtechckninoilhaaGreat
open Go.RowKit

theorem turnC_zero {code : Int} {q : ArrN × List MemD} (h : turnC code q = 0) : code = 0 /\ q.1.down = false := by
 unfold turnC at h
 by_cases hc : code = 0
 . rw [if_pos hc] at h
   refine ⟨hc, ?_⟩
   cases hd : q.1.down
   . rfl
   rw [hd] at h; cases h
 rw [if_neg hc] at h; exact absurd h hc
theorem spare_good_num {ds : List (Int × List Int)} {q : ArrN × List MemD} (h : (spareT ds q).2 = 0) : (spareT ds q).1.1.built = 0 /\ (spareT ds q).1.1.s = q.1.s /\ geoB q.1.n q.1.s = true := by
 unfold spareT at h ⊢
 dsimp only at h ⊢
 obtain ⟨hk, _⟩ := turnC_zero h
 unfold turnQ
 rw [if_pos hk]
 have ha := spare_arr hk
 obtain ⟨fc, mk, _⟩ := arr_facts ha
 have k := markS_same (q := ({q.1 with built := 0}, q.2.set q.1.lost.toNat (spareM q.1.s))) mk fc
 obtain ⟨_, _, k3, _, k5, _⟩ := k
 exact ⟨k5, k3, (arr_split.1 (spare_zero hk).1).1⟩
theorem step_good_num {ds : List (Int × List Int)} {q : ArrN × List MemD} (h : (stepT ds q).2 = 0) : (stepT ds q).1.1.built = q.1.built + 1 /\ (stepT ds q).1.1.s = q.1.s := by
 unfold stepT at h ⊢
 dsimp only at h ⊢
 obtain ⟨hk, hd⟩ := turnC_zero h
 unfold turnQ
 rw [if_pos hk]
 obtain ⟨ha, _, _, _, _, _, _, hwb, _⟩ := next_zero hk
 obtain ⟨fc, mk, _⟩ := arr_facts ha
 have k := (runS_keeps (q := q) mk fc [wrK (dataN q.1.built) [(words6 q.1 q.2 q.1.built).getD q.1.lost.toNat 0] q.1.lost.toNat]).2.1
 have k' : SameN q.1 (stepQ q).1 := k
 have hd2 : (stepQ q).1.down = false := by rw [← stepA_down hwb]; exact hd
 unfold stepA
 rw [if_pos hwb, if_neg (by rw [hd2]; simp)]
 obtain ⟨_, _, k3, _, k5, _⟩ := k'
 exact ⟨by dsimp only; rw [k5], k3⟩
def restT (ds : List (Int × List Int)) (q : ArrN × List MemD) : (ArrN × List MemD) × Int := runT (List.replicate (q.1.s - q.1.built).toNat (stepT ds) ++ [adoptT ds]) q
theorem rest_end {ds : List (Int × List Int)} {q : ArrN × List MemD} (h : ¬ q.1.built < q.1.s) : restT ds q = adoptT ds q := by
 unfold restT
 rw [show (q.1.s - q.1.built).toNat = 0 by omega]
 exact runT_one (adoptT ds) q
theorem rest_bad {ds : List (Int × List Int)} {q : ArrN × List MemD} (h : q.1.built < q.1.s) (hc : (stepT ds q).2 ≠ 0) : restT ds q = stepT ds q := by
 unfold restT
 obtain ⟨k, hk⟩ : ∃ k, (q.1.s - q.1.built).toNat = k + 1 := ⟨(q.1.s - q.1.built).toNat - 1, by omega⟩
 rw [hk, List.replicate_succ, List.cons_append]
 exact if_neg hc
theorem rest_good {ds : List (Int × List Int)} {q : ArrN × List MemD} (h : q.1.built < q.1.s) (hc : (stepT ds q).2 = 0) : restT ds (stepT ds q).1 = restT ds q := by
 obtain ⟨e1, e2⟩ := step_good_num hc
 unfold restT
 rw [e1, e2]
 obtain ⟨k, hk⟩ : ∃ k, (q.1.s - q.1.built).toNat = k + 1 := ⟨(q.1.s - q.1.built).toNat - 1, by omega⟩
 rw [hk, show (q.1.s - (q.1.built + 1)).toNat = k by omega, List.replicate_succ, List.cons_append]
 exact (if_pos hc).symm
theorem ball_bad {ds : List (Int × List Int)} {q : ArrN × List MemD} (hc : (spareT ds q).2 ≠ 0) : ballT ds q = spareT ds q := by unfold ballT ballL; exact if_neg hc
theorem ball_good {ds : List (Int × List Int)} {q : ArrN × List MemD} (hc : (spareT ds q).2 = 0) : restT ds (spareT ds q).1 = ballT ds q := by
 obtain ⟨e1, e2, e3⟩ := spare_good_num hc
 unfold restT ballT ballL
 rw [e1, e2, strN_of e3, Int.sub_zero]
 exact (if_pos hc).symm
def BallSt (w : World) (R BO : Nat) (ds : List (Int × List Int)) (t : (ArrN × List MemD) × Int) (n : Nat) (wr : World) : Prop :=
 ∃ (q : ArrN × List MemD) (bm bd : Option Addr) (cm cd : Nat) (fm fd : List Nat), (q.1.s - q.1.built).toNat <= n /\ restT ds q = t /\ wtArr q.2 ds <= 2097152 /\ Box wr BO 33 (arrC q.1 (.slice bm q.2.length cm) (.slice bd ds.length cd)) /\ (tMemS 109 51).Mine wr [.slice bm q.2.length cm] q.2 fm /\ (tWrS 82).Mine wr [.slice bd ds.length cd] ds fd /\ (∀ b ∈ fm, b ∉ fd) /\ (∀ b ∈ fm, R < b /\ b ≠ BO) /\ (∀ b ∈ fd, R < b /\ b ≠ BO) /\ Box wr R 33 #[.int .i64 0, .int .i64 0, .int .i64 0, .slice none 0 0, .int .i64 0, .int .i64 0, .int .i64 0, .int .i64 0, .int .i64 0, .slice none 0 0, .int .i64 0, .bool false, .bool false] /\ Below w.heap.size w wr

theorem l6Copy_any (w : World) (E F G : TypeId) (x : ArrN) (am ad : Option Addr) (nm cm nd cd : Nat) (ms : List MemD) (ds : List (Int × List Int)) (h0 : (tMemS E F).Rd w [.slice am nm cm] ms) (h1 : (tWrS G).Rd w [.slice ad nd cd] ds) (hw : wtArr ms ds <= 2097152) :
 Calls Tryz.prog 25 #[.agg #[.int .i64 x.id, .int .i64 x.n, .int .i64 x.s, .slice am nm cm, .int .i64 x.lost, .int .i64 x.built, .int .i64 x.seq, .int .i64 x.tail, .int .i64 x.gen, .slice ad nd cd, .int .i64 x.fuse, .bool x.down, .bool x.broken]] w fun e w' => ∃ bm cm' bd cd' m, e = .returned (.agg #[.int .i64 x.id, .int .i64 x.n, .int .i64 x.s, .slice bm nm cm', .int .i64 x.lost, .int .i64 x.built, .int .i64 x.seq, .int .i64 x.tail, .int .i64 x.gen, .slice bd nd cd', .int .i64 x.fuse, .bool x.down, .bool x.broken]) /\ (tMemS 109 51).Own w' w.heap.size m [.slice bm nm cm'] ms /\ (tWrS 82).Own w' m w'.heap.size [.slice bd nd cd'] ds /\ w.heap.size <= m /\ m <= w'.heap.size /\ Below w.heap.size w w' := by
 have hwm : wtMemS ms <= 2097152 := by unfold wtArr at hw; omega
 have hwd : wtWrS ds <= 2097152 := by unfold wtArr at hw; omega
 obtain ⟨hl0, _, hm0⟩ := row_length h0
 obtain ⟨hl1, _, hm1⟩ := row_length h1
 have hn0 : nm <= 2097152 := by unfold wtMemS at hwm; omega
 have hn1 : nd <= 2097152 := by unfold wtWrS at hwd; omega
 obtain ⟨i3, hi3, hx0, hx1, hx2⟩ := info_parts Tryz.info3
 obtain ⟨i1, hi1, hy0, hy1, hy2⟩ := info_parts Tryz.infoEnt
 obtain ⟨i4, hi4, hz0, hz1, hz2⟩ := info_parts Tryz.infoMem
 have zz : ∀ u : World, ∀ ob : Obj, (u.alloc ob).heap.size = u.heap.size + 1 := fun u ob => by simp
 have xm : Box ((((w.alloc (.cells #[.int .i64 x.id, .int .i64 x.n, .int .i64 x.s, .slice am nm cm, .int .i64 x.lost, .int .i64 x.built, .int .i64 x.seq, .int .i64 x.tail, .int .i64 x.gen, .slice ad nd cd, .int .i64 x.fuse, .bool x.down, .bool x.broken] 33)).alloc (.cells #[.int .i64 0, .int .i64 0, .int .i64 0, .slice none 0 0, .int .i64 0, .int .i64 0, .int .i64 0, .int .i64 0, .int .i64 0, .slice none 0 0, .int .i64 0, .bool false, .bool false] 33)).alloc (.cells #[.int .i64 x.id, .int .i64 x.n, .int .i64 x.s, .slice (some ⟨w.heap.size + 1 + 1 + 1, 0, none⟩) 0 0, .int .i64 x.lost, .int .i64 x.built, .int .i64 x.seq, .int .i64 x.tail, .int .i64 x.gen, .slice ad nd cd, .int .i64 x.fuse, .bool x.down, .bool x.broken] 33)).alloc (.cells #[] 51)) (w.heap.size) 33 #[.int .i64 x.id, .int .i64 x.n, .int .i64 x.s, .slice am nm cm, .int .i64 x.lost, .int .i64 x.built, .int .i64 x.seq, .int .i64 x.tail, .int .i64 x.gen, .slice ad nd cd, .int .i64 x.fuse, .bool x.down, .bool x.broken] := (((Box.new w _ _).alloc _).alloc _).alloc _
 have xr0 := Box.new (w.alloc (.cells #[.int .i64 x.id, .int .i64 x.n, .int .i64 x.s, .slice am nm cm, .int .i64 x.lost, .int .i64 x.built, .int .i64 x.seq, .int .i64 x.tail, .int .i64 x.gen, .slice ad nd cd, .int .i64 x.fuse, .bool x.down, .bool x.broken] 33)) 33 #[.int .i64 0, .int .i64 0, .int .i64 0, .slice none 0 0, .int .i64 0, .int .i64 0, .int .i64 0, .int .i64 0, .int .i64 0, .slice none 0 0, .int .i64 0, .bool false, .bool false]
 rw [zz] at xr0
 have xr : Box ((((w.alloc (.cells #[.int .i64 x.id, .int .i64 x.n, .int .i64 x.s, .slice am nm cm, .int .i64 x.lost, .int .i64 x.built, .int .i64 x.seq, .int .i64 x.tail, .int .i64 x.gen, .slice ad nd cd, .int .i64 x.fuse, .bool x.down, .bool x.broken] 33)).alloc (.cells #[.int .i64 0, .int .i64 0, .int .i64 0, .slice none 0 0, .int .i64 0, .int .i64 0, .int .i64 0, .int .i64 0, .int .i64 0, .slice none 0 0, .int .i64 0, .bool false, .bool false] 33)).alloc (.cells #[.int .i64 x.id, .int .i64 x.n, .int .i64 x.s, .slice (some ⟨w.heap.size + 1 + 1 + 1, 0, none⟩) 0 0, .int .i64 x.lost, .int .i64 x.built, .int .i64 x.seq, .int .i64 x.tail, .int .i64 x.gen, .slice ad nd cd, .int .i64 x.fuse, .bool x.down, .bool x.broken] 33)).alloc (.cells #[] 51)) (w.heap.size + 1) 33 #[.int .i64 0, .int .i64 0, .int .i64 0, .slice none 0 0, .int .i64 0, .int .i64 0, .int .i64 0, .int .i64 0, .int .i64 0, .slice none 0 0, .int .i64 0, .bool false, .bool false] := (xr0.alloc _).alloc _
 have xo0 := Box.new ((w.alloc (.cells #[.int .i64 x.id, .int .i64 x.n, .int .i64 x.s, .slice am nm cm, .int .i64 x.lost, .int .i64 x.built, .int .i64 x.seq, .int .i64 x.tail, .int .i64 x.gen, .slice ad nd cd, .int .i64 x.fuse, .bool x.down, .bool x.broken] 33)).alloc (.cells #[.int .i64 0, .int .i64 0, .int .i64 0, .slice none 0 0, .int .i64 0, .int .i64 0, .int .i64 0, .int .i64 0, .int .i64 0, .slice none 0 0, .int .i64 0, .bool false, .bool false] 33)) 33 #[.int .i64 x.id, .int .i64 x.n, .int .i64 x.s, .slice (some ⟨w.heap.size + 1 + 1 + 1, 0, none⟩) 0 0, .int .i64 x.lost, .int .i64 x.built, .int .i64 x.seq, .int .i64 x.tail, .int .i64 x.gen, .slice ad nd cd, .int .i64 x.fuse, .bool x.down, .bool x.broken]
 rw [zz, zz] at xo0
 have xo : Box ((((w.alloc (.cells #[.int .i64 x.id, .int .i64 x.n, .int .i64 x.s, .slice am nm cm, .int .i64 x.lost, .int .i64 x.built, .int .i64 x.seq, .int .i64 x.tail, .int .i64 x.gen, .slice ad nd cd, .int .i64 x.fuse, .bool x.down, .bool x.broken] 33)).alloc (.cells #[.int .i64 0, .int .i64 0, .int .i64 0, .slice none 0 0, .int .i64 0, .int .i64 0, .int .i64 0, .int .i64 0, .int .i64 0, .slice none 0 0, .int .i64 0, .bool false, .bool false] 33)).alloc (.cells #[.int .i64 x.id, .int .i64 x.n, .int .i64 x.s, .slice (some ⟨w.heap.size + 1 + 1 + 1, 0, none⟩) 0 0, .int .i64 x.lost, .int .i64 x.built, .int .i64 x.seq, .int .i64 x.tail, .int .i64 x.gen, .slice ad nd cd, .int .i64 x.fuse, .bool x.down, .bool x.broken] 33)).alloc (.cells #[] 51)) (w.heap.size + 1 + 1) 33 #[.int .i64 x.id, .int .i64 x.n, .int .i64 x.s, .slice (some ⟨w.heap.size + 1 + 1 + 1, 0, none⟩) 0 0, .int .i64 x.lost, .int .i64 x.built, .int .i64 x.seq, .int .i64 x.tail, .int .i64 x.gen, .slice ad nd cd, .int .i64 x.fuse, .bool x.down, .bool x.broken] := xo0.alloc _
 have ml := lit0_mine (t := tMem 109) (E := 51) (((w.alloc (.cells #[.int .i64 x.id, .int .i64 x.n, .int .i64 x.s, .slice am nm cm, .int .i64 x.lost, .int .i64 x.built, .int .i64 x.seq, .int .i64 x.tail, .int .i64 x.gen, .slice ad nd cd, .int .i64 x.fuse, .bool x.down, .bool x.broken] 33)).alloc (.cells #[.int .i64 0, .int .i64 0, .int .i64 0, .slice none 0 0, .int .i64 0, .int .i64 0, .int .i64 0, .int .i64 0, .int .i64 0, .slice none 0 0, .int .i64 0, .bool false, .bool false] 33)).alloc (.cells #[.int .i64 x.id, .int .i64 x.n, .int .i64 x.s, .slice (some ⟨w.heap.size + 1 + 1 + 1, 0, none⟩) 0 0, .int .i64 x.lost, .int .i64 x.built, .int .i64 x.seq, .int .i64 x.tail, .int .i64 x.gen, .slice ad nd cd, .int .i64 x.fuse, .bool x.down, .bool x.broken] 33))
 rw [zz, zz, zz] at ml
 have hB : Below (w.heap.size) w ((((w.alloc (.cells #[.int .i64 x.id, .int .i64 x.n, .int .i64 x.s, .slice am nm cm, .int .i64 x.lost, .int .i64 x.built, .int .i64 x.seq, .int .i64 x.tail, .int .i64 x.gen, .slice ad nd cd, .int .i64 x.fuse, .bool x.down, .bool x.broken] 33)).alloc (.cells #[.int .i64 0, .int .i64 0, .int .i64 0, .slice none 0 0, .int .i64 0, .int .i64 0, .int .i64 0, .int .i64 0, .int .i64 0, .slice none 0 0, .int .i64 0, .bool false, .bool false] 33)).alloc (.cells #[.int .i64 x.id, .int .i64 x.n, .int .i64 x.s, .slice (some ⟨w.heap.size + 1 + 1 + 1, 0, none⟩) 0 0, .int .i64 x.lost, .int .i64 x.built, .int .i64 x.seq, .int .i64 x.tail, .int .i64 x.gen, .slice ad nd cd, .int .i64 x.fuse, .bool x.down, .bool x.broken] 33)).alloc (.cells #[] 51)) := ((((Below.refl _ _).alloc (Nat.le_refl _) _).alloc (by simp) _).alloc (by simp; omega) _).alloc (by simp; omega) _
 have hz : w.heap.size + 1 + 1 + 1 < ((((w.alloc (.cells #[.int .i64 x.id, .int .i64 x.n, .int .i64 x.s, .slice am nm cm, .int .i64 x.lost, .int .i64 x.built, .int .i64 x.seq, .int .i64 x.tail, .int .i64 x.gen, .slice ad nd cd, .int .i64 x.fuse, .bool x.down, .bool x.broken] 33)).alloc (.cells #[.int .i64 0, .int .i64 0, .int .i64 0, .slice none 0 0, .int .i64 0, .int .i64 0, .int .i64 0, .int .i64 0, .int .i64 0, .slice none 0 0, .int .i64 0, .bool false, .bool false] 33)).alloc (.cells #[.int .i64 x.id, .int .i64 x.n, .int .i64 x.s, .slice (some ⟨w.heap.size + 1 + 1 + 1, 0, none⟩) 0 0, .int .i64 x.lost, .int .i64 x.built, .int .i64 x.seq, .int .i64 x.tail, .int .i64 x.gen, .slice ad nd cd, .int .i64 x.fuse, .bool x.down, .bool x.broken] 33)).alloc (.cells #[] 51)).heap.size := by simp
 clear xr0 xo0 zz
 go_enter Tryz.func25, Tryz.ntmps25
 go_wp2
 generalize (((w.alloc (.cells #[.int .i64 x.id, .int .i64 x.n, .int .i64 x.s, .slice am nm cm, .int .i64 x.lost, .int .i64 x.built, .int .i64 x.seq, .int .i64 x.tail, .int .i64 x.gen, .slice ad nd cd, .int .i64 x.fuse, .bool x.down, .bool x.broken] 33)).alloc (.cells #[.int .i64 0, .int .i64 0, .int .i64 0, .slice none 0 0, .int .i64 0, .int .i64 0, .int .i64 0, .int .i64 0, .int .i64 0, .slice none 0 0, .int .i64 0, .bool false, .bool false] 33)).alloc (.cells #[.int .i64 x.id, .int .i64 x.n, .int .i64 x.s, .slice (some ⟨w.heap.size + 1 + 1 + 1, 0, none⟩) 0 0, .int .i64 x.lost, .int .i64 x.built, .int .i64 x.seq, .int .i64 x.tail, .int .i64 x.gen, .slice ad nd cd, .int .i64 x.fuse, .bool x.down, .bool x.broken] 33)).alloc (.cells #[] 51) = W2 at xm xr xo ml hB hz ⊢
 obtain ⟨LB, hLB⟩ : ∃ LB, w.heap.size + 1 + 1 + 1 = LB := ⟨_, rfl⟩
 rw [hLB] at xo ml hz ⊢
 have q3 : w.heap.size + 1 + 1 + 1 <= LB /\ LB <= w.heap.size + 1 + 1 + 1 := by omega
 clear hLB
 obtain ⟨BO, hBO⟩ : ∃ BO, w.heap.size + 1 + 1 = BO := ⟨_, rfl⟩
 rw [hBO] at xo ⊢
 have q2 : w.heap.size + 1 + 1 <= BO /\ BO <= w.heap.size + 1 + 1 := by omega
 clear hBO
 obtain ⟨BR, hBR⟩ : ∃ BR, w.heap.size + 1 = BR := ⟨_, rfl⟩
 rw [hBR] at xr ⊢
 have q1 : w.heap.size + 1 <= BR /\ BR <= w.heap.size + 1 := by omega
 clear hBR
 have XM2 := hidden xm
 have XR2 := hidden xr
 have XO2 := hidden xo
 have ML2 := hidden ml
 have HB2 := hidden hB
 clear xm xr xo ml hB
 go_loopw [4] (fun i wr => ∃ (j : Nat) (v0 : Value) (fp0 : List Nat), j <= nm /\ i = .int .i64 j /\ Fr LB BO W2 wr /\ Box wr BO 33 #[.int .i64 x.id, .int .i64 x.n, .int .i64 x.s, v0, .int .i64 x.lost, .int .i64 x.built, .int .i64 x.seq, .int .i64 x.tail, .int .i64 x.gen, .slice ad nd cd, .int .i64 x.fuse, .bool x.down, .bool x.broken] /\ (tMemS 109 51).Mine wr [v0] (ms.take j) fp0 /\ (∀ b ∈ fp0, LB <= b)) (fun i _ => nm - (intOf i).toNat)
 case atStart => exact ⟨0, _, [LB], Nat.zero_le _, rfl, Fr.refl _ _ _, XO2.out, ML2.out, by simp⟩
 obtain ⟨j, v0, fp0, hj, rfl, fr, xo, hm, hfp⟩ := hrel
 have hs := fr.size
 have xm := fr.box XM2.out (by omega) (by omega)
 have hb := HB2.out.trans (fr.below (M := w.heap.size) (by omega) (by omega))
 have c3 : wr.cell? ⟨w.heap.size, 3, none⟩ = some (.slice am nm cm) := xm.cell 3
 by_cases hjn : j < nm
 . rcases quads_at rfl h0 with h0' | ⟨b, off, rfl, hbl, hcs⟩
   . omega
   have hdj : ms[j]? = some (ms[j]'(by omega)) := List.getElem?_eq_getElem (by omega)
   have htk : ms.take (j + 1) = ms.take j ++ [ms[j]'(by omega)] := List.take_succ_eq_append_getElem (by omega)
   generalize ms[j]'(by omega) = d at hdj htk
   have hin := Nat.le_trans (inner_leM hdj) hwm
   obtain ⟨u0, u1, u2, u3, hv0, hv1, hv2, hv3, hrv⟩ := hcs j d hdj
   obtain ⟨a0, c0, a1, c1, a3, c3', ss, cs, f, bs, rfl, rfl, rfl, rfl, rfl, r0, r1, r3⟩ := mem_at hrv
   have pv0 := (hb.cell (p := ⟨b, off + j * 4, none⟩) hbl).trans hv0
   have pv1 := (hb.cell (p := ⟨b, off + j * 4 + 1, none⟩) hbl).trans hv1
   have pv2 := (hb.cell (p := ⟨b, off + j * 4 + 2, none⟩) hbl).trans hv2
   have pv3 := (hb.cell (p := ⟨b, off + j * 4 + 3, none⟩) hbl).trans hv3
   have R0 := hidden (r0.below hb)
   have R1 := hidden (r1.below hb)
   have R3 := hidden (r3.below hb)
   have k1 : (0 : Int) <= (j : Int) := by omega
   have k2 : (j : Int) < (nm : Int) := by omega
   have HTK := hidden htk
   have XO := hidden xo
   have XMR := hidden xm
   have FRR := hidden fr
   have HM := hidden hm
   have HFP := hidden hfp
   have HL : Hid ((ms.take j).length = j) := by unfold Hid; rw [List.length_take]; omega
   have L1 : Hid ((ms.take j).length + 1 <= maxLen) := by unfold Hid; rw [HL.out]; unfold maxLen; omega
   have L2 : Hid (((ms.take j).length + 1) * 80 <= 140737488355328) := by unfold Hid; rw [HL.out]; omega
   have mk : Hid (∀ w', Box w' BO 33 #[.int .i64 x.id, .int .i64 x.n, .int .i64 x.s, v0, .int .i64 x.lost, .int .i64 x.built, .int .i64 x.seq, .int .i64 x.tail, .int .i64 x.gen, .slice ad nd cd, .int .i64 x.fuse, .bool x.down, .bool x.broken] -> Box w' w.heap.size 33 #[.int .i64 x.id, .int .i64 x.n, .int .i64 x.s, .slice (some ⟨b, off, none⟩) nm cm, .int .i64 x.lost, .int .i64 x.built, .int .i64 x.seq, .int .i64 x.tail, .int .i64 x.gen, .slice ad nd cd, .int .i64 x.fuse, .bool x.down, .bool x.broken] -> w'.heap[b]? = wr.heap[b]? -> w'.cell? ⟨BO, 3, none⟩ = some (v0) /\ w'.cell? ⟨w.heap.size, 3, none⟩ = some (.slice (some ⟨b, off, none⟩) nm cm) /\ w'.cell? ⟨b, off + j * 4, none⟩ = some (.slice a0 ss.length c0) /\ w'.cell? ⟨b, off + j * 4 + 1, none⟩ = some (.slice a1 cs.length c1) /\ w'.cell? ⟨b, off + j * 4 + 2, none⟩ = some (.bool f) /\ w'.cell? ⟨b, off + j * 4 + 3, none⟩ = some (.slice a3 bs.length c3')) := fun w' h1 h2 h3 => ⟨h1.cell 3, h2.cell 3, (World.cell?_of_block (w := wr) h3).trans pv0, (World.cell?_of_block (w := wr) h3).trans pv1, (World.cell?_of_block (w := wr) h3).trans pv2, (World.cell?_of_block (w := wr) h3).trans pv3⟩
   have hS : wr.drew.cell? ⟨BO, 3, none⟩ = some (v0) /\ wr.drew.cell? ⟨w.heap.size, 3, none⟩ = some (.slice (some ⟨b, off, none⟩) nm cm) /\ wr.drew.cell? ⟨b, off + j * 4, none⟩ = some (.slice a0 ss.length c0) /\ wr.drew.cell? ⟨b, off + j * 4 + 1, none⟩ = some (.slice a1 cs.length c1) /\ wr.drew.cell? ⟨b, off + j * 4 + 2, none⟩ = some (.bool f) /\ wr.drew.cell? ⟨b, off + j * 4 + 3, none⟩ = some (.slice a3 bs.length c3') := mk.out wr.drew xo xm rfl
   have zb : b < wr.heap.size := by have := hb.size; omega
   have zLB : LB < wr.heap.size := by omega
   clear hcs hdj hv0 hv1 hv2 hv3 hrv htk xo xm hm hfp hb fr pv0 pv1 pv2 pv3 r0 r1 r3
   go_wp2_with fail
   refine Upto.start (S := fun w' => w'.cell? ⟨BO, 3, none⟩ = some (v0) /\ w'.cell? ⟨w.heap.size, 3, none⟩ = some (.slice (some ⟨b, off, none⟩) nm cm) /\ w'.cell? ⟨b, off + j * 4, none⟩ = some (.slice a0 ss.length c0) /\ w'.cell? ⟨b, off + j * 4 + 1, none⟩ = some (.slice a1 cs.length c1) /\ w'.cell? ⟨b, off + j * 4 + 2, none⟩ = some (.bool f) /\ w'.cell? ⟨b, off + j * 4 + 3, none⟩ = some (.slice a3 bs.length c3')) (k := 11) (by kernel_rfl) ?_
   refine Upto.t 0 hS ?_
   refine Upto.t 1 hS ?_
   refine Upto.t 2 hS ?_
   refine Upto.t 3 hS ?_
   refine Upto.t 4 hS ?_
   refine Upto.t 5 hS ?_
   refine Upto.t 6 hS ?_
   refine Upto.one (i := 7) (by kernel_rfl) rfl (fun K hK => ?_)
   go_simp
   refine (l2Copy_any _ E _ _ _ _ _ _ _ _ _ ss cs f bs R0.out.drew R1.out.drew R3.out.drew hin).mono ?_
   rintro e wc ⟨y0, y1, y3, m1, m2, rfl, o3, o0, o1, hm12, hm01, hm22, bc⟩
   have hbc' : Below wr.heap.size wr wc := (Below.refl wr.heap.size wr).drew.trans bc
   have hm01' : wr.heap.size <= m1 := hm01
   have om : (tMem 109).Own wc wr.heap.size wc.heap.size [y0, y1, .bool f, y3] (ss, cs, f, bs) := mem_own3 o0 o1 o3 (.inl (Nat.le_refl _)) (.inr (Nat.le_refl _)) (.inr hm12) ⟨by omega, by omega⟩ ⟨by omega, Nat.le_refl _⟩ ⟨Nat.le_refl _, by omega⟩
   obtain ⟨e0, g0, rfl⟩ := row_shape o0.rd
   obtain ⟨e1, g1, rfl⟩ := row_shape o1.rd
   obtain ⟨e3, g3, rfl⟩ := row_shape o3.rd
   obtain ⟨fpx, mx, rx⟩ := om.mine
   have xoc := XO.out.below hbc' (by omega)
   have xmc := XMR.out.below hbc' (by omega)
   have hS3 : wc.cell? ⟨BO, 3, none⟩ = some (v0) /\ wc.cell? ⟨w.heap.size, 3, none⟩ = some (.slice (some ⟨b, off, none⟩) nm cm) /\ wc.cell? ⟨b, off + j * 4, none⟩ = some (.slice a0 ss.length c0) /\ wc.cell? ⟨b, off + j * 4 + 1, none⟩ = some (.slice a1 cs.length c1) /\ wc.cell? ⟨b, off + j * 4 + 2, none⟩ = some (.bool f) /\ wc.cell? ⟨b, off + j * 4 + 3, none⟩ = some (.slice a3 bs.length c3') := mk.out wc xoc xmc (hbc'.block b zb)
   have bB := new_below wc (.cells #[.slice e0 ss.length g0, .slice e1 cs.length g1, .bool f, .slice e3 bs.length g3] 51)
   have zc := hbc'.size
   have hS4 : (wc.alloc (.cells #[.slice e0 ss.length g0, .slice e1 cs.length g1, .bool f, .slice e3 bs.length g3] 51)).cell? ⟨BO, 3, none⟩ = some (v0) /\ (wc.alloc (.cells #[.slice e0 ss.length g0, .slice e1 cs.length g1, .bool f, .slice e3 bs.length g3] 51)).cell? ⟨w.heap.size, 3, none⟩ = some (.slice (some ⟨b, off, none⟩) nm cm) /\ (wc.alloc (.cells #[.slice e0 ss.length g0, .slice e1 cs.length g1, .bool f, .slice e3 bs.length g3] 51)).cell? ⟨b, off + j * 4, none⟩ = some (.slice a0 ss.length c0) /\ (wc.alloc (.cells #[.slice e0 ss.length g0, .slice e1 cs.length g1, .bool f, .slice e3 bs.length g3] 51)).cell? ⟨b, off + j * 4 + 1, none⟩ = some (.slice a1 cs.length c1) /\ (wc.alloc (.cells #[.slice e0 ss.length g0, .slice e1 cs.length g1, .bool f, .slice e3 bs.length g3] 51)).cell? ⟨b, off + j * 4 + 2, none⟩ = some (.bool f) /\ (wc.alloc (.cells #[.slice e0 ss.length g0, .slice e1 cs.length g1, .bool f, .slice e3 bs.length g3] 51)).cell? ⟨b, off + j * 4 + 3, none⟩ = some (.slice a3 bs.length c3') := mk.out _ (xoc.alloc _) (xmc.alloc _) ((bB.block b (by omega)).trans (hbc'.block b zb))
   have XOC := hidden xoc
   have XMC := hidden xmc
   have MX := hidden mx
   have RX := hidden rx
   have HBC := hidden hbc'
   clear xoc xmc mx rx hbc' bc om o0 o1 o3 hm01 hm01' hm12 hm22 bB R0 R1 R3
   go_wp2_with fail
   refine hK.out _ _ (fun _ => hS3) ?_
   clear hK K
   refine Upto.one (i := 8) (by kernel_rfl) rfl (fun K hK => ?_)
   go_simp
   refine hK.out _ _ (fun _ => hS4) ?_
   clear hK K
   refine Upto.one (i := 9) (by kernel_rfl) rfl (fun K hK => ?_)
   refine step_appT (tMem 109) (by rfl) _ _ 30 (by rfl) 51 i4 (.agg #[.slice none 0 0, .slice none 0 0, .bool false, .slice none 0 0]) 80 Tryz.underlying30 hi4 hz0 hz1 hz2 rfl (by decide) v0 (ms.take j) fp0 (by rfl) ?_ ⟨wc.heap.size, 0, none⟩ 1 [.slice e0 ss.length g0, .slice e1 cs.length g1, .bool f, .slice e3 bs.length g3] (ss, cs, f, bs) fpx (by rfl) ?_ ?_ ?_ ?_ L1.out L2.out ?_
   . exact (HM.out.below HBC.out).alloc _
   . exact MX.out.alloc _
   . intro b hb hb'
     have h1 := HM.out.lt b hb
     have h2 := RX.out b hb'
     omega
   . exact news_new _ _ _
   . intro u hu
     simp at hu
     rcases hu with hu | hu | hu | hu <;> (rw [hu]; rfl)
   intro g cap wA fpA m1 m2 m3
   rw [HL.out] at m1 ⊢
   rw [← HTK.out] at m1
   have ya := (XOC.out.alloc (.cells #[.slice e0 ss.length g0, .slice e1 cs.length g1, .bool f, .slice e3 bs.length g3] 51)).turned m3 (fun hm => by have := HFP.out _ hm; omega)
   have ym := (XMC.out.alloc (.cells #[.slice e0 ss.length g0, .slice e1 cs.length g1, .bool f, .slice e3 bs.length g3] 51)).turned m3 (fun hm => by have := HFP.out _ hm; omega)
   have zB : (wc.alloc (.cells #[.slice e0 ss.length g0, .slice e1 cs.length g1, .bool f, .slice e3 bs.length g3] 51)).heap.size = wc.heap.size + 1 := by simp
   have zBb : b < (wc.alloc (.cells #[.slice e0 ss.length g0, .slice e1 cs.length g1, .bool f, .slice e3 bs.length g3] 51)).heap.size := by omega
   have hS5 : wA.cell? ⟨BO, 3, none⟩ = some (v0) /\ wA.cell? ⟨w.heap.size, 3, none⟩ = some (.slice (some ⟨b, off, none⟩) nm cm) /\ wA.cell? ⟨b, off + j * 4, none⟩ = some (.slice a0 ss.length c0) /\ wA.cell? ⟨b, off + j * 4 + 1, none⟩ = some (.slice a1 cs.length c1) /\ wA.cell? ⟨b, off + j * 4 + 2, none⟩ = some (.bool f) /\ wA.cell? ⟨b, off + j * 4 + 3, none⟩ = some (.slice a3 bs.length c3') := mk.out wA ya ym ((m3.block b zBb (fun hm => by have := HFP.out _ hm; omega)).trans (((new_below wc (.cells #[.slice e0 ss.length g0, .slice e1 cs.length g1, .bool f, .slice e3 bs.length g3] 51)).block b (by omega)).trans (HBC.out.block b zb)))
   have r0 := hS5.1
   have fz := ya.frozen 3
   have YA := hidden ya
   have M1 := hidden m1
   have M2 := hidden m2
   have M3 := hidden m3
   clear ya ym m1 m2 m3 zB zBb
   refine hK.out _ _ (fun _ => hS5) ?_
   clear hK K
   simp only [Act.put, List.setIfInBounds_toArray, List.set_cons_zero, List.set_cons_succ]
   refine Upto.t 10 hS5 ?_
   refine Upto.one (i := 11) (by kernel_rfl) rfl (fun K hK => ?_)
   go_simp
   refine hK.out _ _ (fun h => absurd rfl h) ?_
   clear hK K
   refine Upto.done (by kernel_rfl) ?_ _
   have HFA := hidden (round_fp (N := LB) (by omega) HBC.out HFP.out RX.out M2.out)
   have FRA := hidden (Fr.round FRR.out (by omega) HBC.out _ M3.out HFP.out 3 (.slice (some ⟨g, 0, none⟩) (j + 1) cap))
   have MA := hidden (M1.out.setCell (g := BO) (j := 3) (fun hm => by have := HFA.out _ hm; omega) (.slice (some ⟨g, 0, none⟩) (j + 1) cap))
   have YA' := hidden (YA.out.set 3 (.slice (some ⟨g, 0, none⟩) (j + 1) cap))
   clear hS hS3 hS4 hS5 r0 YA M1 M2 M3 XOC MX RX HBC HFP HM FRR XO XMR XMC mk
   go_wp2
   go_roundw
   case rel => exact ⟨j + 1, _, fpA, by omega, by go_num, FRA.out, YA'.out, MA.out, HFA.out⟩
   case measure => simp [intOf]; omega
 have ej : nm = j := by omega
 subst ej
 rw [List.take_of_length_le (by omega)] at hm
 have hlt := hm.lt
 obtain ⟨eM, gM, hvM⟩ := row_shape hm.rd
 rw [hl0] at hvM
 subst hvM
 have KM := hm.own (lo := LB) (hi := wr.heap.size) (fun b hb => ⟨hfp b hb, hlt b hb⟩)
 have xr := fr.box XR2.out (by omega) (by omega)
 have b3 : But BO (BO + 1) (wr.alloc (.cells #[] 82)) ((wr.alloc (.cells #[] 82)).setCell ⟨BO, 9, none⟩ (.slice (some ⟨wr.heap.size, 0, none⟩) 0 0)) := But.setCell (by omega) (by omega) _
 have xm3 : Box ((wr.alloc (.cells #[] 82)).setCell ⟨BO, 9, none⟩ (.slice (some ⟨wr.heap.size, 0, none⟩) 0 0)) w.heap.size 33 #[.int .i64 x.id, .int .i64 x.n, .int .i64 x.s, .slice am nm cm, .int .i64 x.lost, .int .i64 x.built, .int .i64 x.seq, .int .i64 x.tail, .int .i64 x.gen, .slice ad nd cd, .int .i64 x.fuse, .bool x.down, .bool x.broken] := (xm.alloc _).other (by omega) 9 _
 have xr3 : Box ((wr.alloc (.cells #[] 82)).setCell ⟨BO, 9, none⟩ (.slice (some ⟨wr.heap.size, 0, none⟩) 0 0)) BR 33 #[.int .i64 0, .int .i64 0, .int .i64 0, .slice none 0 0, .int .i64 0, .int .i64 0, .int .i64 0, .int .i64 0, .int .i64 0, .slice none 0 0, .int .i64 0, .bool false, .bool false] := (xr.alloc _).other (by omega) 9 _
 have xo3 : Box ((wr.alloc (.cells #[] 82)).setCell ⟨BO, 9, none⟩ (.slice (some ⟨wr.heap.size, 0, none⟩) 0 0)) BO 33 #[.int .i64 x.id, .int .i64 x.n, .int .i64 x.s, .slice eM nm gM, .int .i64 x.lost, .int .i64 x.built, .int .i64 x.seq, .int .i64 x.tail, .int .i64 x.gen, .slice (some ⟨wr.heap.size, 0, none⟩) 0 0, .int .i64 x.fuse, .bool x.down, .bool x.broken] := (xo.alloc _).set 9 (.slice (some ⟨wr.heap.size, 0, none⟩) 0 0)
 have ml3 : (tWrS 82).Mine ((wr.alloc (.cells #[] 82)).setCell ⟨BO, 9, none⟩ (.slice (some ⟨wr.heap.size, 0, none⟩) 0 0)) [.slice (some ⟨wr.heap.size, 0, none⟩) 0 0] [] [wr.heap.size] := (lit0_mine (t := tWr) (E := 82) wr).setCell (by simp; omega) _
 have km3 := (KM.below (new_below wr (.cells #[] 82))).but b3 (.inr (by omega))
 have hB3 : Below w.heap.size w ((wr.alloc (.cells #[] 82)).setCell ⟨BO, 9, none⟩ (.slice (some ⟨wr.heap.size, 0, none⟩) 0 0)) := (hb.alloc hb.size _).setCell (show w.heap.size <= BO by omega) _
 have z3 : wr.heap.size < ((wr.alloc (.cells #[] 82)).setCell ⟨BO, 9, none⟩ (.slice (some ⟨wr.heap.size, 0, none⟩) 0 0)).heap.size := by simp [World.setCell]
 have zL3 : LB < wr.heap.size := by omega
 have co9 : (wr.alloc (.cells #[] 82)).cell? ⟨BO, 9, none⟩ = some (.slice ad nd cd) := (xo.alloc _).cell 9
 have fo9 := (xo.alloc (.cells #[] 82)).frozen 9
 clear fr xo xm hm hfp hlt KM xr b3 hb hs hj
 go_wp2
 generalize (wr.alloc (.cells #[] 82)).setCell ⟨BO, 9, none⟩ (.slice (some ⟨wr.heap.size, 0, none⟩) 0 0) = W3 at xm3 xr3 xo3 ml3 km3 hB3 z3 ⊢
 obtain ⟨LE, hLE⟩ : ∃ LE, wr.heap.size = LE := ⟨_, rfl⟩
 rw [hLE] at xo3 ml3 km3 z3 zL3 ⊢
 clear hLE
 have XM3 := hidden xm3
 have XR3 := hidden xr3
 have XO3 := hidden xo3
 have ML3 := hidden ml3
 have KM3 := hidden km3
 have HB3 := hidden hB3
 clear xm3 xr3 xo3 ml3 km3 hB3 XM2 XR2 XO2 ML2 HB2 hz
 go_loopw [5] (fun i wr => ∃ (j : Nat) (v1 : Value) (fp1 : List Nat), j <= nd /\ i = .int .i64 j /\ Fr LE BO W3 wr /\ Box wr BO 33 #[.int .i64 x.id, .int .i64 x.n, .int .i64 x.s, .slice eM nm gM, .int .i64 x.lost, .int .i64 x.built, .int .i64 x.seq, .int .i64 x.tail, .int .i64 x.gen, v1, .int .i64 x.fuse, .bool x.down, .bool x.broken] /\ (tWrS 82).Mine wr [v1] (ds.take j) fp1 /\ (∀ b ∈ fp1, LE <= b)) (fun i _ => nd - (intOf i).toNat)
 case atStart => exact ⟨0, _, [LE], Nat.zero_le _, rfl, Fr.refl _ _ _, XO3.out, ML3.out, by simp⟩
 obtain ⟨j, v1, fp1, hj, rfl, fr, xo, hm, hfp⟩ := hrel
 have hs := fr.size
 have xm := fr.box XM3.out (by omega) (by omega)
 have hb := HB3.out.trans (fr.below (M := w.heap.size) (by omega) (by omega))
 have c9 : wr.cell? ⟨w.heap.size, 9, none⟩ = some (.slice ad nd cd) := xm.cell 9
 by_cases hjn : j < nd
 . rcases pairs_at rfl h1 with h0' | ⟨b, off, rfl, hbl, hcs⟩
   . omega
   have hdj : ds[j]? = some (ds[j]'(by omega)) := List.getElem?_eq_getElem (by omega)
   have htk : ds.take (j + 1) = ds.take j ++ [ds[j]'(by omega)] := List.take_succ_eq_append_getElem (by omega)
   generalize ds[j]'(by omega) = d at hdj htk
   have hil := inner_le' hdj
   obtain ⟨u0, u1, hv0, hv1, hrv⟩ := hcs j d hdj
   obtain ⟨rfl, hrv'⟩ := wr_rd hrv
   obtain ⟨av, cv, rfl⟩ := row_shape hrv'
   have pv0 := (hb.cell (p := ⟨b, off + j * 2, none⟩) hbl).trans hv0
   have pv1 := (hb.cell (p := ⟨b, off + j * 2 + 1, none⟩) hbl).trans hv1
   obtain ⟨x0, x1⟩ := d
   simp only at pv0 pv1 hrv' hil
   have HX := hidden (hrv'.below hb)
   have k1 : (0 : Int) <= (j : Int) := by omega
   have k2 : (j : Int) < (nd : Int) := by omega
   have HTK := hidden htk
   have XO := hidden xo
   have XMR := hidden xm
   have FRR := hidden fr
   have HM := hidden hm
   have HFP := hidden hfp
   have HL : Hid ((ds.take j).length = j) := by unfold Hid; rw [List.length_take]; omega
   have L1 : Hid ((ds.take j).length + 1 <= maxLen) := by unfold Hid; rw [HL.out]; unfold maxLen; omega
   have L2 : Hid (((ds.take j).length + 1) * 32 <= 140737488355328) := by unfold Hid; rw [HL.out]; omega
   have mk : Hid (∀ w', Box w' BO 33 #[.int .i64 x.id, .int .i64 x.n, .int .i64 x.s, .slice eM nm gM, .int .i64 x.lost, .int .i64 x.built, .int .i64 x.seq, .int .i64 x.tail, .int .i64 x.gen, v1, .int .i64 x.fuse, .bool x.down, .bool x.broken] -> Box w' w.heap.size 33 #[.int .i64 x.id, .int .i64 x.n, .int .i64 x.s, .slice am nm cm, .int .i64 x.lost, .int .i64 x.built, .int .i64 x.seq, .int .i64 x.tail, .int .i64 x.gen, .slice (some ⟨b, off, none⟩) nd cd, .int .i64 x.fuse, .bool x.down, .bool x.broken] -> w'.heap[b]? = wr.heap[b]? -> w'.cell? ⟨BO, 9, none⟩ = some (v1) /\ w'.cell? ⟨w.heap.size, 9, none⟩ = some (.slice (some ⟨b, off, none⟩) nd cd) /\ w'.cell? ⟨b, off + j * 2, none⟩ = some (.int .i64 x0) /\ w'.cell? ⟨b, off + j * 2 + 1, none⟩ = some (.slice av x1.length cv)) := fun w' h1 h2 h3 => ⟨h1.cell 9, h2.cell 9, (World.cell?_of_block (w := wr) h3).trans pv0, (World.cell?_of_block (w := wr) h3).trans pv1⟩
   have bA := new_below wr (.cells #[] 3)
   have hS : wr.drew.cell? ⟨BO, 9, none⟩ = some (v1) /\ wr.drew.cell? ⟨w.heap.size, 9, none⟩ = some (.slice (some ⟨b, off, none⟩) nd cd) /\ wr.drew.cell? ⟨b, off + j * 2, none⟩ = some (.int .i64 x0) /\ wr.drew.cell? ⟨b, off + j * 2 + 1, none⟩ = some (.slice av x1.length cv) := mk.out wr.drew xo xm rfl
   have zb : b < wr.heap.size := by have := hb.size; omega
   have zLE : LE < wr.heap.size := by omega
   have hS2 : (wr.alloc (.cells #[] 3)).drew.cell? ⟨BO, 9, none⟩ = some (v1) /\ (wr.alloc (.cells #[] 3)).drew.cell? ⟨w.heap.size, 9, none⟩ = some (.slice (some ⟨b, off, none⟩) nd cd) /\ (wr.alloc (.cells #[] 3)).drew.cell? ⟨b, off + j * 2, none⟩ = some (.int .i64 x0) /\ (wr.alloc (.cells #[] 3)).drew.cell? ⟨b, off + j * 2 + 1, none⟩ = some (.slice av x1.length cv) := mk.out (wr.alloc (.cells #[] 3)).drew (xo.alloc _) (xm.alloc _) (bA.block b zb)
   have HG : Hid ((wr.alloc (.cells #[] 3)).drew.heap[wr.heap.size]? = some (.cells #[] 3 (0, 0))) := Box.new wr 3 #[]
   have RD : Hid (tIntS.Rd (wr.alloc (.cells #[] 3)).drew [.slice av x1.length cv] x1) := (HX.out.below bA).drew
   have BA := hidden bA
   clear hcs hdj hv0 hv1 hrv hrv' htk xo xm hm hfp hb fr pv0 pv1 bA
   go_wp2_with fail
   refine Upto.start (S := fun w' => w'.cell? ⟨BO, 9, none⟩ = some (v1) /\ w'.cell? ⟨w.heap.size, 9, none⟩ = some (.slice (some ⟨b, off, none⟩) nd cd) /\ w'.cell? ⟨b, off + j * 2, none⟩ = some (.int .i64 x0) /\ w'.cell? ⟨b, off + j * 2 + 1, none⟩ = some (.slice av x1.length cv)) (k := 20) (by kernel_rfl) ?_
   refine Upto.t 0 hS ?_
   refine Upto.t 1 hS ?_
   refine Upto.t 2 hS ?_
   refine Upto.t 3 hS ?_
   refine Upto.t 4 hS ?_
   refine Upto.t 5 hS ?_
   refine Upto.t 6 hS ?_
   refine Upto.t 7 hS ?_
   refine Upto.t 9 hS ?_
   refine Upto.t 10 hS ?_
   refine Upto.t 11 hS ?_
   refine Upto.t 12 hS ?_
   refine Upto.t 13 hS ?_
   refine Upto.t 14 hS ?_
   refine Upto.one (i := 8) (by kernel_rfl) rfl (fun K hK => ?_)
   go_simp
   refine hK.out _ _ (fun _ => hS2) ?_
   clear hK K
   refine Upto.one (i := 15) (by kernel_rfl) rfl (fun K hK => ?_)
   refine step_copy (by rfl) _ _ 49 (by rfl) i3 Tryz.underlying49 hi3 hx0 hx1 hx2 wr.heap.size (by rfl) HG.out av x1.length cv x1 (by rfl) RD.out (by omega) ?_
   intro ac cc wc fpx mx rx tx
   have tx' : Turned [wr.heap.size] (wr.alloc (.cells #[] 3)) wc := Turned.undrew tx
   have zA : (wr.alloc (.cells #[] 3)).heap.size = wr.heap.size + 1 := by simp
   have zd : (wr.alloc (.cells #[] 3)).drew.heap.size = (wr.alloc (.cells #[] 3)).heap.size := rfl
   have hbc' : Below wr.heap.size wr wc := BA.out.trans (tx'.below (N := wr.heap.size) (by omega) (by simp))
   have xoc := XO.out.below hbc' (by omega)
   have xmc := XMR.out.below hbc' (by omega)
   have hS3 : wc.cell? ⟨BO, 9, none⟩ = some (v1) /\ wc.cell? ⟨w.heap.size, 9, none⟩ = some (.slice (some ⟨b, off, none⟩) nd cd) /\ wc.cell? ⟨b, off + j * 2, none⟩ = some (.int .i64 x0) /\ wc.cell? ⟨b, off + j * 2 + 1, none⟩ = some (.slice av x1.length cv) := mk.out wc xoc xmc (hbc'.block b zb)
   have bB := new_below wc (.cells #[.int .i64 x0, .slice ac x1.length cc] 82)
   have zc := hbc'.size
   have hS4 : (wc.alloc (.cells #[.int .i64 x0, .slice ac x1.length cc] 82)).cell? ⟨BO, 9, none⟩ = some (v1) /\ (wc.alloc (.cells #[.int .i64 x0, .slice ac x1.length cc] 82)).cell? ⟨w.heap.size, 9, none⟩ = some (.slice (some ⟨b, off, none⟩) nd cd) /\ (wc.alloc (.cells #[.int .i64 x0, .slice ac x1.length cc] 82)).cell? ⟨b, off + j * 2, none⟩ = some (.int .i64 x0) /\ (wc.alloc (.cells #[.int .i64 x0, .slice ac x1.length cc] 82)).cell? ⟨b, off + j * 2 + 1, none⟩ = some (.slice av x1.length cv) := mk.out _ (xoc.alloc _) (xmc.alloc _) ((bB.block b (by omega)).trans (hbc'.block b zb))
   have RX : Hid (∀ b ∈ fpx, wr.heap.size <= b /\ b < wc.heap.size) := fun b hb => by have := rx b hb; omega
   have XOC := hidden xoc
   have XMC := hidden xmc
   have MX := hidden mx
   have HBC := hidden hbc'
   clear xoc xmc mx rx tx tx' hbc' bB zA zd
   refine hK.out _ _ (fun _ => hS3) ?_
   clear hK K
   simp only [Act.put, List.setIfInBounds_toArray, List.set_cons_zero, List.set_cons_succ]
   refine Upto.t 16 hS3 ?_
   refine Upto.one (i := 17) (by kernel_rfl) rfl (fun K hK => ?_)
   go_simp
   refine hK.out _ _ (fun _ => hS4) ?_
   clear hK K
   refine Upto.one (i := 18) (by kernel_rfl) rfl (fun K hK => ?_)
   refine step_appT tWr (by rfl) _ _ 31 (by rfl) 82 i1 (.agg #[.int .i64 0, .slice none 0 0]) 32 Tryz.underlying31 hi1 hy0 hy1 hy2 rfl Nat.zero_lt_two v1 (ds.take j) fp1 (by rfl) ?_ ⟨wc.heap.size, 0, none⟩ 1 [.int .i64 x0, .slice ac x1.length cc] (x0, x1) fpx (by rfl) ?_ ?_ ?_ ?_ L1.out L2.out ?_
   . exact (HM.out.below HBC.out).alloc _
   . exact (wr_mine x0 MX.out).alloc _
   . intro b hb hb'
     have h1 := HM.out.lt b hb
     have h2 := RX.out b hb'
     omega
   . exact news_new _ _ _
   . intro u hu
     simp at hu
     rcases hu with hu | hu <;> (rw [hu]; rfl)
   intro g cap wA fpA m1 m2 m3
   rw [HL.out] at m1 ⊢
   rw [← HTK.out] at m1
   have ya := (XOC.out.alloc (.cells #[.int .i64 x0, .slice ac x1.length cc] 82)).turned m3 (fun hm => by have := HFP.out _ hm; omega)
   have ym := (XMC.out.alloc (.cells #[.int .i64 x0, .slice ac x1.length cc] 82)).turned m3 (fun hm => by have := HFP.out _ hm; omega)
   have zB : (wc.alloc (.cells #[.int .i64 x0, .slice ac x1.length cc] 82)).heap.size = wc.heap.size + 1 := by simp
   have zBb : b < (wc.alloc (.cells #[.int .i64 x0, .slice ac x1.length cc] 82)).heap.size := by omega
   have hS5 : wA.cell? ⟨BO, 9, none⟩ = some (v1) /\ wA.cell? ⟨w.heap.size, 9, none⟩ = some (.slice (some ⟨b, off, none⟩) nd cd) /\ wA.cell? ⟨b, off + j * 2, none⟩ = some (.int .i64 x0) /\ wA.cell? ⟨b, off + j * 2 + 1, none⟩ = some (.slice av x1.length cv) := mk.out wA ya ym ((m3.block b zBb (fun hm => by have := HFP.out _ hm; omega)).trans (((new_below wc (.cells #[.int .i64 x0, .slice ac x1.length cc] 82)).block b (by omega)).trans (HBC.out.block b zb)))
   have r0 := hS5.1
   have fz := ya.frozen 9
   have YA := hidden ya
   have M1 := hidden m1
   have M2 := hidden m2
   have M3 := hidden m3
   clear ya ym m1 m2 m3 zB zBb
   refine hK.out _ _ (fun _ => hS5) ?_
   clear hK K
   simp only [Act.put, List.setIfInBounds_toArray, List.set_cons_zero, List.set_cons_succ]
   refine Upto.t 19 hS5 ?_
   refine Upto.one (i := 20) (by kernel_rfl) rfl (fun K hK => ?_)
   go_simp
   refine hK.out _ _ (fun h => absurd rfl h) ?_
   clear hK K
   refine Upto.done (by kernel_rfl) ?_ _
   have HFA := hidden (round_fp (N := LE) (by omega) HBC.out HFP.out RX.out M2.out)
   have FRA := hidden (Fr.round FRR.out (by omega) HBC.out _ M3.out HFP.out 9 (.slice (some ⟨g, 0, none⟩) (j + 1) cap))
   have MA := hidden (M1.out.setCell (g := BO) (j := 9) (fun hm => by have := HFA.out _ hm; omega) (.slice (some ⟨g, 0, none⟩) (j + 1) cap))
   have YA' := hidden (YA.out.set 9 (.slice (some ⟨g, 0, none⟩) (j + 1) cap))
   clear hS hS2 hS3 hS4 hS5 BA HG RD HX r0 YA M1 M2 M3 XOC MX RX HBC HFP HM FRR XO XMR XMC mk
   go_wp2
   go_roundw
   case rel => exact ⟨j + 1, _, fpA, by omega, by go_num, FRA.out, YA'.out, MA.out, HFA.out⟩
   case measure => simp [intOf]; omega
 have ej : nd = j := by omega
 subst ej
 rw [List.take_of_length_le (by omega)] at hm
 have hlt := hm.lt
 obtain ⟨eD, gD, hvD⟩ := row_shape hm.rd
 rw [hl1] at hvD
 subst hvD
 have K1 := hm.own (lo := LE) (hi := wr.heap.size) (fun b hb => ⟨hfp b hb, hlt b hb⟩)
 have K0 := fr.own KM3.out (Nat.le_refl _) (.inr (by omega))
 have xr := fr.box XR3.out (by omega) (by omega)
 have hbt := puts_but BR [(0, .int .i64 x.id), (1, .int .i64 x.n), (2, .int .i64 x.s), (3, .slice eM nm gM), (4, .int .i64 x.lost), (5, .int .i64 x.built), (6, .int .i64 x.seq), (7, .int .i64 x.tail), (8, .int .i64 x.gen), (9, .slice eD nd gD), (10, .int .i64 x.fuse), (11, .bool x.down), (12, .bool x.broken)] wr
 have H0 := K0.but hbt (.inr (by omega))
 have H1 := K1.but hbt (.inr (by omega))
 have HBB := Below.andBut hb hbt (by omega)
 have hsz := hbt.size
 have H0w := hidden (H0.widen (lo' := w.heap.size) (hi' := LE) (by omega) (Nat.le_refl _))
 have H1w := hidden (H1.widen (lo' := LE) (Nat.le_refl _) hsz)
 have HBw := hidden HBB
 have HSZ : Hid (LE <= (puts wr BR [(0, .int .i64 x.id), (1, .int .i64 x.n), (2, .int .i64 x.s), (3, .slice eM nm gM), (4, .int .i64 x.lost), (5, .int .i64 x.built), (6, .int .i64 x.seq), (7, .int .i64 x.tail), (8, .int .i64 x.gen), (9, .slice eD nd gD), (10, .int .i64 x.fuse), (11, .bool x.down), (12, .bool x.broken)]).heap.size) := by unfold Hid; omega
 simp only [puts] at H0w H1w HBw HSZ
 obtain ⟨p0, p1, p2, p3, p4, p5, p6, p7, p8, p9, p10, p11, p12⟩ := xr.cells13
 have fz := xr.frozen
 obtain ⟨r0, r1, r2, r3, r4, r5, r6, r7, r8, r9, r10, r11, r12⟩ := xo.cells13
 have hLw : w.heap.size <= LE := by omega
 clear fr xo xm hb hm hfp hlt xr K0 K1 hbt H0 H1 HBB hsz hj hs
 go_wp2
 refine bodyPost_ret (v := .agg #[.int .i64 x.id, .int .i64 x.n, .int .i64 x.s, .slice eM nm gM, .int .i64 x.lost, .int .i64 x.built, .int .i64 x.seq, .int .i64 x.tail, .int .i64 x.gen, .slice eD nd gD, .int .i64 x.fuse, .bool x.down, .bool x.broken]) (by simp [results, Tryz.results25, go_sem, p0, p1, p2, p3, p4, p5, p6, p7, p8, p9, p10, p11, p12]) rfl ?_
 exact ⟨_, _, _, _, LE, rfl, H0w.out, H1w.out, hLw, HSZ.out, HBw.out⟩

theorem spare_no {x : ArrN} {ms : List MemD} {ds : List (Int × List Int)} {c : Int} (h : spareK x ms ds = c) (hc : c ≠ 0) : spareO x ms ds = (x, ms) /\ spareC x ms ds = c := by
 unfold spareO spareC spareT turnQ turnC
 dsimp only
 rw [h, if_neg hc, if_neg hc]
 exact ⟨rfl, rfl⟩
theorem spare_yes {x : ArrN} {ms : List MemD} {ds : List (Int × List Int)} (h : spareK x ms ds = 0) : spareO x ms ds = spareA (x, ms) /\ spareC x ms ds = dn12 (spareA (x, ms)).1.down := by
 unfold spareO spareC spareT turnQ turnC
 dsimp only
 rw [h, if_pos rfl, if_pos rfl]
 exact ⟨rfl, rfl⟩

theorem specSpare_any (w : World) (E F G : TypeId) (x : ArrN) (am ad : Option Addr) (nm cm nd cd : Nat) (ms : List MemD) (ds : List (Int × List Int)) (h0 : (tMemS E F).Rd w [.slice am nm cm] ms) (h1 : (tWrS G).Rd w [.slice ad nd cd] ds) (hw : wtArr ms ds <= 2097152) :
 Calls Tryz.prog 15 #[.agg #[.int .i64 x.id, .int .i64 x.n, .int .i64 x.s, .slice am nm cm, .int .i64 x.lost, .int .i64 x.built, .int .i64 x.seq, .int .i64 x.tail, .int .i64 x.gen, .slice ad nd cd, .int .i64 x.fuse, .bool x.down, .bool x.broken]] w fun e w' => ArrOutC w w' e (spareO x ms ds) (spareC x ms ds) ds := by
 obtain ⟨rfl, _⟩ := row_length h0
 obtain ⟨rfl, _⟩ := row_length h1
 have hA := (new_below w (.cells #[.int .i64 x.id, .int .i64 x.n, .int .i64 x.s, .slice am ms.length cm, .int .i64 x.lost, .int .i64 x.built, .int .i64 x.seq, .int .i64 x.tail, .int .i64 x.gen, .slice ad ds.length cd, .int .i64 x.fuse, .bool x.down, .bool x.broken] 33)).alloc (by simp) (.cells #[.int .i64 0, .int .i64 0, .int .i64 0, .slice none 0 0, .int .i64 0, .int .i64 0, .int .i64 0, .int .i64 0, .int .i64 0, .slice none 0 0, .int .i64 0, .bool false, .bool false] 33)
 have X0 : Box ((w.alloc (.cells #[.int .i64 x.id, .int .i64 x.n, .int .i64 x.s, .slice am ms.length cm, .int .i64 x.lost, .int .i64 x.built, .int .i64 x.seq, .int .i64 x.tail, .int .i64 x.gen, .slice ad ds.length cd, .int .i64 x.fuse, .bool x.down, .bool x.broken] 33)).alloc (.cells #[.int .i64 0, .int .i64 0, .int .i64 0, .slice none 0 0, .int .i64 0, .int .i64 0, .int .i64 0, .int .i64 0, .int .i64 0, .slice none 0 0, .int .i64 0, .bool false, .bool false] 33)) w.heap.size 33 #[.int .i64 x.id, .int .i64 x.n, .int .i64 x.s, .slice am ms.length cm, .int .i64 x.lost, .int .i64 x.built, .int .i64 x.seq, .int .i64 x.tail, .int .i64 x.gen, .slice ad ds.length cd, .int .i64 x.fuse, .bool x.down, .bool x.broken] := (Box.new w _ _).alloc _
 have R0 := Box.new (w.alloc (.cells #[.int .i64 x.id, .int .i64 x.n, .int .i64 x.s, .slice am ms.length cm, .int .i64 x.lost, .int .i64 x.built, .int .i64 x.seq, .int .i64 x.tail, .int .i64 x.gen, .slice ad ds.length cd, .int .i64 x.fuse, .bool x.down, .bool x.broken] 33)) 33 #[.int .i64 0, .int .i64 0, .int .i64 0, .slice none 0 0, .int .i64 0, .int .i64 0, .int .i64 0, .int .i64 0, .int .i64 0, .slice none 0 0, .int .i64 0, .bool false, .bool false]
 rw [World.size_alloc] at R0
 have zX := X0.lt
 have zR := R0.lt
 have r0 := h0.below hA
 have r1 := h1.below hA
 have hzW : ((w.alloc (.cells #[.int .i64 x.id, .int .i64 x.n, .int .i64 x.s, .slice am ms.length cm, .int .i64 x.lost, .int .i64 x.built, .int .i64 x.seq, .int .i64 x.tail, .int .i64 x.gen, .slice ad ds.length cd, .int .i64 x.fuse, .bool x.down, .bool x.broken] 33)).alloc (.cells #[.int .i64 0, .int .i64 0, .int .i64 0, .slice none 0 0, .int .i64 0, .int .i64 0, .int .i64 0, .int .i64 0, .int .i64 0, .slice none 0 0, .int .i64 0, .bool false, .bool false] 33)).heap.size = w.heap.size + 1 + 1 := by simp
 obtain ⟨k0, k1, k2, k3, k4, k5, k6, k7, k8, k9, k10, k11, k12⟩ := X0.cells13
 go_enter Tryz.func15, Tryz.ntmps15
 go_wp2_with fail
 generalize (w.alloc (.cells #[.int .i64 x.id, .int .i64 x.n, .int .i64 x.s, .slice am ms.length cm, .int .i64 x.lost, .int .i64 x.built, .int .i64 x.seq, .int .i64 x.tail, .int .i64 x.gen, .slice ad ds.length cd, .int .i64 x.fuse, .bool x.down, .bool x.broken] 33)).alloc (.cells #[.int .i64 0, .int .i64 0, .int .i64 0, .slice none 0 0, .int .i64 0, .int .i64 0, .int .i64 0, .int .i64 0, .int .i64 0, .slice none 0 0, .int .i64 0, .bool false, .bool false] 33) = W at hA X0 R0 zX zR r0 r1 hzW k0 k1 k2 k3 k4 k5 k6 k7 k8 k9 k10 k11 k12 ⊢
 obtain ⟨BR, hBR⟩ : ∃ BR, w.heap.size + 1 = BR := ⟨_, rfl⟩
 rw [hBR] at R0 zR hzW ⊢
 have q1 : w.heap.size + 1 <= BR /\ BR <= w.heap.size + 1 := by omega
 clear hBR
 refine (l6Copy_any _ E F G x _ _ _ _ _ _ ms ds r0 r1 hw).mono ?_
 rintro e w1 ⟨bm, cm1, bd, cd1, m, rfl, om, od, zm, zm2, b1⟩
 have bn := new_below w1 (.cells #[.int .i64 x.id, .int .i64 x.n, .int .i64 x.s, .slice bm ms.length cm1, .int .i64 x.lost, .int .i64 x.built, .int .i64 x.seq, .int .i64 x.tail, .int .i64 x.gen, .slice bd ds.length cd1, .int .i64 x.fuse, .bool x.down, .bool x.broken] 33)
 have b12 : Below W.heap.size W (w1.alloc (.cells #[.int .i64 x.id, .int .i64 x.n, .int .i64 x.s, .slice bm ms.length cm1, .int .i64 x.lost, .int .i64 x.built, .int .i64 x.seq, .int .i64 x.tail, .int .i64 x.gen, .slice bd ds.length cd1, .int .i64 x.fuse, .bool x.down, .bool x.broken] 33)) := Below.andThen b1 bn
 have Y := Box.new w1 33 #[.int .i64 x.id, .int .i64 x.n, .int .i64 x.s, .slice bm ms.length cm1, .int .i64 x.lost, .int .i64 x.built, .int .i64 x.seq, .int .i64 x.tail, .int .i64 x.gen, .slice bd ds.length cd1, .int .i64 x.fuse, .bool x.down, .bool x.broken]
 have zY := Y.lt
 have z1 := b1.size
 obtain ⟨fm, mm, rm⟩ := (om.below bn).mine
 obtain ⟨fd, md, rd⟩ := (od.below bn).mine
 have A2 : ArrAt (w1.alloc (.cells #[.int .i64 x.id, .int .i64 x.n, .int .i64 x.s, .slice bm ms.length cm1, .int .i64 x.lost, .int .i64 x.built, .int .i64 x.seq, .int .i64 x.tail, .int .i64 x.gen, .slice bd ds.length cd1, .int .i64 x.fuse, .bool x.down, .bool x.broken] 33)) w1.heap.size x ms ds fm fd := ⟨bm, bd, cm1, cd1, Y, mm, md, fun b hb hb' => by have h1 := rm b hb; have h2 := rd b hb'; omega, fun hm => by have := rm _ hm; omega, fun hm => by have := rd _ hm; omega⟩
 have X2 := X0.below b12 zX
 have R2 := R0.below b12 zR
 have p0 := r0.below b12
 have p1 := r1.below b12
 have B2 := Below.andThen hA b12
 have rm2 : ∀ b ∈ fm, W.heap.size <= b := fun b hb => by have := rm b hb; omega
 have rd2 : ∀ b ∈ fd, W.heap.size <= b := fun b hb => by have := rd b hb; omega
 clear k0 k1 k2 k3 k4 k5 k6 k7 k8 k9 k10 k11 k12 X0 R0 r0 r1 om od b1 bn b12 Y mm rm md rd hA
 obtain ⟨k0, k1, k2, k3, k4, k5, k6, k7, k8, k9, k10, k11, k12⟩ := X2.cells13
 go_wp2_with fail
 generalize w1.alloc (.cells #[.int .i64 x.id, .int .i64 x.n, .int .i64 x.s, .slice bm ms.length cm1, .int .i64 x.lost, .int .i64 x.built, .int .i64 x.seq, .int .i64 x.tail, .int .i64 x.gen, .slice bd ds.length cd1, .int .i64 x.fuse, .bool x.down, .bool x.broken] 33) = w2 at A2 X2 R2 p0 p1 B2 zY k0 k1 k2 k3 k4 k5 k6 k7 k8 k9 k10 k11 k12 ⊢
 obtain ⟨B, hB⟩ : ∃ B, w1.heap.size = B := ⟨_, rfl⟩
 rw [hB] at A2 zY z1 ⊢
 clear hB
 refine (l8May_any _ E F G x _ _ _ _ _ _ ms ds p0 p1 hw).mono ?_
 rintro e w3 ⟨rfl, b3⟩
 have A3 := A2.below b3
 have X3 := X2.below b3 X2.lt
 have R3 := R2.below b3 R2.lt
 have B3 := Below.andThen B2 b3
 have q3 := p0.below b3
 have z3 := b3.size
 clear k0 k1 k2 k3 k4 k5 k6 k7 k8 k9 k10 k11 k12 A2 X2 R2 p0 p1 B2 b3
 have HK : Hid (spareK x ms ds = if ask8 x ms ds = 0 then (if lostF x ms = true then mkC x else 2) else ask8 x ms ds) := rfl
 by_cases hc : ask8 x ms ds = 0
 case neg =>
  have HV := hidden (spare_no (x := x) (ms := ms) (ds := ds) (c := ask8 x ms ds) (by rw [HK.out, if_neg hc]) hc)
  have e0 : (ask8 x ms ds != 0) = true := by simpa using hc
  clear hc HK
  generalize ask8 x ms ds = q at e0 HV ⊢
  obtain ⟨vm, vd, cvm, cvd, Yf, mf, df, hrf, r1f, r2f⟩ := A3
  have Y0 := Yf
  unfold arrC at Y0
  obtain ⟨t0, t1, t2, t3, t4, t5, t6, t7, t8, t9, t10, t11, t12⟩ := Y0.cells13
  obtain ⟨s0, s1, s2, s3, s4, s5, s6, s7, s8, s9, s10, s11, s12⟩ := R3.cells13
  have fz := R3.frozen
  have HO := hidden (arr_outC (y := x) (code := q) (e := .returned (.tuple #[.agg (arrC x _ _), .int .i64 q])) (lo := BR + 1) B3 R3 rfl mf df hrf (fun b hb => by have := rm2 b hb; omega) (fun b hb => by have := rd2 b hb; omega) (by omega) (by omega))
  unfold arrC at HO
  simp only [puts] at HO
  clear Yf Y0 mf df R3 B3
  go_wp2
  refine bodyPost_ret (v := .tuple #[.agg #[.int .i64 x.id, .int .i64 x.n, .int .i64 x.s, .slice vm ms.length cvm, .int .i64 x.lost, .int .i64 x.built, .int .i64 x.seq, .int .i64 x.tail, .int .i64 x.gen, .slice vd ds.length cvd, .int .i64 x.fuse, .bool x.down, .bool x.broken], .int .i64 q]) (by simp [results, Tryz.results15, go_sem, s0, s1, s2, s3, s4, s5, s6, s7, s8, s9, s10, s11, s12]) rfl ?_
  rw [HV.out.1, HV.out.2]; exact HO.out
 have ha := (ask_good hc).1
 rw [if_pos hc] at HK
 rw [hc]
 clear hc
 obtain ⟨fc, mk, gc0, gc1⟩ := arr_facts ha
 have hgeo := (arr_split.1 ha).1
 have hlo := arr_lost ha
 obtain ⟨k0, k1, k2, k3, k4, k5, k6, k7, k8, k9, k10, k11, k12⟩ := X3.cells13
 by_cases l1 : x.lost = -1
 case pos =>
  have e1 : (x.lost == -1) = true := by simp [l1]
  have HLF := hidden (lost_none (ms := ms) l1)
  clear l1
  have HV := hidden (spare_no (x := x) (ms := ms) (ds := ds) (c := 2) (by rw [HK.out]; rw [HLF.out.1]; simp) (by decide))
  clear HK
  obtain ⟨vm, vd, cvm, cvd, Yf, mf, df, hrf, r1f, r2f⟩ := A3
  have Y0 := Yf
  unfold arrC at Y0
  obtain ⟨t0, t1, t2, t3, t4, t5, t6, t7, t8, t9, t10, t11, t12⟩ := Y0.cells13
  obtain ⟨s0, s1, s2, s3, s4, s5, s6, s7, s8, s9, s10, s11, s12⟩ := R3.cells13
  have fz := R3.frozen
  have HO := hidden (arr_outC (y := x) (code := 2) (e := .returned (.tuple #[.agg (arrC x _ _), .int .i64 2])) (lo := BR + 1) B3 R3 rfl mf df hrf (fun b hb => by have := rm2 b hb; omega) (fun b hb => by have := rd2 b hb; omega) (by omega) (by omega))
  unfold arrC at HO
  simp only [puts] at HO
  clear Yf Y0 mf df R3 B3
  go_wp2
  refine bodyPost_ret (v := .tuple #[.agg #[.int .i64 x.id, .int .i64 x.n, .int .i64 x.s, .slice vm ms.length cvm, .int .i64 x.lost, .int .i64 x.built, .int .i64 x.seq, .int .i64 x.tail, .int .i64 x.gen, .slice vd ds.length cvd, .int .i64 x.fuse, .bool x.down, .bool x.broken], .int .i64 2]) (by simp [results, Tryz.results15, go_sem, s0, s1, s2, s3, s4, s5, s6, s7, s8, s9, s10, s11, s12]) rfl ?_
  rw [HV.out.1, HV.out.2]; exact HO.out
 have e1 : (x.lost == -1) = false := by simp [l1]
 have i1 : 0 <= x.lost := by omega
 have i3 := hlo.2
 have hj : x.lost.toNat < ms.length := by omega
 obtain ⟨d, hdj⟩ : ∃ d, ms[x.lost.toNat]? = some d := ⟨_, List.getElem?_eq_getElem hj⟩
 have HLF := hidden (lost_at l1 hdj)
 rcases quads_at rfl q3 with h0' | ⟨b, off, rfl, hbl, hcs⟩
 . omega
 obtain ⟨v0, v1, v2, v3, q0, q1', q2, q3', hrv⟩ := hcs _ d hdj
 obtain ⟨a0, c0, a1, c1, a3, c3, ss, cs, f, bs, hde, rfl, rfl, rfl, rfl, p0, p1, p3⟩ := mem_at hrv
 have hf2 : d.2.2.1 = f := by rw [hde]
 rw [hf2] at HLF
 clear p0 p1 p3 hcs hrv q0 q1' q3' hde hf2 hdj l1 hlo k0 k1 k2 k3 k4 k5 k6 k7 k8 k9 k10 k11 k12
 obtain ⟨k0, k1, k2, k3, k4, k5, k6, k7, k8, k9, k10, k11, k12⟩ := X3.cells13
 cases f
 case false =>
  have HV := hidden (spare_no (x := x) (ms := ms) (ds := ds) (c := 2) (by rw [HK.out]; rw [HLF.out.1]; simp) (by decide))
  clear HK
  obtain ⟨vm, vd, cvm, cvd, Yf, mf, df, hrf, r1f, r2f⟩ := A3
  have Y0 := Yf
  unfold arrC at Y0
  obtain ⟨t0, t1, t2, t3, t4, t5, t6, t7, t8, t9, t10, t11, t12⟩ := Y0.cells13
  obtain ⟨s0, s1, s2, s3, s4, s5, s6, s7, s8, s9, s10, s11, s12⟩ := R3.cells13
  have fz := R3.frozen
  have HO := hidden (arr_outC (y := x) (code := 2) (e := .returned (.tuple #[.agg (arrC x _ _), .int .i64 2])) (lo := BR + 1) B3 R3 rfl mf df hrf (fun b hb => by have := rm2 b hb; omega) (fun b hb => by have := rd2 b hb; omega) (by omega) (by omega))
  unfold arrC at HO
  simp only [puts] at HO
  clear Yf Y0 mf df R3 B3
  go_wp2
  refine bodyPost_ret (v := .tuple #[.agg #[.int .i64 x.id, .int .i64 x.n, .int .i64 x.s, .slice vm ms.length cvm, .int .i64 x.lost, .int .i64 x.built, .int .i64 x.seq, .int .i64 x.tail, .int .i64 x.gen, .slice vd ds.length cvd, .int .i64 x.fuse, .bool x.down, .bool x.broken], .int .i64 2]) (by simp [results, Tryz.results15, go_sem, s0, s1, s2, s3, s4, s5, s6, s7, s8, s9, s10, s11, s12]) rfl ?_
  rw [HV.out.1, HV.out.2]; exact HO.out
 cases hbr : x.broken
 case true =>
  rw [hbr] at k12
  have HBR := hidden hbr
  clear hbr
  have HV := hidden (spare_no (x := x) (ms := ms) (ds := ds) (c := 5) (by rw [HK.out]; rw [HLF.out.1]; unfold mkC; rw [HBR.out]; simp) (by decide))
  clear HK
  obtain ⟨vm, vd, cvm, cvd, Yf, mf, df, hrf, r1f, r2f⟩ := A3
  have Y0 := Yf
  unfold arrC at Y0
  obtain ⟨t0, t1, t2, t3, t4, t5, t6, t7, t8, t9, t10, t11, t12⟩ := Y0.cells13
  obtain ⟨s0, s1, s2, s3, s4, s5, s6, s7, s8, s9, s10, s11, s12⟩ := R3.cells13
  have fz := R3.frozen
  have HO := hidden (arr_outC (y := x) (code := 5) (e := .returned (.tuple #[.agg (arrC x _ _), .int .i64 5])) (lo := BR + 1) B3 R3 rfl mf df hrf (fun b hb => by have := rm2 b hb; omega) (fun b hb => by have := rd2 b hb; omega) (by omega) (by omega))
  unfold arrC at HO
  simp only [puts] at HO
  clear Yf Y0 mf df R3 B3
  go_wp2
  refine bodyPost_ret (v := .tuple #[.agg #[.int .i64 x.id, .int .i64 x.n, .int .i64 x.s, .slice vm ms.length cvm, .int .i64 x.lost, .int .i64 x.built, .int .i64 x.seq, .int .i64 x.tail, .int .i64 x.gen, .slice vd ds.length cvd, .int .i64 x.fuse, .bool x.down, .bool x.broken], .int .i64 5]) (by simp [results, Tryz.results15, go_sem, s0, s1, s2, s3, s4, s5, s6, s7, s8, s9, s10, s11, s12]) rfl ?_
  rw [HV.out.1, HV.out.2]; exact HO.out
 rw [hbr] at k12
 have HBR := hidden hbr
 clear hbr
 by_cases hgn : 59990 <= x.gen
 case pos =>
  have HV := hidden (spare_no (x := x) (ms := ms) (ds := ds) (c := 7) (by rw [HK.out]; rw [HLF.out.1]; unfold mkC; rw [HBR.out, if_pos hgn]; simp) (by decide))
  clear HK
  obtain ⟨vm, vd, cvm, cvd, Yf, mf, df, hrf, r1f, r2f⟩ := A3
  have Y0 := Yf
  unfold arrC at Y0
  obtain ⟨t0, t1, t2, t3, t4, t5, t6, t7, t8, t9, t10, t11, t12⟩ := Y0.cells13
  obtain ⟨s0, s1, s2, s3, s4, s5, s6, s7, s8, s9, s10, s11, s12⟩ := R3.cells13
  have fz := R3.frozen
  have HO := hidden (arr_outC (y := x) (code := 7) (e := .returned (.tuple #[.agg (arrC x _ _), .int .i64 7])) (lo := BR + 1) B3 R3 rfl mf df hrf (fun b hb => by have := rm2 b hb; omega) (fun b hb => by have := rd2 b hb; omega) (by omega) (by omega))
  unfold arrC at HO
  simp only [puts] at HO
  clear Yf Y0 mf df R3 B3
  go_wp2
  refine bodyPost_ret (v := .tuple #[.agg #[.int .i64 x.id, .int .i64 x.n, .int .i64 x.s, .slice vm ms.length cvm, .int .i64 x.lost, .int .i64 x.built, .int .i64 x.seq, .int .i64 x.tail, .int .i64 x.gen, .slice vd ds.length cvd, .int .i64 x.fuse, .bool x.down, .bool x.broken], .int .i64 7]) (by simp [results, Tryz.results15, go_sem, s0, s1, s2, s3, s4, s5, s6, s7, s8, s9, s10, s11, s12]) rfl ?_
  rw [HV.out.1, HV.out.2]; exact HO.out
 have HV := hidden (spare_yes (x := x) (ms := ms) (ds := ds) (by rw [HK.out]; rw [HLF.out.1]; unfold mkC; rw [HBR.out, if_neg hgn]; simp))
 obtain ⟨m, hlm⟩ : ∃ m : Nat, x.lost = (m : Int) := ⟨x.lost.toNat, by omega⟩
 have hmm : m < ms.length := by omega
 have HIN := hidden (l12Spare_any w3 B x ms ds fm fd A3 fc mk gc0 gc1 hgeo m hlm hmm)
 clear A3 HK hlm
 go_wp2_with fail
 refine HIN.out.mono ?_
 rintro e w4 ⟨rfl, fm4, A4, M4⟩
 have rm4 : ∀ b ∈ fm4, W.heap.size <= b := fun b hb => by rcases M4.2 b hb with h | h; exact rm2 b h; omega
 have R4 := M4.box R3 (by omega) (fun hm => by have := rm2 _ hm; omega)
 have B4 := B3.trans (M4.belowN (N := w.heap.size) (by omega) (fun b hb => by have := rm2 b hb; omega) (by omega))
 have z4 := M4.size
 clear k0 k1 k2 k3 k4 k5 k6 k7 k8 k9 k10 k11 k12 X3 R3 B3 M4 HIN q2
 generalize dn12 (spareA (x, ms)).1.down = cc at HV ⊢
 generalize spareA (x, ms) = st at A4 HV
 obtain ⟨y, ns⟩ := st
 dsimp only at A4
 obtain ⟨vm, vd, cvm, cvd, Yf, mf, df, hrf, r1f, r2f⟩ := A4
 have Y0 := Yf
 unfold arrC at Y0
 obtain ⟨t0, t1, t2, t3, t4, t5, t6, t7, t8, t9, t10, t11, t12⟩ := Y0.cells13
 obtain ⟨s0, s1, s2, s3, s4, s5, s6, s7, s8, s9, s10, s11, s12⟩ := R4.cells13
 have fz := R4.frozen
 have HO := hidden (arr_outC (y := y) (code := cc) (e := .returned (.tuple #[.agg (arrC y _ _), .int .i64 cc])) (lo := BR + 1) B4 R4 rfl mf df hrf (fun b hb => by have := rm4 b hb; omega) (fun b hb => by have := rd2 b hb; omega) (by omega) (by omega))
 unfold arrC at HO
 simp only [puts] at HO
 clear Yf Y0 mf df R4 B4
 go_wp2
 refine bodyPost_ret (v := .tuple #[.agg #[.int .i64 y.id, .int .i64 y.n, .int .i64 y.s, .slice vm ns.length cvm, .int .i64 y.lost, .int .i64 y.built, .int .i64 y.seq, .int .i64 y.tail, .int .i64 y.gen, .slice vd ds.length cvd, .int .i64 y.fuse, .bool y.down, .bool y.broken], .int .i64 cc]) (by simp [results, Tryz.results15, go_sem, s0, s1, s2, s3, s4, s5, s6, s7, s8, s9, s10, s11, s12]) rfl ?_
 rw [HV.out.1, HV.out.2]; exact HO.out

theorem specBuildStep_any (w : World) (E F G : TypeId) (x : ArrN) (am ad : Option Addr) (nm cm nd cd : Nat) (ms : List MemD) (ds : List (Int × List Int)) (h0 : (tMemS E F).Rd w [.slice am nm cm] ms) (h1 : (tWrS G).Rd w [.slice ad nd cd] ds) (hw : wtArr ms ds <= 2097152) :
 Calls Tryz.prog 17 #[.agg #[.int .i64 x.id, .int .i64 x.n, .int .i64 x.s, .slice am nm cm, .int .i64 x.lost, .int .i64 x.built, .int .i64 x.seq, .int .i64 x.tail, .int .i64 x.gen, .slice ad nd cd, .int .i64 x.fuse, .bool x.down, .bool x.broken]] w fun e w' => ArrOutC w w' e (bstepO x ms ds) (bstepC x ms ds) ds := by
 obtain ⟨rfl, _⟩ := row_length h0
 obtain ⟨rfl, _⟩ := row_length h1
 have hA := (new_below w (.cells #[.int .i64 x.id, .int .i64 x.n, .int .i64 x.s, .slice am ms.length cm, .int .i64 x.lost, .int .i64 x.built, .int .i64 x.seq, .int .i64 x.tail, .int .i64 x.gen, .slice ad ds.length cd, .int .i64 x.fuse, .bool x.down, .bool x.broken] 33)).alloc (by simp) (.cells #[.int .i64 0, .int .i64 0, .int .i64 0, .slice none 0 0, .int .i64 0, .int .i64 0, .int .i64 0, .int .i64 0, .int .i64 0, .slice none 0 0, .int .i64 0, .bool false, .bool false] 33)
 have X0 : Box ((w.alloc (.cells #[.int .i64 x.id, .int .i64 x.n, .int .i64 x.s, .slice am ms.length cm, .int .i64 x.lost, .int .i64 x.built, .int .i64 x.seq, .int .i64 x.tail, .int .i64 x.gen, .slice ad ds.length cd, .int .i64 x.fuse, .bool x.down, .bool x.broken] 33)).alloc (.cells #[.int .i64 0, .int .i64 0, .int .i64 0, .slice none 0 0, .int .i64 0, .int .i64 0, .int .i64 0, .int .i64 0, .int .i64 0, .slice none 0 0, .int .i64 0, .bool false, .bool false] 33)) w.heap.size 33 #[.int .i64 x.id, .int .i64 x.n, .int .i64 x.s, .slice am ms.length cm, .int .i64 x.lost, .int .i64 x.built, .int .i64 x.seq, .int .i64 x.tail, .int .i64 x.gen, .slice ad ds.length cd, .int .i64 x.fuse, .bool x.down, .bool x.broken] := (Box.new w _ _).alloc _
 have R0 := Box.new (w.alloc (.cells #[.int .i64 x.id, .int .i64 x.n, .int .i64 x.s, .slice am ms.length cm, .int .i64 x.lost, .int .i64 x.built, .int .i64 x.seq, .int .i64 x.tail, .int .i64 x.gen, .slice ad ds.length cd, .int .i64 x.fuse, .bool x.down, .bool x.broken] 33)) 33 #[.int .i64 0, .int .i64 0, .int .i64 0, .slice none 0 0, .int .i64 0, .int .i64 0, .int .i64 0, .int .i64 0, .int .i64 0, .slice none 0 0, .int .i64 0, .bool false, .bool false]
 rw [World.size_alloc] at R0
 have zX := X0.lt
 have zR := R0.lt
 have r0 := h0.below hA
 have r1 := h1.below hA
 have hzW : ((w.alloc (.cells #[.int .i64 x.id, .int .i64 x.n, .int .i64 x.s, .slice am ms.length cm, .int .i64 x.lost, .int .i64 x.built, .int .i64 x.seq, .int .i64 x.tail, .int .i64 x.gen, .slice ad ds.length cd, .int .i64 x.fuse, .bool x.down, .bool x.broken] 33)).alloc (.cells #[.int .i64 0, .int .i64 0, .int .i64 0, .slice none 0 0, .int .i64 0, .int .i64 0, .int .i64 0, .int .i64 0, .int .i64 0, .slice none 0 0, .int .i64 0, .bool false, .bool false] 33)).heap.size = w.heap.size + 1 + 1 := by simp
 obtain ⟨k0, k1, k2, k3, k4, k5, k6, k7, k8, k9, k10, k11, k12⟩ := X0.cells13
 go_enter Tryz.func17, Tryz.ntmps17
 go_wp2_with fail
 generalize (w.alloc (.cells #[.int .i64 x.id, .int .i64 x.n, .int .i64 x.s, .slice am ms.length cm, .int .i64 x.lost, .int .i64 x.built, .int .i64 x.seq, .int .i64 x.tail, .int .i64 x.gen, .slice ad ds.length cd, .int .i64 x.fuse, .bool x.down, .bool x.broken] 33)).alloc (.cells #[.int .i64 0, .int .i64 0, .int .i64 0, .slice none 0 0, .int .i64 0, .int .i64 0, .int .i64 0, .int .i64 0, .int .i64 0, .slice none 0 0, .int .i64 0, .bool false, .bool false] 33) = W at hA X0 R0 zX zR r0 r1 hzW k0 k1 k2 k3 k4 k5 k6 k7 k8 k9 k10 k11 k12 ⊢
 obtain ⟨BR, hBR⟩ : ∃ BR, w.heap.size + 1 = BR := ⟨_, rfl⟩
 rw [hBR] at R0 zR hzW ⊢
 have q1 : w.heap.size + 1 <= BR /\ BR <= w.heap.size + 1 := by omega
 clear hBR
 refine (l6Copy_any _ E F G x _ _ _ _ _ _ ms ds r0 r1 hw).mono ?_
 rintro e w1 ⟨bm, cm1, bd, cd1, m, rfl, om, od, zm, zm2, b1⟩
 have bn := new_below w1 (.cells #[.int .i64 x.id, .int .i64 x.n, .int .i64 x.s, .slice bm ms.length cm1, .int .i64 x.lost, .int .i64 x.built, .int .i64 x.seq, .int .i64 x.tail, .int .i64 x.gen, .slice bd ds.length cd1, .int .i64 x.fuse, .bool x.down, .bool x.broken] 33)
 have b12 : Below W.heap.size W (w1.alloc (.cells #[.int .i64 x.id, .int .i64 x.n, .int .i64 x.s, .slice bm ms.length cm1, .int .i64 x.lost, .int .i64 x.built, .int .i64 x.seq, .int .i64 x.tail, .int .i64 x.gen, .slice bd ds.length cd1, .int .i64 x.fuse, .bool x.down, .bool x.broken] 33)) := Below.andThen b1 bn
 have Y := Box.new w1 33 #[.int .i64 x.id, .int .i64 x.n, .int .i64 x.s, .slice bm ms.length cm1, .int .i64 x.lost, .int .i64 x.built, .int .i64 x.seq, .int .i64 x.tail, .int .i64 x.gen, .slice bd ds.length cd1, .int .i64 x.fuse, .bool x.down, .bool x.broken]
 have zY := Y.lt
 have z1 := b1.size
 obtain ⟨fm, mm, rm⟩ := (om.below bn).mine
 obtain ⟨fd, md, rd⟩ := (od.below bn).mine
 have A2 : ArrAt (w1.alloc (.cells #[.int .i64 x.id, .int .i64 x.n, .int .i64 x.s, .slice bm ms.length cm1, .int .i64 x.lost, .int .i64 x.built, .int .i64 x.seq, .int .i64 x.tail, .int .i64 x.gen, .slice bd ds.length cd1, .int .i64 x.fuse, .bool x.down, .bool x.broken] 33)) w1.heap.size x ms ds fm fd := ⟨bm, bd, cm1, cd1, Y, mm, md, fun b hb hb' => by have h1 := rm b hb; have h2 := rd b hb'; omega, fun hm => by have := rm _ hm; omega, fun hm => by have := rd _ hm; omega⟩
 have X2 := X0.below b12 zX
 have R2 := R0.below b12 zR
 have p0 := r0.below b12
 have p1 := r1.below b12
 have B2 := Below.andThen hA b12
 have rm2 : ∀ b ∈ fm, W.heap.size <= b := fun b hb => by have := rm b hb; omega
 have rd2 : ∀ b ∈ fd, W.heap.size <= b := fun b hb => by have := rd b hb; omega
 clear k0 k1 k2 k3 k4 k5 k6 k7 k8 k9 k10 k11 k12 X0 R0 r0 r1 om od b1 bn b12 Y mm rm md rd hA
 obtain ⟨k0, k1, k2, k3, k4, k5, k6, k7, k8, k9, k10, k11, k12⟩ := X2.cells13
 go_wp2_with fail
 generalize w1.alloc (.cells #[.int .i64 x.id, .int .i64 x.n, .int .i64 x.s, .slice bm ms.length cm1, .int .i64 x.lost, .int .i64 x.built, .int .i64 x.seq, .int .i64 x.tail, .int .i64 x.gen, .slice bd ds.length cd1, .int .i64 x.fuse, .bool x.down, .bool x.broken] 33) = w2 at A2 X2 R2 p0 p1 B2 zY k0 k1 k2 k3 k4 k5 k6 k7 k8 k9 k10 k11 k12 ⊢
 obtain ⟨B, hB⟩ : ∃ B, w1.heap.size = B := ⟨_, rfl⟩
 rw [hB] at A2 zY z1 ⊢
 clear hB
 refine (l8May_any _ E F G x _ _ _ _ _ _ ms ds p0 p1 hw).mono ?_
 rintro e w3 ⟨rfl, b3⟩
 have A3 := A2.below b3
 have X3 := X2.below b3 X2.lt
 have R3 := R2.below b3 R2.lt
 have B3 := Below.andThen B2 b3
 have q3 := p0.below b3
 have z3 := b3.size
 clear k0 k1 k2 k3 k4 k5 k6 k7 k8 k9 k10 k11 k12 A2 X2 R2 p0 p1 B2 b3
 have HK : Hid (nextK x ms ds = if ask8 x ms ds = 0 then (if (lostT x ms && decide (x.built ≠ x.s)) = true then (if wordsOk6 x ms ds x.built = true then 0 else 5) else 2) else ask8 x ms ds) := rfl
 by_cases hc : ask8 x ms ds = 0
 case neg =>
  have HV := hidden (step_no (x := x) (ms := ms) (ds := ds) (c := ask8 x ms ds) (by rw [HK.out, if_neg hc]) hc)
  have e0 : (ask8 x ms ds != 0) = true := by simpa using hc
  clear hc HK
  generalize ask8 x ms ds = q at e0 HV ⊢
  obtain ⟨vm, vd, cvm, cvd, Yf, mf, df, hrf, r1f, r2f⟩ := A3
  have Y0 := Yf
  unfold arrC at Y0
  obtain ⟨t0, t1, t2, t3, t4, t5, t6, t7, t8, t9, t10, t11, t12⟩ := Y0.cells13
  obtain ⟨s0, s1, s2, s3, s4, s5, s6, s7, s8, s9, s10, s11, s12⟩ := R3.cells13
  have fz := R3.frozen
  have HO := hidden (arr_outC (y := x) (code := q) (e := .returned (.tuple #[.agg (arrC x _ _), .int .i64 q])) (lo := BR + 1) B3 R3 rfl mf df hrf (fun b hb => by have := rm2 b hb; omega) (fun b hb => by have := rd2 b hb; omega) (by omega) (by omega))
  unfold arrC at HO
  simp only [puts] at HO
  clear Yf Y0 mf df R3 B3
  go_wp2
  refine bodyPost_ret (v := .tuple #[.agg #[.int .i64 x.id, .int .i64 x.n, .int .i64 x.s, .slice vm ms.length cvm, .int .i64 x.lost, .int .i64 x.built, .int .i64 x.seq, .int .i64 x.tail, .int .i64 x.gen, .slice vd ds.length cvd, .int .i64 x.fuse, .bool x.down, .bool x.broken], .int .i64 q]) (by simp [results, Tryz.results17, go_sem, s0, s1, s2, s3, s4, s5, s6, s7, s8, s9, s10, s11, s12]) rfl ?_
  rw [HV.out.1, HV.out.2]; exact HO.out
 have ha := (ask_good hc).1
 have HASK := hidden hc
 have hln9 := arr_len ha
 have hbu9 : 0 <= x.built /\ x.built <= x.s := by have p5 := (arr_split.1 ha).2.2.2.2.1; unfold lostB6 at p5; simp only [Bool.and_eq_true, inB_iff] at p5; exact p5.2.1
 have hg9 := geoB_iff.1 (arr_split.1 ha).1
 rw [if_pos hc] at HK
 rw [hc]
 clear hc
 obtain ⟨fc, mk, gc0, gc1⟩ := arr_facts ha
 have hgeo := (arr_split.1 ha).1
 have hlo := arr_lost ha
 obtain ⟨k0, k1, k2, k3, k4, k5, k6, k7, k8, k9, k10, k11, k12⟩ := X3.cells13
 by_cases l1 : x.lost = -1
 case pos =>
  have e1 : (x.lost == -1) = true := by simp [l1]
  have HLF := hidden (lost_none (ms := ms) l1)
  clear l1
  have HV := hidden (step_no (x := x) (ms := ms) (ds := ds) (c := 2) (by rw [HK.out]; rw [HLF.out.2]; simp) (by decide))
  clear HK
  obtain ⟨vm, vd, cvm, cvd, Yf, mf, df, hrf, r1f, r2f⟩ := A3
  have Y0 := Yf
  unfold arrC at Y0
  obtain ⟨t0, t1, t2, t3, t4, t5, t6, t7, t8, t9, t10, t11, t12⟩ := Y0.cells13
  obtain ⟨s0, s1, s2, s3, s4, s5, s6, s7, s8, s9, s10, s11, s12⟩ := R3.cells13
  have fz := R3.frozen
  have HO := hidden (arr_outC (y := x) (code := 2) (e := .returned (.tuple #[.agg (arrC x _ _), .int .i64 2])) (lo := BR + 1) B3 R3 rfl mf df hrf (fun b hb => by have := rm2 b hb; omega) (fun b hb => by have := rd2 b hb; omega) (by omega) (by omega))
  unfold arrC at HO
  simp only [puts] at HO
  clear Yf Y0 mf df R3 B3
  go_wp2
  refine bodyPost_ret (v := .tuple #[.agg #[.int .i64 x.id, .int .i64 x.n, .int .i64 x.s, .slice vm ms.length cvm, .int .i64 x.lost, .int .i64 x.built, .int .i64 x.seq, .int .i64 x.tail, .int .i64 x.gen, .slice vd ds.length cvd, .int .i64 x.fuse, .bool x.down, .bool x.broken], .int .i64 2]) (by simp [results, Tryz.results17, go_sem, s0, s1, s2, s3, s4, s5, s6, s7, s8, s9, s10, s11, s12]) rfl ?_
  rw [HV.out.1, HV.out.2]; exact HO.out
 have e1 : (x.lost == -1) = false := by simp [l1]
 have i1 : 0 <= x.lost := by omega
 have i3 := hlo.2
 have hj : x.lost.toNat < ms.length := by omega
 obtain ⟨d, hdj⟩ : ∃ d, ms[x.lost.toNat]? = some d := ⟨_, List.getElem?_eq_getElem hj⟩
 have HLF := hidden (lost_at l1 hdj)
 rcases quads_at rfl q3 with h0' | ⟨b, off, rfl, hbl, hcs⟩
 . omega
 obtain ⟨v0, v1, v2, v3, q0, q1', q2, q3', hrv⟩ := hcs _ d hdj
 obtain ⟨a0, c0, a1, c1, a3, c3, ss, cs, f, bs, hde, rfl, rfl, rfl, rfl, p0, p1, p3⟩ := mem_at hrv
 have hf2 : d.2.2.1 = f := by rw [hde]
 rw [hf2] at HLF
 clear p0 p1 p3 hcs hrv q0 q1' q3' hde hf2 hdj l1 hlo k0 k1 k2 k3 k4 k5 k6 k7 k8 k9 k10 k11 k12
 obtain ⟨k0, k1, k2, k3, k4, k5, k6, k7, k8, k9, k10, k11, k12⟩ := X3.cells13
 cases f
 case true =>
  have HV := hidden (step_no (x := x) (ms := ms) (ds := ds) (c := 2) (by rw [HK.out]; rw [HLF.out.2]; simp) (by decide))
  clear HK
  obtain ⟨vm, vd, cvm, cvd, Yf, mf, df, hrf, r1f, r2f⟩ := A3
  have Y0 := Yf
  unfold arrC at Y0
  obtain ⟨t0, t1, t2, t3, t4, t5, t6, t7, t8, t9, t10, t11, t12⟩ := Y0.cells13
  obtain ⟨s0, s1, s2, s3, s4, s5, s6, s7, s8, s9, s10, s11, s12⟩ := R3.cells13
  have fz := R3.frozen
  have HO := hidden (arr_outC (y := x) (code := 2) (e := .returned (.tuple #[.agg (arrC x _ _), .int .i64 2])) (lo := BR + 1) B3 R3 rfl mf df hrf (fun b hb => by have := rm2 b hb; omega) (fun b hb => by have := rd2 b hb; omega) (by omega) (by omega))
  unfold arrC at HO
  simp only [puts] at HO
  clear Yf Y0 mf df R3 B3
  go_wp2
  refine bodyPost_ret (v := .tuple #[.agg #[.int .i64 x.id, .int .i64 x.n, .int .i64 x.s, .slice vm ms.length cvm, .int .i64 x.lost, .int .i64 x.built, .int .i64 x.seq, .int .i64 x.tail, .int .i64 x.gen, .slice vd ds.length cvd, .int .i64 x.fuse, .bool x.down, .bool x.broken], .int .i64 2]) (by simp [results, Tryz.results17, go_sem, s0, s1, s2, s3, s4, s5, s6, s7, s8, s9, s10, s11, s12]) rfl ?_
  rw [HV.out.1, HV.out.2]; exact HO.out
 by_cases hlw : x.s <= x.built
 case pos =>
  have HV := hidden (step_no (x := x) (ms := ms) (ds := ds) (c := 2) (by rw [HK.out]; rw [HLF.out.2, decide_eq_false (by omega)]; rfl) (by decide))
  clear HK
  obtain ⟨vm, vd, cvm, cvd, Yf, mf, df, hrf, r1f, r2f⟩ := A3
  have Y0 := Yf
  unfold arrC at Y0
  obtain ⟨t0, t1, t2, t3, t4, t5, t6, t7, t8, t9, t10, t11, t12⟩ := Y0.cells13
  obtain ⟨s0, s1, s2, s3, s4, s5, s6, s7, s8, s9, s10, s11, s12⟩ := R3.cells13
  have fz := R3.frozen
  have HO := hidden (arr_outC (y := x) (code := 2) (e := .returned (.tuple #[.agg (arrC x _ _), .int .i64 2])) (lo := BR + 1) B3 R3 rfl mf df hrf (fun b hb => by have := rm2 b hb; omega) (fun b hb => by have := rd2 b hb; omega) (by omega) (by omega))
  unfold arrC at HO
  simp only [puts] at HO
  clear Yf Y0 mf df R3 B3
  go_wp2
  refine bodyPost_ret (v := .tuple #[.agg #[.int .i64 x.id, .int .i64 x.n, .int .i64 x.s, .slice vm ms.length cvm, .int .i64 x.lost, .int .i64 x.built, .int .i64 x.seq, .int .i64 x.tail, .int .i64 x.gen, .slice vd ds.length cvd, .int .i64 x.fuse, .bool x.down, .bool x.broken], .int .i64 2]) (by simp [results, Tryz.results17, go_sem, s0, s1, s2, s3, s4, s5, s6, s7, s8, s9, s10, s11, s12]) rfl ?_
  rw [HV.out.1, HV.out.2]; exact HO.out
 cases hbr : x.broken
 case true =>
  rw [hbr] at k12
  have HBR := hidden hbr
  clear hbr
  have HV := hidden (step_no (x := x) (ms := ms) (ds := ds) (c := 5) (by rw [HK.out]; rw [HLF.out.2, decide_eq_true (by omega)]; unfold wordsOk6 okB6; rw [HBR.out]; simp) (by decide))
  clear HK
  obtain ⟨vm, vd, cvm, cvd, Yf, mf, df, hrf, r1f, r2f⟩ := A3
  have Y0 := Yf
  unfold arrC at Y0
  obtain ⟨t0, t1, t2, t3, t4, t5, t6, t7, t8, t9, t10, t11, t12⟩ := Y0.cells13
  obtain ⟨s0, s1, s2, s3, s4, s5, s6, s7, s8, s9, s10, s11, s12⟩ := R3.cells13
  have fz := R3.frozen
  have HO := hidden (arr_outC (y := x) (code := 5) (e := .returned (.tuple #[.agg (arrC x _ _), .int .i64 5])) (lo := BR + 1) B3 R3 rfl mf df hrf (fun b hb => by have := rm2 b hb; omega) (fun b hb => by have := rd2 b hb; omega) (by omega) (by omega))
  unfold arrC at HO
  simp only [puts] at HO
  clear Yf Y0 mf df R3 B3
  go_wp2
  refine bodyPost_ret (v := .tuple #[.agg #[.int .i64 x.id, .int .i64 x.n, .int .i64 x.s, .slice vm ms.length cvm, .int .i64 x.lost, .int .i64 x.built, .int .i64 x.seq, .int .i64 x.tail, .int .i64 x.gen, .slice vd ds.length cvd, .int .i64 x.fuse, .bool x.down, .bool x.broken], .int .i64 5]) (by simp [results, Tryz.results17, go_sem, s0, s1, s2, s3, s4, s5, s6, s7, s8, s9, s10, s11, s12]) rfl ?_
  rw [HV.out.1, HV.out.2]; exact HO.out
 rw [hbr] at k12
 have HBR := hidden hbr
 clear hbr
 have hlT : lostT x ms = true := HLF.out.2
 have HV := hidden (step_yes (x := x) (ms := ms) (ds := ds) HASK.out hlT (by omega) HBR.out)
 obtain ⟨m, hlm⟩ : ∃ m : Nat, x.lost = (m : Int) := ⟨x.lost.toNat, by omega⟩
 have hmm : m < ms.length := by omega
 have HIN := hidden (l12Step_any w3 B x ms ds fm fd A3 fc mk hgeo (by unfold wtArr at hw; omega) m hlm hmm (by omega) ⟨by omega, by omega⟩)
 clear A3 HK hlm
 go_wp2_with fail
 refine HIN.out.mono ?_
 rintro e w4 ⟨rfl, fm4, A4, M4⟩
 have rm4 : ∀ b ∈ fm4, W.heap.size <= b := fun b hb => by rcases M4.2 b hb with h | h; exact rm2 b h; omega
 have R4 := M4.box R3 (by omega) (fun hm => by have := rm2 _ hm; omega)
 have B4 := B3.trans (M4.belowN (N := w.heap.size) (by omega) (fun b hb => by have := rm2 b hb; omega) (by omega))
 have z4 := M4.size
 clear k0 k1 k2 k3 k4 k5 k6 k7 k8 k9 k10 k11 k12 X3 R3 B3 M4 HIN q2
 generalize stepC (x, ms) = cc at HV ⊢
 generalize stepA (x, ms) = st at A4 HV
 obtain ⟨y, ns⟩ := st
 dsimp only at A4
 obtain ⟨vm, vd, cvm, cvd, Yf, mf, df, hrf, r1f, r2f⟩ := A4
 have Y0 := Yf
 unfold arrC at Y0
 obtain ⟨t0, t1, t2, t3, t4, t5, t6, t7, t8, t9, t10, t11, t12⟩ := Y0.cells13
 obtain ⟨s0, s1, s2, s3, s4, s5, s6, s7, s8, s9, s10, s11, s12⟩ := R4.cells13
 have fz := R4.frozen
 have HO := hidden (arr_outC (y := y) (code := cc) (e := .returned (.tuple #[.agg (arrC y _ _), .int .i64 cc])) (lo := BR + 1) B4 R4 rfl mf df hrf (fun b hb => by have := rm4 b hb; omega) (fun b hb => by have := rd2 b hb; omega) (by omega) (by omega))
 unfold arrC at HO
 simp only [puts] at HO
 clear Yf Y0 mf df R4 B4
 go_wp2
 refine bodyPost_ret (v := .tuple #[.agg #[.int .i64 y.id, .int .i64 y.n, .int .i64 y.s, .slice vm ns.length cvm, .int .i64 y.lost, .int .i64 y.built, .int .i64 y.seq, .int .i64 y.tail, .int .i64 y.gen, .slice vd ds.length cvd, .int .i64 y.fuse, .bool y.down, .bool y.broken], .int .i64 cc]) (by simp [results, Tryz.results17, go_sem, s0, s1, s2, s3, s4, s5, s6, s7, s8, s9, s10, s11, s12]) rfl ?_
 rw [HV.out.1, HV.out.2]; exact HO.out

end Go.Proofs.YtechckninoilhaaGreat

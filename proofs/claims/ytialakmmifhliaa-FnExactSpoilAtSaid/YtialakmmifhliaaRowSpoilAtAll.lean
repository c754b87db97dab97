/-
 The exact law of SpoilAt holds: for every array and any two numbers the law returns true. No condition.
-/
import Derived.Test.YtialakmmifhliaaWalkSpoilSpec
import Derived.Test.YtialakmmifhliaaRowSpoilAtAll2
import Derived.Test.YtialakmmifhliaaHeld
import Derived.Test.YtialakmmifhliaaWalkArr
import Derived.Test.YtialakmmifhliaaWalkCopySpec
import Derived.Test.YtialakmmifhliaaOrder
import Derived.Test.YtialakmmifhliaaWalkCopy
import Derived.Test.YtialakmmifhliaaWalkImplMemOk
import Derived.Test.YtialakmmifhliaaWalkGeo
import Derived.Test.YtialakmmifhliaaWalkSuper
import Derived.Test.YtialakmmifhliaaWalkNewest
import Derived.Test.YtialakmmifhliaaWalkCopyWords
import Derived.Test.YtialakmmifhliaaMemB
import Derived.BigQuiet
import Derived.WalkSmall
import Derived.Handy
import Derived.Test.YtialakmmifhliaaWalkDel
import Derived.Shelf.Spec.SlicesInsertGrow
import Derived.Test.YtialakmmifhliaaBox
import Derived.Test.YtialakmmifhliaaWalkSz
import Derived.ProofKit
import Derived.OpenShut
import Derived.Lib.SmallJoins
import Derived.Deep.Slices
import Derived.Deep.SlicePairs
import Derived.Test.YtialakmmifhliaaRows
import Derived.WalkKit
import Derived.ShutString
import Derived.ChangeOld
import Derived.Below

set_option maxRecDepth 100000
set_option maxHeartbeats 8000000
set_option linter.unusedSimpArgs false

namespace Go.Proofs.Ytialakmmifhliaa
open Go.RowKit

theorem sumL_put (l : List Nat) (k y : Nat) (h : k < l.length) : sumL (l.set k y) + l[k] = sumL l + y := by
 induction l generalizing k with
 | nil => simp at h
 | cons a t ih =>
  cases k with
  | zero => simp only [List.set_cons_zero, sumL, List.foldr_cons, List.getElem_cons_zero]; omega
  | succ k => have := ih k (by simpa using h); simp only [List.set_cons_succ, sumL, List.foldr_cons, List.getElem_cons_succ] at this ⊢; omega
theorem row_mem11 {t : Ty} {E : TypeId} {w : World} {g n cap : Nat} {d : List t.D} {fp : List Nat} (h : (rowTy t E).Mine w [.slice (some ⟨g, 0, none⟩) n cap] d fp) : g ∈ fp := by
 obtain ⟨h, _⟩ := h
 rcases h with ⟨h1, _⟩ | ⟨b, cap', cur, fps, h1, _, _, _, _, hf, _⟩
 . simp at h1
 simp at h1
 rw [hf, h1.1]
 simp
def spoilB (x : ArrN) (ms : List MemD) (ds : List (Int × List Int)) (m s : Int) : Bool := arrB x ms ds && (inB m 0 ((ms.length : Int) - 1) && inB s 0 (x.s - 1))
def spoilD (d : MemD) (s : Int) : MemD := (d.1, d.2.1, d.2.2.1, spBS d.1 d.2.1 d.2.2.2 (dataN s))
def spoilO (x : ArrN) (ms : List MemD) (ds : List (Int × List Int)) (m s : Int) : ArrN × List MemD := (x, if spoilB x ms ds m s = true then ms.set m.toNat (spoilD (ms.getD m.toNat memZ) s) else ms)
theorem spoil_no {x : ArrN} {ms : List MemD} {ds : List (Int × List Int)} {m s : Int} (h : spoilB x ms ds m s = false) : spoilO x ms ds m s = (x, ms) := by unfold spoilO; rw [if_neg (by simp [h])]
theorem spoil_of {x : ArrN} {ms : List MemD} {ds : List (Int × List Int)} {j : Nat} {s : Int} {d : MemD} (h : spoilB x ms ds (j : Int) s = true) (hd : ms[j]? = some d) : spoilO x ms ds (j : Int) s = (x, ms.set j (spoilD d s)) := by
 unfold spoilO
 rw [if_pos h, Int.toNat_natCast, List.getD_eq_getElem?_getD, hd]
 rfl
theorem spBS_le (ss : List (List Int)) (cs : List (Int × List Int)) (bs : List Int) (n : Int) : (spBS ss cs bs n).length <= bs.length + 1 := by
 unfold spBS
 by_cases h : spOk ss cs bs n = true
 . rw [if_pos h]
   unfold insD
   have : (bs.filter fun x => decide (x <= n)).length <= bs.length := List.length_filter_le _ _
   simp only [List.length_append, List.length_take, List.length_cons, List.length_drop]
   omega
 rw [if_neg h]; omega
theorem spoilO_wt {x : ArrN} {ms : List MemD} {ds : List (Int × List Int)} {m s : Int} (hw : wtArr ms ds <= 1048576) : wtArr (spoilO x ms ds m s).2 ds <= 2097152 := by
 cases h : spoilB x ms ds m s
 . rw [spoil_no h]; dsimp only; omega
 have h1 : inB m 0 ((ms.length : Int) - 1) = true := by unfold spoilB at h; simp only [Bool.and_eq_true] at h; exact h.2.1
 obtain ⟨h2, h3⟩ := inB_iff.1 h1
 obtain ⟨j, rfl⟩ := Int.eq_ofNat_of_zero_le h2
 have hj : j < ms.length := by omega
 rw [spoil_of h (List.getElem?_eq_getElem hj)]
 have e1 := sumL_put (ms.map wtMem) j (wtMem (spoilD ms[j] s)) (by simpa using hj)
 have e2 := spBS_le ms[j].1 ms[j].2.1 ms[j].2.2.2 (dataN s)
 rw [List.getElem_map] at e1
 have e3 : wtMem (spoilD ms[j] s) <= wtMem ms[j] + 1 := by unfold wtMem spoilD; dsimp only; omega
 unfold wtArr wtMemS at hw ⊢
 rw [List.map_set, List.length_set]
 omega

theorem l6Copy_any (w : World) (E F G : TypeId) (x : ArrN) (am ad : Option Addr) (nm cm nd cd : Nat) (ms : List MemD) (ds : List (Int × List Int)) (h0 : (tMemS E F).Rd w [.slice am nm cm] ms) (h1 : (tWrS G).Rd w [.slice ad nd cd] ds) (hw : wtArr ms ds <= 2097152) :
 Calls Try.prog 48 #[.agg #[.int .i64 x.id, .int .i64 x.n, .int .i64 x.s, .slice am nm cm, .int .i64 x.lost, .int .i64 x.built, .int .i64 x.seq, .int .i64 x.tail, .int .i64 x.gen, .slice ad nd cd, .int .i64 x.fuse, .bool x.down, .bool x.broken]] w fun e w' => ∃ bm cm' bd cd' m, e = .returned (.agg #[.int .i64 x.id, .int .i64 x.n, .int .i64 x.s, .slice bm nm cm', .int .i64 x.lost, .int .i64 x.built, .int .i64 x.seq, .int .i64 x.tail, .int .i64 x.gen, .slice bd nd cd', .int .i64 x.fuse, .bool x.down, .bool x.broken]) /\ (tMemS 115 75).Own w' w.heap.size m [.slice bm nm cm'] ms /\ (tWrS 89).Own w' m w'.heap.size [.slice bd nd cd'] ds /\ w.heap.size <= m /\ m <= w'.heap.size /\ Below w.heap.size w w' := by
 have hwm : wtMemS ms <= 2097152 := by unfold wtArr at hw; omega
 have hwd : wtWrS ds <= 2097152 := by unfold wtArr at hw; omega
 obtain ⟨hl0, _, hm0⟩ := row_length h0
 obtain ⟨hl1, _, hm1⟩ := row_length h1
 have hn0 : nm <= 2097152 := by unfold wtMemS at hwm; omega
 have hn1 : nd <= 2097152 := by unfold wtWrS at hwd; omega
 obtain ⟨i3, hi3, hx0, hx1, hx2⟩ := info_parts Try.info3
 obtain ⟨i1, hi1, hy0, hy1, hy2⟩ := info_parts Try.infoEnt
 obtain ⟨i4, hi4, hz0, hz1, hz2⟩ := info_parts Try.infoMem
 have zz : ∀ u : World, ∀ ob : Obj, (u.alloc ob).heap.size = u.heap.size + 1 := fun u ob => by simp
 have xm : Box ((((w.alloc (.cells #[.int .i64 x.id, .int .i64 x.n, .int .i64 x.s, .slice am nm cm, .int .i64 x.lost, .int .i64 x.built, .int .i64 x.seq, .int .i64 x.tail, .int .i64 x.gen, .slice ad nd cd, .int .i64 x.fuse, .bool x.down, .bool x.broken] 35)).alloc (.cells #[.int .i64 0, .int .i64 0, .int .i64 0, .slice none 0 0, .int .i64 0, .int .i64 0, .int .i64 0, .int .i64 0, .int .i64 0, .slice none 0 0, .int .i64 0, .bool false, .bool false] 35)).alloc (.cells #[.int .i64 x.id, .int .i64 x.n, .int .i64 x.s, .slice (some ⟨w.heap.size + 1 + 1 + 1, 0, none⟩) 0 0, .int .i64 x.lost, .int .i64 x.built, .int .i64 x.seq, .int .i64 x.tail, .int .i64 x.gen, .slice ad nd cd, .int .i64 x.fuse, .bool x.down, .bool x.broken] 35)).alloc (.cells #[] 75)) (w.heap.size) 35 #[.int .i64 x.id, .int .i64 x.n, .int .i64 x.s, .slice am nm cm, .int .i64 x.lost, .int .i64 x.built, .int .i64 x.seq, .int .i64 x.tail, .int .i64 x.gen, .slice ad nd cd, .int .i64 x.fuse, .bool x.down, .bool x.broken] := (((Box.new w _ _).alloc _).alloc _).alloc _
 have xr0 := Box.new (w.alloc (.cells #[.int .i64 x.id, .int .i64 x.n, .int .i64 x.s, .slice am nm cm, .int .i64 x.lost, .int .i64 x.built, .int .i64 x.seq, .int .i64 x.tail, .int .i64 x.gen, .slice ad nd cd, .int .i64 x.fuse, .bool x.down, .bool x.broken] 35)) 35 #[.int .i64 0, .int .i64 0, .int .i64 0, .slice none 0 0, .int .i64 0, .int .i64 0, .int .i64 0, .int .i64 0, .int .i64 0, .slice none 0 0, .int .i64 0, .bool false, .bool false]
 rw [zz] at xr0
 have xr : Box ((((w.alloc (.cells #[.int .i64 x.id, .int .i64 x.n, .int .i64 x.s, .slice am nm cm, .int .i64 x.lost, .int .i64 x.built, .int .i64 x.seq, .int .i64 x.tail, .int .i64 x.gen, .slice ad nd cd, .int .i64 x.fuse, .bool x.down, .bool x.broken] 35)).alloc (.cells #[.int .i64 0, .int .i64 0, .int .i64 0, .slice none 0 0, .int .i64 0, .int .i64 0, .int .i64 0, .int .i64 0, .int .i64 0, .slice none 0 0, .int .i64 0, .bool false, .bool false] 35)).alloc (.cells #[.int .i64 x.id, .int .i64 x.n, .int .i64 x.s, .slice (some ⟨w.heap.size + 1 + 1 + 1, 0, none⟩) 0 0, .int .i64 x.lost, .int .i64 x.built, .int .i64 x.seq, .int .i64 x.tail, .int .i64 x.gen, .slice ad nd cd, .int .i64 x.fuse, .bool x.down, .bool x.broken] 35)).alloc (.cells #[] 75)) (w.heap.size + 1) 35 #[.int .i64 0, .int .i64 0, .int .i64 0, .slice none 0 0, .int .i64 0, .int .i64 0, .int .i64 0, .int .i64 0, .int .i64 0, .slice none 0 0, .int .i64 0, .bool false, .bool false] := (xr0.alloc _).alloc _
 have xo0 := Box.new ((w.alloc (.cells #[.int .i64 x.id, .int .i64 x.n, .int .i64 x.s, .slice am nm cm, .int .i64 x.lost, .int .i64 x.built, .int .i64 x.seq, .int .i64 x.tail, .int .i64 x.gen, .slice ad nd cd, .int .i64 x.fuse, .bool x.down, .bool x.broken] 35)).alloc (.cells #[.int .i64 0, .int .i64 0, .int .i64 0, .slice none 0 0, .int .i64 0, .int .i64 0, .int .i64 0, .int .i64 0, .int .i64 0, .slice none 0 0, .int .i64 0, .bool false, .bool false] 35)) 35 #[.int .i64 x.id, .int .i64 x.n, .int .i64 x.s, .slice (some ⟨w.heap.size + 1 + 1 + 1, 0, none⟩) 0 0, .int .i64 x.lost, .int .i64 x.built, .int .i64 x.seq, .int .i64 x.tail, .int .i64 x.gen, .slice ad nd cd, .int .i64 x.fuse, .bool x.down, .bool x.broken]
 rw [zz, zz] at xo0
 have xo : Box ((((w.alloc (.cells #[.int .i64 x.id, .int .i64 x.n, .int .i64 x.s, .slice am nm cm, .int .i64 x.lost, .int .i64 x.built, .int .i64 x.seq, .int .i64 x.tail, .int .i64 x.gen, .slice ad nd cd, .int .i64 x.fuse, .bool x.down, .bool x.broken] 35)).alloc (.cells #[.int .i64 0, .int .i64 0, .int .i64 0, .slice none 0 0, .int .i64 0, .int .i64 0, .int .i64 0, .int .i64 0, .int .i64 0, .slice none 0 0, .int .i64 0, .bool false, .bool false] 35)).alloc (.cells #[.int .i64 x.id, .int .i64 x.n, .int .i64 x.s, .slice (some ⟨w.heap.size + 1 + 1 + 1, 0, none⟩) 0 0, .int .i64 x.lost, .int .i64 x.built, .int .i64 x.seq, .int .i64 x.tail, .int .i64 x.gen, .slice ad nd cd, .int .i64 x.fuse, .bool x.down, .bool x.broken] 35)).alloc (.cells #[] 75)) (w.heap.size + 1 + 1) 35 #[.int .i64 x.id, .int .i64 x.n, .int .i64 x.s, .slice (some ⟨w.heap.size + 1 + 1 + 1, 0, none⟩) 0 0, .int .i64 x.lost, .int .i64 x.built, .int .i64 x.seq, .int .i64 x.tail, .int .i64 x.gen, .slice ad nd cd, .int .i64 x.fuse, .bool x.down, .bool x.broken] := xo0.alloc _
 have ml := lit0_mine (t := tMem 115) (E := 75) (((w.alloc (.cells #[.int .i64 x.id, .int .i64 x.n, .int .i64 x.s, .slice am nm cm, .int .i64 x.lost, .int .i64 x.built, .int .i64 x.seq, .int .i64 x.tail, .int .i64 x.gen, .slice ad nd cd, .int .i64 x.fuse, .bool x.down, .bool x.broken] 35)).alloc (.cells #[.int .i64 0, .int .i64 0, .int .i64 0, .slice none 0 0, .int .i64 0, .int .i64 0, .int .i64 0, .int .i64 0, .int .i64 0, .slice none 0 0, .int .i64 0, .bool false, .bool false] 35)).alloc (.cells #[.int .i64 x.id, .int .i64 x.n, .int .i64 x.s, .slice (some ⟨w.heap.size + 1 + 1 + 1, 0, none⟩) 0 0, .int .i64 x.lost, .int .i64 x.built, .int .i64 x.seq, .int .i64 x.tail, .int .i64 x.gen, .slice ad nd cd, .int .i64 x.fuse, .bool x.down, .bool x.broken] 35))
 rw [zz, zz, zz] at ml
 have hB : Below (w.heap.size) w ((((w.alloc (.cells #[.int .i64 x.id, .int .i64 x.n, .int .i64 x.s, .slice am nm cm, .int .i64 x.lost, .int .i64 x.built, .int .i64 x.seq, .int .i64 x.tail, .int .i64 x.gen, .slice ad nd cd, .int .i64 x.fuse, .bool x.down, .bool x.broken] 35)).alloc (.cells #[.int .i64 0, .int .i64 0, .int .i64 0, .slice none 0 0, .int .i64 0, .int .i64 0, .int .i64 0, .int .i64 0, .int .i64 0, .slice none 0 0, .int .i64 0, .bool false, .bool false] 35)).alloc (.cells #[.int .i64 x.id, .int .i64 x.n, .int .i64 x.s, .slice (some ⟨w.heap.size + 1 + 1 + 1, 0, none⟩) 0 0, .int .i64 x.lost, .int .i64 x.built, .int .i64 x.seq, .int .i64 x.tail, .int .i64 x.gen, .slice ad nd cd, .int .i64 x.fuse, .bool x.down, .bool x.broken] 35)).alloc (.cells #[] 75)) := ((((Below.refl _ _).alloc (Nat.le_refl _) _).alloc (by simp) _).alloc (by simp; omega) _).alloc (by simp; omega) _
 have hz : w.heap.size + 1 + 1 + 1 < ((((w.alloc (.cells #[.int .i64 x.id, .int .i64 x.n, .int .i64 x.s, .slice am nm cm, .int .i64 x.lost, .int .i64 x.built, .int .i64 x.seq, .int .i64 x.tail, .int .i64 x.gen, .slice ad nd cd, .int .i64 x.fuse, .bool x.down, .bool x.broken] 35)).alloc (.cells #[.int .i64 0, .int .i64 0, .int .i64 0, .slice none 0 0, .int .i64 0, .int .i64 0, .int .i64 0, .int .i64 0, .int .i64 0, .slice none 0 0, .int .i64 0, .bool false, .bool false] 35)).alloc (.cells #[.int .i64 x.id, .int .i64 x.n, .int .i64 x.s, .slice (some ⟨w.heap.size + 1 + 1 + 1, 0, none⟩) 0 0, .int .i64 x.lost, .int .i64 x.built, .int .i64 x.seq, .int .i64 x.tail, .int .i64 x.gen, .slice ad nd cd, .int .i64 x.fuse, .bool x.down, .bool x.broken] 35)).alloc (.cells #[] 75)).heap.size := by simp
 clear xr0 xo0 zz
 go_enter Try.func48, Try.ntmps48
 go_wp2
 generalize (((w.alloc (.cells #[.int .i64 x.id, .int .i64 x.n, .int .i64 x.s, .slice am nm cm, .int .i64 x.lost, .int .i64 x.built, .int .i64 x.seq, .int .i64 x.tail, .int .i64 x.gen, .slice ad nd cd, .int .i64 x.fuse, .bool x.down, .bool x.broken] 35)).alloc (.cells #[.int .i64 0, .int .i64 0, .int .i64 0, .slice none 0 0, .int .i64 0, .int .i64 0, .int .i64 0, .int .i64 0, .int .i64 0, .slice none 0 0, .int .i64 0, .bool false, .bool false] 35)).alloc (.cells #[.int .i64 x.id, .int .i64 x.n, .int .i64 x.s, .slice (some ⟨w.heap.size + 1 + 1 + 1, 0, none⟩) 0 0, .int .i64 x.lost, .int .i64 x.built, .int .i64 x.seq, .int .i64 x.tail, .int .i64 x.gen, .slice ad nd cd, .int .i64 x.fuse, .bool x.down, .bool x.broken] 35)).alloc (.cells #[] 75) = W2 at xm xr xo ml hB hz ⊢
 obtain ⟨LB, hLB⟩ : ∃ LB, w.heap.size + 1 + 1 + 1 = LB := ⟨_, rfl⟩
 rw [hLB] at xo ml hz ⊢
 have q3 : w.heap.size + 1 + 1 + 1 <= LB /\ LB <= w.heap.size + 1 + 1 + 1 := by omega
 clear hLB
 obtain ⟨BO, hBO⟩ : ∃ BO, w.heap.size + 1 + 1 = BO := ⟨_, rfl⟩
 rw [hBO] at xo ⊢
 have q2 : w.heap.size + 1 + 1 <= BO /\ BO <= w.heap.size + 1 + 1 := by omega
 clear hBO
 obtain ⟨BR, hBR⟩ : ∃ BR, w.heap.size + 1 = BR := ⟨_, rfl⟩
 rw [hBR] at xr ⊢
 have q1 : w.heap.size + 1 <= BR /\ BR <= w.heap.size + 1 := by omega
 clear hBR
 have XM2 := hidden xm
 have XR2 := hidden xr
 have XO2 := hidden xo
 have ML2 := hidden ml
 have HB2 := hidden hB
 clear xm xr xo ml hB
 go_loopw [4] (fun i wr => ∃ (j : Nat) (v0 : Value) (fp0 : List Nat), j <= nm /\ i = .int .i64 j /\ Fr LB BO W2 wr /\ Box wr BO 35 #[.int .i64 x.id, .int .i64 x.n, .int .i64 x.s, v0, .int .i64 x.lost, .int .i64 x.built, .int .i64 x.seq, .int .i64 x.tail, .int .i64 x.gen, .slice ad nd cd, .int .i64 x.fuse, .bool x.down, .bool x.broken] /\ (tMemS 115 75).Mine wr [v0] (ms.take j) fp0 /\ (∀ b ∈ fp0, LB <= b)) (fun i _ => nm - (intOf i).toNat)
 case atStart => exact ⟨0, _, [LB], Nat.zero_le _, rfl, Fr.refl _ _ _, XO2.out, ML2.out, by simp⟩
 obtain ⟨j, v0, fp0, hj, rfl, fr, xo, hm, hfp⟩ := hrel
 have hs := fr.size
 have xm := fr.box XM2.out (by omega) (by omega)
 have hb := HB2.out.trans (fr.below (M := w.heap.size) (by omega) (by omega))
 have c3 : wr.cell? ⟨w.heap.size, 3, none⟩ = some (.slice am nm cm) := xm.cell 3
 by_cases hjn : j < nm
 . rcases quads_at rfl h0 with h0' | ⟨b, off, rfl, hbl, hcs⟩
   . omega
   have hdj : ms[j]? = some (ms[j]'(by omega)) := List.getElem?_eq_getElem (by omega)
   have htk : ms.take (j + 1) = ms.take j ++ [ms[j]'(by omega)] := List.take_succ_eq_append_getElem (by omega)
   generalize ms[j]'(by omega) = d at hdj htk
   have hin := Nat.le_trans (inner_leM hdj) hwm
   obtain ⟨u0, u1, u2, u3, hv0, hv1, hv2, hv3, hrv⟩ := hcs j d hdj
   obtain ⟨a0, c0, a1, c1, a3, c3', ss, cs, f, bs, rfl, rfl, rfl, rfl, rfl, r0, r1, r3⟩ := mem_at hrv
   have pv0 := (hb.cell (p := ⟨b, off + j * 4, none⟩) hbl).trans hv0
   have pv1 := (hb.cell (p := ⟨b, off + j * 4 + 1, none⟩) hbl).trans hv1
   have pv2 := (hb.cell (p := ⟨b, off + j * 4 + 2, none⟩) hbl).trans hv2
   have pv3 := (hb.cell (p := ⟨b, off + j * 4 + 3, none⟩) hbl).trans hv3
   have R0 := hidden (r0.below hb)
   have R1 := hidden (r1.below hb)
   have R3 := hidden (r3.below hb)
   have k1 : (0 : Int) <= (j : Int) := by omega
   have k2 : (j : Int) < (nm : Int) := by omega
   have HTK := hidden htk
   have XO := hidden xo
   have XMR := hidden xm
   have FRR := hidden fr
   have HM := hidden hm
   have HFP := hidden hfp
   have HL : Hid ((ms.take j).length = j) := by unfold Hid; rw [List.length_take]; omega
   have L1 : Hid ((ms.take j).length + 1 <= maxLen) := by unfold Hid; rw [HL.out]; unfold maxLen; omega
   have L2 : Hid (((ms.take j).length + 1) * 80 <= 140737488355328) := by unfold Hid; rw [HL.out]; omega
   have mk : Hid (∀ w', Box w' BO 35 #[.int .i64 x.id, .int .i64 x.n, .int .i64 x.s, v0, .int .i64 x.lost, .int .i64 x.built, .int .i64 x.seq, .int .i64 x.tail, .int .i64 x.gen, .slice ad nd cd, .int .i64 x.fuse, .bool x.down, .bool x.broken] -> Box w' w.heap.size 35 #[.int .i64 x.id, .int .i64 x.n, .int .i64 x.s, .slice (some ⟨b, off, none⟩) nm cm, .int .i64 x.lost, .int .i64 x.built, .int .i64 x.seq, .int .i64 x.tail, .int .i64 x.gen, .slice ad nd cd, .int .i64 x.fuse, .bool x.down, .bool x.broken] -> w'.heap[b]? = wr.heap[b]? -> w'.cell? ⟨BO, 3, none⟩ = some (v0) /\ w'.cell? ⟨w.heap.size, 3, none⟩ = some (.slice (some ⟨b, off, none⟩) nm cm) /\ w'.cell? ⟨b, off + j * 4, none⟩ = some (.slice a0 ss.length c0) /\ w'.cell? ⟨b, off + j * 4 + 1, none⟩ = some (.slice a1 cs.length c1) /\ w'.cell? ⟨b, off + j * 4 + 2, none⟩ = some (.bool f) /\ w'.cell? ⟨b, off + j * 4 + 3, none⟩ = some (.slice a3 bs.length c3')) := fun w' h1 h2 h3 => ⟨h1.cell 3, h2.cell 3, (World.cell?_of_block (w := wr) h3).trans pv0, (World.cell?_of_block (w := wr) h3).trans pv1, (World.cell?_of_block (w := wr) h3).trans pv2, (World.cell?_of_block (w := wr) h3).trans pv3⟩
   have hS : wr.drew.cell? ⟨BO, 3, none⟩ = some (v0) /\ wr.drew.cell? ⟨w.heap.size, 3, none⟩ = some (.slice (some ⟨b, off, none⟩) nm cm) /\ wr.drew.cell? ⟨b, off + j * 4, none⟩ = some (.slice a0 ss.length c0) /\ wr.drew.cell? ⟨b, off + j * 4 + 1, none⟩ = some (.slice a1 cs.length c1) /\ wr.drew.cell? ⟨b, off + j * 4 + 2, none⟩ = some (.bool f) /\ wr.drew.cell? ⟨b, off + j * 4 + 3, none⟩ = some (.slice a3 bs.length c3') := mk.out wr.drew xo xm rfl
   have zb : b < wr.heap.size := by have := hb.size; omega
   have zLB : LB < wr.heap.size := by omega
   clear hcs hdj hv0 hv1 hv2 hv3 hrv htk xo xm hm hfp hb fr pv0 pv1 pv2 pv3 r0 r1 r3
   go_wp2_with fail
   refine Upto.start (S := fun w' => w'.cell? ⟨BO, 3, none⟩ = some (v0) /\ w'.cell? ⟨w.heap.size, 3, none⟩ = some (.slice (some ⟨b, off, none⟩) nm cm) /\ w'.cell? ⟨b, off + j * 4, none⟩ = some (.slice a0 ss.length c0) /\ w'.cell? ⟨b, off + j * 4 + 1, none⟩ = some (.slice a1 cs.length c1) /\ w'.cell? ⟨b, off + j * 4 + 2, none⟩ = some (.bool f) /\ w'.cell? ⟨b, off + j * 4 + 3, none⟩ = some (.slice a3 bs.length c3')) (k := 11) (by kernel_rfl) ?_
   refine Upto.t 0 hS ?_
   refine Upto.t 1 hS ?_
   refine Upto.t 2 hS ?_
   refine Upto.t 3 hS ?_
   refine Upto.t 4 hS ?_
   refine Upto.t 5 hS ?_
   refine Upto.t 6 hS ?_
   refine Upto.one (i := 7) (by kernel_rfl) rfl (fun K hK => ?_)
   go_simp
   refine (l2Copy_any _ E _ _ _ _ _ _ _ _ _ ss cs f bs R0.out.drew R1.out.drew R3.out.drew hin).mono ?_
   rintro e wc ⟨y0, y1, y3, m1, m2, rfl, o3, o0, o1, hm12, hm01, hm22, bc⟩
   have hbc' : Below wr.heap.size wr wc := (Below.refl wr.heap.size wr).drew.trans bc
   have hm01' : wr.heap.size <= m1 := hm01
   have om : (tMem 115).Own wc wr.heap.size wc.heap.size [y0, y1, .bool f, y3] (ss, cs, f, bs) := mem_own3 o0 o1 o3 (.inl (Nat.le_refl _)) (.inr (Nat.le_refl _)) (.inr hm12) ⟨by omega, by omega⟩ ⟨by omega, Nat.le_refl _⟩ ⟨Nat.le_refl _, by omega⟩
   obtain ⟨e0, g0, rfl⟩ := row_shape o0.rd
   obtain ⟨e1, g1, rfl⟩ := row_shape o1.rd
   obtain ⟨e3, g3, rfl⟩ := row_shape o3.rd
   obtain ⟨fpx, mx, rx⟩ := om.mine
   have xoc := XO.out.below hbc' (by omega)
   have xmc := XMR.out.below hbc' (by omega)
   have hS3 : wc.cell? ⟨BO, 3, none⟩ = some (v0) /\ wc.cell? ⟨w.heap.size, 3, none⟩ = some (.slice (some ⟨b, off, none⟩) nm cm) /\ wc.cell? ⟨b, off + j * 4, none⟩ = some (.slice a0 ss.length c0) /\ wc.cell? ⟨b, off + j * 4 + 1, none⟩ = some (.slice a1 cs.length c1) /\ wc.cell? ⟨b, off + j * 4 + 2, none⟩ = some (.bool f) /\ wc.cell? ⟨b, off + j * 4 + 3, none⟩ = some (.slice a3 bs.length c3') := mk.out wc xoc xmc (hbc'.block b zb)
   have bB := new_below wc (.cells #[.slice e0 ss.length g0, .slice e1 cs.length g1, .bool f, .slice e3 bs.length g3] 75)
   have zc := hbc'.size
   have hS4 : (wc.alloc (.cells #[.slice e0 ss.length g0, .slice e1 cs.length g1, .bool f, .slice e3 bs.length g3] 75)).cell? ⟨BO, 3, none⟩ = some (v0) /\ (wc.alloc (.cells #[.slice e0 ss.length g0, .slice e1 cs.length g1, .bool f, .slice e3 bs.length g3] 75)).cell? ⟨w.heap.size, 3, none⟩ = some (.slice (some ⟨b, off, none⟩) nm cm) /\ (wc.alloc (.cells #[.slice e0 ss.length g0, .slice e1 cs.length g1, .bool f, .slice e3 bs.length g3] 75)).cell? ⟨b, off + j * 4, none⟩ = some (.slice a0 ss.length c0) /\ (wc.alloc (.cells #[.slice e0 ss.length g0, .slice e1 cs.length g1, .bool f, .slice e3 bs.length g3] 75)).cell? ⟨b, off + j * 4 + 1, none⟩ = some (.slice a1 cs.length c1) /\ (wc.alloc (.cells #[.slice e0 ss.length g0, .slice e1 cs.length g1, .bool f, .slice e3 bs.length g3] 75)).cell? ⟨b, off + j * 4 + 2, none⟩ = some (.bool f) /\ (wc.alloc (.cells #[.slice e0 ss.length g0, .slice e1 cs.length g1, .bool f, .slice e3 bs.length g3] 75)).cell? ⟨b, off + j * 4 + 3, none⟩ = some (.slice a3 bs.length c3') := mk.out _ (xoc.alloc _) (xmc.alloc _) ((bB.block b (by omega)).trans (hbc'.block b zb))
   have XOC := hidden xoc
   have XMC := hidden xmc
   have MX := hidden mx
   have RX := hidden rx
   have HBC := hidden hbc'
   clear xoc xmc mx rx hbc' bc om o0 o1 o3 hm01 hm01' hm12 hm22 bB R0 R1 R3
   go_wp2_with fail
   refine hK.out _ _ (fun _ => hS3) ?_
   clear hK K
   refine Upto.one (i := 8) (by kernel_rfl) rfl (fun K hK => ?_)
   go_simp
   refine hK.out _ _ (fun _ => hS4) ?_
   clear hK K
   refine Upto.one (i := 9) (by kernel_rfl) rfl (fun K hK => ?_)
   refine step_appT (tMem 115) (by rfl) _ _ 32 (by rfl) 75 i4 (.agg #[.slice none 0 0, .slice none 0 0, .bool false, .slice none 0 0]) 80 Try.underlying32 hi4 hz0 hz1 hz2 rfl (by decide) v0 (ms.take j) fp0 (by rfl) ?_ ⟨wc.heap.size, 0, none⟩ 1 [.slice e0 ss.length g0, .slice e1 cs.length g1, .bool f, .slice e3 bs.length g3] (ss, cs, f, bs) fpx (by rfl) ?_ ?_ ?_ ?_ L1.out L2.out ?_
   . exact (HM.out.below HBC.out).alloc _
   . exact MX.out.alloc _
   . intro b hb hb'
     have h1 := HM.out.lt b hb
     have h2 := RX.out b hb'
     omega
   . exact news_new _ _ _
   . intro u hu
     simp at hu
     rcases hu with hu | hu | hu | hu <;> (rw [hu]; rfl)
   intro g cap wA fpA m1 m2 m3
   rw [HL.out] at m1 ⊢
   rw [← HTK.out] at m1
   have ya := (XOC.out.alloc (.cells #[.slice e0 ss.length g0, .slice e1 cs.length g1, .bool f, .slice e3 bs.length g3] 75)).turned m3 (fun hm => by have := HFP.out _ hm; omega)
   have ym := (XMC.out.alloc (.cells #[.slice e0 ss.length g0, .slice e1 cs.length g1, .bool f, .slice e3 bs.length g3] 75)).turned m3 (fun hm => by have := HFP.out _ hm; omega)
   have zB : (wc.alloc (.cells #[.slice e0 ss.length g0, .slice e1 cs.length g1, .bool f, .slice e3 bs.length g3] 75)).heap.size = wc.heap.size + 1 := by simp
   have zBb : b < (wc.alloc (.cells #[.slice e0 ss.length g0, .slice e1 cs.length g1, .bool f, .slice e3 bs.length g3] 75)).heap.size := by omega
   have hS5 : wA.cell? ⟨BO, 3, none⟩ = some (v0) /\ wA.cell? ⟨w.heap.size, 3, none⟩ = some (.slice (some ⟨b, off, none⟩) nm cm) /\ wA.cell? ⟨b, off + j * 4, none⟩ = some (.slice a0 ss.length c0) /\ wA.cell? ⟨b, off + j * 4 + 1, none⟩ = some (.slice a1 cs.length c1) /\ wA.cell? ⟨b, off + j * 4 + 2, none⟩ = some (.bool f) /\ wA.cell? ⟨b, off + j * 4 + 3, none⟩ = some (.slice a3 bs.length c3') := mk.out wA ya ym ((m3.block b zBb (fun hm => by have := HFP.out _ hm; omega)).trans (((new_below wc (.cells #[.slice e0 ss.length g0, .slice e1 cs.length g1, .bool f, .slice e3 bs.length g3] 75)).block b (by omega)).trans (HBC.out.block b zb)))
   have r0 := hS5.1
   have fz := ya.frozen 3
   have YA := hidden ya
   have M1 := hidden m1
   have M2 := hidden m2
   have M3 := hidden m3
   clear ya ym m1 m2 m3 zB zBb
   refine hK.out _ _ (fun _ => hS5) ?_
   clear hK K
   simp only [Act.put, List.setIfInBounds_toArray, List.set_cons_zero, List.set_cons_succ]
   refine Upto.t 10 hS5 ?_
   refine Upto.one (i := 11) (by kernel_rfl) rfl (fun K hK => ?_)
   go_simp
   refine hK.out _ _ (fun h => absurd rfl h) ?_
   clear hK K
   refine Upto.done (by kernel_rfl) ?_ _
   have HFA := hidden (round_fp (N := LB) (by omega) HBC.out HFP.out RX.out M2.out)
   have FRA := hidden (Fr.round FRR.out (by omega) HBC.out _ M3.out HFP.out 3 (.slice (some ⟨g, 0, none⟩) (j + 1) cap))
   have MA := hidden (M1.out.setCell (g := BO) (j := 3) (fun hm => by have := HFA.out _ hm; omega) (.slice (some ⟨g, 0, none⟩) (j + 1) cap))
   have YA' := hidden (YA.out.set 3 (.slice (some ⟨g, 0, none⟩) (j + 1) cap))
   clear hS hS3 hS4 hS5 r0 YA M1 M2 M3 XOC MX RX HBC HFP HM FRR XO XMR XMC mk
   go_wp2
   go_roundw
   case rel => exact ⟨j + 1, _, fpA, by omega, by go_num, FRA.out, YA'.out, MA.out, HFA.out⟩
   case measure => simp [intOf]; omega
 have ej : nm = j := by omega
 subst ej
 rw [List.take_of_length_le (by omega)] at hm
 have hlt := hm.lt
 obtain ⟨eM, gM, hvM⟩ := row_shape hm.rd
 rw [hl0] at hvM
 subst hvM
 have KM := hm.own (lo := LB) (hi := wr.heap.size) (fun b hb => ⟨hfp b hb, hlt b hb⟩)
 have xr := fr.box XR2.out (by omega) (by omega)
 have b3 : But BO (BO + 1) (wr.alloc (.cells #[] 89)) ((wr.alloc (.cells #[] 89)).setCell ⟨BO, 9, none⟩ (.slice (some ⟨wr.heap.size, 0, none⟩) 0 0)) := But.setCell (by omega) (by omega) _
 have xm3 : Box ((wr.alloc (.cells #[] 89)).setCell ⟨BO, 9, none⟩ (.slice (some ⟨wr.heap.size, 0, none⟩) 0 0)) w.heap.size 35 #[.int .i64 x.id, .int .i64 x.n, .int .i64 x.s, .slice am nm cm, .int .i64 x.lost, .int .i64 x.built, .int .i64 x.seq, .int .i64 x.tail, .int .i64 x.gen, .slice ad nd cd, .int .i64 x.fuse, .bool x.down, .bool x.broken] := (xm.alloc _).other (by omega) 9 _
 have xr3 : Box ((wr.alloc (.cells #[] 89)).setCell ⟨BO, 9, none⟩ (.slice (some ⟨wr.heap.size, 0, none⟩) 0 0)) BR 35 #[.int .i64 0, .int .i64 0, .int .i64 0, .slice none 0 0, .int .i64 0, .int .i64 0, .int .i64 0, .int .i64 0, .int .i64 0, .slice none 0 0, .int .i64 0, .bool false, .bool false] := (xr.alloc _).other (by omega) 9 _
 have xo3 : Box ((wr.alloc (.cells #[] 89)).setCell ⟨BO, 9, none⟩ (.slice (some ⟨wr.heap.size, 0, none⟩) 0 0)) BO 35 #[.int .i64 x.id, .int .i64 x.n, .int .i64 x.s, .slice eM nm gM, .int .i64 x.lost, .int .i64 x.built, .int .i64 x.seq, .int .i64 x.tail, .int .i64 x.gen, .slice (some ⟨wr.heap.size, 0, none⟩) 0 0, .int .i64 x.fuse, .bool x.down, .bool x.broken] := (xo.alloc _).set 9 (.slice (some ⟨wr.heap.size, 0, none⟩) 0 0)
 have ml3 : (tWrS 89).Mine ((wr.alloc (.cells #[] 89)).setCell ⟨BO, 9, none⟩ (.slice (some ⟨wr.heap.size, 0, none⟩) 0 0)) [.slice (some ⟨wr.heap.size, 0, none⟩) 0 0] [] [wr.heap.size] := (lit0_mine (t := tWr) (E := 89) wr).setCell (by simp; omega) _
 have km3 := (KM.below (new_below wr (.cells #[] 89))).but b3 (.inr (by omega))
 have hB3 : Below w.heap.size w ((wr.alloc (.cells #[] 89)).setCell ⟨BO, 9, none⟩ (.slice (some ⟨wr.heap.size, 0, none⟩) 0 0)) := (hb.alloc hb.size _).setCell (show w.heap.size <= BO by omega) _
 have z3 : wr.heap.size < ((wr.alloc (.cells #[] 89)).setCell ⟨BO, 9, none⟩ (.slice (some ⟨wr.heap.size, 0, none⟩) 0 0)).heap.size := by simp [World.setCell]
 have zL3 : LB < wr.heap.size := by omega
 have co9 : (wr.alloc (.cells #[] 89)).cell? ⟨BO, 9, none⟩ = some (.slice ad nd cd) := (xo.alloc _).cell 9
 have fo9 := (xo.alloc (.cells #[] 89)).frozen 9
 clear fr xo xm hm hfp hlt KM xr b3 hb hs hj
 go_wp2
 generalize (wr.alloc (.cells #[] 89)).setCell ⟨BO, 9, none⟩ (.slice (some ⟨wr.heap.size, 0, none⟩) 0 0) = W3 at xm3 xr3 xo3 ml3 km3 hB3 z3 ⊢
 obtain ⟨LE, hLE⟩ : ∃ LE, wr.heap.size = LE := ⟨_, rfl⟩
 rw [hLE] at xo3 ml3 km3 z3 zL3 ⊢
 clear hLE
 have XM3 := hidden xm3
 have XR3 := hidden xr3
 have XO3 := hidden xo3
 have ML3 := hidden ml3
 have KM3 := hidden km3
 have HB3 := hidden hB3
 clear xm3 xr3 xo3 ml3 km3 hB3 XM2 XR2 XO2 ML2 HB2 hz
 go_loopw [5] (fun i wr => ∃ (j : Nat) (v1 : Value) (fp1 : List Nat), j <= nd /\ i = .int .i64 j /\ Fr LE BO W3 wr /\ Box wr BO 35 #[.int .i64 x.id, .int .i64 x.n, .int .i64 x.s, .slice eM nm gM, .int .i64 x.lost, .int .i64 x.built, .int .i64 x.seq, .int .i64 x.tail, .int .i64 x.gen, v1, .int .i64 x.fuse, .bool x.down, .bool x.broken] /\ (tWrS 89).Mine wr [v1] (ds.take j) fp1 /\ (∀ b ∈ fp1, LE <= b)) (fun i _ => nd - (intOf i).toNat)
 case atStart => exact ⟨0, _, [LE], Nat.zero_le _, rfl, Fr.refl _ _ _, XO3.out, ML3.out, by simp⟩
 obtain ⟨j, v1, fp1, hj, rfl, fr, xo, hm, hfp⟩ := hrel
 have hs := fr.size
 have xm := fr.box XM3.out (by omega) (by omega)
 have hb := HB3.out.trans (fr.below (M := w.heap.size) (by omega) (by omega))
 have c9 : wr.cell? ⟨w.heap.size, 9, none⟩ = some (.slice ad nd cd) := xm.cell 9
 by_cases hjn : j < nd
 . rcases pairs_at rfl h1 with h0' | ⟨b, off, rfl, hbl, hcs⟩
   . omega
   have hdj : ds[j]? = some (ds[j]'(by omega)) := List.getElem?_eq_getElem (by omega)
   have htk : ds.take (j + 1) = ds.take j ++ [ds[j]'(by omega)] := List.take_succ_eq_append_getElem (by omega)
   generalize ds[j]'(by omega) = d at hdj htk
   have hil := inner_le' hdj
   obtain ⟨u0, u1, hv0, hv1, hrv⟩ := hcs j d hdj
   obtain ⟨rfl, hrv'⟩ := wr_rd hrv
   obtain ⟨av, cv, rfl⟩ := row_shape hrv'
   have pv0 := (hb.cell (p := ⟨b, off + j * 2, none⟩) hbl).trans hv0
   have pv1 := (hb.cell (p := ⟨b, off + j * 2 + 1, none⟩) hbl).trans hv1
   obtain ⟨x0, x1⟩ := d
   simp only at pv0 pv1 hrv' hil
   have HX := hidden (hrv'.below hb)
   have k1 : (0 : Int) <= (j : Int) := by omega
   have k2 : (j : Int) < (nd : Int) := by omega
   have HTK := hidden htk
   have XO := hidden xo
   have XMR := hidden xm
   have FRR := hidden fr
   have HM := hidden hm
   have HFP := hidden hfp
   have HL : Hid ((ds.take j).length = j) := by unfold Hid; rw [List.length_take]; omega
   have L1 : Hid ((ds.take j).length + 1 <= maxLen) := by unfold Hid; rw [HL.out]; unfold maxLen; omega
   have L2 : Hid (((ds.take j).length + 1) * 32 <= 140737488355328) := by unfold Hid; rw [HL.out]; omega
   have mk : Hid (∀ w', Box w' BO 35 #[.int .i64 x.id, .int .i64 x.n, .int .i64 x.s, .slice eM nm gM, .int .i64 x.lost, .int .i64 x.built, .int .i64 x.seq, .int .i64 x.tail, .int .i64 x.gen, v1, .int .i64 x.fuse, .bool x.down, .bool x.broken] -> Box w' w.heap.size 35 #[.int .i64 x.id, .int .i64 x.n, .int .i64 x.s, .slice am nm cm, .int .i64 x.lost, .int .i64 x.built, .int .i64 x.seq, .int .i64 x.tail, .int .i64 x.gen, .slice (some ⟨b, off, none⟩) nd cd, .int .i64 x.fuse, .bool x.down, .bool x.broken] -> w'.heap[b]? = wr.heap[b]? -> w'.cell? ⟨BO, 9, none⟩ = some (v1) /\ w'.cell? ⟨w.heap.size, 9, none⟩ = some (.slice (some ⟨b, off, none⟩) nd cd) /\ w'.cell? ⟨b, off + j * 2, none⟩ = some (.int .i64 x0) /\ w'.cell? ⟨b, off + j * 2 + 1, none⟩ = some (.slice av x1.length cv)) := fun w' h1 h2 h3 => ⟨h1.cell 9, h2.cell 9, (World.cell?_of_block (w := wr) h3).trans pv0, (World.cell?_of_block (w := wr) h3).trans pv1⟩
   have bA := new_below wr (.cells #[] 3)
   have hS : wr.drew.cell? ⟨BO, 9, none⟩ = some (v1) /\ wr.drew.cell? ⟨w.heap.size, 9, none⟩ = some (.slice (some ⟨b, off, none⟩) nd cd) /\ wr.drew.cell? ⟨b, off + j * 2, none⟩ = some (.int .i64 x0) /\ wr.drew.cell? ⟨b, off + j * 2 + 1, none⟩ = some (.slice av x1.length cv) := mk.out wr.drew xo xm rfl
   have zb : b < wr.heap.size := by have := hb.size; omega
   have zLE : LE < wr.heap.size := by omega
   have hS2 : (wr.alloc (.cells #[] 3)).drew.cell? ⟨BO, 9, none⟩ = some (v1) /\ (wr.alloc (.cells #[] 3)).drew.cell? ⟨w.heap.size, 9, none⟩ = some (.slice (some ⟨b, off, none⟩) nd cd) /\ (wr.alloc (.cells #[] 3)).drew.cell? ⟨b, off + j * 2, none⟩ = some (.int .i64 x0) /\ (wr.alloc (.cells #[] 3)).drew.cell? ⟨b, off + j * 2 + 1, none⟩ = some (.slice av x1.length cv) := mk.out (wr.alloc (.cells #[] 3)).drew (xo.alloc _) (xm.alloc _) (bA.block b zb)
   have HG : Hid ((wr.alloc (.cells #[] 3)).drew.heap[wr.heap.size]? = some (.cells #[] 3 (0, 0))) := Box.new wr 3 #[]
   have RD : Hid (tIntS.Rd (wr.alloc (.cells #[] 3)).drew [.slice av x1.length cv] x1) := (HX.out.below bA).drew
   have BA := hidden bA
   clear hcs hdj hv0 hv1 hrv hrv' htk xo xm hm hfp hb fr pv0 pv1 bA
   go_wp2_with fail
   refine Upto.start (S := fun w' => w'.cell? ⟨BO, 9, none⟩ = some (v1) /\ w'.cell? ⟨w.heap.size, 9, none⟩ = some (.slice (some ⟨b, off, none⟩) nd cd) /\ w'.cell? ⟨b, off + j * 2, none⟩ = some (.int .i64 x0) /\ w'.cell? ⟨b, off + j * 2 + 1, none⟩ = some (.slice av x1.length cv)) (k := 20) (by kernel_rfl) ?_
   refine Upto.t 0 hS ?_
   refine Upto.t 1 hS ?_
   refine Upto.t 2 hS ?_
   refine Upto.t 3 hS ?_
   refine Upto.t 4 hS ?_
   refine Upto.t 5 hS ?_
   refine Upto.t 6 hS ?_
   refine Upto.t 7 hS ?_
   refine Upto.t 9 hS ?_
   refine Upto.t 10 hS ?_
   refine Upto.t 11 hS ?_
   refine Upto.t 12 hS ?_
   refine Upto.t 13 hS ?_
   refine Upto.t 14 hS ?_
   refine Upto.one (i := 8) (by kernel_rfl) rfl (fun K hK => ?_)
   go_simp
   refine hK.out _ _ (fun _ => hS2) ?_
   clear hK K
   refine Upto.one (i := 15) (by kernel_rfl) rfl (fun K hK => ?_)
   refine step_copy (by rfl) _ _ 42 (by rfl) i3 Try.underlying42 hi3 hx0 hx1 hx2 wr.heap.size (by rfl) HG.out av x1.length cv x1 (by rfl) RD.out (by omega) ?_
   intro ac cc wc fpx mx rx tx
   have tx' : Turned [wr.heap.size] (wr.alloc (.cells #[] 3)) wc := Turned.undrew tx
   have zA : (wr.alloc (.cells #[] 3)).heap.size = wr.heap.size + 1 := by simp
   have zd : (wr.alloc (.cells #[] 3)).drew.heap.size = (wr.alloc (.cells #[] 3)).heap.size := rfl
   have hbc' : Below wr.heap.size wr wc := BA.out.trans (tx'.below (N := wr.heap.size) (by omega) (by simp))
   have xoc := XO.out.below hbc' (by omega)
   have xmc := XMR.out.below hbc' (by omega)
   have hS3 : wc.cell? ⟨BO, 9, none⟩ = some (v1) /\ wc.cell? ⟨w.heap.size, 9, none⟩ = some (.slice (some ⟨b, off, none⟩) nd cd) /\ wc.cell? ⟨b, off + j * 2, none⟩ = some (.int .i64 x0) /\ wc.cell? ⟨b, off + j * 2 + 1, none⟩ = some (.slice av x1.length cv) := mk.out wc xoc xmc (hbc'.block b zb)
   have bB := new_below wc (.cells #[.int .i64 x0, .slice ac x1.length cc] 89)
   have zc := hbc'.size
   have hS4 : (wc.alloc (.cells #[.int .i64 x0, .slice ac x1.length cc] 89)).cell? ⟨BO, 9, none⟩ = some (v1) /\ (wc.alloc (.cells #[.int .i64 x0, .slice ac x1.length cc] 89)).cell? ⟨w.heap.size, 9, none⟩ = some (.slice (some ⟨b, off, none⟩) nd cd) /\ (wc.alloc (.cells #[.int .i64 x0, .slice ac x1.length cc] 89)).cell? ⟨b, off + j * 2, none⟩ = some (.int .i64 x0) /\ (wc.alloc (.cells #[.int .i64 x0, .slice ac x1.length cc] 89)).cell? ⟨b, off + j * 2 + 1, none⟩ = some (.slice av x1.length cv) := mk.out _ (xoc.alloc _) (xmc.alloc _) ((bB.block b (by omega)).trans (hbc'.block b zb))
   have RX : Hid (∀ b ∈ fpx, wr.heap.size <= b /\ b < wc.heap.size) := fun b hb => by have := rx b hb; omega
   have XOC := hidden xoc
   have XMC := hidden xmc
   have MX := hidden mx
   have HBC := hidden hbc'
   clear xoc xmc mx rx tx tx' hbc' bB zA zd
   refine hK.out _ _ (fun _ => hS3) ?_
   clear hK K
   simp only [Act.put, List.setIfInBounds_toArray, List.set_cons_zero, List.set_cons_succ]
   refine Upto.t 16 hS3 ?_
   refine Upto.one (i := 17) (by kernel_rfl) rfl (fun K hK => ?_)
   go_simp
   refine hK.out _ _ (fun _ => hS4) ?_
   clear hK K
   refine Upto.one (i := 18) (by kernel_rfl) rfl (fun K hK => ?_)
   refine step_appT tWr (by rfl) _ _ 33 (by rfl) 89 i1 (.agg #[.int .i64 0, .slice none 0 0]) 32 Try.underlying33 hi1 hy0 hy1 hy2 rfl Nat.zero_lt_two v1 (ds.take j) fp1 (by rfl) ?_ ⟨wc.heap.size, 0, none⟩ 1 [.int .i64 x0, .slice ac x1.length cc] (x0, x1) fpx (by rfl) ?_ ?_ ?_ ?_ L1.out L2.out ?_
   . exact (HM.out.below HBC.out).alloc _
   . exact (wr_mine x0 MX.out).alloc _
   . intro b hb hb'
     have h1 := HM.out.lt b hb
     have h2 := RX.out b hb'
     omega
   . exact news_new _ _ _
   . intro u hu
     simp at hu
     rcases hu with hu | hu <;> (rw [hu]; rfl)
   intro g cap wA fpA m1 m2 m3
   rw [HL.out] at m1 ⊢
   rw [← HTK.out] at m1
   have ya := (XOC.out.alloc (.cells #[.int .i64 x0, .slice ac x1.length cc] 89)).turned m3 (fun hm => by have := HFP.out _ hm; omega)
   have ym := (XMC.out.alloc (.cells #[.int .i64 x0, .slice ac x1.length cc] 89)).turned m3 (fun hm => by have := HFP.out _ hm; omega)
   have zB : (wc.alloc (.cells #[.int .i64 x0, .slice ac x1.length cc] 89)).heap.size = wc.heap.size + 1 := by simp
   have zBb : b < (wc.alloc (.cells #[.int .i64 x0, .slice ac x1.length cc] 89)).heap.size := by omega
   have hS5 : wA.cell? ⟨BO, 9, none⟩ = some (v1) /\ wA.cell? ⟨w.heap.size, 9, none⟩ = some (.slice (some ⟨b, off, none⟩) nd cd) /\ wA.cell? ⟨b, off + j * 2, none⟩ = some (.int .i64 x0) /\ wA.cell? ⟨b, off + j * 2 + 1, none⟩ = some (.slice av x1.length cv) := mk.out wA ya ym ((m3.block b zBb (fun hm => by have := HFP.out _ hm; omega)).trans (((new_below wc (.cells #[.int .i64 x0, .slice ac x1.length cc] 89)).block b (by omega)).trans (HBC.out.block b zb)))
   have r0 := hS5.1
   have fz := ya.frozen 9
   have YA := hidden ya
   have M1 := hidden m1
   have M2 := hidden m2
   have M3 := hidden m3
   clear ya ym m1 m2 m3 zB zBb
   refine hK.out _ _ (fun _ => hS5) ?_
   clear hK K
   simp only [Act.put, List.setIfInBounds_toArray, List.set_cons_zero, List.set_cons_succ]
   refine Upto.t 19 hS5 ?_
   refine Upto.one (i := 20) (by kernel_rfl) rfl (fun K hK => ?_)
   go_simp
   refine hK.out _ _ (fun h => absurd rfl h) ?_
   clear hK K
   refine Upto.done (by kernel_rfl) ?_ _
   have HFA := hidden (round_fp (N := LE) (by omega) HBC.out HFP.out RX.out M2.out)
   have FRA := hidden (Fr.round FRR.out (by omega) HBC.out _ M3.out HFP.out 9 (.slice (some ⟨g, 0, none⟩) (j + 1) cap))
   have MA := hidden (M1.out.setCell (g := BO) (j := 9) (fun hm => by have := HFA.out _ hm; omega) (.slice (some ⟨g, 0, none⟩) (j + 1) cap))
   have YA' := hidden (YA.out.set 9 (.slice (some ⟨g, 0, none⟩) (j + 1) cap))
   clear hS hS2 hS3 hS4 hS5 BA HG RD HX r0 YA M1 M2 M3 XOC MX RX HBC HFP HM FRR XO XMR XMC mk
   go_wp2
   go_roundw
   case rel => exact ⟨j + 1, _, fpA, by omega, by go_num, FRA.out, YA'.out, MA.out, HFA.out⟩
   case measure => simp [intOf]; omega
 have ej : nd = j := by omega
 subst ej
 rw [List.take_of_length_le (by omega)] at hm
 have hlt := hm.lt
 obtain ⟨eD, gD, hvD⟩ := row_shape hm.rd
 rw [hl1] at hvD
 subst hvD
 have K1 := hm.own (lo := LE) (hi := wr.heap.size) (fun b hb => ⟨hfp b hb, hlt b hb⟩)
 have K0 := fr.own KM3.out (Nat.le_refl _) (.inr (by omega))
 have xr := fr.box XR3.out (by omega) (by omega)
 have hbt := puts_but BR [(0, .int .i64 x.id), (1, .int .i64 x.n), (2, .int .i64 x.s), (3, .slice eM nm gM), (4, .int .i64 x.lost), (5, .int .i64 x.built), (6, .int .i64 x.seq), (7, .int .i64 x.tail), (8, .int .i64 x.gen), (9, .slice eD nd gD), (10, .int .i64 x.fuse), (11, .bool x.down), (12, .bool x.broken)] wr
 have H0 := K0.but hbt (.inr (by omega))
 have H1 := K1.but hbt (.inr (by omega))
 have HBB := Below.andBut hb hbt (by omega)
 have hsz := hbt.size
 have H0w := hidden (H0.widen (lo' := w.heap.size) (hi' := LE) (by omega) (Nat.le_refl _))
 have H1w := hidden (H1.widen (lo' := LE) (Nat.le_refl _) hsz)
 have HBw := hidden HBB
 have HSZ : Hid (LE <= (puts wr BR [(0, .int .i64 x.id), (1, .int .i64 x.n), (2, .int .i64 x.s), (3, .slice eM nm gM), (4, .int .i64 x.lost), (5, .int .i64 x.built), (6, .int .i64 x.seq), (7, .int .i64 x.tail), (8, .int .i64 x.gen), (9, .slice eD nd gD), (10, .int .i64 x.fuse), (11, .bool x.down), (12, .bool x.broken)]).heap.size) := by unfold Hid; omega
 simp only [puts] at H0w H1w HBw HSZ
 obtain ⟨p0, p1, p2, p3, p4, p5, p6, p7, p8, p9, p10, p11, p12⟩ := xr.cells13
 have fz := xr.frozen
 obtain ⟨r0, r1, r2, r3, r4, r5, r6, r7, r8, r9, r10, r11, r12⟩ := xo.cells13
 have hLw : w.heap.size <= LE := by omega
 clear fr xo xm hb hm hfp hlt xr K0 K1 hbt H0 H1 HBB hsz hj hs
 go_wp2
 refine bodyPost_ret (v := .agg #[.int .i64 x.id, .int .i64 x.n, .int .i64 x.s, .slice eM nm gM, .int .i64 x.lost, .int .i64 x.built, .int .i64 x.seq, .int .i64 x.tail, .int .i64 x.gen, .slice eD nd gD, .int .i64 x.fuse, .bool x.down, .bool x.broken]) (by simp [results, Try.results48, go_sem, p0, p1, p2, p3, p4, p5, p6, p7, p8, p9, p10, p11, p12]) rfl ?_
 exact ⟨_, _, _, _, LE, rfl, H0w.out, H1w.out, hLw, HSZ.out, HBw.out⟩

theorem specSpoilAt_any (w : World) (E F G : TypeId) (x : ArrN) (am ad : Option Addr) (nm cm nd cd : Nat) (ms : List MemD) (ds : List (Int × List Int)) (m s : Int) (h0 : (tMemS E F).Rd w [.slice am nm cm] ms) (h1 : (tWrS G).Rd w [.slice ad nd cd] ds) (hw : wtArr ms ds <= 2097152) :
 Calls Try.prog 23 #[.agg #[.int .i64 x.id, .int .i64 x.n, .int .i64 x.s, .slice am nm cm, .int .i64 x.lost, .int .i64 x.built, .int .i64 x.seq, .int .i64 x.tail, .int .i64 x.gen, .slice ad nd cd, .int .i64 x.fuse, .bool x.down, .bool x.broken], .int .i64 m, .int .i64 s] w fun e w' => ArrOut w w' e (spoilO x ms ds m s) ds := by
 obtain ⟨rfl, _⟩ := row_length h0
 obtain ⟨rfl, _⟩ := row_length h1
 have hwm : wtMemS ms <= 2097152 := by unfold wtArr at hw; omega
 have hnm : ms.length <= 2097152 := by unfold wtMemS at hwm; omega
 have hA := (new_below w (.cells #[.int .i64 x.id, .int .i64 x.n, .int .i64 x.s, .slice am ms.length cm, .int .i64 x.lost, .int .i64 x.built, .int .i64 x.seq, .int .i64 x.tail, .int .i64 x.gen, .slice ad ds.length cd, .int .i64 x.fuse, .bool x.down, .bool x.broken] 35)).alloc (by simp) (.cells #[.int .i64 0, .int .i64 0, .int .i64 0, .slice none 0 0, .int .i64 0, .int .i64 0, .int .i64 0, .int .i64 0, .int .i64 0, .slice none 0 0, .int .i64 0, .bool false, .bool false] 35)
 have X0 : Box ((w.alloc (.cells #[.int .i64 x.id, .int .i64 x.n, .int .i64 x.s, .slice am ms.length cm, .int .i64 x.lost, .int .i64 x.built, .int .i64 x.seq, .int .i64 x.tail, .int .i64 x.gen, .slice ad ds.length cd, .int .i64 x.fuse, .bool x.down, .bool x.broken] 35)).alloc (.cells #[.int .i64 0, .int .i64 0, .int .i64 0, .slice none 0 0, .int .i64 0, .int .i64 0, .int .i64 0, .int .i64 0, .int .i64 0, .slice none 0 0, .int .i64 0, .bool false, .bool false] 35)) w.heap.size 35 #[.int .i64 x.id, .int .i64 x.n, .int .i64 x.s, .slice am ms.length cm, .int .i64 x.lost, .int .i64 x.built, .int .i64 x.seq, .int .i64 x.tail, .int .i64 x.gen, .slice ad ds.length cd, .int .i64 x.fuse, .bool x.down, .bool x.broken] := (Box.new w _ _).alloc _
 have R0 := Box.new (w.alloc (.cells #[.int .i64 x.id, .int .i64 x.n, .int .i64 x.s, .slice am ms.length cm, .int .i64 x.lost, .int .i64 x.built, .int .i64 x.seq, .int .i64 x.tail, .int .i64 x.gen, .slice ad ds.length cd, .int .i64 x.fuse, .bool x.down, .bool x.broken] 35)) 35 #[.int .i64 0, .int .i64 0, .int .i64 0, .slice none 0 0, .int .i64 0, .int .i64 0, .int .i64 0, .int .i64 0, .int .i64 0, .slice none 0 0, .int .i64 0, .bool false, .bool false]
 rw [World.size_alloc] at R0
 have zX := X0.lt
 have zR := R0.lt
 have r0 := h0.below hA
 have r1 := h1.below hA
 obtain ⟨k0, k1, k2, k3, k4, k5, k6, k7, k8, k9, k10, k11, k12⟩ := X0.cells13
 go_enter Try.func23, Try.ntmps23
 go_wp2_with fail
 generalize (w.alloc (.cells #[.int .i64 x.id, .int .i64 x.n, .int .i64 x.s, .slice am ms.length cm, .int .i64 x.lost, .int .i64 x.built, .int .i64 x.seq, .int .i64 x.tail, .int .i64 x.gen, .slice ad ds.length cd, .int .i64 x.fuse, .bool x.down, .bool x.broken] 35)).alloc (.cells #[.int .i64 0, .int .i64 0, .int .i64 0, .slice none 0 0, .int .i64 0, .int .i64 0, .int .i64 0, .int .i64 0, .int .i64 0, .slice none 0 0, .int .i64 0, .bool false, .bool false] 35) = W at hA X0 R0 zX zR r0 r1 k0 k1 k2 k3 k4 k5 k6 k7 k8 k9 k10 k11 k12 ⊢
 refine (l6Copy_any _ E F G x _ _ _ _ _ _ ms ds r0 r1 hw).mono ?_
 rintro e w1 ⟨bm, cm1, bd, cd1, mx, rfl, om, od, zm, zm2, b1⟩
 have bn := new_below w1 (.cells #[.int .i64 x.id, .int .i64 x.n, .int .i64 x.s, .slice bm ms.length cm1, .int .i64 x.lost, .int .i64 x.built, .int .i64 x.seq, .int .i64 x.tail, .int .i64 x.gen, .slice bd ds.length cd1, .int .i64 x.fuse, .bool x.down, .bool x.broken] 35)
 have b12 : Below W.heap.size W (w1.alloc (.cells #[.int .i64 x.id, .int .i64 x.n, .int .i64 x.s, .slice bm ms.length cm1, .int .i64 x.lost, .int .i64 x.built, .int .i64 x.seq, .int .i64 x.tail, .int .i64 x.gen, .slice bd ds.length cd1, .int .i64 x.fuse, .bool x.down, .bool x.broken] 35)) := Below.andThen b1 bn
 have Y := Box.new w1 35 #[.int .i64 x.id, .int .i64 x.n, .int .i64 x.s, .slice bm ms.length cm1, .int .i64 x.lost, .int .i64 x.built, .int .i64 x.seq, .int .i64 x.tail, .int .i64 x.gen, .slice bd ds.length cd1, .int .i64 x.fuse, .bool x.down, .bool x.broken]
 have zY := Y.lt
 have z1 := b1.size
 obtain ⟨fm, mm, rm⟩ := (om.below bn).mine
 obtain ⟨fd, md, rd⟩ := (od.below bn).mine
 have A2 : ArrAt (w1.alloc (.cells #[.int .i64 x.id, .int .i64 x.n, .int .i64 x.s, .slice bm ms.length cm1, .int .i64 x.lost, .int .i64 x.built, .int .i64 x.seq, .int .i64 x.tail, .int .i64 x.gen, .slice bd ds.length cd1, .int .i64 x.fuse, .bool x.down, .bool x.broken] 35)) w1.heap.size x ms ds fm fd := ⟨bm, bd, cm1, cd1, Y, mm, md, fun b hb hb' => by have h1 := rm b hb; have h2 := rd b hb'; omega, fun hm => by have := rm _ hm; omega, fun hm => by have := rd _ hm; omega⟩
 have X2 := X0.below b12 zX
 have R2 := R0.below b12 zR
 have p0 := r0.below b12
 have p1 := r1.below b12
 have B2 := Below.andThen hA b12
 have rm2 : ∀ b ∈ fm, W.heap.size <= b := fun b hb => by have := rm b hb; omega
 have rd2 : ∀ b ∈ fd, W.heap.size <= b := fun b hb => by have := rd b hb; omega
 clear k0 k1 k2 k3 k4 k5 k6 k7 k8 k9 k10 k11 k12 X0 R0 r0 r1 om od b1 bn b12 Y mm rm md rd hA
 obtain ⟨k0, k1, k2, k3, k4, k5, k6, k7, k8, k9, k10, k11, k12⟩ := X2.cells13
 go_wp2_with fail
 generalize w1.alloc (.cells #[.int .i64 x.id, .int .i64 x.n, .int .i64 x.s, .slice bm ms.length cm1, .int .i64 x.lost, .int .i64 x.built, .int .i64 x.seq, .int .i64 x.tail, .int .i64 x.gen, .slice bd ds.length cd1, .int .i64 x.fuse, .bool x.down, .bool x.broken] 35) = w2 at A2 X2 R2 p0 p1 B2 zY k0 k1 k2 k3 k4 k5 k6 k7 k8 k9 k10 k11 k12 ⊢
 obtain ⟨B, hB⟩ : ∃ B, w1.heap.size = B := ⟨_, rfl⟩
 rw [hB] at A2 zY z1 ⊢
 clear hB
 refine (specArrOk_any _ E F G x _ _ _ _ _ _ ms ds p0 p1 hw).mono ?_
 rintro e w3 ⟨rfl, b3⟩
 have A3 := A2.below b3
 have X3 := X2.below b3 X2.lt
 have R3 := R2.below b3 R2.lt
 have B3 := Below.andThen B2 b3
 have q3 := p0.below b3
 have z3 := b3.size
 clear k0 k1 k2 k3 k4 k5 k6 k7 k8 k9 k10 k11 k12 A2 X2 R2 p0 p1 B2 b3
 obtain ⟨k0, k1, k2, k3, k4, k5, k6, k7, k8, k9, k10, k11, k12⟩ := X3.cells13
 cases ha : arrB x ms ds
 . have HV : Hid (spoilO x ms ds m s = (x, ms)) := spoil_no (by unfold spoilB; rw [ha]; rfl)
   obtain ⟨vm, vd, cvm, cvd, Yf, mf, df, hrf, r1f, r2f⟩ := A3
   have Y0 := Yf
   unfold arrC at Y0
   obtain ⟨t0, t1, t2, t3, t4, t5, t6, t7, t8, t9, t10, t11, t12⟩ := Y0.cells13
   obtain ⟨s0, s1, s2, s3, s4, s5, s6, s7, s8, s9, s10, s11, s12⟩ := R3.cells13
   have fzr := R3.frozen
   have HO := hidden (arr_out (y := x) (e := .returned (.agg (arrC x _ _))) B3 R3 rfl mf df hrf rm2 rd2 (by omega) (by omega))
   unfold arrC at HO
   simp only [puts] at HO
   clear X3 R3 B3 Yf Y0 mf df
   go_wp2
   refine bodyPost_ret (v := .agg #[.int .i64 x.id, .int .i64 x.n, .int .i64 x.s, .slice vm ms.length cvm, .int .i64 x.lost, .int .i64 x.built, .int .i64 x.seq, .int .i64 x.tail, .int .i64 x.gen, .slice vd ds.length cvd, .int .i64 x.fuse, .bool x.down, .bool x.broken]) (by simp [results, Try.results23, go_sem, s0, s1, s2, s3, s4, s5, s6, s7, s8, s9, s10, s11, s12]) rfl ?_
   rw [HV.out]; exact HO.out
 have hg : geoB x.n x.s = true := by unfold arrB at ha; simp only [Bool.and_eq_true] at ha; exact ha.1
 obtain ⟨g1, g2, g3, g4⟩ := geoB_iff.1 hg
 have hw1 : IntKind.i64.wrap ((ms.length : Int) - 1) = (ms.length : Int) - 1 := IntWalk.i64_in _ (by omega)
 have hw2 : IntKind.i64.wrap (x.s - 1) = x.s - 1 := IntWalk.i64_in _ (by omega)
 go_wp2_with fail
 refine (l1In_any _ _ _ _).mono ?_
 rintro e wq ⟨rfl, hq⟩
 obtain rfl := hq.symm
 cases hm : inB m 0 ((ms.length : Int) - 1)
 . have HV : Hid (spoilO x ms ds m s = (x, ms)) := spoil_no (by unfold spoilB; rw [ha, hm]; rfl)
   obtain ⟨vm, vd, cvm, cvd, Yf, mf, df, hrf, r1f, r2f⟩ := A3
   have Y0 := Yf
   unfold arrC at Y0
   obtain ⟨t0, t1, t2, t3, t4, t5, t6, t7, t8, t9, t10, t11, t12⟩ := Y0.cells13
   obtain ⟨s0, s1, s2, s3, s4, s5, s6, s7, s8, s9, s10, s11, s12⟩ := R3.cells13
   have fzr := R3.frozen
   have HO := hidden (arr_out (y := x) (e := .returned (.agg (arrC x _ _))) B3 R3 rfl mf df hrf rm2 rd2 (by omega) (by omega))
   unfold arrC at HO
   simp only [puts] at HO
   clear X3 R3 B3 Yf Y0 mf df
   go_wp2
   refine bodyPost_ret (v := .agg #[.int .i64 x.id, .int .i64 x.n, .int .i64 x.s, .slice vm ms.length cvm, .int .i64 x.lost, .int .i64 x.built, .int .i64 x.seq, .int .i64 x.tail, .int .i64 x.gen, .slice vd ds.length cvd, .int .i64 x.fuse, .bool x.down, .bool x.broken]) (by simp [results, Try.results23, go_sem, s0, s1, s2, s3, s4, s5, s6, s7, s8, s9, s10, s11, s12]) rfl ?_
   rw [HV.out]; exact HO.out
 go_wp2_with fail
 refine (l1In_any _ _ _ _).mono ?_
 rintro e wq ⟨rfl, hq⟩
 obtain rfl := hq.symm
 cases hs : inB s 0 (x.s - 1)
 . have HV : Hid (spoilO x ms ds m s = (x, ms)) := spoil_no (by unfold spoilB; rw [ha, hm, hs]; rfl)
   obtain ⟨vm, vd, cvm, cvd, Yf, mf, df, hrf, r1f, r2f⟩ := A3
   have Y0 := Yf
   unfold arrC at Y0
   obtain ⟨t0, t1, t2, t3, t4, t5, t6, t7, t8, t9, t10, t11, t12⟩ := Y0.cells13
   obtain ⟨s0, s1, s2, s3, s4, s5, s6, s7, s8, s9, s10, s11, s12⟩ := R3.cells13
   have fzr := R3.frozen
   have HO := hidden (arr_out (y := x) (e := .returned (.agg (arrC x _ _))) B3 R3 rfl mf df hrf rm2 rd2 (by omega) (by omega))
   unfold arrC at HO
   simp only [puts] at HO
   clear X3 R3 B3 Yf Y0 mf df
   go_wp2
   refine bodyPost_ret (v := .agg #[.int .i64 x.id, .int .i64 x.n, .int .i64 x.s, .slice vm ms.length cvm, .int .i64 x.lost, .int .i64 x.built, .int .i64 x.seq, .int .i64 x.tail, .int .i64 x.gen, .slice vd ds.length cvd, .int .i64 x.fuse, .bool x.down, .bool x.broken]) (by simp [results, Try.results23, go_sem, s0, s1, s2, s3, s4, s5, s6, s7, s8, s9, s10, s11, s12]) rfl ?_
   rw [HV.out]; exact HO.out
 have HB : Hid (spoilB x ms ds m s = true) := by unfold Hid spoilB; rw [ha, hm, hs]; rfl
 have k3 : w3.cell? ⟨w.heap.size, 3, none⟩ = some (.slice am ms.length cm) := X3.cells13.2.2.2.1
 obtain ⟨m1, m2⟩ := inB_iff.1 hm
 obtain ⟨j, rfl⟩ := Int.eq_ofNat_of_zero_le m1
 have hj : j < ms.length := by omega
 obtain ⟨bmf, bdf, cmf, cdf, Y, mmf, ddf, hrf, r1f, r2f⟩ := A3
 obtain ⟨gm, hbm⟩ := row_head mmf (by omega)
 subst hbm
 obtain ⟨d, hdj⟩ : ∃ d, ms[j]? = some d := ⟨_, List.getElem?_eq_getElem hj⟩
 have HV0 := hidden (spoil_of HB.out hdj)
 have hgl := mmf.lt gm (row_mem11 mmf)
 rcases quads_at rfl q3 with h0' | ⟨b, off, rfl, hbl, hcs⟩
 . omega
 obtain ⟨v0, v1, v2, v3, q0, q1, q2, q3', hrv⟩ := hcs j d hdj
 obtain ⟨a0, c0, a1, c1, a3, c3, ss, cs, f, bs, rfl, rfl, rfl, rfl, rfl, p0, p1, p3⟩ := mem_at hrv
 have hwd := Nat.le_trans (inner_leM hdj) hwm
 have Y0 := Y
 unfold arrC at Y0
 have zB := Y.lt
 have hS : w3.drew.cell? ⟨B, 3, none⟩ = some (.slice (some ⟨gm, 0, none⟩) ms.length cmf) /\ w3.drew.cell? ⟨w.heap.size, 3, none⟩ = some (.slice (some ⟨b, off, none⟩) ms.length cm) /\ w3.drew.cell? ⟨b, off + j * 4, none⟩ = some (.slice a0 ss.length c0) /\ w3.drew.cell? ⟨b, off + j * 4 + 1, none⟩ = some (.slice a1 cs.length c1) /\ w3.drew.cell? ⟨b, off + j * 4 + 2, none⟩ = some (.bool f) /\ w3.drew.cell? ⟨b, off + j * 4 + 3, none⟩ = some (.slice a3 bs.length c3) := ⟨Y0.cells13.2.2.2.1, k3, q0, q1, q2, q3'⟩
 have i1 : (0 : Int) <= (j : Int) := by omega
 have i3 : (j : Int) < (ms.length : Int) := by omega
 have YH := hidden Y
 have MH := hidden mmf
 have DH := hidden ddf
 have P0 := hidden p0
 have P1 := hidden p1
 have P3 := hidden p3
 clear Y Y0 mmf ddf p0 p1 p3 hm hs ha
 go_wp2_with fail
 refine Upto.start (S := fun w' => w'.cell? ⟨B, 3, none⟩ = some (.slice (some ⟨gm, 0, none⟩) ms.length cmf) /\ w'.cell? ⟨w.heap.size, 3, none⟩ = some (.slice (some ⟨b, off, none⟩) ms.length cm) /\ w'.cell? ⟨b, off + j * 4, none⟩ = some (.slice a0 ss.length c0) /\ w'.cell? ⟨b, off + j * 4 + 1, none⟩ = some (.slice a1 cs.length c1) /\ w'.cell? ⟨b, off + j * 4 + 2, none⟩ = some (.bool f) /\ w'.cell? ⟨b, off + j * 4 + 3, none⟩ = some (.slice a3 bs.length c3)) (k := 12) (by kernel_rfl) ?_
 refine Upto.t 0 hS ?_
 refine Upto.t 1 hS ?_
 refine Upto.t 2 hS ?_
 refine Upto.t 3 hS ?_
 refine Upto.t 4 hS ?_
 refine Upto.t 5 hS ?_
 refine Upto.t 6 hS ?_
 refine Upto.t 7 hS ?_
 refine Upto.t 8 hS ?_
 refine Upto.one (i := 9) (by kernel_rfl) rfl (fun K hK => ?_)
 go_simp
 refine (specDataAt_any _ s).mono ?_
 rintro e wq ⟨rfl, hq⟩
 subst hq
 go_wp2_with fail
 refine hK.out _ _ (fun _ => hS) ?_
 clear hK K
 refine Upto.one (i := 10) (by kernel_rfl) rfl (fun K hK => ?_)
 go_simp
 refine (specSpoilSec_any _ E _ _ _ _ _ _ _ _ _ ss cs f bs (dataN s) P0.out.drew P1.out.drew P3.out.drew hwd).mono ?_
 rintro e w6 ⟨u0, u1, u3, rfl, o6, b6'⟩
 have b6 : Below w3.heap.size w3 w6 := (Below.refl w3.heap.size w3).drew.trans b6'
 have o6b : (tMem 115).Own w6 w3.heap.size w6.heap.size [u0, u1, .bool f, u3] (spoilD (ss, cs, f, bs) s) := o6
 obtain ⟨d0, l0, f0, d1, l1, f1, d3, l3, f3, hv0, hv1, hv3⟩ := mem_slices o6b
 subst hv0 hv1 hv3
 obtain ⟨fpx, mx6, rx⟩ := o6b.mine
 obtain ⟨cOld, fz, hgm, fm9, hA9, hMv9⟩ := arr_store (m := j) YH.out MH.out DH.out hrf r1f r2f b6 hj mx6 (fun b hb => (rx b hb).1)
 obtain ⟨y0, t0⟩ := cOld 0 (by omega)
 obtain ⟨y1, t1⟩ := cOld 1 (by omega)
 obtain ⟨y2, t2⟩ := cOld 2 (by omega)
 obtain ⟨y3, t3⟩ := cOld 3 (by omega)
 rw [Nat.add_zero] at t0
 have HA := hidden hA9
 have HMV := hidden hMv9
 have hS2 : w6.cell? ⟨B, 3, none⟩ = some (.slice (some ⟨gm, 0, none⟩) ms.length cmf) /\ w6.cell? ⟨w.heap.size, 3, none⟩ = some (.slice (some ⟨b, off, none⟩) ms.length cm) /\ w6.cell? ⟨b, off + j * 4, none⟩ = some (.slice a0 ss.length c0) /\ w6.cell? ⟨b, off + j * 4 + 1, none⟩ = some (.slice a1 cs.length c1) /\ w6.cell? ⟨b, off + j * 4 + 2, none⟩ = some (.bool f) /\ w6.cell? ⟨b, off + j * 4 + 3, none⟩ = some (.slice a3 bs.length c3) := ⟨(b6.cell (p := ⟨B, 3, none⟩) zB).trans hS.1, (b6.cell (p := ⟨w.heap.size, 3, none⟩) X3.lt).trans hS.2.1, (b6.cell (p := ⟨b, off + j * 4, none⟩) hbl).trans hS.2.2.1, (b6.cell (p := ⟨b, off + j * 4 + 1, none⟩) hbl).trans hS.2.2.2.1, (b6.cell (p := ⟨b, off + j * 4 + 2, none⟩) hbl).trans hS.2.2.2.2.1, (b6.cell (p := ⟨b, off + j * 4 + 3, none⟩) hbl).trans hS.2.2.2.2.2⟩
 have gB : ¬ gm = B := fun e => r1f (e ▸ hgm)
 unfold put4 at HA HMV
 clear o6 o6b b6 b6' mx6 rx cOld hA9 hMv9 YH MH DH P0 P1 P3
 go_wp2_with fail
 refine hK.out _ _ (fun _ => hS2) ?_
 clear hK K
 refine Upto.t 11 hS2 ?_
 refine Upto.one (i := 12) (by kernel_rfl) rfl (fun K hK => ?_)
 go_simp
 refine hK.out _ _ (fun h => absurd rfl h) ?_
 clear hK K
 refine Upto.done (by kernel_rfl) ?_ _
 clear hS hS2 t0 t1 t2 t3 fz
 generalize (((w6.setCell ⟨gm, j * 4, none⟩ (.slice d0 l0 f0)).setCell ⟨gm, j * 4 + 1, none⟩ (.slice d1 l1 f1)).setCell ⟨gm, j * 4 + 2, none⟩ (.bool f)).setCell ⟨gm, j * 4 + 3, none⟩ (.slice d3 l3 f3) = w7 at HA HMV ⊢
 have HV := HV0
 generalize ms.set j (spoilD (ss, cs, f, bs) s) = ns at HA HV
 clear HV0
 have A7 := HA.out
 have rm7 : ∀ b ∈ fm9, W.heap.size <= b := fun b hb => by rcases HMV.out.2 b hb with h | h; exact rm2 b h; omega
 have R7 := HMV.out.box R3 (by omega) (fun hm => by have := rm2 _ hm; omega)
 have B7 := B3.trans (HMV.out.belowN (N := w.heap.size) (by omega) (fun b hb => by have := rm2 b hb; omega) (by omega))
 have z7 := HMV.out.size
 clear HA HMV
 obtain ⟨vm, vd, cvm, cvd, Yf, mf, df, hrf, r1f, r2f⟩ := A7
 have Y0 := Yf
 unfold arrC at Y0
 obtain ⟨t0, t1, t2, t3, t4, t5, t6, t7, t8, t9, t10, t11, t12⟩ := Y0.cells13
 obtain ⟨s0, s1, s2, s3, s4, s5, s6, s7, s8, s9, s10, s11, s12⟩ := R7.cells13
 have fzr := R7.frozen
 have HO := hidden (arr_out (y := x) (e := .returned (.agg (arrC x _ _))) B7 R7 rfl mf df hrf rm7 rd2 (by omega) (by omega))
 unfold arrC at HO
 simp only [puts] at HO
 clear R7 B7 Yf Y0 mf df
 go_wp2
 refine bodyPost_ret (v := .agg #[.int .i64 x.id, .int .i64 x.n, .int .i64 x.s, .slice vm ns.length cvm, .int .i64 x.lost, .int .i64 x.built, .int .i64 x.seq, .int .i64 x.tail, .int .i64 x.gen, .slice vd ds.length cvd, .int .i64 x.fuse, .bool x.down, .bool x.broken]) (by simp [results, Try.results23, go_sem, s0, s1, s2, s3, s4, s5, s6, s7, s8, s9, s10, s11, s12]) rfl ?_
 rw [HV.out]; exact HO.out

theorem copyArr_any (w : World) (E F G : TypeId) (x : ArrN) (am ad : Option Addr) (nm cm nd cd : Nat) (ms : List MemD) (ds : List (Int × List Int)) (h0 : (tMemS E F).Rd w [.slice am nm cm] ms) (h1 : (tWrS G).Rd w [.slice ad nd cd] ds) (hw : wtArr ms ds <= 2097152) :
 Calls Try.prog 51 #[.agg #[.int .i64 x.id, .int .i64 x.n, .int .i64 x.s, .slice am nm cm, .int .i64 x.lost, .int .i64 x.built, .int .i64 x.seq, .int .i64 x.tail, .int .i64 x.gen, .slice ad nd cd, .int .i64 x.fuse, .bool x.down, .bool x.broken]] w fun e w' => ∃ bm cm' bd cd' m, e = .returned (.agg #[.int .i64 x.id, .int .i64 x.n, .int .i64 x.s, .slice bm nm cm', .int .i64 x.lost, .int .i64 x.built, .int .i64 x.seq, .int .i64 x.tail, .int .i64 x.gen, .slice bd nd cd', .int .i64 x.fuse, .bool x.down, .bool x.broken]) /\ (tMemS 115 75).Own w' w.heap.size m [.slice bm nm cm'] ms /\ (tWrS 89).Own w' m w'.heap.size [.slice bd nd cd'] ds /\ w.heap.size <= m /\ m <= w'.heap.size /\ Below w.heap.size w w' := by
 have hwm : wtMemS ms <= 2097152 := by unfold wtArr at hw; omega
 have hwd : wtWrS ds <= 2097152 := by unfold wtArr at hw; omega
 obtain ⟨hl0, _, hm0⟩ := row_length h0
 obtain ⟨hl1, _, hm1⟩ := row_length h1
 have hn0 : nm <= 2097152 := by unfold wtMemS at hwm; omega
 have hn1 : nd <= 2097152 := by unfold wtWrS at hwd; omega
 obtain ⟨i1, hi1, hy0, hy1, hy2⟩ := info_parts Try.infoEnt
 obtain ⟨i4, hi4, hz0, hz1, hz2⟩ := info_parts Try.infoMem
 have zz : ∀ u : World, ∀ ob : Obj, (u.alloc ob).heap.size = u.heap.size + 1 := fun u ob => by simp
 have xm : Box (((w.alloc (.cells #[.int .i64 x.id, .int .i64 x.n, .int .i64 x.s, .slice am nm cm, .int .i64 x.lost, .int .i64 x.built, .int .i64 x.seq, .int .i64 x.tail, .int .i64 x.gen, .slice ad nd cd, .int .i64 x.fuse, .bool x.down, .bool x.broken] 35)).alloc (.cells #[.int .i64 0, .int .i64 0, .int .i64 0, .slice none 0 0, .int .i64 0, .int .i64 0, .int .i64 0, .int .i64 0, .int .i64 0, .slice none 0 0, .int .i64 0, .bool false, .bool false] 35)).alloc (.cells #[.int .i64 x.id, .int .i64 x.n, .int .i64 x.s, .slice none 0 0, .int .i64 x.lost, .int .i64 x.built, .int .i64 x.seq, .int .i64 x.tail, .int .i64 x.gen, .slice none 0 0, .int .i64 x.fuse, .bool x.down, .bool x.broken] 35)) (w.heap.size) 35 #[.int .i64 x.id, .int .i64 x.n, .int .i64 x.s, .slice am nm cm, .int .i64 x.lost, .int .i64 x.built, .int .i64 x.seq, .int .i64 x.tail, .int .i64 x.gen, .slice ad nd cd, .int .i64 x.fuse, .bool x.down, .bool x.broken] := ((Box.new w _ _).alloc _).alloc _
 have xr0 := Box.new (w.alloc (.cells #[.int .i64 x.id, .int .i64 x.n, .int .i64 x.s, .slice am nm cm, .int .i64 x.lost, .int .i64 x.built, .int .i64 x.seq, .int .i64 x.tail, .int .i64 x.gen, .slice ad nd cd, .int .i64 x.fuse, .bool x.down, .bool x.broken] 35)) 35 #[.int .i64 0, .int .i64 0, .int .i64 0, .slice none 0 0, .int .i64 0, .int .i64 0, .int .i64 0, .int .i64 0, .int .i64 0, .slice none 0 0, .int .i64 0, .bool false, .bool false]
 rw [zz] at xr0
 have xr : Box (((w.alloc (.cells #[.int .i64 x.id, .int .i64 x.n, .int .i64 x.s, .slice am nm cm, .int .i64 x.lost, .int .i64 x.built, .int .i64 x.seq, .int .i64 x.tail, .int .i64 x.gen, .slice ad nd cd, .int .i64 x.fuse, .bool x.down, .bool x.broken] 35)).alloc (.cells #[.int .i64 0, .int .i64 0, .int .i64 0, .slice none 0 0, .int .i64 0, .int .i64 0, .int .i64 0, .int .i64 0, .int .i64 0, .slice none 0 0, .int .i64 0, .bool false, .bool false] 35)).alloc (.cells #[.int .i64 x.id, .int .i64 x.n, .int .i64 x.s, .slice none 0 0, .int .i64 x.lost, .int .i64 x.built, .int .i64 x.seq, .int .i64 x.tail, .int .i64 x.gen, .slice none 0 0, .int .i64 x.fuse, .bool x.down, .bool x.broken] 35)) (w.heap.size + 1) 35 #[.int .i64 0, .int .i64 0, .int .i64 0, .slice none 0 0, .int .i64 0, .int .i64 0, .int .i64 0, .int .i64 0, .int .i64 0, .slice none 0 0, .int .i64 0, .bool false, .bool false] := xr0.alloc _
 have xo := Box.new ((w.alloc (.cells #[.int .i64 x.id, .int .i64 x.n, .int .i64 x.s, .slice am nm cm, .int .i64 x.lost, .int .i64 x.built, .int .i64 x.seq, .int .i64 x.tail, .int .i64 x.gen, .slice ad nd cd, .int .i64 x.fuse, .bool x.down, .bool x.broken] 35)).alloc (.cells #[.int .i64 0, .int .i64 0, .int .i64 0, .slice none 0 0, .int .i64 0, .int .i64 0, .int .i64 0, .int .i64 0, .int .i64 0, .slice none 0 0, .int .i64 0, .bool false, .bool false] 35)) 35 #[.int .i64 x.id, .int .i64 x.n, .int .i64 x.s, .slice none 0 0, .int .i64 x.lost, .int .i64 x.built, .int .i64 x.seq, .int .i64 x.tail, .int .i64 x.gen, .slice none 0 0, .int .i64 x.fuse, .bool x.down, .bool x.broken]
 rw [zz, zz] at xo
 have hB : Below (w.heap.size) w (((w.alloc (.cells #[.int .i64 x.id, .int .i64 x.n, .int .i64 x.s, .slice am nm cm, .int .i64 x.lost, .int .i64 x.built, .int .i64 x.seq, .int .i64 x.tail, .int .i64 x.gen, .slice ad nd cd, .int .i64 x.fuse, .bool x.down, .bool x.broken] 35)).alloc (.cells #[.int .i64 0, .int .i64 0, .int .i64 0, .slice none 0 0, .int .i64 0, .int .i64 0, .int .i64 0, .int .i64 0, .int .i64 0, .slice none 0 0, .int .i64 0, .bool false, .bool false] 35)).alloc (.cells #[.int .i64 x.id, .int .i64 x.n, .int .i64 x.s, .slice none 0 0, .int .i64 x.lost, .int .i64 x.built, .int .i64 x.seq, .int .i64 x.tail, .int .i64 x.gen, .slice none 0 0, .int .i64 x.fuse, .bool x.down, .bool x.broken] 35)) := (((Below.refl _ _).alloc (Nat.le_refl _) _).alloc (by simp) _).alloc (by simp; omega) _
 have hz : (((w.alloc (.cells #[.int .i64 x.id, .int .i64 x.n, .int .i64 x.s, .slice am nm cm, .int .i64 x.lost, .int .i64 x.built, .int .i64 x.seq, .int .i64 x.tail, .int .i64 x.gen, .slice ad nd cd, .int .i64 x.fuse, .bool x.down, .bool x.broken] 35)).alloc (.cells #[.int .i64 0, .int .i64 0, .int .i64 0, .slice none 0 0, .int .i64 0, .int .i64 0, .int .i64 0, .int .i64 0, .int .i64 0, .slice none 0 0, .int .i64 0, .bool false, .bool false] 35)).alloc (.cells #[.int .i64 x.id, .int .i64 x.n, .int .i64 x.s, .slice none 0 0, .int .i64 x.lost, .int .i64 x.built, .int .i64 x.seq, .int .i64 x.tail, .int .i64 x.gen, .slice none 0 0, .int .i64 x.fuse, .bool x.down, .bool x.broken] 35)).heap.size = w.heap.size + 1 + 1 + 1 := by simp
 have cm3 := xm.cell 3
 have cm9 := xm.cell 9
 clear xr0 zz
 go_enter Try.func51, Try.ntmps51
 go_wp2
 clear cm3 cm9
 generalize ((w.alloc (.cells #[.int .i64 x.id, .int .i64 x.n, .int .i64 x.s, .slice am nm cm, .int .i64 x.lost, .int .i64 x.built, .int .i64 x.seq, .int .i64 x.tail, .int .i64 x.gen, .slice ad nd cd, .int .i64 x.fuse, .bool x.down, .bool x.broken] 35)).alloc (.cells #[.int .i64 0, .int .i64 0, .int .i64 0, .slice none 0 0, .int .i64 0, .int .i64 0, .int .i64 0, .int .i64 0, .int .i64 0, .slice none 0 0, .int .i64 0, .bool false, .bool false] 35)).alloc (.cells #[.int .i64 x.id, .int .i64 x.n, .int .i64 x.s, .slice none 0 0, .int .i64 x.lost, .int .i64 x.built, .int .i64 x.seq, .int .i64 x.tail, .int .i64 x.gen, .slice none 0 0, .int .i64 x.fuse, .bool x.down, .bool x.broken] 35) = W2 at xm xr xo hB hz ⊢
 obtain ⟨LB, hLB⟩ : ∃ LB, W2.heap.size = LB := ⟨_, rfl⟩
 rw [hLB] at hz
 have q3 : w.heap.size + 1 + 1 + 1 <= LB /\ LB <= w.heap.size + 1 + 1 + 1 := by omega
 have hzL : LB <= W2.heap.size := by omega
 clear hLB hz
 obtain ⟨BO, hBO⟩ : ∃ BO, w.heap.size + 1 + 1 = BO := ⟨_, rfl⟩
 rw [hBO] at xo ⊢
 have q2 : w.heap.size + 1 + 1 <= BO /\ BO <= w.heap.size + 1 + 1 := by omega
 clear hBO
 obtain ⟨BR, hBR⟩ : ∃ BR, w.heap.size + 1 = BR := ⟨_, rfl⟩
 rw [hBR] at xr ⊢
 have q1 : w.heap.size + 1 <= BR /\ BR <= w.heap.size + 1 := by omega
 clear hBR
 have XM2 := hidden xm
 have XR2 := hidden xr
 have XO2 := hidden xo
 have HB2 := hidden hB
 clear xm xr xo hB
 go_loopw [14] (fun i wr => ∃ (j : Nat) (v0 : Value) (fp0 : List Nat), j <= nm /\ i = .int .i64 j /\ Fr LB BO W2 wr /\ Box wr BO 35 #[.int .i64 x.id, .int .i64 x.n, .int .i64 x.s, v0, .int .i64 x.lost, .int .i64 x.built, .int .i64 x.seq, .int .i64 x.tail, .int .i64 x.gen, .slice none 0 0, .int .i64 x.fuse, .bool x.down, .bool x.broken] /\ (tMemS 115 75).Mine wr [v0] (ms.take j) fp0 /\ (∀ b ∈ fp0, LB <= b)) (fun i _ => nm - (intOf i).toNat)
 case atStart => exact ⟨0, _, [], Nat.zero_le _, rfl, Fr.refl _ _ _, XO2.out, nil_mine _, by simp⟩
 obtain ⟨j, v0, fp0, hj, rfl, fr, xo, hm, hfp⟩ := hrel
 have hs := fr.size
 have hb := HB2.out.trans (fr.below (M := w.heap.size) (by omega) (by omega))
 by_cases hjn : j < nm
 . rcases quads_at rfl h0 with h0' | ⟨b, off, rfl, hbl, hcs⟩
   . omega
   have hdj : ms[j]? = some (ms[j]'(by omega)) := List.getElem?_eq_getElem (by omega)
   have htk : ms.take (j + 1) = ms.take j ++ [ms[j]'(by omega)] := List.take_succ_eq_append_getElem (by omega)
   generalize ms[j]'(by omega) = d at hdj htk
   have hin := Nat.le_trans (inner_leM hdj) hwm
   obtain ⟨u0, u1, u2, u3, hv0, hv1, hv2, hv3, hrv⟩ := hcs j d hdj
   obtain ⟨a0, c0, a1, c1, a3, c3', ss, cs, f, bs, rfl, rfl, rfl, rfl, rfl, r0, r1, r3⟩ := mem_at hrv
   have pv0 := (hb.cell (p := ⟨b, off + j * 4, none⟩) hbl).trans hv0
   have pv1 := (hb.cell (p := ⟨b, off + j * 4 + 1, none⟩) hbl).trans hv1
   have pv2 := (hb.cell (p := ⟨b, off + j * 4 + 2, none⟩) hbl).trans hv2
   have pv3 := (hb.cell (p := ⟨b, off + j * 4 + 3, none⟩) hbl).trans hv3
   have nb := new_below wr (.cells #[.slice a0 ss.length c0, .slice a1 cs.length c1, .bool f, .slice a3 bs.length c3'] 75)
   have hzm : (wr.alloc (.cells #[.slice a0 ss.length c0, .slice a1 cs.length c1, .bool f, .slice a3 bs.length c3'] 75)).heap.size = wr.heap.size + 1 := by simp
   have hbm := Below.andThen hb nb
   have R0 := hidden (r0.below hbm)
   have R1 := hidden (r1.below hbm)
   have R3 := hidden (r3.below hbm)
   have xom := xo.alloc (.cells #[.slice a0 ss.length c0, .slice a1 cs.length c1, .bool f, .slice a3 bs.length c3'] 75)
   have xmm := Box.new wr 75 #[.slice a0 ss.length c0, .slice a1 cs.length c1, .bool f, .slice a3 bs.length c3']
   have hmm := hm.alloc (.cells #[.slice a0 ss.length c0, .slice a1 cs.length c1, .bool f, .slice a3 bs.length c3'] 75)
   have frm : Fr LB BO W2 (wr.alloc (.cells #[.slice a0 ss.length c0, .slice a1 cs.length c1, .bool f, .slice a3 bs.length c3'] 75)) := fr.trans (Fr.ofBelow nb (by omega))
   have k1 : (0 : Int) <= (j : Int) := by omega
   have k2 : (j : Int) < (nm : Int) := by omega
   have HL : Hid ((ms.take j).length = j) := by unfold Hid; rw [List.length_take]; omega
   have L1 : Hid ((ms.take j).length + 1 <= maxLen) := by unfold Hid; rw [HL.out]; unfold maxLen; omega
   have L2 : Hid (((ms.take j).length + 1) * 80 <= 140737488355328) := by unfold Hid; rw [HL.out]; omega
   have hlt0 : ∀ b ∈ fp0, b < wr.heap.size := hm.lt
   have HTK := hidden htk
   have FRR := hidden frm
   have HM := hidden hmm
   have HFP := hidden hfp
   have XO := hidden xom
   have XMM := hidden xmm
   clear hcs hdj hv0 hv1 hv2 hv3 hrv htk xo hm hfp hb fr r0 r1 r3 nb hbm xom xmm hmm frm
   go_wp2_with fail
   generalize wr.alloc (.cells #[.slice a0 ss.length c0, .slice a1 cs.length c1, .bool f, .slice a3 bs.length c3'] 75) = wm at R0 R1 R3 FRR HM XO XMM hzm ⊢
   have FLT := hidden hlt0
   obtain ⟨MB, hMB⟩ : ∃ MB, wr.heap.size = MB := ⟨_, rfl⟩
   rw [hMB] at XMM hzm hs FLT ⊢
   clear hMB pv0 pv1 pv2 pv3
   have zMB : MB < wm.heap.size := by omega
   have zBO : BO < wm.heap.size := by omega
   have hzm2 : MB + 1 <= wm.heap.size := by omega
   clear hzm
   have mk : Hid (∀ w', Box w' BO 35 #[.int .i64 x.id, .int .i64 x.n, .int .i64 x.s, v0, .int .i64 x.lost, .int .i64 x.built, .int .i64 x.seq, .int .i64 x.tail, .int .i64 x.gen, .slice none 0 0, .int .i64 x.fuse, .bool x.down, .bool x.broken] -> Box w' MB 75 #[.slice a0 ss.length c0, .slice a1 cs.length c1, .bool f, .slice a3 bs.length c3'] -> w'.cell? ⟨BO, 3, none⟩ = some (v0) /\ w'.cell? ⟨MB, 0, none⟩ = some (.slice a0 ss.length c0) /\ w'.cell? ⟨MB, 1, none⟩ = some (.slice a1 cs.length c1) /\ w'.cell? ⟨MB, 2, none⟩ = some (.bool f) /\ w'.cell? ⟨MB, 3, none⟩ = some (.slice a3 bs.length c3')) := fun w' h1 h2 => ⟨h1.cell 3, h2.cell 0, h2.cell 1, h2.cell 2, h2.cell 3⟩
   have hS : wm.drew.cell? ⟨BO, 3, none⟩ = some (v0) /\ wm.drew.cell? ⟨MB, 0, none⟩ = some (.slice a0 ss.length c0) /\ wm.drew.cell? ⟨MB, 1, none⟩ = some (.slice a1 cs.length c1) /\ wm.drew.cell? ⟨MB, 2, none⟩ = some (.bool f) /\ wm.drew.cell? ⟨MB, 3, none⟩ = some (.slice a3 bs.length c3') := mk.out wm.drew XO.out XMM.out
   refine Upto.start (S := fun w' => w'.cell? ⟨BO, 3, none⟩ = some (v0) /\ w'.cell? ⟨MB, 0, none⟩ = some (.slice a0 ss.length c0) /\ w'.cell? ⟨MB, 1, none⟩ = some (.slice a1 cs.length c1) /\ w'.cell? ⟨MB, 2, none⟩ = some (.bool f) /\ w'.cell? ⟨MB, 3, none⟩ = some (.slice a3 bs.length c3')) (k := 7) (by kernel_rfl) ?_
   refine Upto.t 0 hS ?_
   refine Upto.t 1 hS ?_
   refine Upto.t 2 hS ?_
   refine Upto.one (i := 3) (by kernel_rfl) rfl (fun K hK => ?_)
   go_simp
   refine (copyMem_any _ E _ _ _ _ _ _ _ _ _ ss cs f bs R0.out.drew R1.out.drew R3.out.drew hin).mono ?_
   rintro e wc ⟨y0, y1, y3, m1, m2, rfl, o3, o0, o1, hm12, hm01, hm22, bc⟩
   have hbc' : Below wm.heap.size wm wc := (Below.refl wm.heap.size wm).drew.trans bc
   have hm01' : wm.heap.size <= m1 := hm01
   have om : (tMem 115).Own wc wm.heap.size wc.heap.size [y0, y1, .bool f, y3] (ss, cs, f, bs) := mem_own3 o0 o1 o3 (.inl (Nat.le_refl _)) (.inr (Nat.le_refl _)) (.inr hm12) ⟨by omega, by omega⟩ ⟨by omega, Nat.le_refl _⟩ ⟨Nat.le_refl _, by omega⟩
   obtain ⟨e0, g0, rfl⟩ := row_shape o0.rd
   obtain ⟨e1, g1, rfl⟩ := row_shape o1.rd
   obtain ⟨e3, g3, rfl⟩ := row_shape o3.rd
   obtain ⟨fpx, mx, rx⟩ := om.mine
   have xoc := XO.out.below hbc' zBO
   have xmc := XMM.out.below hbc' zMB
   have hS3 : wc.cell? ⟨BO, 3, none⟩ = some (v0) /\ wc.cell? ⟨MB, 0, none⟩ = some (.slice a0 ss.length c0) /\ wc.cell? ⟨MB, 1, none⟩ = some (.slice a1 cs.length c1) /\ wc.cell? ⟨MB, 2, none⟩ = some (.bool f) /\ wc.cell? ⟨MB, 3, none⟩ = some (.slice a3 bs.length c3') := mk.out wc xoc xmc
   have zc := hbc'.size
   have hS4 : (wc.alloc (.cells #[.slice e0 ss.length g0, .slice e1 cs.length g1, .bool f, .slice e3 bs.length g3] 75)).cell? ⟨BO, 3, none⟩ = some (v0) /\ (wc.alloc (.cells #[.slice e0 ss.length g0, .slice e1 cs.length g1, .bool f, .slice e3 bs.length g3] 75)).cell? ⟨MB, 0, none⟩ = some (.slice a0 ss.length c0) /\ (wc.alloc (.cells #[.slice e0 ss.length g0, .slice e1 cs.length g1, .bool f, .slice e3 bs.length g3] 75)).cell? ⟨MB, 1, none⟩ = some (.slice a1 cs.length c1) /\ (wc.alloc (.cells #[.slice e0 ss.length g0, .slice e1 cs.length g1, .bool f, .slice e3 bs.length g3] 75)).cell? ⟨MB, 2, none⟩ = some (.bool f) /\ (wc.alloc (.cells #[.slice e0 ss.length g0, .slice e1 cs.length g1, .bool f, .slice e3 bs.length g3] 75)).cell? ⟨MB, 3, none⟩ = some (.slice a3 bs.length c3') := mk.out _ (xoc.alloc _) (xmc.alloc _)
   have XOC := hidden xoc
   have XMC := hidden xmc
   have MX := hidden mx
   have RX := hidden rx
   have HBC := hidden hbc'
   clear xoc xmc mx rx hbc' bc om o0 o1 o3 hm01 hm01' hm12 hm22 R0 R1 R3
   go_wp2_with fail
   refine hK.out _ _ (fun _ => hS3) ?_
   clear hK K
   refine Upto.one (i := 4) (by kernel_rfl) rfl (fun K hK => ?_)
   go_simp
   refine hK.out _ _ (fun _ => hS4) ?_
   clear hK K
   refine Upto.one (i := 5) (by kernel_rfl) rfl (fun K hK => ?_)
   refine step_appT (tMem 115) (by rfl) _ _ 32 (by rfl) 75 i4 (.agg #[.slice none 0 0, .slice none 0 0, .bool false, .slice none 0 0]) 80 Try.underlying32 hi4 hz0 hz1 hz2 rfl (by decide) v0 (ms.take j) fp0 (by rfl) ?_ ⟨wc.heap.size, 0, none⟩ 1 [.slice e0 ss.length g0, .slice e1 cs.length g1, .bool f, .slice e3 bs.length g3] (ss, cs, f, bs) fpx (by rfl) ?_ ?_ ?_ ?_ L1.out L2.out ?_
   . exact (HM.out.below HBC.out).alloc _
   . exact MX.out.alloc _
   . intro b hb hb'
     have h1 := HM.out.lt b hb
     have h2 := RX.out b hb'
     omega
   . exact news_new _ _ _
   . intro u hu
     simp at hu
     rcases hu with hu | hu | hu | hu <;> (rw [hu]; rfl)
   intro g cap wA fpA m1 m2 m3
   rw [HL.out] at m1 ⊢
   rw [← HTK.out] at m1
   have nMB : MB ∉ fp0 := fun hm => by have := FLT.out _ hm; omega
   have ya := (XOC.out.alloc (.cells #[.slice e0 ss.length g0, .slice e1 cs.length g1, .bool f, .slice e3 bs.length g3] 75)).turned m3 (fun hm => by have := HFP.out _ hm; omega)
   have ym := (XMC.out.alloc (.cells #[.slice e0 ss.length g0, .slice e1 cs.length g1, .bool f, .slice e3 bs.length g3] 75)).turned m3 nMB
   have hS5 : wA.cell? ⟨BO, 3, none⟩ = some (v0) /\ wA.cell? ⟨MB, 0, none⟩ = some (.slice a0 ss.length c0) /\ wA.cell? ⟨MB, 1, none⟩ = some (.slice a1 cs.length c1) /\ wA.cell? ⟨MB, 2, none⟩ = some (.bool f) /\ wA.cell? ⟨MB, 3, none⟩ = some (.slice a3 bs.length c3') := mk.out wA ya ym
   have r0 := hS5.1
   have fz := ya.frozen 3
   have YA := hidden ya
   have M1 := hidden m1
   have M2 := hidden m2
   have M3 := hidden m3
   clear ya ym m1 m2 m3 nMB
   refine hK.out _ _ (fun _ => hS5) ?_
   clear hK K
   simp only [Act.put, List.setIfInBounds_toArray, List.set_cons_zero, List.set_cons_succ]
   refine Upto.t 6 hS5 ?_
   refine Upto.one (i := 7) (by kernel_rfl) rfl (fun K hK => ?_)
   go_simp
   refine hK.out _ _ (fun h => absurd rfl h) ?_
   clear hK K
   refine Upto.done (by kernel_rfl) ?_ _
   have HFA := hidden (round_fp (N := LB) (by omega) HBC.out HFP.out RX.out M2.out)
   have FRA := hidden (Fr.round FRR.out (by omega) HBC.out _ M3.out HFP.out 3 (.slice (some ⟨g, 0, none⟩) (j + 1) cap))
   have MA := hidden (M1.out.setCell (g := BO) (j := 3) (fun hm => by have := HFA.out _ hm; omega) (.slice (some ⟨g, 0, none⟩) (j + 1) cap))
   have YA' := hidden (YA.out.set 3 (.slice (some ⟨g, 0, none⟩) (j + 1) cap))
   clear hS hS3 hS4 hS5 r0 YA M1 M2 M3 XOC MX RX HBC HFP HM FRR XO XMM XMC mk FLT
   go_wp2
   go_roundw
   case rel => exact ⟨j + 1, _, fpA, by omega, by go_num, FRA.out, YA'.out, MA.out, HFA.out⟩
   case measure => simp [intOf]; omega
 have ej : nm = j := by omega
 subst ej
 rw [List.take_of_length_le (by omega)] at hm
 have hlt := hm.lt
 obtain ⟨eM, gM, hvM⟩ := row_shape hm.rd
 rw [hl0] at hvM
 subst hvM
 have KM := hm.own (lo := LB) (hi := wr.heap.size) (fun b hb => ⟨hfp b hb, hlt b hb⟩)
 have xr := fr.box XR2.out (by omega) (by omega)
 have xm := fr.box XM2.out (by omega) (by omega)
 have c9 : wr.cell? ⟨w.heap.size, 9, none⟩ = some (.slice ad nd cd) := xm.cell 9
 obtain ⟨LE, hLE⟩ : ∃ LE, wr.heap.size = LE := ⟨_, rfl⟩
 rw [hLE] at KM hs
 have hLE2 : LE <= wr.heap.size := by omega
 clear hLE
 have XM3 := hidden xm
 have XR3 := hidden xr
 have XO3 := hidden xo
 have KM3 := hidden KM
 have HB3 := hidden hb
 clear fr xo xm hm hfp hlt KM xr hb hj XM2 XR2 XO2 HB2
 go_wp2
 clear c9
 obtain ⟨wo, hwo⟩ : ∃ y, y = wr := ⟨_, rfl⟩
 subst hwo
 go_loopw [29] (fun i wq => ∃ (j : Nat) (v1 : Value) (fp1 : List Nat), j <= nd /\ i = .int .i64 j /\ Fr LE BO wo wq /\ Box wq BO 35 #[.int .i64 x.id, .int .i64 x.n, .int .i64 x.s, .slice eM nm gM, .int .i64 x.lost, .int .i64 x.built, .int .i64 x.seq, .int .i64 x.tail, .int .i64 x.gen, v1, .int .i64 x.fuse, .bool x.down, .bool x.broken] /\ (tWrS 89).Mine wq [v1] (ds.take j) fp1 /\ (∀ b ∈ fp1, LE <= b)) (fun i _ => nd - (intOf i).toNat)
 case atStart => exact ⟨0, _, [], Nat.zero_le _, rfl, Fr.refl _ _ _, XO3.out, nil_mine _, by simp⟩
 obtain ⟨j, v1, fp1, hj, rfl, fr, xo, hm, hfp⟩ := hrel
 have hs3 := fr.size
 have hb := HB3.out.trans (fr.below (M := w.heap.size) (by omega) (by omega))
 by_cases hjn : j < nd
 . rcases pairs_at rfl h1 with h0' | ⟨b, off, rfl, hbl, hcs⟩
   . omega
   have hdj : ds[j]? = some (ds[j]'(by omega)) := List.getElem?_eq_getElem (by omega)
   have htk : ds.take (j + 1) = ds.take j ++ [ds[j]'(by omega)] := List.take_succ_eq_append_getElem (by omega)
   generalize ds[j]'(by omega) = d at hdj htk
   have hil := inner_le' hdj
   obtain ⟨u0, u1, hv0, hv1, hrv⟩ := hcs j d hdj
   obtain ⟨rfl, hrv'⟩ := wr_rd hrv
   obtain ⟨av, cv, rfl⟩ := row_shape hrv'
   have pv0 := (hb.cell (p := ⟨b, off + j * 2, none⟩) hbl).trans hv0
   have pv1 := (hb.cell (p := ⟨b, off + j * 2 + 1, none⟩) hbl).trans hv1
   obtain ⟨x0, x1⟩ := d
   simp only at pv0 pv1 hrv' hil
   have nb := new_below wr (.cells #[.int .i64 x0, .slice av x1.length cv] 89)
   have hzm : (wr.alloc (.cells #[.int .i64 x0, .slice av x1.length cv] 89)).heap.size = wr.heap.size + 1 := by simp
   have HX := hidden (hrv'.below (Below.andThen hb nb))
   have k1 : (0 : Int) <= (j : Int) := by omega
   have k2 : (j : Int) < (nd : Int) := by omega
   have xom := xo.alloc (.cells #[.int .i64 x0, .slice av x1.length cv] 89)
   have xmm := Box.new wr 89 #[.int .i64 x0, .slice av x1.length cv]
   have hmm := hm.alloc (.cells #[.int .i64 x0, .slice av x1.length cv] 89)
   have frm : Fr LE BO wo (wr.alloc (.cells #[.int .i64 x0, .slice av x1.length cv] 89)) := fr.trans (Fr.ofBelow nb (by omega))
   have hlt0 : ∀ b ∈ fp1, b < wr.heap.size := hm.lt
   have HL : Hid ((ds.take j).length = j) := by unfold Hid; rw [List.length_take]; omega
   have L1 : Hid ((ds.take j).length + 1 <= maxLen) := by unfold Hid; rw [HL.out]; unfold maxLen; omega
   have L2 : Hid (((ds.take j).length + 1) * 32 <= 140737488355328) := by unfold Hid; rw [HL.out]; omega
   have HTK := hidden htk
   have FRR := hidden frm
   have HM := hidden hmm
   have HFP := hidden hfp
   have XO := hidden xom
   have XMM := hidden xmm
   have FLT := hidden hlt0
   clear hcs hdj hv0 hv1 hrv hrv' htk xo hm hfp hb fr nb xom xmm hmm frm hlt0
   go_wp2_with fail
   generalize wr.alloc (.cells #[.int .i64 x0, .slice av x1.length cv] 89) = wm at HX FRR HM XO XMM hzm ⊢
   obtain ⟨MB, hMB⟩ : ∃ MB, wr.heap.size = MB := ⟨_, rfl⟩
   rw [hMB] at XMM hzm hs3 FLT ⊢
   clear hMB pv0 pv1
   have zMB : MB < wm.heap.size := by omega
   have zBO : BO < wm.heap.size := by omega
   have hzm2 : MB + 1 <= wm.heap.size := by omega
   clear hzm
   have mk : Hid (∀ w', Box w' BO 35 #[.int .i64 x.id, .int .i64 x.n, .int .i64 x.s, .slice eM nm gM, .int .i64 x.lost, .int .i64 x.built, .int .i64 x.seq, .int .i64 x.tail, .int .i64 x.gen, v1, .int .i64 x.fuse, .bool x.down, .bool x.broken] -> Box w' MB 89 #[.int .i64 x0, .slice av x1.length cv] -> w'.cell? ⟨BO, 9, none⟩ = some (v1) /\ w'.cell? ⟨MB, 0, none⟩ = some (.int .i64 x0) /\ w'.cell? ⟨MB, 1, none⟩ = some (.slice av x1.length cv)) := fun w' h1 h2 => ⟨h1.cell 9, h2.cell 0, h2.cell 1⟩
   have hS : wm.drew.cell? ⟨BO, 9, none⟩ = some (v1) /\ wm.drew.cell? ⟨MB, 0, none⟩ = some (.int .i64 x0) /\ wm.drew.cell? ⟨MB, 1, none⟩ = some (.slice av x1.length cv) := mk.out wm.drew XO.out XMM.out
   refine Upto.start (S := fun w' => w'.cell? ⟨BO, 9, none⟩ = some (v1) /\ w'.cell? ⟨MB, 0, none⟩ = some (.int .i64 x0) /\ w'.cell? ⟨MB, 1, none⟩ = some (.slice av x1.length cv)) (k := 11) (by kernel_rfl) ?_
   refine Upto.t 0 hS ?_
   refine Upto.t 1 hS ?_
   refine Upto.t 2 hS ?_
   refine Upto.t 3 hS ?_
   refine Upto.t 4 hS ?_
   refine Upto.t 5 hS ?_
   refine Upto.one (i := 6) (by kernel_rfl) rfl (fun K hK => ?_)
   go_simp
   refine (copyWords_any _ _ _ _ x1 HX.out.drew (by omega)).mono ?_
   rintro e wc ⟨ac, cc, rfl, ow, bc⟩
   have hbc' : Below wm.heap.size wm wc := (Below.refl wm.heap.size wm).drew.trans bc
   obtain ⟨fpx, mx, rx0⟩ := ow.mine
   have rx : ∀ b ∈ fpx, wm.heap.size <= b /\ b < wc.heap.size := rx0
   have xoc := XO.out.below hbc' zBO
   have xmc := XMM.out.below hbc' zMB
   have hS3 : wc.cell? ⟨BO, 9, none⟩ = some (v1) /\ wc.cell? ⟨MB, 0, none⟩ = some (.int .i64 x0) /\ wc.cell? ⟨MB, 1, none⟩ = some (.slice av x1.length cv) := mk.out wc xoc xmc
   have zc := hbc'.size
   have hS4 : (wc.alloc (.cells #[.int .i64 x0, .slice ac x1.length cc] 89)).cell? ⟨BO, 9, none⟩ = some (v1) /\ (wc.alloc (.cells #[.int .i64 x0, .slice ac x1.length cc] 89)).cell? ⟨MB, 0, none⟩ = some (.int .i64 x0) /\ (wc.alloc (.cells #[.int .i64 x0, .slice ac x1.length cc] 89)).cell? ⟨MB, 1, none⟩ = some (.slice av x1.length cv) := mk.out _ (xoc.alloc _) (xmc.alloc _)
   have XOC := hidden xoc
   have XMC := hidden xmc
   have MX := hidden mx
   have RX := hidden rx
   have HBC := hidden hbc'
   clear xoc xmc mx rx rx0 hbc' bc ow HX
   go_wp2_with fail
   refine hK.out _ _ (fun _ => hS3) ?_
   clear hK K
   refine Upto.t 7 hS3 ?_
   refine Upto.one (i := 8) (by kernel_rfl) rfl (fun K hK => ?_)
   go_simp
   refine hK.out _ _ (fun _ => hS4) ?_
   clear hK K
   refine Upto.one (i := 9) (by kernel_rfl) rfl (fun K hK => ?_)
   refine step_appT tWr (by rfl) _ _ 33 (by rfl) 89 i1 (.agg #[.int .i64 0, .slice none 0 0]) 32 Try.underlying33 hi1 hy0 hy1 hy2 rfl Nat.zero_lt_two v1 (ds.take j) fp1 (by rfl) ?_ ⟨wc.heap.size, 0, none⟩ 1 [.int .i64 x0, .slice ac x1.length cc] (x0, x1) fpx (by rfl) ?_ ?_ ?_ ?_ L1.out L2.out ?_
   . exact (HM.out.below HBC.out).alloc _
   . exact (wr_mine x0 MX.out).alloc _
   . intro b hb hb'
     have h1 := HM.out.lt b hb
     have h2 := RX.out b hb'
     omega
   . exact news_new _ _ _
   . intro u hu
     simp at hu
     rcases hu with hu | hu <;> (rw [hu]; rfl)
   intro g cap wA fpA m1 m2 m3
   rw [HL.out] at m1 ⊢
   rw [← HTK.out] at m1
   have nMB : MB ∉ fp1 := fun hm => by have := FLT.out _ hm; omega
   have ya := (XOC.out.alloc (.cells #[.int .i64 x0, .slice ac x1.length cc] 89)).turned m3 (fun hm => by have := HFP.out _ hm; omega)
   have ym := (XMC.out.alloc (.cells #[.int .i64 x0, .slice ac x1.length cc] 89)).turned m3 nMB
   have hS5 : wA.cell? ⟨BO, 9, none⟩ = some (v1) /\ wA.cell? ⟨MB, 0, none⟩ = some (.int .i64 x0) /\ wA.cell? ⟨MB, 1, none⟩ = some (.slice av x1.length cv) := mk.out wA ya ym
   have r0 := hS5.1
   have fz := ya.frozen 9
   have YA := hidden ya
   have M1 := hidden m1
   have M2 := hidden m2
   have M3 := hidden m3
   clear ya ym m1 m2 m3 nMB
   refine hK.out _ _ (fun _ => hS5) ?_
   clear hK K
   simp only [Act.put, List.setIfInBounds_toArray, List.set_cons_zero, List.set_cons_succ]
   refine Upto.t 10 hS5 ?_
   refine Upto.one (i := 11) (by kernel_rfl) rfl (fun K hK => ?_)
   go_simp
   refine hK.out _ _ (fun h => absurd rfl h) ?_
   clear hK K
   refine Upto.done (by kernel_rfl) ?_ _
   have HFA := hidden (round_fp (N := LE) (by omega) HBC.out HFP.out RX.out M2.out)
   have FRA := hidden (Fr.round FRR.out (by omega) HBC.out _ M3.out HFP.out 9 (.slice (some ⟨g, 0, none⟩) (j + 1) cap))
   have MA := hidden (M1.out.setCell (g := BO) (j := 9) (fun hm => by have := HFA.out _ hm; omega) (.slice (some ⟨g, 0, none⟩) (j + 1) cap))
   have YA' := hidden (YA.out.set 9 (.slice (some ⟨g, 0, none⟩) (j + 1) cap))
   clear hS hS3 hS4 hS5 r0 YA M1 M2 M3 XOC MX RX HBC HFP HM FRR XO XMM XMC mk FLT
   go_wp2
   go_roundw
   case rel => exact ⟨j + 1, _, fpA, by omega, by go_num, FRA.out, YA'.out, MA.out, HFA.out⟩
   case measure => simp [intOf]; omega
 have ej : nd = j := by omega
 subst ej
 rw [List.take_of_length_le (by omega)] at hm
 have hlt := hm.lt
 obtain ⟨eD, gD, hvD⟩ := row_shape hm.rd
 rw [hl1] at hvD
 subst hvD
 have K1 := hm.own (lo := LE) (hi := wr.heap.size) (fun b hb => ⟨hfp b hb, hlt b hb⟩)
 have K0 := fr.own KM3.out (Nat.le_refl _) (.inr (by omega))
 have xr := fr.box XR3.out (by omega) (by omega)
 have hbt := puts_but BR [(0, .int .i64 x.id), (1, .int .i64 x.n), (2, .int .i64 x.s), (3, .slice eM nm gM), (4, .int .i64 x.lost), (5, .int .i64 x.built), (6, .int .i64 x.seq), (7, .int .i64 x.tail), (8, .int .i64 x.gen), (9, .slice eD nd gD), (10, .int .i64 x.fuse), (11, .bool x.down), (12, .bool x.broken)] wr
 have H0 := K0.but hbt (.inr (by omega))
 have H1 := K1.but hbt (.inr (by omega))
 have HBB := Below.andBut hb hbt (by omega)
 have hsz := hbt.size
 have H0w := hidden (H0.widen (lo' := w.heap.size) (hi' := LE) (by omega) (Nat.le_refl _))
 have H1w := hidden (H1.widen (lo' := LE) (Nat.le_refl _) hsz)
 have HBw := hidden HBB
 have HSZ : Hid (LE <= (puts wr BR [(0, .int .i64 x.id), (1, .int .i64 x.n), (2, .int .i64 x.s), (3, .slice eM nm gM), (4, .int .i64 x.lost), (5, .int .i64 x.built), (6, .int .i64 x.seq), (7, .int .i64 x.tail), (8, .int .i64 x.gen), (9, .slice eD nd gD), (10, .int .i64 x.fuse), (11, .bool x.down), (12, .bool x.broken)]).heap.size) := by unfold Hid; omega
 simp only [puts] at H0w H1w HBw HSZ
 obtain ⟨p0, p1, p2, p3, p4, p5, p6, p7, p8, p9, p10, p11, p12⟩ := xr.cells13
 have fz := xr.frozen
 obtain ⟨r0, r1, r2, r3, r4, r5, r6, r7, r8, r9, r10, r11, r12⟩ := xo.cells13
 have hLw : w.heap.size <= LE := by omega
 clear fr xo hb hm hfp hlt xr K0 K1 hbt H0 H1 HBB hsz hj hs3
 go_wp2
 refine bodyPost_ret (v := .agg #[.int .i64 x.id, .int .i64 x.n, .int .i64 x.s, .slice eM nm gM, .int .i64 x.lost, .int .i64 x.built, .int .i64 x.seq, .int .i64 x.tail, .int .i64 x.gen, .slice eD nd gD, .int .i64 x.fuse, .bool x.down, .bool x.broken]) (by simp [results, Try.results51, go_sem, p0, p1, p2, p3, p4, p5, p6, p7, p8, p9, p10, p11, p12]) rfl ?_
 exact ⟨_, _, _, _, LE, rfl, H0w.out, H1w.out, hLw, HSZ.out, HBw.out⟩

def recB6 (x : ArrN) : Bool := inB x.seq 0 60000 && (inB x.tail 0 60000 && inB (x.seq - x.tail) 0 4)
theorem lost_same6 {x : ArrN} (hg : geoB x.n x.s = true) : lostB x.n x.s x.lost x.built = lostB6 x := by
 obtain ⟨g1, g2, g3, g4⟩ := geoB_iff.1 hg
 rw [Bool.eq_iff_iff, lostB_iff]
 unfold lostB6
 simp only [Bool.and_eq_true, inB_iff, Bool.or_eq_true, Bool.not_eq_true', decide_eq_false_iff_not, decide_eq_true_eq]
 omega
theorem seq_same6 (x : ArrN) : seqB6 x = (inB x.gen 0 60000 && (inB x.fuse (-1) 1000 && recB6 x)) := by
 rw [Bool.eq_iff_iff]
 unfold seqB6 recB6
 simp only [Bool.and_eq_true, inB_iff, decide_eq_true_eq]
 omega
theorem arr_same6 {x : ArrN} {ms : List MemD} {ds : List (Int × List Int)} (hg : geoB x.n x.s = true) : arrB x ms ds = (inB x.id 1 60000 && (lostB x.n x.s x.lost x.built && (inB x.gen 0 60000 && (inB x.fuse (-1) 1000 && (memsB x ms && (recB6 x && entsB x ds)))))) := by
 unfold arrB
 rw [hg, lost_same6 hg, seq_same6]
 cases inB x.id 1 60000 <;> cases lostB6 x <;> cases inB x.gen 0 60000 <;> cases inB x.fuse (-1) 1000 <;> cases memsB x ms <;> cases recB6 x <;> cases entsB x ds <;> rfl
theorem stripe_in6 {x : ArrN} {y : Int} (hg : geoB x.n x.s = true) : stripeB x.n x.s y = inB y 0 (x.s - 1) := by unfold stripeB; rw [hg]; rfl
theorem sec_all6 {zs : List Int} (h : zs.length <= 12) : secB zs = allW zs := by unfold secB; simp [h]
theorem entAt_6 {x : ArrN} {ds : List (Int × List Int)} {p : Nat} {y : Int} {zs : List Int} {q : Int × List Int} (hq : ds[p]? = some q) (h : y <= q.1) : entAt x ds (p + 1) (y, zs) = false := by
 have : ds.getD (p + 1 - 1) (0, []) = q := by rw [Nat.add_sub_cancel, List.getD_eq_getElem?_getD, hq]; rfl
 unfold entAt
 rw [this]
 have h2 : ¬ q.1 < y := by omega
 simp [h2]

theorem sectorsOf_any (w : World) (n s : Int) (hs : 1 <= s /\ s <= 8) : Calls Try.prog 102 #[.agg #[.int .i64 n, .int .i64 s]] w fun e w' => e = .returned (.int .i64 (6 + s)) /\ Below w.heap.size w w' := by
 have hA := new_below w (.cells #[.int .i64 n, .int .i64 s] 31)
 obtain ⟨k0, k1⟩ := (Gbox.new w 31 n s).cells
 have hd : dataN s = 6 + s := by unfold dataN; split <;> omega
 have HD := hidden hd
 clear hd
 go_enter Try.func102, Try.ntmps102
 go_wp2_with fail
 refine (implDataAt_any _ _).mono ?_
 rintro e w1 ⟨rfl, h1⟩
 subst h1
 rw [HD.out]
 go_wp2
 go_ret
 exact ⟨rfl, hA⟩

theorem memsOk_any (w : World) (E F : TypeId) (x : ArrN) (am ad : Option Addr) (nm cm nd cd : Nat) (ms : List MemD) (h0 : (tMemS E F).Rd w [.slice am nm cm] ms) (hw : wtMemS ms <= 2097152) (hg : geoB x.n x.s = true) :
 Calls Try.prog 72 #[.agg #[.int .i64 x.id, .int .i64 x.n, .int .i64 x.s, .slice am nm cm, .int .i64 x.lost, .int .i64 x.built, .int .i64 x.seq, .int .i64 x.tail, .int .i64 x.gen, .slice ad nd cd, .int .i64 x.fuse, .bool x.down, .bool x.broken]] w fun e w' => e = .returned (.bool (memsB x ms)) /\ Below w.heap.size w w' := by
 obtain ⟨hl, hc, hm⟩ := row_length h0
 obtain ⟨g1, g2, g3, g4⟩ := geoB_iff.1 hg
 have hA := new_below w (.cells #[.int .i64 x.id, .int .i64 x.n, .int .i64 x.s, .slice am nm cm, .int .i64 x.lost, .int .i64 x.built, .int .i64 x.seq, .int .i64 x.tail, .int .i64 x.gen, .slice ad nd cd, .int .i64 x.fuse, .bool x.down, .bool x.broken] 35)
 have X := Box.new w 35 #[.int .i64 x.id, .int .i64 x.n, .int .i64 x.s, .slice am nm cm, .int .i64 x.lost, .int .i64 x.built, .int .i64 x.seq, .int .i64 x.tail, .int .i64 x.gen, .slice ad nd cd, .int .i64 x.fuse, .bool x.down, .bool x.broken]
 have zA := X.lt
 have hnm : nm <= 2097152 := by unfold wtMemS at hw; omega
 have h1 := h0.below hA
 obtain ⟨k0, k1, k2, k3, k4, k5, k6, k7, k8, k9, k10, k11, k12⟩ := X.cells13
 by_cases hN : (nm : Int) = x.n
 . have hN1 : ((nm : Int) == x.n) = true := by simpa using hN
   have hN2 : ((nm : Int) != x.n) = false := by simpa using hN
   have HN := hidden hN
   clear hN
   go_enter Try.func72, Try.ntmps72
   go_wp2
   generalize w.alloc (.cells #[.int .i64 x.id, .int .i64 x.n, .int .i64 x.s, .slice am nm cm, .int .i64 x.lost, .int .i64 x.built, .int .i64 x.seq, .int .i64 x.tail, .int .i64 x.gen, .slice ad nd cd, .int .i64 x.fuse, .bool x.down, .bool x.broken] 35) = W at hA X zA h1 k0 k1 k2 k3 k4 k5 k6 k7 k8 k9 k10 k11 k12 ⊢
   clear k0 k1 k2 k3 k4 k5 k6 k7 k8 k9 k10 k11 k12
   go_loopw [15] (fun i wr => ∃ j : Nat, j <= nm /\ i = .int .i64 j /\ (∀ (q : Nat) (m : MemD), q < j -> ms[q]? = some m -> memAt x q m = true) /\ Below W.heap.size W wr) (fun i _ => nm - (intOf i).toNat)
   case atStart => exact ⟨0, Nat.zero_le _, rfl, fun q m hq => by omega, Below.refl _ _⟩
   obtain ⟨j, hj, rfl, hall, hb⟩ := hrel
   have Xr := X.below hb zA
   by_cases hjn : j < nm
   . rcases quads_at rfl h1 with h0' | ⟨b, off, rfl, hbl, hcs⟩
     . omega
     have hdj : ms[j]? = some (ms[j]'(by omega)) := List.getElem?_eq_getElem (by omega)
     generalize ms[j]'(by omega) = m at hdj
     obtain ⟨v0, v1, v2, v3, hv0, hv1, hv2, hv3, hrv⟩ := hcs j m hdj
     obtain ⟨a0, c0, a1, c1, a3, c3, ss, cs, f, bs, rfl, rfl, rfl, rfl, rfl, r0, r1, r3⟩ := mem_at hrv
     have u0 := (hb.cell (p := ⟨b, off + j * 4, none⟩) hbl).trans hv0
     have u1 := (hb.cell (p := ⟨b, off + j * 4 + 1, none⟩) hbl).trans hv1
     have u2 := (hb.cell (p := ⟨b, off + j * 4 + 2, none⟩) hbl).trans hv2
     have u3 := (hb.cell (p := ⟨b, off + j * 4 + 3, none⟩) hbl).trans hv3
     have i1 : (0 : Int) <= (j : Int) := by omega
     have i2 : (j : Int) < (nm : Int) := by omega
     have hwm := Nat.le_trans (inner_leM hdj) hw
     have HDJ := hidden hdj
     clear hcs hv0 hv1 hv2 hv3 hrv hdj
     have b1 := new_below wr (.cells #[.slice a0 ss.length c0, .slice a1 cs.length c1, .bool f, .slice a3 bs.length c3] 75)
     have Y1 := Box.new wr 75 #[.slice a0 ss.length c0, .slice a1 cs.length c1, .bool f, .slice a3 bs.length c3]
     have X1 := Xr.below b1 Xr.lt
     have R0 := (r0.below hb).below b1
     have R1 := (r1.below hb).below b1
     have R3 := (r3.below hb).below b1
     have B1 := hb.trans (b1.mono hb.size)
     clear r0 r1 r3 b1
     obtain ⟨y0, y1, y2, y3⟩ := Y1.cells4
     obtain ⟨e0, e1, e2, e3, e4, e5, e6, e7, e8, e9, e10, e11, e12⟩ := X1.cells13
     have zy := Y1.lt
     have zx := X1.lt
     clear e0 e3 e5 e6 e7 e8 e9 e10 e11
     cases hM : memB ss cs bs
     . skip
       go_wp2_with fail
       generalize wr.alloc (.cells #[.slice a0 ss.length c0, .slice a1 cs.length c1, .bool f, .slice a3 bs.length c3] 75) = w1 at X1 Y1 R0 R1 R3 B1 y0 y1 y2 y3 e1 e2 e4 e12 zy zx ⊢
       refine wp_region_held_drew (S := fun w' => w'.cell? ⟨wr.heap.size, 0, none⟩ = some (.slice a0 ss.length c0) /\ w'.cell? ⟨wr.heap.size, 1, none⟩ = some (.slice a1 cs.length c1) /\ w'.cell? ⟨wr.heap.size, 2, none⟩ = some (.bool f) /\ w'.cell? ⟨wr.heap.size, 3, none⟩ = some (.slice a3 bs.length c3) /\ w'.cell? ⟨w.heap.size, 1, none⟩ = some (.int .i64 x.n) /\ w'.cell? ⟨w.heap.size, 2, none⟩ = some (.int .i64 x.s)) (by kernel_rfl) ?_ (fun hHeld => ?_)
       . exact ⟨y0, y1, y2, y3, e1, e2⟩
       refine held_t 0 hHeld ?_
       refine held_one (i := 1) (by kernel_rfl) rfl (by kernel_rfl) (fun K hK => ?_)
       go_simp
       refine (implMemOk_any _ E _ _ _ _ _ _ _ _ _ ss cs f bs R0.drew R1.drew R3.drew hwm).mono ?_
       rintro e w2 ⟨rfl, b2⟩
       rw [hM]
       have b2' : Below w1.heap.size w1 w2 := (Below.refl w1.heap.size w1).drew.trans b2
       clear b2
       go_wp2_with fail
       clear hHeld
       refine hK.out _ _ ?_ (fun hHeld => ?_)
       . exact ⟨(b2'.cell (p := ⟨wr.heap.size, 0, none⟩) zy).trans y0, (b2'.cell (p := ⟨wr.heap.size, 1, none⟩) zy).trans y1, (b2'.cell (p := ⟨wr.heap.size, 2, none⟩) zy).trans y2, (b2'.cell (p := ⟨wr.heap.size, 3, none⟩) zy).trans y3, (b2'.cell (p := ⟨w.heap.size, 1, none⟩) zx).trans e1, (b2'.cell (p := ⟨w.heap.size, 2, none⟩) zx).trans e2⟩
       clear hK K
       refine held_t 2 hHeld ?_
       refine held_t 3 hHeld ?_
       refine held_p 4 hHeld ?_
       refine held_p 5 hHeld ?_
       refine held_p 6 hHeld ?_
       refine held_p 7 hHeld ?_
       refine held_p 8 hHeld ?_
       refine held_none (i := 9) (by kernel_rfl) rfl (by kernel_rfl) hHeld ?_
       simp only [Act.put, List.setIfInBounds_toArray, List.set_cons_zero, List.set_cons_succ]
       refine held_p 10 hHeld ?_
       refine held_t 11 hHeld ?_
       refine wpAnyH_done (by kernel_rfl) ?_ _
       clear hHeld
       have HB := hidden (hA.trans ((B1.trans (b2'.mono B1.size)).mono hA.size))
       go_wp2
       go_ret
       exact ⟨ret_bool (by rw [show memsB x ms = false from (by unfold memsB; rw [allIx_no HDJ.out (by unfold memAt; simp [hM])]; rfl)]), HB.out⟩
     by_cases hS : (ss.length : Int) = 6 + x.s
     . have hS1 : ((ss.length : Int) == 6 + x.s) = true := by simpa using hS
       have hS2 : ((ss.length : Int) != 6 + x.s) = false := by simpa using hS
       have HS := hidden hS
       clear hS
       cases f
       . skip
         go_wp2_with fail
         generalize wr.alloc (.cells #[.slice a0 ss.length c0, .slice a1 cs.length c1, .bool false, .slice a3 bs.length c3] 75) = w1 at X1 Y1 R0 R1 R3 B1 y0 y1 y2 y3 e1 e2 e4 e12 zy zx ⊢
         refine wp_region_held_drew (S := fun w' => w'.cell? ⟨wr.heap.size, 0, none⟩ = some (.slice a0 ss.length c0) /\ w'.cell? ⟨wr.heap.size, 1, none⟩ = some (.slice a1 cs.length c1) /\ w'.cell? ⟨wr.heap.size, 2, none⟩ = some (.bool false) /\ w'.cell? ⟨wr.heap.size, 3, none⟩ = some (.slice a3 bs.length c3) /\ w'.cell? ⟨w.heap.size, 1, none⟩ = some (.int .i64 x.n) /\ w'.cell? ⟨w.heap.size, 2, none⟩ = some (.int .i64 x.s)) (by kernel_rfl) ?_ (fun hHeld => ?_)
         . exact ⟨y0, y1, y2, y3, e1, e2⟩
         refine held_t 0 hHeld ?_
         refine held_one (i := 1) (by kernel_rfl) rfl (by kernel_rfl) (fun K hK => ?_)
         go_simp
         refine (implMemOk_any _ E _ _ _ _ _ _ _ _ _ ss cs false bs R0.drew R1.drew R3.drew hwm).mono ?_
         rintro e w2 ⟨rfl, b2⟩
         rw [hM]
         have b2' : Below w1.heap.size w1 w2 := (Below.refl w1.heap.size w1).drew.trans b2
         clear b2
         go_wp2_with fail
         clear hHeld
         refine hK.out _ _ ?_ (fun hHeld => ?_)
         . exact ⟨(b2'.cell (p := ⟨wr.heap.size, 0, none⟩) zy).trans y0, (b2'.cell (p := ⟨wr.heap.size, 1, none⟩) zy).trans y1, (b2'.cell (p := ⟨wr.heap.size, 2, none⟩) zy).trans y2, (b2'.cell (p := ⟨wr.heap.size, 3, none⟩) zy).trans y3, (b2'.cell (p := ⟨w.heap.size, 1, none⟩) zx).trans e1, (b2'.cell (p := ⟨w.heap.size, 2, none⟩) zx).trans e2⟩
         clear hK K
         refine held_t 2 hHeld ?_
         refine held_t 3 hHeld ?_
         refine held_t 4 hHeld ?_
         refine held_t 5 hHeld ?_
         refine held_t 6 hHeld ?_
         refine held_t 7 hHeld ?_
         refine held_t 8 hHeld ?_
         refine held_one (i := 9) (by kernel_rfl) rfl (by kernel_rfl) (fun K hK => ?_)
         go_simp
         refine (sectorsOf_any _ x.n x.s ⟨g3, g4⟩).mono ?_
         rintro e w3 ⟨rfl, b3⟩
         have b3' : Below w1.heap.size w1 w3 := Below.andThen b2' b3
         clear b3
         go_wp2_with fail
         clear hHeld
         refine hK.out _ _ ?_ (fun hHeld => ?_)
         . exact ⟨(b3'.cell (p := ⟨wr.heap.size, 0, none⟩) zy).trans y0, (b3'.cell (p := ⟨wr.heap.size, 1, none⟩) zy).trans y1, (b3'.cell (p := ⟨wr.heap.size, 2, none⟩) zy).trans y2, (b3'.cell (p := ⟨wr.heap.size, 3, none⟩) zy).trans y3, (b3'.cell (p := ⟨w.heap.size, 1, none⟩) zx).trans e1, (b3'.cell (p := ⟨w.heap.size, 2, none⟩) zx).trans e2⟩
         clear hK K
         refine held_t 10 hHeld ?_
         refine held_t 11 hHeld ?_
         refine wpAnyH_done (by kernel_rfl) ?_ _
         clear hHeld
         have n0 := (b3'.cell (p := ⟨w.heap.size, 4, none⟩) zx).trans e4
         have n1 := (b3'.cell (p := ⟨w.heap.size, 12, none⟩) zx).trans e12
         have n2 := (b3'.cell (p := ⟨wr.heap.size, 2, none⟩) zy).trans y2
         have HB := hidden (B1.trans (b3'.mono B1.size))
         have hat : memAt x j (ss, cs, false, bs) = true := (by unfold memAt; simp [hM, HS.out])
         go_wp2
         go_roundw
         case rel => exact ⟨j + 1, by omega, by go_num, fun q m hq hm' => by
          rcases Nat.lt_or_ge q j with h | h
          . exact hall q m h hm'
          obtain rfl : q = j := by omega
          rw [HDJ.out] at hm'
          cases hm'
          exact hat, HB.out⟩
         case measure => simp [intOf]; omega
       by_cases hL : (j : Int) = x.lost
       . have hL1 : ((j : Int) == x.lost) = true := by simpa using hL
         have hL2 : ((j : Int) != x.lost) = false := by simpa using hL
         have HL := hidden hL
         clear hL
         go_wp2_with fail
         generalize wr.alloc (.cells #[.slice a0 ss.length c0, .slice a1 cs.length c1, .bool true, .slice a3 bs.length c3] 75) = w1 at X1 Y1 R0 R1 R3 B1 y0 y1 y2 y3 e1 e2 e4 e12 zy zx ⊢
         refine wp_region_held_drew (S := fun w' => w'.cell? ⟨wr.heap.size, 0, none⟩ = some (.slice a0 ss.length c0) /\ w'.cell? ⟨wr.heap.size, 1, none⟩ = some (.slice a1 cs.length c1) /\ w'.cell? ⟨wr.heap.size, 2, none⟩ = some (.bool true) /\ w'.cell? ⟨wr.heap.size, 3, none⟩ = some (.slice a3 bs.length c3) /\ w'.cell? ⟨w.heap.size, 1, none⟩ = some (.int .i64 x.n) /\ w'.cell? ⟨w.heap.size, 2, none⟩ = some (.int .i64 x.s)) (by kernel_rfl) ?_ (fun hHeld => ?_)
         . exact ⟨y0, y1, y2, y3, e1, e2⟩
         refine held_t 0 hHeld ?_
         refine held_one (i := 1) (by kernel_rfl) rfl (by kernel_rfl) (fun K hK => ?_)
         go_simp
         refine (implMemOk_any _ E _ _ _ _ _ _ _ _ _ ss cs true bs R0.drew R1.drew R3.drew hwm).mono ?_
         rintro e w2 ⟨rfl, b2⟩
         rw [hM]
         have b2' : Below w1.heap.size w1 w2 := (Below.refl w1.heap.size w1).drew.trans b2
         clear b2
         go_wp2_with fail
         clear hHeld
         refine hK.out _ _ ?_ (fun hHeld => ?_)
         . exact ⟨(b2'.cell (p := ⟨wr.heap.size, 0, none⟩) zy).trans y0, (b2'.cell (p := ⟨wr.heap.size, 1, none⟩) zy).trans y1, (b2'.cell (p := ⟨wr.heap.size, 2, none⟩) zy).trans y2, (b2'.cell (p := ⟨wr.heap.size, 3, none⟩) zy).trans y3, (b2'.cell (p := ⟨w.heap.size, 1, none⟩) zx).trans e1, (b2'.cell (p := ⟨w.heap.size, 2, none⟩) zx).trans e2⟩
         clear hK K
         refine held_t 2 hHeld ?_
         refine held_t 3 hHeld ?_
         refine held_t 4 hHeld ?_
         refine held_t 5 hHeld ?_
         refine held_t 6 hHeld ?_
         refine held_t 7 hHeld ?_
         refine held_t 8 hHeld ?_
         refine held_one (i := 9) (by kernel_rfl) rfl (by kernel_rfl) (fun K hK => ?_)
         go_simp
         refine (sectorsOf_any _ x.n x.s ⟨g3, g4⟩).mono ?_
         rintro e w3 ⟨rfl, b3⟩
         have b3' : Below w1.heap.size w1 w3 := Below.andThen b2' b3
         clear b3
         go_wp2_with fail
         clear hHeld
         refine hK.out _ _ ?_ (fun hHeld => ?_)
         . exact ⟨(b3'.cell (p := ⟨wr.heap.size, 0, none⟩) zy).trans y0, (b3'.cell (p := ⟨wr.heap.size, 1, none⟩) zy).trans y1, (b3'.cell (p := ⟨wr.heap.size, 2, none⟩) zy).trans y2, (b3'.cell (p := ⟨wr.heap.size, 3, none⟩) zy).trans y3, (b3'.cell (p := ⟨w.heap.size, 1, none⟩) zx).trans e1, (b3'.cell (p := ⟨w.heap.size, 2, none⟩) zx).trans e2⟩
         clear hK K
         refine held_t 10 hHeld ?_
         refine held_t 11 hHeld ?_
         refine wpAnyH_done (by kernel_rfl) ?_ _
         clear hHeld
         have n0 := (b3'.cell (p := ⟨w.heap.size, 4, none⟩) zx).trans e4
         have n1 := (b3'.cell (p := ⟨w.heap.size, 12, none⟩) zx).trans e12
         have n2 := (b3'.cell (p := ⟨wr.heap.size, 2, none⟩) zy).trans y2
         have HB := hidden (B1.trans (b3'.mono B1.size))
         have hat : memAt x j (ss, cs, true, bs) = true := (by unfold memAt; simp [hM, HS.out, HL.out])
         go_wp2
         go_roundw
         case rel => exact ⟨j + 1, by omega, by go_num, fun q m hq hm' => by
          rcases Nat.lt_or_ge q j with h | h
          . exact hall q m h hm'
          obtain rfl : q = j := by omega
          rw [HDJ.out] at hm'
          cases hm'
          exact hat, HB.out⟩
         case measure => simp [intOf]; omega
       have hL1 : ((j : Int) == x.lost) = false := by simpa using hL
       have hL2 : ((j : Int) != x.lost) = true := by simpa using hL
       have HL := hidden hL
       clear hL
       cases hBr : x.broken
       . rw [hBr] at e12
         go_wp2_with fail
         generalize wr.alloc (.cells #[.slice a0 ss.length c0, .slice a1 cs.length c1, .bool true, .slice a3 bs.length c3] 75) = w1 at X1 Y1 R0 R1 R3 B1 y0 y1 y2 y3 e1 e2 e4 e12 zy zx ⊢
         refine wp_region_held_drew (S := fun w' => w'.cell? ⟨wr.heap.size, 0, none⟩ = some (.slice a0 ss.length c0) /\ w'.cell? ⟨wr.heap.size, 1, none⟩ = some (.slice a1 cs.length c1) /\ w'.cell? ⟨wr.heap.size, 2, none⟩ = some (.bool true) /\ w'.cell? ⟨wr.heap.size, 3, none⟩ = some (.slice a3 bs.length c3) /\ w'.cell? ⟨w.heap.size, 1, none⟩ = some (.int .i64 x.n) /\ w'.cell? ⟨w.heap.size, 2, none⟩ = some (.int .i64 x.s)) (by kernel_rfl) ?_ (fun hHeld => ?_)
         . exact ⟨y0, y1, y2, y3, e1, e2⟩
         refine held_t 0 hHeld ?_
         refine held_one (i := 1) (by kernel_rfl) rfl (by kernel_rfl) (fun K hK => ?_)
         go_simp
         refine (implMemOk_any _ E _ _ _ _ _ _ _ _ _ ss cs true bs R0.drew R1.drew R3.drew hwm).mono ?_
         rintro e w2 ⟨rfl, b2⟩
         rw [hM]
         have b2' : Below w1.heap.size w1 w2 := (Below.refl w1.heap.size w1).drew.trans b2
         clear b2
         go_wp2_with fail
         clear hHeld
         refine hK.out _ _ ?_ (fun hHeld => ?_)
         . exact ⟨(b2'.cell (p := ⟨wr.heap.size, 0, none⟩) zy).trans y0, (b2'.cell (p := ⟨wr.heap.size, 1, none⟩) zy).trans y1, (b2'.cell (p := ⟨wr.heap.size, 2, none⟩) zy).trans y2, (b2'.cell (p := ⟨wr.heap.size, 3, none⟩) zy).trans y3, (b2'.cell (p := ⟨w.heap.size, 1, none⟩) zx).trans e1, (b2'.cell (p := ⟨w.heap.size, 2, none⟩) zx).trans e2⟩
         clear hK K
         refine held_t 2 hHeld ?_
         refine held_t 3 hHeld ?_
         refine held_t 4 hHeld ?_
         refine held_t 5 hHeld ?_
         refine held_t 6 hHeld ?_
         refine held_t 7 hHeld ?_
         refine held_t 8 hHeld ?_
         refine held_one (i := 9) (by kernel_rfl) rfl (by kernel_rfl) (fun K hK => ?_)
         go_simp
         refine (sectorsOf_any _ x.n x.s ⟨g3, g4⟩).mono ?_
         rintro e w3 ⟨rfl, b3⟩
         have b3' : Below w1.heap.size w1 w3 := Below.andThen b2' b3
         clear b3
         go_wp2_with fail
         clear hHeld
         refine hK.out _ _ ?_ (fun hHeld => ?_)
         . exact ⟨(b3'.cell (p := ⟨wr.heap.size, 0, none⟩) zy).trans y0, (b3'.cell (p := ⟨wr.heap.size, 1, none⟩) zy).trans y1, (b3'.cell (p := ⟨wr.heap.size, 2, none⟩) zy).trans y2, (b3'.cell (p := ⟨wr.heap.size, 3, none⟩) zy).trans y3, (b3'.cell (p := ⟨w.heap.size, 1, none⟩) zx).trans e1, (b3'.cell (p := ⟨w.heap.size, 2, none⟩) zx).trans e2⟩
         clear hK K
         refine held_t 10 hHeld ?_
         refine held_t 11 hHeld ?_
         refine wpAnyH_done (by kernel_rfl) ?_ _
         clear hHeld
         have n0 := (b3'.cell (p := ⟨w.heap.size, 4, none⟩) zx).trans e4
         have n1 := (b3'.cell (p := ⟨w.heap.size, 12, none⟩) zx).trans e12
         have n2 := (b3'.cell (p := ⟨wr.heap.size, 2, none⟩) zy).trans y2
         have HB := hidden (hA.trans ((B1.trans (b3'.mono B1.size)).mono hA.size))
         go_wp2
         go_ret
         exact ⟨ret_bool (by rw [show memsB x ms = false from (by unfold memsB; rw [allIx_no HDJ.out (by unfold memAt; simp [HL.out, hBr])]; rfl)]), HB.out⟩
       rw [hBr] at e12
       go_wp2_with fail
       generalize wr.alloc (.cells #[.slice a0 ss.length c0, .slice a1 cs.length c1, .bool true, .slice a3 bs.length c3] 75) = w1 at X1 Y1 R0 R1 R3 B1 y0 y1 y2 y3 e1 e2 e4 e12 zy zx ⊢
       refine wp_region_held_drew (S := fun w' => w'.cell? ⟨wr.heap.size, 0, none⟩ = some (.slice a0 ss.length c0) /\ w'.cell? ⟨wr.heap.size, 1, none⟩ = some (.slice a1 cs.length c1) /\ w'.cell? ⟨wr.heap.size, 2, none⟩ = some (.bool true) /\ w'.cell? ⟨wr.heap.size, 3, none⟩ = some (.slice a3 bs.length c3) /\ w'.cell? ⟨w.heap.size, 1, none⟩ = some (.int .i64 x.n) /\ w'.cell? ⟨w.heap.size, 2, none⟩ = some (.int .i64 x.s)) (by kernel_rfl) ?_ (fun hHeld => ?_)
       . exact ⟨y0, y1, y2, y3, e1, e2⟩
       refine held_t 0 hHeld ?_
       refine held_one (i := 1) (by kernel_rfl) rfl (by kernel_rfl) (fun K hK => ?_)
       go_simp
       refine (implMemOk_any _ E _ _ _ _ _ _ _ _ _ ss cs true bs R0.drew R1.drew R3.drew hwm).mono ?_
       rintro e w2 ⟨rfl, b2⟩
       rw [hM]
       have b2' : Below w1.heap.size w1 w2 := (Below.refl w1.heap.size w1).drew.trans b2
       clear b2
       go_wp2_with fail
       clear hHeld
       refine hK.out _ _ ?_ (fun hHeld => ?_)
       . exact ⟨(b2'.cell (p := ⟨wr.heap.size, 0, none⟩) zy).trans y0, (b2'.cell (p := ⟨wr.heap.size, 1, none⟩) zy).trans y1, (b2'.cell (p := ⟨wr.heap.size, 2, none⟩) zy).trans y2, (b2'.cell (p := ⟨wr.heap.size, 3, none⟩) zy).trans y3, (b2'.cell (p := ⟨w.heap.size, 1, none⟩) zx).trans e1, (b2'.cell (p := ⟨w.heap.size, 2, none⟩) zx).trans e2⟩
       clear hK K
       refine held_t 2 hHeld ?_
       refine held_t 3 hHeld ?_
       refine held_t 4 hHeld ?_
       refine held_t 5 hHeld ?_
       refine held_t 6 hHeld ?_
       refine held_t 7 hHeld ?_
       refine held_t 8 hHeld ?_
       refine held_one (i := 9) (by kernel_rfl) rfl (by kernel_rfl) (fun K hK => ?_)
       go_simp
       refine (sectorsOf_any _ x.n x.s ⟨g3, g4⟩).mono ?_
       rintro e w3 ⟨rfl, b3⟩
       have b3' : Below w1.heap.size w1 w3 := Below.andThen b2' b3
       clear b3
       go_wp2_with fail
       clear hHeld
       refine hK.out _ _ ?_ (fun hHeld => ?_)
       . exact ⟨(b3'.cell (p := ⟨wr.heap.size, 0, none⟩) zy).trans y0, (b3'.cell (p := ⟨wr.heap.size, 1, none⟩) zy).trans y1, (b3'.cell (p := ⟨wr.heap.size, 2, none⟩) zy).trans y2, (b3'.cell (p := ⟨wr.heap.size, 3, none⟩) zy).trans y3, (b3'.cell (p := ⟨w.heap.size, 1, none⟩) zx).trans e1, (b3'.cell (p := ⟨w.heap.size, 2, none⟩) zx).trans e2⟩
       clear hK K
       refine held_t 10 hHeld ?_
       refine held_t 11 hHeld ?_
       refine wpAnyH_done (by kernel_rfl) ?_ _
       clear hHeld
       have n0 := (b3'.cell (p := ⟨w.heap.size, 4, none⟩) zx).trans e4
       have n1 := (b3'.cell (p := ⟨w.heap.size, 12, none⟩) zx).trans e12
       have n2 := (b3'.cell (p := ⟨wr.heap.size, 2, none⟩) zy).trans y2
       have HB := hidden (B1.trans (b3'.mono B1.size))
       have hat : memAt x j (ss, cs, true, bs) = true := (by unfold memAt; simp [hM, HS.out, hBr])
       go_wp2
       go_roundw
       case rel => exact ⟨j + 1, by omega, by go_num, fun q m hq hm' => by
        rcases Nat.lt_or_ge q j with h | h
        . exact hall q m h hm'
        obtain rfl : q = j := by omega
        rw [HDJ.out] at hm'
        cases hm'
        exact hat, HB.out⟩
       case measure => simp [intOf]; omega
     have hS1 : ((ss.length : Int) == 6 + x.s) = false := by simpa using hS
     have hS2 : ((ss.length : Int) != 6 + x.s) = true := by simpa using hS
     have HS := hidden hS
     clear hS
     go_wp2_with fail
     generalize wr.alloc (.cells #[.slice a0 ss.length c0, .slice a1 cs.length c1, .bool f, .slice a3 bs.length c3] 75) = w1 at X1 Y1 R0 R1 R3 B1 y0 y1 y2 y3 e1 e2 e4 e12 zy zx ⊢
     refine wp_region_held_drew (S := fun w' => w'.cell? ⟨wr.heap.size, 0, none⟩ = some (.slice a0 ss.length c0) /\ w'.cell? ⟨wr.heap.size, 1, none⟩ = some (.slice a1 cs.length c1) /\ w'.cell? ⟨wr.heap.size, 2, none⟩ = some (.bool f) /\ w'.cell? ⟨wr.heap.size, 3, none⟩ = some (.slice a3 bs.length c3) /\ w'.cell? ⟨w.heap.size, 1, none⟩ = some (.int .i64 x.n) /\ w'.cell? ⟨w.heap.size, 2, none⟩ = some (.int .i64 x.s)) (by kernel_rfl) ?_ (fun hHeld => ?_)
     . exact ⟨y0, y1, y2, y3, e1, e2⟩
     refine held_t 0 hHeld ?_
     refine held_one (i := 1) (by kernel_rfl) rfl (by kernel_rfl) (fun K hK => ?_)
     go_simp
     refine (implMemOk_any _ E _ _ _ _ _ _ _ _ _ ss cs f bs R0.drew R1.drew R3.drew hwm).mono ?_
     rintro e w2 ⟨rfl, b2⟩
     rw [hM]
     have b2' : Below w1.heap.size w1 w2 := (Below.refl w1.heap.size w1).drew.trans b2
     clear b2
     go_wp2_with fail
     clear hHeld
     refine hK.out _ _ ?_ (fun hHeld => ?_)
     . exact ⟨(b2'.cell (p := ⟨wr.heap.size, 0, none⟩) zy).trans y0, (b2'.cell (p := ⟨wr.heap.size, 1, none⟩) zy).trans y1, (b2'.cell (p := ⟨wr.heap.size, 2, none⟩) zy).trans y2, (b2'.cell (p := ⟨wr.heap.size, 3, none⟩) zy).trans y3, (b2'.cell (p := ⟨w.heap.size, 1, none⟩) zx).trans e1, (b2'.cell (p := ⟨w.heap.size, 2, none⟩) zx).trans e2⟩
     clear hK K
     refine held_t 2 hHeld ?_
     refine held_t 3 hHeld ?_
     refine held_t 4 hHeld ?_
     refine held_t 5 hHeld ?_
     refine held_t 6 hHeld ?_
     refine held_t 7 hHeld ?_
     refine held_t 8 hHeld ?_
     refine held_one (i := 9) (by kernel_rfl) rfl (by kernel_rfl) (fun K hK => ?_)
     go_simp
     refine (sectorsOf_any _ x.n x.s ⟨g3, g4⟩).mono ?_
     rintro e w3 ⟨rfl, b3⟩
     have b3' : Below w1.heap.size w1 w3 := Below.andThen b2' b3
     clear b3
     go_wp2_with fail
     clear hHeld
     refine hK.out _ _ ?_ (fun hHeld => ?_)
     . exact ⟨(b3'.cell (p := ⟨wr.heap.size, 0, none⟩) zy).trans y0, (b3'.cell (p := ⟨wr.heap.size, 1, none⟩) zy).trans y1, (b3'.cell (p := ⟨wr.heap.size, 2, none⟩) zy).trans y2, (b3'.cell (p := ⟨wr.heap.size, 3, none⟩) zy).trans y3, (b3'.cell (p := ⟨w.heap.size, 1, none⟩) zx).trans e1, (b3'.cell (p := ⟨w.heap.size, 2, none⟩) zx).trans e2⟩
     clear hK K
     refine held_t 10 hHeld ?_
     refine held_t 11 hHeld ?_
     refine wpAnyH_done (by kernel_rfl) ?_ _
     clear hHeld
     have n0 := (b3'.cell (p := ⟨w.heap.size, 4, none⟩) zx).trans e4
     have n1 := (b3'.cell (p := ⟨w.heap.size, 12, none⟩) zx).trans e12
     have n2 := (b3'.cell (p := ⟨wr.heap.size, 2, none⟩) zy).trans y2
     have HB := hidden (hA.trans ((B1.trans (b3'.mono B1.size)).mono hA.size))
     go_wp2
     go_ret
     exact ⟨ret_bool (by rw [show memsB x ms = false from (by unfold memsB; rw [allIx_no HDJ.out (by unfold memAt; simp [HS.out])]; rfl)]), HB.out⟩
   have e : j = nm := by omega
   subst e
   have hAll : allIx (memAt x) ms = true := allIx_iff.2 (fun q m hq => hall q m (by have := (List.getElem?_eq_some_iff.1 hq).1; omega) hq)
   have HB := hidden (hA.trans (hb.mono hA.size))
   have hR : memsB x ms = true := by unfold memsB; rw [hAll, hl]; simpa using HN.out
   go_wp2
   go_ret
   exact ⟨ret_bool hR.symm, HB.out⟩
 have hN1 : ((nm : Int) == x.n) = false := by simpa using hN
 have hN2 : ((nm : Int) != x.n) = true := by simpa using hN
 have hR : memsB x ms = false := by unfold memsB; rw [hl]; simp [hN]
 have HR := hidden hR
 clear hN hR
 go_enter Try.func72, Try.ntmps72
 go_wp2
 go_ret
 exact ⟨ret_bool HR.out.symm, hA⟩

theorem perStripe_any (w : World) (n s : Int) (h1 : 3 <= n) (h2 : n <= 5) : Calls Try.prog 77 #[.agg #[.int .i64 n, .int .i64 s]] w fun e w' => e = .returned (.int .i64 (n - 1)) /\ Below w.heap.size w w' := by
 have hA := new_below w (.cells #[.int .i64 n, .int .i64 s] 31)
 obtain ⟨k0, k1⟩ := (Gbox.new w 31 n s).cells
 go_enter Try.func77, Try.ntmps77
 go_wp2
 go_ret
 exact ⟨ret_int (by first | rfl | omega), hA⟩

theorem stripeB_of {n s t : Int} : stripeB n s t = true ↔ geoB n s = true /\ 0 <= t /\ t < s := by unfold stripeB; rw [Bool.and_eq_true, inB_iff]; constructor <;> (rintro ⟨a, b⟩; exact ⟨a, by omega⟩)
theorem stripeB_not {n s t : Int} : stripeB n s t = false ↔ ¬ (geoB n s = true /\ 0 <= t /\ t < s) := by rw [← stripeB_of]; simp

theorem hasStripe_any (w : World) (n s t : Int) : Calls Try.prog 34 #[.agg #[.int .i64 n, .int .i64 s], .int .i64 t] w fun e w' => e = .returned (.bool (stripeB n s t)) /\ Below w.heap.size w w' := by
 have hA := new_below w (.cells #[.int .i64 n, .int .i64 s] 31)
 have X := Gbox.new w 31 n s
 obtain ⟨k0, k1⟩ := X.cells
 have zA := X.lt
 go_enter Try.func34, Try.ntmps34
 go_wp2_with fail
 refine (implGeoOk_any _ _ _).mono ?_
 rintro e w1 ⟨rfl, b1⟩
 have X1 := X.below b1 zA
 obtain ⟨p0, p1⟩ := X1.cells
 have B1 := Below.andThen hA b1
 clear k0 k1 X b1 hA zA
 by_cases hg : geoB n s = true
 . by_cases h1 : 0 <= t
   . by_cases h2 : t < s
     . go_wp2
       go_ret
       exact ⟨ret_bool (by symm; rw [stripeB_of]; exact ⟨hg, h1, h2⟩), B1⟩
     go_wp2
     go_ret
     exact ⟨ret_bool (by first | (exact (stripeB_not.2 (by omega)).symm) | (rw [stripeB_not.2 (by omega)]; simp; omega)), B1⟩
   go_wp2
   go_ret
   exact ⟨ret_bool (by first | (exact (stripeB_not.2 (by omega)).symm) | (rw [stripeB_not.2 (by omega)]; simp; omega)), B1⟩
 have hg : geoB n s = false := by simpa using hg
 go_wp2
 go_ret
 exact ⟨ret_bool (by symm; rw [stripeB_not]; simp [hg]), B1⟩

theorem dirtyOk_any (w : World) (G : TypeId) (x : ArrN) (am ad : Option Addr) (nm cm nd cd : Nat) (ds : List (Int × List Int)) (h0 : (tWrS G).Rd w [.slice ad nd cd] ds) (hw : wtWrS ds <= 2097152) (hg : geoB x.n x.s = true) :
 Calls Try.prog 74 #[.agg #[.int .i64 x.id, .int .i64 x.n, .int .i64 x.s, .slice am nm cm, .int .i64 x.lost, .int .i64 x.built, .int .i64 x.seq, .int .i64 x.tail, .int .i64 x.gen, .slice ad nd cd, .int .i64 x.fuse, .bool x.down, .bool x.broken]] w fun e w' => e = .returned (.bool (entsB x ds)) /\ Below w.heap.size w w' := by
 obtain ⟨hl, hc, hm⟩ := row_length h0
 obtain ⟨g1, g2, g3, g4⟩ := geoB_iff.1 hg
 have hA := new_below w (.cells #[.int .i64 x.id, .int .i64 x.n, .int .i64 x.s, .slice am nm cm, .int .i64 x.lost, .int .i64 x.built, .int .i64 x.seq, .int .i64 x.tail, .int .i64 x.gen, .slice ad nd cd, .int .i64 x.fuse, .bool x.down, .bool x.broken] 35)
 have X := Box.new w 35 #[.int .i64 x.id, .int .i64 x.n, .int .i64 x.s, .slice am nm cm, .int .i64 x.lost, .int .i64 x.built, .int .i64 x.seq, .int .i64 x.tail, .int .i64 x.gen, .slice ad nd cd, .int .i64 x.fuse, .bool x.down, .bool x.broken]
 have zA := X.lt
 have hnd : nd <= 2097152 := by unfold wtWrS at hw; omega
 have h1 := h0.below hA
 obtain ⟨k0, k1, k2, k3, k4, k5, k6, k7, k8, k9, k10, k11, k12⟩ := X.cells13
 go_enter Try.func74, Try.ntmps74
 go_wp2
 generalize w.alloc (.cells #[.int .i64 x.id, .int .i64 x.n, .int .i64 x.s, .slice am nm cm, .int .i64 x.lost, .int .i64 x.built, .int .i64 x.seq, .int .i64 x.tail, .int .i64 x.gen, .slice ad nd cd, .int .i64 x.fuse, .bool x.down, .bool x.broken] 35) = W at hA X zA h1 k0 k1 k2 k3 k4 k5 k6 k7 k8 k9 k10 k11 k12 ⊢
 clear k0 k1 k2 k3 k4 k5 k6 k7 k8 k9 k10 k11 k12
 go_loopw [8] (fun i wr => ∃ j : Nat, j <= nd /\ i = .int .i64 j /\ (∀ (q : Nat) (d : Int × List Int), q < j -> ds[q]? = some d -> entAt x ds q d = true) /\ Below W.heap.size W wr) (fun i _ => nd - (intOf i).toNat)
 case atStart => exact ⟨0, Nat.zero_le _, rfl, fun q d hq => by omega, Below.refl _ _⟩
 obtain ⟨j, hj, rfl, hall, hb⟩ := hrel
 have Xr := X.below hb zA
 by_cases hjn : j < nd
 . rcases pairs_at rfl h1 with h0' | ⟨b, off, rfl, hbl, hcs⟩
   . omega
   have hdj : ds[j]? = some (ds[j]'(by omega)) := List.getElem?_eq_getElem (by omega)
   generalize ds[j]'(by omega) = d at hdj
   obtain ⟨v0, v1, hv0, hv1, hrv⟩ := hcs j d hdj
   obtain ⟨rfl, hrw⟩ := wr_rd hrv
   obtain ⟨av, cv, rfl⟩ := row_shape hrw
   obtain ⟨y, zs⟩ := d
   simp only at hv0 hv1 hrw hrv
   have u0 := (hb.cell (p := ⟨b, off + j * 2, none⟩) hbl).trans hv0
   have u1 := (hb.cell (p := ⟨b, off + j * 2 + 1, none⟩) hbl).trans hv1
   have i1 : (0 : Int) <= (j : Int) := by omega
   have i2 : (j : Int) < (nd : Int) := by omega
   have hwz : zs.length <= 2097152 := Nat.le_trans (inner_le' hdj) hw
   have HDJ := hidden hdj
   have b1 := new_below wr (.cells #[.int .i64 y, .slice av zs.length cv] 89)
   have Y1 := Box.new wr 89 #[.int .i64 y, .slice av zs.length cv]
   have X1 := Xr.below b1 Xr.lt
   have RZ := (hrw.below hb).below b1
   have B1 := hb.trans (b1.mono hb.size)
   obtain ⟨y0, y1⟩ := Y1.cells2
   obtain ⟨e0, e1, e2, e3, e4, e5, e6, e7, e8, e9, e10, e11, e12⟩ := X1.cells13
   have zy := Y1.lt
   have zx := X1.lt
   have zb : b < (wr.alloc (.cells #[.int .i64 y, .slice av zs.length cv] 89)).heap.size := Nat.lt_of_lt_of_le hbl B1.size
   have hq : ∀ (p : Nat) (q : Int × List Int), ds[p]? = some q -> (wr.alloc (.cells #[.int .i64 y, .slice av zs.length cv] 89)).cell? ⟨b, off + p * 2, none⟩ = some (.int .i64 q.1) := fun p q hpq => by
    obtain ⟨c0, c1, hc0, hc1, hrc⟩ := hcs p q hpq
    obtain ⟨rfl, _⟩ := wr_rd hrc
    exact (B1.cell (p := ⟨b, off + p * 2, none⟩) hbl).trans hc0
   have HQ := hidden hq
   clear hcs hv0 hv1 hrv hrw hdj hq b1 e0 e3 e4 e5 e6 e7 e8 e10 e11 e12
   cases hI : stripeB x.n x.s y
   . skip
     go_wp2_with fail
     generalize wr.alloc (.cells #[.int .i64 y, .slice av zs.length cv] 89) = w1 at X1 Y1 RZ B1 y0 y1 e1 e2 e9 zy zx zb HQ  ⊢
     refine wp_region_held_drew (S := fun w' => w'.cell? ⟨wr.heap.size, 0, none⟩ = some (.int .i64 y) /\ w'.cell? ⟨w.heap.size, 1, none⟩ = some (.int .i64 x.n) /\ w'.cell? ⟨w.heap.size, 2, none⟩ = some (.int .i64 x.s) /\ w'.cell? ⟨w.heap.size, 9, none⟩ = some (.slice (some ⟨b, off, none⟩) nd cd)) (by kernel_rfl) ?_ (fun hHeld => ?_)
     . exact ⟨y0, e1, e2, e9⟩
     refine held_t 0 hHeld ?_
     refine held_t 1 hHeld ?_
     refine held_t 2 hHeld ?_
     refine held_t 3 hHeld ?_
     refine held_one (i := 4) (by kernel_rfl) rfl (by kernel_rfl) (fun K hK => ?_)
     go_simp
     refine (hasStripe_any _ x.n x.s y).mono ?_
     rintro e w2 ⟨rfl, b2⟩
     have b2' : Below w1.heap.size w1 w2 := (Below.refl w1.heap.size w1).drew.trans b2
     clear b2
     rw [hI]
     go_wp2_with fail
     clear hHeld
     refine hK.out _ _ ?_ (fun hHeld => ?_)
     . exact ⟨(b2'.cell (p := ⟨wr.heap.size, 0, none⟩) zy).trans y0, (b2'.cell (p := ⟨w.heap.size, 1, none⟩) zx).trans e1, (b2'.cell (p := ⟨w.heap.size, 2, none⟩) zx).trans e2, (b2'.cell (p := ⟨w.heap.size, 9, none⟩) zx).trans e9⟩
     clear hK K
     refine held_t 5 hHeld ?_
     refine held_t 6 hHeld ?_
     refine held_p 7 hHeld ?_
     refine held_p 8 hHeld ?_
     refine held_p 9 hHeld ?_
     refine held_p 10 hHeld ?_
     refine held_p 11 hHeld ?_
     refine held_p 12 hHeld ?_
     refine held_p 13 hHeld ?_
     refine held_p 14 hHeld ?_
     refine held_p 15 hHeld ?_
     refine held_p 16 hHeld ?_
     refine held_p 17 hHeld ?_
     refine held_p 18 hHeld ?_
     refine held_p 19 hHeld ?_
     refine held_p 20 hHeld ?_
     refine held_t 21 hHeld ?_
     refine wpAnyH_done (by kernel_rfl) ?_ _
     clear hHeld
     have HB := hidden (hA.trans ((B1.trans (b2'.mono B1.size)).mono hA.size))
     have HE := hidden (entsB_no (x := x) HDJ.out (entAt_1 (by rw [← stripe_in6 hg]; exact hI)))
     go_wp2
     go_ret
     exact ⟨ret_bool HE.out.symm, HB.out⟩
   have HI := hidden ((stripe_in6 hg).symm.trans hI)
   by_cases hj0 : j = 0
   . subst hj0
     simp only [Nat.zero_mul, Nat.add_zero] at u0 u1
     by_cases hL : (zs.length : Int) = x.n - 1
     . have hL1 : ((zs.length : Int) == x.n - 1) = true := by simpa using hL
       have hL2 : ((zs.length : Int) != x.n - 1) = false := by simpa using hL
       have HL := hidden hL
       have hsa : secB zs = allW zs := sec_all6 (by omega)
       have HSA := hidden hsa
       clear hL hsa
       cases hZ : secB zs
       . have HZ := hidden (HSA.out.symm.trans hZ)
         go_wp2_with fail
         generalize wr.alloc (.cells #[.int .i64 y, .slice av zs.length cv] 89) = w1 at X1 Y1 RZ B1 y0 y1 e1 e2 e9 zy zx zb HQ  ⊢
         refine wp_region_held_drew (S := fun w' => w'.cell? ⟨wr.heap.size, 0, none⟩ = some (.int .i64 y) /\ w'.cell? ⟨w.heap.size, 1, none⟩ = some (.int .i64 x.n) /\ w'.cell? ⟨w.heap.size, 2, none⟩ = some (.int .i64 x.s) /\ w'.cell? ⟨w.heap.size, 9, none⟩ = some (.slice (some ⟨b, off, none⟩) nd cd)) (by kernel_rfl) ?_ (fun hHeld => ?_)
         . exact ⟨y0, e1, e2, e9⟩
         refine held_t 0 hHeld ?_
         refine held_t 1 hHeld ?_
         refine held_t 2 hHeld ?_
         refine held_t 3 hHeld ?_
         refine held_one (i := 4) (by kernel_rfl) rfl (by kernel_rfl) (fun K hK => ?_)
         go_simp
         refine (hasStripe_any _ x.n x.s y).mono ?_
         rintro e w2 ⟨rfl, b2⟩
         have b2' : Below w1.heap.size w1 w2 := (Below.refl w1.heap.size w1).drew.trans b2
         clear b2
         rw [hI]
         go_wp2_with fail
         clear hHeld
         refine hK.out _ _ ?_ (fun hHeld => ?_)
         . exact ⟨(b2'.cell (p := ⟨wr.heap.size, 0, none⟩) zy).trans y0, (b2'.cell (p := ⟨w.heap.size, 1, none⟩) zx).trans e1, (b2'.cell (p := ⟨w.heap.size, 2, none⟩) zx).trans e2, (b2'.cell (p := ⟨w.heap.size, 9, none⟩) zx).trans e9⟩
         clear hK K
         refine held_t 5 hHeld ?_
         refine held_t 6 hHeld ?_
         refine held_t 7 hHeld ?_
         refine held_t 8 hHeld ?_
         refine held_t 9 hHeld ?_
         refine held_p 10 hHeld ?_
         refine held_p 11 hHeld ?_
         refine held_p 12 hHeld ?_
         refine held_p 13 hHeld ?_
         refine held_p 14 hHeld ?_
         refine held_p 15 hHeld ?_
         refine held_p 16 hHeld ?_
         refine held_p 17 hHeld ?_
         refine held_p 18 hHeld ?_
         refine held_p 19 hHeld ?_
         refine held_t 20 hHeld ?_
         refine held_t 21 hHeld ?_
         refine wpAnyH_done (by kernel_rfl) ?_ _
         clear hHeld
         have my1 := (b2'.cell (p := ⟨wr.heap.size, 1, none⟩) zy).trans y1
         have me1 := (b2'.cell (p := ⟨w.heap.size, 1, none⟩) zx).trans e1
         have me2 := (b2'.cell (p := ⟨w.heap.size, 2, none⟩) zx).trans e2
         have my := Nat.lt_of_lt_of_le zy b2'.size
         have mx := Nat.lt_of_lt_of_le zx b2'.size
         have RZ2 := RZ.below b2'
         go_wp2_with fail
         refine wp_region_held_drew (S := fun w' => w'.cell? ⟨wr.heap.size, 1, none⟩ = some (.slice av zs.length cv) /\ w'.cell? ⟨w.heap.size, 1, none⟩ = some (.int .i64 x.n) /\ w'.cell? ⟨w.heap.size, 2, none⟩ = some (.int .i64 x.s)) (by kernel_rfl) ?_ (fun hHeld => ?_)
         . exact ⟨my1, me1, me2⟩
         refine held_t 0 hHeld ?_
         refine held_t 1 hHeld ?_
         refine held_t 2 hHeld ?_
         refine held_t 3 hHeld ?_
         refine held_t 4 hHeld ?_
         refine held_one (i := 5) (by kernel_rfl) rfl (by kernel_rfl) (fun K hK => ?_)
         go_simp
         refine (perStripe_any _ x.n x.s g1 g2).mono ?_
         rintro e w3 ⟨rfl, b3⟩
         have b3' : Below w2.heap.size w2 w3 := (Below.refl w2.heap.size w2).drew.trans b3
         clear b3
         go_wp2_with fail
         clear hHeld
         refine hK.out _ _ ?_ (fun hHeld => ?_)
         . exact ⟨(b3'.cell (p := ⟨wr.heap.size, 1, none⟩) my).trans my1, (b3'.cell (p := ⟨w.heap.size, 1, none⟩) mx).trans me1, (b3'.cell (p := ⟨w.heap.size, 2, none⟩) mx).trans me2⟩
         clear hK K
         refine held_t 6 hHeld ?_
         refine held_t 7 hHeld ?_
         refine held_t 8 hHeld ?_
         refine held_t 9 hHeld ?_
         refine held_one (i := 10) (by kernel_rfl) rfl (by kernel_rfl) (fun K hK => ?_)
         go_simp
         refine (implSecOk_any _ _ _ _ zs rfl (ints_rd (RZ2.below b3')).1 hwz).mono ?_
         rintro e w4 ⟨rfl, s4⟩
         have b4' : Below w2.heap.size w2 w4 := Below.andThen b3' (s4.below _)
         clear s4
         rw [hZ]
         go_wp2_with fail
         clear hHeld
         refine hK.out _ _ ?_ (fun hHeld => ?_)
         . exact ⟨(b4'.cell (p := ⟨wr.heap.size, 1, none⟩) my).trans my1, (b4'.cell (p := ⟨w.heap.size, 1, none⟩) mx).trans me1, (b4'.cell (p := ⟨w.heap.size, 2, none⟩) mx).trans me2⟩
         clear hK K
         refine held_t 11 hHeld ?_
         refine held_t 12 hHeld ?_
         refine wpAnyH_done (by kernel_rfl) ?_ _
         clear hHeld
         have HB := hidden (hA.trans ((B1.trans ((Below.andThen b2' b4').mono B1.size)).mono hA.size))
         have HE := hidden (entsB_no (x := x) HDJ.out (entAt_3 HZ.out))
         go_wp2
         go_ret
         exact ⟨ret_bool HE.out.symm, HB.out⟩
       have HZ := hidden (HSA.out.symm.trans hZ)
       go_wp2_with fail
       generalize wr.alloc (.cells #[.int .i64 y, .slice av zs.length cv] 89) = w1 at X1 Y1 RZ B1 y0 y1 e1 e2 e9 zy zx zb HQ  ⊢
       refine wp_region_held_drew (S := fun w' => w'.cell? ⟨wr.heap.size, 0, none⟩ = some (.int .i64 y) /\ w'.cell? ⟨w.heap.size, 1, none⟩ = some (.int .i64 x.n) /\ w'.cell? ⟨w.heap.size, 2, none⟩ = some (.int .i64 x.s) /\ w'.cell? ⟨w.heap.size, 9, none⟩ = some (.slice (some ⟨b, off, none⟩) nd cd)) (by kernel_rfl) ?_ (fun hHeld => ?_)
       . exact ⟨y0, e1, e2, e9⟩
       refine held_t 0 hHeld ?_
       refine held_t 1 hHeld ?_
       refine held_t 2 hHeld ?_
       refine held_t 3 hHeld ?_
       refine held_one (i := 4) (by kernel_rfl) rfl (by kernel_rfl) (fun K hK => ?_)
       go_simp
       refine (hasStripe_any _ x.n x.s y).mono ?_
       rintro e w2 ⟨rfl, b2⟩
       have b2' : Below w1.heap.size w1 w2 := (Below.refl w1.heap.size w1).drew.trans b2
       clear b2
       rw [hI]
       go_wp2_with fail
       clear hHeld
       refine hK.out _ _ ?_ (fun hHeld => ?_)
       . exact ⟨(b2'.cell (p := ⟨wr.heap.size, 0, none⟩) zy).trans y0, (b2'.cell (p := ⟨w.heap.size, 1, none⟩) zx).trans e1, (b2'.cell (p := ⟨w.heap.size, 2, none⟩) zx).trans e2, (b2'.cell (p := ⟨w.heap.size, 9, none⟩) zx).trans e9⟩
       clear hK K
       refine held_t 5 hHeld ?_
       refine held_t 6 hHeld ?_
       refine held_t 7 hHeld ?_
       refine held_t 8 hHeld ?_
       refine held_t 9 hHeld ?_
       refine held_p 10 hHeld ?_
       refine held_p 11 hHeld ?_
       refine held_p 12 hHeld ?_
       refine held_p 13 hHeld ?_
       refine held_p 14 hHeld ?_
       refine held_p 15 hHeld ?_
       refine held_p 16 hHeld ?_
       refine held_p 17 hHeld ?_
       refine held_p 18 hHeld ?_
       refine held_p 19 hHeld ?_
       refine held_t 20 hHeld ?_
       refine held_t 21 hHeld ?_
       refine wpAnyH_done (by kernel_rfl) ?_ _
       clear hHeld
       have my1 := (b2'.cell (p := ⟨wr.heap.size, 1, none⟩) zy).trans y1
       have me1 := (b2'.cell (p := ⟨w.heap.size, 1, none⟩) zx).trans e1
       have me2 := (b2'.cell (p := ⟨w.heap.size, 2, none⟩) zx).trans e2
       have my := Nat.lt_of_lt_of_le zy b2'.size
       have mx := Nat.lt_of_lt_of_le zx b2'.size
       have RZ2 := RZ.below b2'
       go_wp2_with fail
       refine wp_region_held_drew (S := fun w' => w'.cell? ⟨wr.heap.size, 1, none⟩ = some (.slice av zs.length cv) /\ w'.cell? ⟨w.heap.size, 1, none⟩ = some (.int .i64 x.n) /\ w'.cell? ⟨w.heap.size, 2, none⟩ = some (.int .i64 x.s)) (by kernel_rfl) ?_ (fun hHeld => ?_)
       . exact ⟨my1, me1, me2⟩
       refine held_t 0 hHeld ?_
       refine held_t 1 hHeld ?_
       refine held_t 2 hHeld ?_
       refine held_t 3 hHeld ?_
       refine held_t 4 hHeld ?_
       refine held_one (i := 5) (by kernel_rfl) rfl (by kernel_rfl) (fun K hK => ?_)
       go_simp
       refine (perStripe_any _ x.n x.s g1 g2).mono ?_
       rintro e w3 ⟨rfl, b3⟩
       have b3' : Below w2.heap.size w2 w3 := (Below.refl w2.heap.size w2).drew.trans b3
       clear b3
       go_wp2_with fail
       clear hHeld
       refine hK.out _ _ ?_ (fun hHeld => ?_)
       . exact ⟨(b3'.cell (p := ⟨wr.heap.size, 1, none⟩) my).trans my1, (b3'.cell (p := ⟨w.heap.size, 1, none⟩) mx).trans me1, (b3'.cell (p := ⟨w.heap.size, 2, none⟩) mx).trans me2⟩
       clear hK K
       refine held_t 6 hHeld ?_
       refine held_t 7 hHeld ?_
       refine held_t 8 hHeld ?_
       refine held_t 9 hHeld ?_
       refine held_one (i := 10) (by kernel_rfl) rfl (by kernel_rfl) (fun K hK => ?_)
       go_simp
       refine (implSecOk_any _ _ _ _ zs rfl (ints_rd (RZ2.below b3')).1 hwz).mono ?_
       rintro e w4 ⟨rfl, s4⟩
       have b4' : Below w2.heap.size w2 w4 := Below.andThen b3' (s4.below _)
       clear s4
       rw [hZ]
       go_wp2_with fail
       clear hHeld
       refine hK.out _ _ ?_ (fun hHeld => ?_)
       . exact ⟨(b4'.cell (p := ⟨wr.heap.size, 1, none⟩) my).trans my1, (b4'.cell (p := ⟨w.heap.size, 1, none⟩) mx).trans me1, (b4'.cell (p := ⟨w.heap.size, 2, none⟩) mx).trans me2⟩
       clear hK K
       refine held_t 11 hHeld ?_
       refine held_t 12 hHeld ?_
       refine wpAnyH_done (by kernel_rfl) ?_ _
       clear hHeld
       have HB := hidden (B1.trans ((Below.andThen b2' b4').mono B1.size))
       have hat : entAt x ds (0) (y, zs) = true := entAt_4 HI.out HL.out HZ.out
       go_wp2
       go_roundw
       case rel => exact ⟨0 + 1, by omega, by go_num, fun q d hq hm' => by
        rcases Nat.lt_or_ge q (0) with h | h
        . exact hall q d h hm'
        obtain rfl : q = 0 := by omega
        rw [HDJ.out] at hm'
        cases hm'
        exact hat, HB.out⟩
       case measure => simp [intOf]; omega
     have hL1 : ((zs.length : Int) == x.n - 1) = false := by simpa using hL
     have hL2 : ((zs.length : Int) != x.n - 1) = true := by simpa using hL
     have HL := hidden hL
     clear hL
     go_wp2_with fail
     generalize wr.alloc (.cells #[.int .i64 y, .slice av zs.length cv] 89) = w1 at X1 Y1 RZ B1 y0 y1 e1 e2 e9 zy zx zb HQ  ⊢
     refine wp_region_held_drew (S := fun w' => w'.cell? ⟨wr.heap.size, 0, none⟩ = some (.int .i64 y) /\ w'.cell? ⟨w.heap.size, 1, none⟩ = some (.int .i64 x.n) /\ w'.cell? ⟨w.heap.size, 2, none⟩ = some (.int .i64 x.s) /\ w'.cell? ⟨w.heap.size, 9, none⟩ = some (.slice (some ⟨b, off, none⟩) nd cd)) (by kernel_rfl) ?_ (fun hHeld => ?_)
     . exact ⟨y0, e1, e2, e9⟩
     refine held_t 0 hHeld ?_
     refine held_t 1 hHeld ?_
     refine held_t 2 hHeld ?_
     refine held_t 3 hHeld ?_
     refine held_one (i := 4) (by kernel_rfl) rfl (by kernel_rfl) (fun K hK => ?_)
     go_simp
     refine (hasStripe_any _ x.n x.s y).mono ?_
     rintro e w2 ⟨rfl, b2⟩
     have b2' : Below w1.heap.size w1 w2 := (Below.refl w1.heap.size w1).drew.trans b2
     clear b2
     rw [hI]
     go_wp2_with fail
     clear hHeld
     refine hK.out _ _ ?_ (fun hHeld => ?_)
     . exact ⟨(b2'.cell (p := ⟨wr.heap.size, 0, none⟩) zy).trans y0, (b2'.cell (p := ⟨w.heap.size, 1, none⟩) zx).trans e1, (b2'.cell (p := ⟨w.heap.size, 2, none⟩) zx).trans e2, (b2'.cell (p := ⟨w.heap.size, 9, none⟩) zx).trans e9⟩
     clear hK K
     refine held_t 5 hHeld ?_
     refine held_t 6 hHeld ?_
     refine held_t 7 hHeld ?_
     refine held_t 8 hHeld ?_
     refine held_t 9 hHeld ?_
     refine held_p 10 hHeld ?_
     refine held_p 11 hHeld ?_
     refine held_p 12 hHeld ?_
     refine held_p 13 hHeld ?_
     refine held_p 14 hHeld ?_
     refine held_p 15 hHeld ?_
     refine held_p 16 hHeld ?_
     refine held_p 17 hHeld ?_
     refine held_p 18 hHeld ?_
     refine held_p 19 hHeld ?_
     refine held_t 20 hHeld ?_
     refine held_t 21 hHeld ?_
     refine wpAnyH_done (by kernel_rfl) ?_ _
     clear hHeld
     have my1 := (b2'.cell (p := ⟨wr.heap.size, 1, none⟩) zy).trans y1
     have me1 := (b2'.cell (p := ⟨w.heap.size, 1, none⟩) zx).trans e1
     have me2 := (b2'.cell (p := ⟨w.heap.size, 2, none⟩) zx).trans e2
     have my := Nat.lt_of_lt_of_le zy b2'.size
     have mx := Nat.lt_of_lt_of_le zx b2'.size
     have RZ2 := RZ.below b2'
     go_wp2_with fail
     refine wp_region_held_drew (S := fun w' => w'.cell? ⟨wr.heap.size, 1, none⟩ = some (.slice av zs.length cv) /\ w'.cell? ⟨w.heap.size, 1, none⟩ = some (.int .i64 x.n) /\ w'.cell? ⟨w.heap.size, 2, none⟩ = some (.int .i64 x.s)) (by kernel_rfl) ?_ (fun hHeld => ?_)
     . exact ⟨my1, me1, me2⟩
     refine held_t 0 hHeld ?_
     refine held_t 1 hHeld ?_
     refine held_t 2 hHeld ?_
     refine held_t 3 hHeld ?_
     refine held_t 4 hHeld ?_
     refine held_one (i := 5) (by kernel_rfl) rfl (by kernel_rfl) (fun K hK => ?_)
     go_simp
     refine (perStripe_any _ x.n x.s g1 g2).mono ?_
     rintro e w3 ⟨rfl, b3⟩
     have b3' : Below w2.heap.size w2 w3 := (Below.refl w2.heap.size w2).drew.trans b3
     clear b3
     go_wp2_with fail
     clear hHeld
     refine hK.out _ _ ?_ (fun hHeld => ?_)
     . exact ⟨(b3'.cell (p := ⟨wr.heap.size, 1, none⟩) my).trans my1, (b3'.cell (p := ⟨w.heap.size, 1, none⟩) mx).trans me1, (b3'.cell (p := ⟨w.heap.size, 2, none⟩) mx).trans me2⟩
     clear hK K
     refine held_t 6 hHeld ?_
     refine held_t 7 hHeld ?_
     refine held_p 8 hHeld ?_
     refine held_p 9 hHeld ?_
     refine held_none (i := 10) (by kernel_rfl) rfl (by kernel_rfl) hHeld ?_
     simp only [Act.put, List.setIfInBounds_toArray, List.set_cons_zero, List.set_cons_succ]
     refine held_p 11 hHeld ?_
     refine held_t 12 hHeld ?_
     refine wpAnyH_done (by kernel_rfl) ?_ _
     clear hHeld
     have HB := hidden (hA.trans ((B1.trans ((Below.andThen b2' b3').mono B1.size)).mono hA.size))
     have HE := hidden (entsB_no (x := x) HDJ.out (entAt_2 HL.out))
     go_wp2
     go_ret
     exact ⟨ret_bool HE.out.symm, HB.out⟩
   obtain ⟨p, rfl⟩ : ∃ p, j = p + 1 := ⟨j - 1, by omega⟩
   have hpq : ds[p]? = some (ds[p]'(by omega)) := List.getElem?_eq_getElem (by omega)
   generalize ds[p]'(by omega) = q at hpq
   have qc := HQ.out p q hpq
   obtain ⟨s, zq⟩ := q
   simp only at qc
   have HPQ := hidden hpq
   clear hpq
   have j1 : IntKind.i64.wrap (((p + 1 : Nat) : Int) - 1) = (p : Int) := by rw [IntWalk.i64_in _ (by omega)]; omega
   have j2 : IntKind.i64.wrap ((p : Int) + 1 - 1) = (p : Int) := by rw [IntWalk.i64_in _ (by omega)]; omega
   have j3 : IntKind.i64.wrap (p : Int) = (p : Int) := IntWalk.i64_in _ (by omega)
   have j4 : (0 : Int) <= (p : Int) := by omega
   have j5 : (p : Int) < (nd : Int) := by omega
   have j6 : (0 : Int) < ((p + 1 : Nat) : Int) := by omega
   by_cases hlt : s < y
   . have hge : ¬ y <= s := by omega
     by_cases hL : (zs.length : Int) = x.n - 1
     . have hL1 : ((zs.length : Int) == x.n - 1) = true := by simpa using hL
       have hL2 : ((zs.length : Int) != x.n - 1) = false := by simpa using hL
       have HL := hidden hL
       have hsa : secB zs = allW zs := sec_all6 (by omega)
       have HSA := hidden hsa
       clear hL hsa
       cases hZ : secB zs
       . have HZ := hidden (HSA.out.symm.trans hZ)
         go_wp2_with fail
         generalize wr.alloc (.cells #[.int .i64 y, .slice av zs.length cv] 89) = w1 at X1 Y1 RZ B1 y0 y1 e1 e2 e9 zy zx zb HQ qc ⊢
         refine wp_region_held_drew (S := fun w' => w'.cell? ⟨wr.heap.size, 0, none⟩ = some (.int .i64 y) /\ w'.cell? ⟨w.heap.size, 1, none⟩ = some (.int .i64 x.n) /\ w'.cell? ⟨w.heap.size, 2, none⟩ = some (.int .i64 x.s) /\ w'.cell? ⟨w.heap.size, 9, none⟩ = some (.slice (some ⟨b, off, none⟩) nd cd) /\ w'.cell? ⟨b, off + p * 2, none⟩ = some (.int .i64 s)) (by kernel_rfl) ?_ (fun hHeld => ?_)
         . exact ⟨y0, e1, e2, e9, qc⟩
         refine held_t 0 hHeld ?_
         refine held_t 1 hHeld ?_
         refine held_t 2 hHeld ?_
         refine held_t 3 hHeld ?_
         refine held_one (i := 4) (by kernel_rfl) rfl (by kernel_rfl) (fun K hK => ?_)
         go_simp
         refine (hasStripe_any _ x.n x.s y).mono ?_
         rintro e w2 ⟨rfl, b2⟩
         have b2' : Below w1.heap.size w1 w2 := (Below.refl w1.heap.size w1).drew.trans b2
         clear b2
         rw [hI]
         go_wp2_with fail
         clear hHeld
         refine hK.out _ _ ?_ (fun hHeld => ?_)
         . exact ⟨(b2'.cell (p := ⟨wr.heap.size, 0, none⟩) zy).trans y0, (b2'.cell (p := ⟨w.heap.size, 1, none⟩) zx).trans e1, (b2'.cell (p := ⟨w.heap.size, 2, none⟩) zx).trans e2, (b2'.cell (p := ⟨w.heap.size, 9, none⟩) zx).trans e9, (b2'.cell (p := ⟨b, off + p * 2, none⟩) zb).trans qc⟩
         clear hK K
         refine held_t 5 hHeld ?_
         refine held_t 6 hHeld ?_
         refine held_t 7 hHeld ?_
         refine held_t 8 hHeld ?_
         refine held_t 9 hHeld ?_
         refine held_t 10 hHeld ?_
         refine held_t 11 hHeld ?_
         refine held_t 12 hHeld ?_
         refine held_t 13 hHeld ?_
         refine held_t 14 hHeld ?_
         refine held_t 15 hHeld ?_
         refine held_t 16 hHeld ?_
         refine held_t 17 hHeld ?_
         refine held_t 18 hHeld ?_
         refine held_t 19 hHeld ?_
         refine held_t 20 hHeld ?_
         refine held_t 21 hHeld ?_
         refine wpAnyH_done (by kernel_rfl) ?_ _
         clear hHeld
         have my1 := (b2'.cell (p := ⟨wr.heap.size, 1, none⟩) zy).trans y1
         have me1 := (b2'.cell (p := ⟨w.heap.size, 1, none⟩) zx).trans e1
         have me2 := (b2'.cell (p := ⟨w.heap.size, 2, none⟩) zx).trans e2
         have my := Nat.lt_of_lt_of_le zy b2'.size
         have mx := Nat.lt_of_lt_of_le zx b2'.size
         have RZ2 := RZ.below b2'
         go_wp2_with fail
         refine wp_region_held_drew (S := fun w' => w'.cell? ⟨wr.heap.size, 1, none⟩ = some (.slice av zs.length cv) /\ w'.cell? ⟨w.heap.size, 1, none⟩ = some (.int .i64 x.n) /\ w'.cell? ⟨w.heap.size, 2, none⟩ = some (.int .i64 x.s)) (by kernel_rfl) ?_ (fun hHeld => ?_)
         . exact ⟨my1, me1, me2⟩
         refine held_t 0 hHeld ?_
         refine held_t 1 hHeld ?_
         refine held_t 2 hHeld ?_
         refine held_t 3 hHeld ?_
         refine held_t 4 hHeld ?_
         refine held_one (i := 5) (by kernel_rfl) rfl (by kernel_rfl) (fun K hK => ?_)
         go_simp
         refine (perStripe_any _ x.n x.s g1 g2).mono ?_
         rintro e w3 ⟨rfl, b3⟩
         have b3' : Below w2.heap.size w2 w3 := (Below.refl w2.heap.size w2).drew.trans b3
         clear b3
         go_wp2_with fail
         clear hHeld
         refine hK.out _ _ ?_ (fun hHeld => ?_)
         . exact ⟨(b3'.cell (p := ⟨wr.heap.size, 1, none⟩) my).trans my1, (b3'.cell (p := ⟨w.heap.size, 1, none⟩) mx).trans me1, (b3'.cell (p := ⟨w.heap.size, 2, none⟩) mx).trans me2⟩
         clear hK K
         refine held_t 6 hHeld ?_
         refine held_t 7 hHeld ?_
         refine held_t 8 hHeld ?_
         refine held_t 9 hHeld ?_
         refine held_one (i := 10) (by kernel_rfl) rfl (by kernel_rfl) (fun K hK => ?_)
         go_simp
         refine (implSecOk_any _ _ _ _ zs rfl (ints_rd (RZ2.below b3')).1 hwz).mono ?_
         rintro e w4 ⟨rfl, s4⟩
         have b4' : Below w2.heap.size w2 w4 := Below.andThen b3' (s4.below _)
         clear s4
         rw [hZ]
         go_wp2_with fail
         clear hHeld
         refine hK.out _ _ ?_ (fun hHeld => ?_)
         . exact ⟨(b4'.cell (p := ⟨wr.heap.size, 1, none⟩) my).trans my1, (b4'.cell (p := ⟨w.heap.size, 1, none⟩) mx).trans me1, (b4'.cell (p := ⟨w.heap.size, 2, none⟩) mx).trans me2⟩
         clear hK K
         refine held_t 11 hHeld ?_
         refine held_t 12 hHeld ?_
         refine wpAnyH_done (by kernel_rfl) ?_ _
         clear hHeld
         have HB := hidden (hA.trans ((B1.trans ((Below.andThen b2' b4').mono B1.size)).mono hA.size))
         have HE := hidden (entsB_no (x := x) HDJ.out (entAt_3 HZ.out))
         go_wp2
         go_ret
         exact ⟨ret_bool HE.out.symm, HB.out⟩
       have HZ := hidden (HSA.out.symm.trans hZ)
       go_wp2_with fail
       generalize wr.alloc (.cells #[.int .i64 y, .slice av zs.length cv] 89) = w1 at X1 Y1 RZ B1 y0 y1 e1 e2 e9 zy zx zb HQ qc ⊢
       refine wp_region_held_drew (S := fun w' => w'.cell? ⟨wr.heap.size, 0, none⟩ = some (.int .i64 y) /\ w'.cell? ⟨w.heap.size, 1, none⟩ = some (.int .i64 x.n) /\ w'.cell? ⟨w.heap.size, 2, none⟩ = some (.int .i64 x.s) /\ w'.cell? ⟨w.heap.size, 9, none⟩ = some (.slice (some ⟨b, off, none⟩) nd cd) /\ w'.cell? ⟨b, off + p * 2, none⟩ = some (.int .i64 s)) (by kernel_rfl) ?_ (fun hHeld => ?_)
       . exact ⟨y0, e1, e2, e9, qc⟩
       refine held_t 0 hHeld ?_
       refine held_t 1 hHeld ?_
       refine held_t 2 hHeld ?_
       refine held_t 3 hHeld ?_
       refine held_one (i := 4) (by kernel_rfl) rfl (by kernel_rfl) (fun K hK => ?_)
       go_simp
       refine (hasStripe_any _ x.n x.s y).mono ?_
       rintro e w2 ⟨rfl, b2⟩
       have b2' : Below w1.heap.size w1 w2 := (Below.refl w1.heap.size w1).drew.trans b2
       clear b2
       rw [hI]
       go_wp2_with fail
       clear hHeld
       refine hK.out _ _ ?_ (fun hHeld => ?_)
       . exact ⟨(b2'.cell (p := ⟨wr.heap.size, 0, none⟩) zy).trans y0, (b2'.cell (p := ⟨w.heap.size, 1, none⟩) zx).trans e1, (b2'.cell (p := ⟨w.heap.size, 2, none⟩) zx).trans e2, (b2'.cell (p := ⟨w.heap.size, 9, none⟩) zx).trans e9, (b2'.cell (p := ⟨b, off + p * 2, none⟩) zb).trans qc⟩
       clear hK K
       refine held_t 5 hHeld ?_
       refine held_t 6 hHeld ?_
       refine held_t 7 hHeld ?_
       refine held_t 8 hHeld ?_
       refine held_t 9 hHeld ?_
       refine held_t 10 hHeld ?_
       refine held_t 11 hHeld ?_
       refine held_t 12 hHeld ?_
       refine held_t 13 hHeld ?_
       refine held_t 14 hHeld ?_
       refine held_t 15 hHeld ?_
       refine held_t 16 hHeld ?_
       refine held_t 17 hHeld ?_
       refine held_t 18 hHeld ?_
       refine held_t 19 hHeld ?_
       refine held_t 20 hHeld ?_
       refine held_t 21 hHeld ?_
       refine wpAnyH_done (by kernel_rfl) ?_ _
       clear hHeld
       have my1 := (b2'.cell (p := ⟨wr.heap.size, 1, none⟩) zy).trans y1
       have me1 := (b2'.cell (p := ⟨w.heap.size, 1, none⟩) zx).trans e1
       have me2 := (b2'.cell (p := ⟨w.heap.size, 2, none⟩) zx).trans e2
       have my := Nat.lt_of_lt_of_le zy b2'.size
       have mx := Nat.lt_of_lt_of_le zx b2'.size
       have RZ2 := RZ.below b2'
       go_wp2_with fail
       refine wp_region_held_drew (S := fun w' => w'.cell? ⟨wr.heap.size, 1, none⟩ = some (.slice av zs.length cv) /\ w'.cell? ⟨w.heap.size, 1, none⟩ = some (.int .i64 x.n) /\ w'.cell? ⟨w.heap.size, 2, none⟩ = some (.int .i64 x.s)) (by kernel_rfl) ?_ (fun hHeld => ?_)
       . exact ⟨my1, me1, me2⟩
       refine held_t 0 hHeld ?_
       refine held_t 1 hHeld ?_
       refine held_t 2 hHeld ?_
       refine held_t 3 hHeld ?_
       refine held_t 4 hHeld ?_
       refine held_one (i := 5) (by kernel_rfl) rfl (by kernel_rfl) (fun K hK => ?_)
       go_simp
       refine (perStripe_any _ x.n x.s g1 g2).mono ?_
       rintro e w3 ⟨rfl, b3⟩
       have b3' : Below w2.heap.size w2 w3 := (Below.refl w2.heap.size w2).drew.trans b3
       clear b3
       go_wp2_with fail
       clear hHeld
       refine hK.out _ _ ?_ (fun hHeld => ?_)
       . exact ⟨(b3'.cell (p := ⟨wr.heap.size, 1, none⟩) my).trans my1, (b3'.cell (p := ⟨w.heap.size, 1, none⟩) mx).trans me1, (b3'.cell (p := ⟨w.heap.size, 2, none⟩) mx).trans me2⟩
       clear hK K
       refine held_t 6 hHeld ?_
       refine held_t 7 hHeld ?_
       refine held_t 8 hHeld ?_
       refine held_t 9 hHeld ?_
       refine held_one (i := 10) (by kernel_rfl) rfl (by kernel_rfl) (fun K hK => ?_)
       go_simp
       refine (implSecOk_any _ _ _ _ zs rfl (ints_rd (RZ2.below b3')).1 hwz).mono ?_
       rintro e w4 ⟨rfl, s4⟩
       have b4' : Below w2.heap.size w2 w4 := Below.andThen b3' (s4.below _)
       clear s4
       rw [hZ]
       go_wp2_with fail
       clear hHeld
       refine hK.out _ _ ?_ (fun hHeld => ?_)
       . exact ⟨(b4'.cell (p := ⟨wr.heap.size, 1, none⟩) my).trans my1, (b4'.cell (p := ⟨w.heap.size, 1, none⟩) mx).trans me1, (b4'.cell (p := ⟨w.heap.size, 2, none⟩) mx).trans me2⟩
       clear hK K
       refine held_t 11 hHeld ?_
       refine held_t 12 hHeld ?_
       refine wpAnyH_done (by kernel_rfl) ?_ _
       clear hHeld
       have HB := hidden (B1.trans ((Below.andThen b2' b4').mono B1.size))
       have hat : entAt x ds (p + 1) (y, zs) = true := (entAt_5 HI.out HL.out HZ.out HPQ.out).trans (by simpa using hlt)
       go_wp2
       go_roundw
       case rel => exact ⟨p + 1 + 1, by omega, by go_num, fun q d hq hm' => by
        rcases Nat.lt_or_ge q (p + 1) with h | h
        . exact hall q d h hm'
        obtain rfl : q = p + 1 := by omega
        rw [HDJ.out] at hm'
        cases hm'
        exact hat, HB.out⟩
       case measure => simp [intOf]; omega
     have hL1 : ((zs.length : Int) == x.n - 1) = false := by simpa using hL
     have hL2 : ((zs.length : Int) != x.n - 1) = true := by simpa using hL
     have HL := hidden hL
     clear hL
     go_wp2_with fail
     generalize wr.alloc (.cells #[.int .i64 y, .slice av zs.length cv] 89) = w1 at X1 Y1 RZ B1 y0 y1 e1 e2 e9 zy zx zb HQ qc ⊢
     refine wp_region_held_drew (S := fun w' => w'.cell? ⟨wr.heap.size, 0, none⟩ = some (.int .i64 y) /\ w'.cell? ⟨w.heap.size, 1, none⟩ = some (.int .i64 x.n) /\ w'.cell? ⟨w.heap.size, 2, none⟩ = some (.int .i64 x.s) /\ w'.cell? ⟨w.heap.size, 9, none⟩ = some (.slice (some ⟨b, off, none⟩) nd cd) /\ w'.cell? ⟨b, off + p * 2, none⟩ = some (.int .i64 s)) (by kernel_rfl) ?_ (fun hHeld => ?_)
     . exact ⟨y0, e1, e2, e9, qc⟩
     refine held_t 0 hHeld ?_
     refine held_t 1 hHeld ?_
     refine held_t 2 hHeld ?_
     refine held_t 3 hHeld ?_
     refine held_one (i := 4) (by kernel_rfl) rfl (by kernel_rfl) (fun K hK => ?_)
     go_simp
     refine (hasStripe_any _ x.n x.s y).mono ?_
     rintro e w2 ⟨rfl, b2⟩
     have b2' : Below w1.heap.size w1 w2 := (Below.refl w1.heap.size w1).drew.trans b2
     clear b2
     rw [hI]
     go_wp2_with fail
     clear hHeld
     refine hK.out _ _ ?_ (fun hHeld => ?_)
     . exact ⟨(b2'.cell (p := ⟨wr.heap.size, 0, none⟩) zy).trans y0, (b2'.cell (p := ⟨w.heap.size, 1, none⟩) zx).trans e1, (b2'.cell (p := ⟨w.heap.size, 2, none⟩) zx).trans e2, (b2'.cell (p := ⟨w.heap.size, 9, none⟩) zx).trans e9, (b2'.cell (p := ⟨b, off + p * 2, none⟩) zb).trans qc⟩
     clear hK K
     refine held_t 5 hHeld ?_
     refine held_t 6 hHeld ?_
     refine held_t 7 hHeld ?_
     refine held_t 8 hHeld ?_
     refine held_t 9 hHeld ?_
     refine held_t 10 hHeld ?_
     refine held_t 11 hHeld ?_
     refine held_t 12 hHeld ?_
     refine held_t 13 hHeld ?_
     refine held_t 14 hHeld ?_
     refine held_t 15 hHeld ?_
     refine held_t 16 hHeld ?_
     refine held_t 17 hHeld ?_
     refine held_t 18 hHeld ?_
     refine held_t 19 hHeld ?_
     refine held_t 20 hHeld ?_
     refine held_t 21 hHeld ?_
     refine wpAnyH_done (by kernel_rfl) ?_ _
     clear hHeld
     have my1 := (b2'.cell (p := ⟨wr.heap.size, 1, none⟩) zy).trans y1
     have me1 := (b2'.cell (p := ⟨w.heap.size, 1, none⟩) zx).trans e1
     have me2 := (b2'.cell (p := ⟨w.heap.size, 2, none⟩) zx).trans e2
     have my := Nat.lt_of_lt_of_le zy b2'.size
     have mx := Nat.lt_of_lt_of_le zx b2'.size
     have RZ2 := RZ.below b2'
     go_wp2_with fail
     refine wp_region_held_drew (S := fun w' => w'.cell? ⟨wr.heap.size, 1, none⟩ = some (.slice av zs.length cv) /\ w'.cell? ⟨w.heap.size, 1, none⟩ = some (.int .i64 x.n) /\ w'.cell? ⟨w.heap.size, 2, none⟩ = some (.int .i64 x.s)) (by kernel_rfl) ?_ (fun hHeld => ?_)
     . exact ⟨my1, me1, me2⟩
     refine held_t 0 hHeld ?_
     refine held_t 1 hHeld ?_
     refine held_t 2 hHeld ?_
     refine held_t 3 hHeld ?_
     refine held_t 4 hHeld ?_
     refine held_one (i := 5) (by kernel_rfl) rfl (by kernel_rfl) (fun K hK => ?_)
     go_simp
     refine (perStripe_any _ x.n x.s g1 g2).mono ?_
     rintro e w3 ⟨rfl, b3⟩
     have b3' : Below w2.heap.size w2 w3 := (Below.refl w2.heap.size w2).drew.trans b3
     clear b3
     go_wp2_with fail
     clear hHeld
     refine hK.out _ _ ?_ (fun hHeld => ?_)
     . exact ⟨(b3'.cell (p := ⟨wr.heap.size, 1, none⟩) my).trans my1, (b3'.cell (p := ⟨w.heap.size, 1, none⟩) mx).trans me1, (b3'.cell (p := ⟨w.heap.size, 2, none⟩) mx).trans me2⟩
     clear hK K
     refine held_t 6 hHeld ?_
     refine held_t 7 hHeld ?_
     refine held_p 8 hHeld ?_
     refine held_p 9 hHeld ?_
     refine held_none (i := 10) (by kernel_rfl) rfl (by kernel_rfl) hHeld ?_
     simp only [Act.put, List.setIfInBounds_toArray, List.set_cons_zero, List.set_cons_succ]
     refine held_p 11 hHeld ?_
     refine held_t 12 hHeld ?_
     refine wpAnyH_done (by kernel_rfl) ?_ _
     clear hHeld
     have HB := hidden (hA.trans ((B1.trans ((Below.andThen b2' b3').mono B1.size)).mono hA.size))
     have HE := hidden (entsB_no (x := x) HDJ.out (entAt_2 HL.out))
     go_wp2
     go_ret
     exact ⟨ret_bool HE.out.symm, HB.out⟩
   have hge : y <= s := by omega
   go_wp2_with fail
   generalize wr.alloc (.cells #[.int .i64 y, .slice av zs.length cv] 89) = w1 at X1 Y1 RZ B1 y0 y1 e1 e2 e9 zy zx zb HQ qc ⊢
   refine wp_region_held_drew (S := fun w' => w'.cell? ⟨wr.heap.size, 0, none⟩ = some (.int .i64 y) /\ w'.cell? ⟨w.heap.size, 1, none⟩ = some (.int .i64 x.n) /\ w'.cell? ⟨w.heap.size, 2, none⟩ = some (.int .i64 x.s) /\ w'.cell? ⟨w.heap.size, 9, none⟩ = some (.slice (some ⟨b, off, none⟩) nd cd) /\ w'.cell? ⟨b, off + p * 2, none⟩ = some (.int .i64 s)) (by kernel_rfl) ?_ (fun hHeld => ?_)
   . exact ⟨y0, e1, e2, e9, qc⟩
   refine held_t 0 hHeld ?_
   refine held_t 1 hHeld ?_
   refine held_t 2 hHeld ?_
   refine held_t 3 hHeld ?_
   refine held_one (i := 4) (by kernel_rfl) rfl (by kernel_rfl) (fun K hK => ?_)
   go_simp
   refine (hasStripe_any _ x.n x.s y).mono ?_
   rintro e w2 ⟨rfl, b2⟩
   have b2' : Below w1.heap.size w1 w2 := (Below.refl w1.heap.size w1).drew.trans b2
   clear b2
   rw [hI]
   go_wp2_with fail
   clear hHeld
   refine hK.out _ _ ?_ (fun hHeld => ?_)
   . exact ⟨(b2'.cell (p := ⟨wr.heap.size, 0, none⟩) zy).trans y0, (b2'.cell (p := ⟨w.heap.size, 1, none⟩) zx).trans e1, (b2'.cell (p := ⟨w.heap.size, 2, none⟩) zx).trans e2, (b2'.cell (p := ⟨w.heap.size, 9, none⟩) zx).trans e9, (b2'.cell (p := ⟨b, off + p * 2, none⟩) zb).trans qc⟩
   clear hK K
   refine held_t 5 hHeld ?_
   refine held_t 6 hHeld ?_
   refine held_t 7 hHeld ?_
   refine held_t 8 hHeld ?_
   refine held_t 9 hHeld ?_
   refine held_t 10 hHeld ?_
   refine held_t 11 hHeld ?_
   refine held_t 12 hHeld ?_
   refine held_t 13 hHeld ?_
   refine held_t 14 hHeld ?_
   refine held_t 15 hHeld ?_
   refine held_t 16 hHeld ?_
   refine held_t 17 hHeld ?_
   refine held_t 18 hHeld ?_
   refine held_t 19 hHeld ?_
   refine held_t 20 hHeld ?_
   refine held_t 21 hHeld ?_
   refine wpAnyH_done (by kernel_rfl) ?_ _
   clear hHeld
   have HB := hidden (hA.trans ((B1.trans (b2'.mono B1.size)).mono hA.size))
   have HE := hidden (entsB_no (x := x) HDJ.out (entAt_6 HPQ.out hge))
   go_wp2
   go_ret
   exact ⟨ret_bool HE.out.symm, HB.out⟩
 have ej : j = nd := by omega
 subst ej
 have hAll : entsB x ds = true := allIx_iff.2 (fun q d hq => hall q d (by have := (List.getElem?_eq_some_iff.1 hq).1; omega) hq)
 have HB := hidden (hA.trans (hb.mono hA.size))
 go_wp2
 go_ret
 exact ⟨ret_bool hAll.symm, HB.out⟩

theorem recsOk_any (w : World) (x : ArrN) (am ad : Option Addr) (nm cm nd cd : Nat) :
 Calls Try.prog 73 #[.agg #[.int .i64 x.id, .int .i64 x.n, .int .i64 x.s, .slice am nm cm, .int .i64 x.lost, .int .i64 x.built, .int .i64 x.seq, .int .i64 x.tail, .int .i64 x.gen, .slice ad nd cd, .int .i64 x.fuse, .bool x.down, .bool x.broken]] w fun e w' => e = .returned (.bool (recB6 x)) /\ Below w.heap.size w w' := by
 have hA := new_below w (.cells #[.int .i64 x.id, .int .i64 x.n, .int .i64 x.s, .slice am nm cm, .int .i64 x.lost, .int .i64 x.built, .int .i64 x.seq, .int .i64 x.tail, .int .i64 x.gen, .slice ad nd cd, .int .i64 x.fuse, .bool x.down, .bool x.broken] 35)
 have X := Box.new w 35 #[.int .i64 x.id, .int .i64 x.n, .int .i64 x.s, .slice am nm cm, .int .i64 x.lost, .int .i64 x.built, .int .i64 x.seq, .int .i64 x.tail, .int .i64 x.gen, .slice ad nd cd, .int .i64 x.fuse, .bool x.down, .bool x.broken]
 obtain ⟨k0, k1, k2, k3, k4, k5, k6, k7, k8, k9, k10, k11, k12⟩ := X.cells13
 clear k0 k1 k2 k3 k4 k5 k8 k9 k10 k11 k12 X
 go_enter Try.func73, Try.ntmps73
 go_wp2_with fail
 refine (within_any _ _ _ _).mono ?_
 rintro e wq ⟨rfl, hq⟩
 obtain rfl := hq.symm
 cases hs : inB x.seq 0 60000
 . have HF : Hid (recB6 x = false) := by unfold Hid recB6; rw [hs]; rfl
   go_wp2
   go_ret
   exact ⟨ret_bool HF.out.symm, hA⟩
 go_wp2_with fail
 refine (within_any _ _ _ _).mono ?_
 rintro e wq ⟨rfl, hq⟩
 obtain rfl := hq.symm
 cases ht : inB x.tail 0 60000
 . have HF : Hid (recB6 x = false) := by unfold Hid recB6; rw [hs, ht]; rfl
   go_wp2
   go_ret
   exact ⟨ret_bool HF.out.symm, hA⟩
 have HF : Hid (recB6 x = inB (x.seq - x.tail) 0 4) := by unfold Hid recB6; rw [hs, ht]; rfl
 obtain ⟨s1, s2⟩ := inB_iff.1 hs
 obtain ⟨t1, t2⟩ := inB_iff.1 ht
 have hw : IntKind.i64.wrap (x.seq - x.tail) = x.seq - x.tail := IntWalk.i64_in _ (by omega)
 go_wp2_with fail
 refine (within_any _ _ _ _).mono ?_
 rintro e wq ⟨rfl, hq⟩
 obtain rfl := hq.symm
 cases hd : inB (x.seq - x.tail) 0 4
 . go_wp2
   go_ret
   exact ⟨ret_bool (by rw [HF.out, hd]), hA⟩
 go_wp2
 go_ret
 exact ⟨ret_bool (by rw [HF.out, hd]), hA⟩

theorem implArrOk_any (w : World) (E F G : TypeId) (x : ArrN) (am ad : Option Addr) (nm cm nd cd : Nat) (ms : List MemD) (ds : List (Int × List Int)) (h0 : (tMemS E F).Rd w [.slice am nm cm] ms) (h1 : (tWrS G).Rd w [.slice ad nd cd] ds) (hw : wtArr ms ds <= 2097152) :
 Calls Try.prog 43 #[.agg #[.int .i64 x.id, .int .i64 x.n, .int .i64 x.s, .slice am nm cm, .int .i64 x.lost, .int .i64 x.built, .int .i64 x.seq, .int .i64 x.tail, .int .i64 x.gen, .slice ad nd cd, .int .i64 x.fuse, .bool x.down, .bool x.broken]] w fun e w' => e = .returned (.bool (arrB x ms ds)) /\ Below w.heap.size w w' := by
 have hwm : wtMemS ms <= 2097152 := by unfold wtArr at hw; omega
 have hwd : wtWrS ds <= 2097152 := by unfold wtArr at hw; omega
 have hA := new_below w (.cells #[.int .i64 x.id, .int .i64 x.n, .int .i64 x.s, .slice am nm cm, .int .i64 x.lost, .int .i64 x.built, .int .i64 x.seq, .int .i64 x.tail, .int .i64 x.gen, .slice ad nd cd, .int .i64 x.fuse, .bool x.down, .bool x.broken] 35)
 have X := Box.new w 35 #[.int .i64 x.id, .int .i64 x.n, .int .i64 x.s, .slice am nm cm, .int .i64 x.lost, .int .i64 x.built, .int .i64 x.seq, .int .i64 x.tail, .int .i64 x.gen, .slice ad nd cd, .int .i64 x.fuse, .bool x.down, .bool x.broken]
 obtain ⟨k0, k1, k2, k3, k4, k5, k6, k7, k8, k9, k10, k11, k12⟩ := X.cells13
 have zA := X.lt
 have r0 := h0.below hA
 have r1 := h1.below hA
 go_enter Try.func43, Try.ntmps43
 go_wp2_with fail
 generalize w.alloc (.cells #[.int .i64 x.id, .int .i64 x.n, .int .i64 x.s, .slice am nm cm, .int .i64 x.lost, .int .i64 x.built, .int .i64 x.seq, .int .i64 x.tail, .int .i64 x.gen, .slice ad nd cd, .int .i64 x.fuse, .bool x.down, .bool x.broken] 35) = W at hA X zA r0 r1 k0 k1 k2 k3 k4 k5 k6 k7 k8 k9 k10 k11 k12 ⊢
 refine (implGeoOk_any _ _ _).mono ?_
 rintro e w1 ⟨rfl, b1⟩
 have X1 := X.below b1 X.lt
 have B1 := Below.andThen hA b1
 have q1 := r0.below b1
 have t1 := r1.below b1
 clear k0 k1 k2 k3 k4 k5 k6 k7 k8 k9 k10 k11 k12 b1 X hA r0 r1
 obtain ⟨k0, k1, k2, k3, k4, k5, k6, k7, k8, k9, k10, k11, k12⟩ := X1.cells13
 cases hg : geoB x.n x.s
 . have HF : Hid (arrB x ms ds = false) := by
    unfold Hid
    unfold arrB; rw [hg]; rfl
   go_wp2
   go_ret
   exact ⟨ret_bool HF.out.symm, B1⟩
 have HE := hidden (arr_same6 (ms := ms) (ds := ds) hg)
 obtain ⟨g1, g2, g3, g4⟩ := geoB_iff.1 hg
 go_wp2_with fail
 refine (within_any _ _ _ _).mono ?_
 rintro e wq ⟨rfl, hq⟩
 obtain rfl := hq.symm
 cases hid : inB x.id 1 60000
 . have HF : Hid (arrB x ms ds = false) := by
    unfold Hid
    rw [HE.out, hid]; rfl
   go_wp2
   go_ret
   exact ⟨ret_bool HF.out.symm, B1⟩
 go_wp2_with fail
 refine (lostOk_any _ x.n x.s x.lost x.built ⟨g1, g2⟩).mono ?_
 rintro e w2 ⟨rfl, b2⟩
 have X2 := X1.below b2 X1.lt
 have B2 := Below.andThen B1 b2
 have q2 := q1.below b2
 have t2 := t1.below b2
 clear k0 k1 k2 k3 k4 k5 k6 k7 k8 k9 k10 k11 k12 b2 X1 B1 q1 t1
 obtain ⟨k0, k1, k2, k3, k4, k5, k6, k7, k8, k9, k10, k11, k12⟩ := X2.cells13
 cases hlo : lostB x.n x.s x.lost x.built
 . have HF : Hid (arrB x ms ds = false) := by
    unfold Hid
    rw [HE.out, hid, hlo]; rfl
   go_wp2
   go_ret
   exact ⟨ret_bool HF.out.symm, B2⟩
 skip
 go_wp2_with fail
 refine (within_any _ _ _ _).mono ?_
 rintro e wq ⟨rfl, hq⟩
 obtain rfl := hq.symm
 cases hge : inB x.gen 0 60000
 . have HF : Hid (arrB x ms ds = false) := by
    unfold Hid
    rw [HE.out, hid, hlo, hge]; rfl
   go_wp2
   go_ret
   exact ⟨ret_bool HF.out.symm, B2⟩
 skip
 go_wp2_with fail
 refine (within_any _ _ _ _).mono ?_
 rintro e wq ⟨rfl, hq⟩
 obtain rfl := hq.symm
 cases hfu : inB x.fuse (-1) 1000
 . have HF : Hid (arrB x ms ds = false) := by
    unfold Hid
    rw [HE.out, hid, hlo, hge, hfu]; rfl
   go_wp2
   go_ret
   exact ⟨ret_bool HF.out.symm, B2⟩
 go_wp2_with fail
 refine (memsOk_any _ E F x _ _ _ _ _ _ ms q2 hwm hg).mono ?_
 rintro e w3 ⟨rfl, b3⟩
 have X3 := X2.below b3 X2.lt
 have B3 := Below.andThen B2 b3
 have q3 := q2.below b3
 have t3 := t2.below b3
 clear k0 k1 k2 k3 k4 k5 k6 k7 k8 k9 k10 k11 k12 b3 X2 B2 q2 t2
 obtain ⟨k0, k1, k2, k3, k4, k5, k6, k7, k8, k9, k10, k11, k12⟩ := X3.cells13
 cases hms : memsB x ms
 . have HF : Hid (arrB x ms ds = false) := by
    unfold Hid
    rw [HE.out, hid, hlo, hge, hfu, hms]; rfl
   go_wp2
   go_ret
   exact ⟨ret_bool HF.out.symm, B3⟩
 go_wp2_with fail
 refine (recsOk_any _ x _ _ _ _ _ _).mono ?_
 rintro e w4 ⟨rfl, b4⟩
 have X4 := X3.below b4 X3.lt
 have B4 := Below.andThen B3 b4
 have q4 := q3.below b4
 have t4 := t3.below b4
 clear k0 k1 k2 k3 k4 k5 k6 k7 k8 k9 k10 k11 k12 b4 X3 B3 q3 t3
 obtain ⟨k0, k1, k2, k3, k4, k5, k6, k7, k8, k9, k10, k11, k12⟩ := X4.cells13
 cases hre : recB6 x
 . have HF : Hid (arrB x ms ds = false) := by
    unfold Hid
    rw [HE.out, hid, hlo, hge, hfu, hms, hre]; rfl
   go_wp2
   go_ret
   exact ⟨ret_bool HF.out.symm, B4⟩
 have HF : Hid (arrB x ms ds = entsB x ds) := by
  unfold Hid
  rw [HE.out, hid, hlo, hge, hfu, hms, hre]; rfl
 go_wp2_with fail
 refine (dirtyOk_any _ G x _ _ _ _ _ _ ds t4 hwd hg).mono ?_
 rintro e w5 ⟨rfl, b5⟩
 have X5 := X4.below b5 X4.lt
 have B5 := Below.andThen B4 b5
 have q5 := q4.below b5
 have t5 := t4.below b5
 clear k0 k1 k2 k3 k4 k5 k6 k7 k8 k9 k10 k11 k12 b5 X4 B4 q4 t4
 obtain ⟨k0, k1, k2, k3, k4, k5, k6, k7, k8, k9, k10, k11, k12⟩ := X5.cells13
 cases hds : entsB x ds
 . go_wp2
   go_ret
   exact ⟨ret_bool (by rw [HF.out, hds]), B5⟩
 go_wp2
 go_ret
 exact ⟨ret_bool (by rw [HF.out, hds]), B5⟩

theorem hasDisk_any (w : World) (x : ArrN) (am ad : Option Addr) (nm cm nd cd : Nat) (m : Int) :
 Calls Try.prog 52 #[.agg #[.int .i64 x.id, .int .i64 x.n, .int .i64 x.s, .slice am nm cm, .int .i64 x.lost, .int .i64 x.built, .int .i64 x.seq, .int .i64 x.tail, .int .i64 x.gen, .slice ad nd cd, .int .i64 x.fuse, .bool x.down, .bool x.broken], .int .i64 m] w fun e w' => e = .returned (.bool (inB m 0 ((nm : Int) - 1))) /\ Below w.heap.size w w' := by
 have hA := new_below w (.cells #[.int .i64 x.id, .int .i64 x.n, .int .i64 x.s, .slice am nm cm, .int .i64 x.lost, .int .i64 x.built, .int .i64 x.seq, .int .i64 x.tail, .int .i64 x.gen, .slice ad nd cd, .int .i64 x.fuse, .bool x.down, .bool x.broken] 35)
 have X := Box.new w 35 #[.int .i64 x.id, .int .i64 x.n, .int .i64 x.s, .slice am nm cm, .int .i64 x.lost, .int .i64 x.built, .int .i64 x.seq, .int .i64 x.tail, .int .i64 x.gen, .slice ad nd cd, .int .i64 x.fuse, .bool x.down, .bool x.broken]
 have k3 := X.cells13.2.2.2.1
 have HI : Hid (inB m 0 ((nm : Int) - 1) = (decide (0 <= m) && decide (m < (nm : Int)))) := by
  unfold Hid inB
  congr 1
  rw [decide_eq_decide]
  omega
 by_cases h : 0 <= m
 . by_cases h2 : m < (nm : Int)
   . go_enter Try.func52, Try.ntmps52
     go_wp2
     go_ret
     exact ⟨ret_bool (by rw [HI.out]; simp [h, h2]), hA⟩
   go_enter Try.func52, Try.ntmps52
   go_wp2
   go_ret
   exact ⟨ret_bool (by rw [HI.out]; simp [h2]), hA⟩
 go_enter Try.func52, Try.ntmps52
 go_wp2
 go_ret
 exact ⟨ret_bool (by rw [HI.out, show decide (0 <= m) = false from (by simpa using h)]; rfl), hA⟩

end Go.Proofs.Ytialakmmifhliaa

namespace Go.Proofs.Ytialakmmifhliaa
open Go.RowKit Go.Shelf

def insRen : Go.Shelf.Ren := ⟨fun | 21 => 89 | 27 => 113 | 28 => 114 | 35 => 126 | 39 => 127 | n => n, fun | 0 => 0 | 3 => 3 | 4 => 4 | 22 => 42 | n => n, fun n => n⟩

theorem insLays : Lays2.n21 Try.prog insRen where
 mixed := by kernel_rfl
 f21 := Try.func89.trans (congrArg some (by kernel_rfl))
 f27 := Try.func113.trans (congrArg some (by kernel_rfl))
 f28 := Try.func114.trans (congrArg some (by kernel_rfl))
 f35 := Try.func126.trans (congrArg some (by kernel_rfl))
 f39 := Try.func127.trans (congrArg some (by kernel_rfl))
 t0 := Try.underlying0
 a0 := Try.isAgg0
 z0 := Try.sizeOf0
 v0 := Try.zeroValue0
 t3 := Try.underlying3
 a3 := Try.isAgg3
 z3 := Try.sizeOf3
 v3 := Try.zeroValue3
 t4 := Try.underlying4
 a4 := Try.isAgg4
 z4 := Try.sizeOf4
 v4 := Try.zeroValue4
 t22 := Try.underlying42
 a22 := Try.isAgg42
 z22 := Try.sizeOf42
 v22 := Try.zeroValue42
 i3 := by kernel_rfl
end Go.Proofs.Ytialakmmifhliaa

namespace Go.Proofs.Ytialakmmifhliaa
open Go.RowKit Go.Shelf

theorem Box.sets {B : Nat} {T : TypeId} : ∀ (vs : List Value) (o : Nat) (w : World) (cs : Array Value), Box w B T cs -> o + vs.length <= cs.size -> ∃ cs', Box (w.setCells B o vs) B T cs' /\ cs'.toList = cs.toList.take o ++ (vs ++ cs.toList.drop (o + vs.length)) /\ Turned [B] w (w.setCells B o vs)
 | [], o, w, cs, h, ho => ⟨cs, h, by simp, Turned.refl _ _⟩
 | v :: r, o, w, cs, h, ho => by
  have ho' : o + (r.length + 1) <= cs.size := ho
  obtain ⟨cs', h1, h2, h3⟩ := Box.sets r (o + 1) _ _ (h.set o v) (by simp; omega)
  refine ⟨cs', h1, ?_, (Turned.setCell v (by simp)).trans h3⟩
  have hlt : o < cs.toList.length := by simp; omega
  rw [h2, Array.toList_setIfInBounds, List.drop_set_of_lt (by omega), List.set_eq_take_append_cons_drop, if_pos hlt, List.take_append, List.length_take, Nat.min_eq_left (by omega), List.take_of_length_le (by simp; omega), show o + 1 - o = 1 by omega, show o + 1 + r.length = o + (v :: r).length by simp; omega]
  simp

theorem row_of_box {w : World} {g n cap : Nat} {zs : List Int} {cs : Array Value} (h : Box w g 3 cs) (hs : cs.size = cap) (hc : cap <= 9223372036854775807) (hn : zs.length = n) (hl : n <= cap) (ht : cs.toList.take n = zs.map (Value.int .i64)) : tIntS.Own w g (g + 1) [.slice (some ⟨g, 0, none⟩) n cap] zs := by
 subst hn
 exact mine_of_own ⟨⟨by simp, .inr ⟨g, cap, cs, rfl, Nat.le_refl _, h, hl, by unfold maxLen; exact hc, by rw [Nat.mul_one]; exact hs, by rw [Nat.mul_one]; exact ht⟩⟩, fun b hb => by simp [Value.ownBlock] at hb; omega⟩

theorem one_cells (zs : List Int) : ∀ v ∈ zs.map (Value.int .i64), v.oneCell' = true := fun v hv => by
 obtain ⟨x, _, rfl⟩ := List.mem_map.1 hv
 rfl

theorem insert_any (w : World) (lo hi : Nat) (a : Option Addr) (len cap : Nat) (zs : List Int) (i : Nat) (n : Int) (vb : Nat) (T : TypeId) (h : tIntS.Own w lo hi [.slice a len cap] zs) (hv : Box w vb T #[.int .i64 n]) (hvb : vb < lo ∨ hi <= vb) (hik : i <= len) (hlen : len <= 2097152) :
 Calls Try.prog 89 #[.slice a len cap, .int .i64 i, .slice (some ⟨vb, 0, none⟩) 1 1] w fun e w' => ∃ a' c' l' h', e = .returned (.slice a' (len + 1) c') /\ tIntS.Own w' l' h' [.slice a' (len + 1) c'] (zs.take i ++ n :: zs.drop i) /\ ((l' = lo /\ h' = hi) ∨ (w.heap.size <= l' /\ h' <= w'.heap.size)) /\ But lo hi w w' := by
 have hvc : ∀ j v, [Value.int .i64 n][j]? = some v -> w.cell? ⟨vb, 0 + j, none⟩ = some v := fun j v hj => by
  rw [Nat.zero_add, hv.cell, ← hj]
  simp
 have h1v : ∀ v ∈ [Value.int .i64 n], v.oneCell' = true := one_cells [n]
 obtain ⟨fp, hm, hfr⟩ := h.mine
 rcases ints_row hm.1 with ⟨hva, rfl, rfl⟩ | ⟨g, cap', hva, rfl, ho⟩
 . simp only [Value.slice.injEq] at hva
   obtain ⟨rfl, rfl, rfl⟩ := hva
   have e0 : i = 0 := by omega
   subst e0
   refine (Any2.slices_Insert_int_end_grow insLays none 0 0 vb 0 1 1 [] [.int .i64 n] w (by omega) (by omega) (by omega) (by omega) rfl rfl (fun _ => rfl) (by simp) hvc h1v).mono ?_
   rintro e w' ⟨rfl, rfl⟩
   have hG1 := grownCap_ge w (0 + 1) 0 (insRen.t 3)
   have hG2 := grownCap_le_maxLen w (0 + 1) 0 (insRen.t 3) (by unfold maxLen; omega)
   generalize grownCap w (0 + 1) 0 (insRen.t 3) = G at hG1 hG2 ⊢
   refine ⟨_, G, w.heap.size, w.heap.size + 1, rfl, row_of_box (Box.new w.drew 3 _) ?_ (by unfold maxLen at hG2; omega) (by simp) (by omega) ?_, .inr ⟨Nat.le_refl _, by simp⟩, ?_⟩
   . simp [Builtin.zeroCells, Value.cells]; omega
   . simp
   exact But.of_below ((Below.refl _ _).drew.alloc (by simp) _)
 have hzl := (ints_rd h.rd).2.1
 simp only [Value.slice.injEq] at hva
 obtain ⟨rfl, _, rfl⟩ := hva
 have hg := hfr g (by simp)
 have hgn : vb ≠ g := by omega
 obtain ⟨cur, hcur, hcs, hct, hcap, hlc⟩ : ∃ cur : Array Value, Box w g 3 cur /\ cur.size = cap /\ cur.toList.take len = zs.map (Value.int .i64) /\ cap <= 9223372036854775807 /\ len <= cap := by
  rcases ho.1.2 with ⟨hv, _⟩ | ⟨g', cap', cur, hv, hb, hg, hnc, hcm, hcs, ht⟩
  . simp at hv
  simp only [Value.slice.injEq, Option.some.injEq, Addr.mk.injEq, and_true] at hv
  obtain ⟨rfl, _, rfl⟩ := hv
  refine ⟨cur, hg, by rw [Nat.mul_one] at hcs; exact hcs, by rw [Nat.mul_one, hzl] at ht; exact ht, by unfold maxLen at hcm; exact hcm, by omega⟩
 have hml : (zs.map (Value.int .i64)).length = len := by rw [List.length_map, hzl]
 have hcc : ∀ j v, (zs.map (Value.int .i64))[j]? = some v -> w.cell? ⟨g, 0 + j, none⟩ = some v := fun j v hj => by
  rw [Nat.zero_add, hcur.cell, ← Array.getElem?_toList]
  rw [← hct, List.getElem?_take] at hj
  split at hj
  . exact hj
  cases hj
 have hsm : ∀ j, j < cap -> (w.cell? ⟨g, j, none⟩).isSome = true := fun j hj => by
  rw [hcur.cell, Array.getElem?_eq_getElem (by omega)]; rfl
 by_cases hil : i = len
 . subst hil
   have hz : zs.take i ++ n :: zs.drop i = zs ++ [n] := by rw [List.take_of_length_le (by omega), List.drop_eq_nil_of_le (by omega)]
   rw [hz]
   by_cases hroom : i + 1 <= cap
   . refine (Any2.slices_Insert_int_end_room insLays g 0 i cap vb 0 1 1 [.int .i64 n] w (by omega) hroom hcap rfl (fun j hj => hsm _ (by omega)) (fun j hj => hcur.frozen _) hvc h1v).mono ?_
     rintro e w' ⟨rfl, rfl⟩
     obtain ⟨cs', k1, k2, k3⟩ := Box.sets [.int .i64 n] (0 + i) w cur hcur (by simp; omega)
     refine ⟨_, cap, lo, hi, rfl, (row_of_box k1 ?_ hcap (by simp; omega) hroom ?_).widen hg.1 (by omega), .inl ⟨rfl, rfl⟩, k3.but (by simp; omega)⟩
     . rw [← Array.length_toList, k2]; simp; omega
     rw [k2, Nat.zero_add, hct, List.map_append, ← List.append_assoc]
     exact List.take_left' (by simp; omega)
   refine (Any2.slices_Insert_int_end_grow insLays (some ⟨g, 0, none⟩) i cap vb 0 1 1 (zs.map (Value.int .i64)) [.int .i64 n] w (by omega) hlc (by omega) (by omega) hml rfl (by simp) (fun a ha j v hj => by
    simp only [Option.some.injEq] at ha
    subst ha
    rw [Addr.add_lit]
    exact hcc j v hj) hvc h1v).mono ?_
   rintro e w' ⟨rfl, rfl⟩
   have hG1 := grownCap_ge w (i + 1) cap (insRen.t 3)
   have hG2 := grownCap_le_maxLen w (i + 1) cap (insRen.t 3) (by unfold maxLen; omega)
   generalize grownCap w (i + 1) cap (insRen.t 3) = G at hG1 hG2 ⊢
   refine ⟨_, G, w.heap.size, w.heap.size + 1, rfl, row_of_box (Box.new w.drew 3 _) ?_ (by unfold maxLen at hG2; omega) (by simp; omega) (by omega) ?_, .inr ⟨Nat.le_refl _, by simp⟩, ?_⟩
   . simp [Builtin.zeroCells, Value.cells]; omega
   . rw [Array.toList_append, List.take_left' (by simp; omega)]
     simp
   exact But.of_below ((Below.refl _ _).drew.alloc (by simp) _)
 have hi' : i < len := by omega
 have hdl : ((zs.map (Value.int .i64)).drop i).length = len - i := by rw [List.length_drop, hml]
 have hfin : zs.take i ++ n :: zs.drop i = zs.take i ++ ([n] ++ zs.drop i) := rfl
 by_cases hroom : len + 1 <= cap
 . refine (Any2.slices_Insert_int_shift insLays g 0 len cap i vb 0 1 1 (zs.map (Value.int .i64)) [.int .i64 n] w hi' (by omega) hroom hcap hgn hml rfl hcc (fun j hj => hsm _ (by omega)) (fun j hj => hcur.frozen _) hvc (one_cells zs) h1v T 3 1 cap (by unfold World.shape?; rw [show w.heap[vb]? = _ from hv]; rfl) (by unfold World.shape?; rw [show w.heap[g]? = _ from hcur]; simp [hcs]) (by omega) (hv.frozen _) (hv.frozen _)).mono ?_
   rintro e w' ⟨rfl, rfl⟩
   obtain ⟨c1, k1, k2, k3⟩ := Box.sets ((zs.map (Value.int .i64)).drop i) (0 + (i + 1)) w.drew cur hcur (by rw [hdl]; omega)
   have hc1 : c1.size = cap := by rw [← Array.length_toList, k2]; simp only [List.length_append, List.length_take, List.length_drop, Array.length_toList, hdl]; omega
   obtain ⟨c2, j1, j2, j3⟩ := Box.sets [.int .i64 n] (0 + i) _ c1 k1 (by simp; omega)
   refine ⟨_, cap, lo, hi, rfl, (row_of_box j1 ?_ hcap (by simp; omega) hroom ?_).widen hg.1 (by omega), .inl ⟨rfl, rfl⟩, (k3.undrew.trans j3).but (by simp; omega)⟩
   . rw [← Array.length_toList, j2]; simp; omega
   have e1 : c1.toList.take i = (zs.map (Value.int .i64)).take i := by
    rw [k2, Nat.zero_add, List.take_append_of_le_length (by simp; omega), List.take_take, Nat.min_eq_left (by omega), ← hct, List.take_take, Nat.min_eq_left (by omega)]
   have e2 : c1.toList.drop (i + 1) = (zs.map (Value.int .i64)).drop i ++ cur.toList.drop (i + 1 + ((zs.map (Value.int .i64)).drop i).length) := by
    rw [k2, Nat.zero_add]
    exact List.drop_left' (by simp; omega)
   rw [j2, Nat.zero_add, e1, show i + [Value.int .i64 n].length = i + 1 from rfl, e2, ← List.append_assoc [Value.int .i64 n], ← List.append_assoc, List.take_left' (by simp; omega)]
   simp
 refine (Any2.slices_Insert_int_grow insLays g 0 len cap i vb 0 1 1 (zs.map (Value.int .i64)) [.int .i64 n] w hi' (by omega) hlc (by omega) (by omega) hml rfl hcc hvc (one_cells zs) h1v).mono ?_
 rintro e w' ⟨rfl, rfl⟩
 have hG1 := grownCap_ge w (len + 1) cap (insRen.t 3)
 have hG2 := grownCap_le_maxLen w (len + 1) cap (insRen.t 3) (by unfold maxLen; omega)
 generalize grownCap w (len + 1) cap (insRen.t 3) = G at hG1 hG2 ⊢
 obtain ⟨ROW, hROW⟩ : ∃ ROW : Array Value, ROW = ((zs.map (Value.int .i64)).take i).toArray ++ Builtin.zeroCells (Value.int .i64 0).cells (len + 1 - i) ++ Builtin.zeroCells (Value.int .i64 0).cells (G - (len + 1)) := ⟨_, rfl⟩
 rw [← hROW]
 have hRs : ROW.size = G := by rw [hROW]; simp [Builtin.zeroCells, Value.cells]; omega
 have hRt : ROW.toList.take i = (zs.map (Value.int .i64)).take i := by
  rw [hROW, Array.toList_append, Array.toList_append, List.append_assoc]
  exact List.take_left' (by simp; omega)
 have bN : Below w.heap.size w (w.alloc (.cells ROW 3)) := (Below.refl _ _).alloc (Nat.le_refl _) _
 obtain ⟨c1, k1, k2, k3⟩ := Box.sets [.int .i64 n] i (w.alloc (.cells ROW 3)).drew ROW (Box.new w 3 ROW) (by simp; omega)
 have hc1 : c1.size = G := by rw [← Array.length_toList, k2]; simp; omega
 obtain ⟨c2, j1, j2, j3⟩ := Box.sets ((zs.map (Value.int .i64)).drop i) (i + 1) ((w.alloc (.cells ROW 3)).drew.setCells w.heap.size i [.int .i64 n]).drew c1 k1 (by rw [hdl]; omega)
 have hT := k3.undrew.trans j3.undrew
 refine ⟨_, G, w.heap.size, w.heap.size + 1, rfl, row_of_box j1 ?_ (by unfold maxLen at hG2; omega) (by simp; omega) (by omega) ?_, .inr ⟨Nat.le_refl _, ?_⟩, ?_⟩
 . rw [← Array.length_toList, j2]; simp only [List.length_append, List.length_take, List.length_drop, Array.length_toList, hdl]; omega
 . have e1 : c1.toList.take (i + 1) = (zs.map (Value.int .i64)).take i ++ [.int .i64 n] := by
    rw [k2, hRt, ← List.append_assoc]
    exact List.take_left' (by simp; omega)
   rw [j2, e1, ← List.append_assoc, List.take_left' (by simp; omega)]
   simp
 . have := hT.size
   simp at this
   exact this
 exact ⟨hT.os, hT.tape, hT.output, Nat.le_trans bN.size hT.size, fun k hk _ => (hT.block k (by simp; omega) (by simp; omega)).trans (bN.block k hk)⟩
end Go.Proofs.Ytialakmmifhliaa

namespace Go.Proofs.Ytialakmmifhliaa
open Go.RowKit

theorem less_any (w : World) (x y : Int) : Calls Try.prog 111 #[.int .i64 x, .int .i64 y] w fun e w' => e = .returned (.bool (decide (x < y))) /\ Same w w' := by
 go_enter Try.func111, Try.ntmps111
 go_wp2
 go_ret
 exact ⟨ret_bool (by simp), Same.refl _⟩

theorem search_any (w : World) (a : Option Addr) (len cap : Nat) (zs : List Int) (t : Int) (hz : zs.length = len) (hr : Reads .i64 w a zs) (hlen : len <= 2097152) (ha : ∀ i, i + 1 < zs.length -> zs.getD i 0 < zs.getD (i + 1) 0) :
 Calls Try.prog 88 #[.slice a len cap, .int .i64 t] w fun e w' => ∃ k : Nat, e = .returned (.tuple #[.int .i64 k, .bool (inL zs t)]) /\ k <= len /\ (∀ x ∈ zs.take k, x < t) /\ (∀ x ∈ zs.drop k, t <= x) /\ Same w w' := by
 go_enter Try.func88, Try.ntmps88
 go_wp2
 go_loopw [7, 8] (fun iv jv wr => ∃ (i j : Nat), i <= j /\ j <= len /\ iv = .int .i64 i /\ jv = .int .i64 j /\ (∀ x ∈ zs.take i, x < t) /\ (∀ x ∈ zs.drop j, t <= x) /\ Same w wr) (fun iv jv _ => (intOf jv).toNat - (intOf iv).toNat)
 case atStart => exact ⟨0, len, Nat.zero_le _, Nat.le_refl _, rfl, rfl, by simp, by rw [← hz]; simp, Same.refl _⟩
 obtain ⟨i, j, hij, hj, rfl, rfl, hlo, hhi, hs⟩ := hrel
 by_cases hlt : i < j
 . have k1 : (i : Int) < (j : Int) := by omega
   rcases hr.cases with h0 | ⟨b, off, rfl, hbl, hcz⟩
   . omega
   obtain ⟨m, hm⟩ : ∃ m : Nat, ((i : Int) + (j : Int)) / 2 = (m : Int) := ⟨(i + j) / 2, by omega⟩
   have hm1 : i <= m := by omega
   have hm2 : m < j := by omega
   have hc1 := (hs.cell _).trans (hcz m (by omega))
   have gw1 : IntKind.i64.wrap ((i : Int) + (j : Int)) = (i : Int) + (j : Int) := IntWalk.i64_in _ (by omega)
   have gw3 : IntKind.i64.wrap (m : Int) = (m : Int) := IntWalk.i64_in _ (by omega)
   have k2 : (0 : Int) <= (m : Int) := by omega
   have k3 : (m : Int) < (len : Int) := by omega
   have HA := hidden (fun (n : Int) (hle : zs.getD m 0 <= n) => take_le (k := m + 1) (n := n) ha (by omega) (.inr (by simpa using hle)))
   have HD : Hid (t <= zs.getD m 0 -> ∀ x ∈ zs.drop m, t <= x) := fun hle x hx => by
    by_cases hxt : t <= x
    . exact hxt
    exfalso
    obtain ⟨q, hq⟩ := List.mem_iff_getElem?.1 hx
    rw [List.getElem?_drop] at hq
    have hql : m + q < zs.length := (List.getElem?_eq_some_iff.1 hq).1
    have h1 := take_le (k := m + q + 1) (n := x) ha (by omega) (.inr (by rw [Nat.add_sub_cancel, List.getD_eq_getElem?_getD, hq]; exact Int.le_refl _)) (zs.getD m 0) (List.mem_iff_getElem?.2 ⟨m, by rw [List.getElem?_take, if_pos (by omega), List.getD_eq_getElem?_getD, List.getElem?_eq_getElem (by omega)]; rfl⟩)
    omega
   generalize zs.getD m 0 = x at hc1 HA HD
   have HLO := hidden hlo
   have HHI := hidden hhi
   clear hlo hhi hcz
   go_wp2_with fail
   refine (less_any _ _ _).mono ?_
   rintro e w1 ⟨rfl, hs1⟩
   by_cases hx : x < t
   . have hd : decide (x < t) = true := by simp [hx]
     go_wp2
     go_roundw
     case rel => exact ⟨m + 1, j, by omega, hj, by go_num, rfl, fun y hy => by
      have := HA.out x (Int.le_refl _) y hy
      omega, HHI.out, hs.trans hs1⟩
     case measure => simp [intOf]; omega
   have hd : decide (x < t) = false := by simp [hx]
   go_wp2
   go_roundw
   case rel => exact ⟨i, m, hm1, by omega, rfl, rfl, HLO.out, HD.out (by omega), hs.trans hs1⟩
   case measure => simp [intOf]; omega
 have e : i = j := by omega
 subst e
 by_cases hil : i < len
 . rcases hr.cases with h0 | ⟨b, off, rfl, hbl, hcz⟩
   . omega
   have hc1 := (hs.cell _).trans (hcz i (by omega))
   have k2 : (0 : Int) <= (i : Int) := by omega
   have k3 : (i : Int) < (len : Int) := by omega
   have HIN : Hid (inL zs t = decide (zs.getD i 0 = t)) := by
    unfold Hid inL
    by_cases he : zs.getD i 0 = t
    . rw [decide_eq_true he, List.any_eq_true]
      exact ⟨zs.getD i 0, List.mem_iff_getElem?.2 ⟨i, by rw [List.getD_eq_getElem?_getD, List.getElem?_eq_getElem (by omega)]; rfl⟩, decide_eq_true he⟩
    rw [decide_eq_false he, List.any_eq_false]
    intro y hy
    simp only [decide_eq_true_eq]
    intro hyt
    obtain ⟨q, hq⟩ := List.mem_iff_getElem?.1 hy
    have hql : q < zs.length := (List.getElem?_eq_some_iff.1 hq).1
    by_cases hqi : q < i
    . have := hlo y (List.mem_iff_getElem?.2 ⟨q, by rw [List.getElem?_take, if_pos hqi]; exact hq⟩)
      omega
    have h1 := take_le (k := q + 1) (n := y) ha (by omega) (.inr (by rw [Nat.add_sub_cancel, List.getD_eq_getElem?_getD, hq]; exact Int.le_refl _)) (zs.getD i 0) (List.mem_iff_getElem?.2 ⟨i, by rw [List.getElem?_take, if_pos (by omega), List.getD_eq_getElem?_getD, List.getElem?_eq_getElem (by omega)]; rfl⟩)
    have h2 := hhi (zs.getD i 0) (List.mem_iff_getElem?.2 ⟨0, by rw [List.getElem?_drop, List.getD_eq_getElem?_getD, Nat.add_zero, List.getElem?_eq_getElem (by omega)]; rfl⟩)
    omega
   generalize zs.getD i 0 = x at hc1 HIN
   have HLO := hidden hlo
   have HHI := hidden hhi
   clear hlo hhi hcz
   by_cases hx : x = t
   . subst hx
     go_wp2
     go_ret2
     exact ⟨i, by rw [HIN.out]; simp, hj, HLO.out, HHI.out, hs⟩
   go_wp2
   go_ret2
   exact ⟨i, by rw [HIN.out]; simp [hx], hj, HLO.out, HHI.out, hs⟩
 have HIN : Hid (inL zs t = false) := by
  unfold Hid inL
  rw [List.any_eq_false]
  intro y hy
  have := hlo y (by rw [List.take_of_length_le (by omega)]; exact hy)
  simp
  omega
 have k3 : ¬ (i : Int) < (len : Int) := by omega
 have HLO := hidden hlo
 have HHI := hidden hhi
 clear hlo hhi
 go_wp2
 go_ret2
 exact ⟨i, by rw [HIN.out]; rfl, hj, HLO.out, HHI.out, hs⟩

theorem implSpoilSec_any (w : World) (E : TypeId) (a0 a1 a3 : Option Addr) (n0 c0 n1 c1 n3 c3 : Nat) (ss : List (List Int)) (cs : List (Int × List Int)) (f : Bool) (bs : List Int) (n : Int) (h0 : tIntSS.Rd w [.slice a0 n0 c0] ss) (h1 : (tWrS E).Rd w [.slice a1 n1 c1] cs) (h3 : tIntS.Rd w [.slice a3 n3 c3] bs) (hw : wtMem (ss, cs, f, bs) <= 2097152) :
 Calls Try.prog 53 #[.agg #[.slice a0 n0 c0, .slice a1 n1 c1, .bool f, .slice a3 n3 c3], .int .i64 n] w fun e w' => ∃ v0 v1 v3, e = .returned (.agg #[v0, v1, .bool f, v3]) /\ (tMem 115).Own w' w.heap.size w'.heap.size [v0, v1, .bool f, v3] (ss, cs, f, spBS ss cs bs n) /\ Below w.heap.size w w' := by
 obtain ⟨hl0, _, hm0⟩ := row_length h0
 obtain ⟨hl1, _, hm1⟩ := row_length h1
 obtain ⟨hl3, _, hm3⟩ := row_length h3
 have hw3 : n3 <= 2097152 := by unfold wtMem at hw; simp only at hw; omega
 by_cases hM : memB ss cs bs = true
 . by_cases hI : inB n 0 ((n0 : Int) - 1) = true
   . by_cases hH : inL bs n = true
     . have hok : spOk ss cs bs n = false := by unfold spOk; simp [hH]
       have e1 : spBS ss cs bs n = bs := by unfold spBS; rw [hok]; rfl
       rw [e1]
       clear hok e1
       have hA : Below w.heap.size w ((w.alloc (.cells #[.slice a0 n0 c0, .slice a1 n1 c1, .bool f, .slice a3 n3 c3] 75)).alloc (.cells #[.slice none 0 0, .slice none 0 0, .bool false, .slice none 0 0] 75)) := ((Below.refl _ _).alloc (Nat.le_refl _) _).alloc (by simp) _
       have xm : Box ((w.alloc (.cells #[.slice a0 n0 c0, .slice a1 n1 c1, .bool f, .slice a3 n3 c3] 75)).alloc (.cells #[.slice none 0 0, .slice none 0 0, .bool false, .slice none 0 0] 75)) w.heap.size 75 #[.slice a0 n0 c0, .slice a1 n1 c1, .bool f, .slice a3 n3 c3] := (Box.new w _ _).alloc _
       have xr : Box ((w.alloc (.cells #[.slice a0 n0 c0, .slice a1 n1 c1, .bool f, .slice a3 n3 c3] 75)).alloc (.cells #[.slice none 0 0, .slice none 0 0, .bool false, .slice none 0 0] 75)) (w.heap.size + 1) 75 #[.slice none 0 0, .slice none 0 0, .bool false, .slice none 0 0] := by
        have := Box.new (w.alloc (.cells #[.slice a0 n0 c0, .slice a1 n1 c1, .bool f, .slice a3 n3 c3] 75)) 75 #[.slice none 0 0, .slice none 0 0, .bool false, .slice none 0 0]
        rw [show (w.alloc (.cells #[.slice a0 n0 c0, .slice a1 n1 c1, .bool f, .slice a3 n3 c3] 75)).heap.size = w.heap.size + 1 by simp] at this
        exact this
       go_enter Try.func53, Try.ntmps53
       go_wp2_with fail
       generalize hW : (w.alloc (.cells #[.slice a0 n0 c0, .slice a1 n1 c1, .bool f, .slice a3 n3 c3] 75)).alloc (.cells #[.slice none 0 0, .slice none 0 0, .bool false, .slice none 0 0] 75) = W at hA xm xr ⊢
       clear hW
       have zr := xr.lt
       have B0 := hidden hA
       clear hA
       have XM0 := hidden xm
       clear xm
       have XR0 := hidden xr
       clear xr
       refine (copyMem_any _ E _ _ _ _ _ _ _ _ _ ss cs f bs (h0.below B0.out) (h1.below B0.out) (h3.below B0.out) hw).mono ?_
       intro e w1 hc
       obtain ⟨b0, b1, b3, e0, e1, e3, m1, m2, rfl, o3, o0, o1, r1, r2, r3, hb1⟩ := copy_shapes hl0 hl1 hl3 hc
       clear hc
       have B1 := hidden (Below.andThen B0.out hb1)
       have XM1 := hidden (XM0.out.below hb1 (by omega))
       have XR1 := hidden (XR0.out.below hb1 (by omega))
       have z1 := hb1.size
       clear B0 XM0 XR0 hb1
       have S1 := hidden o0
       clear o0
       have C1 := hidden o1
       clear o1
       have D1 := hidden o3
       clear o3
       have ba : Below w1.heap.size w1 (w1.alloc (.cells #[.slice b0 n0 e0, .slice b1 n1 e1, .bool f, .slice b3 n3 e3] 75)) := (Below.refl _ _).alloc (Nat.le_refl _) _
       have yo := Box.new w1 75 #[.slice b0 n0 e0, .slice b1 n1 e1, .bool f, .slice b3 n3 e3]
       have zo := yo.lt
       have B2 := hidden (Below.andThen B1.out ba)
       have XM2 := hidden (XM1.out.below ba (by omega))
       have XR2 := hidden (XR1.out.below ba (by omega))
       have S2 := hidden (S1.out.below ba)
       have C2 := hidden (C1.out.below ba)
       have D2 := hidden (D1.out.below ba)
       have z2 := ba.size
       clear B1 XM1 XR1 S1 C1 D1 ba
       have XO2 := hidden yo
       clear yo
       have sW : w.heap.size + 1 < W.heap.size := zr
       obtain ⟨q0, q1, q2, q3⟩ := XM2.out.cells4
       go_wp2_with fail
       generalize w1.alloc (.cells #[.slice b0 n0 e0, .slice b1 n1 e1, .bool f, .slice b3 n3 e3] 75) = w2 at B2 XM2 XR2 S2 C2 D2 XO2 z2 zo q0 q1 q2 q3 ⊢
       refine (implMemOk_any _ E _ _ _ _ _ _ _ _ _ ss cs f bs (h0.below B2.out) (h1.below B2.out) (h3.below B2.out) hw).mono ?_
       rintro e w3 ⟨rfl, hb3⟩
       clear q0 q1 q2 q3
       have B3 := hidden (Below.andThen B2.out hb3)
       have XM3 := hidden (XM2.out.below hb3 (by omega))
       have XR3 := hidden (XR2.out.below hb3 (by omega))
       have S3 := hidden (S2.out.below hb3)
       have C3 := hidden (C2.out.below hb3)
       have D3 := hidden (D2.out.below hb3)
       have XO3 := hidden (XO2.out.below hb3 (by omega))
       have z3 := hb3.size
       clear B2 XM2 XR2 S2 C2 D2 XO2 hb3
       obtain ⟨q0, q1, q2, q3⟩ := XM3.out.cells4
       go_wp2_with fail
       refine (hasSec_any _ _ _ _ _ _ _ _).mono ?_
       rintro e w4 ⟨rfl, hb4⟩
       clear q0 q1 q2 q3
       have B4 := hidden (Below.andThen B3.out hb4)
       have XM4 := hidden (XM3.out.below hb4 (by omega))
       have XR4 := hidden (XR3.out.below hb4 (by omega))
       have S4 := hidden (S3.out.below hb4)
       have C4 := hidden (C3.out.below hb4)
       have D4 := hidden (D3.out.below hb4)
       have XO4 := hidden (XO3.out.below hb4 (by omega))
       have z4 := hb4.size
       clear B3 XM3 XR3 S3 C3 D3 XO3 hb4
       obtain ⟨x0, x1, x2, x3⟩ := XO4.out.cells4
       go_wp2_with fail
       refine (search_any _ _ _ _ bs n hl3 (ints_rd D4.out.rd).1 hw3 (bad_lt hM)).mono ?_
       rintro e w5 ⟨k, rfl, hk, hlo, hhi, hs5⟩
       have HLO := hidden hlo
       have HHI := hidden hhi
       clear hlo hhi
       clear x0 x1 x2 x3
       have B5 := hidden (Below.andSame B4.out hs5)
       have XM5 := hidden (XM4.out.same hs5)
       have XR5 := hidden (XR4.out.same hs5)
       have S5 := hidden (S4.out.same hs5)
       have C5 := hidden (C4.out.same hs5)
       have D5 := hidden (D4.out.same hs5)
       have XO5 := hidden (XO4.out.same hs5)
       have z5 := Nat.le_of_eq hs5.size.symm
       clear B4 XM4 XR4 S4 C4 D4 XO4 hs5
       obtain ⟨x0, x1, x2, x3⟩ := XO5.out.cells4
       obtain ⟨p0, p1, p2, p3⟩ := XR5.out.cells4
       have fz := XR5.out.frozen
       have hbt : But (w.heap.size + 1) (w.heap.size + 1 + 1) w5 ((((w5.setCell ⟨w.heap.size + 1, 0, none⟩ (.slice b0 n0 e0)).setCell ⟨w.heap.size + 1, 1, none⟩ (.slice b1 n1 e1)).setCell ⟨w.heap.size + 1, 2, none⟩ (.bool f)).setCell ⟨w.heap.size + 1, 3, none⟩ (.slice b3 n3 e3)) :=
        (((But.setCell (by omega) (by omega) _).trans (But.setCell (by omega) (by omega) _)).trans (But.setCell (by omega) (by omega) _)).trans (But.setCell (by omega) (by omega) _)
       have z99 := hbt.size
       have FIN : Hid ((tMem 115).Own ((((w5.setCell ⟨w.heap.size + 1, 0, none⟩ (.slice b0 n0 e0)).setCell ⟨w.heap.size + 1, 1, none⟩ (.slice b1 n1 e1)).setCell ⟨w.heap.size + 1, 2, none⟩ (.bool f)).setCell ⟨w.heap.size + 1, 3, none⟩ (.slice b3 n3 e3)) w.heap.size ((((w5.setCell ⟨w.heap.size + 1, 0, none⟩ (.slice b0 n0 e0)).setCell ⟨w.heap.size + 1, 1, none⟩ (.slice b1 n1 e1)).setCell ⟨w.heap.size + 1, 2, none⟩ (.bool f)).setCell ⟨w.heap.size + 1, 3, none⟩ (.slice b3 n3 e3)).heap.size [.slice b0 n0 e0, .slice b1 n1 e1, .bool f, .slice b3 n3 e3] (ss, cs, f, bs)) := mem_own3 (S5.out.but hbt (by omega)) (C5.out.but hbt (by omega)) (D5.out.but hbt (by omega)) (by omega) (by omega) (by omega) (by omega) (by omega) (by omega)
       have FB := hidden (Below.andBut B5.out hbt (by omega))
       clear hbt
       go_wp2
       refine bodyPost_ret (v := .agg #[.slice b0 n0 e0, .slice b1 n1 e1, .bool f, .slice b3 n3 e3]) (by simp [results, Try.results53, go_sem, p0, p1, p2, p3]) rfl ?_
       exact ⟨_, _, _, rfl, FIN.out, FB.out⟩
     have hH : inL bs n = false := by simpa using hH
     have hok : spOk ss cs bs n = true := by unfold spOk; rw [hM, hl0, hI, hH]; rfl
     have e1 : spBS ss cs bs n = insD bs n := by unfold spBS; rw [hok]; rfl
     rw [e1]
     clear hok e1
     have hA : Below w.heap.size w ((w.alloc (.cells #[.slice a0 n0 c0, .slice a1 n1 c1, .bool f, .slice a3 n3 c3] 75)).alloc (.cells #[.slice none 0 0, .slice none 0 0, .bool false, .slice none 0 0] 75)) := ((Below.refl _ _).alloc (Nat.le_refl _) _).alloc (by simp) _
     have xm : Box ((w.alloc (.cells #[.slice a0 n0 c0, .slice a1 n1 c1, .bool f, .slice a3 n3 c3] 75)).alloc (.cells #[.slice none 0 0, .slice none 0 0, .bool false, .slice none 0 0] 75)) w.heap.size 75 #[.slice a0 n0 c0, .slice a1 n1 c1, .bool f, .slice a3 n3 c3] := (Box.new w _ _).alloc _
     have xr : Box ((w.alloc (.cells #[.slice a0 n0 c0, .slice a1 n1 c1, .bool f, .slice a3 n3 c3] 75)).alloc (.cells #[.slice none 0 0, .slice none 0 0, .bool false, .slice none 0 0] 75)) (w.heap.size + 1) 75 #[.slice none 0 0, .slice none 0 0, .bool false, .slice none 0 0] := by
      have := Box.new (w.alloc (.cells #[.slice a0 n0 c0, .slice a1 n1 c1, .bool f, .slice a3 n3 c3] 75)) 75 #[.slice none 0 0, .slice none 0 0, .bool false, .slice none 0 0]
      rw [show (w.alloc (.cells #[.slice a0 n0 c0, .slice a1 n1 c1, .bool f, .slice a3 n3 c3] 75)).heap.size = w.heap.size + 1 by simp] at this
      exact this
     go_enter Try.func53, Try.ntmps53
     go_wp2_with fail
     generalize hW : (w.alloc (.cells #[.slice a0 n0 c0, .slice a1 n1 c1, .bool f, .slice a3 n3 c3] 75)).alloc (.cells #[.slice none 0 0, .slice none 0 0, .bool false, .slice none 0 0] 75) = W at hA xm xr ⊢
     clear hW
     have zr := xr.lt
     have B0 := hidden hA
     clear hA
     have XM0 := hidden xm
     clear xm
     have XR0 := hidden xr
     clear xr
     refine (copyMem_any _ E _ _ _ _ _ _ _ _ _ ss cs f bs (h0.below B0.out) (h1.below B0.out) (h3.below B0.out) hw).mono ?_
     intro e w1 hc
     obtain ⟨b0, b1, b3, e0, e1, e3, m1, m2, rfl, o3, o0, o1, r1, r2, r3, hb1⟩ := copy_shapes hl0 hl1 hl3 hc
     clear hc
     have B1 := hidden (Below.andThen B0.out hb1)
     have XM1 := hidden (XM0.out.below hb1 (by omega))
     have XR1 := hidden (XR0.out.below hb1 (by omega))
     have z1 := hb1.size
     clear B0 XM0 XR0 hb1
     have S1 := hidden o0
     clear o0
     have C1 := hidden o1
     clear o1
     have D1 := hidden o3
     clear o3
     have ba : Below w1.heap.size w1 (w1.alloc (.cells #[.slice b0 n0 e0, .slice b1 n1 e1, .bool f, .slice b3 n3 e3] 75)) := (Below.refl _ _).alloc (Nat.le_refl _) _
     have yo := Box.new w1 75 #[.slice b0 n0 e0, .slice b1 n1 e1, .bool f, .slice b3 n3 e3]
     have zo := yo.lt
     have B2 := hidden (Below.andThen B1.out ba)
     have XM2 := hidden (XM1.out.below ba (by omega))
     have XR2 := hidden (XR1.out.below ba (by omega))
     have S2 := hidden (S1.out.below ba)
     have C2 := hidden (C1.out.below ba)
     have D2 := hidden (D1.out.below ba)
     have z2 := ba.size
     clear B1 XM1 XR1 S1 C1 D1 ba
     have XO2 := hidden yo
     clear yo
     have sW : w.heap.size + 1 < W.heap.size := zr
     obtain ⟨q0, q1, q2, q3⟩ := XM2.out.cells4
     go_wp2_with fail
     generalize w1.alloc (.cells #[.slice b0 n0 e0, .slice b1 n1 e1, .bool f, .slice b3 n3 e3] 75) = w2 at B2 XM2 XR2 S2 C2 D2 XO2 z2 zo q0 q1 q2 q3 ⊢
     refine (implMemOk_any _ E _ _ _ _ _ _ _ _ _ ss cs f bs (h0.below B2.out) (h1.below B2.out) (h3.below B2.out) hw).mono ?_
     rintro e w3 ⟨rfl, hb3⟩
     clear q0 q1 q2 q3
     have B3 := hidden (Below.andThen B2.out hb3)
     have XM3 := hidden (XM2.out.below hb3 (by omega))
     have XR3 := hidden (XR2.out.below hb3 (by omega))
     have S3 := hidden (S2.out.below hb3)
     have C3 := hidden (C2.out.below hb3)
     have D3 := hidden (D2.out.below hb3)
     have XO3 := hidden (XO2.out.below hb3 (by omega))
     have z3 := hb3.size
     clear B2 XM2 XR2 S2 C2 D2 XO2 hb3
     obtain ⟨q0, q1, q2, q3⟩ := XM3.out.cells4
     go_wp2_with fail
     refine (hasSec_any _ _ _ _ _ _ _ _).mono ?_
     rintro e w4 ⟨rfl, hb4⟩
     clear q0 q1 q2 q3
     have B4 := hidden (Below.andThen B3.out hb4)
     have XM4 := hidden (XM3.out.below hb4 (by omega))
     have XR4 := hidden (XR3.out.below hb4 (by omega))
     have S4 := hidden (S3.out.below hb4)
     have C4 := hidden (C3.out.below hb4)
     have D4 := hidden (D3.out.below hb4)
     have XO4 := hidden (XO3.out.below hb4 (by omega))
     have z4 := hb4.size
     clear B3 XM3 XR3 S3 C3 D3 XO3 hb4
     obtain ⟨x0, x1, x2, x3⟩ := XO4.out.cells4
     go_wp2_with fail
     refine (search_any _ _ _ _ bs n hl3 (ints_rd D4.out.rd).1 hw3 (bad_lt hM)).mono ?_
     rintro e w5 ⟨k, rfl, hk, hlo, hhi, hs5⟩
     have HLO := hidden hlo
     have HHI := hidden hhi
     clear hlo hhi
     clear x0 x1 x2 x3
     have B5 := hidden (Below.andSame B4.out hs5)
     have XM5 := hidden (XM4.out.same hs5)
     have XR5 := hidden (XR4.out.same hs5)
     have S5 := hidden (S4.out.same hs5)
     have C5 := hidden (C4.out.same hs5)
     have D5 := hidden (D4.out.same hs5)
     have XO5 := hidden (XO4.out.same hs5)
     have z5 := Nat.le_of_eq hs5.size.symm
     clear B4 XM4 XR4 S4 C4 D4 XO4 hs5
     obtain ⟨x0, x1, x2, x3⟩ := XO5.out.cells4
     go_wp2_with fail
     clear x0 x1 x2 x3
     have HI : Hid (insD bs n = bs.take k ++ n :: bs.drop k) := ins_eq (fun x hx => Int.le_of_lt (HLO.out x hx)) (fun x hx => by
      have h1 := HHI.out x hx
      have h2 : x ≠ n := fun e => by
       have : inL bs n = true := by
        unfold inL
        rw [List.any_eq_true]
        exact ⟨x, List.mem_of_mem_drop hx, decide_eq_true e⟩
       rw [hH] at this
       cases this
      omega) (by omega)
     clear HLO HHI
     have ba : Below w5.heap.size w5 (w5.alloc (.cells #[.int .i64 n] 3)) := (Below.refl _ _).alloc (Nat.le_refl _) _
     have yv := Box.new w5 3 #[.int .i64 n]
     have zv := yv.lt
     have B6 := hidden (Below.andThen B5.out ba)
     have XM6 := hidden (XM5.out.below ba (by omega))
     have XR6 := hidden (XR5.out.below ba (by omega))
     have S6 := hidden (S5.out.below ba)
     have C6 := hidden (C5.out.below ba)
     have D6 := hidden (D5.out.below ba)
     have XO6 := hidden (XO5.out.below ba (by omega))
     have z6 := ba.size
     clear B5 XM5 XR5 S5 C5 D5 XO5 ba
     have YV := hidden yv
     clear yv
     generalize w5.alloc (.cells #[.int .i64 n] 3) = w6 at B6 XM6 XR6 S6 C6 D6 XO6 z6 zv YV ⊢
     refine (insert_any _ W.heap.size m1 b3 n3 e3 bs k n w5.heap.size 3 D6.out YV.out (.inr (by omega)) hk hw3).mono ?_
     rintro e wb ⟨d3, f3, l7, u7, rfl, od, hlu, hbB⟩
     rw [← HI.out] at od
     clear HI YV
     have zb := hbB.size
     have xob : Box wb w1.heap.size 75 _ := XO6.out.kept (hbB.block _ (by omega) (by omega))
     obtain ⟨x0, x1, x2, x3⟩ := xob.cells4
     have fz := xob.frozen 3
     have XOB := hidden xob
     have OD := hidden od
     have HBB := hidden hbB
     clear xob od hbB
     have bs9 := But.setCell (lo := w1.heap.size) (hi := w1.heap.size + 1) (g := w1.heap.size) (j := 3) (w := wb) (Nat.le_refl _) (Nat.lt_succ_self _) (.slice d3 (n3 + 1) f3)
     have zt := bs9.size
     have YZ := hidden (XOB.out.set 3 (.slice d3 (n3 + 1) f3))
     have D7 := hidden (OD.out.but bs9 (by omega))
     have S7 := hidden ((S6.out.but HBB.out (by omega)).but bs9 (by omega))
     have C7 := hidden ((C6.out.but HBB.out (by omega)).but bs9 (by omega))
     have XR7 := hidden ((XR6.out.kept (HBB.out.block _ (by omega) (by omega))).kept (bs9.block _ (by omega) (by omega)))
     have B7 := hidden (Below.andBut (Below.andBut B6.out HBB.out (by omega)) bs9 (by omega))
     have z7 : w6.heap.size <= (wb.setCell ⟨w1.heap.size, 3, none⟩ (.slice d3 (n3 + 1) f3)).heap.size := by omega
     have hlu7 : (l7 = W.heap.size /\ u7 = m1) ∨ (w6.heap.size <= l7 /\ u7 <= (wb.setCell ⟨w1.heap.size, 3, none⟩ (.slice d3 (n3 + 1) f3)).heap.size) := by omega
     clear bs9 zt zb hlu XOB OD HBB B6 XM6 XR6 S6 C6 D6 XO6
     obtain ⟨t0, t1, t2, t3⟩ := Box.cells4 (v0 := .slice b0 n0 e0) (v1 := .slice b1 n1 e1) (v2 := .bool f) (v3 := .slice d3 (n3 + 1) f3) YZ.out
     obtain ⟨p0, p1, p2, p3⟩ := XR7.out.cells4
     have fr := XR7.out.frozen
     go_wp2
     generalize (wb.setCell ⟨w1.heap.size, 3, none⟩ (.slice d3 (n3 + 1) f3)) = w7 at B7 S7 C7 D7 XR7 YZ z7 hlu7 p0 p1 p2 p3 fr t0 t1 t2 t3 ⊢
     have hbt : But (w.heap.size + 1) (w.heap.size + 1 + 1) w7 ((((w7.setCell ⟨w.heap.size + 1, 0, none⟩ (.slice b0 n0 e0)).setCell ⟨w.heap.size + 1, 1, none⟩ (.slice b1 n1 e1)).setCell ⟨w.heap.size + 1, 2, none⟩ (.bool f)).setCell ⟨w.heap.size + 1, 3, none⟩ (.slice d3 (n3 + 1) f3)) :=
      (((But.setCell (by omega) (by omega) _).trans (But.setCell (by omega) (by omega) _)).trans (But.setCell (by omega) (by omega) _)).trans (But.setCell (by omega) (by omega) _)
     have z99 := hbt.size
     refine bodyPost_ret (v := .agg #[.slice b0 n0 e0, .slice b1 n1 e1, .bool f, .slice d3 (n3 + 1) f3]) (by simp [results, Try.results53, go_sem, p0, p1, p2, p3]) rfl ?_
     have FIN : Hid ((tMem 115).Own ((((w7.setCell ⟨w.heap.size + 1, 0, none⟩ (.slice b0 n0 e0)).setCell ⟨w.heap.size + 1, 1, none⟩ (.slice b1 n1 e1)).setCell ⟨w.heap.size + 1, 2, none⟩ (.bool f)).setCell ⟨w.heap.size + 1, 3, none⟩ (.slice d3 (n3 + 1) f3)) w.heap.size ((((w7.setCell ⟨w.heap.size + 1, 0, none⟩ (.slice b0 n0 e0)).setCell ⟨w.heap.size + 1, 1, none⟩ (.slice b1 n1 e1)).setCell ⟨w.heap.size + 1, 2, none⟩ (.bool f)).setCell ⟨w.heap.size + 1, 3, none⟩ (.slice d3 (n3 + 1) f3)).heap.size [.slice b0 n0 e0, .slice b1 n1 e1, .bool f, .slice d3 (n3 + 1) f3] (ss, cs, f, insD bs n)) := mem_own3 (S7.out.but hbt (by omega)) (C7.out.but hbt (by omega)) (D7.out.but hbt (by omega)) (by omega) (by omega) (by omega) (by omega) (by omega) (by omega)
     have FB := hidden (Below.andBut B7.out hbt (by omega))
     exact ⟨_, _, _, rfl, FIN.out, FB.out⟩
   have hI : inB n 0 ((n0 : Int) - 1) = false := by simpa using hI
   have hI2 : inB n 0 ((ss.length : Int) - 1) = false := by rw [hl0]; exact hI
   have hok : spOk ss cs bs n = false := by unfold spOk; simp [hI2]
   have e1 : spBS ss cs bs n = bs := by unfold spBS; rw [hok]; rfl
   rw [e1]
   clear hok e1
   have hA : Below w.heap.size w ((w.alloc (.cells #[.slice a0 n0 c0, .slice a1 n1 c1, .bool f, .slice a3 n3 c3] 75)).alloc (.cells #[.slice none 0 0, .slice none 0 0, .bool false, .slice none 0 0] 75)) := ((Below.refl _ _).alloc (Nat.le_refl _) _).alloc (by simp) _
   have xm : Box ((w.alloc (.cells #[.slice a0 n0 c0, .slice a1 n1 c1, .bool f, .slice a3 n3 c3] 75)).alloc (.cells #[.slice none 0 0, .slice none 0 0, .bool false, .slice none 0 0] 75)) w.heap.size 75 #[.slice a0 n0 c0, .slice a1 n1 c1, .bool f, .slice a3 n3 c3] := (Box.new w _ _).alloc _
   have xr : Box ((w.alloc (.cells #[.slice a0 n0 c0, .slice a1 n1 c1, .bool f, .slice a3 n3 c3] 75)).alloc (.cells #[.slice none 0 0, .slice none 0 0, .bool false, .slice none 0 0] 75)) (w.heap.size + 1) 75 #[.slice none 0 0, .slice none 0 0, .bool false, .slice none 0 0] := by
    have := Box.new (w.alloc (.cells #[.slice a0 n0 c0, .slice a1 n1 c1, .bool f, .slice a3 n3 c3] 75)) 75 #[.slice none 0 0, .slice none 0 0, .bool false, .slice none 0 0]
    rw [show (w.alloc (.cells #[.slice a0 n0 c0, .slice a1 n1 c1, .bool f, .slice a3 n3 c3] 75)).heap.size = w.heap.size + 1 by simp] at this
    exact this
   go_enter Try.func53, Try.ntmps53
   go_wp2_with fail
   generalize hW : (w.alloc (.cells #[.slice a0 n0 c0, .slice a1 n1 c1, .bool f, .slice a3 n3 c3] 75)).alloc (.cells #[.slice none 0 0, .slice none 0 0, .bool false, .slice none 0 0] 75) = W at hA xm xr ⊢
   clear hW
   have zr := xr.lt
   have B0 := hidden hA
   clear hA
   have XM0 := hidden xm
   clear xm
   have XR0 := hidden xr
   clear xr
   refine (copyMem_any _ E _ _ _ _ _ _ _ _ _ ss cs f bs (h0.below B0.out) (h1.below B0.out) (h3.below B0.out) hw).mono ?_
   intro e w1 hc
   obtain ⟨b0, b1, b3, e0, e1, e3, m1, m2, rfl, o3, o0, o1, r1, r2, r3, hb1⟩ := copy_shapes hl0 hl1 hl3 hc
   clear hc
   have B1 := hidden (Below.andThen B0.out hb1)
   have XM1 := hidden (XM0.out.below hb1 (by omega))
   have XR1 := hidden (XR0.out.below hb1 (by omega))
   have z1 := hb1.size
   clear B0 XM0 XR0 hb1
   have S1 := hidden o0
   clear o0
   have C1 := hidden o1
   clear o1
   have D1 := hidden o3
   clear o3
   have ba : Below w1.heap.size w1 (w1.alloc (.cells #[.slice b0 n0 e0, .slice b1 n1 e1, .bool f, .slice b3 n3 e3] 75)) := (Below.refl _ _).alloc (Nat.le_refl _) _
   have yo := Box.new w1 75 #[.slice b0 n0 e0, .slice b1 n1 e1, .bool f, .slice b3 n3 e3]
   have zo := yo.lt
   have B2 := hidden (Below.andThen B1.out ba)
   have XM2 := hidden (XM1.out.below ba (by omega))
   have XR2 := hidden (XR1.out.below ba (by omega))
   have S2 := hidden (S1.out.below ba)
   have C2 := hidden (C1.out.below ba)
   have D2 := hidden (D1.out.below ba)
   have z2 := ba.size
   clear B1 XM1 XR1 S1 C1 D1 ba
   have XO2 := hidden yo
   clear yo
   have sW : w.heap.size + 1 < W.heap.size := zr
   obtain ⟨q0, q1, q2, q3⟩ := XM2.out.cells4
   go_wp2_with fail
   generalize w1.alloc (.cells #[.slice b0 n0 e0, .slice b1 n1 e1, .bool f, .slice b3 n3 e3] 75) = w2 at B2 XM2 XR2 S2 C2 D2 XO2 z2 zo q0 q1 q2 q3 ⊢
   refine (implMemOk_any _ E _ _ _ _ _ _ _ _ _ ss cs f bs (h0.below B2.out) (h1.below B2.out) (h3.below B2.out) hw).mono ?_
   rintro e w3 ⟨rfl, hb3⟩
   clear q0 q1 q2 q3
   have B3 := hidden (Below.andThen B2.out hb3)
   have XM3 := hidden (XM2.out.below hb3 (by omega))
   have XR3 := hidden (XR2.out.below hb3 (by omega))
   have S3 := hidden (S2.out.below hb3)
   have C3 := hidden (C2.out.below hb3)
   have D3 := hidden (D2.out.below hb3)
   have XO3 := hidden (XO2.out.below hb3 (by omega))
   have z3 := hb3.size
   clear B2 XM2 XR2 S2 C2 D2 XO2 hb3
   obtain ⟨q0, q1, q2, q3⟩ := XM3.out.cells4
   go_wp2_with fail
   refine (hasSec_any _ _ _ _ _ _ _ _).mono ?_
   rintro e w4 ⟨rfl, hb4⟩
   clear q0 q1 q2 q3
   have B4 := hidden (Below.andThen B3.out hb4)
   have XM4 := hidden (XM3.out.below hb4 (by omega))
   have XR4 := hidden (XR3.out.below hb4 (by omega))
   have S4 := hidden (S3.out.below hb4)
   have C4 := hidden (C3.out.below hb4)
   have D4 := hidden (D3.out.below hb4)
   have XO4 := hidden (XO3.out.below hb4 (by omega))
   have z4 := hb4.size
   clear B3 XM3 XR3 S3 C3 D3 XO3 hb4
   obtain ⟨x0, x1, x2, x3⟩ := XO4.out.cells4
   obtain ⟨p0, p1, p2, p3⟩ := XR4.out.cells4
   have fz := XR4.out.frozen
   have hbt : But (w.heap.size + 1) (w.heap.size + 1 + 1) w4 ((((w4.setCell ⟨w.heap.size + 1, 0, none⟩ (.slice b0 n0 e0)).setCell ⟨w.heap.size + 1, 1, none⟩ (.slice b1 n1 e1)).setCell ⟨w.heap.size + 1, 2, none⟩ (.bool f)).setCell ⟨w.heap.size + 1, 3, none⟩ (.slice b3 n3 e3)) :=
    (((But.setCell (by omega) (by omega) _).trans (But.setCell (by omega) (by omega) _)).trans (But.setCell (by omega) (by omega) _)).trans (But.setCell (by omega) (by omega) _)
   have z99 := hbt.size
   have FIN : Hid ((tMem 115).Own ((((w4.setCell ⟨w.heap.size + 1, 0, none⟩ (.slice b0 n0 e0)).setCell ⟨w.heap.size + 1, 1, none⟩ (.slice b1 n1 e1)).setCell ⟨w.heap.size + 1, 2, none⟩ (.bool f)).setCell ⟨w.heap.size + 1, 3, none⟩ (.slice b3 n3 e3)) w.heap.size ((((w4.setCell ⟨w.heap.size + 1, 0, none⟩ (.slice b0 n0 e0)).setCell ⟨w.heap.size + 1, 1, none⟩ (.slice b1 n1 e1)).setCell ⟨w.heap.size + 1, 2, none⟩ (.bool f)).setCell ⟨w.heap.size + 1, 3, none⟩ (.slice b3 n3 e3)).heap.size [.slice b0 n0 e0, .slice b1 n1 e1, .bool f, .slice b3 n3 e3] (ss, cs, f, bs)) := mem_own3 (S4.out.but hbt (by omega)) (C4.out.but hbt (by omega)) (D4.out.but hbt (by omega)) (by omega) (by omega) (by omega) (by omega) (by omega) (by omega)
   have FB := hidden (Below.andBut B4.out hbt (by omega))
   clear hbt
   go_wp2
   refine bodyPost_ret (v := .agg #[.slice b0 n0 e0, .slice b1 n1 e1, .bool f, .slice b3 n3 e3]) (by simp [results, Try.results53, go_sem, p0, p1, p2, p3]) rfl ?_
   exact ⟨_, _, _, rfl, FIN.out, FB.out⟩
 have hM : memB ss cs bs = false := by simpa using hM
 have hok : spOk ss cs bs n = false := by unfold spOk; simp [hM]
 have e1 : spBS ss cs bs n = bs := by unfold spBS; rw [hok]; rfl
 rw [e1]
 clear hok e1
 have hA : Below w.heap.size w ((w.alloc (.cells #[.slice a0 n0 c0, .slice a1 n1 c1, .bool f, .slice a3 n3 c3] 75)).alloc (.cells #[.slice none 0 0, .slice none 0 0, .bool false, .slice none 0 0] 75)) := ((Below.refl _ _).alloc (Nat.le_refl _) _).alloc (by simp) _
 have xm : Box ((w.alloc (.cells #[.slice a0 n0 c0, .slice a1 n1 c1, .bool f, .slice a3 n3 c3] 75)).alloc (.cells #[.slice none 0 0, .slice none 0 0, .bool false, .slice none 0 0] 75)) w.heap.size 75 #[.slice a0 n0 c0, .slice a1 n1 c1, .bool f, .slice a3 n3 c3] := (Box.new w _ _).alloc _
 have xr : Box ((w.alloc (.cells #[.slice a0 n0 c0, .slice a1 n1 c1, .bool f, .slice a3 n3 c3] 75)).alloc (.cells #[.slice none 0 0, .slice none 0 0, .bool false, .slice none 0 0] 75)) (w.heap.size + 1) 75 #[.slice none 0 0, .slice none 0 0, .bool false, .slice none 0 0] := by
  have := Box.new (w.alloc (.cells #[.slice a0 n0 c0, .slice a1 n1 c1, .bool f, .slice a3 n3 c3] 75)) 75 #[.slice none 0 0, .slice none 0 0, .bool false, .slice none 0 0]
  rw [show (w.alloc (.cells #[.slice a0 n0 c0, .slice a1 n1 c1, .bool f, .slice a3 n3 c3] 75)).heap.size = w.heap.size + 1 by simp] at this
  exact this
 go_enter Try.func53, Try.ntmps53
 go_wp2_with fail
 generalize hW : (w.alloc (.cells #[.slice a0 n0 c0, .slice a1 n1 c1, .bool f, .slice a3 n3 c3] 75)).alloc (.cells #[.slice none 0 0, .slice none 0 0, .bool false, .slice none 0 0] 75) = W at hA xm xr ⊢
 clear hW
 have zr := xr.lt
 have B0 := hidden hA
 clear hA
 have XM0 := hidden xm
 clear xm
 have XR0 := hidden xr
 clear xr
 refine (copyMem_any _ E _ _ _ _ _ _ _ _ _ ss cs f bs (h0.below B0.out) (h1.below B0.out) (h3.below B0.out) hw).mono ?_
 intro e w1 hc
 obtain ⟨b0, b1, b3, e0, e1, e3, m1, m2, rfl, o3, o0, o1, r1, r2, r3, hb1⟩ := copy_shapes hl0 hl1 hl3 hc
 clear hc
 have B1 := hidden (Below.andThen B0.out hb1)
 have XM1 := hidden (XM0.out.below hb1 (by omega))
 have XR1 := hidden (XR0.out.below hb1 (by omega))
 have z1 := hb1.size
 clear B0 XM0 XR0 hb1
 have S1 := hidden o0
 clear o0
 have C1 := hidden o1
 clear o1
 have D1 := hidden o3
 clear o3
 have ba : Below w1.heap.size w1 (w1.alloc (.cells #[.slice b0 n0 e0, .slice b1 n1 e1, .bool f, .slice b3 n3 e3] 75)) := (Below.refl _ _).alloc (Nat.le_refl _) _
 have yo := Box.new w1 75 #[.slice b0 n0 e0, .slice b1 n1 e1, .bool f, .slice b3 n3 e3]
 have zo := yo.lt
 have B2 := hidden (Below.andThen B1.out ba)
 have XM2 := hidden (XM1.out.below ba (by omega))
 have XR2 := hidden (XR1.out.below ba (by omega))
 have S2 := hidden (S1.out.below ba)
 have C2 := hidden (C1.out.below ba)
 have D2 := hidden (D1.out.below ba)
 have z2 := ba.size
 clear B1 XM1 XR1 S1 C1 D1 ba
 have XO2 := hidden yo
 clear yo
 have sW : w.heap.size + 1 < W.heap.size := zr
 obtain ⟨q0, q1, q2, q3⟩ := XM2.out.cells4
 go_wp2_with fail
 generalize w1.alloc (.cells #[.slice b0 n0 e0, .slice b1 n1 e1, .bool f, .slice b3 n3 e3] 75) = w2 at B2 XM2 XR2 S2 C2 D2 XO2 z2 zo q0 q1 q2 q3 ⊢
 refine (implMemOk_any _ E _ _ _ _ _ _ _ _ _ ss cs f bs (h0.below B2.out) (h1.below B2.out) (h3.below B2.out) hw).mono ?_
 rintro e w3 ⟨rfl, hb3⟩
 clear q0 q1 q2 q3
 have B3 := hidden (Below.andThen B2.out hb3)
 have XM3 := hidden (XM2.out.below hb3 (by omega))
 have XR3 := hidden (XR2.out.below hb3 (by omega))
 have S3 := hidden (S2.out.below hb3)
 have C3 := hidden (C2.out.below hb3)
 have D3 := hidden (D2.out.below hb3)
 have XO3 := hidden (XO2.out.below hb3 (by omega))
 have z3 := hb3.size
 clear B2 XM2 XR2 S2 C2 D2 XO2 hb3
 obtain ⟨x0, x1, x2, x3⟩ := XO3.out.cells4
 obtain ⟨p0, p1, p2, p3⟩ := XR3.out.cells4
 have fz := XR3.out.frozen
 have hbt : But (w.heap.size + 1) (w.heap.size + 1 + 1) w3 ((((w3.setCell ⟨w.heap.size + 1, 0, none⟩ (.slice b0 n0 e0)).setCell ⟨w.heap.size + 1, 1, none⟩ (.slice b1 n1 e1)).setCell ⟨w.heap.size + 1, 2, none⟩ (.bool f)).setCell ⟨w.heap.size + 1, 3, none⟩ (.slice b3 n3 e3)) :=
  (((But.setCell (by omega) (by omega) _).trans (But.setCell (by omega) (by omega) _)).trans (But.setCell (by omega) (by omega) _)).trans (But.setCell (by omega) (by omega) _)
 have z99 := hbt.size
 have FIN : Hid ((tMem 115).Own ((((w3.setCell ⟨w.heap.size + 1, 0, none⟩ (.slice b0 n0 e0)).setCell ⟨w.heap.size + 1, 1, none⟩ (.slice b1 n1 e1)).setCell ⟨w.heap.size + 1, 2, none⟩ (.bool f)).setCell ⟨w.heap.size + 1, 3, none⟩ (.slice b3 n3 e3)) w.heap.size ((((w3.setCell ⟨w.heap.size + 1, 0, none⟩ (.slice b0 n0 e0)).setCell ⟨w.heap.size + 1, 1, none⟩ (.slice b1 n1 e1)).setCell ⟨w.heap.size + 1, 2, none⟩ (.bool f)).setCell ⟨w.heap.size + 1, 3, none⟩ (.slice b3 n3 e3)).heap.size [.slice b0 n0 e0, .slice b1 n1 e1, .bool f, .slice b3 n3 e3] (ss, cs, f, bs)) := mem_own3 (S3.out.but hbt (by omega)) (C3.out.but hbt (by omega)) (D3.out.but hbt (by omega)) (by omega) (by omega) (by omega) (by omega) (by omega) (by omega)
 have FB := hidden (Below.andBut B3.out hbt (by omega))
 clear hbt
 go_wp2
 refine bodyPost_ret (v := .agg #[.slice b0 n0 e0, .slice b1 n1 e1, .bool f, .slice b3 n3 e3]) (by simp [results, Try.results53, go_sem, p0, p1, p2, p3]) rfl ?_
 exact ⟨_, _, _, rfl, FIN.out, FB.out⟩

theorem implSpoilAt_any (w : World) (E F G : TypeId) (x : ArrN) (am ad : Option Addr) (nm cm nd cd : Nat) (ms : List MemD) (ds : List (Int × List Int)) (m s : Int) (h0 : (tMemS E F).Rd w [.slice am nm cm] ms) (h1 : (tWrS G).Rd w [.slice ad nd cd] ds) (hw : wtArr ms ds <= 2097152) :
 Calls Try.prog 24 #[.agg #[.int .i64 x.id, .int .i64 x.n, .int .i64 x.s, .slice am nm cm, .int .i64 x.lost, .int .i64 x.built, .int .i64 x.seq, .int .i64 x.tail, .int .i64 x.gen, .slice ad nd cd, .int .i64 x.fuse, .bool x.down, .bool x.broken], .int .i64 m, .int .i64 s] w fun e w' => ArrOut w w' e (spoilO x ms ds m s) ds := by
 obtain ⟨rfl, _⟩ := row_length h0
 obtain ⟨rfl, _⟩ := row_length h1
 have hwm : wtMemS ms <= 2097152 := by unfold wtArr at hw; omega
 have hnm : ms.length <= 2097152 := by unfold wtMemS at hwm; omega
 have hA := (new_below w (.cells #[.int .i64 x.id, .int .i64 x.n, .int .i64 x.s, .slice am ms.length cm, .int .i64 x.lost, .int .i64 x.built, .int .i64 x.seq, .int .i64 x.tail, .int .i64 x.gen, .slice ad ds.length cd, .int .i64 x.fuse, .bool x.down, .bool x.broken] 35)).alloc (by simp) (.cells #[.int .i64 0, .int .i64 0, .int .i64 0, .slice none 0 0, .int .i64 0, .int .i64 0, .int .i64 0, .int .i64 0, .int .i64 0, .slice none 0 0, .int .i64 0, .bool false, .bool false] 35)
 have X0 : Box ((w.alloc (.cells #[.int .i64 x.id, .int .i64 x.n, .int .i64 x.s, .slice am ms.length cm, .int .i64 x.lost, .int .i64 x.built, .int .i64 x.seq, .int .i64 x.tail, .int .i64 x.gen, .slice ad ds.length cd, .int .i64 x.fuse, .bool x.down, .bool x.broken] 35)).alloc (.cells #[.int .i64 0, .int .i64 0, .int .i64 0, .slice none 0 0, .int .i64 0, .int .i64 0, .int .i64 0, .int .i64 0, .int .i64 0, .slice none 0 0, .int .i64 0, .bool false, .bool false] 35)) w.heap.size 35 #[.int .i64 x.id, .int .i64 x.n, .int .i64 x.s, .slice am ms.length cm, .int .i64 x.lost, .int .i64 x.built, .int .i64 x.seq, .int .i64 x.tail, .int .i64 x.gen, .slice ad ds.length cd, .int .i64 x.fuse, .bool x.down, .bool x.broken] := (Box.new w _ _).alloc _
 have R0 := Box.new (w.alloc (.cells #[.int .i64 x.id, .int .i64 x.n, .int .i64 x.s, .slice am ms.length cm, .int .i64 x.lost, .int .i64 x.built, .int .i64 x.seq, .int .i64 x.tail, .int .i64 x.gen, .slice ad ds.length cd, .int .i64 x.fuse, .bool x.down, .bool x.broken] 35)) 35 #[.int .i64 0, .int .i64 0, .int .i64 0, .slice none 0 0, .int .i64 0, .int .i64 0, .int .i64 0, .int .i64 0, .int .i64 0, .slice none 0 0, .int .i64 0, .bool false, .bool false]
 rw [World.size_alloc] at R0
 have zX := X0.lt
 have zR := R0.lt
 have r0 := h0.below hA
 have r1 := h1.below hA
 obtain ⟨k0, k1, k2, k3, k4, k5, k6, k7, k8, k9, k10, k11, k12⟩ := X0.cells13
 go_enter Try.func24, Try.ntmps24
 go_wp2_with fail
 generalize (w.alloc (.cells #[.int .i64 x.id, .int .i64 x.n, .int .i64 x.s, .slice am ms.length cm, .int .i64 x.lost, .int .i64 x.built, .int .i64 x.seq, .int .i64 x.tail, .int .i64 x.gen, .slice ad ds.length cd, .int .i64 x.fuse, .bool x.down, .bool x.broken] 35)).alloc (.cells #[.int .i64 0, .int .i64 0, .int .i64 0, .slice none 0 0, .int .i64 0, .int .i64 0, .int .i64 0, .int .i64 0, .int .i64 0, .slice none 0 0, .int .i64 0, .bool false, .bool false] 35) = W at hA X0 R0 zX zR r0 r1 k0 k1 k2 k3 k4 k5 k6 k7 k8 k9 k10 k11 k12 ⊢
 refine (copyArr_any _ E F G x _ _ _ _ _ _ ms ds r0 r1 hw).mono ?_
 rintro e w1 ⟨bm, cm1, bd, cd1, mx, rfl, om, od, zm, zm2, b1⟩
 have bn := new_below w1 (.cells #[.int .i64 x.id, .int .i64 x.n, .int .i64 x.s, .slice bm ms.length cm1, .int .i64 x.lost, .int .i64 x.built, .int .i64 x.seq, .int .i64 x.tail, .int .i64 x.gen, .slice bd ds.length cd1, .int .i64 x.fuse, .bool x.down, .bool x.broken] 35)
 have b12 : Below W.heap.size W (w1.alloc (.cells #[.int .i64 x.id, .int .i64 x.n, .int .i64 x.s, .slice bm ms.length cm1, .int .i64 x.lost, .int .i64 x.built, .int .i64 x.seq, .int .i64 x.tail, .int .i64 x.gen, .slice bd ds.length cd1, .int .i64 x.fuse, .bool x.down, .bool x.broken] 35)) := Below.andThen b1 bn
 have Y := Box.new w1 35 #[.int .i64 x.id, .int .i64 x.n, .int .i64 x.s, .slice bm ms.length cm1, .int .i64 x.lost, .int .i64 x.built, .int .i64 x.seq, .int .i64 x.tail, .int .i64 x.gen, .slice bd ds.length cd1, .int .i64 x.fuse, .bool x.down, .bool x.broken]
 have zY := Y.lt
 have z1 := b1.size
 obtain ⟨fm, mm, rm⟩ := (om.below bn).mine
 obtain ⟨fd, md, rd⟩ := (od.below bn).mine
 have A2 : ArrAt (w1.alloc (.cells #[.int .i64 x.id, .int .i64 x.n, .int .i64 x.s, .slice bm ms.length cm1, .int .i64 x.lost, .int .i64 x.built, .int .i64 x.seq, .int .i64 x.tail, .int .i64 x.gen, .slice bd ds.length cd1, .int .i64 x.fuse, .bool x.down, .bool x.broken] 35)) w1.heap.size x ms ds fm fd := ⟨bm, bd, cm1, cd1, Y, mm, md, fun b hb hb' => by have h1 := rm b hb; have h2 := rd b hb'; omega, fun hm => by have := rm _ hm; omega, fun hm => by have := rd _ hm; omega⟩
 have X2 := X0.below b12 zX
 have R2 := R0.below b12 zR
 have p0 := r0.below b12
 have p1 := r1.below b12
 have B2 := Below.andThen hA b12
 have rm2 : ∀ b ∈ fm, W.heap.size <= b := fun b hb => by have := rm b hb; omega
 have rd2 : ∀ b ∈ fd, W.heap.size <= b := fun b hb => by have := rd b hb; omega
 clear k0 k1 k2 k3 k4 k5 k6 k7 k8 k9 k10 k11 k12 X0 R0 r0 r1 om od b1 bn b12 Y mm rm md rd hA
 obtain ⟨k0, k1, k2, k3, k4, k5, k6, k7, k8, k9, k10, k11, k12⟩ := X2.cells13
 go_wp2_with fail
 generalize w1.alloc (.cells #[.int .i64 x.id, .int .i64 x.n, .int .i64 x.s, .slice bm ms.length cm1, .int .i64 x.lost, .int .i64 x.built, .int .i64 x.seq, .int .i64 x.tail, .int .i64 x.gen, .slice bd ds.length cd1, .int .i64 x.fuse, .bool x.down, .bool x.broken] 35) = w2 at A2 X2 R2 p0 p1 B2 zY k0 k1 k2 k3 k4 k5 k6 k7 k8 k9 k10 k11 k12 ⊢
 obtain ⟨B, hB⟩ : ∃ B, w1.heap.size = B := ⟨_, rfl⟩
 rw [hB] at A2 zY z1 ⊢
 clear hB
 refine (implArrOk_any _ E F G x _ _ _ _ _ _ ms ds p0 p1 hw).mono ?_
 rintro e w3 ⟨rfl, b3⟩
 have A3 := A2.below b3
 have X3 := X2.below b3 X2.lt
 have R3 := R2.below b3 R2.lt
 have B3 := Below.andThen B2 b3
 have q3 := p0.below b3
 have z3 := b3.size
 clear k0 k1 k2 k3 k4 k5 k6 k7 k8 k9 k10 k11 k12 A2 X2 R2 p0 p1 B2 b3
 obtain ⟨k0, k1, k2, k3, k4, k5, k6, k7, k8, k9, k10, k11, k12⟩ := X3.cells13
 cases ha : arrB x ms ds
 . have HV : Hid (spoilO x ms ds m s = (x, ms)) := spoil_no (by unfold spoilB; rw [ha]; rfl)
   obtain ⟨vm, vd, cvm, cvd, Yf, mf, df, hrf, r1f, r2f⟩ := A3
   have Y0 := Yf
   unfold arrC at Y0
   obtain ⟨t0, t1, t2, t3, t4, t5, t6, t7, t8, t9, t10, t11, t12⟩ := Y0.cells13
   obtain ⟨s0, s1, s2, s3, s4, s5, s6, s7, s8, s9, s10, s11, s12⟩ := R3.cells13
   have fzr := R3.frozen
   have HO := hidden (arr_out (y := x) (e := .returned (.agg (arrC x _ _))) B3 R3 rfl mf df hrf rm2 rd2 (by omega) (by omega))
   unfold arrC at HO
   simp only [puts] at HO
   clear X3 R3 B3 Yf Y0 mf df
   go_wp2
   refine bodyPost_ret (v := .agg #[.int .i64 x.id, .int .i64 x.n, .int .i64 x.s, .slice vm ms.length cvm, .int .i64 x.lost, .int .i64 x.built, .int .i64 x.seq, .int .i64 x.tail, .int .i64 x.gen, .slice vd ds.length cvd, .int .i64 x.fuse, .bool x.down, .bool x.broken]) (by simp [results, Try.results24, go_sem, s0, s1, s2, s3, s4, s5, s6, s7, s8, s9, s10, s11, s12]) rfl ?_
   rw [HV.out]; exact HO.out
 have hg : geoB x.n x.s = true := by unfold arrB at ha; simp only [Bool.and_eq_true] at ha; exact ha.1
 obtain ⟨g1, g2, g3, g4⟩ := geoB_iff.1 hg
 go_wp2_with fail
 refine (hasDisk_any _ x _ _ _ _ _ _ m).mono ?_
 rintro e w4 ⟨rfl, b4⟩
 have A4 := A3.below b4
 have X4 := X3.below b4 X3.lt
 have R4 := R3.below b4 R3.lt
 have B4 := Below.andThen B3 b4
 have z4 := b4.size
 clear k0 k1 k2 k3 k4 k5 k6 k7 k8 k9 k10 k11 k12 A3 X3 R3 B3 b4 q3
 obtain ⟨k0, k1, k2, k3, k4, k5, k6, k7, k8, k9, k10, k11, k12⟩ := X4.cells13
 cases hm : inB m 0 ((ms.length : Int) - 1)
 . have HV : Hid (spoilO x ms ds m s = (x, ms)) := spoil_no (by unfold spoilB; rw [ha, hm]; rfl)
   obtain ⟨vm, vd, cvm, cvd, Yf, mf, df, hrf, r1f, r2f⟩ := A4
   have Y0 := Yf
   unfold arrC at Y0
   obtain ⟨t0, t1, t2, t3, t4, t5, t6, t7, t8, t9, t10, t11, t12⟩ := Y0.cells13
   obtain ⟨s0, s1, s2, s3, s4, s5, s6, s7, s8, s9, s10, s11, s12⟩ := R4.cells13
   have fzr := R4.frozen
   have HO := hidden (arr_out (y := x) (e := .returned (.agg (arrC x _ _))) B4 R4 rfl mf df hrf rm2 rd2 (by omega) (by omega))
   unfold arrC at HO
   simp only [puts] at HO
   clear X4 R4 B4 Yf Y0 mf df
   go_wp2
   refine bodyPost_ret (v := .agg #[.int .i64 x.id, .int .i64 x.n, .int .i64 x.s, .slice vm ms.length cvm, .int .i64 x.lost, .int .i64 x.built, .int .i64 x.seq, .int .i64 x.tail, .int .i64 x.gen, .slice vd ds.length cvd, .int .i64 x.fuse, .bool x.down, .bool x.broken]) (by simp [results, Try.results24, go_sem, s0, s1, s2, s3, s4, s5, s6, s7, s8, s9, s10, s11, s12]) rfl ?_
   rw [HV.out]; exact HO.out
 go_wp2_with fail
 refine (hasStripe_any _ x.n x.s s).mono ?_
 rintro e w5 ⟨rfl, b5⟩
 have A5 := A4.below b5
 have X5 := X4.below b5 X4.lt
 have R5 := R4.below b5 R4.lt
 have B5 := Below.andThen B4 b5
 have z5 := b5.size
 clear k0 k1 k2 k3 k4 k5 k6 k7 k8 k9 k10 k11 k12 A4 X4 R4 B4 b5
 have hst := stripe_in6 (x := x) (y := s) hg
 cases hs : stripeB x.n x.s s
 . have HV : Hid (spoilO x ms ds m s = (x, ms)) := spoil_no (by unfold spoilB; rw [← hst, hs, hm]; simp)
   obtain ⟨vm, vd, cvm, cvd, Yf, mf, df, hrf, r1f, r2f⟩ := A5
   have Y0 := Yf
   unfold arrC at Y0
   obtain ⟨t0, t1, t2, t3, t4, t5, t6, t7, t8, t9, t10, t11, t12⟩ := Y0.cells13
   obtain ⟨s0, s1, s2, s3, s4, s5, s6, s7, s8, s9, s10, s11, s12⟩ := R5.cells13
   have fzr := R5.frozen
   have HO := hidden (arr_out (y := x) (e := .returned (.agg (arrC x _ _))) B5 R5 rfl mf df hrf rm2 rd2 (by omega) (by omega))
   unfold arrC at HO
   simp only [puts] at HO
   clear X5 R5 B5 Yf Y0 mf df
   go_wp2
   refine bodyPost_ret (v := .agg #[.int .i64 x.id, .int .i64 x.n, .int .i64 x.s, .slice vm ms.length cvm, .int .i64 x.lost, .int .i64 x.built, .int .i64 x.seq, .int .i64 x.tail, .int .i64 x.gen, .slice vd ds.length cvd, .int .i64 x.fuse, .bool x.down, .bool x.broken]) (by simp [results, Try.results24, go_sem, s0, s1, s2, s3, s4, s5, s6, s7, s8, s9, s10, s11, s12]) rfl ?_
   rw [HV.out]; exact HO.out
 have HB : Hid (spoilB x ms ds m s = true) := by unfold Hid spoilB; rw [ha, hm, ← hst, hs]; rfl
 obtain ⟨m1, m2⟩ := inB_iff.1 hm
 obtain ⟨j, rfl⟩ := Int.eq_ofNat_of_zero_le m1
 have hj : j < ms.length := by omega
 obtain ⟨bmf, bdf, cmf, cdf, Y, mmf, ddf, hrf, r1f, r2f⟩ := A5
 obtain ⟨gm, hbm⟩ := row_head mmf (by omega)
 subst hbm
 obtain ⟨d, hdj⟩ : ∃ d, ms[j]? = some d := ⟨_, List.getElem?_eq_getElem hj⟩
 have HV0 := hidden (spoil_of HB.out hdj)
 have hgl := mmf.lt gm (row_mem11 mmf)
 obtain ⟨_, a0, a1, a3, c0, c1, c3, ss, cs, f, bs, rfl, q0, q1, q2, q3, p0, p1, p3⟩ := disk_at mmf hdj
 have hwd := Nat.le_trans (inner_leM hdj) hwm
 have Y0 := Y
 unfold arrC at Y0
 have zB := Y.lt
 have hS : w5.drew.cell? ⟨B, 3, none⟩ = some (.slice (some ⟨gm, 0, none⟩) ms.length cmf) /\ w5.drew.cell? ⟨gm, j * 4, none⟩ = some (.slice a0 ss.length c0) /\ w5.drew.cell? ⟨gm, j * 4 + 1, none⟩ = some (.slice a1 cs.length c1) /\ w5.drew.cell? ⟨gm, j * 4 + 2, none⟩ = some (.bool f) /\ w5.drew.cell? ⟨gm, j * 4 + 3, none⟩ = some (.slice a3 bs.length c3) := ⟨Y0.cells13.2.2.2.1, q0, q1, q2, q3⟩
 have i1 : (0 : Int) <= (j : Int) := by omega
 have i3 : (j : Int) < (ms.length : Int) := by omega
 have YH := hidden Y
 have MH := hidden mmf
 have DH := hidden ddf
 have P0 := hidden p0
 have P1 := hidden p1
 have P3 := hidden p3
 clear Y Y0 mmf ddf p0 p1 p3 hm hs ha
 go_wp2_with fail
 refine Upto.start (S := fun w' => w'.cell? ⟨B, 3, none⟩ = some (.slice (some ⟨gm, 0, none⟩) ms.length cmf) /\ w'.cell? ⟨gm, j * 4, none⟩ = some (.slice a0 ss.length c0) /\ w'.cell? ⟨gm, j * 4 + 1, none⟩ = some (.slice a1 cs.length c1) /\ w'.cell? ⟨gm, j * 4 + 2, none⟩ = some (.bool f) /\ w'.cell? ⟨gm, j * 4 + 3, none⟩ = some (.slice a3 bs.length c3)) (k := 12) (by kernel_rfl) ?_
 refine Upto.t 0 hS ?_
 refine Upto.t 1 hS ?_
 refine Upto.t 2 hS ?_
 refine Upto.t 3 hS ?_
 refine Upto.t 4 hS ?_
 refine Upto.t 5 hS ?_
 refine Upto.t 6 hS ?_
 refine Upto.t 7 hS ?_
 refine Upto.t 8 hS ?_
 refine Upto.one (i := 9) (by kernel_rfl) rfl (fun K hK => ?_)
 go_simp
 refine (implDataAt_any _ s).mono ?_
 rintro e wq ⟨rfl, hq⟩
 subst hq
 go_wp2_with fail
 refine hK.out _ _ (fun _ => hS) ?_
 clear hK K
 refine Upto.one (i := 10) (by kernel_rfl) rfl (fun K hK => ?_)
 go_simp
 refine (implSpoilSec_any _ 115 _ _ _ _ _ _ _ _ _ ss cs f bs (dataN s) P0.out.drew P1.out.drew P3.out.drew hwd).mono ?_
 rintro e w6 ⟨u0, u1, u3, rfl, o6, b6'⟩
 have b6 : Below w5.heap.size w5 w6 := (Below.refl w5.heap.size w5).drew.trans b6'
 have o6b : (tMem 115).Own w6 w5.heap.size w6.heap.size [u0, u1, .bool f, u3] (spoilD (ss, cs, f, bs) s) := o6
 obtain ⟨d0, l0, f0, d1, l1, f1, d3, l3, f3, hv0, hv1, hv3⟩ := mem_slices o6b
 subst hv0 hv1 hv3
 obtain ⟨fpx, mx6, rx⟩ := o6b.mine
 obtain ⟨cOld, fz, hgm, fm9, hA9, hMv9⟩ := arr_store (m := j) YH.out MH.out DH.out hrf r1f r2f b6 hj mx6 (fun b hb => (rx b hb).1)
 obtain ⟨y0, t0⟩ := cOld 0 (by omega)
 obtain ⟨y1, t1⟩ := cOld 1 (by omega)
 obtain ⟨y2, t2⟩ := cOld 2 (by omega)
 obtain ⟨y3, t3⟩ := cOld 3 (by omega)
 rw [Nat.add_zero] at t0
 have HA := hidden hA9
 have HMV := hidden hMv9
 have hS2 : w6.cell? ⟨B, 3, none⟩ = some (.slice (some ⟨gm, 0, none⟩) ms.length cmf) /\ w6.cell? ⟨gm, j * 4, none⟩ = some (.slice a0 ss.length c0) /\ w6.cell? ⟨gm, j * 4 + 1, none⟩ = some (.slice a1 cs.length c1) /\ w6.cell? ⟨gm, j * 4 + 2, none⟩ = some (.bool f) /\ w6.cell? ⟨gm, j * 4 + 3, none⟩ = some (.slice a3 bs.length c3) := ⟨(b6.cell (p := ⟨B, 3, none⟩) zB).trans hS.1, (b6.cell (p := ⟨gm, j * 4, none⟩) hgl).trans hS.2.1, (b6.cell (p := ⟨gm, j * 4 + 1, none⟩) hgl).trans hS.2.2.1, (b6.cell (p := ⟨gm, j * 4 + 2, none⟩) hgl).trans hS.2.2.2.1, (b6.cell (p := ⟨gm, j * 4 + 3, none⟩) hgl).trans hS.2.2.2.2⟩
 have gB : ¬ gm = B := fun e => r1f (e ▸ hgm)
 unfold put4 at HA HMV
 clear o6 o6b b6 b6' mx6 rx cOld hA9 hMv9 YH MH DH P0 P1 P3
 go_wp2_with fail
 refine hK.out _ _ (fun _ => hS2) ?_
 clear hK K
 refine Upto.t 11 hS2 ?_
 refine Upto.one (i := 12) (by kernel_rfl) rfl (fun K hK => ?_)
 go_simp
 refine hK.out _ _ (fun h => absurd rfl h) ?_
 clear hK K
 refine Upto.done (by kernel_rfl) ?_ _
 clear hS hS2 t0 t1 t2 t3 fz
 generalize (((w6.setCell ⟨gm, j * 4, none⟩ (.slice d0 l0 f0)).setCell ⟨gm, j * 4 + 1, none⟩ (.slice d1 l1 f1)).setCell ⟨gm, j * 4 + 2, none⟩ (.bool f)).setCell ⟨gm, j * 4 + 3, none⟩ (.slice d3 l3 f3) = w7 at HA HMV ⊢
 have HV := HV0
 generalize ms.set j (spoilD (ss, cs, f, bs) s) = ns at HA HV
 clear HV0
 have A7 := HA.out
 have rm7 : ∀ b ∈ fm9, W.heap.size <= b := fun b hb => by rcases HMV.out.2 b hb with h | h; exact rm2 b h; omega
 have R7 := HMV.out.box R5 (by omega) (fun hm => by have := rm2 _ hm; omega)
 have B7 := B5.trans (HMV.out.belowN (N := w.heap.size) (by omega) (fun b hb => by have := rm2 b hb; omega) (by omega))
 have z7 := HMV.out.size
 clear HA HMV
 obtain ⟨vm, vd, cvm, cvd, Yf, mf, df, hrf, r1f, r2f⟩ := A7
 have Y0 := Yf
 unfold arrC at Y0
 obtain ⟨t0, t1, t2, t3, t4, t5, t6, t7, t8, t9, t10, t11, t12⟩ := Y0.cells13
 obtain ⟨s0, s1, s2, s3, s4, s5, s6, s7, s8, s9, s10, s11, s12⟩ := R7.cells13
 have fzr := R7.frozen
 have HO := hidden (arr_out (y := x) (e := .returned (.agg (arrC x _ _))) B7 R7 rfl mf df hrf rm7 rd2 (by omega) (by omega))
 unfold arrC at HO
 simp only [puts] at HO
 clear R7 B7 Yf Y0 mf df
 go_wp2
 refine bodyPost_ret (v := .agg #[.int .i64 x.id, .int .i64 x.n, .int .i64 x.s, .slice vm ns.length cvm, .int .i64 x.lost, .int .i64 x.built, .int .i64 x.seq, .int .i64 x.tail, .int .i64 x.gen, .slice vd ds.length cvd, .int .i64 x.fuse, .bool x.down, .bool x.broken]) (by simp [results, Try.results24, go_sem, s0, s1, s2, s3, s4, s5, s6, s7, s8, s9, s10, s11, s12]) rfl ?_
 rw [HV.out]; exact HO.out

theorem heldMemS_any (w : World) (E F : TypeId) (a : Option Addr) (n cap : Nat) (d : List MemD) (k0 : Int) (h : (tMemS E F).Rd w [.slice a n cap] (markMS k0 d)) (hw : wtMemS d <= 2097152) (hk : 0 <= k0) (hk' : k0 + (wtMemS d : Int) <= 2097153) :
 Calls Try.prog 55 #[.slice a n cap, .int .i64 k0] w fun e w' => e = .returned (.int .i64 (k0 + (cntMS d : Int))) /\ Same w w' := by
 obtain ⟨hl, hc, hm⟩ := row_length h
 have hmL : (markMS k0 d).length = d.length := markL_length _ _ _ _
 rw [hmL] at hl
 have hnn : n <= 2097152 := by unfold wtMemS at hw; omega
 have hwt := cntMS_le d
 go_enter Try.func55, Try.ntmps55
 go_wp2
 go_loopw [1, 5] (fun kk i wr => ∃ j : Nat, j <= n /\ i = .int .i64 j /\ kk = .int .i64 (k0 + (sumL ((d.map cntMD).take j) : Int)) /\ Same w wr) (fun _ i _ => n - (intOf i).toNat)
 case atStart => exact ⟨0, Nat.zero_le _, rfl, by simp [sumL], Same.refl _⟩
 obtain ⟨j, hj, rfl, rfl, hs⟩ := hrel
 by_cases hjn : j < n
 . have hdj : d[j]? = some (d[j]'(by omega)) := List.getElem?_eq_getElem (by omega)
   generalize d[j]'(by omega) = x at hdj
   have hst := sumL_take (l := d.map cntMD) (j := j) (x := cntMD x) (by rw [List.getElem?_map, hdj]; rfl)
   have hle := sumL_le (l := d.map cntMD) (j + 1)
   have hin := Nat.le_trans (inner_leM hdj) hw
   unfold cntMS at hwt
   have hmj := markL_at (c := cntMD) (mk := markMD) (k := k0) hdj
   have HW := hidden hst
   generalize sumL ((d.map cntMD).take j) = S at hst hmj HW
   rcases quads_at rfl h with h0' | ⟨b, off, rfl, hbl, hcs⟩
   . omega
   obtain ⟨v0, v1, v2, v3, hv0, hv1, hv2, hv3, hrv⟩ := hcs j _ hmj
   obtain ⟨ss, cs, f, bs⟩ := x
   obtain ⟨a0, c0, a1, c1, a3, c3, ss', cs', f', bs', hx, rfl, rfl, rfl, rfl, r0, r1, r3⟩ := mem_at hrv
   have hcx : cntMD (ss, cs, f, bs) = cntSS ss + cntWS cs + 1 + bs.length := rfl
   have hin0 : wtIntSS ss <= 2097152 := by unfold wtMem at hin; simp only at hin; omega
   have hin1 : wtWrS cs <= 2097152 := by unfold wtMem at hin; simp only at hin; omega
   have hin3 : bs.length <= 2097152 := by unfold wtMem at hin; simp only at hin; omega
   have hcw := Nat.le_of_eq (cntWS_wt cs)
   have hcw' := Nat.le_of_eq (cntWS_wt cs).symm
   have hS : k0 + (S : Int) + (cntSS ss : Int) + (cntWS cs : Int) + 1 + (bs.length : Int) <= 2097153 := by omega
   unfold markMD at hx
   simp only [Prod.mk.injEq] at hx
   obtain ⟨e0, e1, e2, e3⟩ := hx
   subst e0
   subst e1
   subst e3
   rw [marks_length] at hv3 r3
   have w0 := (hs.cell _).trans hv0
   have w1 := (hs.cell _).trans hv1
   have w2 := (hs.cell _).trans hv2
   have w3 := (hs.cell _).trans hv3
   have HE2 := hidden e2
   have i1 : (0 : Int) <= (j : Int) := by omega
   have i2 : (j : Int) < (n : Int) := by omega
   have R0 := r0.same hs
   have R1 := r1.same hs
   have R3 := r3.same hs
   clear hcs hst hdj hv0 hv1 hv2 hv3 hrv hmj e2 r0 r1 r3
   go_wp2_with fail
   refine (heldIntSS_any _ _ _ _ ss _ R0 hin0 (by omega) (by omega)).mono ?_
   rintro e u1 ⟨rfl, s1⟩
   have w1' := (s1.cell _).trans w1
   have w2' := (s1.cell _).trans w2
   have w3' := (s1.cell _).trans w3
   have R1' := R1.same s1
   have R3' := R3.same s1
   clear w0 w1 w2 w3 R0 R1 R3
   have p1 : ¬ k0 + (S : Int) + (cntSS ss : Int) < 0 := by omega
   go_wp2_with fail
   refine (heldWrS_any _ E _ _ _ cs _ R1' hin1 (by omega) (by omega)).mono ?_
   rintro e u2 ⟨rfl, s2⟩
   have w2 := (s2.cell _).trans w2'
   have w3 := (s2.cell _).trans w3'
   have R3 := ints_rd (R3'.same s2)
   clear w1' w2' w3' R1' R3'
   have hK : 0 <= k0 + (S : Int) + (cntSS ss : Int) + (cntWS cs : Int) /\ k0 + (S : Int) + (cntSS ss : Int) + (cntWS cs : Int) <= 2097153 := by omega
   have HKK : Hid (k0 + (S : Int) + (cntSS ss : Int) + (cntWS cs : Int) + 1 + (bs.length : Int) = k0 + ((S + cntMD (ss, cs, f, bs) : Nat) : Int)) := by unfold Hid; rw [hcx]; omega
   generalize hKd : k0 + (S : Int) + (cntSS ss : Int) + (cntWS cs : Int) = K at hK HKK HE2 R3 hS ⊢
   clear hKd
   have p2 : ¬ K < 0 := by omega
   have t1 : K.tmod 3 = K % 3 := Int.tmod_eq_emod_of_nonneg hK.1
   have t2 : IntKind.i64.wrap (K % 3) = K % 3 := IntWalk.i64_in _ (by omega)
   have t3 : IntKind.i64.wrap (K + 1) = K + 1 := IntWalk.i64_in _ (by omega)
   have p3 : ¬ K + 1 + (bs.length : Int) < 0 := by omega
   have t4 : f' = (K % 3 == 0) := by rw [← HE2.out]; rfl
   have t5 : ((K % 3 == 0) != (K % 3 == 0)) = false := by simp
   have t6 : ((K % 3 == 0) == (K % 3 == 0)) = true := by simp
   subst t4
   clear HE2
   go_wp2_with fail
   refine (heldIntS_any _ _ _ _ _ R3.1 (by omega) (by omega) (by omega)).mono ?_
   rintro e u3 ⟨rfl, s3⟩
   have HS := hidden (((hs.trans s1).trans s2).trans s3)
   clear s1 s2 s3 hs R3 w2 w3
   go_wp2
   go_roundw
   case rel => exact ⟨j + 1, by omega, by go_num, by rw [HW.out, HKK.out], HS.out⟩
   case measure => simp [intOf]; omega
 have ej : j = n := by omega
 subst ej
 have ht : (d.map cntMD).take j = d.map cntMD := List.take_of_length_le (by simp; omega)
 have HT : Hid (k0 + (sumL ((d.map cntMD).take j) : Int) = k0 + (cntMS d : Int)) := by unfold Hid cntMS; rw [ht]
 clear ht
 go_wp2
 go_ret
 exact ⟨ret_int HT.out, hs⟩

theorem heldArr_any (w : World) (E F G : TypeId) (x : ArrN) (bm bd : Option Addr) (nm cm nd cd : Nat) (ms : List MemD) (ds : List (Int × List Int)) (h0 : (tMemS E F).Rd w [.slice bm nm cm] (markMS 1 ms)) (h1 : (tWrS G).Rd w [.slice bd nd cd] (markW (1 + (cntMS ms : Int)) ds)) (hw : wtArr ms ds <= 2097152) :
 Calls Try.prog 25 #[.agg #[.int .i64 x.id, .int .i64 x.n, .int .i64 x.s, .slice bm nm cm, .int .i64 x.lost, .int .i64 x.built, .int .i64 x.seq, .int .i64 x.tail, .int .i64 x.gen, .slice bd nd cd, .int .i64 x.fuse, .bool x.down, .bool x.broken], .int .i64 1] w fun e w' => e = .returned (.int .i64 (1 + (cntMS ms : Int) + (cntWS ds : Int))) /\ Below w.heap.size w w' := by
 have hw0 : wtMemS ms <= 2097152 := by unfold wtArr at hw; omega
 have hw1 : wtWrS ds <= 2097152 := by unfold wtArr at hw; omega
 have hws : wtMemS ms + wtWrS ds <= 2097152 := by unfold wtArr at hw; omega
 have hcm := cntMS_le ms
 have hA := new_below w (.cells #[.int .i64 x.id, .int .i64 x.n, .int .i64 x.s, .slice bm nm cm, .int .i64 x.lost, .int .i64 x.built, .int .i64 x.seq, .int .i64 x.tail, .int .i64 x.gen, .slice bd nd cd, .int .i64 x.fuse, .bool x.down, .bool x.broken] 35)
 have X := Box.new w 35 #[.int .i64 x.id, .int .i64 x.n, .int .i64 x.s, .slice bm nm cm, .int .i64 x.lost, .int .i64 x.built, .int .i64 x.seq, .int .i64 x.tail, .int .i64 x.gen, .slice bd nd cd, .int .i64 x.fuse, .bool x.down, .bool x.broken]
 obtain ⟨k0, k1, k2, k3, k4, k5, k6, k7, k8, k9, k10, k11, k12⟩ := X.cells13
 have r0 := h0.below hA
 have r1 := h1.below hA
 go_enter Try.func25, Try.ntmps25
 go_wp2_with fail
 generalize w.alloc (.cells #[.int .i64 x.id, .int .i64 x.n, .int .i64 x.s, .slice bm nm cm, .int .i64 x.lost, .int .i64 x.built, .int .i64 x.seq, .int .i64 x.tail, .int .i64 x.gen, .slice bd nd cd, .int .i64 x.fuse, .bool x.down, .bool x.broken] 35) = W at hA X r0 r1 k0 k1 k2 k3 k4 k5 k6 k7 k8 k9 k10 k11 k12 ⊢
 refine (heldMemS_any _ E F _ _ _ ms _ r0 hw0 (by omega) (by omega)).mono ?_
 rintro e w1 ⟨rfl, s1⟩
 have X1 := X.same s1
 have r2 := r1.same s1
 have B1 := Below.andSame hA s1
 clear k0 k1 k2 k3 k4 k5 k6 k7 k8 k9 k10 k11 k12 X r0 r1 s1 hA
 obtain ⟨k0, k1, k2, k3, k4, k5, k6, k7, k8, k9, k10, k11, k12⟩ := X1.cells13
 have p1 : ¬ 1 + (cntMS ms : Int) < 0 := by omega
 go_wp2_with fail
 refine (heldEntS_any _ G _ _ _ ds _ r2 hw1 (by omega) (by omega)).mono ?_
 rintro e w2 ⟨rfl, s2⟩
 have B2 := Below.andSame B1 s2
 have p2 : ¬ 1 + (cntMS ms : Int) + (cntWS ds : Int) < 0 := by omega
 clear k0 k1 k2 k3 k4 k5 k6 k7 k8 k9 k10 k11 k12 X1 r2 s2 B1
 go_wp2
 go_ret
 exact ⟨rfl, B2⟩

theorem fnExactSpoilAt_walk (x : ArrN) (am ad : Option Addr) (nm cm nd cd : Nat) (ms : List MemD) (ds : List (Int × List Int)) (m : Int) (s : Int) (w : World) (h0 : (tMemS 126 82).Rd w [.slice am nm cm] ms) (h1 : (tWrS 85).Rd w [.slice ad nd cd] ds) :
 Calls Try.prog 7 #[.agg #[.int .i64 x.id, .int .i64 x.n, .int .i64 x.s, .slice am nm cm, .int .i64 x.lost, .int .i64 x.built, .int .i64 x.seq, .int .i64 x.tail, .int .i64 x.gen, .slice ad nd cd, .int .i64 x.fuse, .bool x.down, .bool x.broken], .int .i64 m, .int .i64 s] w fun e w' => e = .returned (.bool true) /\ Below w.heap.size w w' := by
 have hA := new_below w (.cells #[.int .i64 x.id, .int .i64 x.n, .int .i64 x.s, .slice am nm cm, .int .i64 x.lost, .int .i64 x.built, .int .i64 x.seq, .int .i64 x.tail, .int .i64 x.gen, .slice ad nd cd, .int .i64 x.fuse, .bool x.down, .bool x.broken] 27)
 have xm := Box.new w 27 #[.int .i64 x.id, .int .i64 x.n, .int .i64 x.s, .slice am nm cm, .int .i64 x.lost, .int .i64 x.built, .int .i64 x.seq, .int .i64 x.tail, .int .i64 x.gen, .slice ad nd cd, .int .i64 x.fuse, .bool x.down, .bool x.broken]
 have z0 := xm.lt
 have B0 := hidden hA
 have BR0 := hidden xm
 obtain ⟨l0, l1, l2, l3, l4, l5, l6, l7, l8, l9, l10, l11, l12⟩ := xm.cells13
 go_enter Try.func7, Try.ntmps7
 go_wp2_with fail
 generalize w.alloc (.cells #[.int .i64 x.id, .int .i64 x.n, .int .i64 x.s, .slice am nm cm, .int .i64 x.lost, .int .i64 x.built, .int .i64 x.seq, .int .i64 x.tail, .int .i64 x.gen, .slice ad nd cd, .int .i64 x.fuse, .bool x.down, .bool x.broken] 27) = w0 at hA xm z0 B0 BR0 l0 l1 l2 l3 l4 l5 l6 l7 l8 l9 l10 l11 l12 ⊢
 clear hA xm
 refine (szArr_any _ 126 82 85 x _ _ _ _ _ _ ms ds _ (h0.below B0.out) (h1.below B0.out) (by omega) (by omega)).mono ?_
 rintro e w1 ⟨rfl, hb1⟩
 clear l0 l1 l2 l3 l4 l5 l6 l7 l8 l9 l10 l11 l12
 have B1 := hidden (Below.andThen B0.out hb1)
 have BR1 := hidden (BR0.out.below hb1 (by omega))
 have z1 := hb1.size
 clear B0 BR0 hb1
 by_cases hwt : (wtArr ms ds : Int) <= 1048576
 . have hq := leftOf_pos hwt
   have hwt' : wtArr ms ds <= 1048576 := by omega
   have hwt2 : wtArr ms ds <= 2097152 := by omega
   have hwq0 := spoilO_wt (x := x) (m := m) (s := s) hwt'
   obtain ⟨y, ns, hq0⟩ : ∃ (y : ArrN) (ns : List MemD), spoilO x ms ds m s = (y, ns) := ⟨_, _, rfl⟩
   have HQ := hidden hq0
   have hwq : wtArr ns ds <= 2097152 := by rw [hq0] at hwq0; exact hwq0
   clear hq0 hwq0
   obtain ⟨l0, l1, l2, l3, l4, l5, l6, l7, l8, l9, l10, l11, l12⟩ := BR1.out.cells13
   go_wp2_with fail
   refine (toArr_any _ 126 82 85 x _ _ _ _ _ _ ms ds (h0.below B1.out) (h1.below B1.out) hwt').mono ?_
   rintro e w2 ⟨bm2, bd2, rfl, om2, od2, ya2, yb2, hb2⟩
   clear l0 l1 l2 l3 l4 l5 l6 l7 l8 l9 l10 l11 l12
   have B2 := hidden (Below.andThen B1.out hb2)
   have BR2 := hidden (BR1.out.below hb2 (by omega))
   have z2 := hb2.size
   clear B1 BR1 hb2
   have Cm2 := hidden om2
   clear om2
   have Cd2 := hidden od2
   clear od2
   go_wp2_with fail
   refine (specSpoilAt_any _ 115 75 89 x _ _ _ _ _ _ ms ds m s Cm2.out.rd Cd2.out.rd hwt2).mono ?_
   rintro e w3 ho3
   rw [HQ.out] at ho3
   obtain ⟨a3, d3, c3, b3, rfl, o3, hb3⟩ := ho3
   dsimp only at o3
   unfold arrC
   have B3 := hidden (Below.andThen B2.out hb3)
   have BR3 := hidden (BR2.out.below hb3 (by omega))
   have Cm3 := hidden (Cm2.out.below hb3)
   have Cd3 := hidden (Cd2.out.below hb3)
   have z3 := hb3.size
   clear B2 BR2 Cm2 Cd2 hb3
   have W3 := hidden o3
   clear o3
   clear Cm3
   clear Cd3
   have ba : Below w3.heap.size w3 (w3.alloc (.cells #[.int .i64 y.id, .int .i64 y.n, .int .i64 y.s, .slice a3 ns.length c3, .int .i64 y.lost, .int .i64 y.built, .int .i64 y.seq, .int .i64 y.tail, .int .i64 y.gen, .slice d3 ds.length b3, .int .i64 y.fuse, .bool y.down, .bool y.broken] 35)) := (Below.refl _ _).alloc (Nat.le_refl _) _
   have xb := Box.new w3 35 #[.int .i64 y.id, .int .i64 y.n, .int .i64 y.s, .slice a3 ns.length c3, .int .i64 y.lost, .int .i64 y.built, .int .i64 y.seq, .int .i64 y.tail, .int .i64 y.gen, .slice d3 ds.length b3, .int .i64 y.fuse, .bool y.down, .bool y.broken]
   have zx4 := xb.lt
   have B4 := hidden (Below.andThen B3.out ba)
   have BR4 := hidden (BR3.out.below ba (by omega))
   have W4 := hidden (W3.out.below ba)
   have z4 := ba.size
   clear B3 BR3 W3 ba
   have WB4 := hidden xb
   clear xb
   obtain ⟨l0, l1, l2, l3, l4, l5, l6, l7, l8, l9, l10, l11, l12⟩ := BR4.out.cells13
   go_wp2_with fail
   generalize w3.alloc (.cells #[.int .i64 y.id, .int .i64 y.n, .int .i64 y.s, .slice a3 ns.length c3, .int .i64 y.lost, .int .i64 y.built, .int .i64 y.seq, .int .i64 y.tail, .int .i64 y.gen, .slice d3 ds.length b3, .int .i64 y.fuse, .bool y.down, .bool y.broken] 35) = w4 at B4 BR4 W4 WB4 z4 zx4 l0 l1 l2 l3 l4 l5 l6 l7 l8 l9 l10 l11 l12 ⊢
   clear l0 l1 l2 l3 l4 l5 l6 l7 l8 l9 l10 l11 l12
   obtain ⟨l0, l1, l2, l3, l4, l5, l6, l7, l8, l9, l10, l11, l12⟩ := BR4.out.cells13
   refine (toArr_any _ 126 82 85 x _ _ _ _ _ _ ms ds (h0.below B4.out) (h1.below B4.out) hwt').mono ?_
   rintro e w5 ⟨bm5, bd5, rfl, om5, od5, ya5, yb5, hb5⟩
   clear l0 l1 l2 l3 l4 l5 l6 l7 l8 l9 l10 l11 l12
   have B5 := hidden (Below.andThen B4.out hb5)
   have BR5 := hidden (BR4.out.below hb5 (by omega))
   have W5 := hidden (W4.out.below hb5)
   have WB5 := hidden (WB4.out.below hb5 (by omega))
   have z5 := hb5.size
   clear B4 BR4 W4 WB4 hb5
   have Dm5 := hidden om5
   clear om5
   have Dd5 := hidden od5
   clear od5
   have ba : Below w5.heap.size w5 (w5.alloc (.cells #[.int .i64 x.id, .int .i64 x.n, .int .i64 x.s, .slice (some ⟨bm5, 0, none⟩) nm nm, .int .i64 x.lost, .int .i64 x.built, .int .i64 x.seq, .int .i64 x.tail, .int .i64 x.gen, .slice (some ⟨bd5, 0, none⟩) nd nd, .int .i64 x.fuse, .bool x.down, .bool x.broken] 35)) := (Below.refl _ _).alloc (Nat.le_refl _) _
   have xb := Box.new w5 35 #[.int .i64 x.id, .int .i64 x.n, .int .i64 x.s, .slice (some ⟨bm5, 0, none⟩) nm nm, .int .i64 x.lost, .int .i64 x.built, .int .i64 x.seq, .int .i64 x.tail, .int .i64 x.gen, .slice (some ⟨bd5, 0, none⟩) nd nd, .int .i64 x.fuse, .bool x.down, .bool x.broken]
   have zx := xb.lt
   have B6 := hidden (Below.andThen B5.out ba)
   have BR6 := hidden (BR5.out.below ba (by omega))
   have W6 := hidden (W5.out.below ba)
   have WB6 := hidden (WB5.out.below ba (by omega))
   have Dm6 := hidden (Dm5.out.below ba)
   have Dd6 := hidden (Dd5.out.below ba)
   have z6 := ba.size
   clear B5 BR5 W5 WB5 Dm5 Dd5 ba
   have BX6 := hidden xb
   clear xb
   obtain ⟨q0, q1, q2, q3, q4, q5, q6, q7, q8, q9, q10, q11, q12⟩ := BX6.out.cells13
   go_wp2_with fail
   generalize w5.alloc (.cells #[.int .i64 x.id, .int .i64 x.n, .int .i64 x.s, .slice (some ⟨bm5, 0, none⟩) nm nm, .int .i64 x.lost, .int .i64 x.built, .int .i64 x.seq, .int .i64 x.tail, .int .i64 x.gen, .slice (some ⟨bd5, 0, none⟩) nd nd, .int .i64 x.fuse, .bool x.down, .bool x.broken] 35) = w6 at B6 BR6 W6 WB6 Dm6 Dd6 BX6 z6 zx q0 q1 q2 q3 q4 q5 q6 q7 q8 q9 q10 q11 q12 ⊢
   refine (implSpoilAt_any _ 115 75 89 x _ _ _ _ _ _ ms ds m s Dm6.out.rd Dd6.out.rd hwt2).mono ?_
   rintro e w7 ho7
   rw [HQ.out] at ho7
   obtain ⟨a7, d7, c7, b7, rfl, o7, hb7⟩ := ho7
   dsimp only at o7
   unfold arrC
   have B7 := hidden (Below.andThen B6.out hb7)
   have BR7 := hidden (BR6.out.below hb7 (by omega))
   have W7 := hidden (W6.out.below hb7)
   have WB7 := hidden (WB6.out.below hb7 (by omega))
   have Dm7 := hidden (Dm6.out.below hb7)
   have Dd7 := hidden (Dd6.out.below hb7)
   have BX7 := hidden (BX6.out.below hb7 (by omega))
   have z7 := hb7.size
   clear B6 BR6 W6 WB6 Dm6 Dd6 BX6 hb7
   have G7 := hidden o7
   clear o7
   clear q0 q1 q2 q3 q4 q5 q6 q7 q8 q9 q10 q11 q12
   have ba : Below w7.heap.size w7 (w7.alloc (.cells #[.int .i64 y.id, .int .i64 y.n, .int .i64 y.s, .slice a7 ns.length c7, .int .i64 y.lost, .int .i64 y.built, .int .i64 y.seq, .int .i64 y.tail, .int .i64 y.gen, .slice d7 ds.length b7, .int .i64 y.fuse, .bool y.down, .bool y.broken] 35)) := (Below.refl _ _).alloc (Nat.le_refl _) _
   have xb := Box.new w7 35 #[.int .i64 y.id, .int .i64 y.n, .int .i64 y.s, .slice a7 ns.length c7, .int .i64 y.lost, .int .i64 y.built, .int .i64 y.seq, .int .i64 y.tail, .int .i64 y.gen, .slice d7 ds.length b7, .int .i64 y.fuse, .bool y.down, .bool y.broken]
   have zx8 := xb.lt
   have B8 := hidden (Below.andThen B7.out ba)
   have BR8 := hidden (BR7.out.below ba (by omega))
   have W8 := hidden (W7.out.below ba)
   have WB8 := hidden (WB7.out.below ba (by omega))
   have Dm8 := hidden (Dm7.out.below ba)
   have Dd8 := hidden (Dd7.out.below ba)
   have BX8 := hidden (BX7.out.below ba (by omega))
   have G8 := hidden (G7.out.below ba)
   have z8 := ba.size
   clear B7 BR7 W7 WB7 Dm7 Dd7 BX7 G7 ba
   have GB8 := hidden xb
   clear xb
   obtain ⟨p0, p1, p2, p3, p4, p5, p6, p7, p8, p9, p10, p11, p12⟩ := GB8.out.cells13
   obtain ⟨q0, q1, q2, q3, q4, q5, q6, q7, q8, q9, q10, q11, q12⟩ := WB8.out.cells13
   go_wp2_with fail
   generalize w7.alloc (.cells #[.int .i64 y.id, .int .i64 y.n, .int .i64 y.s, .slice a7 ns.length c7, .int .i64 y.lost, .int .i64 y.built, .int .i64 y.seq, .int .i64 y.tail, .int .i64 y.gen, .slice d7 ds.length b7, .int .i64 y.fuse, .bool y.down, .bool y.broken] 35) = w8 at B8 BR8 W8 WB8 Dm8 Dd8 BX8 G8 GB8 z8 zx8 p0 p1 p2 p3 p4 p5 p6 p7 p8 p9 p10 p11 p12 q0 q1 q2 q3 q4 q5 q6 q7 q8 q9 q10 q11 q12 ⊢
   refine (eqArr_same _ 115 115 75 75 89 89 y _ _ _ _ _ _ _ _ _ _ _ _ ns ds G8.out.rdm G8.out.rdd W8.out.rdm W8.out.rdd hwq).mono ?_
   rintro e w9 ⟨rfl, hb9⟩
   clear p0 p1 p2 p3 p4 p5 p6 p7 p8 p9 p10 p11 p12 q0 q1 q2 q3 q4 q5 q6 q7 q8 q9 q10 q11 q12
   have B9 := hidden (Below.andThen B8.out hb9)
   have BR9 := hidden (BR8.out.below hb9 (by omega))
   have W9 := hidden (W8.out.below hb9)
   have WB9 := hidden (WB8.out.below hb9 (by omega))
   have Dm9 := hidden (Dm8.out.below hb9)
   have Dd9 := hidden (Dd8.out.below hb9)
   have BX9 := hidden (BX8.out.below hb9 (by omega))
   have G9 := hidden (G8.out.below hb9)
   have GB9 := hidden (GB8.out.below hb9 (by omega))
   have z9 := hb9.size
   clear B8 BR8 W8 WB8 Dm8 Dd8 BX8 G8 GB8 hb9
   obtain ⟨y0, y1, y2, y3, y4, y5, y6, y7, y8, y9, y10, y11, y12⟩ := BX9.out.cells13
   obtain ⟨l0, l1, l2, l3, l4, l5, l6, l7, l8, l9, l10, l11, l12⟩ := BR9.out.cells13
   have zl := BR9.out.lt
   have zy := BX9.out.lt
   go_wp2_with fail
   refine wp_region_held_drew (S := fun w' => (w'.cell? ⟨w5.heap.size, 0, none⟩ = some (.int .i64 x.id) /\ w'.cell? ⟨w5.heap.size, 1, none⟩ = some (.int .i64 x.n) /\ w'.cell? ⟨w5.heap.size, 2, none⟩ = some (.int .i64 x.s) /\ w'.cell? ⟨w5.heap.size, 3, none⟩ = some (.slice (some ⟨bm5, 0, none⟩) nm nm) /\ w'.cell? ⟨w5.heap.size, 4, none⟩ = some (.int .i64 x.lost) /\ w'.cell? ⟨w5.heap.size, 5, none⟩ = some (.int .i64 x.built) /\ w'.cell? ⟨w5.heap.size, 6, none⟩ = some (.int .i64 x.seq) /\ w'.cell? ⟨w5.heap.size, 7, none⟩ = some (.int .i64 x.tail) /\ w'.cell? ⟨w5.heap.size, 8, none⟩ = some (.int .i64 x.gen) /\ w'.cell? ⟨w5.heap.size, 9, none⟩ = some (.slice (some ⟨bd5, 0, none⟩) nd nd) /\ w'.cell? ⟨w5.heap.size, 10, none⟩ = some (.int .i64 x.fuse) /\ w'.cell? ⟨w5.heap.size, 11, none⟩ = some (.bool x.down) /\ w'.cell? ⟨w5.heap.size, 12, none⟩ = some (.bool x.broken)) /\ w'.cell? ⟨w.heap.size, 0, none⟩ = some (.int .i64 x.id) /\ w'.cell? ⟨w.heap.size, 1, none⟩ = some (.int .i64 x.n) /\ w'.cell? ⟨w.heap.size, 2, none⟩ = some (.int .i64 x.s) /\ w'.cell? ⟨w.heap.size, 3, none⟩ = some (.slice am nm cm) /\ w'.cell? ⟨w.heap.size, 4, none⟩ = some (.int .i64 x.lost) /\ w'.cell? ⟨w.heap.size, 5, none⟩ = some (.int .i64 x.built) /\ w'.cell? ⟨w.heap.size, 6, none⟩ = some (.int .i64 x.seq) /\ w'.cell? ⟨w.heap.size, 7, none⟩ = some (.int .i64 x.tail) /\ w'.cell? ⟨w.heap.size, 8, none⟩ = some (.int .i64 x.gen) /\ w'.cell? ⟨w.heap.size, 9, none⟩ = some (.slice ad nd cd) /\ w'.cell? ⟨w.heap.size, 10, none⟩ = some (.int .i64 x.fuse) /\ w'.cell? ⟨w.heap.size, 11, none⟩ = some (.bool x.down) /\ w'.cell? ⟨w.heap.size, 12, none⟩ = some (.bool x.broken)) (by kernel_rfl) ?_ (fun hHeld => ?_)
   . exact ⟨BX9.out.cells13, BR9.out.cells13⟩
   refine held_take (i := 0) (v := ?_) rfl (by kernel_rfl) (by kernel_rfl) (by kernel_rfl) (fun _ _ _ h => h) (by kernel_rfl) ?_ hHeld ?_
   rotate_left 1
   . (intro w hSw; (try dsimp only at hSw); go_split_ands; go_simp; first | done | with_reducible rfl)
   simp only [Act.put, List.setIfInBounds_toArray, List.set_cons_zero, List.set_cons_succ]
   refine held_take (i := 1) (v := ?_) rfl (by kernel_rfl) (by kernel_rfl) (by kernel_rfl) (fun _ _ _ h => h) (by kernel_rfl) ?_ hHeld ?_
   rotate_left 1
   . (intro w hSw; (try dsimp only at hSw); go_split_ands; go_simp; first | done | with_reducible rfl)
   simp only [Act.put, List.setIfInBounds_toArray, List.set_cons_zero, List.set_cons_succ]
   refine held_one (i := 2) (by kernel_rfl) rfl (by kernel_rfl) (fun K hK => ?_)
   go_simp
   refine (toArr_any _ 126 82 85 x _ _ _ _ _ _ ms ds (h0.below B9.out).drew (h1.below B9.out).drew hwt').mono ?_
   rintro e w10 ⟨bm10, bd10, rfl, om10, od10, ya10, yb10, hb10⟩
   have hb10' : Below w9.heap.size w9 w10 := (Below.refl w9.heap.size w9).drew.trans hb10
   go_wp2_with fail
   clear hHeld
   refine hK.out _ _ ?_ (fun hHeld => ?_)
   . exact ⟨(BX9.out.below hb10' zy).cells13, (BR9.out.below hb10' zl).cells13⟩
   clear hK K
   refine held_one (i := 3) (by kernel_rfl) rfl (by kernel_rfl) (fun K hK => ?_)
   go_simp
   refine (eqArr_same _ 115 115 75 75 89 89 x _ _ _ _ _ _ _ _ _ _ _ _ ms ds (Dm9.out.below hb10').rd (Dd9.out.below hb10').rd om10.rd od10.rd hwt2).mono ?_
   rintro e w11 ⟨rfl, hb11⟩
   have hb11' : Below w9.heap.size w9 w11 := Below.andThen hb10' hb11
   go_wp2_with fail
   clear hHeld
   refine hK.out _ _ ?_ (fun hHeld => ?_)
   . exact ⟨(BX9.out.below hb11' zy).cells13, (BR9.out.below hb11' zl).cells13⟩
   clear hK K
   refine held_take (i := 4) (v := ?_) rfl (by kernel_rfl) (by kernel_rfl) (by kernel_rfl) (fun _ _ _ h => h) (by kernel_rfl) ?_ hHeld ?_
   rotate_left 1
   . (intro w hSw; (try dsimp only at hSw); go_split_ands; go_simp; first | done | with_reducible rfl)
   simp only [Act.put, List.setIfInBounds_toArray, List.set_cons_zero, List.set_cons_succ]
   refine wpAnyH_done (by kernel_rfl) ?_ _
   clear hHeld
   clear y0 y1 y2 y3 y4 y5 y6 y7 y8 y9 y10 y11 y12 l0 l1 l2 l3 l4 l5 l6 l7 l8 l9 l10 l11 l12
   clear zl zy om10 od10 ya10 yb10 hb10 hb11 hb10'
   have B11 := hidden (Below.andThen B9.out hb11')
   have BR11 := hidden (BR9.out.below hb11' (by omega))
   have W11 := hidden (W9.out.below hb11')
   have WB11 := hidden (WB9.out.below hb11' (by omega))
   have Dm11 := hidden (Dm9.out.below hb11')
   have Dd11 := hidden (Dd9.out.below hb11')
   have BX11 := hidden (BX9.out.below hb11' (by omega))
   have G11 := hidden (G9.out.below hb11')
   have GB11 := hidden (GB9.out.below hb11' (by omega))
   have z11 := hb11'.size
   clear B9 BR9 W9 WB9 Dm9 Dd9 BX9 G9 GB9 hb11'
   obtain ⟨q0, q1, q2, q3, q4, q5, q6, q7, q8, q9, q10, q11, q12⟩ := BX11.out.cells13
   go_wp2_with fail
   refine (markArr_own _ _ _ _ x _ _ _ _ _ _ ms ds Dm11.out Dd11.out (by omega) (by omega) (by omega) hwt2).mono ?_
   rintro e w12 ⟨rfl, _, _, hb12⟩
   clear q0 q1 q2 q3 q4 q5 q6 q7 q8 q9 q10 q11 q12
   clear Dm11
   clear Dd11
   clear BX11
   have B12 := hidden (Below.andBut B11.out hb12 (by omega))
   have BR12 := hidden (BR11.out.kept (hb12.block _ (by omega) (by omega)))
   have W12 := hidden (W11.out.but hb12 (by omega))
   have WB12 := hidden (WB11.out.kept (hb12.block _ (by omega) (by omega)))
   have G12 := hidden (G11.out.but hb12 (by omega))
   have GB12 := hidden (GB11.out.kept (hb12.block _ (by omega) (by omega)))
   have z12 := hb12.size
   clear B11 BR11 W11 WB11 G11 GB11 hb12
   have hcn : (0 : Int) <= 1 + (cntMS ms : Int) + (cntWS ds : Int) := by omega
   generalize 1 + (cntMS ms : Int) + (cntWS ds : Int) = cn at hcn ⊢
   obtain ⟨p0, p1, p2, p3, p4, p5, p6, p7, p8, p9, p10, p11, p12⟩ := GB12.out.cells13
   obtain ⟨q0, q1, q2, q3, q4, q5, q6, q7, q8, q9, q10, q11, q12⟩ := WB12.out.cells13
   go_wp2_with fail
   refine (eqArr_same _ 115 115 75 75 89 89 y _ _ _ _ _ _ _ _ _ _ _ _ ns ds G12.out.rdm G12.out.rdd W12.out.rdm W12.out.rdd hwq).mono ?_
   rintro e w13 ⟨rfl, hb13⟩
   clear p0 p1 p2 p3 p4 p5 p6 p7 p8 p9 p10 p11 p12 q0 q1 q2 q3 q4 q5 q6 q7 q8 q9 q10 q11 q12
   have B13 := hidden (Below.andThen B12.out hb13)
   have BR13 := hidden (BR12.out.below hb13 (by omega))
   have W13 := hidden (W12.out.below hb13)
   have WB13 := hidden (WB12.out.below hb13 (by omega))
   have G13 := hidden (G12.out.below hb13)
   have GB13 := hidden (GB12.out.below hb13 (by omega))
   have z13 := hb13.size
   clear B12 BR12 W12 WB12 G12 GB12 hb13
   obtain ⟨p0, p1, p2, p3, p4, p5, p6, p7, p8, p9, p10, p11, p12⟩ := GB13.out.cells13
   go_wp2_with fail
   refine (markArr_in _ w6.heap.size w7.heap.size y _ _ _ _ _ _ ns ds G13.out (by omega) hwq).mono ?_
   rintro e w14 ⟨rfl, oi14, hb14⟩
   clear p0 p1 p2 p3 p4 p5 p6 p7 p8 p9 p10 p11 p12
   clear G13
   have B14 := hidden (Below.andBut B13.out hb14 (by omega))
   have BR14 := hidden (BR13.out.kept (hb14.block _ (by omega) (by omega)))
   have W14 := hidden (W13.out.but hb14 (by omega))
   have WB14 := hidden (WB13.out.kept (hb14.block _ (by omega) (by omega)))
   have GB14 := hidden (GB13.out.kept (hb14.block _ (by omega) (by omega)))
   have z14 := hb14.size
   clear B13 BR13 W13 WB13 GB13 hb14
   have G14 := hidden oi14
   clear oi14
   obtain ⟨p0, p1, p2, p3, p4, p5, p6, p7, p8, p9, p10, p11, p12⟩ := GB14.out.cells13
   go_wp2_with fail
   refine (heldArr_any _ 115 75 89 y _ _ _ _ _ _ ns ds G14.out.rdm G14.out.rdd hwq).mono ?_
   rintro e w15 ⟨rfl, hb15⟩
   clear p0 p1 p2 p3 p4 p5 p6 p7 p8 p9 p10 p11 p12
   have B15 := hidden (Below.andThen B14.out hb15)
   have BR15 := hidden (BR14.out.below hb15 (by omega))
   have W15 := hidden (W14.out.below hb15)
   have WB15 := hidden (WB14.out.below hb15 (by omega))
   have GB15 := hidden (GB14.out.below hb15 (by omega))
   have G15 := hidden (G14.out.below hb15)
   have z15 := hb15.size
   clear B14 BR14 W14 WB14 GB14 G14 hb15
   have hcm : (0 : Int) <= 1 + (cntMS ns : Int) + (cntWS ds : Int) := by omega
   generalize hCM : 1 + (cntMS ns : Int) + (cntWS ds : Int) = ck at hcm ⊢
   have HCM := hidden hCM
   clear hCM
   obtain ⟨l0, l1, l2, l3, l4, l5, l6, l7, l8, l9, l10, l11, l12⟩ := BR15.out.cells13
   go_wp2_with fail
   refine (toArr_any _ 126 82 85 x _ _ _ _ _ _ ms ds (h0.below B15.out) (h1.below B15.out) hwt').mono ?_
   rintro e w16 ⟨bm16, bd16, rfl, om16, od16, ya16, yb16, hb16⟩
   clear l0 l1 l2 l3 l4 l5 l6 l7 l8 l9 l10 l11 l12
   have B16 := hidden (Below.andThen B15.out hb16)
   have BR16 := hidden (BR15.out.below hb16 (by omega))
   have W16 := hidden (W15.out.below hb16)
   have WB16 := hidden (WB15.out.below hb16 (by omega))
   have GB16 := hidden (GB15.out.below hb16 (by omega))
   have G16 := hidden (G15.out.below hb16)
   have z16 := hb16.size
   clear B15 BR15 W15 WB15 GB15 G15 hb16
   have Em16 := hidden om16
   clear om16
   have Ed16 := hidden od16
   clear od16
   go_wp2_with fail
   refine (implSpoilAt_any _ 115 75 89 x _ _ _ _ _ _ ms ds m s Em16.out.rd Ed16.out.rd hwt2).mono ?_
   rintro e w17 ho17
   rw [HQ.out] at ho17
   obtain ⟨a17, d17, c17, b17, rfl, o17, hb17⟩ := ho17
   dsimp only at o17
   unfold arrC
   have B17 := hidden (Below.andThen B16.out hb17)
   have BR17 := hidden (BR16.out.below hb17 (by omega))
   have W17 := hidden (W16.out.below hb17)
   have WB17 := hidden (WB16.out.below hb17 (by omega))
   have GB17 := hidden (GB16.out.below hb17 (by omega))
   have G17 := hidden (G16.out.below hb17)
   have Em17 := hidden (Em16.out.below hb17)
   have Ed17 := hidden (Ed16.out.below hb17)
   have z17 := hb17.size
   clear B16 BR16 W16 WB16 GB16 G16 Em16 Ed16 hb17
   have H17 := hidden o17
   clear o17
   clear Em17
   clear Ed17
   have ba : Below w17.heap.size w17 (w17.alloc (.cells #[.int .i64 y.id, .int .i64 y.n, .int .i64 y.s, .slice a17 ns.length c17, .int .i64 y.lost, .int .i64 y.built, .int .i64 y.seq, .int .i64 y.tail, .int .i64 y.gen, .slice d17 ds.length b17, .int .i64 y.fuse, .bool y.down, .bool y.broken] 35)) := (Below.refl _ _).alloc (Nat.le_refl _) _
   have xb := Box.new w17 35 #[.int .i64 y.id, .int .i64 y.n, .int .i64 y.s, .slice a17 ns.length c17, .int .i64 y.lost, .int .i64 y.built, .int .i64 y.seq, .int .i64 y.tail, .int .i64 y.gen, .slice d17 ds.length b17, .int .i64 y.fuse, .bool y.down, .bool y.broken]
   have zx18 := xb.lt
   have B18 := hidden (Below.andThen B17.out ba)
   have BR18 := hidden (BR17.out.below ba (by omega))
   have W18 := hidden (W17.out.below ba)
   have WB18 := hidden (WB17.out.below ba (by omega))
   have GB18 := hidden (GB17.out.below ba (by omega))
   have G18 := hidden (G17.out.below ba)
   have H18 := hidden (H17.out.below ba)
   have z18 := ba.size
   clear B17 BR17 W17 WB17 GB17 G17 H17 ba
   have HB18 := hidden xb
   clear xb
   obtain ⟨p0, p1, p2, p3, p4, p5, p6, p7, p8, p9, p10, p11, p12⟩ := HB18.out.cells13
   obtain ⟨q0, q1, q2, q3, q4, q5, q6, q7, q8, q9, q10, q11, q12⟩ := WB18.out.cells13
   go_wp2_with fail
   generalize w17.alloc (.cells #[.int .i64 y.id, .int .i64 y.n, .int .i64 y.s, .slice a17 ns.length c17, .int .i64 y.lost, .int .i64 y.built, .int .i64 y.seq, .int .i64 y.tail, .int .i64 y.gen, .slice d17 ds.length b17, .int .i64 y.fuse, .bool y.down, .bool y.broken] 35) = w18 at B18 BR18 W18 WB18 GB18 G18 H18 HB18 z18 zx18 p0 p1 p2 p3 p4 p5 p6 p7 p8 p9 p10 p11 p12 q0 q1 q2 q3 q4 q5 q6 q7 q8 q9 q10 q11 q12 ⊢
   refine (eqArr_same _ 115 115 75 75 89 89 y _ _ _ _ _ _ _ _ _ _ _ _ ns ds H18.out.rdm H18.out.rdd W18.out.rdm W18.out.rdd hwq).mono ?_
   rintro e w19 ⟨rfl, hb19⟩
   clear p0 p1 p2 p3 p4 p5 p6 p7 p8 p9 p10 p11 p12 q0 q1 q2 q3 q4 q5 q6 q7 q8 q9 q10 q11 q12
   have B19 := hidden (Below.andThen B18.out hb19)
   have BR19 := hidden (BR18.out.below hb19 (by omega))
   have W19 := hidden (W18.out.below hb19)
   have WB19 := hidden (WB18.out.below hb19 (by omega))
   have GB19 := hidden (GB18.out.below hb19 (by omega))
   have G19 := hidden (G18.out.below hb19)
   have H19 := hidden (H18.out.below hb19)
   have HB19 := hidden (HB18.out.below hb19 (by omega))
   have z19 := hb19.size
   clear B18 BR18 W18 WB18 GB18 G18 H18 HB18 hb19
   clear H19
   clear HB19
   clear W19
   clear WB19
   obtain ⟨p0, p1, p2, p3, p4, p5, p6, p7, p8, p9, p10, p11, p12⟩ := GB19.out.cells13
   go_wp2_with fail
   refine (heldArr_any _ 115 75 89 y _ _ _ _ _ _ ns ds G19.out.rdm G19.out.rdd hwq).mono ?_
   rintro e w20 ⟨rfl, hb20⟩
   clear p0 p1 p2 p3 p4 p5 p6 p7 p8 p9 p10 p11 p12
   have B20 := hidden (Below.andThen B19.out hb20)
   have BR20 := hidden (BR19.out.below hb20 (by omega))
   have GB20 := hidden (GB19.out.below hb20 (by omega))
   have G20 := hidden (G19.out.below hb20)
   have z20 := hb20.size
   clear B19 BR19 GB19 G19 hb20
   rw [HCM.out]
   go_wp2
   go_ret
   exact ⟨rfl, B20.out⟩
 have hq := leftOf_neg (left := 1048576) (wt := wtArr ms ds) (by omega)
 go_wp2
 go_ret
 exact ⟨rfl, B1.out⟩

end Go.Proofs.Ytialakmmifhliaa

namespace Go.Proofs.Ytialakmmifhliaa
open Go.RowKit Go.ChangeShapes Go.WideShapes Go.ChangeAt Go.Joins Go.Deep

section
variable {H : Type} {enc : TypeId × Value -> H} {P : Program} {w : World} {held : Bool}

theorem rdInts_of {t q : TypeId} {fuel : Nat} {v : Value} {x : DataW H × List MemPlace} (ht : P.underlying t = some (.slice q)) (hq : P.underlying q = some (.int .i64)) (cq : P.cellsOf q = 1)
 (h : DataW.trod enc P w 0 (fun _ => true) held fuel t [v] = some x) : ∃ zs, tIntS.Rd w [v] zs := by
 rcases open_ints ht hq cq h with ⟨hcs, _⟩ | ⟨a, len, cap, zs, hcs, _, hl, hm, hz, _, hcell, hwz⟩
 . simp at hcs
   subst hcs
   exact ⟨[], ints_rd_of (.inl rfl) (Nat.le_refl _) (by simp) (fun _ => rfl)⟩
 simp at hcs
 subst hcs
 have hr : IsRow .i64 w (some a) len cap zs := .inr ⟨_, rfl, hl, hm, by simpa using hz, hcell, hwz⟩
 obtain ⟨h1, h2, _, _⟩ := hr.reads
 refine ⟨zs.take len, ?_⟩
 have := ints_rd_of (E := 3) (cap := cap) h1 (by omega) (by unfold maxLen at hm; omega) (by simp)
 rw [h2] at this
 exact this

theorem rd_row {t : Ty} {E : TypeId} {a : Addr} {len cap : Nat} (hl : len <= cap) (hm : cap <= 9223372036854775807) (cs : Nat -> List Value) (hn : 0 < t.n) (hcl : ∀ i, i < len -> (cs i).length = t.n)
 (hc : ∀ i, i < len -> ∀ j, j < t.n -> w.cell? (a.add (i * t.n + j)) = (cs i)[j]?) (hx : ∀ i, i < len -> ∃ x, t.Rd w (cs i) x) : ∃ d, (rowTy t E).Rd w [.slice (some a) len cap] d := by
 have each : ∀ i, i < len -> ∃ y : t.D × List Nat, t.rd w (cs i) y.1 y.2 := by
  intro i hi
  obtain ⟨x, fp, h⟩ := hx i hi
  exact ⟨(x, fp), h⟩
 by_cases h0 : len = 0
 . subst h0
   exact ⟨[], [], some a, cap, rfl, by simp, hm, .inl ⟨rfl, rfl, by simp⟩⟩
 have hne : Nonempty (t.D × List Nat) := by
  obtain ⟨y, _⟩ := each 0 (by omega)
  exact ⟨y⟩
 have hch : ∃ f : Nat -> t.D × List Nat, ∀ i, i < len -> t.rd w (cs i) (f i).1 (f i).2 := by
  refine ⟨fun i => if h : i < len then Classical.choose (each i h) else Classical.choice hne, fun i hi => ?_⟩
  simp only [dif_pos hi]
  exact Classical.choose_spec (each i hi)
 obtain ⟨f, hf⟩ := hch
 obtain ⟨b, off, spot⟩ := a
 have hc0 := hc 0 (by omega) 0 hn
 have hsome : ∃ v0, (cs 0)[0]? = some v0 := ⟨(cs 0)[0]'(by rw [hcl 0 (by omega)]; exact hn), List.getElem?_eq_getElem _⟩
 obtain ⟨v0, hv0⟩ := hsome
 rw [hv0] at hc0
 have hspot : spot = none := by simpa [Addr.add] using World.cell?_spot hc0
 subst hspot
 have ea : ∀ k, (⟨b, off, none⟩ : Addr).add k = ⟨b, off + k, none⟩ := by
  intro k
  unfold Addr.add
  split <;> simp_all
 rw [ea] at hc0
 have hblt : b < w.heap.size := World.block_lt_of_cell? w _ hc0
 refine ⟨(List.range len).map fun i => (f i).1, b :: ((List.range len).map fun i => (f i).2).flatten, _, cap, by simp, by simpa using hl, hm, .inr ⟨b, off, (List.range len).map fun i => (f i).2, rfl, hblt, rfl, by simp, fun i x hxi => ?_⟩⟩
 have hi : i < len := by
  have := (List.getElem?_eq_some_iff.1 hxi).1
  simpa using this
 rw [List.getElem?_map, List.getElem?_range hi] at hxi
 simp at hxi
 subst hxi
 refine ⟨(f i).2, cs i, by rw [List.getElem?_map, List.getElem?_range hi]; rfl, hf i hi, fun j hj => ?_⟩
 rw [← ea]
 exact hc i hi j hj

theorem rdIntSS_of {t e q : TypeId} {fuel : Nat} {v : Value} {x : DataW H × List MemPlace} (ht : P.underlying t = some (.slice e)) (he : P.underlying e = some (.slice q)) (hq : P.underlying q = some (.int .i64)) (ce : P.cellsOf e = 1) (cq : P.cellsOf q = 1)
 (h : DataW.trod enc P w 0 (fun _ => true) held fuel t [v] = some x) : ∃ d, tIntSS.Rd w [v] d := by
 rcases open_slice1 ht ce h with ⟨hcs, _⟩ | ⟨a, len, cap, m, n, V, D, Pl, hcs, _, hl, hm, hmm, _, hx⟩
 . simp at hcs
   subst hcs
   exact ⟨[], [], none, 0, rfl, by simp, by simp, .inl ⟨rfl, rfl, fun _ => rfl⟩⟩
 simp at hcs
 subst hcs
 simp only [if_true] at hmm
 refine rd_row hl (by unfold maxLen at hm; omega) (fun i => [V i]) (by decide) (fun _ _ => rfl) (fun i hi j hj => ?_) (fun i hi => rdInts_of he hq cq (hx i (by omega)).2)
 have hj0 : j = 0 := by have : j < 1 := hj; omega
 subst hj0
 have := (hx i (by omega)).1
 show w.cell? (a.add (i * 1 + 0)) = some (V i)
 rw [Nat.mul_one, Nat.add_zero]
 exact this

theorem rdWrS_of {t e q : TypeId} {f0 f1 : Field} {E : TypeId} {fuel : Nat} {v : Value} {x : DataW H × List MemPlace} (ht : P.underlying t = some (.slice e)) (he : P.underlying e = some (.struct #[f0, f1])) (ce : P.cellsOf e = 2) (o0 : f0.offset = 0) (o1 : f1.offset = 1) (c0 : P.cellsOf f0.type = 1) (c1 : P.cellsOf f1.type = 1)
 (hi0 : P.underlying f0.type = some (.int .i64)) (hi1 : P.underlying f1.type = some (.slice q)) (hq : P.underlying q = some (.int .i64)) (cq : P.cellsOf q = 1)
 (h : DataW.trod enc P w 0 (fun _ => true) held fuel t [v] = some x) : ∃ d, (tWrS E).Rd w [v] d := by
 rcases open_slice_pairs ht he ce o0 o1 c0 c1 h with ⟨hcs, _⟩ | ⟨a, len, cap, m, n, V0, V1, D0, D1, P0, P1, hcs, _, hl, hm, hmm, _, hx⟩
 . simp at hcs
   subst hcs
   exact ⟨[], [], none, 0, rfl, by simp, by simp, .inl ⟨rfl, rfl, fun _ => rfl⟩⟩
 simp at hcs
 subst hcs
 simp only [if_true] at hmm
 refine rd_row hl (by unfold maxLen at hm; omega) (fun i => [V0 i, V1 i]) (by decide) (fun _ _ => rfl) (fun i hi j hj => ?_) (fun i hi => ?_)
 . have hj2 : j < 2 := hj
   obtain ⟨h0, h1, _⟩ := hx i (by omega)
   match j, hj2 with
   | 0, _ => exact h0
   | 1, _ => exact h1
 obtain ⟨_, _, h2, h3⟩ := hx i (by omega)
 obtain ⟨y, hy, _, _⟩ := DataW.trod_int hi0 h2
 obtain ⟨zs, hzs⟩ := rdInts_of hi1 hq cq h3
 simp at hy
 exact ⟨(y, zs), by rw [hy]; exact pair_rd_of (t := intTy) (vs := [_]) ⟨[], rfl, rfl⟩ hzs⟩

end
end Go.Proofs.Ytialakmmifhliaa

namespace Go.Proofs.Ytialakmmifhliaa
open Go.RowKit Go.ChangeShapes Go.WideShapes Go.ChangeAt Go.Joins Go.Deep

section
variable {H : Type} {enc : TypeId × Value -> H} {w : World} {held : Bool}

theorem rdRow_of {P : Program} {t e E : TypeId} {u : Ty} {fuel : Nat} {v : Value} {x : DataW H × List MemPlace} (ht : P.underlying t = some (.slice e)) (ce : P.cellsOf e = u.n) (hn : 0 < u.n)
 (each : ∀ (n : Nat) (cs : List Value) (y : DataW H × List MemPlace), cs.length = u.n -> DataW.trod enc P w 0 (fun _ => true) held n e cs = some y -> ∃ d, u.Rd w cs d)
 (h : DataW.trod enc P w 0 (fun _ => true) held fuel t [v] = some x) : ∃ d, (rowTy u E).Rd w [v] d := by
 rcases open_slice ht h with ⟨hcs, _⟩ | ⟨a, len, cap, m, n, D, Pl, hcs, _, hl, hm, hmm, _, hx⟩
 . simp at hcs
   subst hcs
   exact ⟨[], [], none, 0, rfl, by simp, by simp, .inl ⟨rfl, rfl, fun _ => rfl⟩⟩
 simp at hcs
 subst hcs
 simp only [if_true] at hmm
 have one : ∀ i, i < len -> ∃ cs : List Value, cs.length = u.n /\ (∀ j, j < u.n -> w.cell? (a.add (i * u.n + j)) = cs[j]?) /\ ∃ d, u.Rd w cs d := by
  intro i hi
  obtain ⟨cs', h1, h2⟩ := hx i (by omega)
  rw [ce] at h1
  obtain ⟨_, hlen, hcell⟩ := World.cells?_some h1
  refine ⟨cs', hlen, fun j hj => ?_, each n cs' _ hlen h2⟩
  have := hcell j hj
  rw [add_add] at this
  exact this
 obtain ⟨q, hq⟩ := choose_lt one
 exact rd_row hl (by unfold maxLen at hm; omega) q hn (fun i hi => (hq i hi).1) (fun i hi => (hq i hi).2.1) (fun i hi => (hq i hi).2.2)

theorem rdMemS_of {fuel : Nat} {v : Value} {x : DataW H × List MemPlace} (h : DataW.trod enc Try.prog w 0 (fun _ => true) held fuel 24 [v] = some x) : ∃ d, (tMemS 126 82).Rd w [v] d := by
 refine rdRow_of (e := 82) Try.underlying24 (by kernel_rfl) (by decide) (fun n cs y hl hy => ?_) h
 match cs, hl with
 | [v0, v1, v2, v3], _ =>
  obtain ⟨xs, k, _, _, _, hxl, hf⟩ := DataW.trod_struct Try.underlying82 hy
  have c1 : Try.prog.cellsOf 72 = 1 := by kernel_rfl
  have c2 : Try.prog.cellsOf 80 = 1 := by kernel_rfl
  have c3 : Try.prog.cellsOf 4 = 1 := by kernel_rfl
  have c4 : Try.prog.cellsOf 42 = 1 := by kernel_rfl
  match xs, hxl with
  | [y0, y1, y2, y3], _ =>
   have g0 := hf 0 _ rfl
   have g1 := hf 1 _ rfl
   have g2 := hf 2 _ rfl
   have g3 := hf 3 _ rfl
   simp [c1] at g0
   simp [c2] at g1
   simp [c3] at g2
   simp [c4] at g3
   obtain ⟨ss, r0⟩ := rdIntSS_of Try.underlying72 Try.underlying42 Try.underlying3 (by kernel_rfl) (by kernel_rfl) g0
   obtain ⟨ws, r1⟩ := rdWrS_of (E := 126) Try.underlying80 Try.underlying126 (by kernel_rfl) rfl rfl (by kernel_rfl) (by kernel_rfl) Try.underlying3 Try.underlying42 Try.underlying3 (by kernel_rfl) g1
   obtain ⟨f, hfb, _⟩ := DataW.trod_bool Try.underlying4 g2
   obtain ⟨bs, r3⟩ := rdInts_of Try.underlying42 Try.underlying3 (by kernel_rfl) g3
   simp at hfb
   subst hfb
   exact ⟨(ss, ws, f, bs), pair_rd_of (vs := [v0]) r0 (pair_rd_of (vs := [v1]) r1 (pair_rd_of (t := boolTy) (vs := [.bool f]) ⟨[], rfl, rfl⟩ r3))⟩

theorem array13 {cs : Array Value} (h : cs.size = 13) : ∃ c0 c1 c2 c3 c4 c5 c6 c7 c8 c9 c10 c11 c12, cs = #[c0, c1, c2, c3, c4, c5, c6, c7, c8, c9, c10, c11, c12] := by
 obtain ⟨l⟩ := cs
 match l, h with
 | [c0, c1, c2, c3, c4, c5, c6, c7, c8, c9, c10, c11, c12], _ => exact ⟨c0, c1, c2, c3, c4, c5, c6, c7, c8, c9, c10, c11, c12, rfl⟩

theorem open_arr {r : Reach} {b0 : Nat} {v : Value} {d : DataW H} {p : List MemPlace} (hv : Value.okWide Try.prog w r b0 27 v) (h : DataW.Trod enc Try.prog w 0 (fun _ => true) held 27 v d p) :
 ∃ (x : ArrN) (am ad : Option Addr) (cm cd : Nat) (ms : List MemD) (ds : List (Int × List Int)), v = .agg #[.int .i64 x.id, .int .i64 x.n, .int .i64 x.s, .slice am ms.length cm, .int .i64 x.lost, .int .i64 x.built, .int .i64 x.seq, .int .i64 x.tail, .int .i64 x.gen, .slice ad ds.length cd, .int .i64 x.fuse, .bool x.down, .bool x.broken] /\ (tMemS 126 82).Rd w [.slice am ms.length cm] ms /\ (tWrS 85).Rd w [.slice ad ds.length cd] ds := by
 obtain ⟨cs, rfl, hsz⟩ := okWide_struct Try.underlying27 hv
 obtain ⟨c0, c1, c2, c3, c4, c5, c6, c7, c8, c9, c10, c11, c12, rfl⟩ := array13 (hsz.trans (by kernel_rfl))
 obtain ⟨fuel, hf⟩ := h
 obtain ⟨xs, n, _, _, _, hxl, hx⟩ := DataW.trod_struct Try.underlying27 hf
 have k3 : Try.prog.cellsOf 3 = 1 := by kernel_rfl
 have k4 : Try.prog.cellsOf 4 = 1 := by kernel_rfl
 have kG : Try.prog.cellsOf 23 = 2 := by kernel_rfl
 have kM : Try.prog.cellsOf 24 = 1 := by kernel_rfl
 have kE : Try.prog.cellsOf 25 = 1 := by kernel_rfl
 match xs, hxl with
 | [y0, y1, y2, y3, y4, y5, y6, y7, y8, y9, y10, y11], _ =>
  have g0 := hx 0 _ rfl
  have g1 := hx 1 _ rfl
  have g2 := hx 2 _ rfl
  have g3 := hx 3 _ rfl
  have g4 := hx 4 _ rfl
  have g5 := hx 5 _ rfl
  have g6 := hx 6 _ rfl
  have g7 := hx 7 _ rfl
  have g8 := hx 8 _ rfl
  have g9 := hx 9 _ rfl
  have g10 := hx 10 _ rfl
  have g11 := hx 11 _ rfl
  simp [Value.cells, k3] at g0
  simp [Value.cells, kG] at g1
  simp [Value.cells, kM] at g2
  simp [Value.cells, k3] at g3
  simp [Value.cells, k3] at g4
  simp [Value.cells, k3] at g5
  simp [Value.cells, k3] at g6
  simp [Value.cells, k3] at g7
  simp [Value.cells, kE] at g8
  simp [Value.cells, k3] at g9
  simp [Value.cells, k4] at g10
  simp [Value.cells, k4] at g11
  obtain ⟨n0, e0, _, _⟩ := DataW.trod_int Try.underlying3 g0
  simp at e0
  subst e0
  obtain ⟨zs, m, _, _, _, hzl, hz⟩ := DataW.trod_struct Try.underlying23 g1
  match zs, hzl with
  | [z0, z1], _ =>
  have q0 := hz 0 _ rfl
  have q1 := hz 1 _ rfl
  simp [k3] at q0 q1
  obtain ⟨nn, en, _, _⟩ := DataW.trod_int Try.underlying3 q0
  obtain ⟨ns, es, _, _⟩ := DataW.trod_int Try.underlying3 q1
  simp at en es
  subst en es
  obtain ⟨ms, r2⟩ := rdMemS_of g2
  obtain ⟨am, cm, rfl⟩ := row_shape r2
  obtain ⟨n3, e3, _, _⟩ := DataW.trod_int Try.underlying3 g3
  simp at e3
  subst e3
  obtain ⟨n4, e4, _, _⟩ := DataW.trod_int Try.underlying3 g4
  simp at e4
  subst e4
  obtain ⟨n5, e5, _, _⟩ := DataW.trod_int Try.underlying3 g5
  simp at e5
  subst e5
  obtain ⟨n6, e6, _, _⟩ := DataW.trod_int Try.underlying3 g6
  simp at e6
  subst e6
  obtain ⟨n7, e7, _, _⟩ := DataW.trod_int Try.underlying3 g7
  simp at e7
  subst e7
  obtain ⟨ds, r8⟩ := rdWrS_of (E := 85) Try.underlying25 Try.underlying85 (by kernel_rfl) rfl rfl (by kernel_rfl) (by kernel_rfl) Try.underlying3 Try.underlying42 Try.underlying3 (by kernel_rfl) g8
  obtain ⟨ad, cd, rfl⟩ := row_shape r8
  obtain ⟨n9, e9, _, _⟩ := DataW.trod_int Try.underlying3 g9
  simp at e9
  subst e9
  obtain ⟨n10, e10, _⟩ := DataW.trod_bool Try.underlying4 g10
  simp at e10
  subst e10
  obtain ⟨n11, e11, _⟩ := DataW.trod_bool Try.underlying4 g11
  simp at e11
  subst e11
  exact ⟨⟨n0, nn, ns, n3, n4, n5, n6, n7, n9, n10, n11⟩, am, ad, cm, cd, ms, ds, rfl, r2, r8⟩

end
end Go.Proofs.Ytialakmmifhliaa

namespace Go.Proofs.Ytialakmmifhliaa.fnExactSpoilAt
open Go.ChangeShapes Go.WideShapes Go.ChangeAt Go.RowKit Go.Joins
open Go.ChangeMaps (open_string shut_string)
set_option linter.unusedVariables false

theorem own : ownKnob Try.prog.godebug = none := by kernel_rfl
theorem laidOut : laidOutB Try.prog = true := by kernel_rfl

theorem lifted (os : Os) (started : os.Started) (H : Type) (enc : TypeId × Value -> H) :
 ReturnsInHanded {} Try.checked os 7 .any (Rows.fnExactSpoilAtSpec.pre6 enc Try.prog Try.f7 Rows.fnExactSpoilAtRow.domain false) (Rows.fnExactSpoilAtSpec.post enc Try.prog Try.f7 false true false false) := by
 refine returnsInHanded_of_change (C := Try.checked) own started (by kernel_rfl) Try.func7
  (ChangeSpec.witness6 (enc := enc) (C := Try.checked) false ⟨#[], #[.agg #[.int .i64 0, .int .i64 0, .int .i64 0, .slice none 0 0, .int .i64 0, .int .i64 0, .int .i64 0, .int .i64 0, .int .i64 0, .slice none 0 0, .int .i64 0, .bool false, .bool false], .int .i64 0, .int .i64 0], []⟩ 8 (by kernel_rfl) (by kernel_rfl) (by kernel_rfl) (by kernel_rfl)) ?_
 intro W base args ds gs before hval0 hW hcnd _
 have hval : ∀ (j : Nat) t v, Try.f7.params[j]? = some t -> args[j]? = some v -> Value.okWide Try.prog W .any base t v := hval0
 have hW' := hW
 obtain ⟨p, q, hA0, hV, rfl, hfz, hnd⟩ := hW
 have hA : DataW.TrodAll enc Try.prog W 0 (fun _ => true) true Try.f7.params.toList args.toList ds p := hA0
 rw [Try.params7] at hA hval
 obtain ⟨v0, vs0, d0, ds0, p0, q0, hargs0, rfl, rfl, h0, r0⟩ := trodAll_cons hA
 obtain ⟨v1, vs1, d1, ds1, p1, q1, hargs1, rfl, rfl, h1, r1⟩ := trodAll_cons r0
 obtain ⟨v2, vs2, d2, ds2, p2, q2, hargs2, rfl, rfl, h2, r2⟩ := trodAll_cons r1
 obtain ⟨rfl, rfl, rfl⟩ := trodAll_nil r2
 obtain rfl : args = #[v0, v1, v2] := by cases args; simp_all
 obtain ⟨rfl, rfl⟩ := trodVars_none hV
 have k0 := h0
 have lt0 : ∀ x ∈ p0, x.block < W.heap.size := by obtain ⟨m, hm⟩ := k0; exact DataW.trod_lt m _ _ _ hm
 obtain ⟨x0, am0, ad0, cm0, cd0, ms0, ds0, rfl, g0m, g0d⟩ := open_arr (hval 0 27 v0 rfl rfl) h0
 have k1 := h1
 have lt1 : ∀ x ∈ p1, x.block < W.heap.size := by obtain ⟨m, hm⟩ := k1; exact DataW.trod_lt m _ _ _ hm
 obtain ⟨x1, hv1, _, _, wf1⟩ := open_int Try.underlying3 (hval 1 3 v1 rfl rfl) h1
 subst hv1
 have k2 := h2
 have lt2 : ∀ x ∈ p2, x.block < W.heap.size := by obtain ⟨m, hm⟩ := k2; exact DataW.trod_lt m _ _ _ hm
 obtain ⟨x2, hv2, _, _, wf2⟩ := open_int Try.underlying3 (hval 2 3 v2 rfl rfl) h2
 subst hv2
 clear hA0 hval0
 refine (fnExactSpoilAt_walk x0 am0 ad0 ms0.length cm0 ds0.length cd0 ms0 ds0 x1 x2 W g0m g0d).mono fun e W' ⟨he, bel⟩ => ?_
 subst he
 exact ⟨_, rfl, _, _, _, [], _, [], hW', trodAll_mk1 (shut_bool Try.underlying4 _), (trodAll_cons_mk (Below.trod laidOut (by kernel_rfl) (of_decide_eq_true (by kernel_rfl)) k0 bel lt0) (trodAll_cons_mk (Below.trod laidOut (by kernel_rfl) (of_decide_eq_true (by kernel_rfl)) k1 bel lt1) (trodAll_cons_mk (Below.trod laidOut (by kernel_rfl) (of_decide_eq_true (by kernel_rfl)) k2 bel lt2) trodAll_mk0))), rfl, bel.frame _, fun h => by cases h⟩

theorem over : Rows.fnExactSpoilAtRow.holds Try.pinned (OpenSpec.ofChange Rows.fnExactSpoilAtSpec) :=
 OpenClaim.holds_of_wide 7 Try.f7 rfl rfl rfl rfl rfl rfl rfl ⟨rfl, rfl, rfl, rfl, rfl⟩ rfl rfl rfl rfl rfl (by kernel_rfl) Try.func7 (by kernel_rfl)
  (of_decide_eq_true (by kernel_rfl)) (by unfold Func.isWrapper; first | (rw [if_pos (by decide +kernel)]; kernel_rfl) | (rw [if_neg (by decide +kernel)]; exact ⟨rfl, rfl⟩))
  (fun os started H enc _ => lifted os started H enc)
end Go.Proofs.Ytialakmmifhliaa.fnExactSpoilAt

namespace Go.Proofs.Ytialakmmifhliaa
theorem fnExactSpoilAt_holds : Rows.FnExactSpoilAtSaid := fnExactSpoilAt.over
#print axioms fnExactSpoilAt_holds
end Go.Proofs.Ytialakmmifhliaa


/-
 The specification's FailDisk walked. Condition: the array weighs at most 2097152.
-/
import Derived.Test.YtechckninoilhaaGreatRowFailDiskAll4
import Derived.Test.YtechckninoilhaaGreatWalkWriteSpec
import Derived.Test.YtechckninoilhaaGreatHeld
import Derived.Test.YtechckninoilhaaGreatWalkFlush
import Derived.Test.YtechckninoilhaaGreatWalkPutSuper
import Derived.Test.YtechckninoilhaaGreatWalkFail
import Derived.Test.YtechckninoilhaaGreatWalkArrOk
import Derived.Test.YtechckninoilhaaGreatWalkArr
import Derived.Test.YtechckninoilhaaGreatTurn
import Derived.Test.YtechckninoilhaaGreatWalkCopySpec
import Derived.Test.YtechckninoilhaaGreatOrder

set_option maxRecDepth 100000
set_option maxHeartbeats 8000000
set_option linter.unusedSimpArgs false

namespace Go.Proofs.YtechckninoilhaaGreat
open Go.RowKit

theorem specArrOk_any (w : World) (E F G : TypeId) (x : ArrN) (am ad : Option Addr) (nm cm nd cd : Nat) (ms : List MemD) (ds : List (Int × List Int)) (h0 : (tMemS E F).Rd w [.slice am nm cm] ms) (h1 : (tWrS G).Rd w [.slice ad nd cd] ds) (hw : wtArr ms ds <= 2097152) :
 Calls Tryz.prog 26 #[.agg #[.int .i64 x.id, .int .i64 x.n, .int .i64 x.s, .slice am nm cm, .int .i64 x.lost, .int .i64 x.built, .int .i64 x.seq, .int .i64 x.tail, .int .i64 x.gen, .slice ad nd cd, .int .i64 x.fuse, .bool x.down, .bool x.broken]] w fun e w' => e = .returned (.bool (arrB x ms ds)) /\ Below w.heap.size w w' := by
 have hwm : wtMemS ms <= 2097152 := by unfold wtArr at hw; omega
 have hwd : wtWrS ds <= 2097152 := by unfold wtArr at hw; omega
 have hA := new_below w (.cells #[.int .i64 x.id, .int .i64 x.n, .int .i64 x.s, .slice am nm cm, .int .i64 x.lost, .int .i64 x.built, .int .i64 x.seq, .int .i64 x.tail, .int .i64 x.gen, .slice ad nd cd, .int .i64 x.fuse, .bool x.down, .bool x.broken] 33)
 have X := Box.new w 33 #[.int .i64 x.id, .int .i64 x.n, .int .i64 x.s, .slice am nm cm, .int .i64 x.lost, .int .i64 x.built, .int .i64 x.seq, .int .i64 x.tail, .int .i64 x.gen, .slice ad nd cd, .int .i64 x.fuse, .bool x.down, .bool x.broken]
 obtain ⟨k0, k1, k2, k3, k4, k5, k6, k7, k8, k9, k10, k11, k12⟩ := X.cells13
 have zA := X.lt
 have r0 := h0.below hA
 have r1 := h1.below hA
 go_enter Tryz.func26, Tryz.ntmps26
 go_wp2_with fail
 generalize w.alloc (.cells #[.int .i64 x.id, .int .i64 x.n, .int .i64 x.s, .slice am nm cm, .int .i64 x.lost, .int .i64 x.built, .int .i64 x.seq, .int .i64 x.tail, .int .i64 x.gen, .slice ad nd cd, .int .i64 x.fuse, .bool x.down, .bool x.broken] 33) = W at hA X zA r0 r1 k0 k1 k2 k3 k4 k5 k6 k7 k8 k9 k10 k11 k12 ⊢
 refine (specGeoOk_any _ _ _).mono ?_
 rintro e w1 ⟨rfl, b1⟩
 have X1 := X.below b1 X.lt
 have B1 := Below.andThen hA b1
 have q1 := r0.below b1
 have t1 := r1.below b1
 clear k0 k1 k2 k3 k4 k5 k6 k7 k8 k9 k10 k11 k12 b1 hA X r0 r1
 obtain ⟨k0, k1, k2, k3, k4, k5, k6, k7, k8, k9, k10, k11, k12⟩ := X1.cells13
 cases hg : geoB x.n x.s
 . skip
   have HF : Hid (arrB x ms ds = false) := by unfold Hid arrB; simp [hg]
   go_wp2
   go_ret
   exact ⟨ret_bool HF.out.symm, B1⟩
 obtain ⟨g1, g2, g3, g4⟩ := geoB_iff.1 hg
 have hws : IntKind.i64.wrap (x.n - 1) = x.n - 1 := IntWalk.i64_in _ (by omega)
 go_wp2_with fail
 refine (l1In_any _ _ _ _).mono ?_
 rintro e wq ⟨rfl, hq⟩
 obtain rfl := hq.symm
 cases hid : inB x.id 1 60000
 . skip
   have HF : Hid (arrB x ms ds = false) := by unfold Hid arrB; simp [hid]
   go_wp2
   go_ret
   exact ⟨ret_bool HF.out.symm, B1⟩
 skip
 go_wp2_with fail
 refine (l6Mems_any _ E F x _ _ _ _ _ _ ms q1 hwm hg).mono ?_
 rintro e w2 ⟨rfl, b2⟩
 have X2 := X1.below b2 X1.lt
 have B2 := Below.andThen B1 b2
 have q2 := q1.below b2
 have t2 := t1.below b2
 clear k0 k1 k2 k3 k4 k5 k6 k7 k8 k9 k10 k11 k12 b2 B1 X1 q1 t1
 obtain ⟨k0, k1, k2, k3, k4, k5, k6, k7, k8, k9, k10, k11, k12⟩ := X2.cells13
 cases hms : memsB x ms
 . skip
   have HF : Hid (arrB x ms ds = false) := by unfold Hid arrB; simp [hms]
   go_wp2
   go_ret
   exact ⟨ret_bool HF.out.symm, B2⟩
 skip
 go_wp2_with fail
 refine (l6Dirty_any _ G x _ _ _ _ _ _ ds t2 hwd hg).mono ?_
 rintro e w3 ⟨rfl, b3⟩
 have X3 := X2.below b3 X2.lt
 have B3 := Below.andThen B2 b3
 have q3 := q2.below b3
 have t3 := t2.below b3
 clear k0 k1 k2 k3 k4 k5 k6 k7 k8 k9 k10 k11 k12 b3 B2 X2 q2 t2
 obtain ⟨k0, k1, k2, k3, k4, k5, k6, k7, k8, k9, k10, k11, k12⟩ := X3.cells13
 cases hds : entsB x ds
 . skip
   have HF : Hid (arrB x ms ds = false) := by unfold Hid arrB; simp [hds]
   go_wp2
   go_ret
   exact ⟨ret_bool HF.out.symm, B3⟩
 skip
 go_wp2_with fail
 refine (l1In_any _ _ _ _).mono ?_
 rintro e wq ⟨rfl, hq⟩
 obtain rfl := hq.symm
 cases hlo : inB x.lost (-1) (x.n - 1)
 . skip
   have HF : Hid (arrB x ms ds = false) := by unfold Hid arrB; simp [lostB6, hlo]
   go_wp2
   go_ret
   exact ⟨ret_bool HF.out.symm, B3⟩
 skip
 go_wp2_with fail
 refine (l1In_any _ _ _ _).mono ?_
 rintro e wq ⟨rfl, hq⟩
 obtain rfl := hq.symm
 cases hbu : inB x.built 0 x.s
 . skip
   have HF : Hid (arrB x ms ds = false) := by unfold Hid arrB; simp [lostB6, hbu]
   go_wp2
   go_ret
   exact ⟨ret_bool HF.out.symm, B3⟩
 skip
 have hlb : (x.lost = -1 /\ ¬ x.built = 0) ∨ (x.lost = -1 /\ x.built = 0) ∨ ¬ x.lost = -1 := by omega
 have HLB : Hid (lostB6 x = (!decide (x.lost = -1) || decide (x.built = 0))) := by unfold Hid lostB6; rw [hlo, hbu]; simp
 rcases hlb with ⟨l1, l2⟩ | ⟨l1, l2⟩ | l1
 . have e1 : (x.lost == -1) = true := by simpa using l1
   have e2 : (x.built != 0) = true := by simpa using l2
   have e3 : (x.built == 0) = false := by simpa using l2
   have hL : lostB6 x = false := by rw [HLB.out]; simp [l1, l2]
   rw [l1] at k4
   have HF : Hid (arrB x ms ds = false) := by unfold Hid arrB; simp [hL]
   clear hL l1 l2
   go_wp2
   go_ret
   exact ⟨ret_bool HF.out.symm, B3⟩
 . have e1 : (x.lost == -1) = true := by simpa using l1
   have e2 : (x.built != 0) = false := by simpa using l2
   have e3 : (x.built == 0) = true := by simpa using l2
   have HLT : Hid (lostB6 x = true) := by unfold Hid; rw [HLB.out]; simp [l2]
   rw [l1] at k4
   rw [l2] at k5
   clear l1 l2
   have HT : Hid (arrB x ms ds = seqB6 x) := by unfold Hid arrB; rw [hg, hid, hms, hds, HLT.out]; rfl
   go_wp2_with fail
   refine (l1In_any _ _ _ _).mono ?_
   rintro e wq ⟨rfl, hq⟩
   obtain rfl := hq.symm
   cases ht : inB x.tail 0 60000
   . have HF : Hid (arrB x ms ds = false) := by unfold Hid; rw [HT.out]; unfold seqB6; simp [ht]
     go_wp2
     go_ret
     exact ⟨ret_bool HF.out.symm, B3⟩
   skip
   have ht2 : 0 <= x.tail /\ x.tail <= 60000 := by unfold inB at ht; simpa using ht
   have hw4 : IntKind.i64.wrap (x.tail + 4) = x.tail + 4 := IntWalk.i64_in _ (by omega)
   go_wp2_with fail
   refine (l1In_any _ _ _ _).mono ?_
   rintro e wq ⟨rfl, hq⟩
   obtain rfl := hq.symm
   cases hs : inB x.seq x.tail 60000
   . have HF : Hid (arrB x ms ds = false) := by unfold Hid; rw [HT.out]; unfold seqB6; simp [hs]
     go_wp2
     go_ret
     exact ⟨ret_bool HF.out.symm, B3⟩
   skip
   by_cases hle : x.seq <= x.tail + 4
   . skip
     go_wp2_with fail
     refine (l1In_any _ _ _ _).mono ?_
     rintro e wq ⟨rfl, hq⟩
     obtain rfl := hq.symm
     cases hge : inB x.gen 0 60000
     . have HF : Hid (arrB x ms ds = false) := by unfold Hid; rw [HT.out]; unfold seqB6; simp [hge]
       go_wp2
       go_ret
       exact ⟨ret_bool HF.out.symm, B3⟩
     skip
     have HF : Hid (arrB x ms ds = inB x.fuse (-1) 1000) := by unfold Hid; rw [HT.out]; unfold seqB6; simp [ht, hs, hle, hge]
     go_wp2_with fail
     refine (l1In_any _ _ _ _).mono ?_
     rintro e wq ⟨rfl, hq⟩
     obtain rfl := hq.symm
     cases hfu : inB x.fuse (-1) 1000
     . go_wp2
       go_ret
       exact ⟨ret_bool (by rw [HF.out, hfu]), B3⟩
     go_wp2
     go_ret
     exact ⟨ret_bool (by rw [HF.out, hfu]), B3⟩
   have HF : Hid (arrB x ms ds = false) := by unfold Hid; rw [HT.out]; unfold seqB6; simp; omega
   have hgt : x.tail + 4 < x.seq := by omega
   go_wp2
   go_ret
   exact ⟨ret_bool HF.out.symm, B3⟩
 have e1 : (x.lost == -1) = false := by simpa using l1
 have HLT : Hid (lostB6 x = true) := by unfold Hid; rw [HLB.out]; simp [l1]
 clear l1
 have HT : Hid (arrB x ms ds = seqB6 x) := by unfold Hid arrB; rw [hg, hid, hms, hds, HLT.out]; rfl
 go_wp2_with fail
 refine (l1In_any _ _ _ _).mono ?_
 rintro e wq ⟨rfl, hq⟩
 obtain rfl := hq.symm
 cases ht : inB x.tail 0 60000
 . have HF : Hid (arrB x ms ds = false) := by unfold Hid; rw [HT.out]; unfold seqB6; simp [ht]
   go_wp2
   go_ret
   exact ⟨ret_bool HF.out.symm, B3⟩
 skip
 have ht2 : 0 <= x.tail /\ x.tail <= 60000 := by unfold inB at ht; simpa using ht
 have hw4 : IntKind.i64.wrap (x.tail + 4) = x.tail + 4 := IntWalk.i64_in _ (by omega)
 go_wp2_with fail
 refine (l1In_any _ _ _ _).mono ?_
 rintro e wq ⟨rfl, hq⟩
 obtain rfl := hq.symm
 cases hs : inB x.seq x.tail 60000
 . have HF : Hid (arrB x ms ds = false) := by unfold Hid; rw [HT.out]; unfold seqB6; simp [hs]
   go_wp2
   go_ret
   exact ⟨ret_bool HF.out.symm, B3⟩
 skip
 by_cases hle : x.seq <= x.tail + 4
 . skip
   go_wp2_with fail
   refine (l1In_any _ _ _ _).mono ?_
   rintro e wq ⟨rfl, hq⟩
   obtain rfl := hq.symm
   cases hge : inB x.gen 0 60000
   . have HF : Hid (arrB x ms ds = false) := by unfold Hid; rw [HT.out]; unfold seqB6; simp [hge]
     go_wp2
     go_ret
     exact ⟨ret_bool HF.out.symm, B3⟩
   skip
   have HF : Hid (arrB x ms ds = inB x.fuse (-1) 1000) := by unfold Hid; rw [HT.out]; unfold seqB6; simp [ht, hs, hle, hge]
   go_wp2_with fail
   refine (l1In_any _ _ _ _).mono ?_
   rintro e wq ⟨rfl, hq⟩
   obtain rfl := hq.symm
   cases hfu : inB x.fuse (-1) 1000
   . go_wp2
     go_ret
     exact ⟨ret_bool (by rw [HF.out, hfu]), B3⟩
   go_wp2
   go_ret
   exact ⟨ret_bool (by rw [HF.out, hfu]), B3⟩
 have HF : Hid (arrB x ms ds = false) := by unfold Hid; rw [HT.out]; unfold seqB6; simp; omega
 have hgt : x.tail + 4 < x.seq := by omega
 go_wp2
 go_ret
 exact ⟨ret_bool HF.out.symm, B3⟩

def ArrOut (w w' : World) (e : Ending) (q : ArrN × List MemD) (ds : List (Int × List Int)) : Prop :=
 ∃ (bm bd : Option Addr) (cm cd : Nat), e = .returned (.agg (arrC q.1 (.slice bm q.2.length cm) (.slice bd ds.length cd))) /\ ArrIn w' w.heap.size w'.heap.size bm bd q.2.length cm ds.length cd q.2 ds /\ Below w.heap.size w w'
theorem Moved.belowN {B N : Nat} {f1 f2 : List Nat} {w1 w2 : World} (h : Moved B f1 w1 f2 w2) (hB : N <= B) (hf : ∀ b ∈ f1, N <= b) (hN : N <= w1.heap.size) : Below N w1 w2 :=
 ⟨h.1.os, h.1.tape, h.1.output, h.1.size, fun k hk => h.1.block k (by omega) (fun hm => by
  rcases List.mem_cons.1 hm with e | hm
  . omega
  have := hf k hm; omega)⟩
theorem arr_facts {x : ArrN} {ms : List MemD} {ds : List (Int × List Int)} (h : arrB x ms ds = true) : x.fuse <= 1000 /\ MsOk ms /\ 0 <= x.gen /\ x.gen <= 60000 := by
 unfold arrB memsB seqB6 at h
 simp only [Bool.and_eq_true, inB_iff] at h
 obtain ⟨_, _, ⟨hm, _⟩, _, _, _, _, _, hg, hf⟩ := h
 refine ⟨hf.2, fun i d hd => ?_, hg.1, hg.2⟩
 have := allIx_iff.1 hm i d hd
 unfold memAt at this
 simp only [Bool.and_eq_true] at this
 exact this.1
theorem arr_out {w w4 : World} {R lo : Nat} {y : ArrN} {ns : List MemD} {ds : List (Int × List Int)} {vm vd : Option Addr} {cvm cvd : Nat} {fm fd : List Nat} {e : Ending} {T : TypeId} {cs : Array Value} (hb : Below w.heap.size w w4) (_ : Box w4 R T cs) (he : e = .returned (.agg (arrC y (.slice vm ns.length cvm) (.slice vd ds.length cvd)))) (hm : (tMemS 109 51).Mine w4 [.slice vm ns.length cvm] ns fm) (hd : (tWrS 82).Mine w4 [.slice vd ds.length cvd] ds fd) (hr : ∀ b ∈ fm, b ∉ fd) (rm : ∀ b ∈ fm, lo <= b) (rd : ∀ b ∈ fd, lo <= b) (h1 : w.heap.size <= R) (h2 : R < lo) :
 ArrOut w (puts w4 R [(0, .int .i64 y.id), (1, .int .i64 y.n), (2, .int .i64 y.s), (3, .slice vm ns.length cvm), (4, .int .i64 y.lost), (5, .int .i64 y.built), (6, .int .i64 y.seq), (7, .int .i64 y.tail), (8, .int .i64 y.gen), (9, .slice vd ds.length cvd), (10, .int .i64 y.fuse), (11, .bool y.down), (12, .bool y.broken)]) e (y, ns) ds := by
 have hbt := puts_but R [(0, .int .i64 y.id), (1, .int .i64 y.n), (2, .int .i64 y.s), (3, .slice vm ns.length cvm), (4, .int .i64 y.lost), (5, .int .i64 y.built), (6, .int .i64 y.seq), (7, .int .i64 y.tail), (8, .int .i64 y.gen), (9, .slice vd ds.length cvd), (10, .int .i64 y.fuse), (11, .bool y.down), (12, .bool y.broken)] w4
 have hz := hbt.size
 have hlm := hm.lt
 have hld := hd.lt
 refine ⟨vm, vd, cvm, cvd, he, ⟨fm, fd, hm.but hbt (fun b hb => by have := rm b hb; omega), hd.but hbt (fun b hb => by have := rd b hb; omega), hr, fun b hb => ?_, fun b hb => ?_⟩, Below.andBut hb hbt h1⟩
 . have h3 := rm b hb
   have h4 := hlm b hb
   omega
 have h3 := rd b hb
 have h4 := hld b hb
 omega

def markO (x : ArrN) (ms : List MemD) (ds : List (Int × List Int)) : ArrN × List MemD := if (arrB x ms ds && !x.down && decide (x.gen < 60000)) = true then markS (x, ms) else (x, ms)
theorem arr_len {x : ArrN} {ms : List MemD} {ds : List (Int × List Int)} (h : arrB x ms ds = true) : 3 <= x.n /\ x.n <= 5 /\ (ms.length : Int) = x.n := by
 unfold arrB memsB at h
 simp only [Bool.and_eq_true, geoB_iff, decide_eq_true_eq] at h
 exact ⟨h.1.1, h.1.2.1, h.2.2.1.2⟩
theorem ms_light {ns : List MemD} (h : MsOk ns) (hl : ns.length <= 5) : wtMemS ns <= 10005 := by
 have h1 := sumL_bound (ns.map wtMem) 2000 (fun y hy => by
  obtain ⟨d, hd, rfl⟩ := List.mem_map.1 hy
  obtain ⟨i, hi⟩ := List.mem_iff_getElem?.1 hd
  obtain ⟨ss, cs, f, bs⟩ := d
  exact memB_light (h i _ hi) f)
 rw [List.length_map] at h1
 unfold wtMemS
 omega
theorem out_light {x : ArrN} {ms : List MemD} {ds : List (Int × List Int)} {q : ArrN × List MemD} (h : arrB x ms ds = true) (hk : MsOk q.2) (hl : q.2.length = ms.length) (hw : wtArr ms ds <= 1048576) : wtArr q.2 ds <= 2097152 := by
 have h1 := arr_len h
 have h2 := ms_light hk (by omega)
 unfold wtArr at hw ⊢
 omega
theorem markS_keeps {q : ArrN × List MemD} (h : MsOk q.2) (hf : q.1.fuse <= 1000) : MsOk (markS q).2 /\ (markS q).2.length = q.2.length := by
 obtain ⟨a, b, c⟩ := supsS_keeps (q := ({q.1 with gen := q.1.gen + 1}, q.2)) h hf q.2.length
 obtain ⟨a2, _, c2⟩ := syncS_keeps (q := supsS ({q.1 with gen := q.1.gen + 1}, q.2) q.2.length) a b.2.2.2.2.2.2.2.2.2.1 q.2.length
 exact ⟨a2, c2.trans c⟩

theorem arr_split {x : ArrN} {ms : List MemD} {ds : List (Int × List Int)} : arrB x ms ds = true ↔ geoB x.n x.s = true /\ inB x.id 1 60000 = true /\ memsB x ms = true /\ entsB x ds = true /\ lostB6 x = true /\ seqB6 x = true := by
 unfold arrB
 simp only [Bool.and_eq_true]
theorem mems_iff {x : ArrN} {ms : List MemD} : memsB x ms = true ↔ (∀ (i : Nat) (d : MemD), ms[i]? = some d -> memB d.1 d.2.1 d.2.2.2 = true /\ (d.1.length : Int) = 6 + x.s /\ (d.2.2.1 = true -> (i : Int) = x.lost ∨ x.broken = true)) /\ (ms.length : Int) = x.n := by
 unfold memsB
 rw [Bool.and_eq_true, allIx_iff, decide_eq_true_eq]
 refine and_congr_left fun _ => ?_
 constructor
 . intro h i d hd
   have := h i d hd
   unfold memAt at this
   simp only [Bool.and_eq_true, decide_eq_true_eq, Bool.or_eq_true, Bool.not_eq_true'] at this
   refine ⟨this.1, this.2.1, fun hf => ?_⟩
   rcases this.2.2 with h | h | h
   . rw [hf] at h; cases h
   . exact .inl h
   exact .inr h
 intro h i d hd
 obtain ⟨h1, h2, h3⟩ := h i d hd
 unfold memAt
 simp only [Bool.and_eq_true, decide_eq_true_eq, Bool.or_eq_true, Bool.not_eq_true']
 refine ⟨h1, h2, ?_⟩
 cases hf : d.2.2.1
 . exact .inl rfl
 exact .inr (h3 hf)
theorem mems_set {x x' : ArrN} {ms : List MemD} {m : Nat} {d : MemD} (h : memsB x ms = true) (hn : x'.n = x.n) (hs : x'.s = x.s) (hd : memB d.1 d.2.1 d.2.2.2 = true) (hl : (d.1.length : Int) = 6 + x.s) (hf : d.2.2.1 = true -> (m : Int) = x'.lost ∨ x'.broken = true)
 (ho : ∀ (i : Nat) (e : MemD), i ≠ m -> ms[i]? = some e -> e.2.2.1 = true -> (i : Int) = x'.lost ∨ x'.broken = true) : memsB x' (ms.set m d) = true := by
 rw [mems_iff] at h ⊢
 refine ⟨fun i e he => ?_, by rw [List.length_set, hn]; exact h.2⟩
 by_cases him : m = i
 . subst him
   have hi : m < ms.length := by have := (List.getElem?_eq_some_iff.1 he).1; simpa using this
   rw [List.getElem?_set_self hi] at he
   cases he
   exact ⟨hd, by rw [hs]; exact hl, hf⟩
 rw [List.getElem?_set_ne him] at he
 obtain ⟨a1, a2, a3⟩ := h.1 i e he
 exact ⟨a1, by rw [hs]; exact a2, ho i e (fun e => him e.symm) he⟩

theorem l7Op_any (w : World) (B : Nat) (x : ArrN) (ms : List MemD) (ds : List (Int × List Int)) (fm fd : List Nat) (h : ArrAt w B x ms ds fm fd) (hf : x.fuse <= 1000) :
 Calls Tryz.prog 128 #[.pointer (some ⟨B, 0, none⟩)] w fun e w' => e = .returned (.bool (opB x)) /\ ArrAt w' B (opX x) ms ds fm fd /\ Moved B fm w fm w' := by
 obtain ⟨bm, bd, cm, cd, X, hm, hd, hr, r1, r2⟩ := h
 unfold arrC at X
 obtain ⟨k0, k1, k2, k3, k4, k5, k6, k7, k8, k9, k10, k11, k12⟩ := X.cells13
 have fz := X.frozen
 cases hdn : x.down
 . rw [hdn] at k11
   by_cases h0 : x.fuse = 0
   . have HB : Hid (opB x = false) := by unfold Hid opB; simp [h0]
     have HX : Hid (opX x = {x with down := true, fuse := -1}) := by unfold Hid opX; rw [if_neg (by simp [hdn]), if_pos h0]
     have Y := (X.set 11 (.bool true)).set 10 (.int .i64 (-1))
     have M := hidden ((hm.setCell (g := B) (j := 11) r1 (.bool true)).setCell (g := B) (j := 10) r1 (.int .i64 (-1)))
     have D := hidden ((hd.setCell (g := B) (j := 11) r2 (.bool true)).setCell (g := B) (j := 10) r2 (.int .i64 (-1)))
     have MV := hidden ((Moved.set (B := B) (j := 11) (fm := fm) (w := w) (.bool true)).trans (Moved.set (B := B) (j := 10) (.int .i64 (-1))))
     have YH := hidden Y
     rw [h0] at k10
     clear Y X hm hd hdn h0
     go_enter Tryz.func128, Tryz.ntmps128
     go_wp2
     go_ret
     exact ⟨ret_bool HB.out.symm, by rw [HX.out]; exact ⟨bm, bd, cm, cd, YH.out, M.out, D.out, hr, r1, r2⟩, MV.out⟩
   have e0 : (x.fuse == 0) = false := by simpa using h0
   have HB : Hid (opB x = true) := by unfold Hid opB; simp [h0, hdn]
   by_cases h1 : 0 < x.fuse
   . have hw : IntKind.i64.wrap (x.fuse - 1) = x.fuse - 1 := IntWalk.i64_in _ (by omega)
     have HX : Hid (opX x = {x with fuse := x.fuse - 1}) := by unfold Hid opX; rw [if_neg (by simp [hdn]), if_neg h0, if_pos h1]
     have YH := hidden (X.set 10 (.int .i64 (x.fuse - 1)))
     have M := hidden (hm.setCell (g := B) (j := 10) r1 (.int .i64 (x.fuse - 1)))
     have D := hidden (hd.setCell (g := B) (j := 10) r2 (.int .i64 (x.fuse - 1)))
     have MV := hidden (Moved.set (B := B) (j := 10) (fm := fm) (w := w) (.int .i64 (x.fuse - 1)))
     clear X hm hd hdn h0
     go_enter Tryz.func128, Tryz.ntmps128
     go_wp2
     go_ret
     exact ⟨ret_bool HB.out.symm, by rw [HX.out]; exact ⟨bm, bd, cm, cd, YH.out, M.out, D.out, hr, r1, r2⟩, MV.out⟩
   have HX : Hid (opX x = x) := by unfold Hid opX; rw [if_neg (by simp [hdn]), if_neg h0, if_neg h1]
   have YH := hidden X
   clear hdn h0 X
   go_enter Tryz.func128, Tryz.ntmps128
   go_wp2
   go_ret
   exact ⟨ret_bool HB.out.symm, by rw [HX.out]; exact ⟨bm, bd, cm, cd, YH.out, hm, hd, hr, r1, r2⟩, Moved.refl _ _ _⟩
 have HB : Hid (opB x = false) := by unfold Hid opB; simp [hdn]
 have HX : Hid (opX x = x) := by unfold Hid opX; rw [if_pos hdn]
 rw [hdn] at k11
 have YH := hidden X
 clear hdn X
 go_enter Tryz.func128, Tryz.ntmps128
 go_wp2
 go_ret
 exact ⟨ret_bool HB.out.symm, by rw [HX.out]; exact ⟨bm, bd, cm, cd, YH.out, hm, hd, hr, r1, r2⟩, Moved.refl _ _ _⟩

theorem l7Put_any (w : World) (B : Nat) (x : ArrN) (ms : List MemD) (ds : List (Int × List Int)) (fm fd : List Nat) (h : ArrAt w B x ms ds fm fd) (hf : x.fuse <= 1000) (hM : MsOk ms) (m : Nat) (hm : m < ms.length) (n : Int) (a5 : Option Addr) (n5 c5 : Nat) (sw : List Int) (f5 : List Nat) (h5 : tIntS.Mine w [.slice a5 n5 c5] sw f5) (h5B : B ∉ f5) (h5f : ∀ b ∈ f5, b ∉ fm) (hn5 : n5 <= 2097152) :
 Calls Tryz.prog 91 #[.pointer (some ⟨B, 0, none⟩), .int .i64 (m : Int), .int .i64 n, .slice a5 n5 c5] w fun e w' => e = .returned (.tuple #[]) /\ ∃ fm', ArrAt w' B (putS (x, ms) m n sw).1 (putS (x, ms) m n sw).2 ds fm' fd /\ Moved B fm w fm' w' := by
 have h00 := h
 obtain ⟨bm, bd, cm, cd, X, hmm, hdd, hr, r1, r2⟩ := h
 unfold arrC at X
 obtain ⟨g, rfl⟩ := row_head hmm (by omega)
 have hdj : ms[m]? = some (ms[m]'hm) := List.getElem?_eq_getElem hm
 generalize ms[m]'hm = d at hdj
 obtain ⟨hgl, a0, a1, a3, c0, c1, c3, ss, cs, f, bs, rfl, q0, q1, q2, q3, _, _, _⟩ := disk_at hmm hdj
 obtain ⟨k0, k1, k2, k3, k4, k5, k6, k7, k8, k9, k10, k11, k12⟩ := X.cells13
 have i1 : (0 : Int) <= (m : Int) := by omega
 have i2 : (m : Int) < (ms.length : Int) := by omega
 cases f
 . have H0 := hidden h00
   clear X hmm hdd hgl q0 q1 q3
   go_enter Tryz.func91, Tryz.ntmps91
   go_wp2_with fail
   refine (l7Op_any _ B x ms ds fm fd H0.out hf).mono ?_
   rintro e w1 ⟨rfl, hA1, hMv1⟩
   clear k0 k1 k2 k3 k4 k5 k6 k7 k8 k9 k10 k11 k12 q2 H0 h00
   cases ho : opB x
   . have HP : Hid (putS (x, ms) m n sw = (opX x, ms)) := doS_no hdj rfl ho
     go_wp2
     refine bodyPost_ret (v := .tuple #[]) (by simp [results, Tryz.results91, go_sem]) rfl ?_
     exact ⟨rfl, fm, by rw [HP.out]; exact hA1, hMv1⟩
   have HP : Hid (putS (x, ms) m n sw = (opX x, ms.set m (wrM (ss, cs, false, bs) n sw))) := doS_yes hdj rfl ho
   obtain ⟨bm, bd, cm, cd, X, hmm, hdd, hr, r1, r2⟩ := hA1
   obtain ⟨g, rfl⟩ := row_head hmm (by omega)
   obtain ⟨hgl, a0, a1, a3, c0, c1, c3, ss, cs, f, bs, hde, q0, q1, q2, q3, p0, p1, p3⟩ := disk_at hmm hdj
   simp only [Prod.mk.injEq] at hde
   obtain ⟨rfl, rfl, rfl, rfl⟩ := hde
   have X0 := X
   unfold arrC at X0
   obtain ⟨k0, k1, k2, k3, k4, k5, k6, k7, k8, k9, k10, k11, k12⟩ := X0.cells13
   have hwt := memB_light (hM m _ hdj) false
   dsimp only at hwt
   have XH := hidden X
   have MH := hidden hmm
   have DH := hidden hdd
   have MV := hidden hMv1
   have DJ := hidden hdj
   have h51 := (hMv1.mine h5 h5B h5f).rd
   clear X X0 hmm hdd hMv1 hdj
   go_wp2_with fail
   refine (specWriteSec_any _ 109 _ _ _ _ _ _ _ _ _ _ _ _ ss cs false bs n sw p0 p1 p3 h51 (by omega) hn5).mono ?_
   rintro e w2 ⟨u0, u1, u3, rfl, o2, b2⟩
   obtain ⟨d0, l0, f0, d1, l1, f1, d3, l3, f3, hv0, hv1, hv3⟩ := mem_slices o2
   subst hv0 hv1 hv3
   have b3 := new_below w2 (.cells #[.slice d0 l0 f0, .slice d1 l1 f1, .bool false, .slice d3 l3 f3] 51)
   have b13 : Below w1.heap.size w1 (w2.alloc (.cells #[.slice d0 l0 f0, .slice d1 l1 f1, .bool false, .slice d3 l3 f3] 51)) := Below.andThen b2 b3
   have Y3 := Box.new w2 51 #[.slice d0 l0 f0, .slice d1 l1 f1, .bool false, .slice d3 l3 f3]
   have zY := Y3.lt
   have z2 := b2.size
   obtain ⟨fpx, mx, rx⟩ := (o2.below b3).mine
   obtain ⟨cOld, fz, hgm, fm9, hA9, hMv9⟩ := arr_store XH.out MH.out DH.out hr r1 r2 b13 hm mx (fun b hb => (rx b hb).1)
   obtain ⟨o0, t0⟩ := cOld 0 (by omega)
   obtain ⟨o1, t1⟩ := cOld 1 (by omega)
   obtain ⟨o2', t2⟩ := cOld 2 (by omega)
   obtain ⟨o3, t3⟩ := cOld 3 (by omega)
   rw [Nat.add_zero] at t0
   have HA := hidden hA9
   have HMV := hidden (MV.out.trans hMv9)
   have X3 := XH.out.below b13 XH.out.lt
   unfold arrC at X3
   have gB : ¬ g = B := fun e => r1 (e ▸ hgm)
   have gY : ¬ g = w2.heap.size := by omega
   obtain ⟨y0, y1, y2, y3⟩ := Y3.cells4
   have x3 := X3.cells13.2.2.2.1
   have hS : (w2.alloc (.cells #[.slice d0 l0 f0, .slice d1 l1 f1, .bool false, .slice d3 l3 f3] 51)).drew.cell? ⟨B, 3, none⟩ = some (.slice (some ⟨g, 0, none⟩) ms.length cm) /\ (w2.alloc (.cells #[.slice d0 l0 f0, .slice d1 l1 f1, .bool false, .slice d3 l3 f3] 51)).drew.cell? ⟨w2.heap.size, 0, none⟩ = some (.slice d0 l0 f0) /\ (w2.alloc (.cells #[.slice d0 l0 f0, .slice d1 l1 f1, .bool false, .slice d3 l3 f3] 51)).drew.cell? ⟨w2.heap.size, 1, none⟩ = some (.slice d1 l1 f1) /\ (w2.alloc (.cells #[.slice d0 l0 f0, .slice d1 l1 f1, .bool false, .slice d3 l3 f3] 51)).drew.cell? ⟨w2.heap.size, 2, none⟩ = some (.bool false) /\ (w2.alloc (.cells #[.slice d0 l0 f0, .slice d1 l1 f1, .bool false, .slice d3 l3 f3] 51)).drew.cell? ⟨w2.heap.size, 3, none⟩ = some (.slice d3 l3 f3) := ⟨x3, y0, y1, y2, y3⟩
   unfold put4 at HA HMV
   clear k0 k1 k2 k3 k4 k5 k6 k7 k8 k9 k10 k11 k12 q0 q1 q2 q3 p0 p1 p3 h51 o2 b2 b3 b13 Y3 mx rx cOld hA9 hMv9 X3 x3 XH MH DH MV hwt
   go_wp2_with fail
   refine Upto.start (S := fun w' => w'.cell? ⟨B, 3, none⟩ = some (.slice (some ⟨g, 0, none⟩) ms.length cm) /\ w'.cell? ⟨w2.heap.size, 0, none⟩ = some (.slice d0 l0 f0) /\ w'.cell? ⟨w2.heap.size, 1, none⟩ = some (.slice d1 l1 f1) /\ w'.cell? ⟨w2.heap.size, 2, none⟩ = some (.bool false) /\ w'.cell? ⟨w2.heap.size, 3, none⟩ = some (.slice d3 l3 f3)) (k := 7) (by kernel_rfl) ?_
   refine Upto.t 0 hS ?_
   refine Upto.t 1 hS ?_
   refine Upto.t 2 hS ?_
   refine Upto.t 3 hS ?_
   refine Upto.t 4 hS ?_
   refine Upto.t 5 hS ?_
   refine Upto.t 6 hS ?_
   refine Upto.one (i := 7) (by kernel_rfl) rfl (fun K hK => ?_)
   go_simp
   refine hK.out _ _ (fun h => absurd rfl h) ?_
   clear hK K
   refine Upto.done (by kernel_rfl) ?_ _
   clear hS y0 y1 y2 y3 t0 t1 t2 t3 fz
   go_wp2
   refine bodyPost_end (v := .tuple #[]) (results_none rfl _ _ _) rfl ?_
   exact ⟨rfl, fm9, by rw [HP.out]; exact HA.out.drew, HMV.out.drew⟩
 have HP : Hid (putS (x, ms) m n sw = (x, ms)) := doS_failed hdj rfl
 clear X hmm hdd hgl q0 q1 q3
 go_enter Tryz.func91, Tryz.ntmps91
 go_wp2
 refine bodyPost_ret (v := .tuple #[]) (by simp [results, Tryz.results91, go_sem]) rfl ?_
 exact ⟨rfl, fm, by rw [HP.out]; exact h00, Moved.refl _ _ _⟩

theorem wr_mine_inv {w : World} {vs : List Value} {x : Int × List Int} {fp : List Nat} (h : tWr.Mine w vs x fp) : ∃ a cap, vs = [.int .i64 x.1, .slice a x.2.length cap] /\ tIntS.Mine w [.slice a x.2.length cap] x.2 fp := by
 have hl : vs.length = 2 := tWr.rdLen (tWr.owRd h.1)
 match vs, hl, h with
 | [u0, u1], _, h =>
  obtain ⟨f1, f2, hf, m1, m2, _⟩ := pair_mine (t := intTy) (u := tIntS) (vs := [u0]) (us := [u1]) rfl h
  obtain ⟨e1, e2⟩ := m1.1
  subst e2
  obtain ⟨a, cap, rfl⟩ := row_shape m2.rd
  refine ⟨a, cap, by simpa using e1, ?_⟩
  rw [hf]
  exact m2
theorem Turned.adrew {fp : List Nat} {w w' : World} (h : Turned fp w w') : Turned fp w w'.drew := ⟨h.os, h.tape, h.output, h.size, h.block⟩
theorem Ty.Mine.adrew {t : Ty} {w : World} {vs : List Value} {d : t.D} {fp : List Nat} (h : t.Mine w vs d fp) : t.Mine w.drew vs d fp := h.kept (Turned.adrew (Turned.refl [] w)) (by simp)
theorem cache_parts {w : World} {E : TypeId} {lo hi n cap : Nat} {b : Option Addr} {cs : List (Int × List Int)} (h : (tWrS E).Own w lo hi [.slice b n cap] cs) :
 ∃ (gC : Nat) (F : Nat -> List Nat), (n = 0 ∨ (b = some ⟨gC, 0, none⟩ /\ lo <= gC /\ gC < hi)) /\ (∀ i x, cs[i]? = some x -> ∃ a c, tIntS.Mine w [.slice a x.2.length c] x.2 (F i) /\ (∀ b ∈ F i, lo <= b /\ b < hi) /\ w.cell? ⟨gC, i * 2, none⟩ = some (.int .i64 x.1) /\ w.cell? ⟨gC, i * 2 + 1, none⟩ = some (.slice a x.2.length c)) /\ ∀ i j, i < j -> j < cs.length -> ∀ b ∈ F i, b ∉ F j := by
 have hl := (row_length h.rd).1
 rcases h.rowShape with h0 | ⟨g, rfl⟩
 . refine ⟨0, fun _ => [], .inl h0, fun i x hx => ?_, by simp⟩
   have := (List.getElem?_eq_some_iff.1 hx).1
   omega
 obtain ⟨fp, m, r⟩ := h.mine
 obtain ⟨hg, F, h1, h2⟩ := row_parts m
 refine ⟨g, F, .inr ⟨rfl, r g hg⟩, fun i x hx => ?_, h2⟩
 obtain ⟨vs, m1, _, m3, m4⟩ := h1 i x hx
 obtain ⟨a, c, rfl, m5⟩ := wr_mine_inv m1
 exact ⟨a, c, m5, fun b hb => r b (m3 b hb), m4 0 (by decide), m4 1 (by decide)⟩

theorem specFlushMem_any (w : World) (E : TypeId) (a0 a1 a3 : Option Addr) (n0 c0 n1 c1 n3 c3 : Nat) (ss : List (List Int)) (cs : List (Int × List Int)) (f : Bool) (bs : List Int) (h0 : tIntSS.Rd w [.slice a0 n0 c0] ss) (h1 : (tWrS E).Rd w [.slice a1 n1 c1] cs) (h3 : tIntS.Rd w [.slice a3 n3 c3] bs) (hw : wtMem (ss, cs, f, bs) <= 2097152) :
 Calls Tryz.prog 141 #[.agg #[.slice a0 n0 c0, .slice a1 n1 c1, .bool f, .slice a3 n3 c3]] w fun e w' => ∃ v0 v1 v3, e = .returned (.agg #[v0, v1, .bool f, v3]) /\ (tMem 109).Own w' w.heap.size w'.heap.size [v0, v1, .bool f, v3] (flSS ss cs f bs, flCS ss cs f bs, f, bs) /\ Below w.heap.size w w' := by
 obtain ⟨hl0, _, hm0⟩ := row_length h0
 obtain ⟨hl1, _, hm1⟩ := row_length h1
 obtain ⟨hl3, _, hm3⟩ := row_length h3
 have hwc : wtWrS cs <= 2097152 := by unfold wtMem at hw; simp only at hw; omega
 by_cases hM : memB ss cs bs = true
 . have hn20 : n0 <= 20 := by have := mem_secs hM; omega
   have hks := mem_writes hM
   by_cases hf : f = true
   . subst hf
     have e1 : flSS ss cs true bs = ss := by unfold flSS; simp
     have e2 : flCS ss cs true bs = cs := by unfold flCS; simp
     rw [e1, e2]
     clear e1 e2
     have hA : Below w.heap.size w ((w.alloc (.cells #[.slice a0 n0 c0, .slice a1 n1 c1, .bool true, .slice a3 n3 c3] 51)).alloc (.cells #[.slice none 0 0, .slice none 0 0, .bool false, .slice none 0 0] 51)) := ((Below.refl _ _).alloc (Nat.le_refl _) _).alloc (by simp) _
     have xm : Box ((w.alloc (.cells #[.slice a0 n0 c0, .slice a1 n1 c1, .bool true, .slice a3 n3 c3] 51)).alloc (.cells #[.slice none 0 0, .slice none 0 0, .bool false, .slice none 0 0] 51)) w.heap.size 51 #[.slice a0 n0 c0, .slice a1 n1 c1, .bool true, .slice a3 n3 c3] := (Box.new w _ _).alloc _
     have xr : Box ((w.alloc (.cells #[.slice a0 n0 c0, .slice a1 n1 c1, .bool true, .slice a3 n3 c3] 51)).alloc (.cells #[.slice none 0 0, .slice none 0 0, .bool false, .slice none 0 0] 51)) (w.heap.size + 1) 51 #[.slice none 0 0, .slice none 0 0, .bool false, .slice none 0 0] := by
      have := Box.new (w.alloc (.cells #[.slice a0 n0 c0, .slice a1 n1 c1, .bool true, .slice a3 n3 c3] 51)) 51 #[.slice none 0 0, .slice none 0 0, .bool false, .slice none 0 0]
      rw [show (w.alloc (.cells #[.slice a0 n0 c0, .slice a1 n1 c1, .bool true, .slice a3 n3 c3] 51)).heap.size = w.heap.size + 1 by simp] at this
      exact this
     go_enter Tryz.func141, Tryz.ntmps141
     go_wp2_with fail
     generalize hW : (w.alloc (.cells #[.slice a0 n0 c0, .slice a1 n1 c1, .bool true, .slice a3 n3 c3] 51)).alloc (.cells #[.slice none 0 0, .slice none 0 0, .bool false, .slice none 0 0] 51) = W at hA xm xr ⊢
     clear hW
     have zr := xr.lt
     obtain ⟨q0, q1, q2, q3⟩ := xm.cells4
     have XM := hidden xm
     have XR := hidden xr
     clear xm xr
     refine (l2Copy_any _ E _ _ _ _ _ _ _ _ _ ss cs true bs (h0.below hA) (h1.below hA) (h3.below hA) hw).mono ?_
     intro e w1 hc
     obtain ⟨b0, b1, b3, e0, e1, e3, m1, m2, rfl, o3, o0, o1, r1, r2, r3, bb⟩ := copy_shapes hl0 hl1 hl3 hc
     clear hc
     have z1 := bb.size
     have sW : w.heap.size + 2 <= W.heap.size := by omega
     have ba : Below w1.heap.size w1 (w1.alloc (.cells #[.slice b0 n0 e0, .slice b1 n1 e1, .bool true, .slice b3 n3 e3] 51)) := (Below.refl _ _).alloc (Nat.le_refl _) _
     have yo := Box.new w1 51 #[.slice b0 n0 e0, .slice b1 n1 e1, .bool true, .slice b3 n3 e3]
     have zo := yo.lt
     have YO := hidden yo
     have YR := hidden ((XR.out.below bb zr).below ba (by omega))
     have YM := hidden ((XM.out.below bb (by omega)).below ba (by omega))
     have K0 := hidden (o0.below ba)
     have K1 := hidden (o1.below ba)
     have K3 := hidden (o3.below ba)
     have KB := hidden (hA.trans ((bb.mono (by omega : w.heap.size <= W.heap.size)).trans (ba.mono (by omega))))
     clear yo o0 o1 o3 XM XR bb ba hA q0 q1 q2 q3
     obtain ⟨q0, q1, q2, q3⟩ := YM.out.cells4
     go_wp2_with fail
     generalize w1.alloc (.cells #[.slice b0 n0 e0, .slice b1 n1 e1, .bool true, .slice b3 n3 e3] 51) = w2 at YO YR YM K0 K1 K3 KB zo q0 q1 q2 q3 ⊢
     refine (specMemOk_any _ E _ _ _ _ _ _ _ _ _ ss cs true bs (h0.below KB.out) (h1.below KB.out) (h3.below KB.out) hw).mono ?_
     rintro e w3 ⟨rfl, b4⟩
     have z3 := b4.size
     have XO := hidden (YO.out.below b4 (by omega))
     have XR := hidden (YR.out.below b4 (by omega))
     have XM := hidden (YM.out.below b4 (by omega))
     have L0 := hidden (K0.out.below b4)
     have L1 := hidden (K1.out.below b4)
     have L3 := hidden (K3.out.below b4)
     have LB := hidden (KB.out.trans (b4.mono (by have := KB.out.size; omega)))
     clear YO YR YM K0 K1 K3 KB b4 q0 q1 q2 q3
     obtain ⟨q0, q1, q2, q3⟩ := XM.out.cells4
     obtain ⟨x0, x1, x2, x3⟩ := XO.out.cells4
     obtain ⟨p0, p1, p2, p3⟩ := XR.out.cells4
     have fz := XR.out.frozen
     have hbt : But (w.heap.size + 1) (w.heap.size + 2) w3 ((((w3.setCell ⟨w.heap.size + 1, 0, none⟩ (.slice b0 n0 e0)).setCell ⟨w.heap.size + 1, 1, none⟩ (.slice b1 n1 e1)).setCell ⟨w.heap.size + 1, 2, none⟩ (.bool true)).setCell ⟨w.heap.size + 1, 3, none⟩ (.slice b3 n3 e3)) :=
      (((But.setCell (by omega) (by omega) _).trans (But.setCell (by omega) (by omega) _)).trans (But.setCell (by omega) (by omega) _)).trans (But.setCell (by omega) (by omega) _)
     have z9 := hbt.size
     have FIN : Hid ((tMem 109).Own ((((w3.setCell ⟨w.heap.size + 1, 0, none⟩ (.slice b0 n0 e0)).setCell ⟨w.heap.size + 1, 1, none⟩ (.slice b1 n1 e1)).setCell ⟨w.heap.size + 1, 2, none⟩ (.bool true)).setCell ⟨w.heap.size + 1, 3, none⟩ (.slice b3 n3 e3)) w.heap.size ((((w3.setCell ⟨w.heap.size + 1, 0, none⟩ (.slice b0 n0 e0)).setCell ⟨w.heap.size + 1, 1, none⟩ (.slice b1 n1 e1)).setCell ⟨w.heap.size + 1, 2, none⟩ (.bool true)).setCell ⟨w.heap.size + 1, 3, none⟩ (.slice b3 n3 e3)).heap.size [.slice b0 n0 e0, .slice b1 n1 e1, .bool true, .slice b3 n3 e3] (ss, cs, true, bs)) := mem_own3 (L0.out.but hbt (by omega)) (L1.out.but hbt (by omega)) (L3.out.but hbt (by omega)) (by omega) (by omega) (by omega) (by omega) (by omega) (by omega)
     have FB := hidden (Below.andBut LB.out hbt (by omega))
     clear hbt
     go_wp2
     refine bodyPost_ret (v := .agg #[.slice b0 n0 e0, .slice b1 n1 e1, .bool true, .slice b3 n3 e3]) (by simp [results, Tryz.results141, go_sem, p0, p1, p2, p3]) rfl ?_
     exact ⟨_, _, _, rfl, FIN.out, FB.out⟩
   have hf : f = false := by simpa using hf
   subst hf
   have e1 : flSS ss cs false bs = flushD ss cs := by unfold flSS; simp [hM]
   have e2 : flCS ss cs false bs = [] := by unfold flCS; simp [hM]
   rw [e1, e2]
   clear e1 e2
   have hA : Below w.heap.size w ((w.alloc (.cells #[.slice a0 n0 c0, .slice a1 n1 c1, .bool false, .slice a3 n3 c3] 51)).alloc (.cells #[.slice none 0 0, .slice none 0 0, .bool false, .slice none 0 0] 51)) := ((Below.refl _ _).alloc (Nat.le_refl _) _).alloc (by simp) _
   have xm : Box ((w.alloc (.cells #[.slice a0 n0 c0, .slice a1 n1 c1, .bool false, .slice a3 n3 c3] 51)).alloc (.cells #[.slice none 0 0, .slice none 0 0, .bool false, .slice none 0 0] 51)) w.heap.size 51 #[.slice a0 n0 c0, .slice a1 n1 c1, .bool false, .slice a3 n3 c3] := (Box.new w _ _).alloc _
   have xr : Box ((w.alloc (.cells #[.slice a0 n0 c0, .slice a1 n1 c1, .bool false, .slice a3 n3 c3] 51)).alloc (.cells #[.slice none 0 0, .slice none 0 0, .bool false, .slice none 0 0] 51)) (w.heap.size + 1) 51 #[.slice none 0 0, .slice none 0 0, .bool false, .slice none 0 0] := by
    have := Box.new (w.alloc (.cells #[.slice a0 n0 c0, .slice a1 n1 c1, .bool false, .slice a3 n3 c3] 51)) 51 #[.slice none 0 0, .slice none 0 0, .bool false, .slice none 0 0]
    rw [show (w.alloc (.cells #[.slice a0 n0 c0, .slice a1 n1 c1, .bool false, .slice a3 n3 c3] 51)).heap.size = w.heap.size + 1 by simp] at this
    exact this
   go_enter Tryz.func141, Tryz.ntmps141
   go_wp2_with fail
   generalize hW : (w.alloc (.cells #[.slice a0 n0 c0, .slice a1 n1 c1, .bool false, .slice a3 n3 c3] 51)).alloc (.cells #[.slice none 0 0, .slice none 0 0, .bool false, .slice none 0 0] 51) = W at hA xm xr ⊢
   clear hW
   have zr := xr.lt
   obtain ⟨q0, q1, q2, q3⟩ := xm.cells4
   have XM := hidden xm
   have XR := hidden xr
   clear xm xr
   refine (l2Copy_any _ E _ _ _ _ _ _ _ _ _ ss cs false bs (h0.below hA) (h1.below hA) (h3.below hA) hw).mono ?_
   intro e w1 hc
   obtain ⟨b0, b1, b3, e0, e1, e3, m1, m2, rfl, o3, o0, o1, r1, r2, r3, bb⟩ := copy_shapes hl0 hl1 hl3 hc
   clear hc
   have z1 := bb.size
   have sW : w.heap.size + 2 <= W.heap.size := by omega
   have ba : Below w1.heap.size w1 (w1.alloc (.cells #[.slice b0 n0 e0, .slice b1 n1 e1, .bool false, .slice b3 n3 e3] 51)) := (Below.refl _ _).alloc (Nat.le_refl _) _
   have yo := Box.new w1 51 #[.slice b0 n0 e0, .slice b1 n1 e1, .bool false, .slice b3 n3 e3]
   have zo := yo.lt
   have YO := hidden yo
   have YR := hidden ((XR.out.below bb zr).below ba (by omega))
   have YM := hidden ((XM.out.below bb (by omega)).below ba (by omega))
   have K0 := hidden (o0.below ba)
   have K1 := hidden (o1.below ba)
   have K3 := hidden (o3.below ba)
   have KB := hidden (hA.trans ((bb.mono (by omega : w.heap.size <= W.heap.size)).trans (ba.mono (by omega))))
   clear yo o0 o1 o3 XM XR bb ba hA q0 q1 q2 q3
   obtain ⟨q0, q1, q2, q3⟩ := YM.out.cells4
   go_wp2_with fail
   generalize w1.alloc (.cells #[.slice b0 n0 e0, .slice b1 n1 e1, .bool false, .slice b3 n3 e3] 51) = w2 at YO YR YM K0 K1 K3 KB zo q0 q1 q2 q3 ⊢
   refine (specMemOk_any _ E _ _ _ _ _ _ _ _ _ ss cs false bs (h0.below KB.out) (h1.below KB.out) (h3.below KB.out) hw).mono ?_
   rintro e w3 ⟨rfl, b4⟩
   have z3 := b4.size
   have XO := hidden (YO.out.below b4 (by omega))
   have XR := hidden (YR.out.below b4 (by omega))
   have XM := hidden (YM.out.below b4 (by omega))
   have L0 := hidden (K0.out.below b4)
   have L1 := hidden (K1.out.below b4)
   have L3 := hidden (K3.out.below b4)
   have LB := hidden (KB.out.trans (b4.mono (by have := KB.out.size; omega)))
   clear YO YR YM K0 K1 K3 KB b4 q0 q1 q2 q3
   obtain ⟨q0, q1, q2, q3⟩ := XM.out.cells4
   obtain ⟨x0, x1, x2, x3⟩ := XO.out.cells4
   have hn1' : 0 < n0 := by have := mem_some hM; omega
   obtain ⟨gS, hb0⟩ : ∃ gS, b0 = some ⟨gS, 0, none⟩ := by
    rcases L0.out.rowShape with h | ⟨g, h⟩
    . omega
    exact ⟨g, h⟩
   subst hb0
   obtain ⟨fpS0, mS0, rS0⟩ := L0.out.mine
   have hgS := rS0 gS (row_parts mS0).1
   obtain ⟨gC, FC, hC0, hC1, hC2⟩ := cache_parts L1.out
   have MS0 := hidden mS0
   have RS0 := hidden rS0
   have HC1 := hidden hC1
   have HC2 := hidden hC2
   clear mS0 rS0 hC1 hC2
   go_wp2
   clear x0 x1 x2 x3
   go_loopw [4] (fun i wr => ∃ (j : Nat) (fpS : List Nat), j <= n1 /\ i = .int .i64 j /\ Turned [gS] w3 wr /\ tIntSS.Mine wr [.slice (some ⟨gS, 0, none⟩) n0 e0] (flushD ss (cs.take j)) fpS /\ (∀ b ∈ fpS, (m1 <= b /\ b < m2) ∨ ∃ i, i < j /\ b ∈ FC i)) (fun i _ => n1 - (intOf i).toNat)
   case atStart => exact ⟨0, fpS0, Nat.zero_le _, rfl, Turned.refl _ _, by rw [List.take_zero, flushD_nil]; exact MS0.out, fun b hb => .inl (RS0.out b hb)⟩
   obtain ⟨j, fpS, hj, rfl, tn, hS, hfp⟩ := hrel
   have hs := tn.size
   have xo := XO.out.turned tn (by simp; omega)
   obtain ⟨y0, y1, y2, y3⟩ := xo.cells4
   by_cases hjn : j < n1
   . have k1 : (0 : Int) <= (j : Int) := by omega
     have k2 : (j : Int) < (n1 : Int) := by omega
     rcases hC0 with hC0 | ⟨rfl, hC3, hC4⟩
     . omega
     have hdj : cs[j]? = some (cs[j]'(by omega)) := List.getElem?_eq_getElem (by omega)
     have htk : cs.take (j + 1) = cs.take j ++ [cs[j]'(by omega)] := List.take_succ_eq_append_getElem (by omega)
     have hmem : cs[j]'(by omega) ∈ cs := List.getElem_mem _
     generalize cs[j]'(by omega) = x at hdj htk hmem
     obtain ⟨q, hq, hql⟩ := mem_writes_lt hM x hmem
     obtain ⟨av, cv, mx, rx, cv0, cv1⟩ := HC1.out j x hdj
     obtain ⟨x0, x1⟩ := x
     simp only at hq mx rx cv0 cv1
     subst hq
     have ncs : gC ≠ gS := by omega
     have d0 := (cell_kept (tn.block gC (by omega) (by simp; omega)) (j * 2)).trans cv0
     have d1 := (cell_kept (tn.block gC (by omega) (by simp; omega)) (j * 2 + 1)).trans cv1
     have mr := mx.kept tn (fun b hb hb' => by have := rx b hb; simp at hb'; omega)
     obtain ⟨⟨old, cOld⟩, fz, hgm, fpA, mA, rA⟩ := row_set1 (j := q) rfl hS (by omega) mr (fun b hb hb' => by
      have h1 := rx b hb
      rcases hfp b hb' with h2 | ⟨i, h2, h3⟩
      . omega
      exact HC2.out i j h2 (by omega) b h3 hb)
     have hfA : ∀ b ∈ fpA, (m1 <= b /\ b < m2) ∨ ∃ i, i < j + 1 /\ b ∈ FC i := fun b hb => by
      rcases rA b hb with h | h
      . rcases hfp b h with h2 | ⟨i, h2, h3⟩
        . exact .inl h2
        exact .inr ⟨i, by omega, h3⟩
      exact .inr ⟨j, by omega, h⟩
     have k3 : (0 : Int) <= (q : Int) := by omega
     have k4 : (q : Int) < (n0 : Int) := by omega
     have HTK := hidden htk
     have HFA := hidden hfA
     have MA := hidden mA
     have TA := hidden (tn.trans (Turned.setCell (w := wr) (g := gS) (j := q) (.slice av x1.length cv) (List.mem_cons_self : gS ∈ [gS])))
     have XOR := hidden xo
     have nO : Hid (w1.heap.size ≠ gS) := by unfold Hid; omega
     have nC : Hid (gC ≠ gS) := ncs
     have hT : Hid (wr.cell? ⟨gC, j * 2, none⟩ = some (.int .i64 (q : Int)) /\ wr.cell? ⟨gC, j * 2 + 1, none⟩ = some (.slice av x1.length cv)) := ⟨d0, d1⟩
     clear hdj htk hmem mx rx cv0 cv1 mr hfA mA rA tn hS hfp xo hgm ncs
     go_wp2_with fail
     go_region_held3 (fun w' => w'.cell? ⟨w1.heap.size, 0, none⟩ = some (.slice (some ⟨gS, 0, none⟩) n0 e0) /\ w'.cell? ⟨w1.heap.size, 1, none⟩ = some (.slice (some ⟨gC, 0, none⟩) n1 e1) /\ w'.cell? ⟨gC, j * 2, none⟩ = some (.int .i64 (q : Int)) /\ w'.cell? ⟨gC, j * 2 + 1, none⟩ = some (.slice av x1.length cv))
      (first | (exact ⟨y0, y1, d0, d1⟩) | (exact ⟨(XOR.out.other nO.out q (.slice av x1.length cv)).cell 0, (XOR.out.other nO.out q (.slice av x1.length cv)).cell 1, (cell_kept (Below.heap_setCell _ _ _ _ nC.out) _).trans d0, (cell_kept (Below.heap_setCell _ _ _ _ nC.out) _).trans d1⟩) | go_keep)
      (fail)
     clear d0 d1 y0 y1 y2 y3 cOld fz XOR nO nC hT
     go_wp2
     go_roundw
     case rel => exact ⟨j + 1, fpA, by omega, by go_num, Turned.adrew TA.out, by rw [HTK.out, flushD_snoc (by omega)]; exact Ty.Mine.adrew MA.out, HFA.out⟩
     case measure => simp [intOf]; omega
   have e : n1 = j := by omega
   subst e
   rw [List.take_of_length_le (by omega)] at hS
   have yo := xo.alloc (.cells #[] 109)
   have ys := yo.set 1 (.slice (some ⟨wr.heap.size, 0, none⟩) 0 0)
   have yt := ((XR.out.turned tn (by simp; omega)).alloc (.cells #[] 109)).other (g := w1.heap.size) (by omega) 1 (.slice (some ⟨wr.heap.size, 0, none⟩) 0 0)
   obtain ⟨s0, s1, s2, s3⟩ := yo.cells4
   have fo := yo.frozen 1
   obtain ⟨t0, t1, t2, t3⟩ := Box.cells4 (v0 := .slice (some ⟨gS, 0, none⟩) n0 e0) (v1 := (.slice (some ⟨wr.heap.size, 0, none⟩) 0 0)) (v2 := .bool false) (v3 := .slice b3 n3 e3) ys
   obtain ⟨p0, p1, p2, p3⟩ := yt.cells4
   have fz := yt.frozen
   have zl : (wr.alloc (.cells #[] 109)).heap.size = wr.heap.size + 1 := by simp
   have ZL := hidden zl
   have bo := But.setCell (lo := w1.heap.size) (hi := w1.heap.size + 1) (g := w1.heap.size) (j := 1) (w := (wr.alloc (.cells #[] 109))) (Nat.le_refl _) (Nat.lt_succ_self _) (.slice (some ⟨wr.heap.size, 0, none⟩) 0 0)
   have bl : Below wr.heap.size wr (wr.alloc (.cells #[] 109)) := (Below.refl _ _).alloc (Nat.le_refl _) _
   have kl := ((lit0_mine (t := tWr) (E := 109) wr).own (lo := wr.heap.size) (hi := wr.heap.size + 1) (fun b hb => by simp at hb; omega)).but bo (.inr (by omega))
   have k0 := ((hS.own (lo := m1) (hi := w1.heap.size) (fun b hb => by
    rcases hfp b hb with h | ⟨i, h2, h3⟩
    . omega
    by_cases hin : i < n1
    . obtain ⟨_, _, _, r, _⟩ := HC1.out i _ (List.getElem?_eq_getElem (by omega))
      have := r b h3
      omega
    omega)).below bl).but bo (.inl (Nat.le_refl _))
   have k3 := ((L3.out.but (tn.but (lo := m1) (hi := m2) (by simp; omega)) (.inl (Nat.le_refl _))).below bl).but bo (.inl (by omega))
   have kb : Below w.heap.size w ((wr.alloc (.cells #[] 109)).setCell ⟨w1.heap.size, 1, none⟩ (.slice (some ⟨wr.heap.size, 0, none⟩) 0 0)) := LB.out.trans ((tn.below (N := w.heap.size) (by omega) (by simp; omega)).trans ((bl.mono (by omega)).trans (bo.below (by omega) (by omega))))
   have zs := bo.size
   clear zl bo bl hS tn hfp xo yo ys yt q0 q1 q2 q3 XM hC0 HC1 HC2 MS0 RS0
   go_wp2
   generalize ((wr.alloc (.cells #[] 109)).setCell ⟨w1.heap.size, 1, none⟩ (.slice (some ⟨wr.heap.size, 0, none⟩) 0 0)) = wz at t0 t1 t2 t3 p0 p1 p2 p3 fz kl k0 k3 kb zs ⊢
   have zL := ZL.out
   have hbt : But (w.heap.size + 1) (w.heap.size + 2) wz ((((wz.setCell ⟨w.heap.size + 1, 0, none⟩ (.slice (some ⟨gS, 0, none⟩) n0 e0)).setCell ⟨w.heap.size + 1, 1, none⟩ (.slice (some ⟨wr.heap.size, 0, none⟩) 0 0)).setCell ⟨w.heap.size + 1, 2, none⟩ (.bool false)).setCell ⟨w.heap.size + 1, 3, none⟩ (.slice b3 n3 e3)) :=
    (((But.setCell (by omega) (by omega) _).trans (But.setCell (by omega) (by omega) _)).trans (But.setCell (by omega) (by omega) _)).trans (But.setCell (by omega) (by omega) _)
   have z9 := hbt.size
   refine bodyPost_ret (v := .agg #[.slice (some ⟨gS, 0, none⟩) n0 e0, (.slice (some ⟨wr.heap.size, 0, none⟩) 0 0), .bool false, .slice b3 n3 e3]) (by simp [results, Tryz.results141, go_sem, p0, p1, p2, p3]) rfl ?_
   exact ⟨_, _, _, rfl, mem_own3 (k0.but hbt (by omega)) (kl.but hbt (by omega)) (k3.but hbt (by omega)) (by omega) (by omega) (by omega) (by omega) (by omega) (by omega), Below.andBut kb hbt (by omega)⟩
 have hM : memB ss cs bs = false := by simpa using hM
 have e1 : flSS ss cs f bs = ss := by unfold flSS; simp [hM]
 have e2 : flCS ss cs f bs = cs := by unfold flCS; simp [hM]
 rw [e1, e2]
 clear e1 e2
 have hA : Below w.heap.size w ((w.alloc (.cells #[.slice a0 n0 c0, .slice a1 n1 c1, .bool f, .slice a3 n3 c3] 51)).alloc (.cells #[.slice none 0 0, .slice none 0 0, .bool false, .slice none 0 0] 51)) := ((Below.refl _ _).alloc (Nat.le_refl _) _).alloc (by simp) _
 have xm : Box ((w.alloc (.cells #[.slice a0 n0 c0, .slice a1 n1 c1, .bool f, .slice a3 n3 c3] 51)).alloc (.cells #[.slice none 0 0, .slice none 0 0, .bool false, .slice none 0 0] 51)) w.heap.size 51 #[.slice a0 n0 c0, .slice a1 n1 c1, .bool f, .slice a3 n3 c3] := (Box.new w _ _).alloc _
 have xr : Box ((w.alloc (.cells #[.slice a0 n0 c0, .slice a1 n1 c1, .bool f, .slice a3 n3 c3] 51)).alloc (.cells #[.slice none 0 0, .slice none 0 0, .bool false, .slice none 0 0] 51)) (w.heap.size + 1) 51 #[.slice none 0 0, .slice none 0 0, .bool false, .slice none 0 0] := by
  have := Box.new (w.alloc (.cells #[.slice a0 n0 c0, .slice a1 n1 c1, .bool f, .slice a3 n3 c3] 51)) 51 #[.slice none 0 0, .slice none 0 0, .bool false, .slice none 0 0]
  rw [show (w.alloc (.cells #[.slice a0 n0 c0, .slice a1 n1 c1, .bool f, .slice a3 n3 c3] 51)).heap.size = w.heap.size + 1 by simp] at this
  exact this
 go_enter Tryz.func141, Tryz.ntmps141
 go_wp2_with fail
 generalize hW : (w.alloc (.cells #[.slice a0 n0 c0, .slice a1 n1 c1, .bool f, .slice a3 n3 c3] 51)).alloc (.cells #[.slice none 0 0, .slice none 0 0, .bool false, .slice none 0 0] 51) = W at hA xm xr ⊢
 clear hW
 have zr := xr.lt
 obtain ⟨q0, q1, q2, q3⟩ := xm.cells4
 have XM := hidden xm
 have XR := hidden xr
 clear xm xr
 refine (l2Copy_any _ E _ _ _ _ _ _ _ _ _ ss cs f bs (h0.below hA) (h1.below hA) (h3.below hA) hw).mono ?_
 intro e w1 hc
 obtain ⟨b0, b1, b3, e0, e1, e3, m1, m2, rfl, o3, o0, o1, r1, r2, r3, bb⟩ := copy_shapes hl0 hl1 hl3 hc
 clear hc
 have z1 := bb.size
 have sW : w.heap.size + 2 <= W.heap.size := by omega
 have ba : Below w1.heap.size w1 (w1.alloc (.cells #[.slice b0 n0 e0, .slice b1 n1 e1, .bool f, .slice b3 n3 e3] 51)) := (Below.refl _ _).alloc (Nat.le_refl _) _
 have yo := Box.new w1 51 #[.slice b0 n0 e0, .slice b1 n1 e1, .bool f, .slice b3 n3 e3]
 have zo := yo.lt
 have YO := hidden yo
 have YR := hidden ((XR.out.below bb zr).below ba (by omega))
 have YM := hidden ((XM.out.below bb (by omega)).below ba (by omega))
 have K0 := hidden (o0.below ba)
 have K1 := hidden (o1.below ba)
 have K3 := hidden (o3.below ba)
 have KB := hidden (hA.trans ((bb.mono (by omega : w.heap.size <= W.heap.size)).trans (ba.mono (by omega))))
 clear yo o0 o1 o3 XM XR bb ba hA q0 q1 q2 q3
 obtain ⟨q0, q1, q2, q3⟩ := YM.out.cells4
 go_wp2_with fail
 generalize w1.alloc (.cells #[.slice b0 n0 e0, .slice b1 n1 e1, .bool f, .slice b3 n3 e3] 51) = w2 at YO YR YM K0 K1 K3 KB zo q0 q1 q2 q3 ⊢
 refine (specMemOk_any _ E _ _ _ _ _ _ _ _ _ ss cs f bs (h0.below KB.out) (h1.below KB.out) (h3.below KB.out) hw).mono ?_
 rintro e w3 ⟨rfl, b4⟩
 have z3 := b4.size
 have XO := hidden (YO.out.below b4 (by omega))
 have XR := hidden (YR.out.below b4 (by omega))
 have XM := hidden (YM.out.below b4 (by omega))
 have L0 := hidden (K0.out.below b4)
 have L1 := hidden (K1.out.below b4)
 have L3 := hidden (K3.out.below b4)
 have LB := hidden (KB.out.trans (b4.mono (by have := KB.out.size; omega)))
 clear YO YR YM K0 K1 K3 KB b4 q0 q1 q2 q3
 obtain ⟨q0, q1, q2, q3⟩ := XM.out.cells4
 obtain ⟨x0, x1, x2, x3⟩ := XO.out.cells4
 obtain ⟨p0, p1, p2, p3⟩ := XR.out.cells4
 have fz := XR.out.frozen
 have hbt : But (w.heap.size + 1) (w.heap.size + 2) w3 ((((w3.setCell ⟨w.heap.size + 1, 0, none⟩ (.slice b0 n0 e0)).setCell ⟨w.heap.size + 1, 1, none⟩ (.slice b1 n1 e1)).setCell ⟨w.heap.size + 1, 2, none⟩ (.bool f)).setCell ⟨w.heap.size + 1, 3, none⟩ (.slice b3 n3 e3)) :=
  (((But.setCell (by omega) (by omega) _).trans (But.setCell (by omega) (by omega) _)).trans (But.setCell (by omega) (by omega) _)).trans (But.setCell (by omega) (by omega) _)
 have z9 := hbt.size
 have FIN : Hid ((tMem 109).Own ((((w3.setCell ⟨w.heap.size + 1, 0, none⟩ (.slice b0 n0 e0)).setCell ⟨w.heap.size + 1, 1, none⟩ (.slice b1 n1 e1)).setCell ⟨w.heap.size + 1, 2, none⟩ (.bool f)).setCell ⟨w.heap.size + 1, 3, none⟩ (.slice b3 n3 e3)) w.heap.size ((((w3.setCell ⟨w.heap.size + 1, 0, none⟩ (.slice b0 n0 e0)).setCell ⟨w.heap.size + 1, 1, none⟩ (.slice b1 n1 e1)).setCell ⟨w.heap.size + 1, 2, none⟩ (.bool f)).setCell ⟨w.heap.size + 1, 3, none⟩ (.slice b3 n3 e3)).heap.size [.slice b0 n0 e0, .slice b1 n1 e1, .bool f, .slice b3 n3 e3] (ss, cs, f, bs)) := mem_own3 (L0.out.but hbt (by omega)) (L1.out.but hbt (by omega)) (L3.out.but hbt (by omega)) (by omega) (by omega) (by omega) (by omega) (by omega) (by omega)
 have FB := hidden (Below.andBut LB.out hbt (by omega))
 clear hbt
 go_wp2
 refine bodyPost_ret (v := .agg #[.slice b0 n0 e0, .slice b1 n1 e1, .bool f, .slice b3 n3 e3]) (by simp [results, Tryz.results141, go_sem, p0, p1, p2, p3]) rfl ?_
 exact ⟨_, _, _, rfl, FIN.out, FB.out⟩

theorem l7Sync_any (w : World) (B : Nat) (x : ArrN) (ms : List MemD) (ds : List (Int × List Int)) (fm fd : List Nat) (h : ArrAt w B x ms ds fm fd) (hf : x.fuse <= 1000) (hM : MsOk ms) :
 Calls Tryz.prog 106 #[.pointer (some ⟨B, 0, none⟩)] w fun e w' => e = .returned (.tuple #[]) /\ ∃ fm', ArrAt w' B (syncS (x, ms) ms.length).1 (syncS (x, ms) ms.length).2 ds fm' fd /\ Moved B fm w fm' w' := by
 have hkp := fun j => syncS_keeps (q := (x, ms)) hM hf j
 have HK := hidden hkp
 clear hkp
 have H0 := hidden h
 obtain ⟨bm0, bd0, cm0, cd0, X0, hm0, _⟩ := h
 have hmx := (row_length hm0.rd).2
 clear X0 hm0
 go_enter Tryz.func106, Tryz.ntmps106
 go_wp2
 go_loopw [2] (fun i wr => ∃ (j : Nat) (fm1 : List Nat), j <= ms.length /\ i = .int .i64 j /\ ArrAt wr B (syncS (x, ms) j).1 (syncS (x, ms) j).2 ds fm1 fd /\ Moved B fm w fm1 wr) (fun i _ => ms.length - (intOf i).toNat)
 case atStart => exact ⟨0, fm, Nat.zero_le _, rfl, H0.out, Moved.refl _ _ _⟩
 obtain ⟨j, fm1, hj, rfl, hA, hMv⟩ := hrel
 obtain ⟨hMj, hsj, hlj⟩ := HK.out j
 have hfj := hsj.2.2.2.2.2.2.2.2.2.1
 have HS := hidden (syncS_succ (x, ms) j)
 generalize hst : syncS (x, ms) j = st at hA hMj hsj hlj hfj HS
 have HST := hidden hst
 clear hst
 obtain ⟨y, ns⟩ := st
 dsimp only at hA hMj hsj hlj hfj
 have HA := hidden hA
 obtain ⟨bm, bd, cm, cd, X, hmm, hdd, hr, r1, r2⟩ := hA
 rw [hlj] at X hmm
 have X0 := X
 unfold arrC at X0
 obtain ⟨k0, k1, k2, k3, k4, k5, k6, k7, k8, k9, k10, k11, k12⟩ := X0.cells13
 by_cases hjn : j < ms.length
 . have i2 : (j : Int) < (ms.length : Int) := by omega
   have i1 : (0 : Int) <= (j : Int) := by omega
   obtain ⟨g, rfl⟩ := row_head hmm (by omega)
   have hdj : ns[j]? = some (ns[j]'(by omega)) := List.getElem?_eq_getElem (by omega)
   generalize ns[j]'(by omega) = d at hdj
   obtain ⟨hgl, a0, a1, a3, c0, c1, c3, ss, cs, f, bs, rfl, q0, q1, q2, q3, _, _, _⟩ := disk_at hmm hdj
   have MV := hidden hMv
   clear X X0 hmm hdd hMv
   cases f
   . go_wp2_with fail
     refine (l7Op_any _ B y ns ds fm1 fd HA.out hfj).mono ?_
     rintro e w1 ⟨rfl, hA1, hMv1⟩
     clear k0 k1 k2 k3 k4 k5 k6 k7 k8 k9 k10 k11 k12 q0 q1 q2 q3 HA
     cases ho : opB y
     . have HP : Hid (syncS (x, ms) (j + 1) = (opX y, ns)) := HS.out.trans (doS_no hdj rfl ho)
       have HB := hidden (MV.out.trans hMv1)
       have HA1 := hidden hA1
       clear hA1 hMv1
       go_wp2
       go_roundw
       case rel => exact ⟨j + 1, fm1, by omega, by go_num, by rw [HP.out]; exact HA1.out, HB.out⟩
       case measure => simp [intOf]; omega
     have HP : Hid (syncS (x, ms) (j + 1) = (opX y, ns.set j (flM (ss, cs, false, bs)))) := HS.out.trans (doS_yes hdj rfl ho)
     obtain ⟨bm, bd, cm, cd, X, hmm, hdd, hr, r1, r2⟩ := hA1
     obtain ⟨g, rfl⟩ := row_head hmm (by omega)
     obtain ⟨hgl, a0, a1, a3, c0, c1, c3, ss, cs, f, bs, hde, q0, q1, q2, q3, p0, p1, p3⟩ := disk_at hmm hdj
     simp only [Prod.mk.injEq] at hde
     obtain ⟨rfl, rfl, rfl, rfl⟩ := hde
     have X0 := X
     unfold arrC at X0
     have x3 := X0.cells13.2.2.2.1
     have hwt := memB_light (hMj j _ hdj) false
     dsimp only at hwt
     have zB := X.lt
     have XH := hidden X
     have MH := hidden hmm
     have DH := hidden hdd
     have MV1 := hidden hMv1
     have R0 := hidden p0
     have R1 := hidden p1
     have R3 := hidden p3
     have hS : w1.drew.cell? ⟨B, 3, none⟩ = some (.slice (some ⟨g, 0, none⟩) ns.length cm) /\ w1.drew.cell? ⟨g, j * 4, none⟩ = some (.slice a0 ss.length c0) /\ w1.drew.cell? ⟨g, j * 4 + 1, none⟩ = some (.slice a1 cs.length c1) /\ w1.drew.cell? ⟨g, j * 4 + 2, none⟩ = some (.bool false) /\ w1.drew.cell? ⟨g, j * 4 + 3, none⟩ = some (.slice a3 bs.length c3) := ⟨x3, q0, q1, q2, q3⟩
     have i3 : (j : Int) < (ns.length : Int) := by omega
     clear X X0 hmm hdd hMv1 p0 p1 p3
     go_wp2_with fail
     refine Upto.start (S := fun w' => w'.cell? ⟨B, 3, none⟩ = some (.slice (some ⟨g, 0, none⟩) ns.length cm) /\ w'.cell? ⟨g, j * 4, none⟩ = some (.slice a0 ss.length c0) /\ w'.cell? ⟨g, j * 4 + 1, none⟩ = some (.slice a1 cs.length c1) /\ w'.cell? ⟨g, j * 4 + 2, none⟩ = some (.bool false) /\ w'.cell? ⟨g, j * 4 + 3, none⟩ = some (.slice a3 bs.length c3)) (k := 14) (by kernel_rfl) ?_
     refine Upto.t 0 hS ?_
     refine Upto.t 1 hS ?_
     refine Upto.t 2 hS ?_
     refine Upto.t 3 hS ?_
     refine Upto.t 4 hS ?_
     refine Upto.t 5 hS ?_
     refine Upto.t 6 hS ?_
     refine Upto.t 7 hS ?_
     refine Upto.t 8 hS ?_
     refine Upto.t 9 hS ?_
     refine Upto.t 10 hS ?_
     refine Upto.t 11 hS ?_
     refine Upto.one (i := 12) (by kernel_rfl) rfl (fun K hK => ?_)
     go_simp
     refine (specFlushMem_any _ 109 _ _ _ _ _ _ _ _ _ ss cs false bs R0.out.drew R1.out.drew R3.out.drew (by omega)).mono ?_
     rintro e w2 ⟨u0, u1, u3, rfl, o2, b2'⟩
     have b2 : Below w1.heap.size w1 w2 := (Below.refl w1.heap.size w1).drew.trans b2'
     have o2b : (tMem 109).Own w2 w1.heap.size w2.heap.size [u0, u1, .bool false, u3] _ := o2
     obtain ⟨d0, l0, f0, d1, l1, f1, d3, l3, f3, hv0, hv1, hv3⟩ := mem_slices o2b
     subst hv0 hv1 hv3
     obtain ⟨fpx, mx, rx⟩ := o2b.mine
     obtain ⟨cOld, fz, hgm, fm9, hA9, hMv9⟩ := arr_store (m := j) XH.out MH.out DH.out hr r1 r2 b2 (by omega) mx (fun b hb => (rx b hb).1)
     obtain ⟨o0, t0⟩ := cOld 0 (by omega)
     obtain ⟨o1, t1⟩ := cOld 1 (by omega)
     obtain ⟨o2', t2⟩ := cOld 2 (by omega)
     obtain ⟨o3, t3⟩ := cOld 3 (by omega)
     rw [Nat.add_zero] at t0
     have HA := hidden hA9
     have HMV := hidden ((MV.out.trans MV1.out).trans hMv9)
     have hS2 : w2.cell? ⟨B, 3, none⟩ = some (.slice (some ⟨g, 0, none⟩) ns.length cm) /\ w2.cell? ⟨g, j * 4, none⟩ = some (.slice a0 ss.length c0) /\ w2.cell? ⟨g, j * 4 + 1, none⟩ = some (.slice a1 cs.length c1) /\ w2.cell? ⟨g, j * 4 + 2, none⟩ = some (.bool false) /\ w2.cell? ⟨g, j * 4 + 3, none⟩ = some (.slice a3 bs.length c3) := ⟨(b2.cell (p := ⟨B, 3, none⟩) zB).trans x3, (b2.cell (p := ⟨g, j * 4, none⟩) hgl).trans q0, (b2.cell (p := ⟨g, j * 4 + 1, none⟩) hgl).trans q1, (b2.cell (p := ⟨g, j * 4 + 2, none⟩) hgl).trans q2, (b2.cell (p := ⟨g, j * 4 + 3, none⟩) hgl).trans q3⟩
     have gB : ¬ g = B := fun e => r1 (e ▸ hgm)
     unfold put4 at HA HMV
     clear x3 q0 q1 q2 q3 o2 o2b b2 b2' mx rx cOld hA9 hMv9 XH MH DH MV MV1 R0 R1 R3 hwt
     go_wp2_with fail
     refine hK.out _ _ (fun _ => hS2) ?_
     clear hK K
     refine Upto.t 13 hS2 ?_
     refine Upto.one (i := 14) (by kernel_rfl) rfl (fun K hK => ?_)
     go_simp
     refine hK.out _ _ (fun h => absurd rfl h) ?_
     clear hK K
     refine Upto.done (by kernel_rfl) ?_ _
     clear hS hS2 t0 t1 t2 t3 fz
     go_wp2
     go_roundw
     case rel => exact ⟨j + 1, fm9, by omega, by go_num, by rw [HP.out]; exact HA.out, HMV.out⟩
     case measure => simp [intOf]; omega
   have HP : Hid (syncS (x, ms) (j + 1) = (y, ns)) := HS.out.trans (doS_failed hdj rfl)
   go_wp2
   go_roundw
   case rel => exact ⟨j + 1, fm1, by omega, by go_num, by rw [HP.out]; exact HA.out, MV.out⟩
   case measure => simp [intOf]; omega
 have ej : j = ms.length := by omega
 subst ej
 have HMV := hidden hMv
 clear X X0 hmm hdd hMv
 go_wp2
 refine bodyPost_end (v := .tuple #[]) (results_none rfl _ _ _) rfl ?_
 exact ⟨rfl, fm1, by rw [HST.out]; exact HA.out, HMV.out⟩

theorem putD_len9 (x : Sup) : (putD x).length <= 9 := by unfold putD; split <;> simp

theorem l7Mark_any (w : World) (B : Nat) (x : ArrN) (ms : List MemD) (ds : List (Int × List Int)) (fm fd : List Nat) (h : ArrAt w B x ms ds fm fd) (hf : x.fuse <= 1000) (hM : MsOk ms) (hg0 : 0 <= x.gen) (hg1 : x.gen <= 60000) :
 Calls Tryz.prog 64 #[.pointer (some ⟨B, 0, none⟩)] w fun e w' => e = .returned (.tuple #[]) /\ ∃ fm', ArrAt w' B (markS (x, ms)).1 (markS (x, ms)).2 ds fm' fd /\ Moved B fm w fm' w' := by
 obtain ⟨x1, hx1⟩ : ∃ x1 : ArrN, x1 = {x with gen := x.gen + 1} := ⟨_, rfl⟩
 have hf1 : x1.fuse <= 1000 := by rw [hx1]; exact hf
 have hgen : x1.gen = x.gen + 1 := by rw [hx1]
 have hgw : IntKind.i64.wrap (x.gen + 1) = x.gen + 1 := IntWalk.i64_in _ (by omega)
 have HK : Hid (∀ j, _) := fun j => supsS_keeps (q := (x1, ms)) hM hf1 j
 have HMK : Hid (markS (x, ms) = syncS (supsS (x1, ms) ms.length) ms.length) := by rw [hx1]; rfl
 obtain ⟨bm0, bd0, cm0, cd0, X0, hm0, hd0, hr0, r10, r20⟩ := h
 have hmx := (row_length hm0.rd).2
 have A1 : Hid (ArrAt (w.setCell ⟨B, 8, none⟩ (.int .i64 (x.gen + 1))) B x1 ms ds fm fd) := by
  unfold Hid
  rw [hx1]
  exact ⟨bm0, bd0, cm0, cd0, X0.set 8 (.int .i64 (x.gen + 1)), hm0.setCell (g := B) (j := 8) r10 _, hd0.setCell (g := B) (j := 8) r20 _, hr0, r10, r20⟩
 have M1 := hidden (Moved.set (B := B) (j := 8) (fm := fm) (w := w) (.int .i64 (x.gen + 1)))
 unfold arrC at X0
 obtain ⟨k0, k1, k2, k3, k4, k5, k6, k7, k8, k9, k10, k11, k12⟩ := X0.cells13
 have fz := X0.frozen
 have hgn : 0 <= x1.gen /\ x1.gen <= 60001 := by omega
 clear X0 hm0 hd0 hr0 r10 r20 hx1 hgen
 go_enter Tryz.func64, Tryz.ntmps64
 go_wp2
 generalize w.setCell ⟨B, 8, none⟩ (.int .i64 (x.gen + 1)) = W at A1 M1 ⊢
 clear k0 k1 k2 k3 k4 k5 k6 k7 k8 k9 k10 k11 k12 fz
 go_loopw [2] (fun i wr => ∃ (j : Nat) (fm1 : List Nat), j <= ms.length /\ i = .int .i64 j /\ ArrAt wr B (supsS (x1, ms) j).1 (supsS (x1, ms) j).2 ds fm1 fd /\ Moved B fm w fm1 wr) (fun i _ => ms.length - (intOf i).toNat)
 case atStart => exact ⟨0, fm, Nat.zero_le _, rfl, A1.out, M1.out⟩
 clear A1 M1
 obtain ⟨j, fm1, hj, rfl, hA, hMv⟩ := hrel
 obtain ⟨hMj, hsj, hlj⟩ := HK.out j
 have hfj := hsj.2.2.2.2.2.2.2.2.2.1
 have hgj := hsj.2.2.2.2.2.2.2.1
 have HS := hidden (supsS_succ (x1, ms) j)
 generalize hst : supsS (x1, ms) j = st at hA hMj hsj hlj hfj hgj HS
 have HST := hidden hst
 clear hst
 obtain ⟨y, ns⟩ := st
 dsimp only at hA hMj hsj hlj hfj hgj HS
 have hgy : 0 <= y.gen /\ y.gen <= 60001 := by omega
 clear hgj hsj
 have HA := hidden hA
 obtain ⟨bm, bd, cm, cd, X, hmm, hdd, hr, r1, r2⟩ := hA
 rw [hlj] at X
 unfold arrC at X
 have zB := X.lt
 have XH := hidden X
 obtain ⟨k0, k1, k2, k3, k4, k5, k6, k7, k8, k9, k10, k11, k12⟩ := X.cells13
 clear hmm hdd hr r1 r2 X
 by_cases hjn : j < ms.length
 . have i2 : (j : Int) < (ms.length : Int) := by omega
   have t2 : y.gen.tmod 2 = y.gen % 2 := Int.tmod_eq_emod_of_nonneg hgy.1
   have t3 : IntKind.i64.wrap (y.gen % 2) = y.gen % 2 := IntWalk.i64_in _ (by omega)
   have t4 : ¬ (2 : Int) = 0 := by omega
   have MV := hidden hMv
   clear hMv
   have hS : wr.drew.cell? ⟨B, 0, none⟩ = some (.int .i64 y.id) /\ wr.drew.cell? ⟨B, 1, none⟩ = some (.int .i64 y.n) /\ wr.drew.cell? ⟨B, 2, none⟩ = some (.int .i64 y.s) /\ wr.drew.cell? ⟨B, 4, none⟩ = some (.int .i64 y.lost) /\ wr.drew.cell? ⟨B, 5, none⟩ = some (.int .i64 y.built) /\ wr.drew.cell? ⟨B, 7, none⟩ = some (.int .i64 y.tail) /\ wr.drew.cell? ⟨B, 8, none⟩ = some (.int .i64 y.gen) := ⟨k0, k1, k2, k4, k5, k7, k8⟩
   go_wp2_with fail
   refine wp_region_held_drew (S := fun w' => w'.cell? ⟨B, 0, none⟩ = some (.int .i64 y.id) /\ w'.cell? ⟨B, 1, none⟩ = some (.int .i64 y.n) /\ w'.cell? ⟨B, 2, none⟩ = some (.int .i64 y.s) /\ w'.cell? ⟨B, 4, none⟩ = some (.int .i64 y.lost) /\ w'.cell? ⟨B, 5, none⟩ = some (.int .i64 y.built) /\ w'.cell? ⟨B, 7, none⟩ = some (.int .i64 y.tail) /\ w'.cell? ⟨B, 8, none⟩ = some (.int .i64 y.gen)) (by kernel_rfl) ?_ (fun hHeld => ?_)
   . exact hS
   refine held_t 0 hHeld ?_
   refine held_t 1 hHeld ?_
   refine held_t 2 hHeld ?_
   refine held_t 3 hHeld ?_
   refine held_t 4 hHeld ?_
   refine held_t 5 hHeld ?_
   refine held_t 6 hHeld ?_
   refine held_t 7 hHeld ?_
   refine held_t 8 hHeld ?_
   refine held_t 9 hHeld ?_
   refine held_t 10 hHeld ?_
   refine held_t 11 hHeld ?_
   refine held_t 12 hHeld ?_
   refine held_t 13 hHeld ?_
   refine held_t 14 hHeld ?_
   refine held_t 15 hHeld ?_
   refine held_t 16 hHeld ?_
   refine held_t 17 hHeld ?_
   refine held_t 18 hHeld ?_
   refine held_t 19 hHeld ?_
   refine held_t 20 hHeld ?_
   refine held_t 21 hHeld ?_
   refine held_t 22 hHeld ?_
   refine held_t 23 hHeld ?_
   refine held_t 24 hHeld ?_
   refine held_t 25 hHeld ?_
   refine held_t 26 hHeld ?_
   refine held_t 27 hHeld ?_
   refine held_t 28 hHeld ?_
   refine held_t 29 hHeld ?_
   refine held_t 30 hHeld ?_
   refine held_t 31 hHeld ?_
   refine held_t 32 hHeld ?_
   refine held_t 33 hHeld ?_
   refine held_t 34 hHeld ?_
   refine held_t 35 hHeld ?_
   refine held_t 36 hHeld ?_
   refine held_t 37 hHeld ?_
   refine held_t 38 hHeld ?_
   refine held_one (i := 39) (by kernel_rfl) rfl (by kernel_rfl) (fun K hK => ?_)
   go_simp
   refine (specPutSuper_any _ (supA y j)).mono ?_
   rintro e w2 ⟨ap, lp, cp, rfl, o2, b2'⟩
   have b2 : Below wr.heap.size wr w2 := (Below.refl wr.heap.size wr).drew.trans b2'
   have o2b : tIntS.Own w2 wr.heap.size w2.heap.size [.slice ap lp cp] (putD (supA y j)) := o2
   obtain ⟨fpp, mp, rp⟩ := o2b.mine
   have hlp : lp <= 9 := by have h1 := (row_length o2b.rd).1; have h2 := putD_len9 (supA y j); omega
   have hS2 : w2.cell? ⟨B, 0, none⟩ = some (.int .i64 y.id) /\ w2.cell? ⟨B, 1, none⟩ = some (.int .i64 y.n) /\ w2.cell? ⟨B, 2, none⟩ = some (.int .i64 y.s) /\ w2.cell? ⟨B, 4, none⟩ = some (.int .i64 y.lost) /\ w2.cell? ⟨B, 5, none⟩ = some (.int .i64 y.built) /\ w2.cell? ⟨B, 7, none⟩ = some (.int .i64 y.tail) /\ w2.cell? ⟨B, 8, none⟩ = some (.int .i64 y.gen) := ⟨(b2.cell (p := ⟨B, 0, none⟩) zB).trans k0, (b2.cell (p := ⟨B, 1, none⟩) zB).trans k1, (b2.cell (p := ⟨B, 2, none⟩) zB).trans k2, (b2.cell (p := ⟨B, 4, none⟩) zB).trans k4, (b2.cell (p := ⟨B, 5, none⟩) zB).trans k5, (b2.cell (p := ⟨B, 7, none⟩) zB).trans k7, (b2.cell (p := ⟨B, 8, none⟩) zB).trans k8⟩
   have A2 := hidden (HA.out.below b2)
   have LT := hidden HA.out.ltm
   have MV2 := hidden (MV.out.below b2)
   have MP := hidden mp
   have RP := hidden rp
   clear k0 k1 k2 k3 k4 k5 k6 k7 k8 k9 k10 k11 k12 o2 o2b b2 b2' mp rp MV HA
   go_wp2_with fail
   clear hHeld
   refine hK.out _ _ ?_ (fun hHeld => ?_)
   . exact hS2
   clear hK K
   refine held_one (i := 40) (by kernel_rfl) rfl (by kernel_rfl) (fun K hK => ?_)
   go_simp
   refine (l7Put_any _ B y ns ds fm1 fd A2.out hfj hMj j (by omega) _ _ _ _ (putD (supA y j)) fpp MP.out (fun hm => by have := RP.out _ hm; omega) (fun b hb hm => by have h1 := RP.out b hb; have h2 := LT.out.1 b hm; omega) (by omega)).mono ?_
   rintro e w3 ⟨rfl, fm3, hA3, hMv3⟩
   have hsm : SameN y (putS (y, ns) j (y.gen % 2) (putD (supA y j))).1 := doS_same _ _ hfj
   have hS3 : w3.cell? ⟨B, 0, none⟩ = some (.int .i64 y.id) /\ w3.cell? ⟨B, 1, none⟩ = some (.int .i64 y.n) /\ w3.cell? ⟨B, 2, none⟩ = some (.int .i64 y.s) /\ w3.cell? ⟨B, 4, none⟩ = some (.int .i64 y.lost) /\ w3.cell? ⟨B, 5, none⟩ = some (.int .i64 y.built) /\ w3.cell? ⟨B, 7, none⟩ = some (.int .i64 y.tail) /\ w3.cell? ⟨B, 8, none⟩ = some (.int .i64 y.gen) := by
    obtain ⟨_, _, _, _, X3, _⟩ := hA3
    unfold arrC at X3
    obtain ⟨k0, k1, k2, k3, k4, k5, k6, k7, k8, k9, k10, k11, k12⟩ := X3.cells13
    obtain ⟨e1, e2, e3, e4, e5, e6, e7, e8, _⟩ := hsm
    rw [e1] at k0
    rw [e2] at k1
    rw [e3] at k2
    rw [e4] at k4
    rw [e5] at k5
    rw [e7] at k7
    rw [e8] at k8
    exact ⟨k0, k1, k2, k4, k5, k7, k8⟩
   have HA3 : Hid (ArrAt w3 B (supsS (x1, ms) (j + 1)).1 (supsS (x1, ms) (j + 1)).2 ds fm3 fd) := by unfold Hid; rw [HS.out]; exact hA3
   have HM3 := hidden (MV2.out.trans hMv3)
   clear hA3 hMv3 A2 MV2 MP RP LT hS2 hsm
   go_wp2_with fail
   clear hHeld
   refine hK.out _ _ ?_ (fun hHeld => ?_)
   . exact hS3
   clear hK K
   refine wpAnyH_done (by kernel_rfl) ?_ _
   clear hHeld
   clear hS hS3
   go_wp2
   go_roundw
   case rel => exact ⟨j + 1, fm3, by omega, by go_num, HA3.out, HM3.out⟩
   case measure => simp [intOf]; omega
 have ej : j = ms.length := by omega
 subst ej
 have HMV := hidden hMv
 clear hMv
 go_wp2_with fail
 refine (l7Sync_any _ B y ns ds fm1 fd HA.out hfj hMj).mono ?_
 rintro e w3 ⟨rfl, fm3, hA3, hMv3⟩
 clear k0 k1 k2 k3 k4 k5 k6 k7 k8 k9 k10 k11 k12
 go_wp2
 refine bodyPost_end (v := .tuple #[]) (results_none rfl _ _ _) rfl ?_
 exact ⟨rfl, fm3, by rw [HMK.out, HST.out, ← hlj]; exact hA3, HMV.out.trans hMv3⟩

def failM (d : MemD) : MemD := (d.1, [], true, d.2.2.2)
def failX (x : ArrN) (m : Int) : ArrN := if x.lost = -1 ∨ x.lost = m then {x with lost := m, built := 0} else {x with broken := true}
def failA (q : ArrN × List MemD) (m : Nat) : ArrN × List MemD := if (!(failX q.1 (m : Int)).down && !(failX q.1 (m : Int)).broken && decide ((failX q.1 (m : Int)).gen < 60000)) = true then markS (failX q.1 (m : Int), q.2.set m (failM (q.2.getD m memZ))) else (failX q.1 (m : Int), q.2.set m (failM (q.2.getD m memZ)))
theorem failM_ok (d : MemD) (h : memB d.1 d.2.1 d.2.2.2 = true) : memB (failM d).1 (failM d).2.1 (failM d).2.2.2 = true := by
 unfold failM
 dsimp only
 unfold memB at h ⊢
 simp only [Bool.and_eq_true] at h ⊢
 simp_all
theorem arr_numbers {w : World} {B : Nat} {x : ArrN} {ms : List MemD} {ds : List (Int × List Int)} {fm fd : List Nat} (h : ArrAt w B x ms ds fm fd) (m : Int) : ArrAt ((w.setCell ⟨B, 4, none⟩ (.int .i64 m)).setCell ⟨B, 5, none⟩ (.int .i64 0)) B {x with lost := m, built := 0} ms ds fm fd /\ ArrAt (w.setCell ⟨B, 12, none⟩ (.bool true)) B {x with broken := true} ms ds fm fd := by
 obtain ⟨bm, bd, cm, cd, X, hm, hd, hr, r1, r2⟩ := h
 exact ⟨⟨bm, bd, cm, cd, (X.set 4 _).set 5 _, (hm.setCell r1 _).setCell r1 _, (hd.setCell r2 _).setCell r2 _, hr, r1, r2⟩, ⟨bm, bd, cm, cd, X.set 12 _, hm.setCell r1 _, hd.setCell r2 _, hr, r1, r2⟩⟩
theorem arr_cells {w : World} {B : Nat} {x : ArrN} {ms : List MemD} {ds : List (Int × List Int)} {fm fd : List Nat} (h : ArrAt w B x ms ds fm fd) : w.cell? ⟨B, 4, none⟩ = some (.int .i64 x.lost) /\ w.cell? ⟨B, 5, none⟩ = some (.int .i64 x.built) /\ w.cell? ⟨B, 8, none⟩ = some (.int .i64 x.gen) /\ w.cell? ⟨B, 11, none⟩ = some (.bool x.down) /\ w.cell? ⟨B, 12, none⟩ = some (.bool x.broken) /\ ∀ j, w.frozen? ⟨B, j, none⟩ = false := by
 obtain ⟨bm, bd, cm, cd, X, _⟩ := h
 have fz := X.frozen
 unfold arrC at X
 obtain ⟨k0, k1, k2, k3, k4, k5, k6, k7, k8, k9, k10, k11, k12⟩ := X.cells13
 exact ⟨k4, k5, k8, k11, k12, fz⟩

theorem l11Fail_any (w : World) (B : Nat) (x : ArrN) (ms : List MemD) (ds : List (Int × List Int)) (fm fd : List Nat) (h : ArrAt w B x ms ds fm fd) (hf : x.fuse <= 1000) (hM : MsOk ms) (hg0 : 0 <= x.gen) (hg1 : x.gen <= 60000) (m : Nat) (hm : m < ms.length) :
 Calls Tryz.prog 28 #[.pointer (some ⟨B, 0, none⟩), .int .i64 (m : Int)] w fun e w' => e = .returned (.tuple #[]) /\ ∃ fm', ArrAt w' B (failA (x, ms) m).1 (failA (x, ms) m).2 ds fm' fd /\ Moved B fm w fm' w' := by
 obtain ⟨bm, bd, cm, cd, X, hmm, hdd, hr, r1, r2⟩ := h
 have hm63 := (row_length hmm.rd).2
 obtain ⟨g, rfl⟩ := row_head hmm (by omega)
 have hdj : ms[m]? = some (ms[m]'hm) := List.getElem?_eq_getElem hm
 generalize ms[m]'hm = d at hdj
 have hgm : ms.getD m memZ = d := getD_at hdj
 obtain ⟨hgl, a0, a1, a3, c0, c1, c3, ss, cs, f, bs, rfl, q0, q1, q2, q3, p0, p1, p3⟩ := disk_at hmm hdj
 have X0 := X
 unfold arrC at X0
 have k3 := X0.cells13.2.2.2.1
 have hwt := memB_light (hM m _ hdj) f
 dsimp only at hwt
 have zB := X.lt
 have HOK := hidden (hM.set (i := m) (failM_ok _ (hM m _ hdj)))
 have HFA : Hid (failA (x, ms) m = if (!(failX x (m : Int)).down && !(failX x (m : Int)).broken && decide ((failX x (m : Int)).gen < 60000)) = true then markS (failX x (m : Int), ms.set m (failM (ss, cs, f, bs))) else (failX x (m : Int), ms.set m (failM (ss, cs, f, bs)))) := by unfold Hid failA; dsimp only; rw [hgm]
 have XH := hidden X
 have MH := hidden hmm
 have DH := hidden hdd
 have R0 := hidden p0
 have R1 := hidden p1
 have R3 := hidden p3
 have hS : w.drew.cell? ⟨B, 3, none⟩ = some (.slice (some ⟨g, 0, none⟩) ms.length cm) /\ w.drew.cell? ⟨g, m * 4, none⟩ = some (.slice a0 ss.length c0) /\ w.drew.cell? ⟨g, m * 4 + 1, none⟩ = some (.slice a1 cs.length c1) /\ w.drew.cell? ⟨g, m * 4 + 2, none⟩ = some (.bool f) /\ w.drew.cell? ⟨g, m * 4 + 3, none⟩ = some (.slice a3 bs.length c3) := ⟨k3, q0, q1, q2, q3⟩
 have i1 : (0 : Int) <= (m : Int) := by omega
 have i3 : (m : Int) < (ms.length : Int) := by omega
 clear X X0 hmm hdd p0 p1 p3 hM hdj hgm
 go_enter Tryz.func28, Tryz.ntmps28
 go_wp2_with fail
 refine Upto.start (S := fun w' => w'.cell? ⟨B, 3, none⟩ = some (.slice (some ⟨g, 0, none⟩) ms.length cm) /\ w'.cell? ⟨g, m * 4, none⟩ = some (.slice a0 ss.length c0) /\ w'.cell? ⟨g, m * 4 + 1, none⟩ = some (.slice a1 cs.length c1) /\ w'.cell? ⟨g, m * 4 + 2, none⟩ = some (.bool f) /\ w'.cell? ⟨g, m * 4 + 3, none⟩ = some (.slice a3 bs.length c3)) (k := 14) (by kernel_rfl) ?_
 refine Upto.t 0 hS ?_
 refine Upto.t 1 hS ?_
 refine Upto.t 2 hS ?_
 refine Upto.t 3 hS ?_
 refine Upto.t 4 hS ?_
 refine Upto.t 5 hS ?_
 refine Upto.t 6 hS ?_
 refine Upto.t 7 hS ?_
 refine Upto.t 8 hS ?_
 refine Upto.t 9 hS ?_
 refine Upto.t 10 hS ?_
 refine Upto.t 11 hS ?_
 refine Upto.one (i := 12) (by kernel_rfl) rfl (fun K hK => ?_)
 go_simp
 refine (specFailMem_any _ 109 _ _ _ _ _ _ _ _ _ ss cs f bs R0.out.drew R1.out.drew R3.out.drew (by omega)).mono ?_
 rintro e w2 ⟨u0, u1, u3, rfl, o2, b2'⟩
 have b2 : Below w.heap.size w w2 := (Below.refl w.heap.size w).drew.trans b2'
 have o2b : (tMem 109).Own w2 w.heap.size w2.heap.size [u0, u1, .bool true, u3] (ss, [], true, bs) := o2
 obtain ⟨d0, l0, f0, d1, l1, f1, d3, l3, f3, hv0, hv1, hv3⟩ := mem_slices o2b
 subst hv0 hv1 hv3
 obtain ⟨fpx, mx, rx⟩ := o2b.mine
 obtain ⟨cOld, fz, hgm, fm9, hA9, hMv9⟩ := arr_store (m := m) XH.out MH.out DH.out hr r1 r2 b2 (by omega) mx (fun b hb => (rx b hb).1)
 obtain ⟨o0, t0⟩ := cOld 0 (by omega)
 obtain ⟨o1, t1⟩ := cOld 1 (by omega)
 obtain ⟨o2', t2⟩ := cOld 2 (by omega)
 obtain ⟨o3, t3⟩ := cOld 3 (by omega)
 rw [Nat.add_zero] at t0
 have HA : Hid (ArrAt _ B x (ms.set m (failM (ss, cs, f, bs))) ds fm9 fd) := hA9
 have HMV := hidden hMv9
 have hS2 : w2.cell? ⟨B, 3, none⟩ = some (.slice (some ⟨g, 0, none⟩) ms.length cm) /\ w2.cell? ⟨g, m * 4, none⟩ = some (.slice a0 ss.length c0) /\ w2.cell? ⟨g, m * 4 + 1, none⟩ = some (.slice a1 cs.length c1) /\ w2.cell? ⟨g, m * 4 + 2, none⟩ = some (.bool f) /\ w2.cell? ⟨g, m * 4 + 3, none⟩ = some (.slice a3 bs.length c3) := ⟨(b2.cell (p := ⟨B, 3, none⟩) zB).trans k3, (b2.cell (p := ⟨g, m * 4, none⟩) hgl).trans q0, (b2.cell (p := ⟨g, m * 4 + 1, none⟩) hgl).trans q1, (b2.cell (p := ⟨g, m * 4 + 2, none⟩) hgl).trans q2, (b2.cell (p := ⟨g, m * 4 + 3, none⟩) hgl).trans q3⟩
 have gB : ¬ g = B := fun e => r1 (e ▸ hgm)
 unfold put4 at HA HMV
 clear k3 q0 q1 q2 q3 o2 o2b b2 b2' mx rx cOld hA9 hMv9 XH MH DH R0 R1 R3 hwt
 go_wp2_with fail
 refine hK.out _ _ (fun _ => hS2) ?_
 clear hK K
 refine Upto.t 13 hS2 ?_
 refine Upto.one (i := 14) (by kernel_rfl) rfl (fun K hK => ?_)
 go_simp
 refine hK.out _ _ (fun h => absurd rfl h) ?_
 clear hK K
 refine Upto.done (by kernel_rfl) ?_ _
 clear hS hS2 t0 t1 t2 t3 fz
 generalize (((w2.setCell ⟨g, m * 4, none⟩ (.slice d0 l0 f0)).setCell ⟨g, m * 4 + 1, none⟩ (.slice d1 l1 f1)).setCell ⟨g, m * 4 + 2, none⟩ (.bool true)).setCell ⟨g, m * 4 + 3, none⟩ (.slice d3 l3 f3) = w3 at HA HMV ⊢
 obtain ⟨c4, c5, c8, c11, c12, fz⟩ := arr_cells HA.out
 generalize ms.set m (failM (ss, cs, f, bs)) = ns at HA HFA HOK
 by_cases l1 : x.lost = -1
 . have hlo : x.lost = -1 ∨ x.lost = (m : Int) := .inl l1
   have e1 : (x.lost == -1) = true := by simpa using l1
   clear l1
   have HFX : Hid (failX x (m : Int) = ({x with lost := (m : Int), built := 0} : ArrN)) := by unfold Hid failX; rw [if_pos hlo]
   clear hlo
   have HA4 := hidden (arr_numbers HA.out (m : Int)).1
   have MV4 := hidden ((HMV.out.trans (Moved.set (B := B) (j := 4) (fm := fm9) (w := w3) (.int .i64 (m : Int)))).trans (Moved.set (B := B) (j := 5) (.int .i64 0)))
   cases hdn : x.down
   . cases hbr : x.broken
     . by_cases hgg : x.gen < 60000
       . have HV : Hid (failA (x, ms) m = markS (({x with lost := (m : Int), built := 0} : ArrN), ns)) := by unfold Hid; rw [HFA.out, HFX.out, if_pos (by simp [hdn, hbr, hgg])]
         rw [hdn] at c11
         rw [hbr] at c12
         clear hdn hbr
         have HMK := hidden (l7Mark_any _ B ({x with lost := (m : Int), built := 0} : ArrN) ns ds fm9 fd HA4.out hf HOK.out hg0 hg1)
         go_wp2_with fail
         refine HMK.out.mono ?_
         rintro e w5 ⟨rfl, fm5, A5, M5⟩
         have HA5 := hidden A5
         have MV5 := hidden (MV4.out.trans M5)
         clear A5 M5 HMK HA4 MV4
         go_wp2
         refine bodyPost_end (v := .tuple #[]) (results_none rfl _ _ _) rfl ?_
         refine ⟨rfl, fm5, ?_, MV5.out⟩
         rw [HV.out]
         exact HA5.out
       have HV : Hid (failA (x, ms) m = (({x with lost := (m : Int), built := 0} : ArrN), ns)) := by unfold Hid; rw [HFA.out, HFX.out, if_neg (by simp [hgg])]
       rw [hdn] at c11
       rw [hbr] at c12
       clear hdn hbr
       go_wp2
       refine bodyPost_end (v := .tuple #[]) (results_none rfl _ _ _) rfl ?_
       refine ⟨rfl, fm9, ?_, MV4.out⟩
       rw [HV.out]
       exact HA4.out
     have HV : Hid (failA (x, ms) m = (({x with lost := (m : Int), built := 0} : ArrN), ns)) := by unfold Hid; rw [HFA.out, HFX.out, if_neg (by simp [hbr])]
     rw [hdn] at c11
     rw [hbr] at c12
     clear hdn hbr
     go_wp2
     refine bodyPost_end (v := .tuple #[]) (results_none rfl _ _ _) rfl ?_
     refine ⟨rfl, fm9, ?_, MV4.out⟩
     rw [HV.out]
     exact HA4.out
   have HV : Hid (failA (x, ms) m = (({x with lost := (m : Int), built := 0} : ArrN), ns)) := by unfold Hid; rw [HFA.out, HFX.out, if_neg (by simp [hdn])]
   rw [hdn] at c11
   clear hdn
   go_wp2
   refine bodyPost_end (v := .tuple #[]) (results_none rfl _ _ _) rfl ?_
   refine ⟨rfl, fm9, ?_, MV4.out⟩
   rw [HV.out]
   exact HA4.out
 have e1 : (x.lost == -1) = false := by simpa using l1
 by_cases l2 : x.lost = (m : Int)
 . have hlo : x.lost = -1 ∨ x.lost = (m : Int) := .inr l2
   have e2 : (x.lost == (m : Int)) = true := by simpa using l2
   clear l1 l2
   have HFX : Hid (failX x (m : Int) = ({x with lost := (m : Int), built := 0} : ArrN)) := by unfold Hid failX; rw [if_pos hlo]
   clear hlo
   have HA4 := hidden (arr_numbers HA.out (m : Int)).1
   have MV4 := hidden ((HMV.out.trans (Moved.set (B := B) (j := 4) (fm := fm9) (w := w3) (.int .i64 (m : Int)))).trans (Moved.set (B := B) (j := 5) (.int .i64 0)))
   cases hdn : x.down
   . cases hbr : x.broken
     . by_cases hgg : x.gen < 60000
       . have HV : Hid (failA (x, ms) m = markS (({x with lost := (m : Int), built := 0} : ArrN), ns)) := by unfold Hid; rw [HFA.out, HFX.out, if_pos (by simp [hdn, hbr, hgg])]
         rw [hdn] at c11
         rw [hbr] at c12
         clear hdn hbr
         have HMK := hidden (l7Mark_any _ B ({x with lost := (m : Int), built := 0} : ArrN) ns ds fm9 fd HA4.out hf HOK.out hg0 hg1)
         go_wp2_with fail
         refine HMK.out.mono ?_
         rintro e w5 ⟨rfl, fm5, A5, M5⟩
         have HA5 := hidden A5
         have MV5 := hidden (MV4.out.trans M5)
         clear A5 M5 HMK HA4 MV4
         go_wp2
         refine bodyPost_end (v := .tuple #[]) (results_none rfl _ _ _) rfl ?_
         refine ⟨rfl, fm5, ?_, MV5.out⟩
         rw [HV.out]
         exact HA5.out
       have HV : Hid (failA (x, ms) m = (({x with lost := (m : Int), built := 0} : ArrN), ns)) := by unfold Hid; rw [HFA.out, HFX.out, if_neg (by simp [hgg])]
       rw [hdn] at c11
       rw [hbr] at c12
       clear hdn hbr
       go_wp2
       refine bodyPost_end (v := .tuple #[]) (results_none rfl _ _ _) rfl ?_
       refine ⟨rfl, fm9, ?_, MV4.out⟩
       rw [HV.out]
       exact HA4.out
     have HV : Hid (failA (x, ms) m = (({x with lost := (m : Int), built := 0} : ArrN), ns)) := by unfold Hid; rw [HFA.out, HFX.out, if_neg (by simp [hbr])]
     rw [hdn] at c11
     rw [hbr] at c12
     clear hdn hbr
     go_wp2
     refine bodyPost_end (v := .tuple #[]) (results_none rfl _ _ _) rfl ?_
     refine ⟨rfl, fm9, ?_, MV4.out⟩
     rw [HV.out]
     exact HA4.out
   have HV : Hid (failA (x, ms) m = (({x with lost := (m : Int), built := 0} : ArrN), ns)) := by unfold Hid; rw [HFA.out, HFX.out, if_neg (by simp [hdn])]
   rw [hdn] at c11
   clear hdn
   go_wp2
   refine bodyPost_end (v := .tuple #[]) (results_none rfl _ _ _) rfl ?_
   refine ⟨rfl, fm9, ?_, MV4.out⟩
   rw [HV.out]
   exact HA4.out
 have e2 : (x.lost == (m : Int)) = false := by simpa using l2
 have HFX : Hid (failX x (m : Int) = ({x with broken := true} : ArrN)) := by unfold Hid failX; rw [if_neg (fun h => h.elim l1 l2)]
 clear l1 l2
 have HA4 := hidden (arr_numbers HA.out (m : Int)).2
 have MV4 := hidden (HMV.out.trans (Moved.set (B := B) (j := 12) (fm := fm9) (w := w3) (.bool true)))
 have HV : Hid (failA (x, ms) m = (({x with broken := true} : ArrN), ns)) := by unfold Hid; rw [HFA.out, HFX.out, if_neg (by simp)]
 cases hdn : x.down
 . rw [hdn] at c11
   clear hdn
   go_wp2
   refine bodyPost_end (v := .tuple #[]) (results_none rfl _ _ _) rfl ?_
   refine ⟨rfl, fm9, ?_, MV4.out⟩
   rw [HV.out]
   exact HA4.out
 rw [hdn] at c11
 clear hdn
 go_wp2
 refine bodyPost_end (v := .tuple #[]) (results_none rfl _ _ _) rfl ?_
 refine ⟨rfl, fm9, ?_, MV4.out⟩
 rw [HV.out]
 exact HA4.out

def loseX (x : ArrN) (m : Int) : ArrN := if x.lost = -1 ∨ x.lost = m then {x with lost := m, built := 0} else {x with broken := true}

theorem sumL_put (l : List Nat) (k y : Nat) (h : k < l.length) : sumL (l.set k y) + l[k] = sumL l + y := by
 induction l generalizing k with
 | nil => simp at h
 | cons a t ih =>
  cases k with
  | zero => simp only [List.set_cons_zero, sumL, List.foldr_cons, List.getElem_cons_zero]; omega
  | succ k => have := ih k (by simpa using h); simp only [List.set_cons_succ, sumL, List.foldr_cons, List.getElem_cons_succ] at this ⊢; omega
theorem row_mem11 {t : Ty} {E : TypeId} {w : World} {g n cap : Nat} {d : List t.D} {fp : List Nat} (h : (rowTy t E).Mine w [.slice (some ⟨g, 0, none⟩) n cap] d fp) : g ∈ fp := by
 obtain ⟨h, _⟩ := h
 rcases h with ⟨h1, _⟩ | ⟨b, cap', cur, fps, h1, _, _, _, _, hf, _⟩
 . simp at h1
 simp at h1
 rw [hf, h1.1]
 simp

theorem fail_light {ms : List MemD} {ds : List (Int × List Int)} {j : Nat} {d : MemD} (hd : ms[j]? = some d) (hw : wtArr ms ds <= 2097152) : wtArr (ms.set j (failM d)) ds <= 2097152 := by
 obtain ⟨hj, rfl⟩ := List.getElem?_eq_some_iff.1 hd
 have e1 := sumL_put (ms.map wtMem) j (wtMem (failM ms[j])) (by simpa using hj)
 rw [List.getElem_map] at e1
 have e3 : wtMem (failM ms[j]) <= wtMem ms[j] := by unfold wtMem failM wtWrS sumL; simp only [List.length_nil, List.map_nil, List.foldr_nil]; omega
 unfold wtArr wtMemS at hw ⊢
 rw [List.map_set, List.length_set]
 omega
def failB (x : ArrN) (ms : List MemD) (ds : List (Int × List Int)) (m : Int) : Bool := arrB x ms ds && (inB m 0 ((ms.length : Int) - 1) && !(ms.getD m.toNat memZ).2.2.1)
def failO (x : ArrN) (ms : List MemD) (ds : List (Int × List Int)) (m : Int) : ArrN × List MemD := if failB x ms ds m = true then failA (x, ms) m.toNat else (x, ms)
theorem fail_no {x : ArrN} {ms : List MemD} {ds : List (Int × List Int)} {m : Int} (h : failB x ms ds m = false) : failO x ms ds m = (x, ms) := by unfold failO; rw [if_neg (by simp [h])]
theorem fail_of {x : ArrN} {ms : List MemD} {ds : List (Int × List Int)} {j : Nat} (h : failB x ms ds (j : Int) = true) : failO x ms ds (j : Int) = failA (x, ms) j := by
 unfold failO
 rw [if_pos h, Int.toNat_natCast]
theorem fail_arr {x : ArrN} {ms : List MemD} {ds : List (Int × List Int)} {m : Nat} (ha : arrB x ms ds = true) (hm : m < ms.length) (hb : (failX x (m : Int)).broken = false) : arrB (failX x (m : Int)) (ms.set m (failM (ms.getD m memZ))) ds = true := by
 obtain ⟨p1, p2, p3, p4, p5, p6⟩ := arr_split.1 ha
 have g1 := geoB_iff.1 p1
 have hl : x.lost = -1 ∨ x.lost = (m : Int) := by
  by_cases h : x.lost = -1 ∨ x.lost = (m : Int)
  . exact h
  unfold failX at hb
  rw [if_neg h] at hb
  cases hb
 have hx : failX x (m : Int) = {x with lost := (m : Int), built := 0} := by unfold failX; rw [if_pos hl]
 have hbr : x.broken = false := by rw [hx] at hb; exact hb
 have h3 := mems_iff.1 p3
 have hmd := List.getElem?_eq_getElem hm
 have hg : ms.getD m memZ = ms[m] := getD_at hmd
 obtain ⟨a1, a2, _⟩ := h3.1 m _ hmd
 have hn := h3.2
 rw [hx, hg]
 refine arr_split.2 ⟨p1, p2, ?_, p4, ?_, p6⟩
 . refine mems_set p3 rfl rfl (failM_ok _ a1) a2 (fun _ => .inl rfl) (fun i e hne he hf => ?_)
   rcases (h3.1 i e he).2.2 hf with h | h
   . rcases hl with h' | h' <;> omega
   rw [hbr] at h; cases h
 unfold lostB6
 simp only [Bool.and_eq_true, inB_iff, Bool.or_eq_true, Bool.not_eq_true', decide_eq_true_eq, decide_eq_false_iff_not]
 refine ⟨⟨by omega, by omega⟩, ⟨by omega, by omega⟩, .inr trivial⟩
theorem lose_fail (x : ArrN) (m : Int) : loseX x m = failX x m := rfl
theorem fail_mark {x : ArrN} {ms : List MemD} {ds : List (Int × List Int)} {m : Nat} (ha : arrB x ms ds = true) (hm : m < ms.length) (hb : (failX x (m : Int)).broken = false) : markO (failX x (m : Int)) (ms.set m (failM (ms.getD m memZ))) ds = failA (x, ms) m := by
 unfold markO failA
 rw [fail_arr ha hm hb]
 dsimp only
 rw [hb]
 simp
theorem fail_broken {x : ArrN} {ms : List MemD} {m : Nat} (hb : (failX x (m : Int)).broken = true) : failA (x, ms) m = (failX x (m : Int), ms.set m (failM (ms.getD m memZ))) := by
 unfold failA
 rw [if_neg (by dsimp only; rw [hb]; simp)]
theorem failO_wt {x : ArrN} {ms : List MemD} {ds : List (Int × List Int)} {m : Int} (hw : wtArr ms ds <= 1048576) : wtArr (failO x ms ds m).2 ds <= 2097152 := by
 cases h : failB x ms ds m
 . rw [fail_no h]; dsimp only; omega
 have h0 := h
 unfold failB at h0
 simp only [Bool.and_eq_true, inB_iff] at h0
 obtain ⟨ha, ⟨h2, h3⟩, _⟩ := h0
 obtain ⟨j, rfl⟩ := Int.eq_ofNat_of_zero_le h2
 have hj : j < ms.length := by omega
 rw [fail_of h]
 obtain ⟨fc, mk, _⟩ := arr_facts ha
 have hmd := List.getElem?_eq_getElem hj
 have hg : ms.getD j memZ = ms[j] := getD_at hmd
 have mk2 : MsOk (ms.set j (failM (ms.getD j memZ))) := by rw [hg]; exact mk.set (failM_ok _ (mk j _ hmd))
 have hfu : (failX x (j : Int)).fuse = x.fuse := by unfold failX; split <;> rfl
 unfold failA
 split
 . obtain ⟨a, c⟩ := markS_keeps (q := (failX x (j : Int), ms.set j (failM (ms.getD j memZ)))) mk2 (by rw [hfu]; exact fc)
   exact out_light ha a (by rw [c]; simp) hw
 exact out_light (q := (failX x (j : Int), ms.set j (failM (ms.getD j memZ)))) ha mk2 (by simp) hw

theorem l6Copy_any (w : World) (E F G : TypeId) (x : ArrN) (am ad : Option Addr) (nm cm nd cd : Nat) (ms : List MemD) (ds : List (Int × List Int)) (h0 : (tMemS E F).Rd w [.slice am nm cm] ms) (h1 : (tWrS G).Rd w [.slice ad nd cd] ds) (hw : wtArr ms ds <= 2097152) :
 Calls Tryz.prog 25 #[.agg #[.int .i64 x.id, .int .i64 x.n, .int .i64 x.s, .slice am nm cm, .int .i64 x.lost, .int .i64 x.built, .int .i64 x.seq, .int .i64 x.tail, .int .i64 x.gen, .slice ad nd cd, .int .i64 x.fuse, .bool x.down, .bool x.broken]] w fun e w' => ∃ bm cm' bd cd' m, e = .returned (.agg #[.int .i64 x.id, .int .i64 x.n, .int .i64 x.s, .slice bm nm cm', .int .i64 x.lost, .int .i64 x.built, .int .i64 x.seq, .int .i64 x.tail, .int .i64 x.gen, .slice bd nd cd', .int .i64 x.fuse, .bool x.down, .bool x.broken]) /\ (tMemS 109 51).Own w' w.heap.size m [.slice bm nm cm'] ms /\ (tWrS 82).Own w' m w'.heap.size [.slice bd nd cd'] ds /\ w.heap.size <= m /\ m <= w'.heap.size /\ Below w.heap.size w w' := by
 have hwm : wtMemS ms <= 2097152 := by unfold wtArr at hw; omega
 have hwd : wtWrS ds <= 2097152 := by unfold wtArr at hw; omega
 obtain ⟨hl0, _, hm0⟩ := row_length h0
 obtain ⟨hl1, _, hm1⟩ := row_length h1
 have hn0 : nm <= 2097152 := by unfold wtMemS at hwm; omega
 have hn1 : nd <= 2097152 := by unfold wtWrS at hwd; omega
 obtain ⟨i3, hi3, hx0, hx1, hx2⟩ := info_parts Tryz.info3
 obtain ⟨i1, hi1, hy0, hy1, hy2⟩ := info_parts Tryz.infoEnt
 obtain ⟨i4, hi4, hz0, hz1, hz2⟩ := info_parts Tryz.infoMem
 have zz : ∀ u : World, ∀ ob : Obj, (u.alloc ob).heap.size = u.heap.size + 1 := fun u ob => by simp
 have xm : Box ((((w.alloc (.cells #[.int .i64 x.id, .int .i64 x.n, .int .i64 x.s, .slice am nm cm, .int .i64 x.lost, .int .i64 x.built, .int .i64 x.seq, .int .i64 x.tail, .int .i64 x.gen, .slice ad nd cd, .int .i64 x.fuse, .bool x.down, .bool x.broken] 33)).alloc (.cells #[.int .i64 0, .int .i64 0, .int .i64 0, .slice none 0 0, .int .i64 0, .int .i64 0, .int .i64 0, .int .i64 0, .int .i64 0, .slice none 0 0, .int .i64 0, .bool false, .bool false] 33)).alloc (.cells #[.int .i64 x.id, .int .i64 x.n, .int .i64 x.s, .slice (some ⟨w.heap.size + 1 + 1 + 1, 0, none⟩) 0 0, .int .i64 x.lost, .int .i64 x.built, .int .i64 x.seq, .int .i64 x.tail, .int .i64 x.gen, .slice ad nd cd, .int .i64 x.fuse, .bool x.down, .bool x.broken] 33)).alloc (.cells #[] 51)) (w.heap.size) 33 #[.int .i64 x.id, .int .i64 x.n, .int .i64 x.s, .slice am nm cm, .int .i64 x.lost, .int .i64 x.built, .int .i64 x.seq, .int .i64 x.tail, .int .i64 x.gen, .slice ad nd cd, .int .i64 x.fuse, .bool x.down, .bool x.broken] := (((Box.new w _ _).alloc _).alloc _).alloc _
 have xr0 := Box.new (w.alloc (.cells #[.int .i64 x.id, .int .i64 x.n, .int .i64 x.s, .slice am nm cm, .int .i64 x.lost, .int .i64 x.built, .int .i64 x.seq, .int .i64 x.tail, .int .i64 x.gen, .slice ad nd cd, .int .i64 x.fuse, .bool x.down, .bool x.broken] 33)) 33 #[.int .i64 0, .int .i64 0, .int .i64 0, .slice none 0 0, .int .i64 0, .int .i64 0, .int .i64 0, .int .i64 0, .int .i64 0, .slice none 0 0, .int .i64 0, .bool false, .bool false]
 rw [zz] at xr0
 have xr : Box ((((w.alloc (.cells #[.int .i64 x.id, .int .i64 x.n, .int .i64 x.s, .slice am nm cm, .int .i64 x.lost, .int .i64 x.built, .int .i64 x.seq, .int .i64 x.tail, .int .i64 x.gen, .slice ad nd cd, .int .i64 x.fuse, .bool x.down, .bool x.broken] 33)).alloc (.cells #[.int .i64 0, .int .i64 0, .int .i64 0, .slice none 0 0, .int .i64 0, .int .i64 0, .int .i64 0, .int .i64 0, .int .i64 0, .slice none 0 0, .int .i64 0, .bool false, .bool false] 33)).alloc (.cells #[.int .i64 x.id, .int .i64 x.n, .int .i64 x.s, .slice (some ⟨w.heap.size + 1 + 1 + 1, 0, none⟩) 0 0, .int .i64 x.lost, .int .i64 x.built, .int .i64 x.seq, .int .i64 x.tail, .int .i64 x.gen, .slice ad nd cd, .int .i64 x.fuse, .bool x.down, .bool x.broken] 33)).alloc (.cells #[] 51)) (w.heap.size + 1) 33 #[.int .i64 0, .int .i64 0, .int .i64 0, .slice none 0 0, .int .i64 0, .int .i64 0, .int .i64 0, .int .i64 0, .int .i64 0, .slice none 0 0, .int .i64 0, .bool false, .bool false] := (xr0.alloc _).alloc _
 have xo0 := Box.new ((w.alloc (.cells #[.int .i64 x.id, .int .i64 x.n, .int .i64 x.s, .slice am nm cm, .int .i64 x.lost, .int .i64 x.built, .int .i64 x.seq, .int .i64 x.tail, .int .i64 x.gen, .slice ad nd cd, .int .i64 x.fuse, .bool x.down, .bool x.broken] 33)).alloc (.cells #[.int .i64 0, .int .i64 0, .int .i64 0, .slice none 0 0, .int .i64 0, .int .i64 0, .int .i64 0, .int .i64 0, .int .i64 0, .slice none 0 0, .int .i64 0, .bool false, .bool false] 33)) 33 #[.int .i64 x.id, .int .i64 x.n, .int .i64 x.s, .slice (some ⟨w.heap.size + 1 + 1 + 1, 0, none⟩) 0 0, .int .i64 x.lost, .int .i64 x.built, .int .i64 x.seq, .int .i64 x.tail, .int .i64 x.gen, .slice ad nd cd, .int .i64 x.fuse, .bool x.down, .bool x.broken]
 rw [zz, zz] at xo0
 have xo : Box ((((w.alloc (.cells #[.int .i64 x.id, .int .i64 x.n, .int .i64 x.s, .slice am nm cm, .int .i64 x.lost, .int .i64 x.built, .int .i64 x.seq, .int .i64 x.tail, .int .i64 x.gen, .slice ad nd cd, .int .i64 x.fuse, .bool x.down, .bool x.broken] 33)).alloc (.cells #[.int .i64 0, .int .i64 0, .int .i64 0, .slice none 0 0, .int .i64 0, .int .i64 0, .int .i64 0, .int .i64 0, .int .i64 0, .slice none 0 0, .int .i64 0, .bool false, .bool false] 33)).alloc (.cells #[.int .i64 x.id, .int .i64 x.n, .int .i64 x.s, .slice (some ⟨w.heap.size + 1 + 1 + 1, 0, none⟩) 0 0, .int .i64 x.lost, .int .i64 x.built, .int .i64 x.seq, .int .i64 x.tail, .int .i64 x.gen, .slice ad nd cd, .int .i64 x.fuse, .bool x.down, .bool x.broken] 33)).alloc (.cells #[] 51)) (w.heap.size + 1 + 1) 33 #[.int .i64 x.id, .int .i64 x.n, .int .i64 x.s, .slice (some ⟨w.heap.size + 1 + 1 + 1, 0, none⟩) 0 0, .int .i64 x.lost, .int .i64 x.built, .int .i64 x.seq, .int .i64 x.tail, .int .i64 x.gen, .slice ad nd cd, .int .i64 x.fuse, .bool x.down, .bool x.broken] := xo0.alloc _
 have ml := lit0_mine (t := tMem 109) (E := 51) (((w.alloc (.cells #[.int .i64 x.id, .int .i64 x.n, .int .i64 x.s, .slice am nm cm, .int .i64 x.lost, .int .i64 x.built, .int .i64 x.seq, .int .i64 x.tail, .int .i64 x.gen, .slice ad nd cd, .int .i64 x.fuse, .bool x.down, .bool x.broken] 33)).alloc (.cells #[.int .i64 0, .int .i64 0, .int .i64 0, .slice none 0 0, .int .i64 0, .int .i64 0, .int .i64 0, .int .i64 0, .int .i64 0, .slice none 0 0, .int .i64 0, .bool false, .bool false] 33)).alloc (.cells #[.int .i64 x.id, .int .i64 x.n, .int .i64 x.s, .slice (some ⟨w.heap.size + 1 + 1 + 1, 0, none⟩) 0 0, .int .i64 x.lost, .int .i64 x.built, .int .i64 x.seq, .int .i64 x.tail, .int .i64 x.gen, .slice ad nd cd, .int .i64 x.fuse, .bool x.down, .bool x.broken] 33))
 rw [zz, zz, zz] at ml
 have hB : Below (w.heap.size) w ((((w.alloc (.cells #[.int .i64 x.id, .int .i64 x.n, .int .i64 x.s, .slice am nm cm, .int .i64 x.lost, .int .i64 x.built, .int .i64 x.seq, .int .i64 x.tail, .int .i64 x.gen, .slice ad nd cd, .int .i64 x.fuse, .bool x.down, .bool x.broken] 33)).alloc (.cells #[.int .i64 0, .int .i64 0, .int .i64 0, .slice none 0 0, .int .i64 0, .int .i64 0, .int .i64 0, .int .i64 0, .int .i64 0, .slice none 0 0, .int .i64 0, .bool false, .bool false] 33)).alloc (.cells #[.int .i64 x.id, .int .i64 x.n, .int .i64 x.s, .slice (some ⟨w.heap.size + 1 + 1 + 1, 0, none⟩) 0 0, .int .i64 x.lost, .int .i64 x.built, .int .i64 x.seq, .int .i64 x.tail, .int .i64 x.gen, .slice ad nd cd, .int .i64 x.fuse, .bool x.down, .bool x.broken] 33)).alloc (.cells #[] 51)) := ((((Below.refl _ _).alloc (Nat.le_refl _) _).alloc (by simp) _).alloc (by simp; omega) _).alloc (by simp; omega) _
 have hz : w.heap.size + 1 + 1 + 1 < ((((w.alloc (.cells #[.int .i64 x.id, .int .i64 x.n, .int .i64 x.s, .slice am nm cm, .int .i64 x.lost, .int .i64 x.built, .int .i64 x.seq, .int .i64 x.tail, .int .i64 x.gen, .slice ad nd cd, .int .i64 x.fuse, .bool x.down, .bool x.broken] 33)).alloc (.cells #[.int .i64 0, .int .i64 0, .int .i64 0, .slice none 0 0, .int .i64 0, .int .i64 0, .int .i64 0, .int .i64 0, .int .i64 0, .slice none 0 0, .int .i64 0, .bool false, .bool false] 33)).alloc (.cells #[.int .i64 x.id, .int .i64 x.n, .int .i64 x.s, .slice (some ⟨w.heap.size + 1 + 1 + 1, 0, none⟩) 0 0, .int .i64 x.lost, .int .i64 x.built, .int .i64 x.seq, .int .i64 x.tail, .int .i64 x.gen, .slice ad nd cd, .int .i64 x.fuse, .bool x.down, .bool x.broken] 33)).alloc (.cells #[] 51)).heap.size := by simp
 clear xr0 xo0 zz
 go_enter Tryz.func25, Tryz.ntmps25
 go_wp2
 generalize (((w.alloc (.cells #[.int .i64 x.id, .int .i64 x.n, .int .i64 x.s, .slice am nm cm, .int .i64 x.lost, .int .i64 x.built, .int .i64 x.seq, .int .i64 x.tail, .int .i64 x.gen, .slice ad nd cd, .int .i64 x.fuse, .bool x.down, .bool x.broken] 33)).alloc (.cells #[.int .i64 0, .int .i64 0, .int .i64 0, .slice none 0 0, .int .i64 0, .int .i64 0, .int .i64 0, .int .i64 0, .int .i64 0, .slice none 0 0, .int .i64 0, .bool false, .bool false] 33)).alloc (.cells #[.int .i64 x.id, .int .i64 x.n, .int .i64 x.s, .slice (some ⟨w.heap.size + 1 + 1 + 1, 0, none⟩) 0 0, .int .i64 x.lost, .int .i64 x.built, .int .i64 x.seq, .int .i64 x.tail, .int .i64 x.gen, .slice ad nd cd, .int .i64 x.fuse, .bool x.down, .bool x.broken] 33)).alloc (.cells #[] 51) = W2 at xm xr xo ml hB hz ⊢
 obtain ⟨LB, hLB⟩ : ∃ LB, w.heap.size + 1 + 1 + 1 = LB := ⟨_, rfl⟩
 rw [hLB] at xo ml hz ⊢
 have q3 : w.heap.size + 1 + 1 + 1 <= LB /\ LB <= w.heap.size + 1 + 1 + 1 := by omega
 clear hLB
 obtain ⟨BO, hBO⟩ : ∃ BO, w.heap.size + 1 + 1 = BO := ⟨_, rfl⟩
 rw [hBO] at xo ⊢
 have q2 : w.heap.size + 1 + 1 <= BO /\ BO <= w.heap.size + 1 + 1 := by omega
 clear hBO
 obtain ⟨BR, hBR⟩ : ∃ BR, w.heap.size + 1 = BR := ⟨_, rfl⟩
 rw [hBR] at xr ⊢
 have q1 : w.heap.size + 1 <= BR /\ BR <= w.heap.size + 1 := by omega
 clear hBR
 have XM2 := hidden xm
 have XR2 := hidden xr
 have XO2 := hidden xo
 have ML2 := hidden ml
 have HB2 := hidden hB
 clear xm xr xo ml hB
 go_loopw [4] (fun i wr => ∃ (j : Nat) (v0 : Value) (fp0 : List Nat), j <= nm /\ i = .int .i64 j /\ Fr LB BO W2 wr /\ Box wr BO 33 #[.int .i64 x.id, .int .i64 x.n, .int .i64 x.s, v0, .int .i64 x.lost, .int .i64 x.built, .int .i64 x.seq, .int .i64 x.tail, .int .i64 x.gen, .slice ad nd cd, .int .i64 x.fuse, .bool x.down, .bool x.broken] /\ (tMemS 109 51).Mine wr [v0] (ms.take j) fp0 /\ (∀ b ∈ fp0, LB <= b)) (fun i _ => nm - (intOf i).toNat)
 case atStart => exact ⟨0, _, [LB], Nat.zero_le _, rfl, Fr.refl _ _ _, XO2.out, ML2.out, by simp⟩
 obtain ⟨j, v0, fp0, hj, rfl, fr, xo, hm, hfp⟩ := hrel
 have hs := fr.size
 have xm := fr.box XM2.out (by omega) (by omega)
 have hb := HB2.out.trans (fr.below (M := w.heap.size) (by omega) (by omega))
 have c3 : wr.cell? ⟨w.heap.size, 3, none⟩ = some (.slice am nm cm) := xm.cell 3
 by_cases hjn : j < nm
 . rcases quads_at rfl h0 with h0' | ⟨b, off, rfl, hbl, hcs⟩
   . omega
   have hdj : ms[j]? = some (ms[j]'(by omega)) := List.getElem?_eq_getElem (by omega)
   have htk : ms.take (j + 1) = ms.take j ++ [ms[j]'(by omega)] := List.take_succ_eq_append_getElem (by omega)
   generalize ms[j]'(by omega) = d at hdj htk
   have hin := Nat.le_trans (inner_leM hdj) hwm
   obtain ⟨u0, u1, u2, u3, hv0, hv1, hv2, hv3, hrv⟩ := hcs j d hdj
   obtain ⟨a0, c0, a1, c1, a3, c3', ss, cs, f, bs, rfl, rfl, rfl, rfl, rfl, r0, r1, r3⟩ := mem_at hrv
   have pv0 := (hb.cell (p := ⟨b, off + j * 4, none⟩) hbl).trans hv0
   have pv1 := (hb.cell (p := ⟨b, off + j * 4 + 1, none⟩) hbl).trans hv1
   have pv2 := (hb.cell (p := ⟨b, off + j * 4 + 2, none⟩) hbl).trans hv2
   have pv3 := (hb.cell (p := ⟨b, off + j * 4 + 3, none⟩) hbl).trans hv3
   have R0 := hidden (r0.below hb)
   have R1 := hidden (r1.below hb)
   have R3 := hidden (r3.below hb)
   have k1 : (0 : Int) <= (j : Int) := by omega
   have k2 : (j : Int) < (nm : Int) := by omega
   have HTK := hidden htk
   have XO := hidden xo
   have XMR := hidden xm
   have FRR := hidden fr
   have HM := hidden hm
   have HFP := hidden hfp
   have HL : Hid ((ms.take j).length = j) := by unfold Hid; rw [List.length_take]; omega
   have L1 : Hid ((ms.take j).length + 1 <= maxLen) := by unfold Hid; rw [HL.out]; unfold maxLen; omega
   have L2 : Hid (((ms.take j).length + 1) * 80 <= 140737488355328) := by unfold Hid; rw [HL.out]; omega
   have mk : Hid (∀ w', Box w' BO 33 #[.int .i64 x.id, .int .i64 x.n, .int .i64 x.s, v0, .int .i64 x.lost, .int .i64 x.built, .int .i64 x.seq, .int .i64 x.tail, .int .i64 x.gen, .slice ad nd cd, .int .i64 x.fuse, .bool x.down, .bool x.broken] -> Box w' w.heap.size 33 #[.int .i64 x.id, .int .i64 x.n, .int .i64 x.s, .slice (some ⟨b, off, none⟩) nm cm, .int .i64 x.lost, .int .i64 x.built, .int .i64 x.seq, .int .i64 x.tail, .int .i64 x.gen, .slice ad nd cd, .int .i64 x.fuse, .bool x.down, .bool x.broken] -> w'.heap[b]? = wr.heap[b]? -> w'.cell? ⟨BO, 3, none⟩ = some (v0) /\ w'.cell? ⟨w.heap.size, 3, none⟩ = some (.slice (some ⟨b, off, none⟩) nm cm) /\ w'.cell? ⟨b, off + j * 4, none⟩ = some (.slice a0 ss.length c0) /\ w'.cell? ⟨b, off + j * 4 + 1, none⟩ = some (.slice a1 cs.length c1) /\ w'.cell? ⟨b, off + j * 4 + 2, none⟩ = some (.bool f) /\ w'.cell? ⟨b, off + j * 4 + 3, none⟩ = some (.slice a3 bs.length c3')) := fun w' h1 h2 h3 => ⟨h1.cell 3, h2.cell 3, (World.cell?_of_block (w := wr) h3).trans pv0, (World.cell?_of_block (w := wr) h3).trans pv1, (World.cell?_of_block (w := wr) h3).trans pv2, (World.cell?_of_block (w := wr) h3).trans pv3⟩
   have hS : wr.drew.cell? ⟨BO, 3, none⟩ = some (v0) /\ wr.drew.cell? ⟨w.heap.size, 3, none⟩ = some (.slice (some ⟨b, off, none⟩) nm cm) /\ wr.drew.cell? ⟨b, off + j * 4, none⟩ = some (.slice a0 ss.length c0) /\ wr.drew.cell? ⟨b, off + j * 4 + 1, none⟩ = some (.slice a1 cs.length c1) /\ wr.drew.cell? ⟨b, off + j * 4 + 2, none⟩ = some (.bool f) /\ wr.drew.cell? ⟨b, off + j * 4 + 3, none⟩ = some (.slice a3 bs.length c3') := mk.out wr.drew xo xm rfl
   have zb : b < wr.heap.size := by have := hb.size; omega
   have zLB : LB < wr.heap.size := by omega
   clear hcs hdj hv0 hv1 hv2 hv3 hrv htk xo xm hm hfp hb fr pv0 pv1 pv2 pv3 r0 r1 r3
   go_wp2_with fail
   refine Upto.start (S := fun w' => w'.cell? ⟨BO, 3, none⟩ = some (v0) /\ w'.cell? ⟨w.heap.size, 3, none⟩ = some (.slice (some ⟨b, off, none⟩) nm cm) /\ w'.cell? ⟨b, off + j * 4, none⟩ = some (.slice a0 ss.length c0) /\ w'.cell? ⟨b, off + j * 4 + 1, none⟩ = some (.slice a1 cs.length c1) /\ w'.cell? ⟨b, off + j * 4 + 2, none⟩ = some (.bool f) /\ w'.cell? ⟨b, off + j * 4 + 3, none⟩ = some (.slice a3 bs.length c3')) (k := 11) (by kernel_rfl) ?_
   refine Upto.t 0 hS ?_
   refine Upto.t 1 hS ?_
   refine Upto.t 2 hS ?_
   refine Upto.t 3 hS ?_
   refine Upto.t 4 hS ?_
   refine Upto.t 5 hS ?_
   refine Upto.t 6 hS ?_
   refine Upto.one (i := 7) (by kernel_rfl) rfl (fun K hK => ?_)
   go_simp
   refine (l2Copy_any _ E _ _ _ _ _ _ _ _ _ ss cs f bs R0.out.drew R1.out.drew R3.out.drew hin).mono ?_
   rintro e wc ⟨y0, y1, y3, m1, m2, rfl, o3, o0, o1, hm12, hm01, hm22, bc⟩
   have hbc' : Below wr.heap.size wr wc := (Below.refl wr.heap.size wr).drew.trans bc
   have hm01' : wr.heap.size <= m1 := hm01
   have om : (tMem 109).Own wc wr.heap.size wc.heap.size [y0, y1, .bool f, y3] (ss, cs, f, bs) := mem_own3 o0 o1 o3 (.inl (Nat.le_refl _)) (.inr (Nat.le_refl _)) (.inr hm12) ⟨by omega, by omega⟩ ⟨by omega, Nat.le_refl _⟩ ⟨Nat.le_refl _, by omega⟩
   obtain ⟨e0, g0, rfl⟩ := row_shape o0.rd
   obtain ⟨e1, g1, rfl⟩ := row_shape o1.rd
   obtain ⟨e3, g3, rfl⟩ := row_shape o3.rd
   obtain ⟨fpx, mx, rx⟩ := om.mine
   have xoc := XO.out.below hbc' (by omega)
   have xmc := XMR.out.below hbc' (by omega)
   have hS3 : wc.cell? ⟨BO, 3, none⟩ = some (v0) /\ wc.cell? ⟨w.heap.size, 3, none⟩ = some (.slice (some ⟨b, off, none⟩) nm cm) /\ wc.cell? ⟨b, off + j * 4, none⟩ = some (.slice a0 ss.length c0) /\ wc.cell? ⟨b, off + j * 4 + 1, none⟩ = some (.slice a1 cs.length c1) /\ wc.cell? ⟨b, off + j * 4 + 2, none⟩ = some (.bool f) /\ wc.cell? ⟨b, off + j * 4 + 3, none⟩ = some (.slice a3 bs.length c3') := mk.out wc xoc xmc (hbc'.block b zb)
   have bB := new_below wc (.cells #[.slice e0 ss.length g0, .slice e1 cs.length g1, .bool f, .slice e3 bs.length g3] 51)
   have zc := hbc'.size
   have hS4 : (wc.alloc (.cells #[.slice e0 ss.length g0, .slice e1 cs.length g1, .bool f, .slice e3 bs.length g3] 51)).cell? ⟨BO, 3, none⟩ = some (v0) /\ (wc.alloc (.cells #[.slice e0 ss.length g0, .slice e1 cs.length g1, .bool f, .slice e3 bs.length g3] 51)).cell? ⟨w.heap.size, 3, none⟩ = some (.slice (some ⟨b, off, none⟩) nm cm) /\ (wc.alloc (.cells #[.slice e0 ss.length g0, .slice e1 cs.length g1, .bool f, .slice e3 bs.length g3] 51)).cell? ⟨b, off + j * 4, none⟩ = some (.slice a0 ss.length c0) /\ (wc.alloc (.cells #[.slice e0 ss.length g0, .slice e1 cs.length g1, .bool f, .slice e3 bs.length g3] 51)).cell? ⟨b, off + j * 4 + 1, none⟩ = some (.slice a1 cs.length c1) /\ (wc.alloc (.cells #[.slice e0 ss.length g0, .slice e1 cs.length g1, .bool f, .slice e3 bs.length g3] 51)).cell? ⟨b, off + j * 4 + 2, none⟩ = some (.bool f) /\ (wc.alloc (.cells #[.slice e0 ss.length g0, .slice e1 cs.length g1, .bool f, .slice e3 bs.length g3] 51)).cell? ⟨b, off + j * 4 + 3, none⟩ = some (.slice a3 bs.length c3') := mk.out _ (xoc.alloc _) (xmc.alloc _) ((bB.block b (by omega)).trans (hbc'.block b zb))
   have XOC := hidden xoc
   have XMC := hidden xmc
   have MX := hidden mx
   have RX := hidden rx
   have HBC := hidden hbc'
   clear xoc xmc mx rx hbc' bc om o0 o1 o3 hm01 hm01' hm12 hm22 bB R0 R1 R3
   go_wp2_with fail
   refine hK.out _ _ (fun _ => hS3) ?_
   clear hK K
   refine Upto.one (i := 8) (by kernel_rfl) rfl (fun K hK => ?_)
   go_simp
   refine hK.out _ _ (fun _ => hS4) ?_
   clear hK K
   refine Upto.one (i := 9) (by kernel_rfl) rfl (fun K hK => ?_)
   refine step_appT (tMem 109) (by rfl) _ _ 30 (by rfl) 51 i4 (.agg #[.slice none 0 0, .slice none 0 0, .bool false, .slice none 0 0]) 80 Tryz.underlying30 hi4 hz0 hz1 hz2 rfl (by decide) v0 (ms.take j) fp0 (by rfl) ?_ ⟨wc.heap.size, 0, none⟩ 1 [.slice e0 ss.length g0, .slice e1 cs.length g1, .bool f, .slice e3 bs.length g3] (ss, cs, f, bs) fpx (by rfl) ?_ ?_ ?_ ?_ L1.out L2.out ?_
   . exact (HM.out.below HBC.out).alloc _
   . exact MX.out.alloc _
   . intro b hb hb'
     have h1 := HM.out.lt b hb
     have h2 := RX.out b hb'
     omega
   . exact news_new _ _ _
   . intro u hu
     simp at hu
     rcases hu with hu | hu | hu | hu <;> (rw [hu]; rfl)
   intro g cap wA fpA m1 m2 m3
   rw [HL.out] at m1 ⊢
   rw [← HTK.out] at m1
   have ya := (XOC.out.alloc (.cells #[.slice e0 ss.length g0, .slice e1 cs.length g1, .bool f, .slice e3 bs.length g3] 51)).turned m3 (fun hm => by have := HFP.out _ hm; omega)
   have ym := (XMC.out.alloc (.cells #[.slice e0 ss.length g0, .slice e1 cs.length g1, .bool f, .slice e3 bs.length g3] 51)).turned m3 (fun hm => by have := HFP.out _ hm; omega)
   have zB : (wc.alloc (.cells #[.slice e0 ss.length g0, .slice e1 cs.length g1, .bool f, .slice e3 bs.length g3] 51)).heap.size = wc.heap.size + 1 := by simp
   have zBb : b < (wc.alloc (.cells #[.slice e0 ss.length g0, .slice e1 cs.length g1, .bool f, .slice e3 bs.length g3] 51)).heap.size := by omega
   have hS5 : wA.cell? ⟨BO, 3, none⟩ = some (v0) /\ wA.cell? ⟨w.heap.size, 3, none⟩ = some (.slice (some ⟨b, off, none⟩) nm cm) /\ wA.cell? ⟨b, off + j * 4, none⟩ = some (.slice a0 ss.length c0) /\ wA.cell? ⟨b, off + j * 4 + 1, none⟩ = some (.slice a1 cs.length c1) /\ wA.cell? ⟨b, off + j * 4 + 2, none⟩ = some (.bool f) /\ wA.cell? ⟨b, off + j * 4 + 3, none⟩ = some (.slice a3 bs.length c3') := mk.out wA ya ym ((m3.block b zBb (fun hm => by have := HFP.out _ hm; omega)).trans (((new_below wc (.cells #[.slice e0 ss.length g0, .slice e1 cs.length g1, .bool f, .slice e3 bs.length g3] 51)).block b (by omega)).trans (HBC.out.block b zb)))
   have r0 := hS5.1
   have fz := ya.frozen 3
   have YA := hidden ya
   have M1 := hidden m1
   have M2 := hidden m2
   have M3 := hidden m3
   clear ya ym m1 m2 m3 zB zBb
   refine hK.out _ _ (fun _ => hS5) ?_
   clear hK K
   simp only [Act.put, List.setIfInBounds_toArray, List.set_cons_zero, List.set_cons_succ]
   refine Upto.t 10 hS5 ?_
   refine Upto.one (i := 11) (by kernel_rfl) rfl (fun K hK => ?_)
   go_simp
   refine hK.out _ _ (fun h => absurd rfl h) ?_
   clear hK K
   refine Upto.done (by kernel_rfl) ?_ _
   have HFA := hidden (round_fp (N := LB) (by omega) HBC.out HFP.out RX.out M2.out)
   have FRA := hidden (Fr.round FRR.out (by omega) HBC.out _ M3.out HFP.out 3 (.slice (some ⟨g, 0, none⟩) (j + 1) cap))
   have MA := hidden (M1.out.setCell (g := BO) (j := 3) (fun hm => by have := HFA.out _ hm; omega) (.slice (some ⟨g, 0, none⟩) (j + 1) cap))
   have YA' := hidden (YA.out.set 3 (.slice (some ⟨g, 0, none⟩) (j + 1) cap))
   clear hS hS3 hS4 hS5 r0 YA M1 M2 M3 XOC MX RX HBC HFP HM FRR XO XMR XMC mk
   go_wp2
   go_roundw
   case rel => exact ⟨j + 1, _, fpA, by omega, by go_num, FRA.out, YA'.out, MA.out, HFA.out⟩
   case measure => simp [intOf]; omega
 have ej : nm = j := by omega
 subst ej
 rw [List.take_of_length_le (by omega)] at hm
 have hlt := hm.lt
 obtain ⟨eM, gM, hvM⟩ := row_shape hm.rd
 rw [hl0] at hvM
 subst hvM
 have KM := hm.own (lo := LB) (hi := wr.heap.size) (fun b hb => ⟨hfp b hb, hlt b hb⟩)
 have xr := fr.box XR2.out (by omega) (by omega)
 have b3 : But BO (BO + 1) (wr.alloc (.cells #[] 82)) ((wr.alloc (.cells #[] 82)).setCell ⟨BO, 9, none⟩ (.slice (some ⟨wr.heap.size, 0, none⟩) 0 0)) := But.setCell (by omega) (by omega) _
 have xm3 : Box ((wr.alloc (.cells #[] 82)).setCell ⟨BO, 9, none⟩ (.slice (some ⟨wr.heap.size, 0, none⟩) 0 0)) w.heap.size 33 #[.int .i64 x.id, .int .i64 x.n, .int .i64 x.s, .slice am nm cm, .int .i64 x.lost, .int .i64 x.built, .int .i64 x.seq, .int .i64 x.tail, .int .i64 x.gen, .slice ad nd cd, .int .i64 x.fuse, .bool x.down, .bool x.broken] := (xm.alloc _).other (by omega) 9 _
 have xr3 : Box ((wr.alloc (.cells #[] 82)).setCell ⟨BO, 9, none⟩ (.slice (some ⟨wr.heap.size, 0, none⟩) 0 0)) BR 33 #[.int .i64 0, .int .i64 0, .int .i64 0, .slice none 0 0, .int .i64 0, .int .i64 0, .int .i64 0, .int .i64 0, .int .i64 0, .slice none 0 0, .int .i64 0, .bool false, .bool false] := (xr.alloc _).other (by omega) 9 _
 have xo3 : Box ((wr.alloc (.cells #[] 82)).setCell ⟨BO, 9, none⟩ (.slice (some ⟨wr.heap.size, 0, none⟩) 0 0)) BO 33 #[.int .i64 x.id, .int .i64 x.n, .int .i64 x.s, .slice eM nm gM, .int .i64 x.lost, .int .i64 x.built, .int .i64 x.seq, .int .i64 x.tail, .int .i64 x.gen, .slice (some ⟨wr.heap.size, 0, none⟩) 0 0, .int .i64 x.fuse, .bool x.down, .bool x.broken] := (xo.alloc _).set 9 (.slice (some ⟨wr.heap.size, 0, none⟩) 0 0)
 have ml3 : (tWrS 82).Mine ((wr.alloc (.cells #[] 82)).setCell ⟨BO, 9, none⟩ (.slice (some ⟨wr.heap.size, 0, none⟩) 0 0)) [.slice (some ⟨wr.heap.size, 0, none⟩) 0 0] [] [wr.heap.size] := (lit0_mine (t := tWr) (E := 82) wr).setCell (by simp; omega) _
 have km3 := (KM.below (new_below wr (.cells #[] 82))).but b3 (.inr (by omega))
 have hB3 : Below w.heap.size w ((wr.alloc (.cells #[] 82)).setCell ⟨BO, 9, none⟩ (.slice (some ⟨wr.heap.size, 0, none⟩) 0 0)) := (hb.alloc hb.size _).setCell (show w.heap.size <= BO by omega) _
 have z3 : wr.heap.size < ((wr.alloc (.cells #[] 82)).setCell ⟨BO, 9, none⟩ (.slice (some ⟨wr.heap.size, 0, none⟩) 0 0)).heap.size := by simp [World.setCell]
 have zL3 : LB < wr.heap.size := by omega
 have co9 : (wr.alloc (.cells #[] 82)).cell? ⟨BO, 9, none⟩ = some (.slice ad nd cd) := (xo.alloc _).cell 9
 have fo9 := (xo.alloc (.cells #[] 82)).frozen 9
 clear fr xo xm hm hfp hlt KM xr b3 hb hs hj
 go_wp2
 generalize (wr.alloc (.cells #[] 82)).setCell ⟨BO, 9, none⟩ (.slice (some ⟨wr.heap.size, 0, none⟩) 0 0) = W3 at xm3 xr3 xo3 ml3 km3 hB3 z3 ⊢
 obtain ⟨LE, hLE⟩ : ∃ LE, wr.heap.size = LE := ⟨_, rfl⟩
 rw [hLE] at xo3 ml3 km3 z3 zL3 ⊢
 clear hLE
 have XM3 := hidden xm3
 have XR3 := hidden xr3
 have XO3 := hidden xo3
 have ML3 := hidden ml3
 have KM3 := hidden km3
 have HB3 := hidden hB3
 clear xm3 xr3 xo3 ml3 km3 hB3 XM2 XR2 XO2 ML2 HB2 hz
 go_loopw [5] (fun i wr => ∃ (j : Nat) (v1 : Value) (fp1 : List Nat), j <= nd /\ i = .int .i64 j /\ Fr LE BO W3 wr /\ Box wr BO 33 #[.int .i64 x.id, .int .i64 x.n, .int .i64 x.s, .slice eM nm gM, .int .i64 x.lost, .int .i64 x.built, .int .i64 x.seq, .int .i64 x.tail, .int .i64 x.gen, v1, .int .i64 x.fuse, .bool x.down, .bool x.broken] /\ (tWrS 82).Mine wr [v1] (ds.take j) fp1 /\ (∀ b ∈ fp1, LE <= b)) (fun i _ => nd - (intOf i).toNat)
 case atStart => exact ⟨0, _, [LE], Nat.zero_le _, rfl, Fr.refl _ _ _, XO3.out, ML3.out, by simp⟩
 obtain ⟨j, v1, fp1, hj, rfl, fr, xo, hm, hfp⟩ := hrel
 have hs := fr.size
 have xm := fr.box XM3.out (by omega) (by omega)
 have hb := HB3.out.trans (fr.below (M := w.heap.size) (by omega) (by omega))
 have c9 : wr.cell? ⟨w.heap.size, 9, none⟩ = some (.slice ad nd cd) := xm.cell 9
 by_cases hjn : j < nd
 . rcases pairs_at rfl h1 with h0' | ⟨b, off, rfl, hbl, hcs⟩
   . omega
   have hdj : ds[j]? = some (ds[j]'(by omega)) := List.getElem?_eq_getElem (by omega)
   have htk : ds.take (j + 1) = ds.take j ++ [ds[j]'(by omega)] := List.take_succ_eq_append_getElem (by omega)
   generalize ds[j]'(by omega) = d at hdj htk
   have hil := inner_le' hdj
   obtain ⟨u0, u1, hv0, hv1, hrv⟩ := hcs j d hdj
   obtain ⟨rfl, hrv'⟩ := wr_rd hrv
   obtain ⟨av, cv, rfl⟩ := row_shape hrv'
   have pv0 := (hb.cell (p := ⟨b, off + j * 2, none⟩) hbl).trans hv0
   have pv1 := (hb.cell (p := ⟨b, off + j * 2 + 1, none⟩) hbl).trans hv1
   obtain ⟨x0, x1⟩ := d
   simp only at pv0 pv1 hrv' hil
   have HX := hidden (hrv'.below hb)
   have k1 : (0 : Int) <= (j : Int) := by omega
   have k2 : (j : Int) < (nd : Int) := by omega
   have HTK := hidden htk
   have XO := hidden xo
   have XMR := hidden xm
   have FRR := hidden fr
   have HM := hidden hm
   have HFP := hidden hfp
   have HL : Hid ((ds.take j).length = j) := by unfold Hid; rw [List.length_take]; omega
   have L1 : Hid ((ds.take j).length + 1 <= maxLen) := by unfold Hid; rw [HL.out]; unfold maxLen; omega
   have L2 : Hid (((ds.take j).length + 1) * 32 <= 140737488355328) := by unfold Hid; rw [HL.out]; omega
   have mk : Hid (∀ w', Box w' BO 33 #[.int .i64 x.id, .int .i64 x.n, .int .i64 x.s, .slice eM nm gM, .int .i64 x.lost, .int .i64 x.built, .int .i64 x.seq, .int .i64 x.tail, .int .i64 x.gen, v1, .int .i64 x.fuse, .bool x.down, .bool x.broken] -> Box w' w.heap.size 33 #[.int .i64 x.id, .int .i64 x.n, .int .i64 x.s, .slice am nm cm, .int .i64 x.lost, .int .i64 x.built, .int .i64 x.seq, .int .i64 x.tail, .int .i64 x.gen, .slice (some ⟨b, off, none⟩) nd cd, .int .i64 x.fuse, .bool x.down, .bool x.broken] -> w'.heap[b]? = wr.heap[b]? -> w'.cell? ⟨BO, 9, none⟩ = some (v1) /\ w'.cell? ⟨w.heap.size, 9, none⟩ = some (.slice (some ⟨b, off, none⟩) nd cd) /\ w'.cell? ⟨b, off + j * 2, none⟩ = some (.int .i64 x0) /\ w'.cell? ⟨b, off + j * 2 + 1, none⟩ = some (.slice av x1.length cv)) := fun w' h1 h2 h3 => ⟨h1.cell 9, h2.cell 9, (World.cell?_of_block (w := wr) h3).trans pv0, (World.cell?_of_block (w := wr) h3).trans pv1⟩
   have bA := new_below wr (.cells #[] 3)
   have hS : wr.drew.cell? ⟨BO, 9, none⟩ = some (v1) /\ wr.drew.cell? ⟨w.heap.size, 9, none⟩ = some (.slice (some ⟨b, off, none⟩) nd cd) /\ wr.drew.cell? ⟨b, off + j * 2, none⟩ = some (.int .i64 x0) /\ wr.drew.cell? ⟨b, off + j * 2 + 1, none⟩ = some (.slice av x1.length cv) := mk.out wr.drew xo xm rfl
   have zb : b < wr.heap.size := by have := hb.size; omega
   have zLE : LE < wr.heap.size := by omega
   have hS2 : (wr.alloc (.cells #[] 3)).drew.cell? ⟨BO, 9, none⟩ = some (v1) /\ (wr.alloc (.cells #[] 3)).drew.cell? ⟨w.heap.size, 9, none⟩ = some (.slice (some ⟨b, off, none⟩) nd cd) /\ (wr.alloc (.cells #[] 3)).drew.cell? ⟨b, off + j * 2, none⟩ = some (.int .i64 x0) /\ (wr.alloc (.cells #[] 3)).drew.cell? ⟨b, off + j * 2 + 1, none⟩ = some (.slice av x1.length cv) := mk.out (wr.alloc (.cells #[] 3)).drew (xo.alloc _) (xm.alloc _) (bA.block b zb)
   have HG : Hid ((wr.alloc (.cells #[] 3)).drew.heap[wr.heap.size]? = some (.cells #[] 3 (0, 0))) := Box.new wr 3 #[]
   have RD : Hid (tIntS.Rd (wr.alloc (.cells #[] 3)).drew [.slice av x1.length cv] x1) := (HX.out.below bA).drew
   have BA := hidden bA
   clear hcs hdj hv0 hv1 hrv hrv' htk xo xm hm hfp hb fr pv0 pv1 bA
   go_wp2_with fail
   refine Upto.start (S := fun w' => w'.cell? ⟨BO, 9, none⟩ = some (v1) /\ w'.cell? ⟨w.heap.size, 9, none⟩ = some (.slice (some ⟨b, off, none⟩) nd cd) /\ w'.cell? ⟨b, off + j * 2, none⟩ = some (.int .i64 x0) /\ w'.cell? ⟨b, off + j * 2 + 1, none⟩ = some (.slice av x1.length cv)) (k := 20) (by kernel_rfl) ?_
   refine Upto.t 0 hS ?_
   refine Upto.t 1 hS ?_
   refine Upto.t 2 hS ?_
   refine Upto.t 3 hS ?_
   refine Upto.t 4 hS ?_
   refine Upto.t 5 hS ?_
   refine Upto.t 6 hS ?_
   refine Upto.t 7 hS ?_
   refine Upto.t 9 hS ?_
   refine Upto.t 10 hS ?_
   refine Upto.t 11 hS ?_
   refine Upto.t 12 hS ?_
   refine Upto.t 13 hS ?_
   refine Upto.t 14 hS ?_
   refine Upto.one (i := 8) (by kernel_rfl) rfl (fun K hK => ?_)
   go_simp
   refine hK.out _ _ (fun _ => hS2) ?_
   clear hK K
   refine Upto.one (i := 15) (by kernel_rfl) rfl (fun K hK => ?_)
   refine step_copy (by rfl) _ _ 49 (by rfl) i3 Tryz.underlying49 hi3 hx0 hx1 hx2 wr.heap.size (by rfl) HG.out av x1.length cv x1 (by rfl) RD.out (by omega) ?_
   intro ac cc wc fpx mx rx tx
   have tx' : Turned [wr.heap.size] (wr.alloc (.cells #[] 3)) wc := Turned.undrew tx
   have zA : (wr.alloc (.cells #[] 3)).heap.size = wr.heap.size + 1 := by simp
   have zd : (wr.alloc (.cells #[] 3)).drew.heap.size = (wr.alloc (.cells #[] 3)).heap.size := rfl
   have hbc' : Below wr.heap.size wr wc := BA.out.trans (tx'.below (N := wr.heap.size) (by omega) (by simp))
   have xoc := XO.out.below hbc' (by omega)
   have xmc := XMR.out.below hbc' (by omega)
   have hS3 : wc.cell? ⟨BO, 9, none⟩ = some (v1) /\ wc.cell? ⟨w.heap.size, 9, none⟩ = some (.slice (some ⟨b, off, none⟩) nd cd) /\ wc.cell? ⟨b, off + j * 2, none⟩ = some (.int .i64 x0) /\ wc.cell? ⟨b, off + j * 2 + 1, none⟩ = some (.slice av x1.length cv) := mk.out wc xoc xmc (hbc'.block b zb)
   have bB := new_below wc (.cells #[.int .i64 x0, .slice ac x1.length cc] 82)
   have zc := hbc'.size
   have hS4 : (wc.alloc (.cells #[.int .i64 x0, .slice ac x1.length cc] 82)).cell? ⟨BO, 9, none⟩ = some (v1) /\ (wc.alloc (.cells #[.int .i64 x0, .slice ac x1.length cc] 82)).cell? ⟨w.heap.size, 9, none⟩ = some (.slice (some ⟨b, off, none⟩) nd cd) /\ (wc.alloc (.cells #[.int .i64 x0, .slice ac x1.length cc] 82)).cell? ⟨b, off + j * 2, none⟩ = some (.int .i64 x0) /\ (wc.alloc (.cells #[.int .i64 x0, .slice ac x1.length cc] 82)).cell? ⟨b, off + j * 2 + 1, none⟩ = some (.slice av x1.length cv) := mk.out _ (xoc.alloc _) (xmc.alloc _) ((bB.block b (by omega)).trans (hbc'.block b zb))
   have RX : Hid (∀ b ∈ fpx, wr.heap.size <= b /\ b < wc.heap.size) := fun b hb => by have := rx b hb; omega
   have XOC := hidden xoc
   have XMC := hidden xmc
   have MX := hidden mx
   have HBC := hidden hbc'
   clear xoc xmc mx rx tx tx' hbc' bB zA zd
   refine hK.out _ _ (fun _ => hS3) ?_
   clear hK K
   simp only [Act.put, List.setIfInBounds_toArray, List.set_cons_zero, List.set_cons_succ]
   refine Upto.t 16 hS3 ?_
   refine Upto.one (i := 17) (by kernel_rfl) rfl (fun K hK => ?_)
   go_simp
   refine hK.out _ _ (fun _ => hS4) ?_
   clear hK K
   refine Upto.one (i := 18) (by kernel_rfl) rfl (fun K hK => ?_)
   refine step_appT tWr (by rfl) _ _ 31 (by rfl) 82 i1 (.agg #[.int .i64 0, .slice none 0 0]) 32 Tryz.underlying31 hi1 hy0 hy1 hy2 rfl Nat.zero_lt_two v1 (ds.take j) fp1 (by rfl) ?_ ⟨wc.heap.size, 0, none⟩ 1 [.int .i64 x0, .slice ac x1.length cc] (x0, x1) fpx (by rfl) ?_ ?_ ?_ ?_ L1.out L2.out ?_
   . exact (HM.out.below HBC.out).alloc _
   . exact (wr_mine x0 MX.out).alloc _
   . intro b hb hb'
     have h1 := HM.out.lt b hb
     have h2 := RX.out b hb'
     omega
   . exact news_new _ _ _
   . intro u hu
     simp at hu
     rcases hu with hu | hu <;> (rw [hu]; rfl)
   intro g cap wA fpA m1 m2 m3
   rw [HL.out] at m1 ⊢
   rw [← HTK.out] at m1
   have ya := (XOC.out.alloc (.cells #[.int .i64 x0, .slice ac x1.length cc] 82)).turned m3 (fun hm => by have := HFP.out _ hm; omega)
   have ym := (XMC.out.alloc (.cells #[.int .i64 x0, .slice ac x1.length cc] 82)).turned m3 (fun hm => by have := HFP.out _ hm; omega)
   have zB : (wc.alloc (.cells #[.int .i64 x0, .slice ac x1.length cc] 82)).heap.size = wc.heap.size + 1 := by simp
   have zBb : b < (wc.alloc (.cells #[.int .i64 x0, .slice ac x1.length cc] 82)).heap.size := by omega
   have hS5 : wA.cell? ⟨BO, 9, none⟩ = some (v1) /\ wA.cell? ⟨w.heap.size, 9, none⟩ = some (.slice (some ⟨b, off, none⟩) nd cd) /\ wA.cell? ⟨b, off + j * 2, none⟩ = some (.int .i64 x0) /\ wA.cell? ⟨b, off + j * 2 + 1, none⟩ = some (.slice av x1.length cv) := mk.out wA ya ym ((m3.block b zBb (fun hm => by have := HFP.out _ hm; omega)).trans (((new_below wc (.cells #[.int .i64 x0, .slice ac x1.length cc] 82)).block b (by omega)).trans (HBC.out.block b zb)))
   have r0 := hS5.1
   have fz := ya.frozen 9
   have YA := hidden ya
   have M1 := hidden m1
   have M2 := hidden m2
   have M3 := hidden m3
   clear ya ym m1 m2 m3 zB zBb
   refine hK.out _ _ (fun _ => hS5) ?_
   clear hK K
   simp only [Act.put, List.setIfInBounds_toArray, List.set_cons_zero, List.set_cons_succ]
   refine Upto.t 19 hS5 ?_
   refine Upto.one (i := 20) (by kernel_rfl) rfl (fun K hK => ?_)
   go_simp
   refine hK.out _ _ (fun h => absurd rfl h) ?_
   clear hK K
   refine Upto.done (by kernel_rfl) ?_ _
   have HFA := hidden (round_fp (N := LE) (by omega) HBC.out HFP.out RX.out M2.out)
   have FRA := hidden (Fr.round FRR.out (by omega) HBC.out _ M3.out HFP.out 9 (.slice (some ⟨g, 0, none⟩) (j + 1) cap))
   have MA := hidden (M1.out.setCell (g := BO) (j := 9) (fun hm => by have := HFA.out _ hm; omega) (.slice (some ⟨g, 0, none⟩) (j + 1) cap))
   have YA' := hidden (YA.out.set 9 (.slice (some ⟨g, 0, none⟩) (j + 1) cap))
   clear hS hS2 hS3 hS4 hS5 BA HG RD HX r0 YA M1 M2 M3 XOC MX RX HBC HFP HM FRR XO XMR XMC mk
   go_wp2
   go_roundw
   case rel => exact ⟨j + 1, _, fpA, by omega, by go_num, FRA.out, YA'.out, MA.out, HFA.out⟩
   case measure => simp [intOf]; omega
 have ej : nd = j := by omega
 subst ej
 rw [List.take_of_length_le (by omega)] at hm
 have hlt := hm.lt
 obtain ⟨eD, gD, hvD⟩ := row_shape hm.rd
 rw [hl1] at hvD
 subst hvD
 have K1 := hm.own (lo := LE) (hi := wr.heap.size) (fun b hb => ⟨hfp b hb, hlt b hb⟩)
 have K0 := fr.own KM3.out (Nat.le_refl _) (.inr (by omega))
 have xr := fr.box XR3.out (by omega) (by omega)
 have hbt := puts_but BR [(0, .int .i64 x.id), (1, .int .i64 x.n), (2, .int .i64 x.s), (3, .slice eM nm gM), (4, .int .i64 x.lost), (5, .int .i64 x.built), (6, .int .i64 x.seq), (7, .int .i64 x.tail), (8, .int .i64 x.gen), (9, .slice eD nd gD), (10, .int .i64 x.fuse), (11, .bool x.down), (12, .bool x.broken)] wr
 have H0 := K0.but hbt (.inr (by omega))
 have H1 := K1.but hbt (.inr (by omega))
 have HBB := Below.andBut hb hbt (by omega)
 have hsz := hbt.size
 have H0w := hidden (H0.widen (lo' := w.heap.size) (hi' := LE) (by omega) (Nat.le_refl _))
 have H1w := hidden (H1.widen (lo' := LE) (Nat.le_refl _) hsz)
 have HBw := hidden HBB
 have HSZ : Hid (LE <= (puts wr BR [(0, .int .i64 x.id), (1, .int .i64 x.n), (2, .int .i64 x.s), (3, .slice eM nm gM), (4, .int .i64 x.lost), (5, .int .i64 x.built), (6, .int .i64 x.seq), (7, .int .i64 x.tail), (8, .int .i64 x.gen), (9, .slice eD nd gD), (10, .int .i64 x.fuse), (11, .bool x.down), (12, .bool x.broken)]).heap.size) := by unfold Hid; omega
 simp only [puts] at H0w H1w HBw HSZ
 obtain ⟨p0, p1, p2, p3, p4, p5, p6, p7, p8, p9, p10, p11, p12⟩ := xr.cells13
 have fz := xr.frozen
 obtain ⟨r0, r1, r2, r3, r4, r5, r6, r7, r8, r9, r10, r11, r12⟩ := xo.cells13
 have hLw : w.heap.size <= LE := by omega
 clear fr xo xm hb hm hfp hlt xr K0 K1 hbt H0 H1 HBB hsz hj hs
 go_wp2
 refine bodyPost_ret (v := .agg #[.int .i64 x.id, .int .i64 x.n, .int .i64 x.s, .slice eM nm gM, .int .i64 x.lost, .int .i64 x.built, .int .i64 x.seq, .int .i64 x.tail, .int .i64 x.gen, .slice eD nd gD, .int .i64 x.fuse, .bool x.down, .bool x.broken]) (by simp [results, Tryz.results25, go_sem, p0, p1, p2, p3, p4, p5, p6, p7, p8, p9, p10, p11, p12]) rfl ?_
 exact ⟨_, _, _, _, LE, rfl, H0w.out, H1w.out, hLw, HSZ.out, HBw.out⟩

theorem specFailDisk_any (w : World) (E F G : TypeId) (x : ArrN) (am ad : Option Addr) (nm cm nd cd : Nat) (ms : List MemD) (ds : List (Int × List Int)) (m : Int) (h0 : (tMemS E F).Rd w [.slice am nm cm] ms) (h1 : (tWrS G).Rd w [.slice ad nd cd] ds) (hw : wtArr ms ds <= 2097152) :
 Calls Tryz.prog 9 #[.agg #[.int .i64 x.id, .int .i64 x.n, .int .i64 x.s, .slice am nm cm, .int .i64 x.lost, .int .i64 x.built, .int .i64 x.seq, .int .i64 x.tail, .int .i64 x.gen, .slice ad nd cd, .int .i64 x.fuse, .bool x.down, .bool x.broken], .int .i64 m] w fun e w' => ArrOut w w' e (failO x ms ds m) ds := by
 obtain ⟨rfl, _⟩ := row_length h0
 obtain ⟨rfl, _⟩ := row_length h1
 have hwm : wtMemS ms <= 2097152 := by unfold wtArr at hw; omega
 have hnm : ms.length <= 2097152 := by unfold wtMemS at hwm; omega
 have hA := (new_below w (.cells #[.int .i64 x.id, .int .i64 x.n, .int .i64 x.s, .slice am ms.length cm, .int .i64 x.lost, .int .i64 x.built, .int .i64 x.seq, .int .i64 x.tail, .int .i64 x.gen, .slice ad ds.length cd, .int .i64 x.fuse, .bool x.down, .bool x.broken] 33)).alloc (by simp) (.cells #[.int .i64 0, .int .i64 0, .int .i64 0, .slice none 0 0, .int .i64 0, .int .i64 0, .int .i64 0, .int .i64 0, .int .i64 0, .slice none 0 0, .int .i64 0, .bool false, .bool false] 33)
 have X0 : Box ((w.alloc (.cells #[.int .i64 x.id, .int .i64 x.n, .int .i64 x.s, .slice am ms.length cm, .int .i64 x.lost, .int .i64 x.built, .int .i64 x.seq, .int .i64 x.tail, .int .i64 x.gen, .slice ad ds.length cd, .int .i64 x.fuse, .bool x.down, .bool x.broken] 33)).alloc (.cells #[.int .i64 0, .int .i64 0, .int .i64 0, .slice none 0 0, .int .i64 0, .int .i64 0, .int .i64 0, .int .i64 0, .int .i64 0, .slice none 0 0, .int .i64 0, .bool false, .bool false] 33)) w.heap.size 33 #[.int .i64 x.id, .int .i64 x.n, .int .i64 x.s, .slice am ms.length cm, .int .i64 x.lost, .int .i64 x.built, .int .i64 x.seq, .int .i64 x.tail, .int .i64 x.gen, .slice ad ds.length cd, .int .i64 x.fuse, .bool x.down, .bool x.broken] := (Box.new w _ _).alloc _
 have R0 := Box.new (w.alloc (.cells #[.int .i64 x.id, .int .i64 x.n, .int .i64 x.s, .slice am ms.length cm, .int .i64 x.lost, .int .i64 x.built, .int .i64 x.seq, .int .i64 x.tail, .int .i64 x.gen, .slice ad ds.length cd, .int .i64 x.fuse, .bool x.down, .bool x.broken] 33)) 33 #[.int .i64 0, .int .i64 0, .int .i64 0, .slice none 0 0, .int .i64 0, .int .i64 0, .int .i64 0, .int .i64 0, .int .i64 0, .slice none 0 0, .int .i64 0, .bool false, .bool false]
 rw [World.size_alloc] at R0
 have zX := X0.lt
 have zR := R0.lt
 have r0 := h0.below hA
 have r1 := h1.below hA
 obtain ⟨k0, k1, k2, k3, k4, k5, k6, k7, k8, k9, k10, k11, k12⟩ := X0.cells13
 go_enter Tryz.func9, Tryz.ntmps9
 go_wp2_with fail
 generalize (w.alloc (.cells #[.int .i64 x.id, .int .i64 x.n, .int .i64 x.s, .slice am ms.length cm, .int .i64 x.lost, .int .i64 x.built, .int .i64 x.seq, .int .i64 x.tail, .int .i64 x.gen, .slice ad ds.length cd, .int .i64 x.fuse, .bool x.down, .bool x.broken] 33)).alloc (.cells #[.int .i64 0, .int .i64 0, .int .i64 0, .slice none 0 0, .int .i64 0, .int .i64 0, .int .i64 0, .int .i64 0, .int .i64 0, .slice none 0 0, .int .i64 0, .bool false, .bool false] 33) = W at hA X0 R0 zX zR r0 r1 k0 k1 k2 k3 k4 k5 k6 k7 k8 k9 k10 k11 k12 ⊢
 refine (l6Copy_any _ E F G x _ _ _ _ _ _ ms ds r0 r1 hw).mono ?_
 rintro e w1 ⟨bm, cm1, bd, cd1, mx, rfl, om, od, zm, zm2, b1⟩
 have bn := new_below w1 (.cells #[.int .i64 x.id, .int .i64 x.n, .int .i64 x.s, .slice bm ms.length cm1, .int .i64 x.lost, .int .i64 x.built, .int .i64 x.seq, .int .i64 x.tail, .int .i64 x.gen, .slice bd ds.length cd1, .int .i64 x.fuse, .bool x.down, .bool x.broken] 33)
 have b12 : Below W.heap.size W (w1.alloc (.cells #[.int .i64 x.id, .int .i64 x.n, .int .i64 x.s, .slice bm ms.length cm1, .int .i64 x.lost, .int .i64 x.built, .int .i64 x.seq, .int .i64 x.tail, .int .i64 x.gen, .slice bd ds.length cd1, .int .i64 x.fuse, .bool x.down, .bool x.broken] 33)) := Below.andThen b1 bn
 have Y := Box.new w1 33 #[.int .i64 x.id, .int .i64 x.n, .int .i64 x.s, .slice bm ms.length cm1, .int .i64 x.lost, .int .i64 x.built, .int .i64 x.seq, .int .i64 x.tail, .int .i64 x.gen, .slice bd ds.length cd1, .int .i64 x.fuse, .bool x.down, .bool x.broken]
 have zY := Y.lt
 have z1 := b1.size
 obtain ⟨fm, mm, rm⟩ := (om.below bn).mine
 obtain ⟨fd, md, rd⟩ := (od.below bn).mine
 have A2 : ArrAt (w1.alloc (.cells #[.int .i64 x.id, .int .i64 x.n, .int .i64 x.s, .slice bm ms.length cm1, .int .i64 x.lost, .int .i64 x.built, .int .i64 x.seq, .int .i64 x.tail, .int .i64 x.gen, .slice bd ds.length cd1, .int .i64 x.fuse, .bool x.down, .bool x.broken] 33)) w1.heap.size x ms ds fm fd := ⟨bm, bd, cm1, cd1, Y, mm, md, fun b hb hb' => by have h1 := rm b hb; have h2 := rd b hb'; omega, fun hm => by have := rm _ hm; omega, fun hm => by have := rd _ hm; omega⟩
 have X2 := X0.below b12 zX
 have R2 := R0.below b12 zR
 have p0 := r0.below b12
 have p1 := r1.below b12
 have B2 := Below.andThen hA b12
 have rm2 : ∀ b ∈ fm, W.heap.size <= b := fun b hb => by have := rm b hb; omega
 have rd2 : ∀ b ∈ fd, W.heap.size <= b := fun b hb => by have := rd b hb; omega
 clear k0 k1 k2 k3 k4 k5 k6 k7 k8 k9 k10 k11 k12 X0 R0 r0 r1 om od b1 bn b12 Y mm rm md rd hA
 obtain ⟨k0, k1, k2, k3, k4, k5, k6, k7, k8, k9, k10, k11, k12⟩ := X2.cells13
 go_wp2_with fail
 generalize w1.alloc (.cells #[.int .i64 x.id, .int .i64 x.n, .int .i64 x.s, .slice bm ms.length cm1, .int .i64 x.lost, .int .i64 x.built, .int .i64 x.seq, .int .i64 x.tail, .int .i64 x.gen, .slice bd ds.length cd1, .int .i64 x.fuse, .bool x.down, .bool x.broken] 33) = w2 at A2 X2 R2 p0 p1 B2 zY k0 k1 k2 k3 k4 k5 k6 k7 k8 k9 k10 k11 k12 ⊢
 obtain ⟨B, hB⟩ : ∃ B, w1.heap.size = B := ⟨_, rfl⟩
 rw [hB] at A2 zY z1 ⊢
 clear hB
 refine (specArrOk_any _ E F G x _ _ _ _ _ _ ms ds p0 p1 hw).mono ?_
 rintro e w3 ⟨rfl, b3⟩
 have A3 := A2.below b3
 have X3 := X2.below b3 X2.lt
 have R3 := R2.below b3 R2.lt
 have B3 := Below.andThen B2 b3
 have q3 := p0.below b3
 have z3 := b3.size
 clear k0 k1 k2 k3 k4 k5 k6 k7 k8 k9 k10 k11 k12 A2 X2 R2 p0 p1 B2 b3
 obtain ⟨k0, k1, k2, k3, k4, k5, k6, k7, k8, k9, k10, k11, k12⟩ := X3.cells13
 cases ha : arrB x ms ds
 . have HV : Hid (failO x ms ds m = (x, ms)) := fail_no (by unfold failB; rw [ha]; rfl)
   obtain ⟨vm, vd, cvm, cvd, Yf, mf, df, hrf, r1f, r2f⟩ := A3
   have Y0 := Yf
   unfold arrC at Y0
   obtain ⟨t0, t1, t2, t3, t4, t5, t6, t7, t8, t9, t10, t11, t12⟩ := Y0.cells13
   obtain ⟨s0, s1, s2, s3, s4, s5, s6, s7, s8, s9, s10, s11, s12⟩ := R3.cells13
   have fzr := R3.frozen
   have HO := hidden (arr_out (y := x) (e := .returned (.agg (arrC x _ _))) B3 R3 rfl mf df hrf rm2 rd2 (by omega) (by omega))
   unfold arrC at HO
   simp only [puts] at HO
   clear X3 R3 B3 Yf Y0 mf df
   go_wp2
   refine bodyPost_ret (v := .agg #[.int .i64 x.id, .int .i64 x.n, .int .i64 x.s, .slice vm ms.length cvm, .int .i64 x.lost, .int .i64 x.built, .int .i64 x.seq, .int .i64 x.tail, .int .i64 x.gen, .slice vd ds.length cvd, .int .i64 x.fuse, .bool x.down, .bool x.broken]) (by simp [results, Tryz.results9, go_sem, s0, s1, s2, s3, s4, s5, s6, s7, s8, s9, s10, s11, s12]) rfl ?_
   rw [HV.out]; exact HO.out
 obtain ⟨fc, mk, gc0, gc1⟩ := arr_facts ha
 have hw1 : IntKind.i64.wrap ((ms.length : Int) - 1) = (ms.length : Int) - 1 := IntWalk.i64_in _ (by omega)
 go_wp2_with fail
 refine (l1In_any _ _ _ _).mono ?_
 rintro e wq ⟨rfl, hq⟩
 obtain rfl := hq.symm
 cases hm : inB m 0 ((ms.length : Int) - 1)
 . have HV : Hid (failO x ms ds m = (x, ms)) := fail_no (by unfold failB; rw [ha, hm]; rfl)
   obtain ⟨vm, vd, cvm, cvd, Yf, mf, df, hrf, r1f, r2f⟩ := A3
   have Y0 := Yf
   unfold arrC at Y0
   obtain ⟨t0, t1, t2, t3, t4, t5, t6, t7, t8, t9, t10, t11, t12⟩ := Y0.cells13
   obtain ⟨s0, s1, s2, s3, s4, s5, s6, s7, s8, s9, s10, s11, s12⟩ := R3.cells13
   have fzr := R3.frozen
   have HO := hidden (arr_out (y := x) (e := .returned (.agg (arrC x _ _))) B3 R3 rfl mf df hrf rm2 rd2 (by omega) (by omega))
   unfold arrC at HO
   simp only [puts] at HO
   clear X3 R3 B3 Yf Y0 mf df
   go_wp2
   refine bodyPost_ret (v := .agg #[.int .i64 x.id, .int .i64 x.n, .int .i64 x.s, .slice vm ms.length cvm, .int .i64 x.lost, .int .i64 x.built, .int .i64 x.seq, .int .i64 x.tail, .int .i64 x.gen, .slice vd ds.length cvd, .int .i64 x.fuse, .bool x.down, .bool x.broken]) (by simp [results, Tryz.results9, go_sem, s0, s1, s2, s3, s4, s5, s6, s7, s8, s9, s10, s11, s12]) rfl ?_
   rw [HV.out]; exact HO.out
 obtain ⟨m1, m2⟩ := inB_iff.1 hm
 obtain ⟨j, rfl⟩ := Int.eq_ofNat_of_zero_le m1
 have hj : j < ms.length := by omega
 have i1 : (0 : Int) <= (j : Int) := by omega
 have i3 : (j : Int) < (ms.length : Int) := by omega
 obtain ⟨d, hdj⟩ : ∃ d, ms[j]? = some d := ⟨_, List.getElem?_eq_getElem hj⟩
 have hgd : ms.getD j memZ = d := getD_at hdj
 rcases quads_at rfl q3 with h0' | ⟨b, off, rfl, hbl, hcs⟩
 . omega
 obtain ⟨v0, v1, v2, v3, q0, q1, q2, q3', hrv⟩ := hcs j d hdj
 obtain ⟨a0, c0, a1, c1, a3, c3, ss, cs, f, bs, hde, rfl, rfl, rfl, rfl, p0, p1, p3⟩ := mem_at hrv
 have hf2 : f = d.2.2.1 := by rw [hde]
 rw [hf2] at q2
 clear p0 p1 p3 hcs hrv q0 q1 q3' hde hf2 k0 k1 k2 k3 k4 k5 k6 k7 k8 k9 k10 k11 k12
 clear a0 c0 a1 c1 a3 c3 ss cs f bs
 obtain ⟨k0, k1, k2, k3, k4, k5, k6, k7, k8, k9, k10, k11, k12⟩ := X3.cells13
 cases hff : d.2.2.1
 case true =>
  rw [hff] at q2
  have HV : Hid (failO x ms ds (j : Int) = (x, ms)) := fail_no (by unfold failB; rw [Int.toNat_natCast, hgd, hff]; simp)
  clear hff
  obtain ⟨vm, vd, cvm, cvd, Yf, mf, df, hrf, r1f, r2f⟩ := A3
  have Y0 := Yf
  unfold arrC at Y0
  obtain ⟨t0, t1, t2, t3, t4, t5, t6, t7, t8, t9, t10, t11, t12⟩ := Y0.cells13
  obtain ⟨s0, s1, s2, s3, s4, s5, s6, s7, s8, s9, s10, s11, s12⟩ := R3.cells13
  have fzr := R3.frozen
  have HO := hidden (arr_out (y := x) (e := .returned (.agg (arrC x _ _))) B3 R3 rfl mf df hrf rm2 rd2 (by omega) (by omega))
  unfold arrC at HO
  simp only [puts] at HO
  clear X3 R3 B3 Yf Y0 mf df
  go_wp2
  refine bodyPost_ret (v := .agg #[.int .i64 x.id, .int .i64 x.n, .int .i64 x.s, .slice vm ms.length cvm, .int .i64 x.lost, .int .i64 x.built, .int .i64 x.seq, .int .i64 x.tail, .int .i64 x.gen, .slice vd ds.length cvd, .int .i64 x.fuse, .bool x.down, .bool x.broken]) (by simp [results, Tryz.results9, go_sem, s0, s1, s2, s3, s4, s5, s6, s7, s8, s9, s10, s11, s12]) rfl ?_
  rw [HV.out]; exact HO.out
 rw [hff] at q2
 have HB : Hid (failB x ms ds (j : Int) = true) := by unfold Hid failB; rw [ha, hm, Int.toNat_natCast, hgd, hff]; rfl
 clear hff
 have HV : Hid (failO x ms ds (j : Int) = failA (x, ms) j) := fail_of HB.out
 clear hm ha hgd
 go_wp2_with fail
 refine (l11Fail_any _ B x ms ds fm fd A3 fc mk gc0 gc1 j hj).mono ?_
 rintro e w4 ⟨rfl, fm4, A4, M4⟩
 have rm4 : ∀ b ∈ fm4, W.heap.size <= b := fun b hb => by rcases M4.2 b hb with h | h; exact rm2 b h; omega
 have R4 := M4.box R3 (by omega) (fun hm => by have := rm2 _ hm; omega)
 have B4 := B3.trans (M4.belowN (N := w.heap.size) (by omega) (fun b hb => by have := rm2 b hb; omega) (by omega))
 have z4 := M4.size
 clear k0 k1 k2 k3 k4 k5 k6 k7 k8 k9 k10 k11 k12 A3 X3 R3 B3 M4 q2
 generalize failA (x, ms) j = st at A4 HV
 obtain ⟨y, ns⟩ := st
 dsimp only at A4
 obtain ⟨vm, vd, cvm, cvd, Yf, mf, df, hrf, r1f, r2f⟩ := A4
 have Y0 := Yf
 unfold arrC at Y0
 obtain ⟨t0, t1, t2, t3, t4, t5, t6, t7, t8, t9, t10, t11, t12⟩ := Y0.cells13
 obtain ⟨s0, s1, s2, s3, s4, s5, s6, s7, s8, s9, s10, s11, s12⟩ := R4.cells13
 have fzr := R4.frozen
 have HO := hidden (arr_out (y := y) (e := .returned (.agg (arrC y _ _))) B4 R4 rfl mf df hrf rm4 rd2 (by omega) (by omega))
 unfold arrC at HO
 simp only [puts] at HO
 clear R4 B4 Yf Y0 mf df
 go_wp2
 refine bodyPost_ret (v := .agg #[.int .i64 y.id, .int .i64 y.n, .int .i64 y.s, .slice vm ns.length cvm, .int .i64 y.lost, .int .i64 y.built, .int .i64 y.seq, .int .i64 y.tail, .int .i64 y.gen, .slice vd ds.length cvd, .int .i64 y.fuse, .bool y.down, .bool y.broken]) (by simp [results, Tryz.results9, go_sem, s0, s1, s2, s3, s4, s5, s6, s7, s8, s9, s10, s11, s12]) rfl ?_
 rw [HV.out]; exact HO.out

end Go.Proofs.YtechckninoilhaaGreat

/-
 The walk of the specification's l12Step: one stripe more is built. Conditions: a right Geo; a disk is lost; the power goes within 1000 operations, or stays; every disk is right.
-/
import Derived.Test.YtechckninoilhaaGreatRowBuildAllAll9
import Derived.Test.YtechckninoilhaaGreatGrow
import Derived.Recover
import Derived.Test.YtechckninoilhaaGreatWalkArr
import Derived.Test.YtechckninoilhaaGreatBox
import Derived.Deep.Cut
import Derived.Test.YtechckninoilhaaGreatRowBuildAllAll11
import Derived.Test.YtechckninoilhaaGreatRowBuildAllAll10
import Derived.Test.YtechckninoilhaaGreatRowBuildAllAll12
import Derived.Test.YtechckninoilhaaGreatRowBuildAllAll13
import Derived.Test.YtechckninoilhaaGreatWalkIn
import Derived.Test.YtechckninoilhaaGreatWalkArrOk3
import Derived.Test.YtechckninoilhaaGreatKit
import Derived.Test.YtechckninoilhaaGreatRows
import Derived.Test.YtechckninoilhaaGreatWalkGeo
import Derived.Test.YtechckninoilhaaGreatHeld

set_option maxRecDepth 100000
set_option maxHeartbeats 8000000
set_option linter.unusedSimpArgs false

namespace Go.Proofs.YtechckninoilhaaGreat
open Go.RowKit

def Enters (F : FuncId) (args : Array Value) : Prop := ∀ w : World, Sem.run Tryz.prog (callFunc F args) w = .ok (.enter F args) w
theorem enters_of {F : FuncId} {fn : Func} (hf : Tryz.prog.funcs[F]? = some fn) (hn : (fn.name == "runtime.NumGoroutine") = false) (hb : fn.body.isNone = false) (args : Array Value) : Enters F args := by
 intro w
 have hb' : ¬ fn.body = none := fun h => by rw [h] at hb; cases hb
 have hn' : ¬ fn.name = "runtime.NumGoroutine" := by simpa using hn
 simp [go_sem, callFunc, hf, hn', hb']
def OpRuns (B : Nat) (fp : List Nat) (F : FuncId) (cap : Array Value) (o : DOp) (w : World) : Prop :=
 ∀ (x : ArrN) (ms : List MemD) (ds : List (Int × List Int)) (fm fd : List Nat), ArrAt w B x ms ds fm fd -> MsOk ms -> (∀ b ∈ fp, b ≠ B /\ b ∉ fm) -> o.1 < ms.length ->
  Calls Tryz.prog F cap w fun e w' => e = .returned (.tuple #[]) /\ ∃ fm', ArrAt w' B x (ms.set o.1 (opF o x (ms.getD o.1 memZ))) ds fm' fd /\ Moved B fm w fm' w'
def opOw (B : Nat) (w : World) (vs : List Value) (o : DOp) (fp : List Nat) : Prop :=
 ∃ F cap, vs = [.func (Fn.func F) #[] cap] /\ Enters F cap /\ (∀ b ∈ fp, b < w.heap.size) /\ ∀ w' : World, (∀ b ∈ fp, w'.heap[b]? = w.heap[b]?) -> w.heap.size <= w'.heap.size -> OpRuns B fp F cap o w'
abbrev opTy (B : Nat) : Ty where
 n := 1
 D := DOp
 rd := opOw B
 ow := opOw B
 owRd := fun h => h
 rdLen := fun ⟨_, _, h, _⟩ => by rw [h]; rfl
 rdLt := fun ⟨_, _, _, _, h, _⟩ => h
 rdKept := fun ⟨F, cap, h, he, hl, hr⟩ hk hs => ⟨F, cap, h, he, fun b hb => Nat.lt_of_lt_of_le (hl b hb) hs, fun w'' hk2 hs2 => hr w'' (fun b hb => (hk2 b hb).trans (hk b hb)) (Nat.le_trans hs hs2)⟩
 owKept := fun ⟨F, cap, h, he, hl, hr⟩ hk hs => ⟨F, cap, h, he, fun b hb => Nat.lt_of_lt_of_le (hl b hb) hs, fun w'' hk2 hs2 => hr w'' (fun b hb => (hk2 b hb).trans (hk b hb)) (Nat.le_trans hs hs2)⟩
abbrev tOps (B : Nat) : Ty := rowTy (opTy B) 131

abbrev goneV : Value := .iface 119 (.agg #[])
abbrev goneC : List PanicEntry := [{ v := goneV, recovered := false }]
def EndOf (y : ArrN) (e : Ending) : Prop := if y.down = true then e = .panicked goneC else e = .returned (.tuple #[])
theorem EndOf.gone {y : ArrN} (h : y.down = true) : EndOf y (.panicked goneC) := by unfold EndOf; rw [if_pos h]
theorem EndOf.fine {y : ArrN} (h : y.down = false) : EndOf y (.returned (.tuple #[])) := by unfold EndOf; rw [if_neg (by simp [h])]
def Did (w : World) (B : Nat) (fm : List Nat) (ds : List (Int × List Int)) (fd : List Nat) (q : ArrN × List MemD) (e : Ending) (w' : World) : Prop := EndOf q.1 e /\ ∃ fm', ArrAt w' B q.1 q.2 ds fm' fd /\ Moved B fm w fm' w'

theorem dop_at {w : World} {B n cap j : Nat} {bo : Option Addr} {ops : List DOp} {o : DOp} {fo : List Nat} (h : (tOps B).Mine w [.slice bo n cap] ops fo) (hj : ops[j]? = some o) :
 ∃ (g : Nat) (F : FuncId) (cp : Array Value) (fp : List Nat), bo = some ⟨g, 0, none⟩ /\ g < w.heap.size /\ w.cell? ⟨g, j, none⟩ = some (.func (Fn.func F) #[] cp) /\ Enters F cp /\ (∀ b ∈ fp, b ∈ fo) /\ ∀ w' : World, (∀ b ∈ fp, w'.heap[b]? = w.heap[b]?) -> w.heap.size <= w'.heap.size -> OpRuns B fp F cp o w' := by
 obtain ⟨h, _⟩ := h
 have hjl := (List.getElem?_eq_some_iff.1 hj).1
 rcases h with ⟨_, h2, _⟩ | ⟨b, cap', cur, fps, h1, h2, h3, h4, h5, h6, h7, h8⟩
 . rw [h2] at hjl; simp at hjl
 simp only [List.cons.injEq, Value.slice.injEq, and_true] at h1
 obtain ⟨f, hf, F, cp, hv, he, hl, hr⟩ := h8 j o hj
 refine ⟨b, F, cp, f, h1.1, (Array.getElem?_eq_some_iff.1 h4).1, ?_, he, fun b' hb' => ?_, hr⟩
 . rw [cell_of_row w b _ cur 131 (0, 0) h4]
   have : ((cur.toList.drop (j * 1)).take 1)[0]? = some (.func (Fn.func F) #[] cp) := by rw [hv]; rfl
   rw [List.getElem?_take, if_pos (by omega), List.getElem?_drop] at this
   simpa using this
 rw [h6]
 exact List.mem_cons_of_mem _ (List.mem_flatten.2 ⟨f, List.mem_of_getElem? hf, hb'⟩)

theorem puts_arr {w : World} {B : Nat} {T : TypeId} {z0 z1 z2 z3 z4 z5 z6 z7 z8 z9 z10 z11 z12 : Value} (h : Box w B T #[z0, z1, z2, z3, z4, z5, z6, z7, z8, z9, z10, z11, z12]) (c0 c1 c2 c3 c4 c5 c6 c7 c8 c9 c10 c11 c12 : Value) : Box (puts w B [(0, c0), (1, c1), (2, c2), (3, c3), (4, c4), (5, c5), (6, c6), (7, c7), (8, c8), (9, c9), (10, c10), (11, c11), (12, c12)]) B T #[c0, c1, c2, c3, c4, c5, c6, c7, c8, c9, c10, c11, c12] := by
 simp only [puts]
 have := (((((((((((((h.set 0 c0).set 1 c1).set 2 c2).set 3 c3).set 4 c4).set 5 c5).set 6 c6).set 7 c7).set 8 c8).set 9 c9).set 10 c10).set 11 c11).set 12 c12)
 simpa using this

abbrev StM := ArrN × List MemD -> (ArrN × List MemD) × Int
def runT : List StM -> ArrN × List MemD -> (ArrN × List MemD) × Int
 | [], q => (q, 0)
 | f :: fs, q => if (f q).2 = 0 then runT fs (f q).1 else f q
def Thr (w : World) (B : Nat) (fm fd : List Nat) (ds : List (Int × List Int)) (q : ArrN × List MemD) (c : Int) (e : Ending) (w' : World) : Prop :=
 ∃ (bm bd : Option Addr) (cm cd : Nat) (fm' fd' : List Nat), e = .returned (.tuple #[.agg (arrC q.1 (.slice bm q.2.length cm) (.slice bd ds.length cd)), .int .i64 c]) /\ (tMemS 109 51).Mine w' [.slice bm q.2.length cm] q.2 fm' /\ (tWrS 82).Mine w' [.slice bd ds.length cd] ds fd' /\ (∀ b ∈ fm', b ∉ fd') /\ (∀ b ∈ fm', b ∈ fm ∨ w.heap.size <= b) /\ (∀ b ∈ fd', b ∈ fd ∨ w.heap.size <= b) /\ Turned [B] w w'
theorem runT_good {fs : List StM} {q : ArrN × List MemD} {j : Nat} {f : StM} (hf : fs[j]? = some f) (h : (f q).2 = 0) : runT (fs.drop j) q = runT (fs.drop (j + 1)) (f q).1 := by
 obtain ⟨hj, rfl⟩ := List.getElem?_eq_some_iff.1 hf
 rw [List.drop_eq_getElem_cons hj]
 exact if_pos h
theorem runT_end {fs : List StM} {q : ArrN × List MemD} {j : Nat} {f : StM} (hf : fs[j]? = some f) (h : (f q).2 ≠ 0) : runT (fs.drop j) q = f q := by
 obtain ⟨hj, rfl⟩ := List.getElem?_eq_some_iff.1 hf
 rw [List.drop_eq_getElem_cons hj]
 exact if_neg h
theorem thr_out {w W wr : World} {B R : Nat} {fm fd fm1 fd1 : List Nat} {y : ArrN} {ns : List MemD} {ds : List (Int × List Int)} {c : Int} {bm bd : Option Addr} {cm cd : Nat} {e : Ending} (hR : w.heap.size <= R) (hRW : R < W.heap.size) (hA : Below w.heap.size w W) (T : Turned [B] W wr) (he : e = .returned (.tuple #[.agg (arrC y (.slice bm ns.length cm) (.slice bd ds.length cd)), .int .i64 c]))
 (hm : (tMemS 109 51).Mine wr [.slice bm ns.length cm] ns fm1) (hd : (tWrS 82).Mine wr [.slice bd ds.length cd] ds fd1) (hr : ∀ b ∈ fm1, b ∉ fd1) (rm : ∀ b ∈ fm1, (b ∈ fm /\ b < w.heap.size) ∨ W.heap.size <= b) (rd : ∀ b ∈ fd1, (b ∈ fd /\ b < w.heap.size) ∨ W.heap.size <= b) : Thr w B fm fd ds (y, ns) c e (puts wr R [(0, .int .i64 y.id), (1, .int .i64 y.n), (2, .int .i64 y.s), (3, .slice bm ns.length cm), (4, .int .i64 y.lost), (5, .int .i64 y.built), (6, .int .i64 y.seq), (7, .int .i64 y.tail), (8, .int .i64 y.gen), (9, .slice bd ds.length cd), (10, .int .i64 y.fuse), (11, .bool y.down), (12, .bool y.broken)]) := by
 have hbt := puts_but R [(0, .int .i64 y.id), (1, .int .i64 y.n), (2, .int .i64 y.s), (3, .slice bm ns.length cm), (4, .int .i64 y.lost), (5, .int .i64 y.built), (6, .int .i64 y.seq), (7, .int .i64 y.tail), (8, .int .i64 y.gen), (9, .slice bd ds.length cd), (10, .int .i64 y.fuse), (11, .bool y.down), (12, .bool y.broken)] wr
 have z1 := hA.size
 have z2 := T.size
 refine ⟨bm, bd, cm, cd, fm1, fd1, he, hm.but hbt (fun b hb => ?_), hd.but hbt (fun b hb => ?_), hr, fun b hb => ?_, fun b hb => ?_, ⟨hbt.os.trans (T.os.trans hA.os), hbt.tape.trans (T.tape.trans hA.tape), hbt.output.trans (T.output.trans hA.output), Nat.le_trans (Nat.le_trans z1 z2) hbt.size, fun k hk hne => (hbt.block k (by omega) (by omega)).trans ((T.block k (by omega) hne).trans (hA.block k hk))⟩⟩
 . rcases rm b hb with h | h <;> omega
 . rcases rd b hb with h | h <;> omega
 . rcases rm b hb with h | h
   . exact .inl h.1
   exact .inr (by omega)
 rcases rd b hb with h | h
 . exact .inl h.1
 exact .inr (by omega)

theorem arr_len {x : ArrN} {ms : List MemD} {ds : List (Int × List Int)} (h : arrB x ms ds = true) : 3 <= x.n /\ x.n <= 5 /\ (ms.length : Int) = x.n := by
 unfold arrB memsB at h
 simp only [Bool.and_eq_true, geoB_iff, decide_eq_true_eq] at h
 exact ⟨h.1.1, h.1.2.1, h.2.2.1.2⟩
theorem ms_light {ns : List MemD} (h : MsOk ns) (hl : ns.length <= 5) : wtMemS ns <= 10005 := by
 have h1 := sumL_bound (ns.map wtMem) 2000 (fun y hy => by
  obtain ⟨d, hd, rfl⟩ := List.mem_map.1 hy
  obtain ⟨i, hi⟩ := List.mem_iff_getElem?.1 hd
  obtain ⟨ss, cs, f, bs⟩ := d
  exact memB_light (h i _ hi) f)
 rw [List.length_map] at h1
 unfold wtMemS
 omega
theorem markS_keeps {q : ArrN × List MemD} (h : MsOk q.2) (hf : q.1.fuse <= 1000) : MsOk (markS q).2 /\ (markS q).2.length = q.2.length := by
 obtain ⟨a, b, c⟩ := supsS_keeps (q := ({q.1 with gen := q.1.gen + 1}, q.2)) h hf q.2.length
 obtain ⟨a2, _, c2⟩ := syncS_keeps (q := supsS ({q.1 with gen := q.1.gen + 1}, q.2) q.2.length) a b.2.2.2.2.2.2.2.2.2.1 q.2.length
 exact ⟨a2, c2.trans c⟩
theorem checkS_keeps {q : ArrN × List MemD} (h : MsOk q.2) (hf : q.1.fuse <= 1000) : MsOk (checkS q).2 /\ (checkS q).2.length = q.2.length := by
 obtain ⟨a, b, c⟩ := syncS_keeps (q := q) h hf q.2.length
 unfold checkS
 split
 . exact ⟨a, c⟩
 obtain ⟨a2, c2⟩ := markS_keeps (q := ({(syncS q q.2.length).1 with tail := (syncS q q.2.length).1.seq}, (syncS q q.2.length).2)) a b.2.2.2.2.2.2.2.2.2.1
 exact ⟨a2, c2.trans c⟩

def spareT (ds : List (Int × List Int)) (q : ArrN × List MemD) : (ArrN × List MemD) × Int := (turnQ (spareK q.1 q.2 ds) (spareA q) q, turnC (spareK q.1 q.2 ds) (spareA q))
theorem runT_one (f : StM) (q : ArrN × List MemD) : runT [f] q = f q := by
 unfold runT
 by_cases h : (f q).2 = 0
 . rw [if_pos h]
   exact Prod.ext rfl h.symm
 rw [if_neg h]
def spareO (x : ArrN) (ms : List MemD) (ds : List (Int × List Int)) : ArrN × List MemD := (spareT ds (x, ms)).1
def spareC (x : ArrN) (ms : List MemD) (ds : List (Int × List Int)) : Int := (spareT ds (x, ms)).2
theorem spare_arr {x : ArrN} {ms : List MemD} {ds : List (Int × List Int)} (h : spareK x ms ds = 0) : arrB {x with built := 0} (ms.set x.lost.toNat (spareM x.s)) ds = true := by
 obtain ⟨ha, _, hl, hb, _⟩ := spare_zero h
 obtain ⟨p1, p2, p3, p4, p5, p6⟩ := arr_split.1 ha
 have g1 := geoB_iff.1 p1
 have h3 := mems_iff.1 p3
 have hlo := arr_lost ha
 have hne := lost_pos (.inl hl)
 have hlt : (x.lost.toNat : Int) = x.lost := by omega
 have hlen : ((newSS (6 + x.s)).length : Int) = 6 + x.s := by unfold newSS; rw [if_pos ⟨by omega, by omega⟩, List.length_replicate]; omega
 refine arr_split.2 ⟨p1, p2, ?_, p4, ?_, p6⟩
 . refine mems_set p3 rfl rfl (memB_new (by omega) (by omega)) hlen (fun h => by cases h) (fun i e hne he hf => ?_)
   exact (h3.1 i e he).2.2 hf
 unfold lostB6 at p5 ⊢
 simp only [Bool.and_eq_true, inB_iff, Bool.or_eq_true, Bool.not_eq_true', decide_eq_true_eq, decide_eq_false_iff_not] at p5 ⊢
 exact ⟨p5.1, ⟨by omega, by omega⟩, .inr trivial⟩
theorem spareA_light {x : ArrN} {ms : List MemD} {ds : List (Int × List Int)} (h : spareK x ms ds = 0) : MsOk (spareA (x, ms)).2 /\ (spareA (x, ms)).2.length = ms.length := by
 have ha := spare_arr h
 obtain ⟨fc, mk, _⟩ := arr_facts ha
 obtain ⟨a, c⟩ := markS_keeps (q := ({x with built := 0}, ms.set x.lost.toNat (spareM x.s))) mk fc
 exact ⟨a, c.trans (by simp)⟩
theorem light_keeps {x : ArrN} {ms : List MemD} {ds : List (Int × List Int)} {q : ArrN × List MemD} (h : arrB x ms ds = true) (hk : MsOk q.2) (hl : q.2.length = ms.length) (hw : wtWrS ds <= 2000000) : wtArr q.2 ds <= 2097152 := by
 have h1 := arr_len h
 have h2 := ms_light hk (by omega)
 unfold wtArr
 omega
theorem spareT_keeps {ds : List (Int × List Int)} {q : ArrN × List MemD} (hd : wtWrS ds <= 2000000) (hw : wtArr q.2 ds <= 2097152) : wtArr (spareT ds q).1.2 ds <= 2097152 := by
 unfold spareT turnQ
 dsimp only
 split
 . rename_i h
   obtain ⟨a, c⟩ := spareA_light h
   exact light_keeps (spare_zero h).1 a c hd
 exact hw
theorem Stp.from {w w1 w' : World} {B : Nat} {fm fd : List Nat} {ds : List (Int × List Int)} {q : ArrN × List MemD} {c : Int} {e : Ending} (h : Stp w1 B fm fd ds q c e w') (hb : Below w.heap.size w w1) : Stp w B fm fd ds q c e w' := by
 obtain ⟨he, fm', fd', h1, T, h2, h3⟩ := h
 have z := hb.size
 exact ⟨he, fm', fd', h1, ⟨T.os.trans hb.os, T.tape.trans hb.tape, T.output.trans hb.output, Nat.le_trans z T.size, fun k hk hn => (T.block k (by omega) hn).trans (hb.block k hk)⟩, fun b hb => by rcases h2 b hb with h | h; exact .inl h; exact .inr (by omega), fun b hb => by rcases h3 b hb with h | h; exact .inl h; exact .inr (by omega)⟩

def readOk (ss : List (List Int)) (cs : List (Int × List Int)) (f : Bool) (bs : List Int) (n : Int) : Bool := memB ss cs bs && (!f && (inB n 0 ((ss.length : Int) - 1) && !inL bs n))
def secAt (ss : List (List Int)) (n : Int) : List Int := ss.getD n.toNat []
def readD (ss : List (List Int)) (cs : List (Int × List Int)) (f : Bool) (bs : List Int) (n : Int) : List Int := if readOk ss cs f bs n = true then (lastW cs n).getD (secAt ss n) else []

theorem specReadSec_any (w : World) (E : TypeId) (a0 a1 a3 : Option Addr) (n0 c0 n1 c1 n3 c3 : Nat) (ss : List (List Int)) (cs : List (Int × List Int)) (f : Bool) (bs : List Int) (n : Int) (h0 : tIntSS.Rd w [.slice a0 n0 c0] ss) (h1 : (tWrS E).Rd w [.slice a1 n1 c1] cs) (h3 : tIntS.Rd w [.slice a3 n3 c3] bs) (hw : wtMem (ss, cs, f, bs) <= 2097152) :
 Calls Tryz.prog 153 #[.agg #[.slice a0 n0 c0, .slice a1 n1 c1, .bool f, .slice a3 n3 c3], .int .i64 n] w fun e w' => ∃ a' l c', e = .returned (.tuple #[.slice a' l c', .bool (readOk ss cs f bs n)]) /\ tIntS.Own w' w.heap.size w'.heap.size [.slice a' l c'] (readD ss cs f bs n) /\ Below w.heap.size w w' := by
 obtain ⟨hl0, _, hm0⟩ := row_length h0
 obtain ⟨hl1, _, hm1⟩ := row_length h1
 obtain ⟨hl3, _, hm3⟩ := row_length h3
 have hw3 : n3 <= 2097152 := by unfold wtMem at hw; simp only at hw; omega
 have hw0 : wtIntSS ss <= 2097152 := by unfold wtMem at hw; simp only at hw; omega
 have hw1 : wtWrS cs <= 2097152 := by unfold wtMem at hw; simp only at hw; omega
 have hn0 : n0 <= 2097152 := by unfold wtIntSS at hw0; omega
 have hn1 : n1 <= 2097152 := by unfold wtWrS at hw1; omega
 have hA : Below w.heap.size w (w.alloc (.cells #[.slice a0 n0 c0, .slice a1 n1 c1, .bool f, .slice a3 n3 c3] 51)) := (Below.refl _ _).alloc (Nat.le_refl _) _
 have xm := Box.new w 51 #[.slice a0 n0 c0, .slice a1 n1 c1, .bool f, .slice a3 n3 c3]
 have g0 := h0.below hA
 have g1 := h1.below hA
 have g3 := h3.below hA
 obtain ⟨q0, q1, q2, q3⟩ := xm.cells4
 have zm := xm.lt
 have fin : ∀ w1, Below w.heap.size w w1 -> tIntS.Own (w1.alloc (.cells #[] 3)) w.heap.size (w1.alloc (.cells #[] 3)).heap.size [.slice (some ⟨w1.heap.size, 0, none⟩) 0 0] [] /\ Below w.heap.size w (w1.alloc (.cells #[] 3)) := by
  intro w1 hb
  have hs := hb.size
  exact ⟨(own_ints (Owns.lit .i64 3 w1 [] 0 #[] rfl rfl (by unfold maxLen; omega))).widen hs (Nat.le_refl _), hb.alloc hb.size _⟩
 by_cases hM : memB ss cs bs = true
 . by_cases hf : f = true
   . subst hf
     have hro : readOk ss cs true bs n = false := by unfold readOk; rw [hM]; rfl
     have hrd : readD ss cs true bs n = [] := by unfold readD; rw [hro]; rfl
     rw [hro, hrd]
     clear hro hrd
     go_enter Tryz.func153, Tryz.ntmps153
     go_wp2_with fail
     generalize hW : w.alloc (.cells #[.slice a0 n0 c0, .slice a1 n1 c1, .bool true, .slice a3 n3 c3] 51) = W at hA g0 g1 g3 q0 q1 q2 q3 zm ⊢
     clear hW xm
     refine (specMemOk_any _ E _ _ _ _ _ _ _ _ _ ss cs true bs g0 g1 g3 hw).mono ?_
     rintro e w1 ⟨rfl, b1⟩
     have r0 := (b1.cell (p := ⟨w.heap.size, 0, none⟩) zm).trans q0
     have r1 := (b1.cell (p := ⟨w.heap.size, 1, none⟩) zm).trans q1
     have r2 := (b1.cell (p := ⟨w.heap.size, 2, none⟩) zm).trans q2
     have r3 := (b1.cell (p := ⟨w.heap.size, 3, none⟩) zm).trans q3
     have B1 := Below.andThen hA b1
     have z1 := Nat.lt_of_lt_of_le zm b1.size
     clear q0 q1 q2 q3
     go_wp2
     go_ret2
     exact ⟨_, _, _, rfl, (fin _ B1).1, (fin _ B1).2⟩
   have hf : f = false := by simpa using hf
   subst hf
   by_cases hI : inB n 0 ((n0 : Int) - 1) = true
   . by_cases hB : inL bs n = true
     . have hro : readOk ss cs false bs n = false := by unfold readOk; rw [hM, hl0, hI, hB]; rfl
       have hrd : readD ss cs false bs n = [] := by unfold readD; rw [hro]; rfl
       rw [hro, hrd]
       clear hro hrd
       go_enter Tryz.func153, Tryz.ntmps153
       go_wp2_with fail
       generalize hW : w.alloc (.cells #[.slice a0 n0 c0, .slice a1 n1 c1, .bool false, .slice a3 n3 c3] 51) = W at hA g0 g1 g3 q0 q1 q2 q3 zm ⊢
       clear hW xm
       refine (specMemOk_any _ E _ _ _ _ _ _ _ _ _ ss cs false bs g0 g1 g3 hw).mono ?_
       rintro e w1 ⟨rfl, b1⟩
       have r0 := (b1.cell (p := ⟨w.heap.size, 0, none⟩) zm).trans q0
       have r1 := (b1.cell (p := ⟨w.heap.size, 1, none⟩) zm).trans q1
       have r2 := (b1.cell (p := ⟨w.heap.size, 2, none⟩) zm).trans q2
       have r3 := (b1.cell (p := ⟨w.heap.size, 3, none⟩) zm).trans q3
       have B1 := Below.andThen hA b1
       have z1 := Nat.lt_of_lt_of_le zm b1.size
       clear q0 q1 q2 q3
       have gw : IntKind.i64.wrap ((n0 : Int) - 1) = (n0 : Int) - 1 := IntWalk.i64_in _ (by omega)
       go_wp2_with fail
       refine (l1In_any _ _ _ _).mono ?_
       rintro e w2 ⟨rfl, hw2⟩
       subst w2
       have k3 := g3.below b1
       go_wp2_with fail
       refine (l2Has_any _ _ _ _ bs _ hl3 (ints_rd k3).1 hw3).mono ?_
       rintro e w3 ⟨rfl, s3⟩
       have B3 := Below.andSame B1 s3
       go_wp2
       go_ret2
       exact ⟨_, _, _, rfl, (fin _ B3).1, (fin _ B3).2⟩
     have hB : inL bs n = false := by simpa using hB
     have hro : readOk ss cs false bs n = true := by unfold readOk; rw [hM, hl0, hI, hB]; rfl
     have hrd : readD ss cs false bs n = (lastW cs n).getD (secAt ss n) := by unfold readD; rw [hro]; rfl
     rw [hro, hrd]
     clear hro hrd
     have hI' : 0 <= n /\ n <= (n0 : Int) - 1 := by unfold inB at hI; simpa using hI
     obtain ⟨k, rfl⟩ : ∃ k : Nat, n = (k : Int) := ⟨n.toNat, by omega⟩
     have hk : k < n0 := by omega
     go_enter Tryz.func153, Tryz.ntmps153
     go_wp2_with fail
     generalize hW : w.alloc (.cells #[.slice a0 n0 c0, .slice a1 n1 c1, .bool false, .slice a3 n3 c3] 51) = W at hA g0 g1 g3 q0 q1 q2 q3 zm ⊢
     clear hW xm
     refine (specMemOk_any _ E _ _ _ _ _ _ _ _ _ ss cs false bs g0 g1 g3 hw).mono ?_
     rintro e w1 ⟨rfl, b1⟩
     have r0 := (b1.cell (p := ⟨w.heap.size, 0, none⟩) zm).trans q0
     have r1 := (b1.cell (p := ⟨w.heap.size, 1, none⟩) zm).trans q1
     have r2 := (b1.cell (p := ⟨w.heap.size, 2, none⟩) zm).trans q2
     have r3 := (b1.cell (p := ⟨w.heap.size, 3, none⟩) zm).trans q3
     have B1 := Below.andThen hA b1
     have z1 := Nat.lt_of_lt_of_le zm b1.size
     clear q0 q1 q2 q3
     have gw : IntKind.i64.wrap ((n0 : Int) - 1) = (n0 : Int) - 1 := IntWalk.i64_in _ (by omega)
     go_wp2_with fail
     refine (l1In_any _ _ _ _).mono ?_
     rintro e w2 ⟨rfl, hw2⟩
     subst w2
     have k3 := g3.below b1
     go_wp2_with fail
     refine (l2Has_any _ _ _ _ bs _ hl3 (ints_rd k3).1 hw3).mono ?_
     rintro e w3 ⟨rfl, s3⟩
     have B3 := Below.andSame B1 s3
     have m0 := (s3.cell _).trans r0
     have m1 := (s3.cell _).trans r1
     have b3 := Below.andSame b1 s3
     have y1 := g1.below b3
     rcases rows_at rfl g0 with h0' | ⟨b, off, rfl, hbl, hcs⟩
     . omega
     have hdj : ss[k]? = some (ss[k]'(by omega)) := List.getElem?_eq_getElem (by omega)
     generalize ss[k]'(by omega) = x at hdj
     have hil := inner_le hdj
     obtain ⟨v, hv, hrv⟩ := hcs k x hdj
     obtain ⟨av, cv, rfl⟩ := row_shape hrv
     have mv := (b3.cell (p := ⟨b, off + k, none⟩) hbl).trans hv
     have hrx := hrv.below b3
     have hgx : secAt ss (k : Int) = x := by unfold secAt; rw [Int.toNat_natCast, List.getD_eq_getElem?_getD, hdj]; rfl
     have HGX := hidden hgx
     have HY := hidden y1
     have HX := hidden hrx
     have HB3 := hidden B3
     have i1 : (0 : Int) <= (k : Int) := by omega
     have i2 : (k : Int) < (n0 : Int) := by omega
     clear hcs hdj hv hrv hgx y1 hrx B3 b3 r0 r1 r2 r3 g0 g1 g3 k3 B1 b1 s3 hA fin hB hI hI' hM
     go_wp2
     go_loopw [6, 7] (fun sv i wr => ∃ (j : Nat) (aj : Option Addr) (lj cj : Nat), j <= n1 /\ i = .int .i64 j /\ sv = .slice aj lj cj /\ tIntS.Rd w3 [.slice aj lj cj] ((lastW (cs.take j) (k : Int)).getD x) /\ lj <= 2097152 /\ Same w3 wr) (fun _ i _ => n1 - (intOf i).toNat)
     case atStart => exact ⟨0, av, x.length, cv, Nat.zero_le _, rfl, rfl, HX.out, by omega, Same.refl _⟩
     obtain ⟨j, aj, lj, cj, hj, rfl, rfl, hrj, hlj, hs⟩ := hrel
     have p1 := (hs.cell _).trans m1
     have HRJ := hidden hrj
     by_cases hjn : j < n1
     . rcases pairs_at rfl HY.out with h0' | ⟨bb, ob, rfl, hbb, hcs⟩
       . omega
       have hdj : cs[j]? = some (cs[j]'(by omega)) := List.getElem?_eq_getElem (by omega)
       have htk : cs.take (j + 1) = cs.take j ++ [cs[j]'(by omega)] := List.take_succ_eq_append_getElem (by omega)
       generalize cs[j]'(by omega) = y at hdj htk
       have hil2 := inner_le' hdj
       obtain ⟨v0, v1, hv0, hv1, hry⟩ := hcs j y hdj
       obtain ⟨rfl, hry'⟩ := wr_rd hry
       obtain ⟨ay, cy, rfl⟩ := row_shape hry'
       have u0 := (hs.cell ⟨bb, ob + j * 2, none⟩).trans hv0
       have u1 := (hs.cell ⟨bb, ob + j * 2 + 1, none⟩).trans hv1
       obtain ⟨y0, y1⟩ := y
       simp only at u0 u1 hry' hil2
       have hls := lastW_snoc (cs.take j) (y0, y1) (k : Int)
       rw [← htk] at hls
       have HRY := hidden hry'
       by_cases hy : y0 = (k : Int)
       . have HLS : Hid (lastW (cs.take (j + 1)) (k : Int) = some y1) := by unfold Hid; rw [hls]; simp [hy]
         subst hy
         clear hcs hdj hv0 hv1 hry hry' htk hls hrj
         go_wp2
         go_roundw
         case rel => exact ⟨j + 1, ay, y1.length, cy, by omega, by go_num, rfl, by rw [HLS.out]; exact HRY.out, by omega, hs⟩
         case measure => simp [intOf]; omega
       have HLS : Hid (lastW (cs.take (j + 1)) (k : Int) = lastW (cs.take j) (k : Int)) := by unfold Hid; rw [hls]; simp [hy]
       clear hcs hdj hv0 hv1 hry hry' htk hls hrj
       go_wp2
       go_roundw
       case rel => exact ⟨j + 1, aj, lj, cj, by omega, by go_num, rfl, by rw [HLS.out]; exact HRJ.out, hlj, hs⟩
       case measure => simp [intOf]; omega
     have e : j = n1 := by omega
     subst e
     rw [List.take_of_length_le (by omega)] at hrj
     have HF := hidden hrj
     have HZ : Hid ((lastW cs (k : Int)).getD (secAt ss (k : Int)) = (lastW cs (k : Int)).getD x) := by unfold Hid; rw [HGX.out]
     generalize (lastW cs (k : Int)).getD x = zs at hrj HF HZ
     obtain ⟨i0, hi, hz0, hz1, hz2⟩ := info_parts Tryz.info3
     have hBr := Below.andSame HB3.out hs
     have hsr := hBr.size
     have hO : Owns .i64 3 (wr.alloc (.cells #[] 3)) wr.heap.size (.slice (some ⟨wr.heap.size, 0, none⟩) 0 0) [] := Owns.lit .i64 3 wr [] 0 #[] rfl rfl (by unfold maxLen; omega)
     have hA2 : Below wr.heap.size wr (wr.alloc (.cells #[] 3)) := (Below.refl _ _).alloc (Nat.le_refl _) _
     obtain ⟨hr, hlz, _, _⟩ := ints_rd ((hrj.same hs).below hA2)
     have HO := hidden hO
     have HR := hidden hr
     have HA2 := hidden (Below.andThen hBr hA2)
     clear hO hr hA2 hBr HRJ
     match aj, hrj, HR, HF with
     | none, hrj, _, _ =>
      obtain ⟨rfl, rfl, rfl⟩ := row_nil hrj
      clear hrj
      go_wp2_with (at_builtin; refine wpList_append_own_none rfl _ _ 49 rfl wr.heap.size 3 i0 1 Tryz.underlying49 hi _ 0 [] rfl ?_ rfl ?_; exact HO.out)
      go_ret2
      exact ⟨_, _, _, rfl, by rw [HZ.out]; exact (own_ints HO.out).widen hsr (Nat.le_refl _), HA2.out⟩
     | some ad, hrj, HR, _ =>
      clear hrj
      go_wp2_with (at_builtin; refine wpList_app .i64 rfl _ _ 49 rfl wr.heap.size 3 i0 (.int .i64 0) 8 Tryz.underlying49 hi hz0 hz1 hz2 rfl _ [] rfl ?_ ad lj cj zs rfl hlz ?_ (by unfold maxLen; simp; omega) (by simp; omega) (by simp) ?_; exact HO.out; exact HR.out; intro v' w9 ho9 hb9; obtain ⟨a9, c9, hv9, _⟩ := ho9.shape; rw [List.nil_append, hlz] at hv9; rw [List.nil_append] at ho9; subst hv9)
      go_ret2
      exact ⟨_, _, _, rfl, by rw [HZ.out]; exact (own_ints ho9).widen hsr (Nat.le_refl _), HA2.out.trans (hb9.mono hsr)⟩
   have hI : inB n 0 ((n0 : Int) - 1) = false := by simpa using hI
   have hro : readOk ss cs false bs n = false := by unfold readOk; rw [hM, hl0, hI]; rfl
   have hrd : readD ss cs false bs n = [] := by unfold readD; rw [hro]; rfl
   rw [hro, hrd]
   clear hro hrd
   go_enter Tryz.func153, Tryz.ntmps153
   go_wp2_with fail
   generalize hW : w.alloc (.cells #[.slice a0 n0 c0, .slice a1 n1 c1, .bool false, .slice a3 n3 c3] 51) = W at hA g0 g1 g3 q0 q1 q2 q3 zm ⊢
   clear hW xm
   refine (specMemOk_any _ E _ _ _ _ _ _ _ _ _ ss cs false bs g0 g1 g3 hw).mono ?_
   rintro e w1 ⟨rfl, b1⟩
   have r0 := (b1.cell (p := ⟨w.heap.size, 0, none⟩) zm).trans q0
   have r1 := (b1.cell (p := ⟨w.heap.size, 1, none⟩) zm).trans q1
   have r2 := (b1.cell (p := ⟨w.heap.size, 2, none⟩) zm).trans q2
   have r3 := (b1.cell (p := ⟨w.heap.size, 3, none⟩) zm).trans q3
   have B1 := Below.andThen hA b1
   have z1 := Nat.lt_of_lt_of_le zm b1.size
   clear q0 q1 q2 q3
   have gw : IntKind.i64.wrap ((n0 : Int) - 1) = (n0 : Int) - 1 := IntWalk.i64_in _ (by omega)
   go_wp2_with fail
   refine (l1In_any _ _ _ _).mono ?_
   rintro e w2 ⟨rfl, hw2⟩
   subst w2
   go_wp2
   go_ret2
   exact ⟨_, _, _, rfl, (fin _ B1).1, (fin _ B1).2⟩
 have hM : memB ss cs bs = false := by simpa using hM
 have hro : readOk ss cs f bs n = false := by unfold readOk; rw [hM]; rfl
 have hrd : readD ss cs f bs n = [] := by unfold readD; rw [hro]; rfl
 rw [hro, hrd]
 clear hro hrd
 go_enter Tryz.func153, Tryz.ntmps153
 go_wp2_with fail
 generalize hW : w.alloc (.cells #[.slice a0 n0 c0, .slice a1 n1 c1, .bool f, .slice a3 n3 c3] 51) = W at hA g0 g1 g3 q0 q1 q2 q3 zm ⊢
 clear hW xm
 refine (specMemOk_any _ E _ _ _ _ _ _ _ _ _ ss cs f bs g0 g1 g3 hw).mono ?_
 rintro e w1 ⟨rfl, b1⟩
 have r0 := (b1.cell (p := ⟨w.heap.size, 0, none⟩) zm).trans q0
 have r1 := (b1.cell (p := ⟨w.heap.size, 1, none⟩) zm).trans q1
 have r2 := (b1.cell (p := ⟨w.heap.size, 2, none⟩) zm).trans q2
 have r3 := (b1.cell (p := ⟨w.heap.size, 3, none⟩) zm).trans q3
 have B1 := Below.andThen hA b1
 have z1 := Nat.lt_of_lt_of_le zm b1.size
 clear q0 q1 q2 q3
 go_wp2
 go_ret2
 exact ⟨_, _, _, rfl, (fin _ B1).1, (fin _ B1).2⟩

def dataN (x : Int) : Int := if 0 <= x /\ x <= 1099511627776 then x + 6 else -1
theorem implDataAt_any (w : World) (x : Int) : Calls Tryz.prog 133 #[.int .i64 x] w fun e w' => e = .returned (.int .i64 (dataN x)) /\ w' = w := by
 by_cases h : 0 <= x /\ x <= 1099511627776
 . have e2 : IntKind.i64.wrap (x + 2) = x + 2 := IntWalk.i64_in _ (by omega)
   have e4 : IntKind.i64.wrap (x + 2 + 4) = x + 2 + 4 := IntWalk.i64_in _ (by omega)
   have e3 : IntKind.i64.wrap (6 + x) = 6 + x := IntWalk.i64_in _ (by omega)
   have hv : dataN x = x + 6 := by unfold dataN; rw [if_pos h]
   have hi : inB x 0 1099511627776 = true := by unfold inB; simp; omega
   go_enter Tryz.func133, Tryz.ntmps133
   go_wp2_with fail
   refine (within_any _ _ _ _).mono ?_
   rintro e w1 ⟨rfl, rfl⟩
   rw [hi]
   go_wp2
   go_ret
   exact ⟨ret_int (by rw [hv]; omega), rfl⟩
 have hv : dataN x = -1 := by unfold dataN; rw [if_neg h]
 have hi : inB x 0 1099511627776 = false := by unfold inB; simp; omega
 go_enter Tryz.func133, Tryz.ntmps133
 go_wp2_with fail
 refine (within_any _ _ _ _).mono ?_
 rintro e w1 ⟨rfl, rfl⟩
 rw [hi]
 go_wp2
 go_ret
 exact ⟨ret_int (by first | (rw [hv]; done) | rfl | omega), rfl⟩

theorem specDataAt_any (w : World) (x : Int) : Calls Tryz.prog 92 #[.int .i64 x] w fun e w' => e = .returned (.int .i64 (dataN x)) /\ w' = w := by
 by_cases h : 0 <= x /\ x <= 1099511627776
 . have e2 : IntKind.i64.wrap (x + 2) = x + 2 := IntWalk.i64_in _ (by omega)
   have e4 : IntKind.i64.wrap (x + 2 + 4) = x + 2 + 4 := IntWalk.i64_in _ (by omega)
   have e3 : IntKind.i64.wrap (6 + x) = 6 + x := IntWalk.i64_in _ (by omega)
   have hv : dataN x = x + 6 := by unfold dataN; rw [if_pos h]
   have hi : inB x 0 1099511627776 = true := by unfold inB; simp; omega
   go_enter Tryz.func92, Tryz.ntmps92
   go_wp2_with fail
   refine (l1In_any _ _ _ _).mono ?_
   rintro e w1 ⟨rfl, rfl⟩
   rw [hi]
   go_wp2
   go_ret
   exact ⟨ret_int (by rw [hv]; omega), rfl⟩
 have hv : dataN x = -1 := by unfold dataN; rw [if_neg h]
 have hi : inB x 0 1099511627776 = false := by unfold inB; simp; omega
 go_enter Tryz.func92, Tryz.ntmps92
 go_wp2_with fail
 refine (l1In_any _ _ _ _).mono ?_
 rintro e w1 ⟨rfl, rfl⟩
 rw [hi]
 go_wp2
 go_ret
 exact ⟨ret_int (by first | (rw [hv]; done) | rfl | omega), rfl⟩

def memD (ms : List MemD) (m : Int) : MemD := ms.getD m.toNat ([], [], false, [])
def sec6 (ms : List MemD) (m s : Int) : List Int := readD (memD ms m).1 (memD ms m).2.1 (memD ms m).2.2.1 (memD ms m).2.2.2 (dataN s)
def has6 (x : ArrN) (ms : List MemD) (m s : Int) : Bool := liveB x ms m s && (readOk (memD ms m).1 (memD ms m).2.1 (memD ms m).2.2.1 (memD ms m).2.2.2 (dataN s) && decide ((sec6 ms m s).length = 1))
def word6 (x : ArrN) (ms : List MemD) (m s : Int) : Int := if has6 x ms m s = true then (sec6 ms m s).getD 0 0 else 0
theorem has6_live {x : ArrN} {ms : List MemD} {m s : Int} (h : liveB x ms m s = false) : has6 x ms m s = false := by unfold has6; rw [h]; rfl
theorem word6_no {x : ArrN} {ms : List MemD} {m s : Int} (h : has6 x ms m s = false) : word6 x ms m s = 0 := by unfold word6; rw [if_neg (by simp [h])]
theorem word6_of {x : ArrN} {ms : List MemD} {m s : Int} (h : has6 x ms m s = true) : word6 x ms m s = (sec6 ms m s).getD 0 0 := by unfold word6; rw [if_pos h]
theorem live_in {x : ArrN} {ms : List MemD} {m s : Int} (h : liveB x ms m s = true) : 0 <= m /\ m < (ms.length : Int) := by
 unfold liveB inB at h
 simp only [Bool.and_eq_true, decide_eq_true_eq] at h
 omega
theorem ret_word {x : ArrN} {ms : List MemD} {m s : Int} (h : has6 x ms m s = false) : Ending.returned (.tuple #[.int .i64 0, .bool false]) = .returned (.tuple #[.int .i64 (word6 x ms m s), .bool (has6 x ms m s)]) := by rw [word6_no h, h]

theorem l6Word_any (w : World) (E F : TypeId) (x : ArrN) (am ad : Option Addr) (nm cm nd cd : Nat) (ms : List MemD) (m s : Int) (h0 : (tMemS E F).Rd w [.slice am nm cm] ms) (hw : wtMemS ms <= 2097152) :
 Calls Tryz.prog 126 #[.agg #[.int .i64 x.id, .int .i64 x.n, .int .i64 x.s, .slice am nm cm, .int .i64 x.lost, .int .i64 x.built, .int .i64 x.seq, .int .i64 x.tail, .int .i64 x.gen, .slice ad nd cd, .int .i64 x.fuse, .bool x.down, .bool x.broken], .int .i64 m, .int .i64 s] w fun e w' => e = .returned (.tuple #[.int .i64 (word6 x ms m s), .bool (has6 x ms m s)]) /\ Below w.heap.size w w' := by
 obtain ⟨hl, hc, hm⟩ := row_length h0
 have hnm : nm <= 2097152 := by unfold wtMemS at hw; omega
 have hA := new_below w (.cells #[.int .i64 x.id, .int .i64 x.n, .int .i64 x.s, .slice am nm cm, .int .i64 x.lost, .int .i64 x.built, .int .i64 x.seq, .int .i64 x.tail, .int .i64 x.gen, .slice ad nd cd, .int .i64 x.fuse, .bool x.down, .bool x.broken] 33)
 have X := Box.new w 33 #[.int .i64 x.id, .int .i64 x.n, .int .i64 x.s, .slice am nm cm, .int .i64 x.lost, .int .i64 x.built, .int .i64 x.seq, .int .i64 x.tail, .int .i64 x.gen, .slice ad nd cd, .int .i64 x.fuse, .bool x.down, .bool x.broken]
 obtain ⟨k0, k1, k2, k3, k4, k5, k6, k7, k8, k9, k10, k11, k12⟩ := X.cells13
 have zA := X.lt
 have h1 := h0.below hA
 go_enter Tryz.func126, Tryz.ntmps126
 go_wp2_with fail
 generalize w.alloc (.cells #[.int .i64 x.id, .int .i64 x.n, .int .i64 x.s, .slice am nm cm, .int .i64 x.lost, .int .i64 x.built, .int .i64 x.seq, .int .i64 x.tail, .int .i64 x.gen, .slice ad nd cd, .int .i64 x.fuse, .bool x.down, .bool x.broken] 33) = W at hA X zA h1 k0 k1 k2 k3 k4 k5 k6 k7 k8 k9 k10 k11 k12 ⊢
 refine (specLiveAt_any _ E F x _ _ _ _ _ _ ms m s h1 hw).mono ?_
 rintro e w1 ⟨rfl, b1⟩
 have X1 := X.below b1 zA
 have B1 := Below.andThen hA b1
 have h2 := h1.below b1
 clear k0 k1 k2 k3 k4 k5 k6 k7 k8 k9 k10 k11 k12 X b1 hA zA h1
 obtain ⟨k0, k1, k2, k3, k4, k5, k6, k7, k8, k9, k10, k11, k12⟩ := X1.cells13
 cases hlv : liveB x ms m s
 . have HF := hidden (ret_word (has6_live hlv))
   go_wp2
   refine bodyPost_ret (v := .tuple #[.int .i64 0, .bool false]) (by simp [results, Tryz.results126, go_sem]) rfl ?_
   exact ⟨HF.out, B1⟩
 obtain ⟨m1, m2⟩ := live_in hlv
 obtain ⟨j, rfl⟩ := Int.eq_ofNat_of_zero_le m1
 rcases quads_at rfl h2 with h0' | ⟨b, off, rfl, hbl, hcs⟩
 . omega
 have hdj : ms[j]? = some (ms[j]'(by omega)) := List.getElem?_eq_getElem (by omega)
 generalize ms[j]'(by omega) = d at hdj
 obtain ⟨v0, v1, v2, v3, hv0, hv1, hv2, hv3, hrv⟩ := hcs j d hdj
 obtain ⟨a0, c0, a1, c1, a3, c3, ss, cs, f, bs, rfl, rfl, rfl, rfl, rfl, r0, r1, r3⟩ := mem_at hrv
 have hwm := Nat.le_trans (inner_leM hdj) hw
 have hmd : memD ms (j : Int) = (ss, cs, f, bs) := by unfold memD; rw [Int.toNat_natCast, List.getD_eq_getElem?_getD, hdj]; rfl
 have hsec : sec6 ms (j : Int) s = readD ss cs f bs (dataN s) := by unfold sec6; rw [hmd]
 have hhas : has6 x ms (j : Int) s = (readOk ss cs f bs (dataN s) && decide ((readD ss cs f bs (dataN s)).length = 1)) := by unfold has6; rw [hlv, hsec, hmd]; rfl
 have hwd : has6 x ms (j : Int) s = true -> word6 x ms (j : Int) s = (readD ss cs f bs (dataN s)).getD 0 0 := fun h => by rw [word6_of h, hsec]
 have HH := hidden hhas
 have HWD := hidden hwd
 have i1 : (0 : Int) <= (j : Int) := by omega
 have i2 : (j : Int) < (nm : Int) := by omega
 clear hcs hrv hdj hmd hsec hhas hwd m1 m2
 have zb : b < w1.heap.size := hbl
 have zx := X1.lt
 go_wp2_with fail
 refine wp_region_held_drew (S := fun w' => w'.cell? ⟨w.heap.size, 3, none⟩ = some (.slice (some ⟨b, off, none⟩) nm cm) /\ w'.cell? ⟨b, off + j * 4, none⟩ = some (.slice a0 ss.length c0) /\ w'.cell? ⟨b, off + j * 4 + 1, none⟩ = some (.slice a1 cs.length c1) /\ w'.cell? ⟨b, off + j * 4 + 2, none⟩ = some (.bool f) /\ w'.cell? ⟨b, off + j * 4 + 3, none⟩ = some (.slice a3 bs.length c3)) (by kernel_rfl) ?_ (fun hHeld => ?_)
 . exact ⟨k3, hv0, hv1, hv2, hv3⟩
 refine held_take (i := 0) (v := ?_) rfl (by kernel_rfl) (by kernel_rfl) (by kernel_rfl) (fun _ _ _ h => h) (by kernel_rfl) ?_ hHeld ?_
 rotate_left 1
 . (intro w hSw; (try dsimp only at hSw); go_split_ands; go_simp; first | done | with_reducible rfl)
 simp only [Act.put, List.setIfInBounds_toArray, List.set_cons_zero, List.set_cons_succ]
 refine held_take (i := 1) (v := ?_) rfl (by kernel_rfl) (by kernel_rfl) (by kernel_rfl) (fun _ _ _ h => h) (by kernel_rfl) ?_ hHeld ?_
 rotate_left 1
 . (intro w hSw; (try dsimp only at hSw); go_split_ands; go_simp; first | done | with_reducible rfl)
 simp only [Act.put, List.setIfInBounds_toArray, List.set_cons_zero, List.set_cons_succ]
 refine held_take (i := 2) (v := ?_) rfl (by kernel_rfl) (by kernel_rfl) (by kernel_rfl) (fun _ _ _ h => h) (by kernel_rfl) ?_ hHeld ?_
 rotate_left 1
 . (intro w hSw; (try dsimp only at hSw); go_split_ands; go_simp; first | done | with_reducible rfl)
 simp only [Act.put, List.setIfInBounds_toArray, List.set_cons_zero, List.set_cons_succ]
 refine held_take (i := 3) (v := ?_) rfl (by kernel_rfl) (by kernel_rfl) (by kernel_rfl) (fun _ _ _ h => h) (by kernel_rfl) ?_ hHeld ?_
 rotate_left 1
 . (intro w hSw; (try dsimp only at hSw); go_split_ands; go_simp; first | done | with_reducible rfl)
 simp only [Act.put, List.setIfInBounds_toArray, List.set_cons_zero, List.set_cons_succ]
 refine held_take (i := 4) (v := ?_) rfl (by kernel_rfl) (by kernel_rfl) (by kernel_rfl) (fun _ _ _ h => h) (by kernel_rfl) ?_ hHeld ?_
 rotate_left 1
 . (intro w hSw; (try dsimp only at hSw); go_split_ands; go_simp; first | done | with_reducible rfl)
 simp only [Act.put, List.setIfInBounds_toArray, List.set_cons_zero, List.set_cons_succ]
 refine held_take (i := 5) (v := ?_) rfl (by kernel_rfl) (by kernel_rfl) (by kernel_rfl) (fun _ _ _ h => h) (by kernel_rfl) ?_ hHeld ?_
 rotate_left 1
 . (intro w hSw; (try dsimp only at hSw); go_split_ands; go_simp; first | done | with_reducible rfl)
 simp only [Act.put, List.setIfInBounds_toArray, List.set_cons_zero, List.set_cons_succ]
 refine held_one (i := 6) (by kernel_rfl) rfl (by kernel_rfl) (fun K hK => ?_)
 go_simp
 refine (specDataAt_any _ _).mono ?_
 rintro e w2 ⟨rfl, hw2⟩
 subst hw2
 go_wp2_with fail
 clear hHeld
 refine hK.out _ _ ?_ (fun hHeld => ?_)
 . exact ⟨k3, hv0, hv1, hv2, hv3⟩
 clear hK K
 refine held_one (i := 7) (by kernel_rfl) rfl (by kernel_rfl) (fun K hK => ?_)
 go_simp
 refine (specReadSec_any _ E _ _ _ _ _ _ _ _ _ ss cs f bs (dataN s) r0.drew r1.drew r3.drew hwm).mono ?_
 rintro e w3 ⟨a', l, c', rfl, o3, b3⟩
 have b3' : Below w1.heap.size w1 w3 := (Below.refl w1.heap.size w1).drew.trans b3
 clear b3
 go_wp2_with fail
 clear hHeld
 refine hK.out _ _ ?_ (fun hHeld => ?_)
 . exact ⟨(b3'.cell (p := ⟨w.heap.size, 3, none⟩) zx).trans k3, (b3'.cell (p := ⟨b, off + j * 4, none⟩) zb).trans hv0, (b3'.cell (p := ⟨b, off + j * 4 + 1, none⟩) zb).trans hv1, (b3'.cell (p := ⟨b, off + j * 4 + 2, none⟩) zb).trans hv2, (b3'.cell (p := ⟨b, off + j * 4 + 3, none⟩) zb).trans hv3⟩
 clear hK K
 refine held_take (i := 8) (v := ?_) rfl (by kernel_rfl) (by kernel_rfl) (by kernel_rfl) (fun _ _ _ h => h) (by kernel_rfl) ?_ hHeld ?_
 rotate_left 1
 . (intro w hSw; (try dsimp only at hSw); go_split_ands; go_simp; first | done | with_reducible rfl)
 simp only [Act.put, List.setIfInBounds_toArray, List.set_cons_zero, List.set_cons_succ]
 refine held_take (i := 9) (v := ?_) rfl (by kernel_rfl) (by kernel_rfl) (by kernel_rfl) (fun _ _ _ h => h) (by kernel_rfl) ?_ hHeld ?_
 rotate_left 1
 . (intro w hSw; (try dsimp only at hSw); go_split_ands; go_simp; first | done | with_reducible rfl)
 simp only [Act.put, List.setIfInBounds_toArray, List.set_cons_zero, List.set_cons_succ]
 refine held_take (i := 10) (v := ?_) rfl (by kernel_rfl) (by kernel_rfl) (by kernel_rfl) (fun _ _ _ h => h) (by kernel_rfl) ?_ hHeld ?_
 rotate_left 1
 . (intro w hSw; (try dsimp only at hSw); go_split_ands; go_simp; first | done | with_reducible rfl)
 simp only [Act.put, List.setIfInBounds_toArray, List.set_cons_zero, List.set_cons_succ]
 refine held_take (i := 11) (v := ?_) rfl (by kernel_rfl) (by kernel_rfl) (by kernel_rfl) (fun _ _ _ h => h) (by kernel_rfl) ?_ hHeld ?_
 rotate_left 1
 . (intro w hSw; (try dsimp only at hSw); go_split_ands; go_simp; first | done | with_reducible rfl)
 simp only [Act.put, List.setIfInBounds_toArray, List.set_cons_zero, List.set_cons_succ]
 refine held_take (i := 12) (v := ?_) rfl (by kernel_rfl) (by kernel_rfl) (by kernel_rfl) (fun _ _ _ h => h) (by kernel_rfl) ?_ hHeld ?_
 rotate_left 1
 . (intro w hSw; (try dsimp only at hSw); go_split_ands; go_simp; first | done | with_reducible rfl)
 simp only [Act.put, List.setIfInBounds_toArray, List.set_cons_zero, List.set_cons_succ]
 refine wpAnyH_done (by kernel_rfl) ?_ _
 clear hHeld
 have B3 := Below.andThen B1 b3'
 obtain ⟨rd3, hl3, _, _⟩ := ints_rd o3.rd
 clear o3 b3' r0 r1 r3 hv0 hv1 hv2 hv3 k0 k1 k2 k3 k4 k5 k6 k7 k8 k9 k10 k11 k12 X1 B1 h2
 generalize readD ss cs f bs (dataN s) = L at rd3 hl3 HH HWD
 generalize readOk ss cs f bs (dataN s) = ok at HH ⊢
 cases ok
 . have HF := hidden (ret_word (x := x) (ms := ms) (m := (j : Int)) (s := s) (by rw [HH.out]; rfl))
   go_wp2
   refine bodyPost_ret (v := .tuple #[.int .i64 0, .bool false]) (by simp [results, Tryz.results126, go_sem]) rfl ?_
   exact ⟨HF.out, B3⟩
 by_cases h1 : l = 1
 . subst h1
   obtain ⟨z, rfl⟩ : ∃ z, L = [z] := by
    match L, hl3 with
    | [z], _ => exact ⟨z, rfl⟩
   have hT : has6 x ms (j : Int) s = true := by rw [HH.out]; rfl
   have HF : Hid (Ending.returned (.tuple #[.int .i64 z, .bool true]) = .returned (.tuple #[.int .i64 (word6 x ms (j : Int) s), .bool (has6 x ms (j : Int) s)])) := by unfold Hid; rw [HWD.out hT, hT]; rfl
   rcases rd3.cases with h0'' | ⟨b', off', rfl, hb', hc'⟩
   . simp at h0''
   have q0 : w3.cell? ⟨b', off', none⟩ = some (.int .i64 z) := hc' 0 (by simp)
   clear hc' hT
   go_wp2
   refine bodyPost_ret (v := .tuple #[.int .i64 z, .bool true]) (by simp [results, Tryz.results126, go_sem]) rfl ?_
   exact ⟨HF.out, B3⟩
 have HF := hidden (ret_word (x := x) (ms := ms) (m := (j : Int)) (s := s) (by rw [HH.out, hl3]; simp [h1]))
 have e1 : ((l : Int) == 1) = false := by simp; omega
 have e2 : ((l : Int) != 1) = true := by simp; omega
 go_wp2
 refine bodyPost_ret (v := .tuple #[.int .i64 0, .bool false]) (by simp [results, Tryz.results126, go_sem]) rfl ?_
 exact ⟨HF.out, B3⟩

def xorL (l : List Int) : Int := l.foldl (fun n x => bits BinOp.xor IntKind.i64 n x) 0

theorem xorL_step {zs : List Int} {j : Nat} {x : Int} (h : j < zs.length) (hx : zs.getD j 0 = x) : bits BinOp.xor IntKind.i64 (xorL (zs.take j)) x = xorL (zs.take (j + 1)) := by
 have e : zs[j] = x := by rw [← hx]; simp [List.getElem?_eq_getElem h]
 unfold xorL
 rw [List.take_succ_eq_append_getElem h, List.foldl_append, e]
 rfl

def bv (n : Int) : BitVec 64 := BitVec.ofInt 64 n
def ofBv (v : BitVec 64) : Int := IntKind.i64.wrap (v.toNat : Int)
theorem xor_bv (a b : Int) : bits BinOp.xor IntKind.i64 a b = ofBv (bv a ^^^ bv b) := rfl
theorem bv_ofBv (v : BitVec 64) : bv (ofBv v) = v := by
 apply BitVec.eq_of_toNat_eq
 have := v.isLt
 unfold bv ofBv
 rw [BitVec.toNat_ofInt, IntKind.wrap_i64]
 omega
def xorV (l : List Int) : BitVec 64 := l.foldl (fun v x => v ^^^ bv x) 0

theorem xor_fold (l : List Int) (v : BitVec 64) : l.foldl (fun n x => bits BinOp.xor IntKind.i64 n x) (ofBv v) = ofBv (l.foldl (fun v x => v ^^^ bv x) v) := by
 induction l generalizing v with
 | nil => rfl
 | cons x l ih => rw [List.foldl_cons, List.foldl_cons, xor_bv, bv_ofBv, ih]
theorem xorL_bv (l : List Int) : xorL l = ofBv (xorV l) := by
 have h : ofBv 0 = 0 := by decide
 unfold xorL xorV
 rw [← h, xor_fold]

def skipL (zs : List Int) (k : Int) (j : Nat) : Int := (List.range j).foldl (fun (n : Int) (i : Nat) => if (i : Int) = k then n else bits BinOp.xor IntKind.i64 n (zs.getD i 0)) 0
theorem skipL_succ (zs : List Int) (k : Int) (j : Nat) : skipL zs k (j + 1) = if (j : Int) = k then skipL zs k j else bits BinOp.xor IntKind.i64 (skipL zs k j) (zs.getD j 0) := by
 unfold skipL
 rw [List.range_succ, List.foldl_append]
 rfl

theorem skip_bv (zs : List Int) (k : Int) (j : Nat) (hj : j <= zs.length) : ∃ v, skipL zs k j = ofBv v /\ xorV (zs.take j) = if 0 <= k /\ k < j then v ^^^ bv (zs.getD k.toNat 0) else v := by
 induction j with
 | zero => exact ⟨0, (by decide : (0 : Int) = ofBv 0), by rw [if_neg (by omega)]; rfl⟩
 | succ j ih =>
  obtain ⟨v, hv, hx⟩ := ih (by omega)
  have hs : xorV (zs.take (j + 1)) = xorV (zs.take j) ^^^ bv (zs.getD j 0) := by
   unfold xorV
   rw [List.take_succ_eq_append_getElem (by omega), List.foldl_append]
   simp [List.getElem?_eq_getElem (show j < zs.length by omega)]
  rw [skipL_succ, hs, hx]
  by_cases hk : (j : Int) = k
  . subst hk
    refine ⟨v, by rw [if_pos rfl]; exact hv, ?_⟩
    rw [if_neg (by omega), if_pos (by omega), Int.toNat_natCast]
  refine ⟨v ^^^ bv (zs.getD j 0), by rw [if_neg hk, hv, xor_bv, bv_ofBv], ?_⟩
  by_cases h1 : 0 <= k /\ k < j
  . rw [if_pos h1, if_pos (by omega), BitVec.xor_assoc, BitVec.xor_comm (bv (zs.getD k.toNat 0)), BitVec.xor_assoc]
  rw [if_neg h1, if_neg (by omega)]

theorem skip_all (zs : List Int) (k : Int) : skipL zs k zs.length = if 0 <= k /\ k < zs.length then bits BinOp.xor IntKind.i64 (xorL zs) (zs.getD k.toNat 0) else xorL zs := by
 obtain ⟨v, hv, hx⟩ := skip_bv zs k zs.length (Nat.le_refl _)
 rw [List.take_length] at hx
 rw [hv, xorL_bv, hx]
 by_cases h : 0 <= k /\ k < zs.length
 . rw [if_pos h, if_pos h, xor_bv, bv_ofBv, BitVec.xor_assoc, BitVec.xor_self, BitVec.xor_zero]
 rw [if_neg h, if_neg h]

theorem implXorOf_any (w : World) (a : Option Addr) (len cap : Nat) (zs : List Int) (hz : zs.length = len) (hr : Reads .i64 w a zs) (hlen : len <= 2097152) :
 Calls Tryz.prog 167 #[.slice a len cap] w fun e w' => e = .returned (.int .i64 (xorL zs)) /\ Same w w' := by
 go_enter Tryz.func167, Tryz.ntmps167
 go_wp2
 go_loop [3, 8] (fun n i => ∃ j : Nat, j <= len /\ i = .int .i64 j /\ n = .int .i64 (xorL (zs.take j))) (fun _ i => len - (intOf i).toNat)
 case atStart => exact ⟨0, Nat.zero_le _, rfl, rfl⟩
 obtain ⟨j, hj, rfl, rfl⟩ := hrel
 by_cases hlt : j < len
 . rcases hr.cases with h0 | ⟨b, off, rfl, hbl, hc⟩
   . omega
   have hc1 := hc j (by omega)
   have HX : Hid (bits BinOp.xor IntKind.i64 (xorL (zs.take j)) (zs.getD j 0) = xorL (zs.take (j + 1))) := xorL_step (by omega) rfl
   generalize zs.getD j 0 = x at hc1 HX
   clear hc
   go_wp2
   go_round
   case rel => exact ⟨j + 1, by omega, by go_num, by rw [HX.out]⟩
   case measure => simp [intOf]; omega
 go_wp2
 go_ret
 have e : j = len := by omega
 subst e
 exact ⟨ret_int (by rw [List.take_of_length_le (by omega)]), Same.refl _⟩

theorem implMissingWord_any (w : World) (a : Option Addr) (len cap : Nat) (zs : List Int) (k : Int) (hz : zs.length = len) (hr : Reads .i64 w a zs) (hlen : len <= 2097152) :
 Calls Tryz.prog 157 #[.slice a len cap, .int .i64 k] w fun e w' => e = .returned (.int .i64 (skipL zs k len)) /\ Same w w' := by
 have HS : Hid (skipL zs k len = if 0 <= k /\ k < len then bits BinOp.xor IntKind.i64 (xorL zs) (zs.getD k.toNat 0) else xorL zs) := by unfold Hid; rw [← hz]; exact skip_all zs k
 go_enter Tryz.func157, Tryz.ntmps157
 go_wp2_with fail
 refine (implXorOf_any _ _ _ _ zs hz hr hlen).mono ?_
 rintro e w1 ⟨rfl, hs⟩
 by_cases h0 : 0 <= k
 . by_cases h1 : k < len
   . obtain ⟨k, rfl⟩ := Int.eq_ofNat_of_zero_le h0
     rcases hr.cases with h2 | ⟨b, off, rfl, hbl, hc⟩
     . omega
     have hc1 := (hs.cell ⟨b, off + k, none⟩).trans (hc k (by omega))
     have HE : Hid (skipL zs k len = bits BinOp.xor IntKind.i64 (xorL zs) (zs.getD k 0)) := by unfold Hid; rw [HS.out, if_pos ⟨h0, h1⟩, Int.toNat_natCast]
     clear hc HS
     generalize zs.getD k 0 = x at hc1 HE
     go_wp2
     go_ret
     exact ⟨ret_int HE.out.symm, hs⟩
   have HE : Hid (skipL zs k len = xorL zs) := by unfold Hid; rw [HS.out, if_neg (by omega)]
   go_wp2
   go_ret
   exact ⟨ret_int HE.out.symm, hs⟩
 have HE : Hid (skipL zs k len = xorL zs) := by unfold Hid; rw [HS.out, if_neg (by omega)]
 go_wp2
 go_ret
 exact ⟨ret_int HE.out.symm, hs⟩

theorem specMissingWord_any (w : World) (a : Option Addr) (len cap : Nat) (zs : List Int) (k : Int) (hz : zs.length = len) (hr : Reads .i64 w a zs) (hlen : len <= 2097152) :
 Calls Tryz.prog 127 #[.slice a len cap, .int .i64 k] w fun e w' => e = .returned (.int .i64 (skipL zs k len)) /\ Same w w' := by
 go_enter Tryz.func127, Tryz.ntmps127
 go_wp2
 go_loop [5, 6] (fun n i => ∃ j : Nat, j <= len /\ i = .int .i64 j /\ n = .int .i64 (skipL zs k j)) (fun _ i => len - (intOf i).toNat)
 case atStart => exact ⟨0, Nat.zero_le _, rfl, rfl⟩
 obtain ⟨j, hj, rfl, rfl⟩ := hrel
 by_cases hlt : j < len
 . have hs := skipL_succ zs k j
   by_cases hk : (j : Int) = k
   . have hkb : ((j : Int) == k) = true := by simpa using hk
     have HX : Hid (skipL zs k (j + 1) = skipL zs k j) := by unfold Hid; rw [hs, if_pos hk]
     clear hs
     go_wp2
     go_round
     case rel => exact ⟨j + 1, by omega, by go_num, by rw [HX.out]⟩
     case measure => simp [intOf]; omega
   have hkb : ((j : Int) == k) = false := by simpa using hk
   have HX : Hid (skipL zs k (j + 1) = bits BinOp.xor IntKind.i64 (skipL zs k j) (zs.getD j 0)) := by unfold Hid; rw [hs, if_neg hk]
   clear hs
   rcases hr.cases with h0 | ⟨b, off, rfl, hbl, hc⟩
   . omega
   have hc1 := hc j (by omega)
   generalize zs.getD j 0 = x at hc1 HX
   clear hc
   go_wp2
   go_round
   case rel => exact ⟨j + 1, by omega, by go_num, by rw [HX.out]⟩
   case measure => simp [intOf]; omega
 go_wp2
 go_ret
 have e : j = len := by omega
 subst e
 exact ⟨rfl, Same.refl _⟩

def wordL (x : ArrN) (ms : List MemD) (s : Int) (j : Nat) : List Int := (List.range j).map fun (i : Nat) => word6 x ms (i : Int) s
def missL (x : ArrN) (ms : List MemD) (s : Int) (j : Nat) : List Nat := (List.range j).filter fun (i : Nat) => !has6 x ms (i : Int) s
def lostN : List Nat -> Int
 | [] => -1
 | p :: _ => (p : Int)
def wordsB (x : ArrN) (ms : List MemD) (s : Int) : Bool := decide ((missL x ms s x.n.toNat).length <= 1)
def words6 (x : ArrN) (ms : List MemD) (s : Int) : List Int :=
 match missL x ms s x.n.toNat with
 | [] => wordL x ms s x.n.toNat
 | [p] => (wordL x ms s x.n.toNat).set p (skipL (wordL x ms s x.n.toNat) (p : Int) x.n.toNat)
 | _ => []
theorem wordL_succ (x : ArrN) (ms : List MemD) (s : Int) (j : Nat) : wordL x ms s (j + 1) = wordL x ms s j ++ [word6 x ms (j : Int) s] := by unfold wordL; rw [List.range_succ, List.map_append]; rfl
theorem wordL_len (x : ArrN) (ms : List MemD) (s : Int) (j : Nat) : (wordL x ms s j).length = j := by unfold wordL; simp
theorem missL_yes {x : ArrN} {ms : List MemD} {s : Int} {j : Nat} (h : has6 x ms (j : Int) s = true) : missL x ms s (j + 1) = missL x ms s j := by unfold missL; rw [List.range_succ, List.filter_append]; simp [h]
theorem missL_no {x : ArrN} {ms : List MemD} {s : Int} {j : Nat} (h : has6 x ms (j : Int) s = false) : missL x ms s (j + 1) = missL x ms s j ++ [j] := by unfold missL; rw [List.range_succ, List.filter_append]; simp [h]
theorem missL_mono (x : ArrN) (ms : List MemD) (s : Int) (j k : Nat) (h : j <= k) : (missL x ms s j).length <= (missL x ms s k).length := by
 induction k with
 | zero =>
  obtain rfl : j = 0 := by omega
  exact Nat.le_refl _
 | succ k ih =>
  rcases Nat.lt_or_ge k j with h1 | h1
  . obtain rfl : j = k + 1 := by omega
    exact Nat.le_refl _
  refine Nat.le_trans (ih h1) ?_
  cases hh : has6 x ms (k : Int) s with
  | true => rw [missL_yes hh]; exact Nat.le_refl _
  | false => rw [missL_no hh]; simp
theorem missL_lt {x : ArrN} {ms : List MemD} {s : Int} {j p : Nat} (h : p ∈ missL x ms s j) : p < j := by
 unfold missL at h
 exact List.mem_range.1 (List.mem_filter.1 h).1
theorem words_two {x : ArrN} {ms : List MemD} {s : Int} {j : Nat} (h : 2 <= (missL x ms s j).length) (hj : j <= x.n.toNat) : wordsB x ms s = false /\ words6 x ms s = [] := by
 have h2 := Nat.le_trans h (missL_mono x ms s j x.n.toNat hj)
 refine ⟨by unfold wordsB; simp; omega, ?_⟩
 unfold words6
 match hm : missL x ms s x.n.toNat, h2 with
 | _ :: _ :: _, _ => rfl
theorem words_none {x : ArrN} {ms : List MemD} {s : Int} (h : missL x ms s x.n.toNat = []) : wordsB x ms s = true /\ words6 x ms s = wordL x ms s x.n.toNat := by
 refine ⟨by unfold wordsB; rw [h]; rfl, ?_⟩
 unfold words6
 rw [h]
theorem words_one {x : ArrN} {ms : List MemD} {s : Int} {p : Nat} (h : missL x ms s x.n.toNat = [p]) : wordsB x ms s = true /\ words6 x ms s = (wordL x ms s x.n.toNat).set p (skipL (wordL x ms s x.n.toNat) (p : Int) x.n.toNat) := by
 refine ⟨by unfold wordsB; rw [h]; rfl, ?_⟩
 unfold words6
 rw [h]
theorem owns_some6 {k : IntKind} {E : TypeId} {w : World} {lo : Nat} {v : Value} {zs : List Int} (h : Owns k E w lo v zs) (hn : 0 < zs.length) : ∃ g cap, v = .slice (some ⟨g, 0, none⟩) zs.length cap /\ lo <= g /\ g < w.heap.size /\ zs.length <= cap /\ cap <= maxLen := by
 rcases h.2 with ⟨_, h0⟩ | ⟨g, cap, cur, hv, hb, hg, hnc, hcm, _⟩
 . omega
 exact ⟨g, cap, hv, hb, (Array.getElem?_eq_some_iff.1 hg).1, hnc, hcm⟩
theorem list_cases {l : List Nat} (h : l.length <= 1) : l = [] ∨ ∃ p, l = [p] := by
 match l, h with
 | [], _ => exact .inl rfl
 | [p], _ => exact .inr ⟨p, rfl⟩

theorem l6Words_any (w : World) (E F : TypeId) (x : ArrN) (am ad : Option Addr) (nm cm nd cd : Nat) (ms : List MemD) (s : Int) (h0 : (tMemS E F).Rd w [.slice am nm cm] ms) (hw : wtMemS ms <= 2097152) (hg : geoB x.n x.s = true) :
 Calls Tryz.prog 90 #[.agg #[.int .i64 x.id, .int .i64 x.n, .int .i64 x.s, .slice am nm cm, .int .i64 x.lost, .int .i64 x.built, .int .i64 x.seq, .int .i64 x.tail, .int .i64 x.gen, .slice ad nd cd, .int .i64 x.fuse, .bool x.down, .bool x.broken], .int .i64 s] w fun e w' => ∃ a' l' c', e = .returned (.tuple #[.slice a' l' c', .bool (wordsB x ms s)]) /\ tIntS.Own w' w.heap.size w'.heap.size [.slice a' l' c'] (words6 x ms s) /\ Below w.heap.size w w' := by
 obtain ⟨g1, g2, g3, g4⟩ := geoB_iff.1 hg
 obtain ⟨n, hn⟩ : ∃ n : Nat, x.n = (n : Int) := ⟨x.n.toNat, by omega⟩
 have hnt : x.n.toNat = n := by omega
 have HN := hidden hn
 have HNT := hidden hnt
 have hn5 : n <= 5 := by omega
 clear hn hnt
 obtain ⟨i0, hi, hz0, hz1, hz2⟩ := info_parts Tryz.info3
 have hA := new_below w (.cells #[.int .i64 x.id, .int .i64 x.n, .int .i64 x.s, .slice am nm cm, .int .i64 x.lost, .int .i64 x.built, .int .i64 x.seq, .int .i64 x.tail, .int .i64 x.gen, .slice ad nd cd, .int .i64 x.fuse, .bool x.down, .bool x.broken] 33)
 have X := Box.new w 33 #[.int .i64 x.id, .int .i64 x.n, .int .i64 x.s, .slice am nm cm, .int .i64 x.lost, .int .i64 x.built, .int .i64 x.seq, .int .i64 x.tail, .int .i64 x.gen, .slice ad nd cd, .int .i64 x.fuse, .bool x.down, .bool x.broken]
 have zA := X.lt
 have h1 := h0.below hA
 go_enter Tryz.func90, Tryz.ntmps90
 go_wp2
 have zW : (w.alloc (.cells #[.int .i64 x.id, .int .i64 x.n, .int .i64 x.s, .slice am nm cm, .int .i64 x.lost, .int .i64 x.built, .int .i64 x.seq, .int .i64 x.tail, .int .i64 x.gen, .slice ad nd cd, .int .i64 x.fuse, .bool x.down, .bool x.broken] 33)).heap.size = w.heap.size + 1 := by simp
 have ZW := hidden zW
 clear zW
 generalize w.alloc (.cells #[.int .i64 x.id, .int .i64 x.n, .int .i64 x.s, .slice am nm cm, .int .i64 x.lost, .int .i64 x.built, .int .i64 x.seq, .int .i64 x.tail, .int .i64 x.gen, .slice ad nd cd, .int .i64 x.fuse, .bool x.down, .bool x.broken] 33) = W at hA X zA h1 ZW ⊢
 have hO : Owns .i64 3 (W.alloc (.cells #[] 3)) W.heap.size (.slice (some ⟨W.heap.size, 0, none⟩) 0 0) [] := Owns.lit .i64 3 W [] 0 #[] rfl rfl (by unfold maxLen; omega)
 go_loopw [6, 7, 8] (fun v lo i wr => ∃ j : Nat, j <= n /\ i = .int .i64 j /\ lo = .int .i64 (lostN (missL x ms s j)) /\ (missL x ms s j).length <= 1 /\ Owns .i64 3 wr W.heap.size v (wordL x ms s j) /\ Below W.heap.size W wr) (fun _ _ i _ => n - (intOf i).toNat)
 case atStart => exact ⟨0, Nat.zero_le _, rfl, rfl, Nat.zero_le _, by first | exact hO | (rw [ZW.out] at hO; rw [ZW.out]; exact hO), (Below.refl _ _).alloc (Nat.le_refl _) _⟩
 obtain ⟨j, hj, rfl, rfl, hm1, ho, hb⟩ := hrel
 have Xr := X.below hb zA
 obtain ⟨k0, k1, k2, k3, k4, k5, k6, k7, k8, k9, k10, k11, k12⟩ := Xr.cells13
 have zs := hb.size
 by_cases hjn : j < n
 . have hlt : (j : Int) < x.n := by have := HN.out; omega
   go_wp2_with fail
   refine (l6Word_any _ E F x _ _ _ _ _ _ ms (j : Int) s (h1.below hb) hw).mono ?_
   rintro e w1 ⟨rfl, b1⟩
   have X1 := Xr.below b1 Xr.lt
   have B1 := hb.trans (b1.mono hb.size)
   have o1 := ho.below b1 (Nat.le_refl _)
   have z1 := b1.size
   clear k0 k1 k2 k3 k4 k5 k6 k7 k8 k9 k10 k11 k12 Xr b1 ho hb
   have hs1 := wordL_succ x ms s j
   have hlen := wordL_len x ms s j
   cases hh : has6 x ms (j : Int) s
   . have hmn := missL_no hh
     rcases list_cases hm1 with h00 | ⟨p, hp⟩
     . have hl0 : lostN (missL x ms s j) = -1 := by rw [h00]; rfl
       have hl1 : lostN (missL x ms s (j + 1)) = (j : Int) := by rw [hmn, h00]; rfl
       have hc1 : (missL x ms s (j + 1)).length <= 1 := by rw [hmn, h00]; exact Nat.le_refl _
       have HL1 := hidden hl1
       have HC1 := hidden hc1
       rw [hl0]
       clear hmn h00 hl0 hl1 hc1
       generalize word6 x ms (j : Int) s = y at hs1 ⊢
       have HS := hidden hs1
       clear hs1
       go_wp2_with (at_builtin; refine wpList_app .i64 (by rfl) _ _ 49 (by rfl) W.heap.size 3 i0 _ 8 Tryz.underlying49 hi hz0 hz1 hz2 rfl _ (wordL x ms s j) (by rfl) (o1.alloc _) ⟨w1.heap.size, 0, none⟩ 1 1 [y] (by rfl) rfl (Reads.new _ _ _ _ _ rfl) ?h1 ?h2 ?h3 ?_)
       case h1 => unfold maxLen; omega
       case h2 => omega
       case h3 => simp; omega
       intro v' w2 o2 b2
       have B2 := hidden ((B1.alloc B1.size (.cells #[.int .i64 y] 3)).trans b2)
       rw [← HS.out] at o2
       have O2 := hidden o2
       clear b2 o2 o1 B1
       go_wp2
       go_roundw
       case rel => exact ⟨j + 1, by omega, by go_num, by rw [HL1.out], HC1.out, O2.out, B2.out⟩
       case measure => simp [intOf]; omega
     have hl0 : lostN (missL x ms s j) = (p : Int) := by rw [hp]; rfl
     obtain ⟨t1, t2⟩ := words_two (x := x) (ms := ms) (s := s) (j := j + 1) (by rw [hmn, hp]; exact Nat.le_refl _) (by have := HNT.out; omega)
     have HT1 := hidden t1
     have HT2 := hidden t2
     rw [hl0]
     clear hmn hp hl0 t1 t2 hs1
     have hp0 : (0 : Int) <= (p : Int) := by omega
     have FO := hidden ((own_ints (Owns.lit .i64 3 w1 [] 0 #[] rfl rfl (by unfold maxLen; omega))).widen (lo' := w.heap.size) (by omega) (Nat.le_refl _))
     have FB := hidden (hA.trans ((B1.alloc B1.size (.cells #[] 3)).mono hA.size))
     go_wp2
     refine bodyPost_ret (v := .tuple #[.slice (some ⟨w1.heap.size, 0, none⟩) 0 0, .bool false]) (by simp [results, Tryz.results90, go_sem]) rfl ?_
     exact ⟨_, _, _, by rw [HT1.out], by rw [HT2.out]; exact FO.out, FB.out⟩
   have hmy := missL_yes hh
   have HL1 : Hid (lostN (missL x ms s (j + 1)) = lostN (missL x ms s j)) := by unfold Hid; rw [hmy]
   have HC1 : Hid ((missL x ms s (j + 1)).length <= 1) := by unfold Hid; rw [hmy]; exact hm1
   clear hmy
   generalize word6 x ms (j : Int) s = y at hs1 ⊢
   have HS := hidden hs1
   clear hs1
   go_wp2_with (at_builtin; refine wpList_app .i64 (by rfl) _ _ 49 (by rfl) W.heap.size 3 i0 _ 8 Tryz.underlying49 hi hz0 hz1 hz2 rfl _ (wordL x ms s j) (by rfl) (o1.alloc _) ⟨w1.heap.size, 0, none⟩ 1 1 [y] (by rfl) rfl (Reads.new _ _ _ _ _ rfl) ?h1 ?h2 ?h3 ?_)
   case h1 => unfold maxLen; omega
   case h2 => omega
   case h3 => simp; omega
   intro v' w2 o2 b2
   have B2 := hidden ((B1.alloc B1.size (.cells #[.int .i64 y] 3)).trans b2)
   rw [← HS.out] at o2
   have O2 := hidden o2
   clear b2 o2 o1 B1
   go_wp2
   go_roundw
   case rel => exact ⟨j + 1, by omega, by go_num, by rw [HL1.out], HC1.out, O2.out, B2.out⟩
   case measure => simp [intOf]; omega
 have ej : j = n := by omega
 subst ej
 have hge : x.n <= (j : Int) := by have := HN.out; omega
 have hlen := wordL_len x ms s j
 rcases list_cases hm1 with h00 | ⟨p, hp⟩
 . have hl0 : lostN (missL x ms s j) = -1 := by rw [h00]; rfl
   obtain ⟨t1, t2⟩ := words_none (x := x) (ms := ms) (s := s) (by rw [HNT.out]; exact h00)
   rw [HNT.out] at t2
   have HT1 := hidden t1
   have HT2 := hidden t2
   rw [hl0]
   clear h00 hl0 t1 t2
   obtain ⟨go, co, hv, hgl, hgh, hlc, hcm⟩ := owns_some6 ho (by have := HN.out; omega)
   rw [hlen] at hv hlc
   subst hv
   have FO := hidden ((own_ints ho).widen (lo' := w.heap.size) (by omega) (Nat.le_refl _))
   have FB := hidden (hA.trans (hb.mono hA.size))
   clear ho hb Xr hlen hm1 hcm hlc hj hjn hgh
   go_wp2
   refine bodyPost_ret (v := .tuple #[.slice (some ⟨go, 0, none⟩) j co, .bool true]) (by simp [results, Tryz.results90, go_sem]) rfl ?_
   exact ⟨_, _, _, by rw [HT1.out], by rw [HT2.out]; exact FO.out, FB.out⟩
 have hl0 : lostN (missL x ms s j) = (p : Int) := by rw [hp]; rfl
 have hpj : p < j := missL_lt (x := x) (ms := ms) (s := s) (by rw [hp]; simp)
 obtain ⟨t1, t2⟩ := words_one (x := x) (ms := ms) (s := s) (p := p) (by rw [HNT.out]; exact hp)
 rw [HNT.out] at t2
 have HT1 := hidden t1
 have HT2 := hidden t2
 rw [hl0]
 clear hp hl0 t1 t2
 have hp0 : (0 : Int) <= (p : Int) := by omega
 have hp1 : (p : Int) < (j : Int) := by omega
 obtain ⟨go, co, hv, hgl, hgh, hlc, hcm⟩ := owns_some6 ho (by omega)
 rw [hlen] at hv hlc
 subst hv
 go_wp2_with fail
 refine (specMissingWord_any _ _ _ _ (wordL x ms s j) (p : Int) hlen ho.reads (by omega)).mono ?_
 rintro e w1 ⟨rfl, hs1⟩
 have O1 := ho.own.same hs1
 have B1 := hb.trans (hs1.below _)
 have z1 := hs1.size
 obtain ⟨c1, f1, O2, t2⟩ := O1.store p hpj (skipL (wordL x ms s j) (p : Int) j)
 have FO := hidden ((own_ints O2.1).widen (lo' := w.heap.size) (by omega) (Nat.le_refl _))
 have FB := hidden (hA.trans ((B1.trans (t2.below (B := W.heap.size) (Nat.le_refl _) B1.size)).mono hA.size))
 generalize (wordL x ms s j).getD p 0 = y at c1
 generalize skipL (wordL x ms s j) (p : Int) j = q at FO FB HT2 ⊢
 clear O1 O2 t2 ho hb hs1 Xr
 go_wp2
 refine bodyPost_ret (v := .tuple #[.slice (some ⟨go, 0, none⟩) j co, .bool true]) (by simp [results, Tryz.results90, go_sem]) rfl ?_
 exact ⟨_, _, _, by rw [HT1.out], by rw [HT2.out]; exact FO.out, FB.out⟩

def okB6 (x : ArrN) (ms : List MemD) (ds : List (Int × List Int)) (s : Int) : Bool := arrB x ms ds && (!x.broken && inB s 0 (x.s - 1))
def wordsOk6 (x : ArrN) (ms : List MemD) (ds : List (Int × List Int)) (s : Int) : Bool := okB6 x ms ds s && wordsB {x with broken := false} ms s
def wordsL6 (x : ArrN) (ms : List MemD) (ds : List (Int × List Int)) (s : Int) : List Int := if okB6 x ms ds s = true then words6 {x with broken := false} ms s else []

theorem words6_len {x : ArrN} {ms : List MemD} {s : Int} (h : wordsB x ms s = true) : (words6 x ms s).length = x.n.toNat := by
 unfold wordsB at h
 rcases list_cases (of_decide_eq_true h) with h0 | ⟨p, hp⟩
 . rw [(words_none h0).2, wordL_len]
 rw [(words_one hp).2, List.length_set, wordL_len]

section
variable {P : Program} {ops : Array Oper} {Q : Exit -> Act -> World -> Prop} {S : World -> Prop}
theorem held_two {i i' : Nat} {o o' : Oper} {fuel : Nat} {l : Array Bool} {a : Act} {w : World} {tl tl' : List Oper} (hr : Region.ready .any ops l = [i, i']) (ho : ops.toList.drop i = o :: tl) (ho' : ops.toList.drop i' = o' :: tl') (hw : Region.wanted o (yielded ops a.tmps) = true) (hw' : Region.wanted o' (yielded ops a.tmps) = true)
 (h : ∀ K' : Act -> World -> Prop, Shut (∀ a w, S w -> (S w -> wpAnyH P .any ops Q S fuel (l.setIfInBounds i true) a w) -> K' a w) -> Oper.wp P o a w K' Q)
 (h' : ∀ K' : Act -> World -> Prop, Shut (∀ a w, S w -> (S w -> wpAnyH P .any ops Q S fuel (l.setIfInBounds i' true) a w) -> K' a w) -> Oper.wp P o' a w K' Q) : wpAnyH P .any ops Q S (fuel + 1) l a w :=
 wpAnyH_ready hr (by simp) (AllReadyH.cons (op_at ho) (fun K' hK => by rw [if_pos hw]; exact h K' hK) (AllReadyH.cons (op_at ho') (fun K' hK => by rw [if_pos hw']; exact h' K' hK) AllReadyH.nil))
end

def stepQ (q : ArrN × List MemD) : ArrN × List MemD := putS q q.1.lost.toNat (dataN q.1.built) [(words6 q.1 q.2 q.1.built).getD q.1.lost.toNat 0]
def stepA (q : ArrN × List MemD) : ArrN × List MemD := if wordsB q.1 q.2 q.1.built = true then (if (stepQ q).1.down = true then stepQ q else ({(stepQ q).1 with built := (stepQ q).1.built + 1}, (stepQ q).2)) else q
def stepC (q : ArrN × List MemD) : Int := if wordsB q.1 q.2 q.1.built = true then dn12 (stepQ q).1.down else 5

theorem l12Step_any (w : World) (B : Nat) (x : ArrN) (ms : List MemD) (ds : List (Int × List Int)) (fm fd : List Nat) (h : ArrAt w B x ms ds fm fd) (hf : x.fuse <= 1000) (hM : MsOk ms) (hg : geoB x.n x.s = true) (hwm : wtMemS ms <= 2097152) (m : Nat) (hlo : x.lost = (m : Int)) (hm : m < ms.length) (hml : (m : Int) < x.n) (hbu : 0 <= x.built /\ x.built <= 100) :
 Calls Tryz.prog 50 #[.pointer (some ⟨B, 0, none⟩)] w fun e w' => e = .returned (.int .i64 (stepC (x, ms))) /\ ∃ fm', ArrAt w' B (stepA (x, ms)).1 (stepA (x, ms)).2 ds fm' fd /\ Moved B fm w fm' w' := by
 obtain ⟨g1, g2, g3, g4⟩ := geoB_iff.1 hg
 have HA := hidden h
 have hlB := h.lt
 have hlm := h.ltm.1
 have HSC : Hid (stepC (x, ms) = if wordsB x ms x.built = true then dn12 (stepQ (x, ms)).1.down else 5) := rfl
 have HSA : Hid (stepA (x, ms) = if wordsB x ms x.built = true then (if (stepQ (x, ms)).1.down = true then stepQ (x, ms) else ({(stepQ (x, ms)).1 with built := (stepQ (x, ms)).1.built + 1}, (stepQ (x, ms)).2)) else (x, ms)) := rfl
 have HSQ : Hid (stepQ (x, ms) = putS (x, ms) m (dataN x.built) [(words6 x ms x.built).getD m 0]) := by unfold Hid stepQ; dsimp only; rw [hlo, Int.toNat_natCast]
 have HSN := hidden (doS_same (q := (x, ms)) m (fun d => wrM d (dataN x.built) [(words6 x ms x.built).getD m 0]) hf)
 obtain ⟨bm, bd, cm, cd, X, hmm, hdd, hr, r1, r2⟩ := h
 unfold arrC at X
 obtain ⟨k0, k1, k2, k3, k4, k5, k6, k7, k8, k9, k10, k11, k12⟩ := X.cells13
 have HM := hidden hmm.rd
 have HLO := hidden hlo
 clear hlo
 have hS : w.drew.cell? ⟨B, 0, none⟩ = some (.int .i64 x.id) /\ w.drew.cell? ⟨B, 1, none⟩ = some (.int .i64 x.n) /\ w.drew.cell? ⟨B, 2, none⟩ = some (.int .i64 x.s) /\ w.drew.cell? ⟨B, 3, none⟩ = some (.slice bm ms.length cm) /\ w.drew.cell? ⟨B, 4, none⟩ = some (.int .i64 x.lost) /\ w.drew.cell? ⟨B, 5, none⟩ = some (.int .i64 x.built) /\ w.drew.cell? ⟨B, 6, none⟩ = some (.int .i64 x.seq) /\ w.drew.cell? ⟨B, 7, none⟩ = some (.int .i64 x.tail) /\ w.drew.cell? ⟨B, 8, none⟩ = some (.int .i64 x.gen) /\ w.drew.cell? ⟨B, 9, none⟩ = some (.slice bd ds.length cd) /\ w.drew.cell? ⟨B, 10, none⟩ = some (.int .i64 x.fuse) /\ w.drew.cell? ⟨B, 11, none⟩ = some (.bool x.down) /\ w.drew.cell? ⟨B, 12, none⟩ = some (.bool x.broken) := ⟨k0, k1, k2, k3, k4, k5, k6, k7, k8, k9, k10, k11, k12⟩
 clear hmm hdd hr r1 r2
 go_enter Tryz.func50, Tryz.ntmps50
 go_wp2_with fail
 refine wp_region_held_drew (S := fun w' => w'.cell? ⟨B, 0, none⟩ = some (.int .i64 x.id) /\ w'.cell? ⟨B, 1, none⟩ = some (.int .i64 x.n) /\ w'.cell? ⟨B, 2, none⟩ = some (.int .i64 x.s) /\ w'.cell? ⟨B, 3, none⟩ = some (.slice bm ms.length cm) /\ w'.cell? ⟨B, 4, none⟩ = some (.int .i64 x.lost) /\ w'.cell? ⟨B, 5, none⟩ = some (.int .i64 x.built) /\ w'.cell? ⟨B, 6, none⟩ = some (.int .i64 x.seq) /\ w'.cell? ⟨B, 7, none⟩ = some (.int .i64 x.tail) /\ w'.cell? ⟨B, 8, none⟩ = some (.int .i64 x.gen) /\ w'.cell? ⟨B, 9, none⟩ = some (.slice bd ds.length cd) /\ w'.cell? ⟨B, 10, none⟩ = some (.int .i64 x.fuse) /\ w'.cell? ⟨B, 11, none⟩ = some (.bool x.down) /\ w'.cell? ⟨B, 12, none⟩ = some (.bool x.broken)) (by kernel_rfl) ?_ (fun hHeld => ?_)
 . exact hS
 refine held_t 0 hHeld ?_
 refine held_t 1 hHeld ?_
 refine held_t 2 hHeld ?_
 refine held_t 3 hHeld ?_
 refine held_t 4 hHeld ?_
 refine held_t 5 hHeld ?_
 refine held_t 6 hHeld ?_
 refine held_one (i := 7) (by kernel_rfl) rfl (by kernel_rfl) (fun K hK => ?_)
 go_simp
 refine (l6Words_any _ 109 51 x _ _ _ _ _ _ ms x.built HM.out.drew hwm hg).mono ?_
 rintro e w1 ⟨a1, l1, c1, rfl, o1, b1'⟩
 have b1 : Below w.heap.size w w1 := (Below.refl w.heap.size w).drew.trans b1'
 have o1b : tIntS.Own w1 w.heap.size w1.heap.size [.slice a1 l1 c1] (words6 x ms x.built) := o1
 have hS1 : w1.cell? ⟨B, 0, none⟩ = some (.int .i64 x.id) /\ w1.cell? ⟨B, 1, none⟩ = some (.int .i64 x.n) /\ w1.cell? ⟨B, 2, none⟩ = some (.int .i64 x.s) /\ w1.cell? ⟨B, 3, none⟩ = some (.slice bm ms.length cm) /\ w1.cell? ⟨B, 4, none⟩ = some (.int .i64 x.lost) /\ w1.cell? ⟨B, 5, none⟩ = some (.int .i64 x.built) /\ w1.cell? ⟨B, 6, none⟩ = some (.int .i64 x.seq) /\ w1.cell? ⟨B, 7, none⟩ = some (.int .i64 x.tail) /\ w1.cell? ⟨B, 8, none⟩ = some (.int .i64 x.gen) /\ w1.cell? ⟨B, 9, none⟩ = some (.slice bd ds.length cd) /\ w1.cell? ⟨B, 10, none⟩ = some (.int .i64 x.fuse) /\ w1.cell? ⟨B, 11, none⟩ = some (.bool x.down) /\ w1.cell? ⟨B, 12, none⟩ = some (.bool x.broken) := ⟨(b1.cell (p := ⟨B, 0, none⟩) hlB).trans k0, (b1.cell (p := ⟨B, 1, none⟩) hlB).trans k1, (b1.cell (p := ⟨B, 2, none⟩) hlB).trans k2, (b1.cell (p := ⟨B, 3, none⟩) hlB).trans k3, (b1.cell (p := ⟨B, 4, none⟩) hlB).trans k4, (b1.cell (p := ⟨B, 5, none⟩) hlB).trans k5, (b1.cell (p := ⟨B, 6, none⟩) hlB).trans k6, (b1.cell (p := ⟨B, 7, none⟩) hlB).trans k7, (b1.cell (p := ⟨B, 8, none⟩) hlB).trans k8, (b1.cell (p := ⟨B, 9, none⟩) hlB).trans k9, (b1.cell (p := ⟨B, 10, none⟩) hlB).trans k10, (b1.cell (p := ⟨B, 11, none⟩) hlB).trans k11, (b1.cell (p := ⟨B, 12, none⟩) hlB).trans k12⟩
 have OW := hidden o1b
 have B1 := hidden b1
 have z1 := b1.size
 clear o1 o1b b1 b1' hHeld
 go_wp2_with fail
 refine hK.out _ _ ?_ (fun hHeld => ?_)
 . exact hS1
 clear hK K
 refine held_t 8 hHeld ?_
 refine held_t 9 hHeld ?_
 refine held_t 10 hHeld ?_
 refine held_t 11 hHeld ?_
 refine held_t 12 hHeld ?_
 refine wpAnyH_done (by kernel_rfl) ?_ _
 clear hHeld hS hS1 k0 k1 k2 k3 k4 k5 k6 k7 k8 k9 k10 k11 k12 HM X
 have HA1 := hidden (HA.out.below B1.out)
 have MV1 := hidden ((Moved.refl B fm w).below B1.out)
 cases hwb : wordsB x ms x.built
 . have HV : Hid (stepA (x, ms) = (x, ms) /\ stepC (x, ms) = 5) := by unfold Hid; rw [HSA.out, HSC.out, hwb]; exact ⟨rfl, rfl⟩
   clear hwb
   go_wp2
   go_ret
   refine ⟨ret_int HV.out.2.symm, fm, ?_, MV1.out⟩
   rw [HV.out.1]
   exact HA1.out
 have hwl := words6_len hwb
 have HV : Hid (stepA (x, ms) = (if (stepQ (x, ms)).1.down = true then stepQ (x, ms) else ({(stepQ (x, ms)).1 with built := (stepQ (x, ms)).1.built + 1}, (stepQ (x, ms)).2)) /\ stepC (x, ms) = dn12 (stepQ (x, ms)).1.down) := by unfold Hid; rw [HSA.out, HSC.out, hwb]; exact ⟨rfl, rfl⟩
 clear hwb HSA HSC
 obtain ⟨hln, _⟩ := row_length OW.out.rd
 subst hln
 obtain ⟨fw, mw, rw1⟩ := OW.out.mine
 generalize words6 x ms x.built = ps at mw OW hwl HSQ HSN ⊢
 have hmp : m < ps.length := by omega
 clear hwl
 rcases (ints_rd mw.rd).1.cases with h0 | ⟨gb, off, hgo, hgl, hcz⟩
 . omega
 subst hgo
 have hcm := hcz m hmp
 generalize hy : ps.getD m 0 = y at hcm HSQ HSN
 have HY := hidden hy
 clear hy
 obtain ⟨bm, bd, cm, cd, X1, _⟩ := HA1.out
 unfold arrC at X1
 obtain ⟨k0, k1, k2, k3, k4, k5, k6, k7, k8, k9, k10, k11, k12⟩ := X1.cells13
 rw [HLO.out] at k4
 have hT : w1.drew.cell? ⟨B, 4, none⟩ = some (.int .i64 (m : Int)) /\ w1.drew.cell? ⟨B, 5, none⟩ = some (.int .i64 x.built) /\ w1.drew.cell? ⟨gb, off + m, none⟩ = some (.int .i64 y) := ⟨k4, k5, hcm⟩
 have i1 : (0 : Int) <= (m : Int) := by omega
 have i3 : (m : Int) < (ps.length : Int) := by omega
 clear k0 k1 k2 k3 k6 k7 k8 k9 k10 k11 k12 hcz X1
 go_wp2_with fail
 refine wp_region_held_drew (S := fun w' => w'.cell? ⟨B, 4, none⟩ = some (.int .i64 (m : Int)) /\ w'.cell? ⟨B, 5, none⟩ = some (.int .i64 x.built) /\ w'.cell? ⟨gb, off + m, none⟩ = some (.int .i64 y)) (by kernel_rfl) ?_ (fun hHeld => ?_)
 . exact hT
 refine held_t 0 hHeld ?_
 refine held_t 1 hHeld ?_
 refine held_t 2 hHeld ?_
 refine held_t 3 hHeld ?_
 refine held_t 4 hHeld ?_
 refine held_t 5 hHeld ?_
 refine held_t 6 hHeld ?_
 refine held_t 7 hHeld ?_
 refine held_t 8 hHeld ?_
 refine held_t 10 hHeld ?_
 refine held_t 11 hHeld ?_
 refine held_t 12 hHeld ?_
 refine held_t 13 hHeld ?_
 refine held_t 14 hHeld ?_
 refine held_t 15 hHeld ?_
 refine held_t 16 hHeld ?_
 have bn := new_below w1 (.cells #[.int .i64 y] 3)
 have zn : (w1.alloc (.cells #[.int .i64 y] 3)).heap.size = w1.heap.size + 1 := by simp
 have hT2 : (w1.alloc (.cells #[.int .i64 y] 3)).drew.cell? ⟨B, 4, none⟩ = some (.int .i64 (m : Int)) /\ (w1.alloc (.cells #[.int .i64 y] 3)).drew.cell? ⟨B, 5, none⟩ = some (.int .i64 x.built) /\ (w1.alloc (.cells #[.int .i64 y] 3)).drew.cell? ⟨gb, off + m, none⟩ = some (.int .i64 y) := ⟨(bn.cell (p := ⟨B, 4, none⟩) (show B < w1.heap.size by omega)).trans k4, (bn.cell (p := ⟨B, 5, none⟩) (show B < w1.heap.size by omega)).trans k5, (bn.cell (p := ⟨gb, off + m, none⟩) hgl).trans hcm⟩
 have osec := own_ints (Owns.lit .i64 3 w1 [y] 1 #[.int .i64 y] rfl rfl (by unfold maxLen; omega))
 obtain ⟨fs, msec, rs⟩ := osec.mine
 have HA2 := hidden (HA1.out.below bn).drew
 have MV2 := hidden (MV1.out.below bn).drew
 have MS : Hid (tIntS.Mine (w1.alloc (.cells #[.int .i64 y] 3)).drew [.slice (some ⟨w1.heap.size, 0, none⟩) 1 1] [y] fs) := msec.below ((Below.refl _ _).drew)
 have hfl := HA1.out.ltm.1
 have hmw := (mw.below bn)
 have MW := hidden (hmw.below ((Below.refl _ _).drew))
 have RW := hidden rw1
 have zBs : B < (w1.alloc (.cells #[.int .i64 y] 3)).heap.size := by omega
 have HPT := hidden (l7Put_any (w1.alloc (.cells #[.int .i64 y] 3)).drew B x ms ds fm fd HA2.out hf hM m hm (dataN x.built) (some ⟨w1.heap.size, 0, none⟩) 1 1 [y] fs MS.out (fun hm' => by have := (rs _ hm').1; omega) (fun b hb hm' => by have h1 := (rs b hb).1; have h2 := hfl b hm'; omega) (by omega))
 clear osec msec rs bn hmw
 refine held_two (i := 9) (i' := 17) (by kernel_rfl) rfl rfl (by kernel_rfl) (by kernel_rfl) (fun K hK => ?_) (fun K hK => ?_)
 . go_simp
   refine (specDataAt_any _ x.built).mono ?_
   rintro e w1d ⟨rfl, hwd⟩
   subst hwd
   clear hHeld
   go_wp2_with fail
   refine hK.out _ _ ?_ (fun hHeld => ?_)
   . exact hT
   clear hK K hHeld
   refine held_one (i := 17) (by kernel_rfl) rfl (by kernel_rfl) (fun K hK => ?_)
   go_simp
   refine hK.out _ _ ?_ (fun hHeld => ?_)
   . exact hT2
   clear hK K hHeld
   refine held_one (i := 18) (by kernel_rfl) rfl (by kernel_rfl) (fun K hK => ?_)
   go_simp
   refine HPT.out.mono ?_
   rintro e w4 ⟨rfl, fm4, hA4, hMv4⟩
   have MV4 := hidden (MV2.out.trans hMv4)
   rw [← HSQ.out] at hA4
   have hsn : SameN x (stepQ (x, ms)).1 := by rw [HSQ.out]; exact HSN.out
   obtain ⟨d4, d5, _, d11, _, fz⟩ := arr_cells hA4
   have hT4 : w4.cell? ⟨B, 4, none⟩ = some (.int .i64 (m : Int)) /\ w4.cell? ⟨B, 5, none⟩ = some (.int .i64 x.built) /\ w4.cell? ⟨gb, off + m, none⟩ = some (.int .i64 y) := by
    refine ⟨?_, ?_, ?_⟩
    . rw [d4, hsn.2.2.2.1, HLO.out]
    . rw [d5, hsn.2.2.2.2.1]
    have hbw := hMv4.mine MW.out (fun hm' => by have := (RW.out _ hm').1; omega) (fun b hb hm' => by have h1 := (RW.out b hb).1; have h2 := hlm b hm'; omega)
    rcases (ints_rd hbw.rd).1.cases with h0 | ⟨gb2, off2, hgo2, _, hcz2⟩
    . omega
    simp at hgo2
    obtain ⟨rfl, rfl⟩ := hgo2
    rw [hcz2 m hmp, HY.out]
   clear hMv4 HPT MV2 HA2
   go_wp2_with fail
   refine hK.out _ _ ?_ (fun hHeld => ?_)
   . exact hT4
   clear hK K
   refine wpAnyH_done (by kernel_rfl) ?_ _
   clear hHeld hT hT2 hT4 k4 k5 hcm
   have hbq : (stepQ (x, ms)).1.built = x.built := hsn.2.2.2.2.1
   generalize stepQ (x, ms) = st at hA4 HV d4 d5 d11 hbq
   obtain ⟨u, qs⟩ := st
   dsimp only at hA4 HV d4 d5 d11 hbq
   have hwr : IntKind.i64.wrap (u.built + 1) = u.built + 1 := IntWalk.i64_in _ (by omega)
   clear hsn HSN HSQ hbq
   cases hud : u.down
   . have HV2 : Hid (stepA (x, ms) = ({u with built := u.built + 1}, qs) /\ stepC (x, ms) = 0) := by unfold Hid; rw [HV.out.1, HV.out.2, hud]; exact ⟨rfl, rfl⟩
     rw [hud] at d11
     have HA5 := hidden (arr_built0 hA4 (u.built + 1))
     have MV5 := hidden (MV4.out.trans (Moved.set (B := B) (j := 5) (fm := fm4) (w := w4) (.int .i64 (u.built + 1))))
     clear hud hA4 HV
     go_wp2
     go_ret
     refine ⟨ret_int HV2.out.2.symm, fm4, ?_, MV5.out⟩
     rw [HV2.out.1]
     exact HA5.out
   have HV2 : Hid (stepA (x, ms) = (u, qs) /\ stepC (x, ms) = 6) := by unfold Hid; rw [HV.out.1, HV.out.2, hud]; exact ⟨rfl, rfl⟩
   rw [hud] at d11
   have HA5 := hidden hA4
   clear hud hA4 HV
   go_wp2
   go_ret
   refine ⟨ret_int HV2.out.2.symm, fm4, ?_, MV4.out⟩
   rw [HV2.out.1]
   exact HA5.out
 go_simp
 clear hHeld
 refine hK.out _ _ ?_ (fun hHeld => ?_)
 . exact hT2
 clear hK K
 refine held_one (i := 9) (by kernel_rfl) rfl (by kernel_rfl) (fun K hK => ?_)
 go_simp
 refine (specDataAt_any _ x.built).mono ?_
 rintro e w1d ⟨rfl, hwd⟩
 subst hwd
 clear hHeld
 go_wp2_with fail
 refine hK.out _ _ ?_ (fun hHeld => ?_)
 . exact hT2
 clear hK K hHeld
 refine held_one (i := 18) (by kernel_rfl) rfl (by kernel_rfl) (fun K hK => ?_)
 go_simp
 refine HPT.out.mono ?_
 rintro e w4 ⟨rfl, fm4, hA4, hMv4⟩
 have MV4 := hidden (MV2.out.trans hMv4)
 rw [← HSQ.out] at hA4
 have hsn : SameN x (stepQ (x, ms)).1 := by rw [HSQ.out]; exact HSN.out
 obtain ⟨d4, d5, _, d11, _, fz⟩ := arr_cells hA4
 have hT4 : w4.cell? ⟨B, 4, none⟩ = some (.int .i64 (m : Int)) /\ w4.cell? ⟨B, 5, none⟩ = some (.int .i64 x.built) /\ w4.cell? ⟨gb, off + m, none⟩ = some (.int .i64 y) := by
  refine ⟨?_, ?_, ?_⟩
  . rw [d4, hsn.2.2.2.1, HLO.out]
  . rw [d5, hsn.2.2.2.2.1]
  have hbw := hMv4.mine MW.out (fun hm' => by have := (RW.out _ hm').1; omega) (fun b hb hm' => by have h1 := (RW.out b hb).1; have h2 := hlm b hm'; omega)
  rcases (ints_rd hbw.rd).1.cases with h0 | ⟨gb2, off2, hgo2, _, hcz2⟩
  . omega
  simp at hgo2
  obtain ⟨rfl, rfl⟩ := hgo2
  rw [hcz2 m hmp, HY.out]
 clear hMv4 HPT MV2 HA2
 go_wp2_with fail
 refine hK.out _ _ ?_ (fun hHeld => ?_)
 . exact hT4
 clear hK K
 refine wpAnyH_done (by kernel_rfl) ?_ _
 clear hHeld hT hT2 hT4 k4 k5 hcm
 have hbq : (stepQ (x, ms)).1.built = x.built := hsn.2.2.2.2.1
 generalize stepQ (x, ms) = st at hA4 HV d4 d5 d11 hbq
 obtain ⟨u, qs⟩ := st
 dsimp only at hA4 HV d4 d5 d11 hbq
 have hwr : IntKind.i64.wrap (u.built + 1) = u.built + 1 := IntWalk.i64_in _ (by omega)
 clear hsn HSN HSQ hbq
 cases hud : u.down
 . have HV2 : Hid (stepA (x, ms) = ({u with built := u.built + 1}, qs) /\ stepC (x, ms) = 0) := by unfold Hid; rw [HV.out.1, HV.out.2, hud]; exact ⟨rfl, rfl⟩
   rw [hud] at d11
   have HA5 := hidden (arr_built0 hA4 (u.built + 1))
   have MV5 := hidden (MV4.out.trans (Moved.set (B := B) (j := 5) (fm := fm4) (w := w4) (.int .i64 (u.built + 1))))
   clear hud hA4 HV
   go_wp2
   go_ret
   refine ⟨ret_int HV2.out.2.symm, fm4, ?_, MV5.out⟩
   rw [HV2.out.1]
   exact HA5.out
 have HV2 : Hid (stepA (x, ms) = (u, qs) /\ stepC (x, ms) = 6) := by unfold Hid; rw [HV.out.1, HV.out.2, hud]; exact ⟨rfl, rfl⟩
 rw [hud] at d11
 have HA5 := hidden hA4
 clear hud hA4 HV
 go_wp2
 go_ret
 refine ⟨ret_int HV2.out.2.symm, fm4, ?_, MV4.out⟩
 rw [HV2.out.1]
 exact HA5.out

end Go.Proofs.YtechckninoilhaaGreat

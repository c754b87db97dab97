/-
 At every list of disks and every number Assemble answers as the specification's, writes into no argument, and its answer owns its memory. No condition.
-/
import Derived.Test.YtlcjfgmmjkandaaRowAssembleAll2
import Derived.Test.YtlcjfgmmjkandaaMemB
import Derived.Test.YtlcjfgmmjkandaaStore
import Derived.WideLaws
import Derived.Test.YtlcjfgmmjkandaaWalkImplMemOk
import Derived.Lib.SliceRun
import Derived.Test.YtlcjfgmmjkandaaOrder
import Derived.Test.YtlcjfgmmjkandaaSupPlace
import Derived.Test.YtlcjfgmmjkandaaWalkL2Has
import Derived.Test.YtlcjfgmmjkandaaData
import Derived.Test.YtlcjfgmmjkandaaWalkSecOk
import Derived.Test.YtlcjfgmmjkandaaBox
import Derived.Test.YtlcjfgmmjkandaaArr7
import Derived.Test.YtlcjfgmmjkandaaWalkMarkIn
import Derived.Test.YtlcjfgmmjkandaaWalkArr
import Derived.Deep.Cut
import Derived.Test.YtlcjfgmmjkandaaBest9
import Derived.Test.YtlcjfgmmjkandaaNew9
import Derived.Test.YtlcjfgmmjkandaaWalkIn
import Derived.Test.YtlcjfgmmjkandaaWalkGeo
import Derived.Test.YtlcjfgmmjkandaaWalkSuper
import Derived.Test.YtlcjfgmmjkandaaWalkMems
import Derived.Test.YtlcjfgmmjkandaaFrame
import Derived.Test.YtlcjfgmmjkandaaWalkMarkArr
import Derived.Test.YtlcjfgmmjkandaaWalkMarkMems
import Derived.Test.YtlcjfgmmjkandaaWalkSz
import Derived.ProofKit
import Derived.OpenShut
import Derived.Lib.SmallJoins
import Derived.Deep.Slices
import Derived.Deep.SlicePairs
import Derived.Test.YtlcjfgmmjkandaaRows
import Derived.WalkKit
import Derived.ShutString
import Derived.ChangeOld
import Derived.Below

set_option maxRecDepth 100000
set_option maxHeartbeats 8000000
set_option linter.unusedSimpArgs false

namespace Go.Proofs.Ytlcjfgmmjkandaa
open Go.RowKit

theorem getD_some {ss : List (List Int)} {k : Nat} (h : k < ss.length) : ss[k]? = some (ss.getD k []) := by
 rw [List.getD_eq_getElem?_getD, List.getElem?_eq_getElem h]
 rfl

end Go.Proofs.Ytlcjfgmmjkandaa

namespace Go.Proofs.Ytlcjfgmmjkandaa
open Go.RowKit Go.Maps

def RestOk (w : World) (ks : List (Int × List Int)) (j : Nat) (D : DataW Value) : Prop :=
 ∀ q : Nat, j <= q -> (lastW ks (q : Int) = none -> Maps.has D (.int .i64 q) = false) /\ ∀ zs, lastW ks (q : Int) = some zs -> Maps.has D (.int .i64 q) = true /\ ∃ a cap, (∀ z, D.atKey (.int .i64 q) z = .held (.agg #[.int .i64 q, .slice a zs.length cap])) /\ tIntS.Rd w [.slice a zs.length cap] zs
theorem LastOk.rest {w : World} {ks : List (Int × List Int)} {D : DataW Value} (h : LastOk w ks D) : RestOk w ks 0 D := fun q _ => ⟨(h q).1, fun zs hz => by
 obtain ⟨h1, a, n, cap, h2, h3⟩ := (h q).2 zs hz
 obtain ⟨hl, _, _⟩ := row_length h3
 subst hl
 exact ⟨h1, a, cap, h2, h3⟩⟩
theorem RestOk.next {w : World} {ks : List (Int × List Int)} {j : Nat} {D : DataW Value} (h : RestOk w ks j D) : RestOk w ks (j + 1) D := fun q hq => h q (by omega)
theorem RestOk.empty {w : World} {ks : List (Int × List Int)} {j : Nat} {D : DataW Value} (h : RestOk w ks j D) (hD : IsMap D) (hz : Maps.size D = 0) : ∀ q : Nat, j <= q -> lastW ks (q : Int) = none := by
 intro q hq
 cases hl : lastW ks (q : Int) with
 | none => rfl
 | some zs =>
  have h1 := ((h q hq).2 zs hl).1
  obtain ⟨es, rfl⟩ := hD
  have h2 : es = [] := List.eq_nil_of_length_eq_zero hz
  subst h2
  simp [Maps.has] at h1
end Go.Proofs.Ytlcjfgmmjkandaa

namespace Go.Proofs.Ytlcjfgmmjkandaa
open Go.RowKit

def MsOk (ms : List MemD) : Prop := ∀ (i : Nat) (d : MemD), ms[i]? = some d -> memB d.1 d.2.1 d.2.2.2 = true

def SameN (x y : ArrN) : Prop := y.id = x.id /\ y.n = x.n /\ y.s = x.s /\ y.lost = x.lost /\ y.built = x.built /\ y.seq = x.seq /\ y.tail = x.tail /\ y.gen = x.gen /\ y.broken = x.broken /\ y.fuse <= 1000 /\ (-1 <= x.fuse -> -1 <= y.fuse)
theorem SameN.refl {x : ArrN} (h : x.fuse <= 1000) : SameN x x := ⟨rfl, rfl, rfl, rfl, rfl, rfl, rfl, rfl, rfl, h, fun h => h⟩
theorem SameN.trans {x y z : ArrN} (h : SameN x y) (k : SameN y z) : SameN x z := by
 obtain ⟨a1, a2, a3, a4, a5, a6, a7, a8, a9, _, b⟩ := h
 obtain ⟨c1, c2, c3, c4, c5, c6, c7, c8, c9, c10, d⟩ := k
 exact ⟨c1.trans a1, c2.trans a2, c3.trans a3, c4.trans a4, c5.trans a5, c6.trans a6, c7.trans a7, c8.trans a8, c9.trans a9, c10, fun h => d (b h)⟩
theorem MsOk.set {ms : List MemD} {i : Nat} {d : MemD} (h : MsOk ms) (hd : memB d.1 d.2.1 d.2.2.2 = true) : MsOk (ms.set i d) := by
 intro k e he
 by_cases hk : k = i
 . subst hk
   by_cases hl : k < ms.length
   . rw [List.getElem?_set_self hl] at he
     simp at he
     subst he
     exact hd
   . rw [List.getElem?_eq_none (by rw [List.length_set]; omega)] at he
     cases he
 . rw [List.getElem?_set_ne (fun e => hk e.symm)] at he
   exact h k e he

def ArrOut (w w' : World) (e : Ending) (q : ArrN × List MemD) (ds : List (Int × List Int)) : Prop :=
 ∃ (bm bd : Option Addr) (cm cd : Nat), e = .returned (.agg (arrC q.1 (.slice bm q.2.length cm) (.slice bd ds.length cd))) /\ ArrIn w' w.heap.size w'.heap.size bm bd q.2.length cm ds.length cd q.2 ds /\ Below w.heap.size w w'
theorem Moved.belowN {B N : Nat} {f1 f2 : List Nat} {w1 w2 : World} (h : Moved B f1 w1 f2 w2) (hB : N <= B) (hf : ∀ b ∈ f1, N <= b) (hN : N <= w1.heap.size) : Below N w1 w2 :=
 ⟨h.1.os, h.1.tape, h.1.output, h.1.size, fun k hk => h.1.block k (by omega) (fun hm => by
  rcases List.mem_cons.1 hm with e | hm
  . omega
  . have := hf k hm; omega)⟩
theorem arr_out {w w4 : World} {R lo : Nat} {y : ArrN} {ns : List MemD} {ds : List (Int × List Int)} {vm vd : Option Addr} {cvm cvd : Nat} {fm fd : List Nat} {e : Ending} {T : TypeId} {cs : Array Value} (hb : Below w.heap.size w w4) (_ : Box w4 R T cs) (he : e = .returned (.agg (arrC y (.slice vm ns.length cvm) (.slice vd ds.length cvd)))) (hm : (tMemS 108 73).Mine w4 [.slice vm ns.length cvm] ns fm) (hd : (tWrS 99).Mine w4 [.slice vd ds.length cvd] ds fd) (hr : ∀ b ∈ fm, b ∉ fd) (rm : ∀ b ∈ fm, lo <= b) (rd : ∀ b ∈ fd, lo <= b) (h1 : w.heap.size <= R) (h2 : R < lo) :
 ArrOut w (puts w4 R [(0, .int .i64 y.id), (1, .int .i64 y.n), (2, .int .i64 y.s), (3, .slice vm ns.length cvm), (4, .int .i64 y.lost), (5, .int .i64 y.built), (6, .int .i64 y.seq), (7, .int .i64 y.tail), (8, .int .i64 y.gen), (9, .slice vd ds.length cvd), (10, .int .i64 y.fuse), (11, .bool y.down), (12, .bool y.broken)]) e (y, ns) ds := by
 have hbt := puts_but R [(0, .int .i64 y.id), (1, .int .i64 y.n), (2, .int .i64 y.s), (3, .slice vm ns.length cvm), (4, .int .i64 y.lost), (5, .int .i64 y.built), (6, .int .i64 y.seq), (7, .int .i64 y.tail), (8, .int .i64 y.gen), (9, .slice vd ds.length cvd), (10, .int .i64 y.fuse), (11, .bool y.down), (12, .bool y.broken)] w4
 have hz := hbt.size
 have hlm := hm.lt
 have hld := hd.lt
 refine ⟨vm, vd, cvm, cvd, he, ⟨fm, fd, hm.but hbt (fun b hb => by have := rm b hb; omega), hd.but hbt (fun b hb => by have := rd b hb; omega), hr, fun b hb => ?_, fun b hb => ?_⟩, Below.andBut hb hbt h1⟩
 . have h3 := rm b hb
   have h4 := hlm b hb
   omega
 . have h3 := rd b hb
   have h4 := hld b hb
   omega

theorem copyArr_any (w : World) (E F G : TypeId) (x : ArrN) (am ad : Option Addr) (nm cm nd cd : Nat) (ms : List MemD) (ds : List (Int × List Int)) (h0 : (tMemS E F).Rd w [.slice am nm cm] ms) (h1 : (tWrS G).Rd w [.slice ad nd cd] ds) (hw : wtArr ms ds <= 2097152) :
 Calls Try.prog 36 #[.agg #[.int .i64 x.id, .int .i64 x.n, .int .i64 x.s, .slice am nm cm, .int .i64 x.lost, .int .i64 x.built, .int .i64 x.seq, .int .i64 x.tail, .int .i64 x.gen, .slice ad nd cd, .int .i64 x.fuse, .bool x.down, .bool x.broken]] w fun e w' => ∃ bm cm' bd cd' m, e = .returned (.agg #[.int .i64 x.id, .int .i64 x.n, .int .i64 x.s, .slice bm nm cm', .int .i64 x.lost, .int .i64 x.built, .int .i64 x.seq, .int .i64 x.tail, .int .i64 x.gen, .slice bd nd cd', .int .i64 x.fuse, .bool x.down, .bool x.broken]) /\ (tMemS 108 73).Own w' w.heap.size m [.slice bm nm cm'] ms /\ (tWrS 99).Own w' m w'.heap.size [.slice bd nd cd'] ds /\ w.heap.size <= m /\ m <= w'.heap.size /\ Below w.heap.size w w' := by
 have hwm : wtMemS ms <= 2097152 := by unfold wtArr at hw; omega
 have hwd : wtWrS ds <= 2097152 := by unfold wtArr at hw; omega
 obtain ⟨hl0, _, hm0⟩ := row_length h0
 obtain ⟨hl1, _, hm1⟩ := row_length h1
 have hn0 : nm <= 2097152 := by unfold wtMemS at hwm; omega
 have hn1 : nd <= 2097152 := by unfold wtWrS at hwd; omega
 obtain ⟨i1, hi1, hy0, hy1, hy2⟩ := info_parts Try.infoEnt
 obtain ⟨i4, hi4, hz0, hz1, hz2⟩ := info_parts Try.infoMem
 have zz : ∀ u : World, ∀ ob : Obj, (u.alloc ob).heap.size = u.heap.size + 1 := fun u ob => by simp
 have xm : Box (((w.alloc (.cells #[.int .i64 x.id, .int .i64 x.n, .int .i64 x.s, .slice am nm cm, .int .i64 x.lost, .int .i64 x.built, .int .i64 x.seq, .int .i64 x.tail, .int .i64 x.gen, .slice ad nd cd, .int .i64 x.fuse, .bool x.down, .bool x.broken] 33)).alloc (.cells #[.int .i64 0, .int .i64 0, .int .i64 0, .slice none 0 0, .int .i64 0, .int .i64 0, .int .i64 0, .int .i64 0, .int .i64 0, .slice none 0 0, .int .i64 0, .bool false, .bool false] 33)).alloc (.cells #[.int .i64 x.id, .int .i64 x.n, .int .i64 x.s, .slice none 0 0, .int .i64 x.lost, .int .i64 x.built, .int .i64 x.seq, .int .i64 x.tail, .int .i64 x.gen, .slice none 0 0, .int .i64 x.fuse, .bool x.down, .bool x.broken] 33)) (w.heap.size) 33 #[.int .i64 x.id, .int .i64 x.n, .int .i64 x.s, .slice am nm cm, .int .i64 x.lost, .int .i64 x.built, .int .i64 x.seq, .int .i64 x.tail, .int .i64 x.gen, .slice ad nd cd, .int .i64 x.fuse, .bool x.down, .bool x.broken] := ((Box.new w _ _).alloc _).alloc _
 have xr0 := Box.new (w.alloc (.cells #[.int .i64 x.id, .int .i64 x.n, .int .i64 x.s, .slice am nm cm, .int .i64 x.lost, .int .i64 x.built, .int .i64 x.seq, .int .i64 x.tail, .int .i64 x.gen, .slice ad nd cd, .int .i64 x.fuse, .bool x.down, .bool x.broken] 33)) 33 #[.int .i64 0, .int .i64 0, .int .i64 0, .slice none 0 0, .int .i64 0, .int .i64 0, .int .i64 0, .int .i64 0, .int .i64 0, .slice none 0 0, .int .i64 0, .bool false, .bool false]
 rw [zz] at xr0
 have xr : Box (((w.alloc (.cells #[.int .i64 x.id, .int .i64 x.n, .int .i64 x.s, .slice am nm cm, .int .i64 x.lost, .int .i64 x.built, .int .i64 x.seq, .int .i64 x.tail, .int .i64 x.gen, .slice ad nd cd, .int .i64 x.fuse, .bool x.down, .bool x.broken] 33)).alloc (.cells #[.int .i64 0, .int .i64 0, .int .i64 0, .slice none 0 0, .int .i64 0, .int .i64 0, .int .i64 0, .int .i64 0, .int .i64 0, .slice none 0 0, .int .i64 0, .bool false, .bool false] 33)).alloc (.cells #[.int .i64 x.id, .int .i64 x.n, .int .i64 x.s, .slice none 0 0, .int .i64 x.lost, .int .i64 x.built, .int .i64 x.seq, .int .i64 x.tail, .int .i64 x.gen, .slice none 0 0, .int .i64 x.fuse, .bool x.down, .bool x.broken] 33)) (w.heap.size + 1) 33 #[.int .i64 0, .int .i64 0, .int .i64 0, .slice none 0 0, .int .i64 0, .int .i64 0, .int .i64 0, .int .i64 0, .int .i64 0, .slice none 0 0, .int .i64 0, .bool false, .bool false] := xr0.alloc _
 have xo := Box.new ((w.alloc (.cells #[.int .i64 x.id, .int .i64 x.n, .int .i64 x.s, .slice am nm cm, .int .i64 x.lost, .int .i64 x.built, .int .i64 x.seq, .int .i64 x.tail, .int .i64 x.gen, .slice ad nd cd, .int .i64 x.fuse, .bool x.down, .bool x.broken] 33)).alloc (.cells #[.int .i64 0, .int .i64 0, .int .i64 0, .slice none 0 0, .int .i64 0, .int .i64 0, .int .i64 0, .int .i64 0, .int .i64 0, .slice none 0 0, .int .i64 0, .bool false, .bool false] 33)) 33 #[.int .i64 x.id, .int .i64 x.n, .int .i64 x.s, .slice none 0 0, .int .i64 x.lost, .int .i64 x.built, .int .i64 x.seq, .int .i64 x.tail, .int .i64 x.gen, .slice none 0 0, .int .i64 x.fuse, .bool x.down, .bool x.broken]
 rw [zz, zz] at xo
 have hB : Below (w.heap.size) w (((w.alloc (.cells #[.int .i64 x.id, .int .i64 x.n, .int .i64 x.s, .slice am nm cm, .int .i64 x.lost, .int .i64 x.built, .int .i64 x.seq, .int .i64 x.tail, .int .i64 x.gen, .slice ad nd cd, .int .i64 x.fuse, .bool x.down, .bool x.broken] 33)).alloc (.cells #[.int .i64 0, .int .i64 0, .int .i64 0, .slice none 0 0, .int .i64 0, .int .i64 0, .int .i64 0, .int .i64 0, .int .i64 0, .slice none 0 0, .int .i64 0, .bool false, .bool false] 33)).alloc (.cells #[.int .i64 x.id, .int .i64 x.n, .int .i64 x.s, .slice none 0 0, .int .i64 x.lost, .int .i64 x.built, .int .i64 x.seq, .int .i64 x.tail, .int .i64 x.gen, .slice none 0 0, .int .i64 x.fuse, .bool x.down, .bool x.broken] 33)) := (((Below.refl _ _).alloc (Nat.le_refl _) _).alloc (by simp) _).alloc (by simp; omega) _
 have hz : (((w.alloc (.cells #[.int .i64 x.id, .int .i64 x.n, .int .i64 x.s, .slice am nm cm, .int .i64 x.lost, .int .i64 x.built, .int .i64 x.seq, .int .i64 x.tail, .int .i64 x.gen, .slice ad nd cd, .int .i64 x.fuse, .bool x.down, .bool x.broken] 33)).alloc (.cells #[.int .i64 0, .int .i64 0, .int .i64 0, .slice none 0 0, .int .i64 0, .int .i64 0, .int .i64 0, .int .i64 0, .int .i64 0, .slice none 0 0, .int .i64 0, .bool false, .bool false] 33)).alloc (.cells #[.int .i64 x.id, .int .i64 x.n, .int .i64 x.s, .slice none 0 0, .int .i64 x.lost, .int .i64 x.built, .int .i64 x.seq, .int .i64 x.tail, .int .i64 x.gen, .slice none 0 0, .int .i64 x.fuse, .bool x.down, .bool x.broken] 33)).heap.size = w.heap.size + 1 + 1 + 1 := by simp
 have cm3 := xm.cell 3
 have cm9 := xm.cell 9
 clear xr0 zz
 go_enter Try.func36, Try.ntmps36
 go_wp2
 clear cm3 cm9
 generalize ((w.alloc (.cells #[.int .i64 x.id, .int .i64 x.n, .int .i64 x.s, .slice am nm cm, .int .i64 x.lost, .int .i64 x.built, .int .i64 x.seq, .int .i64 x.tail, .int .i64 x.gen, .slice ad nd cd, .int .i64 x.fuse, .bool x.down, .bool x.broken] 33)).alloc (.cells #[.int .i64 0, .int .i64 0, .int .i64 0, .slice none 0 0, .int .i64 0, .int .i64 0, .int .i64 0, .int .i64 0, .int .i64 0, .slice none 0 0, .int .i64 0, .bool false, .bool false] 33)).alloc (.cells #[.int .i64 x.id, .int .i64 x.n, .int .i64 x.s, .slice none 0 0, .int .i64 x.lost, .int .i64 x.built, .int .i64 x.seq, .int .i64 x.tail, .int .i64 x.gen, .slice none 0 0, .int .i64 x.fuse, .bool x.down, .bool x.broken] 33) = W2 at xm xr xo hB hz ⊢
 obtain ⟨LB, hLB⟩ : ∃ LB, W2.heap.size = LB := ⟨_, rfl⟩
 rw [hLB] at hz
 have q3 : w.heap.size + 1 + 1 + 1 <= LB /\ LB <= w.heap.size + 1 + 1 + 1 := by omega
 have hzL : LB <= W2.heap.size := by omega
 clear hLB hz
 obtain ⟨BO, hBO⟩ : ∃ BO, w.heap.size + 1 + 1 = BO := ⟨_, rfl⟩
 rw [hBO] at xo ⊢
 have q2 : w.heap.size + 1 + 1 <= BO /\ BO <= w.heap.size + 1 + 1 := by omega
 clear hBO
 obtain ⟨BR, hBR⟩ : ∃ BR, w.heap.size + 1 = BR := ⟨_, rfl⟩
 rw [hBR] at xr ⊢
 have q1 : w.heap.size + 1 <= BR /\ BR <= w.heap.size + 1 := by omega
 clear hBR
 have XM2 := hidden xm
 have XR2 := hidden xr
 have XO2 := hidden xo
 have HB2 := hidden hB
 clear xm xr xo hB
 go_loopw [14] (fun i wr => ∃ (j : Nat) (v0 : Value) (fp0 : List Nat), j <= nm /\ i = .int .i64 j /\ Fr LB BO W2 wr /\ Box wr BO 33 #[.int .i64 x.id, .int .i64 x.n, .int .i64 x.s, v0, .int .i64 x.lost, .int .i64 x.built, .int .i64 x.seq, .int .i64 x.tail, .int .i64 x.gen, .slice none 0 0, .int .i64 x.fuse, .bool x.down, .bool x.broken] /\ (tMemS 108 73).Mine wr [v0] (ms.take j) fp0 /\ (∀ b ∈ fp0, LB <= b)) (fun i _ => nm - (intOf i).toNat)
 case atStart => exact ⟨0, _, [], Nat.zero_le _, rfl, Fr.refl _ _ _, XO2.out, nil_mine _, by simp⟩
 case round =>
  obtain ⟨j, v0, fp0, hj, rfl, fr, xo, hm, hfp⟩ := hrel
  have hs := fr.size
  have hb := HB2.out.trans (fr.below (M := w.heap.size) (by omega) (by omega))
  by_cases hjn : j < nm
  . rcases quads_at rfl h0 with h0' | ⟨b, off, rfl, hbl, hcs⟩
    . omega
    have hdj : ms[j]? = some (ms[j]'(by omega)) := List.getElem?_eq_getElem (by omega)
    have htk : ms.take (j + 1) = ms.take j ++ [ms[j]'(by omega)] := List.take_succ_eq_append_getElem (by omega)
    generalize ms[j]'(by omega) = d at hdj htk
    have hin := Nat.le_trans (inner_leM hdj) hwm
    obtain ⟨u0, u1, u2, u3, hv0, hv1, hv2, hv3, hrv⟩ := hcs j d hdj
    obtain ⟨a0, c0, a1, c1, a3, c3', ss, cs, f, bs, rfl, rfl, rfl, rfl, rfl, r0, r1, r3⟩ := mem_at hrv
    have pv0 := (hb.cell (p := ⟨b, off + j * 4, none⟩) hbl).trans hv0
    have pv1 := (hb.cell (p := ⟨b, off + j * 4 + 1, none⟩) hbl).trans hv1
    have pv2 := (hb.cell (p := ⟨b, off + j * 4 + 2, none⟩) hbl).trans hv2
    have pv3 := (hb.cell (p := ⟨b, off + j * 4 + 3, none⟩) hbl).trans hv3
    have nb := new_below wr (.cells #[.slice a0 ss.length c0, .slice a1 cs.length c1, .bool f, .slice a3 bs.length c3'] 73)
    have hzm : (wr.alloc (.cells #[.slice a0 ss.length c0, .slice a1 cs.length c1, .bool f, .slice a3 bs.length c3'] 73)).heap.size = wr.heap.size + 1 := by simp
    have hbm := Below.andThen hb nb
    have R0 := hidden (r0.below hbm)
    have R1 := hidden (r1.below hbm)
    have R3 := hidden (r3.below hbm)
    have xom := xo.alloc (.cells #[.slice a0 ss.length c0, .slice a1 cs.length c1, .bool f, .slice a3 bs.length c3'] 73)
    have xmm := Box.new wr 73 #[.slice a0 ss.length c0, .slice a1 cs.length c1, .bool f, .slice a3 bs.length c3']
    have hmm := hm.alloc (.cells #[.slice a0 ss.length c0, .slice a1 cs.length c1, .bool f, .slice a3 bs.length c3'] 73)
    have frm : Fr LB BO W2 (wr.alloc (.cells #[.slice a0 ss.length c0, .slice a1 cs.length c1, .bool f, .slice a3 bs.length c3'] 73)) := fr.trans (Fr.ofBelow nb (by omega))
    have k1 : (0 : Int) <= (j : Int) := by omega
    have k2 : (j : Int) < (nm : Int) := by omega
    have HL : Hid ((ms.take j).length = j) := by unfold Hid; rw [List.length_take]; omega
    have L1 : Hid ((ms.take j).length + 1 <= maxLen) := by unfold Hid; rw [HL.out]; unfold maxLen; omega
    have L2 : Hid (((ms.take j).length + 1) * 80 <= 140737488355328) := by unfold Hid; rw [HL.out]; omega
    have hlt0 : ∀ b ∈ fp0, b < wr.heap.size := hm.lt
    have HTK := hidden htk
    have FRR := hidden frm
    have HM := hidden hmm
    have HFP := hidden hfp
    have XO := hidden xom
    have XMM := hidden xmm
    clear hcs hdj hv0 hv1 hv2 hv3 hrv htk xo hm hfp hb fr r0 r1 r3 nb hbm xom xmm hmm frm
    go_wp2_with fail
    generalize wr.alloc (.cells #[.slice a0 ss.length c0, .slice a1 cs.length c1, .bool f, .slice a3 bs.length c3'] 73) = wm at R0 R1 R3 FRR HM XO XMM hzm ⊢
    have FLT := hidden hlt0
    obtain ⟨MB, hMB⟩ : ∃ MB, wr.heap.size = MB := ⟨_, rfl⟩
    rw [hMB] at XMM hzm hs FLT ⊢
    clear hMB pv0 pv1 pv2 pv3
    have zMB : MB < wm.heap.size := by omega
    have zBO : BO < wm.heap.size := by omega
    have hzm2 : MB + 1 <= wm.heap.size := by omega
    clear hzm
    have mk : Hid (∀ w', Box w' BO 33 #[.int .i64 x.id, .int .i64 x.n, .int .i64 x.s, v0, .int .i64 x.lost, .int .i64 x.built, .int .i64 x.seq, .int .i64 x.tail, .int .i64 x.gen, .slice none 0 0, .int .i64 x.fuse, .bool x.down, .bool x.broken] -> Box w' MB 73 #[.slice a0 ss.length c0, .slice a1 cs.length c1, .bool f, .slice a3 bs.length c3'] -> w'.cell? ⟨BO, 3, none⟩ = some (v0) /\ w'.cell? ⟨MB, 0, none⟩ = some (.slice a0 ss.length c0) /\ w'.cell? ⟨MB, 1, none⟩ = some (.slice a1 cs.length c1) /\ w'.cell? ⟨MB, 2, none⟩ = some (.bool f) /\ w'.cell? ⟨MB, 3, none⟩ = some (.slice a3 bs.length c3')) := fun w' h1 h2 => ⟨h1.cell 3, h2.cell 0, h2.cell 1, h2.cell 2, h2.cell 3⟩
    have hS : wm.drew.cell? ⟨BO, 3, none⟩ = some (v0) /\ wm.drew.cell? ⟨MB, 0, none⟩ = some (.slice a0 ss.length c0) /\ wm.drew.cell? ⟨MB, 1, none⟩ = some (.slice a1 cs.length c1) /\ wm.drew.cell? ⟨MB, 2, none⟩ = some (.bool f) /\ wm.drew.cell? ⟨MB, 3, none⟩ = some (.slice a3 bs.length c3') := mk.out wm.drew XO.out XMM.out
    refine Upto.start (S := fun w' => w'.cell? ⟨BO, 3, none⟩ = some (v0) /\ w'.cell? ⟨MB, 0, none⟩ = some (.slice a0 ss.length c0) /\ w'.cell? ⟨MB, 1, none⟩ = some (.slice a1 cs.length c1) /\ w'.cell? ⟨MB, 2, none⟩ = some (.bool f) /\ w'.cell? ⟨MB, 3, none⟩ = some (.slice a3 bs.length c3')) (k := 7) (by kernel_rfl) ?_
    refine Upto.t 0 hS ?_
    refine Upto.t 1 hS ?_
    refine Upto.t 2 hS ?_
    refine Upto.one (i := 3) (by kernel_rfl) rfl (fun K hK => ?_)
    go_simp
    refine (copyMem_any _ E _ _ _ _ _ _ _ _ _ ss cs f bs R0.out.drew R1.out.drew R3.out.drew hin).mono ?_
    rintro e wc ⟨y0, y1, y3, m1, m2, rfl, o3, o0, o1, hm12, hm01, hm22, bc⟩
    have hbc' : Below wm.heap.size wm wc := (Below.refl wm.heap.size wm).drew.trans bc
    have hm01' : wm.heap.size <= m1 := hm01
    have om : (tMem 108).Own wc wm.heap.size wc.heap.size [y0, y1, .bool f, y3] (ss, cs, f, bs) := mem_own3 o0 o1 o3 (.inl (Nat.le_refl _)) (.inr (Nat.le_refl _)) (.inr hm12) ⟨by omega, by omega⟩ ⟨by omega, Nat.le_refl _⟩ ⟨Nat.le_refl _, by omega⟩
    obtain ⟨e0, g0, rfl⟩ := row_shape o0.rd
    obtain ⟨e1, g1, rfl⟩ := row_shape o1.rd
    obtain ⟨e3, g3, rfl⟩ := row_shape o3.rd
    obtain ⟨fpx, mx, rx⟩ := om.mine
    have xoc := XO.out.below hbc' zBO
    have xmc := XMM.out.below hbc' zMB
    have hS3 : wc.cell? ⟨BO, 3, none⟩ = some (v0) /\ wc.cell? ⟨MB, 0, none⟩ = some (.slice a0 ss.length c0) /\ wc.cell? ⟨MB, 1, none⟩ = some (.slice a1 cs.length c1) /\ wc.cell? ⟨MB, 2, none⟩ = some (.bool f) /\ wc.cell? ⟨MB, 3, none⟩ = some (.slice a3 bs.length c3') := mk.out wc xoc xmc
    have zc := hbc'.size
    have hS4 : (wc.alloc (.cells #[.slice e0 ss.length g0, .slice e1 cs.length g1, .bool f, .slice e3 bs.length g3] 73)).cell? ⟨BO, 3, none⟩ = some (v0) /\ (wc.alloc (.cells #[.slice e0 ss.length g0, .slice e1 cs.length g1, .bool f, .slice e3 bs.length g3] 73)).cell? ⟨MB, 0, none⟩ = some (.slice a0 ss.length c0) /\ (wc.alloc (.cells #[.slice e0 ss.length g0, .slice e1 cs.length g1, .bool f, .slice e3 bs.length g3] 73)).cell? ⟨MB, 1, none⟩ = some (.slice a1 cs.length c1) /\ (wc.alloc (.cells #[.slice e0 ss.length g0, .slice e1 cs.length g1, .bool f, .slice e3 bs.length g3] 73)).cell? ⟨MB, 2, none⟩ = some (.bool f) /\ (wc.alloc (.cells #[.slice e0 ss.length g0, .slice e1 cs.length g1, .bool f, .slice e3 bs.length g3] 73)).cell? ⟨MB, 3, none⟩ = some (.slice a3 bs.length c3') := mk.out _ (xoc.alloc _) (xmc.alloc _)
    have XOC := hidden xoc
    have XMC := hidden xmc
    have MX := hidden mx
    have RX := hidden rx
    have HBC := hidden hbc'
    clear xoc xmc mx rx hbc' bc om o0 o1 o3 hm01 hm01' hm12 hm22 R0 R1 R3
    go_wp2_with fail
    refine hK.out _ _ (fun _ => hS3) ?_
    clear hK K
    refine Upto.one (i := 4) (by kernel_rfl) rfl (fun K hK => ?_)
    go_simp
    refine hK.out _ _ (fun _ => hS4) ?_
    clear hK K
    refine Upto.one (i := 5) (by kernel_rfl) rfl (fun K hK => ?_)
    refine step_appT (tMem 108) (by rfl) _ _ 30 (by rfl) 73 i4 (.agg #[.slice none 0 0, .slice none 0 0, .bool false, .slice none 0 0]) 80 Try.underlying30 hi4 hz0 hz1 hz2 rfl (by decide) v0 (ms.take j) fp0 (by rfl) ?_ ⟨wc.heap.size, 0, none⟩ 1 [.slice e0 ss.length g0, .slice e1 cs.length g1, .bool f, .slice e3 bs.length g3] (ss, cs, f, bs) fpx (by rfl) ?_ ?_ ?_ ?_ L1.out L2.out ?_
    . exact (HM.out.below HBC.out).alloc _
    . exact MX.out.alloc _
    . intro b hb hb'
      have h1 := HM.out.lt b hb
      have h2 := RX.out b hb'
      omega
    . exact news_new _ _ _
    . intro u hu
      simp at hu
      rcases hu with hu | hu | hu | hu <;> (rw [hu]; rfl)
    intro g cap wA fpA m1 m2 m3
    rw [HL.out] at m1 ⊢
    rw [← HTK.out] at m1
    have nMB : MB ∉ fp0 := fun hm => by have := FLT.out _ hm; omega
    have ya := (XOC.out.alloc (.cells #[.slice e0 ss.length g0, .slice e1 cs.length g1, .bool f, .slice e3 bs.length g3] 73)).turned m3 (fun hm => by have := HFP.out _ hm; omega)
    have ym := (XMC.out.alloc (.cells #[.slice e0 ss.length g0, .slice e1 cs.length g1, .bool f, .slice e3 bs.length g3] 73)).turned m3 nMB
    have hS5 : wA.cell? ⟨BO, 3, none⟩ = some (v0) /\ wA.cell? ⟨MB, 0, none⟩ = some (.slice a0 ss.length c0) /\ wA.cell? ⟨MB, 1, none⟩ = some (.slice a1 cs.length c1) /\ wA.cell? ⟨MB, 2, none⟩ = some (.bool f) /\ wA.cell? ⟨MB, 3, none⟩ = some (.slice a3 bs.length c3') := mk.out wA ya ym
    have r0 := hS5.1
    have fz := ya.frozen 3
    have YA := hidden ya
    have M1 := hidden m1
    have M2 := hidden m2
    have M3 := hidden m3
    clear ya ym m1 m2 m3 nMB
    refine hK.out _ _ (fun _ => hS5) ?_
    clear hK K
    simp only [Act.put, List.setIfInBounds_toArray, List.set_cons_zero, List.set_cons_succ]
    refine Upto.t 6 hS5 ?_
    refine Upto.one (i := 7) (by kernel_rfl) rfl (fun K hK => ?_)
    go_simp
    refine hK.out _ _ (fun h => absurd rfl h) ?_
    clear hK K
    refine Upto.done (by kernel_rfl) ?_ _
    have HFA := hidden (round_fp (N := LB) (by omega) HBC.out HFP.out RX.out M2.out)
    have FRA := hidden (Fr.round FRR.out (by omega) HBC.out _ M3.out HFP.out 3 (.slice (some ⟨g, 0, none⟩) (j + 1) cap))
    have MA := hidden (M1.out.setCell (g := BO) (j := 3) (fun hm => by have := HFA.out _ hm; omega) (.slice (some ⟨g, 0, none⟩) (j + 1) cap))
    have YA' := hidden (YA.out.set 3 (.slice (some ⟨g, 0, none⟩) (j + 1) cap))
    clear hS hS3 hS4 hS5 r0 YA M1 M2 M3 XOC MX RX HBC HFP HM FRR XO XMM XMC mk FLT
    go_wp2
    go_roundw
    case rel => exact ⟨j + 1, _, fpA, by omega, by go_num, FRA.out, YA'.out, MA.out, HFA.out⟩
    case measure => simp [intOf]; omega
  . have ej : nm = j := by omega
    subst ej
    rw [List.take_of_length_le (by omega)] at hm
    have hlt := hm.lt
    obtain ⟨eM, gM, hvM⟩ := row_shape hm.rd
    rw [hl0] at hvM
    subst hvM
    have KM := hm.own (lo := LB) (hi := wr.heap.size) (fun b hb => ⟨hfp b hb, hlt b hb⟩)
    have xr := fr.box XR2.out (by omega) (by omega)
    have xm := fr.box XM2.out (by omega) (by omega)
    have c9 : wr.cell? ⟨w.heap.size, 9, none⟩ = some (.slice ad nd cd) := xm.cell 9
    obtain ⟨LE, hLE⟩ : ∃ LE, wr.heap.size = LE := ⟨_, rfl⟩
    rw [hLE] at KM hs
    have hLE2 : LE <= wr.heap.size := by omega
    clear hLE
    have XM3 := hidden xm
    have XR3 := hidden xr
    have XO3 := hidden xo
    have KM3 := hidden KM
    have HB3 := hidden hb
    clear fr xo xm hm hfp hlt KM xr hb hj XM2 XR2 XO2 HB2
    go_wp2
    clear c9
    obtain ⟨wo, hwo⟩ : ∃ y, y = wr := ⟨_, rfl⟩
    subst hwo
    go_loopw [29] (fun i wq => ∃ (j : Nat) (v1 : Value) (fp1 : List Nat), j <= nd /\ i = .int .i64 j /\ Fr LE BO wo wq /\ Box wq BO 33 #[.int .i64 x.id, .int .i64 x.n, .int .i64 x.s, .slice eM nm gM, .int .i64 x.lost, .int .i64 x.built, .int .i64 x.seq, .int .i64 x.tail, .int .i64 x.gen, v1, .int .i64 x.fuse, .bool x.down, .bool x.broken] /\ (tWrS 99).Mine wq [v1] (ds.take j) fp1 /\ (∀ b ∈ fp1, LE <= b)) (fun i _ => nd - (intOf i).toNat)
    case atStart => exact ⟨0, _, [], Nat.zero_le _, rfl, Fr.refl _ _ _, XO3.out, nil_mine _, by simp⟩
    case round =>
     obtain ⟨j, v1, fp1, hj, rfl, fr, xo, hm, hfp⟩ := hrel
     have hs3 := fr.size
     have hb := HB3.out.trans (fr.below (M := w.heap.size) (by omega) (by omega))
     by_cases hjn : j < nd
     . rcases pairs_at rfl h1 with h0' | ⟨b, off, rfl, hbl, hcs⟩
       . omega
       have hdj : ds[j]? = some (ds[j]'(by omega)) := List.getElem?_eq_getElem (by omega)
       have htk : ds.take (j + 1) = ds.take j ++ [ds[j]'(by omega)] := List.take_succ_eq_append_getElem (by omega)
       generalize ds[j]'(by omega) = d at hdj htk
       have hil := inner_le' hdj
       obtain ⟨u0, u1, hv0, hv1, hrv⟩ := hcs j d hdj
       obtain ⟨rfl, hrv'⟩ := wr_rd hrv
       obtain ⟨av, cv, rfl⟩ := row_shape hrv'
       have pv0 := (hb.cell (p := ⟨b, off + j * 2, none⟩) hbl).trans hv0
       have pv1 := (hb.cell (p := ⟨b, off + j * 2 + 1, none⟩) hbl).trans hv1
       obtain ⟨x0, x1⟩ := d
       simp only at pv0 pv1 hrv' hil
       have nb := new_below wr (.cells #[.int .i64 x0, .slice av x1.length cv] 99)
       have hzm : (wr.alloc (.cells #[.int .i64 x0, .slice av x1.length cv] 99)).heap.size = wr.heap.size + 1 := by simp
       have HX := hidden (hrv'.below (Below.andThen hb nb))
       have k1 : (0 : Int) <= (j : Int) := by omega
       have k2 : (j : Int) < (nd : Int) := by omega
       have xom := xo.alloc (.cells #[.int .i64 x0, .slice av x1.length cv] 99)
       have xmm := Box.new wr 99 #[.int .i64 x0, .slice av x1.length cv]
       have hmm := hm.alloc (.cells #[.int .i64 x0, .slice av x1.length cv] 99)
       have frm : Fr LE BO wo (wr.alloc (.cells #[.int .i64 x0, .slice av x1.length cv] 99)) := fr.trans (Fr.ofBelow nb (by omega))
       have hlt0 : ∀ b ∈ fp1, b < wr.heap.size := hm.lt
       have HL : Hid ((ds.take j).length = j) := by unfold Hid; rw [List.length_take]; omega
       have L1 : Hid ((ds.take j).length + 1 <= maxLen) := by unfold Hid; rw [HL.out]; unfold maxLen; omega
       have L2 : Hid (((ds.take j).length + 1) * 32 <= 140737488355328) := by unfold Hid; rw [HL.out]; omega
       have HTK := hidden htk
       have FRR := hidden frm
       have HM := hidden hmm
       have HFP := hidden hfp
       have XO := hidden xom
       have XMM := hidden xmm
       have FLT := hidden hlt0
       clear hcs hdj hv0 hv1 hrv hrv' htk xo hm hfp hb fr nb xom xmm hmm frm hlt0
       go_wp2_with fail
       generalize wr.alloc (.cells #[.int .i64 x0, .slice av x1.length cv] 99) = wm at HX FRR HM XO XMM hzm ⊢
       obtain ⟨MB, hMB⟩ : ∃ MB, wr.heap.size = MB := ⟨_, rfl⟩
       rw [hMB] at XMM hzm hs3 FLT ⊢
       clear hMB pv0 pv1
       have zMB : MB < wm.heap.size := by omega
       have zBO : BO < wm.heap.size := by omega
       have hzm2 : MB + 1 <= wm.heap.size := by omega
       clear hzm
       have mk : Hid (∀ w', Box w' BO 33 #[.int .i64 x.id, .int .i64 x.n, .int .i64 x.s, .slice eM nm gM, .int .i64 x.lost, .int .i64 x.built, .int .i64 x.seq, .int .i64 x.tail, .int .i64 x.gen, v1, .int .i64 x.fuse, .bool x.down, .bool x.broken] -> Box w' MB 99 #[.int .i64 x0, .slice av x1.length cv] -> w'.cell? ⟨BO, 9, none⟩ = some (v1) /\ w'.cell? ⟨MB, 0, none⟩ = some (.int .i64 x0) /\ w'.cell? ⟨MB, 1, none⟩ = some (.slice av x1.length cv)) := fun w' h1 h2 => ⟨h1.cell 9, h2.cell 0, h2.cell 1⟩
       have hS : wm.drew.cell? ⟨BO, 9, none⟩ = some (v1) /\ wm.drew.cell? ⟨MB, 0, none⟩ = some (.int .i64 x0) /\ wm.drew.cell? ⟨MB, 1, none⟩ = some (.slice av x1.length cv) := mk.out wm.drew XO.out XMM.out
       refine Upto.start (S := fun w' => w'.cell? ⟨BO, 9, none⟩ = some (v1) /\ w'.cell? ⟨MB, 0, none⟩ = some (.int .i64 x0) /\ w'.cell? ⟨MB, 1, none⟩ = some (.slice av x1.length cv)) (k := 11) (by kernel_rfl) ?_
       refine Upto.t 0 hS ?_
       refine Upto.t 1 hS ?_
       refine Upto.t 2 hS ?_
       refine Upto.t 3 hS ?_
       refine Upto.t 4 hS ?_
       refine Upto.t 5 hS ?_
       refine Upto.one (i := 6) (by kernel_rfl) rfl (fun K hK => ?_)
       go_simp
       refine (copyWords_any _ _ _ _ x1 HX.out.drew (by omega)).mono ?_
       rintro e wc ⟨ac, cc, rfl, ow, bc⟩
       have hbc' : Below wm.heap.size wm wc := (Below.refl wm.heap.size wm).drew.trans bc
       obtain ⟨fpx, mx, rx0⟩ := ow.mine
       have rx : ∀ b ∈ fpx, wm.heap.size <= b /\ b < wc.heap.size := rx0
       have xoc := XO.out.below hbc' zBO
       have xmc := XMM.out.below hbc' zMB
       have hS3 : wc.cell? ⟨BO, 9, none⟩ = some (v1) /\ wc.cell? ⟨MB, 0, none⟩ = some (.int .i64 x0) /\ wc.cell? ⟨MB, 1, none⟩ = some (.slice av x1.length cv) := mk.out wc xoc xmc
       have zc := hbc'.size
       have hS4 : (wc.alloc (.cells #[.int .i64 x0, .slice ac x1.length cc] 99)).cell? ⟨BO, 9, none⟩ = some (v1) /\ (wc.alloc (.cells #[.int .i64 x0, .slice ac x1.length cc] 99)).cell? ⟨MB, 0, none⟩ = some (.int .i64 x0) /\ (wc.alloc (.cells #[.int .i64 x0, .slice ac x1.length cc] 99)).cell? ⟨MB, 1, none⟩ = some (.slice av x1.length cv) := mk.out _ (xoc.alloc _) (xmc.alloc _)
       have XOC := hidden xoc
       have XMC := hidden xmc
       have MX := hidden mx
       have RX := hidden rx
       have HBC := hidden hbc'
       clear xoc xmc mx rx rx0 hbc' bc ow HX
       go_wp2_with fail
       refine hK.out _ _ (fun _ => hS3) ?_
       clear hK K
       refine Upto.t 7 hS3 ?_
       refine Upto.one (i := 8) (by kernel_rfl) rfl (fun K hK => ?_)
       go_simp
       refine hK.out _ _ (fun _ => hS4) ?_
       clear hK K
       refine Upto.one (i := 9) (by kernel_rfl) rfl (fun K hK => ?_)
       refine step_appT tWr (by rfl) _ _ 31 (by rfl) 99 i1 (.agg #[.int .i64 0, .slice none 0 0]) 32 Try.underlying31 hi1 hy0 hy1 hy2 rfl Nat.zero_lt_two v1 (ds.take j) fp1 (by rfl) ?_ ⟨wc.heap.size, 0, none⟩ 1 [.int .i64 x0, .slice ac x1.length cc] (x0, x1) fpx (by rfl) ?_ ?_ ?_ ?_ L1.out L2.out ?_
       . exact (HM.out.below HBC.out).alloc _
       . exact (wr_mine x0 MX.out).alloc _
       . intro b hb hb'
         have h1 := HM.out.lt b hb
         have h2 := RX.out b hb'
         omega
       . exact news_new _ _ _
       . intro u hu
         simp at hu
         rcases hu with hu | hu <;> (rw [hu]; rfl)
       intro g cap wA fpA m1 m2 m3
       rw [HL.out] at m1 ⊢
       rw [← HTK.out] at m1
       have nMB : MB ∉ fp1 := fun hm => by have := FLT.out _ hm; omega
       have ya := (XOC.out.alloc (.cells #[.int .i64 x0, .slice ac x1.length cc] 99)).turned m3 (fun hm => by have := HFP.out _ hm; omega)
       have ym := (XMC.out.alloc (.cells #[.int .i64 x0, .slice ac x1.length cc] 99)).turned m3 nMB
       have hS5 : wA.cell? ⟨BO, 9, none⟩ = some (v1) /\ wA.cell? ⟨MB, 0, none⟩ = some (.int .i64 x0) /\ wA.cell? ⟨MB, 1, none⟩ = some (.slice av x1.length cv) := mk.out wA ya ym
       have r0 := hS5.1
       have fz := ya.frozen 9
       have YA := hidden ya
       have M1 := hidden m1
       have M2 := hidden m2
       have M3 := hidden m3
       clear ya ym m1 m2 m3 nMB
       refine hK.out _ _ (fun _ => hS5) ?_
       clear hK K
       simp only [Act.put, List.setIfInBounds_toArray, List.set_cons_zero, List.set_cons_succ]
       refine Upto.t 10 hS5 ?_
       refine Upto.one (i := 11) (by kernel_rfl) rfl (fun K hK => ?_)
       go_simp
       refine hK.out _ _ (fun h => absurd rfl h) ?_
       clear hK K
       refine Upto.done (by kernel_rfl) ?_ _
       have HFA := hidden (round_fp (N := LE) (by omega) HBC.out HFP.out RX.out M2.out)
       have FRA := hidden (Fr.round FRR.out (by omega) HBC.out _ M3.out HFP.out 9 (.slice (some ⟨g, 0, none⟩) (j + 1) cap))
       have MA := hidden (M1.out.setCell (g := BO) (j := 9) (fun hm => by have := HFA.out _ hm; omega) (.slice (some ⟨g, 0, none⟩) (j + 1) cap))
       have YA' := hidden (YA.out.set 9 (.slice (some ⟨g, 0, none⟩) (j + 1) cap))
       clear hS hS3 hS4 hS5 r0 YA M1 M2 M3 XOC MX RX HBC HFP HM FRR XO XMM XMC mk FLT
       go_wp2
       go_roundw
       case rel => exact ⟨j + 1, _, fpA, by omega, by go_num, FRA.out, YA'.out, MA.out, HFA.out⟩
       case measure => simp [intOf]; omega
     . have ej : nd = j := by omega
       subst ej
       rw [List.take_of_length_le (by omega)] at hm
       have hlt := hm.lt
       obtain ⟨eD, gD, hvD⟩ := row_shape hm.rd
       rw [hl1] at hvD
       subst hvD
       have K1 := hm.own (lo := LE) (hi := wr.heap.size) (fun b hb => ⟨hfp b hb, hlt b hb⟩)
       have K0 := fr.own KM3.out (Nat.le_refl _) (.inr (by omega))
       have xr := fr.box XR3.out (by omega) (by omega)
       have hbt := puts_but BR [(0, .int .i64 x.id), (1, .int .i64 x.n), (2, .int .i64 x.s), (3, .slice eM nm gM), (4, .int .i64 x.lost), (5, .int .i64 x.built), (6, .int .i64 x.seq), (7, .int .i64 x.tail), (8, .int .i64 x.gen), (9, .slice eD nd gD), (10, .int .i64 x.fuse), (11, .bool x.down), (12, .bool x.broken)] wr
       have H0 := K0.but hbt (.inr (by omega))
       have H1 := K1.but hbt (.inr (by omega))
       have HBB := Below.andBut hb hbt (by omega)
       have hsz := hbt.size
       have H0w := hidden (H0.widen (lo' := w.heap.size) (hi' := LE) (by omega) (Nat.le_refl _))
       have H1w := hidden (H1.widen (lo' := LE) (Nat.le_refl _) hsz)
       have HBw := hidden HBB
       have HSZ : Hid (LE <= (puts wr BR [(0, .int .i64 x.id), (1, .int .i64 x.n), (2, .int .i64 x.s), (3, .slice eM nm gM), (4, .int .i64 x.lost), (5, .int .i64 x.built), (6, .int .i64 x.seq), (7, .int .i64 x.tail), (8, .int .i64 x.gen), (9, .slice eD nd gD), (10, .int .i64 x.fuse), (11, .bool x.down), (12, .bool x.broken)]).heap.size) := by unfold Hid; omega
       simp only [puts] at H0w H1w HBw HSZ
       obtain ⟨p0, p1, p2, p3, p4, p5, p6, p7, p8, p9, p10, p11, p12⟩ := xr.cells13
       have fz := xr.frozen
       obtain ⟨r0, r1, r2, r3, r4, r5, r6, r7, r8, r9, r10, r11, r12⟩ := xo.cells13
       have hLw : w.heap.size <= LE := by omega
       clear fr xo hb hm hfp hlt xr K0 K1 hbt H0 H1 HBB hsz hj hs3
       go_wp2
       refine bodyPost_ret (v := .agg #[.int .i64 x.id, .int .i64 x.n, .int .i64 x.s, .slice eM nm gM, .int .i64 x.lost, .int .i64 x.built, .int .i64 x.seq, .int .i64 x.tail, .int .i64 x.gen, .slice eD nd gD, .int .i64 x.fuse, .bool x.down, .bool x.broken]) (by simp [results, Try.results36, go_sem, p0, p1, p2, p3, p4, p5, p6, p7, p8, p9, p10, p11, p12]) rfl ?_
       exact ⟨_, _, _, _, LE, rfl, H0w.out, H1w.out, hLw, HSZ.out, HBw.out⟩

theorem arrOfSuper_any (w : World) (E F : TypeId) (s : Sup) (am : Option Addr) (nm cm : Nat) (ms : List MemD) (h0 : (tMemS E F).Rd w [.slice am nm cm] ms) (hw : wtMemS ms <= 2097152) :
 Calls Try.prog 57 #[.agg #[.int .i64 s.id, .int .i64 s.gen, .int .i64 s.role, .int .i64 s.n, .int .i64 s.s, .int .i64 s.tail, .int .i64 s.lost, .int .i64 s.built], .slice am nm cm] w fun e w' => ArrOut w w' e (arr0 s, ms) [] := by
 obtain ⟨rfl, _⟩ := row_length h0
 have zz : ∀ u : World, ∀ ob : Obj, (u.alloc ob).heap.size = u.heap.size + 1 := fun u ob => by simp
 have hA := ((new_below w (.cells #[.int .i64 s.id, .int .i64 s.gen, .int .i64 s.role, .int .i64 s.n, .int .i64 s.s, .int .i64 s.tail, .int .i64 s.lost, .int .i64 s.built] 80)).alloc (by simp) (.cells #[.int .i64 0, .int .i64 0, .int .i64 0, .slice none 0 0, .int .i64 0, .int .i64 0, .int .i64 0, .int .i64 0, .int .i64 0, .slice none 0 0, .int .i64 0, .bool false, .bool false] 33)).alloc (by simp; omega) (.cells #[.int .i64 s.id, .int .i64 s.n, .int .i64 s.s, .slice am ms.length cm, .int .i64 s.lost, .int .i64 s.built, .int .i64 0, .int .i64 0, .int .i64 0, .slice none 0 0, .int .i64 0, .bool false, .bool false] 33)
 have S0 := ((Box.new w 80 #[.int .i64 s.id, .int .i64 s.gen, .int .i64 s.role, .int .i64 s.n, .int .i64 s.s, .int .i64 s.tail, .int .i64 s.lost, .int .i64 s.built]).alloc (.cells #[.int .i64 0, .int .i64 0, .int .i64 0, .slice none 0 0, .int .i64 0, .int .i64 0, .int .i64 0, .int .i64 0, .int .i64 0, .slice none 0 0, .int .i64 0, .bool false, .bool false] 33)).alloc (.cells #[.int .i64 s.id, .int .i64 s.n, .int .i64 s.s, .slice am ms.length cm, .int .i64 s.lost, .int .i64 s.built, .int .i64 0, .int .i64 0, .int .i64 0, .slice none 0 0, .int .i64 0, .bool false, .bool false] 33)
 have R0 := (Box.new (w.alloc (.cells #[.int .i64 s.id, .int .i64 s.gen, .int .i64 s.role, .int .i64 s.n, .int .i64 s.s, .int .i64 s.tail, .int .i64 s.lost, .int .i64 s.built] 80)) 33 #[.int .i64 0, .int .i64 0, .int .i64 0, .slice none 0 0, .int .i64 0, .int .i64 0, .int .i64 0, .int .i64 0, .int .i64 0, .slice none 0 0, .int .i64 0, .bool false, .bool false]).alloc (.cells #[.int .i64 s.id, .int .i64 s.n, .int .i64 s.s, .slice am ms.length cm, .int .i64 s.lost, .int .i64 s.built, .int .i64 0, .int .i64 0, .int .i64 0, .slice none 0 0, .int .i64 0, .bool false, .bool false] 33)
 have X0 := Box.new ((w.alloc (.cells #[.int .i64 s.id, .int .i64 s.gen, .int .i64 s.role, .int .i64 s.n, .int .i64 s.s, .int .i64 s.tail, .int .i64 s.lost, .int .i64 s.built] 80)).alloc (.cells #[.int .i64 0, .int .i64 0, .int .i64 0, .slice none 0 0, .int .i64 0, .int .i64 0, .int .i64 0, .int .i64 0, .int .i64 0, .slice none 0 0, .int .i64 0, .bool false, .bool false] 33)) 33 #[.int .i64 s.id, .int .i64 s.n, .int .i64 s.s, .slice am ms.length cm, .int .i64 s.lost, .int .i64 s.built, .int .i64 0, .int .i64 0, .int .i64 0, .slice none 0 0, .int .i64 0, .bool false, .bool false]
 rw [zz] at R0
 rw [zz, zz] at X0
 obtain ⟨q0, q1', q2, q3, q4, q5, q6, q7⟩ := S0.cells8
 go_enter Try.func57, Try.ntmps57
 go_upto_region 2 with fail
 generalize ((w.alloc (.cells #[.int .i64 s.id, .int .i64 s.gen, .int .i64 s.role, .int .i64 s.n, .int .i64 s.s, .int .i64 s.tail, .int .i64 s.lost, .int .i64 s.built] 80)).alloc (.cells #[.int .i64 0, .int .i64 0, .int .i64 0, .slice none 0 0, .int .i64 0, .int .i64 0, .int .i64 0, .int .i64 0, .int .i64 0, .slice none 0 0, .int .i64 0, .bool false, .bool false] 33)).alloc (.cells #[.int .i64 s.id, .int .i64 s.n, .int .i64 s.s, .slice am ms.length cm, .int .i64 s.lost, .int .i64 s.built, .int .i64 0, .int .i64 0, .int .i64 0, .slice none 0 0, .int .i64 0, .bool false, .bool false] 33) = w2 at hA S0 R0 X0 q0 q1' q2 q3 q4 q5 q6 q7 ⊢
 have zX := X0.lt
 obtain ⟨SB, hSB⟩ : ∃ SB, w.heap.size = SB := ⟨_, rfl⟩
 obtain ⟨RB, hRB⟩ : ∃ RB, w.heap.size + 1 = RB := ⟨_, rfl⟩
 obtain ⟨AB, hAB⟩ : ∃ AB, w.heap.size + 1 + 1 = AB := ⟨_, rfl⟩
 rw [hAB] at X0 zX ⊢
 rw [hRB] at R0 ⊢
 rw [hSB] at S0 q0 q1' q2 q3 q4 q5 q6 q7 ⊢
 have q1 : w.heap.size <= SB /\ SB < RB /\ RB < AB := by omega
 clear hSB hRB hAB zz
 have n1 : ¬ SB = AB := by omega
 have n2 : ¬ AB = SB := by omega
 have n3 : ¬ RB = AB := by omega
 have n4 : ¬ AB = RB := by omega
 obtain ⟨t0, t1, t2, t3, t4, t5, t6, t7, t8, t9, t10, t11, t12⟩ := X0.cells13
 have fz := X0.frozen
 have hbt : But AB (AB + 1) w2 (((((w2).setCell ⟨AB, 6, none⟩ (.int .i64 s.tail)).setCell ⟨AB, 7, none⟩ (.int .i64 s.tail)).setCell ⟨AB, 8, none⟩ (.int .i64 s.gen)).setCell ⟨AB, 10, none⟩ (.int .i64 (-1))) := (((But.setCell (Nat.le_refl AB) (Nat.lt_succ_self AB) _).trans (But.setCell (Nat.le_refl AB) (Nat.lt_succ_self AB) _)).trans (But.setCell (Nat.le_refl AB) (Nat.lt_succ_self AB) _)).trans (But.setCell (Nat.le_refl AB) (Nat.lt_succ_self AB) _)
 have X1 : Hid (Box (((((w2).setCell ⟨AB, 6, none⟩ (.int .i64 s.tail)).setCell ⟨AB, 7, none⟩ (.int .i64 s.tail)).setCell ⟨AB, 8, none⟩ (.int .i64 s.gen)).setCell ⟨AB, 10, none⟩ (.int .i64 (-1))) AB 33 #[.int .i64 s.id, .int .i64 s.n, .int .i64 s.s, .slice am ms.length cm, .int .i64 s.lost, .int .i64 s.built, .int .i64 s.tail, .int .i64 s.tail, .int .i64 s.gen, .slice none 0 0, .int .i64 (-1), .bool false, .bool false]) := (((X0.set 6 _).set 7 _).set 8 _).set 10 _
 have R1 := hidden (R0.kept (hbt.block _ R0.lt (by omega)))
 have B1 := hidden (Below.andBut hA hbt (by omega))
 have m1 : ∀ w' : World, w'.heap[SB]? = w2.heap[SB]? -> w'.cell? ⟨SB, 5, none⟩ = some (.int .i64 s.tail) /\ w'.cell? ⟨SB, 1, none⟩ = some (.int .i64 s.gen) := fun w' h => ⟨(S0.kept h).cell 5, (S0.kept h).cell 1⟩
 have g0 : w2.drew.cell? ⟨SB, 5, none⟩ = some (.int .i64 s.tail) /\ w2.drew.cell? ⟨SB, 1, none⟩ = some (.int .i64 s.gen) := ⟨q5, q1'⟩
 have hS7 : ((w2).setCell ⟨AB, 6, none⟩ (.int .i64 s.tail)).drew.cell? ⟨SB, 5, none⟩ = some (.int .i64 s.tail) /\ ((w2).setCell ⟨AB, 6, none⟩ (.int .i64 s.tail)).drew.cell? ⟨SB, 1, none⟩ = some (.int .i64 s.gen) := m1 _ (by simp only [World.drew]; rw [Below.heap_setCell _ _ _ _ n1])
 have hS9 : (((w2).setCell ⟨AB, 6, none⟩ (.int .i64 s.tail)).setCell ⟨AB, 7, none⟩ (.int .i64 s.tail)).drew.cell? ⟨SB, 5, none⟩ = some (.int .i64 s.tail) /\ (((w2).setCell ⟨AB, 6, none⟩ (.int .i64 s.tail)).setCell ⟨AB, 7, none⟩ (.int .i64 s.tail)).drew.cell? ⟨SB, 1, none⟩ = some (.int .i64 s.gen) := m1 _ (by simp only [World.drew]; rw [Below.heap_setCell _ _ _ _ n1, Below.heap_setCell _ _ _ _ n1])
 have hS11 : ((((w2).setCell ⟨AB, 6, none⟩ (.int .i64 s.tail)).setCell ⟨AB, 7, none⟩ (.int .i64 s.tail)).setCell ⟨AB, 8, none⟩ (.int .i64 s.gen)).drew.cell? ⟨SB, 5, none⟩ = some (.int .i64 s.tail) /\ ((((w2).setCell ⟨AB, 6, none⟩ (.int .i64 s.tail)).setCell ⟨AB, 7, none⟩ (.int .i64 s.tail)).setCell ⟨AB, 8, none⟩ (.int .i64 s.gen)).drew.cell? ⟨SB, 1, none⟩ = some (.int .i64 s.gen) := m1 _ (by simp only [World.drew]; rw [Below.heap_setCell _ _ _ _ n1, Below.heap_setCell _ _ _ _ n1, Below.heap_setCell _ _ _ _ n1])
 have hS13 : (((((w2).setCell ⟨AB, 6, none⟩ (.int .i64 s.tail)).setCell ⟨AB, 7, none⟩ (.int .i64 s.tail)).setCell ⟨AB, 8, none⟩ (.int .i64 s.gen)).setCell ⟨AB, 10, none⟩ (.int .i64 (-1))).drew.cell? ⟨SB, 5, none⟩ = some (.int .i64 s.tail) /\ (((((w2).setCell ⟨AB, 6, none⟩ (.int .i64 s.tail)).setCell ⟨AB, 7, none⟩ (.int .i64 s.tail)).setCell ⟨AB, 8, none⟩ (.int .i64 s.gen)).setCell ⟨AB, 10, none⟩ (.int .i64 (-1))).drew.cell? ⟨SB, 1, none⟩ = some (.int .i64 s.gen) := m1 _ (by simp only [World.drew]; rw [Below.heap_setCell _ _ _ _ n1, Below.heap_setCell _ _ _ _ n1, Below.heap_setCell _ _ _ _ n1, Below.heap_setCell _ _ _ _ n1])
 refine wp_region_held_drew (S := fun w' => w'.cell? ⟨SB, 5, none⟩ = some (.int .i64 s.tail) /\ w'.cell? ⟨SB, 1, none⟩ = some (.int .i64 s.gen)) (by kernel_rfl) ?_ (fun hHeld => ?_)
 . exact g0
 refine held_t 0 hHeld ?_
 refine held_t 1 hHeld ?_
 refine held_t 2 hHeld ?_
 refine held_t 3 hHeld ?_
 refine held_t 4 hHeld ?_
 refine held_t 5 hHeld ?_
 refine held_t 6 hHeld ?_
 refine held_one (i := 7) (by kernel_rfl) rfl (by kernel_rfl) (fun K hK => ?_)
 go_simp
 clear hHeld
 refine hK.out _ _ ?_ (fun hHeld => ?_)
 . exact hS7
 clear hK K
 refine held_t 8 hHeld ?_
 refine held_one (i := 9) (by kernel_rfl) rfl (by kernel_rfl) (fun K hK => ?_)
 go_simp
 clear hHeld
 refine hK.out _ _ ?_ (fun hHeld => ?_)
 . exact hS9
 clear hK K
 refine held_t 10 hHeld ?_
 refine held_one (i := 11) (by kernel_rfl) rfl (by kernel_rfl) (fun K hK => ?_)
 go_simp
 clear hHeld
 refine hK.out _ _ ?_ (fun hHeld => ?_)
 . exact hS11
 clear hK K
 refine held_t 12 hHeld ?_
 refine held_one (i := 13) (by kernel_rfl) rfl (by kernel_rfl) (fun K hK => ?_)
 go_simp
 clear hHeld
 refine hK.out _ _ ?_ (fun hHeld => ?_)
 . exact hS13
 clear hK K
 clear hHeld
 generalize ((((w2).setCell ⟨AB, 6, none⟩ (.int .i64 s.tail)).setCell ⟨AB, 7, none⟩ (.int .i64 s.tail)).setCell ⟨AB, 8, none⟩ (.int .i64 s.gen)).setCell ⟨AB, 10, none⟩ (.int .i64 (-1)) = w3 at X1 R1 B1 ⊢
 clear q0 q1' q2 q3 q4 q5 q6 q7 t0 t1 t2 t3 t4 t5 t6 t7 t8 t9 t10 t11 t12 fz hbt g0 m1 S0 R0 X0 hA
 refine wpAnyH_done (by kernel_rfl) ?_ _
 clear hS7 hS9 hS11 hS13
 have h1 : (tWrS 99).Rd w3 [.slice none 0 0] [] := (nil_mine (t := tWr) (E := 99) w3).rd
 have p0 := h0.below B1.out
 obtain ⟨t0, t1, t2, t3, t4, t5, t6, t7, t8, t9, t10, t11, t12⟩ := X1.out.cells13
 have zR := R1.out.lt
 have zB := B1.out.size
 go_wp2_with fail
 refine (copyArr_any _ E F 99 (arr0 s) _ _ _ _ _ _ ms [] p0.drew h1.drew (by unfold wtArr; have : wtWrS [] = 0 := rfl; omega)).mono ?_
 rintro e w5 ⟨bm, cm1, bd, cd1, m, rfl, om, od, zm, zm2, b1⟩
 have b1' : Below w3.heap.size w3 w5 := (Below.refl w3.heap.size w3).drew.trans b1
 have R2 := R1.out.below b1' zR
 have B2 := Below.andThen B1.out b1'
 obtain ⟨fm, mm, rm⟩ := om.mine
 obtain ⟨fd, md, rd⟩ := od.mine
 have rm2 : ∀ b ∈ fm, w3.heap.size <= b := fun b hb => (rm b hb).1
 have rd2 : ∀ b ∈ fd, w3.heap.size <= b := fun b hb => by have h2 := (rd b hb).1; have h3 : w3.heap.size <= m := zm; omega
 have HO := hidden (arr_out (y := arr0 s) (ds := []) (vd := bd) (cvd := cd1) (e := .returned (.agg (arrC (arr0 s) _ _))) B2 R2 rfl mm md (fun b hb hb' => by have h1 := rm b hb; have h2 := rd b hb'; omega) rm2 rd2 (by omega) zR)
 unfold arrC at HO
 simp only [puts, List.length_nil] at HO
 obtain ⟨r0, r1, r2, r3, r4, r5, r6, r7, r8, r9, r10, r11, r12⟩ := R2.cells13
 have fz2 := R2.frozen
 clear t0 t1 t2 t3 t4 t5 t6 t7 t8 t9 t10 t11 t12 X1 R1 B1 b1 b1' om od mm md R2 B2 p0 h1
 go_wp2
 refine bodyPost_ret (v := .agg #[.int .i64 (arr0 s).id, .int .i64 (arr0 s).n, .int .i64 (arr0 s).s, .slice bm ms.length cm1, .int .i64 (arr0 s).lost, .int .i64 (arr0 s).built, .int .i64 (arr0 s).seq, .int .i64 (arr0 s).tail, .int .i64 (arr0 s).gen, .slice bd 0 cd1, .int .i64 (arr0 s).fuse, .bool (arr0 s).down, .bool (arr0 s).broken]) (by simp [results, Try.results57, go_sem, r0, r1, r2, r3, r4, r5, r6, r7, r8, r9, r10, r11, r12]) rfl ?_
 exact HO.out

theorem superHere_any (w : World) (E : TypeId) (a0 a1 a3 : Option Addr) (n0 c0 n1 c1 n3 c3 : Nat) (ss : List (List Int)) (cs : List (Int × List Int)) (f : Bool) (bs : List Int) (id i : Int) (h0 : tIntSS.Rd w [.slice a0 n0 c0] ss) (h1 : (tWrS E).Rd w [.slice a1 n1 c1] cs) (h3 : tIntS.Rd w [.slice a3 n3 c3] bs) (hw : wtMem (ss, cs, f, bs) <= 2097152) :
 Calls Try.prog 58 #[.agg #[.slice a0 n0 c0, .slice a1 n1 c1, .bool f, .slice a3 n3 c3], .int .i64 id, .int .i64 i] w fun e w' => HereOut w w' e (ss, cs, f, bs) id i := by
 have hA := (new_below w (.cells #[.slice a0 n0 c0, .slice a1 n1 c1, .bool f, .slice a3 n3 c3] 73)).alloc (by simp) (.cells #[.int .i64 0, .int .i64 0, .int .i64 0, .int .i64 0, .int .i64 0, .int .i64 0, .int .i64 0, .int .i64 0] 80)
 have M0 := (Box.new w 73 #[.slice a0 n0 c0, .slice a1 n1 c1, .bool f, .slice a3 n3 c3]).alloc (.cells #[.int .i64 0, .int .i64 0, .int .i64 0, .int .i64 0, .int .i64 0, .int .i64 0, .int .i64 0, .int .i64 0] 80)
 have R0 := Box.new (w.alloc (.cells #[.slice a0 n0 c0, .slice a1 n1 c1, .bool f, .slice a3 n3 c3] 73)) 80 #[.int .i64 0, .int .i64 0, .int .i64 0, .int .i64 0, .int .i64 0, .int .i64 0, .int .i64 0, .int .i64 0]
 rw [World.size_alloc] at R0
 have zR := R0.lt
 obtain ⟨q0, q1, q2, q3⟩ := M0.cells4
 go_enter Try.func58, Try.ntmps58
 go_wp2_with fail
 generalize (w.alloc (.cells #[.slice a0 n0 c0, .slice a1 n1 c1, .bool f, .slice a3 n3 c3] 73)).alloc (.cells #[.int .i64 0, .int .i64 0, .int .i64 0, .int .i64 0, .int .i64 0, .int .i64 0, .int .i64 0, .int .i64 0] 80) = W at hA M0 R0 zR q0 q1 q2 q3 ⊢
 refine (implBestSuper_any _ E _ _ _ _ _ _ _ _ _ ss cs f bs id (h0.below hA) (h1.below hA) (h3.below hA) hw).mono ?_
 rintro e w1 ⟨rfl, b1⟩
 have HB := hidden (show best1 (ss, cs, f, bs) id = bestSt ss cs f bs id 2 from rfl)
 generalize bestSt ss cs f bs id 2 = yf at HB ⊢
 obtain ⟨y, fb⟩ := yf
 dsimp only
 have R1 := R0.below b1 zR
 have B1 := Below.andThen hA b1
 have z1 := B1.size
 have z2 := R1.lt
 clear q0 q1 q2 q3 M0 R0 hA b1
 have X3 := Box.new w1 80 #[.int .i64 y.id, .int .i64 y.gen, .int .i64 y.role, .int .i64 y.n, .int .i64 y.s, .int .i64 y.tail, .int .i64 y.lost, .int .i64 y.built]
 have R3 := R1.alloc (.cells #[.int .i64 y.id, .int .i64 y.gen, .int .i64 y.role, .int .i64 y.n, .int .i64 y.s, .int .i64 y.tail, .int .i64 y.lost, .int .i64 y.built] 80)
 have B3 := hidden (B1.alloc z1 (.cells #[.int .i64 y.id, .int .i64 y.gen, .int .i64 y.role, .int .i64 y.n, .int .i64 y.s, .int .i64 y.tail, .int .i64 y.lost, .int .i64 y.built] 80))
 obtain ⟨x0, x1, x2, x3, x4, x5, x6, x7⟩ := X3.cells8
 obtain ⟨r0, r1, r2, r3, r4, r5, r6, r7⟩ := R3.cells8
 have fz := R3.frozen
 have hne : ¬ w.heap.size + 1 = w1.heap.size := by omega
 have hne2 : ¬ w1.heap.size = w.heap.size + 1 := by omega
 have HV := hidden (hereB_some (i := i) HB.out)
 have HZ := hidden (Below.andBut B3.out (set8_but (w1.alloc (.cells #[.int .i64 y.id, .int .i64 y.gen, .int .i64 y.role, .int .i64 y.n, .int .i64 y.s, .int .i64 y.tail, .int .i64 y.lost, .int .i64 y.built] 80)) (w.heap.size + 1) (.int .i64 0) (.int .i64 0) (.int .i64 0) (.int .i64 0) (.int .i64 0) (.int .i64 0) (.int .i64 0) (.int .i64 0)) (by omega))
 have HY := hidden (Below.andBut B3.out (set8_but (w1.alloc (.cells #[.int .i64 y.id, .int .i64 y.gen, .int .i64 y.role, .int .i64 y.n, .int .i64 y.s, .int .i64 y.tail, .int .i64 y.lost, .int .i64 y.built] 80)) (w.heap.size + 1) (.int .i64 y.id) (.int .i64 y.gen) (.int .i64 y.role) (.int .i64 y.n) (.int .i64 y.s) (.int .i64 y.tail) (.int .i64 y.lost) (.int .i64 y.built)) (by omega))
 unfold set8 at HZ HY
 clear X3 R3 B3 R1 B1
 go_upto_region 2 with fail
 generalize w1.alloc (.cells #[.int .i64 y.id, .int .i64 y.gen, .int .i64 y.role, .int .i64 y.n, .int .i64 y.s, .int .i64 y.tail, .int .i64 y.lost, .int .i64 y.built] 80) = w2 at HZ HY x0 x1 x2 x3 x4 x5 x6 x7 r0 r1 r2 r3 r4 r5 r6 r7 fz ⊢
 by_cases hf : fb = true
 . subst hf
   by_cases hr : y.role = i
   . have HT : Hid (hereB (ss, cs, f, bs) id i = true) := by unfold Hid; rw [HV.out]; simp [hr]
     have hr' : ¬ y.role ≠ i := fun h => h hr
     have hd1 : (decide (y.role = i)) = true := decide_eq_true hr
     clear hr
     go_wp2
     refine bodyPost_ret (v := .tuple #[.agg #[.int .i64 y.id, .int .i64 y.gen, .int .i64 y.role, .int .i64 y.n, .int .i64 y.s, .int .i64 y.tail, .int .i64 y.lost, .int .i64 y.built], .bool true]) (by simp [results, Try.results58, go_sem, r0, r1, r2, r3, r4, r5, r6, r7]) rfl ?_
     exact ⟨y, by rw [HT.out], fun _ => by rw [HB.out], HY.out⟩
   . have HT : Hid (hereB (ss, cs, f, bs) id i = false) := by unfold Hid; rw [HV.out]; simp [hr]
     go_wp2
     refine bodyPost_ret (v := .tuple #[.agg #[.int .i64 0, .int .i64 0, .int .i64 0, .int .i64 0, .int .i64 0, .int .i64 0, .int .i64 0, .int .i64 0], .bool false]) (by simp [results, Try.results58, go_sem, r0, r1, r2, r3, r4, r5, r6, r7]) rfl ?_
     exact ⟨supZ, by rw [HT.out]; rfl, (fun h => by rw [HT.out] at h; cases h), HZ.out⟩
 . have hf : fb = false := by simpa using hf
   subst hf
   have HT : Hid (hereB (ss, cs, f, bs) id i = false) := by unfold Hid; rw [HV.out]; rfl
   go_wp2
   refine bodyPost_ret (v := .tuple #[.agg #[.int .i64 0, .int .i64 0, .int .i64 0, .int .i64 0, .int .i64 0, .int .i64 0, .int .i64 0, .int .i64 0], .bool false]) (by simp [results, Try.results58, go_sem, r0, r1, r2, r3, r4, r5, r6, r7]) rfl ?_
   exact ⟨supZ, by rw [HT.out]; rfl, (fun h => by rw [HT.out] at h; cases h), HZ.out⟩

theorem newestSuper_any (w : World) (E F : TypeId) (a : Option Addr) (n cap : Nat) (ms : List MemD) (id : Int) (h0 : (tMemS E F).Rd w [.slice a n cap] ms) (hw : wtMemS ms <= 2097152) :
 Calls Try.prog 56 #[.slice a n cap, .int .i64 id] w fun e w' => NewOut w w' e ms id := by
 obtain ⟨hl, hc, hm⟩ := row_length h0
 have hn : n <= 2097152 := by unfold wtMemS at hw; omega
 have hA := (new_below w (.cells #[.int .i64 0, .int .i64 0, .int .i64 0, .int .i64 0, .int .i64 0, .int .i64 0, .int .i64 0, .int .i64 0] 80)).alloc (by simp) (.cells #[.int .i64 0, .int .i64 0, .int .i64 0, .int .i64 0, .int .i64 0, .int .i64 0, .int .i64 0, .int .i64 0] 80)
 have R0 := (Box.new w 80 #[.int .i64 0, .int .i64 0, .int .i64 0, .int .i64 0, .int .i64 0, .int .i64 0, .int .i64 0, .int .i64 0]).alloc (.cells #[.int .i64 0, .int .i64 0, .int .i64 0, .int .i64 0, .int .i64 0, .int .i64 0, .int .i64 0, .int .i64 0] 80)
 have T0 := Box.new (w.alloc (.cells #[.int .i64 0, .int .i64 0, .int .i64 0, .int .i64 0, .int .i64 0, .int .i64 0, .int .i64 0, .int .i64 0] 80)) 80 #[.int .i64 0, .int .i64 0, .int .i64 0, .int .i64 0, .int .i64 0, .int .i64 0, .int .i64 0, .int .i64 0]
 rw [World.size_alloc] at T0
 go_enter Try.func56, Try.ntmps56
 go_wp2
 generalize (w.alloc (.cells #[.int .i64 0, .int .i64 0, .int .i64 0, .int .i64 0, .int .i64 0, .int .i64 0, .int .i64 0, .int .i64 0] 80)).alloc (.cells #[.int .i64 0, .int .i64 0, .int .i64 0, .int .i64 0, .int .i64 0, .int .i64 0, .int .i64 0, .int .i64 0] 80) = W at hA R0 T0 ⊢
 obtain ⟨RB, hRB⟩ : ∃ RB, w.heap.size = RB := ⟨_, rfl⟩
 obtain ⟨TB, hTB⟩ : ∃ TB, w.heap.size + 1 = TB := ⟨_, rfl⟩
 rw [hTB] at T0 ⊢
 rw [hRB] at R0 ⊢
 have q1 : w.heap.size <= RB /\ RB < TB := by omega
 have HRB := hidden hRB
 clear hTB hRB
 go_loopw [7, 15] (fun fv i wr => ∃ (j : Nat) (y : Sup) (fb : Bool), j <= n /\ i = .int .i64 j /\ fv = .bool fb /\ newSt ms id j = (y, fb) /\ Box wr TB 80 #[.int .i64 y.id, .int .i64 y.gen, .int .i64 y.role, .int .i64 y.n, .int .i64 y.s, .int .i64 y.tail, .int .i64 y.lost, .int .i64 y.built] /\ Box wr RB 80 #[.int .i64 0, .int .i64 0, .int .i64 0, .int .i64 0, .int .i64 0, .int .i64 0, .int .i64 0, .int .i64 0] /\ Below w.heap.size w wr) (fun _ i _ => n - (intOf i).toNat)
 case atStart => exact ⟨0, supZ, false, by omega, rfl, rfl, rfl, T0, R0, hA⟩
 case round =>
  obtain ⟨j, y, fb, hj, rfl, rfl, hst, T1, R1, B1⟩ := hrel
  clear T0 R0 hA
  have HST := hidden hst
  have zR := R1.lt
  have zT := T1.lt
  have zw := B1.size
  clear hst
  by_cases hjn : j < n
  . have k2 : (j : Int) < (n : Int) := by omega
    have k1 : (0 : Int) <= (j : Int) := by omega
    have hdj : ms[j]? = some (ms[j]'(by omega)) := List.getElem?_eq_getElem (by omega)
    generalize ms[j]'(by omega) = d at hdj
    have hin := Nat.le_trans (inner_leM hdj) hw
    rcases quads_at rfl h0 with h0' | ⟨b, off, rfl, hbl, hcs⟩
    . omega
    obtain ⟨u0, u1, u2, u3, hv0, hv1, hv2, hv3, hrv⟩ := hcs j d hdj
    obtain ⟨a0, c0, a1, c1, a3, c3, ss, cs, f, bs, rfl, rfl, rfl, rfl, rfl, r0, r1, r3⟩ := mem_at hrv
    have HDJ := hidden hdj
    have pv0 := (B1.cell (p := ⟨b, off + j * 4, none⟩) hbl).trans hv0
    have pv1 := (B1.cell (p := ⟨b, off + j * 4 + 1, none⟩) hbl).trans hv1
    have pv2 := (B1.cell (p := ⟨b, off + j * 4 + 2, none⟩) hbl).trans hv2
    have pv3 := (B1.cell (p := ⟨b, off + j * 4 + 3, none⟩) hbl).trans hv3
    have nb := new_below wr (.cells #[.slice a0 ss.length c0, .slice a1 cs.length c1, .bool f, .slice a3 bs.length c3] 73)
    have hbm := Below.andThen B1 nb
    have R0' := hidden (r0.below hbm)
    have R1' := hidden (r1.below hbm)
    have R3' := hidden (r3.below hbm)
    have T3p := hidden (T1.below nb zT)
    have R3p := hidden (R1.below nb zR)
    have B3p := hidden hbm
    have hzm : (wr.alloc (.cells #[.slice a0 ss.length c0, .slice a1 cs.length c1, .bool f, .slice a3 bs.length c3] 73)).heap.size = wr.heap.size + 1 := by simp
    clear hcs hdj hv0 hv1 hv2 hv3 hrv r0 r1 r3 nb hbm T1 R1 B1
    go_wp2_with fail
    generalize wr.alloc (.cells #[.slice a0 ss.length c0, .slice a1 cs.length c1, .bool f, .slice a3 bs.length c3] 73) = wm at R0' R1' R3' T3p R3p B3p hzm ⊢
    have zTm := T3p.out.lt
    have zRm := R3p.out.lt
    clear hzm
    refine (superHere_any _ E _ _ _ _ _ _ _ _ _ ss cs f bs id (j : Int) R0'.out R1'.out R3'.out hin).mono ?_
    clear R0' R1' R3' pv0 pv1 pv2 pv3
    rintro e w1 ⟨x, rfl, hx, b1⟩
    have UP := hidden (fun h => new_up (ms := ms) (id := id) HDJ.out HST.out hx h)
    have DN := hidden (fun h => new_same (ms := ms) (id := id) HDJ.out HST.out hx h)
    clear hx
    generalize hereB (ss, cs, f, bs) id (j : Int) = k at UP DN ⊢
    have T2 := T3p.out.below b1 (by omega)
    have R2 := R3p.out.below b1 (by omega)
    have B2 := Below.andThen B3p.out b1
    have z1 := b1.size
    clear T3p R3p B3p b1
    have T3 := T2.alloc (.cells #[.int .i64 x.id, .int .i64 x.gen, .int .i64 x.role, .int .i64 x.n, .int .i64 x.s, .int .i64 x.tail, .int .i64 x.lost, .int .i64 x.built] 80)
    have R3 := hidden (R2.alloc (.cells #[.int .i64 x.id, .int .i64 x.gen, .int .i64 x.role, .int .i64 x.n, .int .i64 x.s, .int .i64 x.tail, .int .i64 x.lost, .int .i64 x.built] 80))
    have B3 := hidden (B2.alloc B2.size (.cells #[.int .i64 x.id, .int .i64 x.gen, .int .i64 x.role, .int .i64 x.n, .int .i64 x.s, .int .i64 x.tail, .int .i64 x.lost, .int .i64 x.built] 80))
    have X3 := Box.new w1 80 #[.int .i64 x.id, .int .i64 x.gen, .int .i64 x.role, .int .i64 x.n, .int .i64 x.s, .int .i64 x.tail, .int .i64 x.lost, .int .i64 x.built]
    have zT1 := T2.lt
    obtain ⟨x0, x1, x2, x3, x4, x5, x6, x7⟩ := X3.cells8
    obtain ⟨t0, t1, t2, t3, t4, t5, t6, t7⟩ := T3.cells8
    have fz := T3.frozen
    have TT := hidden T3
    clear T2 R2 B2 X3 T3
    go_upto_region 6 with fail
    generalize w1.alloc (.cells #[.int .i64 x.id, .int .i64 x.gen, .int .i64 x.role, .int .i64 x.n, .int .i64 x.s, .int .i64 x.tail, .int .i64 x.lost, .int .i64 x.built] 80) = w2 at R3 B3 TT x0 x1 x2 x3 x4 x5 x6 x7 t0 t1 t2 t3 t4 t5 t6 t7 fz ⊢
    obtain ⟨XB, hXB⟩ : ∃ XB, w1.heap.size = XB := ⟨_, rfl⟩
    rw [hXB] at x0 x1 x2 x3 x4 x5 x6 x7 zT1 ⊢
    have hne : ¬ TB = XB := by omega
    have hne2 : ¬ XB = TB := by omega
    clear hXB
    by_cases hb : better k x y fb = true
    . have HN := hidden (UP.out hb)
      have hbt := set8_but w2 TB (.int .i64 x.id) (.int .i64 x.gen) (.int .i64 x.role) (.int .i64 x.n) (.int .i64 x.s) (.int .i64 x.tail) (.int .i64 x.lost) (.int .i64 x.built)
      have TF := hidden (set8_box TT.out (.int .i64 x.id) (.int .i64 x.gen) (.int .i64 x.role) (.int .i64 x.n) (.int .i64 x.s) (.int .i64 x.tail) (.int .i64 x.lost) (.int .i64 x.built))
      have RF := hidden (R3.out.kept (hbt.block _ (by have := R3.out.lt; omega) (by omega)))
      have BF := hidden (Below.andBut B3.out hbt (by omega))
      unfold set8 at TF RF BF
      clear hbt UP DN R3 B3 TT
      unfold better at hb
      simp only [Bool.and_eq_true, Bool.or_eq_true, Bool.not_eq_true', decide_eq_true_eq] at hb
      obtain ⟨hk, hc⟩ := hb
      subst hk
      by_cases hf : fb = true
      . subst hf
        have hc : y.gen < x.gen := by simpa using hc
        go_wp2
        go_roundw
        case rel => exact ⟨j + 1, x, true, by omega, by go_num, rfl, HN.out, TF.out, RF.out, BF.out⟩
        case measure => simp [intOf]; omega
      . have hf : fb = false := by simpa using hf
        subst hf
        clear hc
        go_wp2
        go_roundw
        case rel => exact ⟨j + 1, x, true, by omega, by go_num, rfl, HN.out, TF.out, RF.out, BF.out⟩
        case measure => simp [intOf]; omega
    . have hb' : better k x y fb = false := by simpa using hb
      have HN := hidden (DN.out hb')
      clear UP DN hb fz
      unfold better at hb'
      by_cases hk : k = true
      . subst hk
        by_cases hf : fb = true
        . subst hf
          have hc : ¬ y.gen < x.gen := by simpa using hb'
          clear hb'
          go_wp2
          go_roundw
          case rel => exact ⟨j + 1, y, true, by omega, by go_num, rfl, HN.out, TT.out, R3.out, B3.out⟩
          case measure => simp [intOf]; omega
        . have hf : fb = false := by simpa using hf
          subst hf
          simp at hb'
      . have hk : k = false := by simpa using hk
        subst hk
        clear hb'
        go_wp2
        go_roundw
        case rel => exact ⟨j + 1, y, fb, by omega, by go_num, rfl, HN.out, TT.out, R3.out, B3.out⟩
        case measure => simp [intOf]; omega
  . have e : j = n := by omega
    subst e
    obtain ⟨t0, t1, t2, t3, t4, t5, t6, t7⟩ := T1.cells8
    obtain ⟨r0, r1, r2, r3, r4, r5, r6, r7⟩ := R1.cells8
    have fz := R1.frozen
    have FB := hidden (Below.andBut B1 (set8_but wr RB (.int .i64 y.id) (.int .i64 y.gen) (.int .i64 y.role) (.int .i64 y.n) (.int .i64 y.s) (.int .i64 y.tail) (.int .i64 y.lost) (.int .i64 y.built)) (by omega))
    unfold set8 at FB
    have hne : ¬ TB = RB := by omega
    have hne2 : ¬ RB = TB := by omega
    clear T1 R1 B1
    go_wp2
    refine bodyPost_ret (v := .tuple #[.agg #[.int .i64 y.id, .int .i64 y.gen, .int .i64 y.role, .int .i64 y.n, .int .i64 y.s, .int .i64 y.tail, .int .i64 y.lost, .int .i64 y.built], .bool fb]) (by simp [results, Try.results56, go_sem, r0, r1, r2, r3, r4, r5, r6, r7]) rfl ?_
    exact ⟨by rw [hl, HST.out], FB.out⟩

def dataN (x : Int) : Int := if 0 <= x /\ x <= 1099511627776 then x + 6 else -1
theorem implDataAt_any (w : World) (x : Int) : Calls Try.prog 117 #[.int .i64 x] w fun e w' => e = .returned (.int .i64 (dataN x)) /\ w' = w := by
 by_cases h : 0 <= x /\ x <= 1099511627776
 . have e2 : IntKind.i64.wrap (x + 2) = x + 2 := IntWalk.i64_in _ (by omega)
   have e4 : IntKind.i64.wrap (x + 2 + 4) = x + 2 + 4 := IntWalk.i64_in _ (by omega)
   have e3 : IntKind.i64.wrap (6 + x) = 6 + x := IntWalk.i64_in _ (by omega)
   have hv : dataN x = x + 6 := by unfold dataN; rw [if_pos h]
   have hi : inB x 0 1099511627776 = true := by unfold inB; simp; omega
   go_enter Try.func117, Try.ntmps117
   go_wp2_with fail
   refine (within_any _ _ _ _).mono ?_
   rintro e w1 ⟨rfl, rfl⟩
   rw [hi]
   go_wp2
   go_ret
   exact ⟨ret_int (by rw [hv]; omega), rfl⟩
 . have hv : dataN x = -1 := by unfold dataN; rw [if_neg h]
   have hi : inB x 0 1099511627776 = false := by unfold inB; simp; omega
   go_enter Try.func117, Try.ntmps117
   go_wp2_with fail
   refine (within_any _ _ _ _).mono ?_
   rintro e w1 ⟨rfl, rfl⟩
   rw [hi]
   go_wp2
   go_ret
   exact ⟨ret_int (by first | (rw [hv]; done) | rfl | omega), rfl⟩

def recB6 (x : ArrN) : Bool := inB x.seq 0 60000 && (inB x.tail 0 60000 && inB (x.seq - x.tail) 0 4)
theorem lost_same6 {x : ArrN} (hg : geoB x.n x.s = true) : lostB x.n x.s x.lost x.built = lostB6 x := by
 obtain ⟨g1, g2, g3, g4⟩ := geoB_iff.1 hg
 rw [Bool.eq_iff_iff, lostB_iff]
 unfold lostB6
 simp only [Bool.and_eq_true, inB_iff, Bool.or_eq_true, Bool.not_eq_true', decide_eq_false_iff_not, decide_eq_true_eq]
 omega
theorem seq_same6 (x : ArrN) : seqB6 x = (inB x.gen 0 60000 && (inB x.fuse (-1) 1000 && recB6 x)) := by
 rw [Bool.eq_iff_iff]
 unfold seqB6 recB6
 simp only [Bool.and_eq_true, inB_iff, decide_eq_true_eq]
 omega
theorem arr_same6 {x : ArrN} {ms : List MemD} {ds : List (Int × List Int)} (hg : geoB x.n x.s = true) : arrB x ms ds = (inB x.id 1 60000 && (lostB x.n x.s x.lost x.built && (inB x.gen 0 60000 && (inB x.fuse (-1) 1000 && (memsB x ms && (recB6 x && entsB x ds)))))) := by
 unfold arrB
 rw [hg, lost_same6 hg, seq_same6]
 cases inB x.id 1 60000 <;> cases lostB6 x <;> cases inB x.gen 0 60000 <;> cases inB x.fuse (-1) 1000 <;> cases memsB x ms <;> cases recB6 x <;> cases entsB x ds <;> rfl
theorem stripe_in6 {x : ArrN} {y : Int} (hg : geoB x.n x.s = true) : stripeB x.n x.s y = inB y 0 (x.s - 1) := by unfold stripeB; rw [hg]; rfl
theorem sec_all6 {zs : List Int} (h : zs.length <= 12) : secB zs = allW zs := by unfold secB; simp [h]
theorem entAt_6 {x : ArrN} {ds : List (Int × List Int)} {p : Nat} {y : Int} {zs : List Int} {q : Int × List Int} (hq : ds[p]? = some q) (h : y <= q.1) : entAt x ds (p + 1) (y, zs) = false := by
 have : ds.getD (p + 1 - 1) (0, []) = q := by rw [Nat.add_sub_cancel, List.getD_eq_getElem?_getD, hq]; rfl
 unfold entAt
 rw [this]
 have h2 : ¬ q.1 < y := by omega
 simp [h2]

theorem sectorsOf_any (w : World) (n s : Int) (hs : 1 <= s /\ s <= 8) : Calls Try.prog 102 #[.agg #[.int .i64 n, .int .i64 s]] w fun e w' => e = .returned (.int .i64 (6 + s)) /\ Below w.heap.size w w' := by
 have hA := new_below w (.cells #[.int .i64 n, .int .i64 s] 29)
 obtain ⟨k0, k1⟩ := (Gbox.new w 29 n s).cells
 have hd : dataN s = 6 + s := by unfold dataN; split <;> omega
 have HD := hidden hd
 clear hd
 go_enter Try.func102, Try.ntmps102
 go_wp2_with fail
 refine (implDataAt_any _ _).mono ?_
 rintro e w1 ⟨rfl, h1⟩
 subst h1
 rw [HD.out]
 go_wp2
 go_ret
 exact ⟨rfl, hA⟩

theorem memsOk_any (w : World) (E F : TypeId) (x : ArrN) (am ad : Option Addr) (nm cm nd cd : Nat) (ms : List MemD) (h0 : (tMemS E F).Rd w [.slice am nm cm] ms) (hw : wtMemS ms <= 2097152) (hg : geoB x.n x.s = true) :
 Calls Try.prog 76 #[.agg #[.int .i64 x.id, .int .i64 x.n, .int .i64 x.s, .slice am nm cm, .int .i64 x.lost, .int .i64 x.built, .int .i64 x.seq, .int .i64 x.tail, .int .i64 x.gen, .slice ad nd cd, .int .i64 x.fuse, .bool x.down, .bool x.broken]] w fun e w' => e = .returned (.bool (memsB x ms)) /\ Below w.heap.size w w' := by
 obtain ⟨hl, hc, hm⟩ := row_length h0
 obtain ⟨g1, g2, g3, g4⟩ := geoB_iff.1 hg
 have hA := new_below w (.cells #[.int .i64 x.id, .int .i64 x.n, .int .i64 x.s, .slice am nm cm, .int .i64 x.lost, .int .i64 x.built, .int .i64 x.seq, .int .i64 x.tail, .int .i64 x.gen, .slice ad nd cd, .int .i64 x.fuse, .bool x.down, .bool x.broken] 33)
 have X := Box.new w 33 #[.int .i64 x.id, .int .i64 x.n, .int .i64 x.s, .slice am nm cm, .int .i64 x.lost, .int .i64 x.built, .int .i64 x.seq, .int .i64 x.tail, .int .i64 x.gen, .slice ad nd cd, .int .i64 x.fuse, .bool x.down, .bool x.broken]
 have zA := X.lt
 have hnm : nm <= 2097152 := by unfold wtMemS at hw; omega
 have h1 := h0.below hA
 obtain ⟨k0, k1, k2, k3, k4, k5, k6, k7, k8, k9, k10, k11, k12⟩ := X.cells13
 by_cases hN : (nm : Int) = x.n
 . have hN1 : ((nm : Int) == x.n) = true := by simpa using hN
   have hN2 : ((nm : Int) != x.n) = false := by simpa using hN
   have HN := hidden hN
   clear hN
   go_enter Try.func76, Try.ntmps76
   go_wp2
   generalize w.alloc (.cells #[.int .i64 x.id, .int .i64 x.n, .int .i64 x.s, .slice am nm cm, .int .i64 x.lost, .int .i64 x.built, .int .i64 x.seq, .int .i64 x.tail, .int .i64 x.gen, .slice ad nd cd, .int .i64 x.fuse, .bool x.down, .bool x.broken] 33) = W at hA X zA h1 k0 k1 k2 k3 k4 k5 k6 k7 k8 k9 k10 k11 k12 ⊢
   clear k0 k1 k2 k3 k4 k5 k6 k7 k8 k9 k10 k11 k12
   go_loopw [15] (fun i wr => ∃ j : Nat, j <= nm /\ i = .int .i64 j /\ (∀ (q : Nat) (m : MemD), q < j -> ms[q]? = some m -> memAt x q m = true) /\ Below W.heap.size W wr) (fun i _ => nm - (intOf i).toNat)
   case atStart => exact ⟨0, Nat.zero_le _, rfl, fun q m hq => by omega, Below.refl _ _⟩
   case round =>
    obtain ⟨j, hj, rfl, hall, hb⟩ := hrel
    have Xr := X.below hb zA
    by_cases hjn : j < nm
    . rcases quads_at rfl h1 with h0' | ⟨b, off, rfl, hbl, hcs⟩
      . omega
      have hdj : ms[j]? = some (ms[j]'(by omega)) := List.getElem?_eq_getElem (by omega)
      generalize ms[j]'(by omega) = m at hdj
      obtain ⟨v0, v1, v2, v3, hv0, hv1, hv2, hv3, hrv⟩ := hcs j m hdj
      obtain ⟨a0, c0, a1, c1, a3, c3, ss, cs, f, bs, rfl, rfl, rfl, rfl, rfl, r0, r1, r3⟩ := mem_at hrv
      have u0 := (hb.cell (p := ⟨b, off + j * 4, none⟩) hbl).trans hv0
      have u1 := (hb.cell (p := ⟨b, off + j * 4 + 1, none⟩) hbl).trans hv1
      have u2 := (hb.cell (p := ⟨b, off + j * 4 + 2, none⟩) hbl).trans hv2
      have u3 := (hb.cell (p := ⟨b, off + j * 4 + 3, none⟩) hbl).trans hv3
      have i1 : (0 : Int) <= (j : Int) := by omega
      have i2 : (j : Int) < (nm : Int) := by omega
      have hwm := Nat.le_trans (inner_leM hdj) hw
      have HDJ := hidden hdj
      clear hcs hv0 hv1 hv2 hv3 hrv hdj
      have b1 := new_below wr (.cells #[.slice a0 ss.length c0, .slice a1 cs.length c1, .bool f, .slice a3 bs.length c3] 73)
      have Y1 := Box.new wr 73 #[.slice a0 ss.length c0, .slice a1 cs.length c1, .bool f, .slice a3 bs.length c3]
      have X1 := Xr.below b1 Xr.lt
      have R0 := (r0.below hb).below b1
      have R1 := (r1.below hb).below b1
      have R3 := (r3.below hb).below b1
      have B1 := hb.trans (b1.mono hb.size)
      clear r0 r1 r3 b1
      obtain ⟨y0, y1, y2, y3⟩ := Y1.cells4
      obtain ⟨e0, e1, e2, e3, e4, e5, e6, e7, e8, e9, e10, e11, e12⟩ := X1.cells13
      have zy := Y1.lt
      have zx := X1.lt
      clear e0 e3 e5 e6 e7 e8 e9 e10 e11
      cases hM : memB ss cs bs
      . skip
        go_wp2_with fail
        generalize wr.alloc (.cells #[.slice a0 ss.length c0, .slice a1 cs.length c1, .bool f, .slice a3 bs.length c3] 73) = w1 at X1 Y1 R0 R1 R3 B1 y0 y1 y2 y3 e1 e2 e4 e12 zy zx ⊢
        refine wp_region_held_drew (S := fun w' => w'.cell? ⟨wr.heap.size, 0, none⟩ = some (.slice a0 ss.length c0) /\ w'.cell? ⟨wr.heap.size, 1, none⟩ = some (.slice a1 cs.length c1) /\ w'.cell? ⟨wr.heap.size, 2, none⟩ = some (.bool f) /\ w'.cell? ⟨wr.heap.size, 3, none⟩ = some (.slice a3 bs.length c3) /\ w'.cell? ⟨w.heap.size, 1, none⟩ = some (.int .i64 x.n) /\ w'.cell? ⟨w.heap.size, 2, none⟩ = some (.int .i64 x.s)) (by kernel_rfl) ?_ (fun hHeld => ?_)
        . exact ⟨y0, y1, y2, y3, e1, e2⟩
        refine held_t 0 hHeld ?_
        refine held_one (i := 1) (by kernel_rfl) rfl (by kernel_rfl) (fun K hK => ?_)
        go_simp
        refine (implMemOk_any _ E _ _ _ _ _ _ _ _ _ ss cs f bs R0.drew R1.drew R3.drew hwm).mono ?_
        rintro e w2 ⟨rfl, b2⟩
        rw [hM]
        have b2' : Below w1.heap.size w1 w2 := (Below.refl w1.heap.size w1).drew.trans b2
        clear b2
        go_wp2_with fail
        clear hHeld
        refine hK.out _ _ ?_ (fun hHeld => ?_)
        . exact ⟨(b2'.cell (p := ⟨wr.heap.size, 0, none⟩) zy).trans y0, (b2'.cell (p := ⟨wr.heap.size, 1, none⟩) zy).trans y1, (b2'.cell (p := ⟨wr.heap.size, 2, none⟩) zy).trans y2, (b2'.cell (p := ⟨wr.heap.size, 3, none⟩) zy).trans y3, (b2'.cell (p := ⟨w.heap.size, 1, none⟩) zx).trans e1, (b2'.cell (p := ⟨w.heap.size, 2, none⟩) zx).trans e2⟩
        clear hK K
        refine held_t 2 hHeld ?_
        refine held_t 3 hHeld ?_
        refine held_p 4 hHeld ?_
        refine held_p 5 hHeld ?_
        refine held_p 6 hHeld ?_
        refine held_p 7 hHeld ?_
        refine held_p 8 hHeld ?_
        refine held_none (i := 9) (by kernel_rfl) rfl (by kernel_rfl) hHeld ?_
        simp only [Act.put, List.setIfInBounds_toArray, List.set_cons_zero, List.set_cons_succ]
        refine held_p 10 hHeld ?_
        refine held_t 11 hHeld ?_
        refine wpAnyH_done (by kernel_rfl) ?_ _
        clear hHeld
        have HB := hidden (hA.trans ((B1.trans (b2'.mono B1.size)).mono hA.size))
        go_wp2
        go_ret
        exact ⟨ret_bool (by rw [show memsB x ms = false from (by unfold memsB; rw [allIx_no HDJ.out (by unfold memAt; simp [hM])]; rfl)]), HB.out⟩
      . by_cases hS : (ss.length : Int) = 6 + x.s
        . have hS1 : ((ss.length : Int) == 6 + x.s) = true := by simpa using hS
          have hS2 : ((ss.length : Int) != 6 + x.s) = false := by simpa using hS
          have HS := hidden hS
          clear hS
          cases f
          . skip
            go_wp2_with fail
            generalize wr.alloc (.cells #[.slice a0 ss.length c0, .slice a1 cs.length c1, .bool false, .slice a3 bs.length c3] 73) = w1 at X1 Y1 R0 R1 R3 B1 y0 y1 y2 y3 e1 e2 e4 e12 zy zx ⊢
            refine wp_region_held_drew (S := fun w' => w'.cell? ⟨wr.heap.size, 0, none⟩ = some (.slice a0 ss.length c0) /\ w'.cell? ⟨wr.heap.size, 1, none⟩ = some (.slice a1 cs.length c1) /\ w'.cell? ⟨wr.heap.size, 2, none⟩ = some (.bool false) /\ w'.cell? ⟨wr.heap.size, 3, none⟩ = some (.slice a3 bs.length c3) /\ w'.cell? ⟨w.heap.size, 1, none⟩ = some (.int .i64 x.n) /\ w'.cell? ⟨w.heap.size, 2, none⟩ = some (.int .i64 x.s)) (by kernel_rfl) ?_ (fun hHeld => ?_)
            . exact ⟨y0, y1, y2, y3, e1, e2⟩
            refine held_t 0 hHeld ?_
            refine held_one (i := 1) (by kernel_rfl) rfl (by kernel_rfl) (fun K hK => ?_)
            go_simp
            refine (implMemOk_any _ E _ _ _ _ _ _ _ _ _ ss cs false bs R0.drew R1.drew R3.drew hwm).mono ?_
            rintro e w2 ⟨rfl, b2⟩
            rw [hM]
            have b2' : Below w1.heap.size w1 w2 := (Below.refl w1.heap.size w1).drew.trans b2
            clear b2
            go_wp2_with fail
            clear hHeld
            refine hK.out _ _ ?_ (fun hHeld => ?_)
            . exact ⟨(b2'.cell (p := ⟨wr.heap.size, 0, none⟩) zy).trans y0, (b2'.cell (p := ⟨wr.heap.size, 1, none⟩) zy).trans y1, (b2'.cell (p := ⟨wr.heap.size, 2, none⟩) zy).trans y2, (b2'.cell (p := ⟨wr.heap.size, 3, none⟩) zy).trans y3, (b2'.cell (p := ⟨w.heap.size, 1, none⟩) zx).trans e1, (b2'.cell (p := ⟨w.heap.size, 2, none⟩) zx).trans e2⟩
            clear hK K
            refine held_t 2 hHeld ?_
            refine held_t 3 hHeld ?_
            refine held_t 4 hHeld ?_
            refine held_t 5 hHeld ?_
            refine held_t 6 hHeld ?_
            refine held_t 7 hHeld ?_
            refine held_t 8 hHeld ?_
            refine held_one (i := 9) (by kernel_rfl) rfl (by kernel_rfl) (fun K hK => ?_)
            go_simp
            refine (sectorsOf_any _ x.n x.s ⟨g3, g4⟩).mono ?_
            rintro e w3 ⟨rfl, b3⟩
            have b3' : Below w1.heap.size w1 w3 := Below.andThen b2' b3
            clear b3
            go_wp2_with fail
            clear hHeld
            refine hK.out _ _ ?_ (fun hHeld => ?_)
            . exact ⟨(b3'.cell (p := ⟨wr.heap.size, 0, none⟩) zy).trans y0, (b3'.cell (p := ⟨wr.heap.size, 1, none⟩) zy).trans y1, (b3'.cell (p := ⟨wr.heap.size, 2, none⟩) zy).trans y2, (b3'.cell (p := ⟨wr.heap.size, 3, none⟩) zy).trans y3, (b3'.cell (p := ⟨w.heap.size, 1, none⟩) zx).trans e1, (b3'.cell (p := ⟨w.heap.size, 2, none⟩) zx).trans e2⟩
            clear hK K
            refine held_t 10 hHeld ?_
            refine held_t 11 hHeld ?_
            refine wpAnyH_done (by kernel_rfl) ?_ _
            clear hHeld
            have n0 := (b3'.cell (p := ⟨w.heap.size, 4, none⟩) zx).trans e4
            have n1 := (b3'.cell (p := ⟨w.heap.size, 12, none⟩) zx).trans e12
            have n2 := (b3'.cell (p := ⟨wr.heap.size, 2, none⟩) zy).trans y2
            have HB := hidden (B1.trans (b3'.mono B1.size))
            have hat : memAt x j (ss, cs, false, bs) = true := (by unfold memAt; simp [hM, HS.out])
            go_wp2
            go_roundw
            case rel => exact ⟨j + 1, by omega, by go_num, fun q m hq hm' => by
             rcases Nat.lt_or_ge q j with h | h
             . exact hall q m h hm'
             . obtain rfl : q = j := by omega
               rw [HDJ.out] at hm'
               cases hm'
               exact hat, HB.out⟩
            case measure => simp [intOf]; omega
          . by_cases hL : (j : Int) = x.lost
            . have hL1 : ((j : Int) == x.lost) = true := by simpa using hL
              have hL2 : ((j : Int) != x.lost) = false := by simpa using hL
              have HL := hidden hL
              clear hL
              go_wp2_with fail
              generalize wr.alloc (.cells #[.slice a0 ss.length c0, .slice a1 cs.length c1, .bool true, .slice a3 bs.length c3] 73) = w1 at X1 Y1 R0 R1 R3 B1 y0 y1 y2 y3 e1 e2 e4 e12 zy zx ⊢
              refine wp_region_held_drew (S := fun w' => w'.cell? ⟨wr.heap.size, 0, none⟩ = some (.slice a0 ss.length c0) /\ w'.cell? ⟨wr.heap.size, 1, none⟩ = some (.slice a1 cs.length c1) /\ w'.cell? ⟨wr.heap.size, 2, none⟩ = some (.bool true) /\ w'.cell? ⟨wr.heap.size, 3, none⟩ = some (.slice a3 bs.length c3) /\ w'.cell? ⟨w.heap.size, 1, none⟩ = some (.int .i64 x.n) /\ w'.cell? ⟨w.heap.size, 2, none⟩ = some (.int .i64 x.s)) (by kernel_rfl) ?_ (fun hHeld => ?_)
              . exact ⟨y0, y1, y2, y3, e1, e2⟩
              refine held_t 0 hHeld ?_
              refine held_one (i := 1) (by kernel_rfl) rfl (by kernel_rfl) (fun K hK => ?_)
              go_simp
              refine (implMemOk_any _ E _ _ _ _ _ _ _ _ _ ss cs true bs R0.drew R1.drew R3.drew hwm).mono ?_
              rintro e w2 ⟨rfl, b2⟩
              rw [hM]
              have b2' : Below w1.heap.size w1 w2 := (Below.refl w1.heap.size w1).drew.trans b2
              clear b2
              go_wp2_with fail
              clear hHeld
              refine hK.out _ _ ?_ (fun hHeld => ?_)
              . exact ⟨(b2'.cell (p := ⟨wr.heap.size, 0, none⟩) zy).trans y0, (b2'.cell (p := ⟨wr.heap.size, 1, none⟩) zy).trans y1, (b2'.cell (p := ⟨wr.heap.size, 2, none⟩) zy).trans y2, (b2'.cell (p := ⟨wr.heap.size, 3, none⟩) zy).trans y3, (b2'.cell (p := ⟨w.heap.size, 1, none⟩) zx).trans e1, (b2'.cell (p := ⟨w.heap.size, 2, none⟩) zx).trans e2⟩
              clear hK K
              refine held_t 2 hHeld ?_
              refine held_t 3 hHeld ?_
              refine held_t 4 hHeld ?_
              refine held_t 5 hHeld ?_
              refine held_t 6 hHeld ?_
              refine held_t 7 hHeld ?_
              refine held_t 8 hHeld ?_
              refine held_one (i := 9) (by kernel_rfl) rfl (by kernel_rfl) (fun K hK => ?_)
              go_simp
              refine (sectorsOf_any _ x.n x.s ⟨g3, g4⟩).mono ?_
              rintro e w3 ⟨rfl, b3⟩
              have b3' : Below w1.heap.size w1 w3 := Below.andThen b2' b3
              clear b3
              go_wp2_with fail
              clear hHeld
              refine hK.out _ _ ?_ (fun hHeld => ?_)
              . exact ⟨(b3'.cell (p := ⟨wr.heap.size, 0, none⟩) zy).trans y0, (b3'.cell (p := ⟨wr.heap.size, 1, none⟩) zy).trans y1, (b3'.cell (p := ⟨wr.heap.size, 2, none⟩) zy).trans y2, (b3'.cell (p := ⟨wr.heap.size, 3, none⟩) zy).trans y3, (b3'.cell (p := ⟨w.heap.size, 1, none⟩) zx).trans e1, (b3'.cell (p := ⟨w.heap.size, 2, none⟩) zx).trans e2⟩
              clear hK K
              refine held_t 10 hHeld ?_
              refine held_t 11 hHeld ?_
              refine wpAnyH_done (by kernel_rfl) ?_ _
              clear hHeld
              have n0 := (b3'.cell (p := ⟨w.heap.size, 4, none⟩) zx).trans e4
              have n1 := (b3'.cell (p := ⟨w.heap.size, 12, none⟩) zx).trans e12
              have n2 := (b3'.cell (p := ⟨wr.heap.size, 2, none⟩) zy).trans y2
              have HB := hidden (B1.trans (b3'.mono B1.size))
              have hat : memAt x j (ss, cs, true, bs) = true := (by unfold memAt; simp [hM, HS.out, HL.out])
              go_wp2
              go_roundw
              case rel => exact ⟨j + 1, by omega, by go_num, fun q m hq hm' => by
               rcases Nat.lt_or_ge q j with h | h
               . exact hall q m h hm'
               . obtain rfl : q = j := by omega
                 rw [HDJ.out] at hm'
                 cases hm'
                 exact hat, HB.out⟩
              case measure => simp [intOf]; omega
            . have hL1 : ((j : Int) == x.lost) = false := by simpa using hL
              have hL2 : ((j : Int) != x.lost) = true := by simpa using hL
              have HL := hidden hL
              clear hL
              cases hBr : x.broken
              . rw [hBr] at e12
                go_wp2_with fail
                generalize wr.alloc (.cells #[.slice a0 ss.length c0, .slice a1 cs.length c1, .bool true, .slice a3 bs.length c3] 73) = w1 at X1 Y1 R0 R1 R3 B1 y0 y1 y2 y3 e1 e2 e4 e12 zy zx ⊢
                refine wp_region_held_drew (S := fun w' => w'.cell? ⟨wr.heap.size, 0, none⟩ = some (.slice a0 ss.length c0) /\ w'.cell? ⟨wr.heap.size, 1, none⟩ = some (.slice a1 cs.length c1) /\ w'.cell? ⟨wr.heap.size, 2, none⟩ = some (.bool true) /\ w'.cell? ⟨wr.heap.size, 3, none⟩ = some (.slice a3 bs.length c3) /\ w'.cell? ⟨w.heap.size, 1, none⟩ = some (.int .i64 x.n) /\ w'.cell? ⟨w.heap.size, 2, none⟩ = some (.int .i64 x.s)) (by kernel_rfl) ?_ (fun hHeld => ?_)
                . exact ⟨y0, y1, y2, y3, e1, e2⟩
                refine held_t 0 hHeld ?_
                refine held_one (i := 1) (by kernel_rfl) rfl (by kernel_rfl) (fun K hK => ?_)
                go_simp
                refine (implMemOk_any _ E _ _ _ _ _ _ _ _ _ ss cs true bs R0.drew R1.drew R3.drew hwm).mono ?_
                rintro e w2 ⟨rfl, b2⟩
                rw [hM]
                have b2' : Below w1.heap.size w1 w2 := (Below.refl w1.heap.size w1).drew.trans b2
                clear b2
                go_wp2_with fail
                clear hHeld
                refine hK.out _ _ ?_ (fun hHeld => ?_)
                . exact ⟨(b2'.cell (p := ⟨wr.heap.size, 0, none⟩) zy).trans y0, (b2'.cell (p := ⟨wr.heap.size, 1, none⟩) zy).trans y1, (b2'.cell (p := ⟨wr.heap.size, 2, none⟩) zy).trans y2, (b2'.cell (p := ⟨wr.heap.size, 3, none⟩) zy).trans y3, (b2'.cell (p := ⟨w.heap.size, 1, none⟩) zx).trans e1, (b2'.cell (p := ⟨w.heap.size, 2, none⟩) zx).trans e2⟩
                clear hK K
                refine held_t 2 hHeld ?_
                refine held_t 3 hHeld ?_
                refine held_t 4 hHeld ?_
                refine held_t 5 hHeld ?_
                refine held_t 6 hHeld ?_
                refine held_t 7 hHeld ?_
                refine held_t 8 hHeld ?_
                refine held_one (i := 9) (by kernel_rfl) rfl (by kernel_rfl) (fun K hK => ?_)
                go_simp
                refine (sectorsOf_any _ x.n x.s ⟨g3, g4⟩).mono ?_
                rintro e w3 ⟨rfl, b3⟩
                have b3' : Below w1.heap.size w1 w3 := Below.andThen b2' b3
                clear b3
                go_wp2_with fail
                clear hHeld
                refine hK.out _ _ ?_ (fun hHeld => ?_)
                . exact ⟨(b3'.cell (p := ⟨wr.heap.size, 0, none⟩) zy).trans y0, (b3'.cell (p := ⟨wr.heap.size, 1, none⟩) zy).trans y1, (b3'.cell (p := ⟨wr.heap.size, 2, none⟩) zy).trans y2, (b3'.cell (p := ⟨wr.heap.size, 3, none⟩) zy).trans y3, (b3'.cell (p := ⟨w.heap.size, 1, none⟩) zx).trans e1, (b3'.cell (p := ⟨w.heap.size, 2, none⟩) zx).trans e2⟩
                clear hK K
                refine held_t 10 hHeld ?_
                refine held_t 11 hHeld ?_
                refine wpAnyH_done (by kernel_rfl) ?_ _
                clear hHeld
                have n0 := (b3'.cell (p := ⟨w.heap.size, 4, none⟩) zx).trans e4
                have n1 := (b3'.cell (p := ⟨w.heap.size, 12, none⟩) zx).trans e12
                have n2 := (b3'.cell (p := ⟨wr.heap.size, 2, none⟩) zy).trans y2
                have HB := hidden (hA.trans ((B1.trans (b3'.mono B1.size)).mono hA.size))
                go_wp2
                go_ret
                exact ⟨ret_bool (by rw [show memsB x ms = false from (by unfold memsB; rw [allIx_no HDJ.out (by unfold memAt; simp [HL.out, hBr])]; rfl)]), HB.out⟩
              . rw [hBr] at e12
                go_wp2_with fail
                generalize wr.alloc (.cells #[.slice a0 ss.length c0, .slice a1 cs.length c1, .bool true, .slice a3 bs.length c3] 73) = w1 at X1 Y1 R0 R1 R3 B1 y0 y1 y2 y3 e1 e2 e4 e12 zy zx ⊢
                refine wp_region_held_drew (S := fun w' => w'.cell? ⟨wr.heap.size, 0, none⟩ = some (.slice a0 ss.length c0) /\ w'.cell? ⟨wr.heap.size, 1, none⟩ = some (.slice a1 cs.length c1) /\ w'.cell? ⟨wr.heap.size, 2, none⟩ = some (.bool true) /\ w'.cell? ⟨wr.heap.size, 3, none⟩ = some (.slice a3 bs.length c3) /\ w'.cell? ⟨w.heap.size, 1, none⟩ = some (.int .i64 x.n) /\ w'.cell? ⟨w.heap.size, 2, none⟩ = some (.int .i64 x.s)) (by kernel_rfl) ?_ (fun hHeld => ?_)
                . exact ⟨y0, y1, y2, y3, e1, e2⟩
                refine held_t 0 hHeld ?_
                refine held_one (i := 1) (by kernel_rfl) rfl (by kernel_rfl) (fun K hK => ?_)
                go_simp
                refine (implMemOk_any _ E _ _ _ _ _ _ _ _ _ ss cs true bs R0.drew R1.drew R3.drew hwm).mono ?_
                rintro e w2 ⟨rfl, b2⟩
                rw [hM]
                have b2' : Below w1.heap.size w1 w2 := (Below.refl w1.heap.size w1).drew.trans b2
                clear b2
                go_wp2_with fail
                clear hHeld
                refine hK.out _ _ ?_ (fun hHeld => ?_)
                . exact ⟨(b2'.cell (p := ⟨wr.heap.size, 0, none⟩) zy).trans y0, (b2'.cell (p := ⟨wr.heap.size, 1, none⟩) zy).trans y1, (b2'.cell (p := ⟨wr.heap.size, 2, none⟩) zy).trans y2, (b2'.cell (p := ⟨wr.heap.size, 3, none⟩) zy).trans y3, (b2'.cell (p := ⟨w.heap.size, 1, none⟩) zx).trans e1, (b2'.cell (p := ⟨w.heap.size, 2, none⟩) zx).trans e2⟩
                clear hK K
                refine held_t 2 hHeld ?_
                refine held_t 3 hHeld ?_
                refine held_t 4 hHeld ?_
                refine held_t 5 hHeld ?_
                refine held_t 6 hHeld ?_
                refine held_t 7 hHeld ?_
                refine held_t 8 hHeld ?_
                refine held_one (i := 9) (by kernel_rfl) rfl (by kernel_rfl) (fun K hK => ?_)
                go_simp
                refine (sectorsOf_any _ x.n x.s ⟨g3, g4⟩).mono ?_
                rintro e w3 ⟨rfl, b3⟩
                have b3' : Below w1.heap.size w1 w3 := Below.andThen b2' b3
                clear b3
                go_wp2_with fail
                clear hHeld
                refine hK.out _ _ ?_ (fun hHeld => ?_)
                . exact ⟨(b3'.cell (p := ⟨wr.heap.size, 0, none⟩) zy).trans y0, (b3'.cell (p := ⟨wr.heap.size, 1, none⟩) zy).trans y1, (b3'.cell (p := ⟨wr.heap.size, 2, none⟩) zy).trans y2, (b3'.cell (p := ⟨wr.heap.size, 3, none⟩) zy).trans y3, (b3'.cell (p := ⟨w.heap.size, 1, none⟩) zx).trans e1, (b3'.cell (p := ⟨w.heap.size, 2, none⟩) zx).trans e2⟩
                clear hK K
                refine held_t 10 hHeld ?_
                refine held_t 11 hHeld ?_
                refine wpAnyH_done (by kernel_rfl) ?_ _
                clear hHeld
                have n0 := (b3'.cell (p := ⟨w.heap.size, 4, none⟩) zx).trans e4
                have n1 := (b3'.cell (p := ⟨w.heap.size, 12, none⟩) zx).trans e12
                have n2 := (b3'.cell (p := ⟨wr.heap.size, 2, none⟩) zy).trans y2
                have HB := hidden (B1.trans (b3'.mono B1.size))
                have hat : memAt x j (ss, cs, true, bs) = true := (by unfold memAt; simp [hM, HS.out, hBr])
                go_wp2
                go_roundw
                case rel => exact ⟨j + 1, by omega, by go_num, fun q m hq hm' => by
                 rcases Nat.lt_or_ge q j with h | h
                 . exact hall q m h hm'
                 . obtain rfl : q = j := by omega
                   rw [HDJ.out] at hm'
                   cases hm'
                   exact hat, HB.out⟩
                case measure => simp [intOf]; omega
        . have hS1 : ((ss.length : Int) == 6 + x.s) = false := by simpa using hS
          have hS2 : ((ss.length : Int) != 6 + x.s) = true := by simpa using hS
          have HS := hidden hS
          clear hS
          go_wp2_with fail
          generalize wr.alloc (.cells #[.slice a0 ss.length c0, .slice a1 cs.length c1, .bool f, .slice a3 bs.length c3] 73) = w1 at X1 Y1 R0 R1 R3 B1 y0 y1 y2 y3 e1 e2 e4 e12 zy zx ⊢
          refine wp_region_held_drew (S := fun w' => w'.cell? ⟨wr.heap.size, 0, none⟩ = some (.slice a0 ss.length c0) /\ w'.cell? ⟨wr.heap.size, 1, none⟩ = some (.slice a1 cs.length c1) /\ w'.cell? ⟨wr.heap.size, 2, none⟩ = some (.bool f) /\ w'.cell? ⟨wr.heap.size, 3, none⟩ = some (.slice a3 bs.length c3) /\ w'.cell? ⟨w.heap.size, 1, none⟩ = some (.int .i64 x.n) /\ w'.cell? ⟨w.heap.size, 2, none⟩ = some (.int .i64 x.s)) (by kernel_rfl) ?_ (fun hHeld => ?_)
          . exact ⟨y0, y1, y2, y3, e1, e2⟩
          refine held_t 0 hHeld ?_
          refine held_one (i := 1) (by kernel_rfl) rfl (by kernel_rfl) (fun K hK => ?_)
          go_simp
          refine (implMemOk_any _ E _ _ _ _ _ _ _ _ _ ss cs f bs R0.drew R1.drew R3.drew hwm).mono ?_
          rintro e w2 ⟨rfl, b2⟩
          rw [hM]
          have b2' : Below w1.heap.size w1 w2 := (Below.refl w1.heap.size w1).drew.trans b2
          clear b2
          go_wp2_with fail
          clear hHeld
          refine hK.out _ _ ?_ (fun hHeld => ?_)
          . exact ⟨(b2'.cell (p := ⟨wr.heap.size, 0, none⟩) zy).trans y0, (b2'.cell (p := ⟨wr.heap.size, 1, none⟩) zy).trans y1, (b2'.cell (p := ⟨wr.heap.size, 2, none⟩) zy).trans y2, (b2'.cell (p := ⟨wr.heap.size, 3, none⟩) zy).trans y3, (b2'.cell (p := ⟨w.heap.size, 1, none⟩) zx).trans e1, (b2'.cell (p := ⟨w.heap.size, 2, none⟩) zx).trans e2⟩
          clear hK K
          refine held_t 2 hHeld ?_
          refine held_t 3 hHeld ?_
          refine held_t 4 hHeld ?_
          refine held_t 5 hHeld ?_
          refine held_t 6 hHeld ?_
          refine held_t 7 hHeld ?_
          refine held_t 8 hHeld ?_
          refine held_one (i := 9) (by kernel_rfl) rfl (by kernel_rfl) (fun K hK => ?_)
          go_simp
          refine (sectorsOf_any _ x.n x.s ⟨g3, g4⟩).mono ?_
          rintro e w3 ⟨rfl, b3⟩
          have b3' : Below w1.heap.size w1 w3 := Below.andThen b2' b3
          clear b3
          go_wp2_with fail
          clear hHeld
          refine hK.out _ _ ?_ (fun hHeld => ?_)
          . exact ⟨(b3'.cell (p := ⟨wr.heap.size, 0, none⟩) zy).trans y0, (b3'.cell (p := ⟨wr.heap.size, 1, none⟩) zy).trans y1, (b3'.cell (p := ⟨wr.heap.size, 2, none⟩) zy).trans y2, (b3'.cell (p := ⟨wr.heap.size, 3, none⟩) zy).trans y3, (b3'.cell (p := ⟨w.heap.size, 1, none⟩) zx).trans e1, (b3'.cell (p := ⟨w.heap.size, 2, none⟩) zx).trans e2⟩
          clear hK K
          refine held_t 10 hHeld ?_
          refine held_t 11 hHeld ?_
          refine wpAnyH_done (by kernel_rfl) ?_ _
          clear hHeld
          have n0 := (b3'.cell (p := ⟨w.heap.size, 4, none⟩) zx).trans e4
          have n1 := (b3'.cell (p := ⟨w.heap.size, 12, none⟩) zx).trans e12
          have n2 := (b3'.cell (p := ⟨wr.heap.size, 2, none⟩) zy).trans y2
          have HB := hidden (hA.trans ((B1.trans (b3'.mono B1.size)).mono hA.size))
          go_wp2
          go_ret
          exact ⟨ret_bool (by rw [show memsB x ms = false from (by unfold memsB; rw [allIx_no HDJ.out (by unfold memAt; simp [HS.out])]; rfl)]), HB.out⟩
    . have e : j = nm := by omega
      subst e
      have hAll : allIx (memAt x) ms = true := allIx_iff.2 (fun q m hq => hall q m (by have := (List.getElem?_eq_some_iff.1 hq).1; omega) hq)
      have HB := hidden (hA.trans (hb.mono hA.size))
      have hR : memsB x ms = true := by unfold memsB; rw [hAll, hl]; simpa using HN.out
      go_wp2
      go_ret
      exact ⟨ret_bool hR.symm, HB.out⟩
 . have hN1 : ((nm : Int) == x.n) = false := by simpa using hN
   have hN2 : ((nm : Int) != x.n) = true := by simpa using hN
   have hR : memsB x ms = false := by unfold memsB; rw [hl]; simp [hN]
   have HR := hidden hR
   clear hN hR
   go_enter Try.func76, Try.ntmps76
   go_wp2
   go_ret
   exact ⟨ret_bool HR.out.symm, hA⟩

theorem perStripe_any (w : World) (n s : Int) (h1 : 3 <= n) (h2 : n <= 5) : Calls Try.prog 99 #[.agg #[.int .i64 n, .int .i64 s]] w fun e w' => e = .returned (.int .i64 (n - 1)) /\ Below w.heap.size w w' := by
 have hA := new_below w (.cells #[.int .i64 n, .int .i64 s] 29)
 obtain ⟨k0, k1⟩ := (Gbox.new w 29 n s).cells
 go_enter Try.func99, Try.ntmps99
 go_wp2
 go_ret
 exact ⟨ret_int (by first | rfl | omega), hA⟩

theorem stripeB_of {n s t : Int} : stripeB n s t = true ↔ geoB n s = true /\ 0 <= t /\ t < s := by unfold stripeB; rw [Bool.and_eq_true, inB_iff]; constructor <;> (rintro ⟨a, b⟩; exact ⟨a, by omega⟩)
theorem stripeB_not {n s t : Int} : stripeB n s t = false ↔ ¬ (geoB n s = true /\ 0 <= t /\ t < s) := by rw [← stripeB_of]; simp

theorem hasStripe_any (w : World) (n s t : Int) : Calls Try.prog 98 #[.agg #[.int .i64 n, .int .i64 s], .int .i64 t] w fun e w' => e = .returned (.bool (stripeB n s t)) /\ Below w.heap.size w w' := by
 have hA := new_below w (.cells #[.int .i64 n, .int .i64 s] 29)
 have X := Gbox.new w 29 n s
 obtain ⟨k0, k1⟩ := X.cells
 have zA := X.lt
 go_enter Try.func98, Try.ntmps98
 go_wp2_with fail
 refine (implGeoOk_any _ _ _).mono ?_
 rintro e w1 ⟨rfl, b1⟩
 have X1 := X.below b1 zA
 obtain ⟨p0, p1⟩ := X1.cells
 have B1 := Below.andThen hA b1
 clear k0 k1 X b1 hA zA
 by_cases hg : geoB n s = true
 . by_cases h1 : 0 <= t
   . by_cases h2 : t < s
     . go_wp2
       go_ret
       exact ⟨ret_bool (by symm; rw [stripeB_of]; exact ⟨hg, h1, h2⟩), B1⟩
     . go_wp2
       go_ret
       exact ⟨ret_bool (by first | (exact (stripeB_not.2 (by omega)).symm) | (rw [stripeB_not.2 (by omega)]; simp; omega)), B1⟩
   . go_wp2
     go_ret
     exact ⟨ret_bool (by first | (exact (stripeB_not.2 (by omega)).symm) | (rw [stripeB_not.2 (by omega)]; simp; omega)), B1⟩
 . have hg : geoB n s = false := by simpa using hg
   go_wp2
   go_ret
   exact ⟨ret_bool (by symm; rw [stripeB_not]; simp [hg]), B1⟩

theorem dirtyOk_any (w : World) (G : TypeId) (x : ArrN) (am ad : Option Addr) (nm cm nd cd : Nat) (ds : List (Int × List Int)) (h0 : (tWrS G).Rd w [.slice ad nd cd] ds) (hw : wtWrS ds <= 2097152) (hg : geoB x.n x.s = true) :
 Calls Try.prog 78 #[.agg #[.int .i64 x.id, .int .i64 x.n, .int .i64 x.s, .slice am nm cm, .int .i64 x.lost, .int .i64 x.built, .int .i64 x.seq, .int .i64 x.tail, .int .i64 x.gen, .slice ad nd cd, .int .i64 x.fuse, .bool x.down, .bool x.broken]] w fun e w' => e = .returned (.bool (entsB x ds)) /\ Below w.heap.size w w' := by
 obtain ⟨hl, hc, hm⟩ := row_length h0
 obtain ⟨g1, g2, g3, g4⟩ := geoB_iff.1 hg
 have hA := new_below w (.cells #[.int .i64 x.id, .int .i64 x.n, .int .i64 x.s, .slice am nm cm, .int .i64 x.lost, .int .i64 x.built, .int .i64 x.seq, .int .i64 x.tail, .int .i64 x.gen, .slice ad nd cd, .int .i64 x.fuse, .bool x.down, .bool x.broken] 33)
 have X := Box.new w 33 #[.int .i64 x.id, .int .i64 x.n, .int .i64 x.s, .slice am nm cm, .int .i64 x.lost, .int .i64 x.built, .int .i64 x.seq, .int .i64 x.tail, .int .i64 x.gen, .slice ad nd cd, .int .i64 x.fuse, .bool x.down, .bool x.broken]
 have zA := X.lt
 have hnd : nd <= 2097152 := by unfold wtWrS at hw; omega
 have h1 := h0.below hA
 obtain ⟨k0, k1, k2, k3, k4, k5, k6, k7, k8, k9, k10, k11, k12⟩ := X.cells13
 go_enter Try.func78, Try.ntmps78
 go_wp2
 generalize w.alloc (.cells #[.int .i64 x.id, .int .i64 x.n, .int .i64 x.s, .slice am nm cm, .int .i64 x.lost, .int .i64 x.built, .int .i64 x.seq, .int .i64 x.tail, .int .i64 x.gen, .slice ad nd cd, .int .i64 x.fuse, .bool x.down, .bool x.broken] 33) = W at hA X zA h1 k0 k1 k2 k3 k4 k5 k6 k7 k8 k9 k10 k11 k12 ⊢
 clear k0 k1 k2 k3 k4 k5 k6 k7 k8 k9 k10 k11 k12
 go_loopw [8] (fun i wr => ∃ j : Nat, j <= nd /\ i = .int .i64 j /\ (∀ (q : Nat) (d : Int × List Int), q < j -> ds[q]? = some d -> entAt x ds q d = true) /\ Below W.heap.size W wr) (fun i _ => nd - (intOf i).toNat)
 case atStart => exact ⟨0, Nat.zero_le _, rfl, fun q d hq => by omega, Below.refl _ _⟩
 case round =>
  obtain ⟨j, hj, rfl, hall, hb⟩ := hrel
  have Xr := X.below hb zA
  by_cases hjn : j < nd
  . rcases pairs_at rfl h1 with h0' | ⟨b, off, rfl, hbl, hcs⟩
    . omega
    have hdj : ds[j]? = some (ds[j]'(by omega)) := List.getElem?_eq_getElem (by omega)
    generalize ds[j]'(by omega) = d at hdj
    obtain ⟨v0, v1, hv0, hv1, hrv⟩ := hcs j d hdj
    obtain ⟨rfl, hrw⟩ := wr_rd hrv
    obtain ⟨av, cv, rfl⟩ := row_shape hrw
    obtain ⟨y, zs⟩ := d
    simp only at hv0 hv1 hrw hrv
    have u0 := (hb.cell (p := ⟨b, off + j * 2, none⟩) hbl).trans hv0
    have u1 := (hb.cell (p := ⟨b, off + j * 2 + 1, none⟩) hbl).trans hv1
    have i1 : (0 : Int) <= (j : Int) := by omega
    have i2 : (j : Int) < (nd : Int) := by omega
    have hwz : zs.length <= 2097152 := Nat.le_trans (inner_le' hdj) hw
    have HDJ := hidden hdj
    have b1 := new_below wr (.cells #[.int .i64 y, .slice av zs.length cv] 99)
    have Y1 := Box.new wr 99 #[.int .i64 y, .slice av zs.length cv]
    have X1 := Xr.below b1 Xr.lt
    have RZ := (hrw.below hb).below b1
    have B1 := hb.trans (b1.mono hb.size)
    obtain ⟨y0, y1⟩ := Y1.cells2
    obtain ⟨e0, e1, e2, e3, e4, e5, e6, e7, e8, e9, e10, e11, e12⟩ := X1.cells13
    have zy := Y1.lt
    have zx := X1.lt
    have zb : b < (wr.alloc (.cells #[.int .i64 y, .slice av zs.length cv] 99)).heap.size := Nat.lt_of_lt_of_le hbl B1.size
    have hq : ∀ (p : Nat) (q : Int × List Int), ds[p]? = some q -> (wr.alloc (.cells #[.int .i64 y, .slice av zs.length cv] 99)).cell? ⟨b, off + p * 2, none⟩ = some (.int .i64 q.1) := fun p q hpq => by
     obtain ⟨c0, c1, hc0, hc1, hrc⟩ := hcs p q hpq
     obtain ⟨rfl, _⟩ := wr_rd hrc
     exact (B1.cell (p := ⟨b, off + p * 2, none⟩) hbl).trans hc0
    have HQ := hidden hq
    clear hcs hv0 hv1 hrv hrw hdj hq b1 e0 e3 e4 e5 e6 e7 e8 e10 e11 e12
    cases hI : stripeB x.n x.s y
    . skip
      go_wp2_with fail
      generalize wr.alloc (.cells #[.int .i64 y, .slice av zs.length cv] 99) = w1 at X1 Y1 RZ B1 y0 y1 e1 e2 e9 zy zx zb HQ  ⊢
      refine wp_region_held_drew (S := fun w' => w'.cell? ⟨wr.heap.size, 0, none⟩ = some (.int .i64 y) /\ w'.cell? ⟨w.heap.size, 1, none⟩ = some (.int .i64 x.n) /\ w'.cell? ⟨w.heap.size, 2, none⟩ = some (.int .i64 x.s) /\ w'.cell? ⟨w.heap.size, 9, none⟩ = some (.slice (some ⟨b, off, none⟩) nd cd)) (by kernel_rfl) ?_ (fun hHeld => ?_)
      . exact ⟨y0, e1, e2, e9⟩
      refine held_t 0 hHeld ?_
      refine held_t 1 hHeld ?_
      refine held_t 2 hHeld ?_
      refine held_t 3 hHeld ?_
      refine held_one (i := 4) (by kernel_rfl) rfl (by kernel_rfl) (fun K hK => ?_)
      go_simp
      refine (hasStripe_any _ x.n x.s y).mono ?_
      rintro e w2 ⟨rfl, b2⟩
      have b2' : Below w1.heap.size w1 w2 := (Below.refl w1.heap.size w1).drew.trans b2
      clear b2
      rw [hI]
      go_wp2_with fail
      clear hHeld
      refine hK.out _ _ ?_ (fun hHeld => ?_)
      . exact ⟨(b2'.cell (p := ⟨wr.heap.size, 0, none⟩) zy).trans y0, (b2'.cell (p := ⟨w.heap.size, 1, none⟩) zx).trans e1, (b2'.cell (p := ⟨w.heap.size, 2, none⟩) zx).trans e2, (b2'.cell (p := ⟨w.heap.size, 9, none⟩) zx).trans e9⟩
      clear hK K
      refine held_t 5 hHeld ?_
      refine held_t 6 hHeld ?_
      refine held_p 7 hHeld ?_
      refine held_p 8 hHeld ?_
      refine held_p 9 hHeld ?_
      refine held_p 10 hHeld ?_
      refine held_p 11 hHeld ?_
      refine held_p 12 hHeld ?_
      refine held_p 13 hHeld ?_
      refine held_p 14 hHeld ?_
      refine held_p 15 hHeld ?_
      refine held_p 16 hHeld ?_
      refine held_p 17 hHeld ?_
      refine held_p 18 hHeld ?_
      refine held_p 19 hHeld ?_
      refine held_p 20 hHeld ?_
      refine held_t 21 hHeld ?_
      refine wpAnyH_done (by kernel_rfl) ?_ _
      clear hHeld
      have HB := hidden (hA.trans ((B1.trans (b2'.mono B1.size)).mono hA.size))
      have HE := hidden (entsB_no (x := x) HDJ.out (entAt_1 (by rw [← stripe_in6 hg]; exact hI)))
      go_wp2
      go_ret
      exact ⟨ret_bool HE.out.symm, HB.out⟩
    . have HI := hidden ((stripe_in6 hg).symm.trans hI)
      by_cases hj0 : j = 0
      . subst hj0
        simp only [Nat.zero_mul, Nat.add_zero] at u0 u1
        by_cases hL : (zs.length : Int) = x.n - 1
        . have hL1 : ((zs.length : Int) == x.n - 1) = true := by simpa using hL
          have hL2 : ((zs.length : Int) != x.n - 1) = false := by simpa using hL
          have HL := hidden hL
          have hsa : secB zs = allW zs := sec_all6 (by omega)
          have HSA := hidden hsa
          clear hL hsa
          cases hZ : secB zs
          . have HZ := hidden (HSA.out.symm.trans hZ)
            go_wp2_with fail
            generalize wr.alloc (.cells #[.int .i64 y, .slice av zs.length cv] 99) = w1 at X1 Y1 RZ B1 y0 y1 e1 e2 e9 zy zx zb HQ  ⊢
            refine wp_region_held_drew (S := fun w' => w'.cell? ⟨wr.heap.size, 0, none⟩ = some (.int .i64 y) /\ w'.cell? ⟨w.heap.size, 1, none⟩ = some (.int .i64 x.n) /\ w'.cell? ⟨w.heap.size, 2, none⟩ = some (.int .i64 x.s) /\ w'.cell? ⟨w.heap.size, 9, none⟩ = some (.slice (some ⟨b, off, none⟩) nd cd)) (by kernel_rfl) ?_ (fun hHeld => ?_)
            . exact ⟨y0, e1, e2, e9⟩
            refine held_t 0 hHeld ?_
            refine held_t 1 hHeld ?_
            refine held_t 2 hHeld ?_
            refine held_t 3 hHeld ?_
            refine held_one (i := 4) (by kernel_rfl) rfl (by kernel_rfl) (fun K hK => ?_)
            go_simp
            refine (hasStripe_any _ x.n x.s y).mono ?_
            rintro e w2 ⟨rfl, b2⟩
            have b2' : Below w1.heap.size w1 w2 := (Below.refl w1.heap.size w1).drew.trans b2
            clear b2
            rw [hI]
            go_wp2_with fail
            clear hHeld
            refine hK.out _ _ ?_ (fun hHeld => ?_)
            . exact ⟨(b2'.cell (p := ⟨wr.heap.size, 0, none⟩) zy).trans y0, (b2'.cell (p := ⟨w.heap.size, 1, none⟩) zx).trans e1, (b2'.cell (p := ⟨w.heap.size, 2, none⟩) zx).trans e2, (b2'.cell (p := ⟨w.heap.size, 9, none⟩) zx).trans e9⟩
            clear hK K
            refine held_t 5 hHeld ?_
            refine held_t 6 hHeld ?_
            refine held_t 7 hHeld ?_
            refine held_t 8 hHeld ?_
            refine held_t 9 hHeld ?_
            refine held_p 10 hHeld ?_
            refine held_p 11 hHeld ?_
            refine held_p 12 hHeld ?_
            refine held_p 13 hHeld ?_
            refine held_p 14 hHeld ?_
            refine held_p 15 hHeld ?_
            refine held_p 16 hHeld ?_
            refine held_p 17 hHeld ?_
            refine held_p 18 hHeld ?_
            refine held_p 19 hHeld ?_
            refine held_t 20 hHeld ?_
            refine held_t 21 hHeld ?_
            refine wpAnyH_done (by kernel_rfl) ?_ _
            clear hHeld
            have my1 := (b2'.cell (p := ⟨wr.heap.size, 1, none⟩) zy).trans y1
            have me1 := (b2'.cell (p := ⟨w.heap.size, 1, none⟩) zx).trans e1
            have me2 := (b2'.cell (p := ⟨w.heap.size, 2, none⟩) zx).trans e2
            have my := Nat.lt_of_lt_of_le zy b2'.size
            have mx := Nat.lt_of_lt_of_le zx b2'.size
            have RZ2 := RZ.below b2'
            go_wp2_with fail
            refine wp_region_held_drew (S := fun w' => w'.cell? ⟨wr.heap.size, 1, none⟩ = some (.slice av zs.length cv) /\ w'.cell? ⟨w.heap.size, 1, none⟩ = some (.int .i64 x.n) /\ w'.cell? ⟨w.heap.size, 2, none⟩ = some (.int .i64 x.s)) (by kernel_rfl) ?_ (fun hHeld => ?_)
            . exact ⟨my1, me1, me2⟩
            refine held_t 0 hHeld ?_
            refine held_t 1 hHeld ?_
            refine held_t 2 hHeld ?_
            refine held_t 3 hHeld ?_
            refine held_t 4 hHeld ?_
            refine held_one (i := 5) (by kernel_rfl) rfl (by kernel_rfl) (fun K hK => ?_)
            go_simp
            refine (perStripe_any _ x.n x.s g1 g2).mono ?_
            rintro e w3 ⟨rfl, b3⟩
            have b3' : Below w2.heap.size w2 w3 := (Below.refl w2.heap.size w2).drew.trans b3
            clear b3
            go_wp2_with fail
            clear hHeld
            refine hK.out _ _ ?_ (fun hHeld => ?_)
            . exact ⟨(b3'.cell (p := ⟨wr.heap.size, 1, none⟩) my).trans my1, (b3'.cell (p := ⟨w.heap.size, 1, none⟩) mx).trans me1, (b3'.cell (p := ⟨w.heap.size, 2, none⟩) mx).trans me2⟩
            clear hK K
            refine held_t 6 hHeld ?_
            refine held_t 7 hHeld ?_
            refine held_t 8 hHeld ?_
            refine held_t 9 hHeld ?_
            refine held_one (i := 10) (by kernel_rfl) rfl (by kernel_rfl) (fun K hK => ?_)
            go_simp
            refine (implSecOk_any _ _ _ _ zs rfl (ints_rd (RZ2.below b3')).1 hwz).mono ?_
            rintro e w4 ⟨rfl, s4⟩
            have b4' : Below w2.heap.size w2 w4 := Below.andThen b3' (s4.below _)
            clear s4
            rw [hZ]
            go_wp2_with fail
            clear hHeld
            refine hK.out _ _ ?_ (fun hHeld => ?_)
            . exact ⟨(b4'.cell (p := ⟨wr.heap.size, 1, none⟩) my).trans my1, (b4'.cell (p := ⟨w.heap.size, 1, none⟩) mx).trans me1, (b4'.cell (p := ⟨w.heap.size, 2, none⟩) mx).trans me2⟩
            clear hK K
            refine held_t 11 hHeld ?_
            refine held_t 12 hHeld ?_
            refine wpAnyH_done (by kernel_rfl) ?_ _
            clear hHeld
            have HB := hidden (hA.trans ((B1.trans ((Below.andThen b2' b4').mono B1.size)).mono hA.size))
            have HE := hidden (entsB_no (x := x) HDJ.out (entAt_3 HZ.out))
            go_wp2
            go_ret
            exact ⟨ret_bool HE.out.symm, HB.out⟩
          . have HZ := hidden (HSA.out.symm.trans hZ)
            go_wp2_with fail
            generalize wr.alloc (.cells #[.int .i64 y, .slice av zs.length cv] 99) = w1 at X1 Y1 RZ B1 y0 y1 e1 e2 e9 zy zx zb HQ  ⊢
            refine wp_region_held_drew (S := fun w' => w'.cell? ⟨wr.heap.size, 0, none⟩ = some (.int .i64 y) /\ w'.cell? ⟨w.heap.size, 1, none⟩ = some (.int .i64 x.n) /\ w'.cell? ⟨w.heap.size, 2, none⟩ = some (.int .i64 x.s) /\ w'.cell? ⟨w.heap.size, 9, none⟩ = some (.slice (some ⟨b, off, none⟩) nd cd)) (by kernel_rfl) ?_ (fun hHeld => ?_)
            . exact ⟨y0, e1, e2, e9⟩
            refine held_t 0 hHeld ?_
            refine held_t 1 hHeld ?_
            refine held_t 2 hHeld ?_
            refine held_t 3 hHeld ?_
            refine held_one (i := 4) (by kernel_rfl) rfl (by kernel_rfl) (fun K hK => ?_)
            go_simp
            refine (hasStripe_any _ x.n x.s y).mono ?_
            rintro e w2 ⟨rfl, b2⟩
            have b2' : Below w1.heap.size w1 w2 := (Below.refl w1.heap.size w1).drew.trans b2
            clear b2
            rw [hI]
            go_wp2_with fail
            clear hHeld
            refine hK.out _ _ ?_ (fun hHeld => ?_)
            . exact ⟨(b2'.cell (p := ⟨wr.heap.size, 0, none⟩) zy).trans y0, (b2'.cell (p := ⟨w.heap.size, 1, none⟩) zx).trans e1, (b2'.cell (p := ⟨w.heap.size, 2, none⟩) zx).trans e2, (b2'.cell (p := ⟨w.heap.size, 9, none⟩) zx).trans e9⟩
            clear hK K
            refine held_t 5 hHeld ?_
            refine held_t 6 hHeld ?_
            refine held_t 7 hHeld ?_
            refine held_t 8 hHeld ?_
            refine held_t 9 hHeld ?_
            refine held_p 10 hHeld ?_
            refine held_p 11 hHeld ?_
            refine held_p 12 hHeld ?_
            refine held_p 13 hHeld ?_
            refine held_p 14 hHeld ?_
            refine held_p 15 hHeld ?_
            refine held_p 16 hHeld ?_
            refine held_p 17 hHeld ?_
            refine held_p 18 hHeld ?_
            refine held_p 19 hHeld ?_
            refine held_t 20 hHeld ?_
            refine held_t 21 hHeld ?_
            refine wpAnyH_done (by kernel_rfl) ?_ _
            clear hHeld
            have my1 := (b2'.cell (p := ⟨wr.heap.size, 1, none⟩) zy).trans y1
            have me1 := (b2'.cell (p := ⟨w.heap.size, 1, none⟩) zx).trans e1
            have me2 := (b2'.cell (p := ⟨w.heap.size, 2, none⟩) zx).trans e2
            have my := Nat.lt_of_lt_of_le zy b2'.size
            have mx := Nat.lt_of_lt_of_le zx b2'.size
            have RZ2 := RZ.below b2'
            go_wp2_with fail
            refine wp_region_held_drew (S := fun w' => w'.cell? ⟨wr.heap.size, 1, none⟩ = some (.slice av zs.length cv) /\ w'.cell? ⟨w.heap.size, 1, none⟩ = some (.int .i64 x.n) /\ w'.cell? ⟨w.heap.size, 2, none⟩ = some (.int .i64 x.s)) (by kernel_rfl) ?_ (fun hHeld => ?_)
            . exact ⟨my1, me1, me2⟩
            refine held_t 0 hHeld ?_
            refine held_t 1 hHeld ?_
            refine held_t 2 hHeld ?_
            refine held_t 3 hHeld ?_
            refine held_t 4 hHeld ?_
            refine held_one (i := 5) (by kernel_rfl) rfl (by kernel_rfl) (fun K hK => ?_)
            go_simp
            refine (perStripe_any _ x.n x.s g1 g2).mono ?_
            rintro e w3 ⟨rfl, b3⟩
            have b3' : Below w2.heap.size w2 w3 := (Below.refl w2.heap.size w2).drew.trans b3
            clear b3
            go_wp2_with fail
            clear hHeld
            refine hK.out _ _ ?_ (fun hHeld => ?_)
            . exact ⟨(b3'.cell (p := ⟨wr.heap.size, 1, none⟩) my).trans my1, (b3'.cell (p := ⟨w.heap.size, 1, none⟩) mx).trans me1, (b3'.cell (p := ⟨w.heap.size, 2, none⟩) mx).trans me2⟩
            clear hK K
            refine held_t 6 hHeld ?_
            refine held_t 7 hHeld ?_
            refine held_t 8 hHeld ?_
            refine held_t 9 hHeld ?_
            refine held_one (i := 10) (by kernel_rfl) rfl (by kernel_rfl) (fun K hK => ?_)
            go_simp
            refine (implSecOk_any _ _ _ _ zs rfl (ints_rd (RZ2.below b3')).1 hwz).mono ?_
            rintro e w4 ⟨rfl, s4⟩
            have b4' : Below w2.heap.size w2 w4 := Below.andThen b3' (s4.below _)
            clear s4
            rw [hZ]
            go_wp2_with fail
            clear hHeld
            refine hK.out _ _ ?_ (fun hHeld => ?_)
            . exact ⟨(b4'.cell (p := ⟨wr.heap.size, 1, none⟩) my).trans my1, (b4'.cell (p := ⟨w.heap.size, 1, none⟩) mx).trans me1, (b4'.cell (p := ⟨w.heap.size, 2, none⟩) mx).trans me2⟩
            clear hK K
            refine held_t 11 hHeld ?_
            refine held_t 12 hHeld ?_
            refine wpAnyH_done (by kernel_rfl) ?_ _
            clear hHeld
            have HB := hidden (B1.trans ((Below.andThen b2' b4').mono B1.size))
            have hat : entAt x ds (0) (y, zs) = true := entAt_4 HI.out HL.out HZ.out
            go_wp2
            go_roundw
            case rel => exact ⟨0 + 1, by omega, by go_num, fun q d hq hm' => by
             rcases Nat.lt_or_ge q (0) with h | h
             . exact hall q d h hm'
             . obtain rfl : q = 0 := by omega
               rw [HDJ.out] at hm'
               cases hm'
               exact hat, HB.out⟩
            case measure => simp [intOf]; omega
        . have hL1 : ((zs.length : Int) == x.n - 1) = false := by simpa using hL
          have hL2 : ((zs.length : Int) != x.n - 1) = true := by simpa using hL
          have HL := hidden hL
          clear hL
          go_wp2_with fail
          generalize wr.alloc (.cells #[.int .i64 y, .slice av zs.length cv] 99) = w1 at X1 Y1 RZ B1 y0 y1 e1 e2 e9 zy zx zb HQ  ⊢
          refine wp_region_held_drew (S := fun w' => w'.cell? ⟨wr.heap.size, 0, none⟩ = some (.int .i64 y) /\ w'.cell? ⟨w.heap.size, 1, none⟩ = some (.int .i64 x.n) /\ w'.cell? ⟨w.heap.size, 2, none⟩ = some (.int .i64 x.s) /\ w'.cell? ⟨w.heap.size, 9, none⟩ = some (.slice (some ⟨b, off, none⟩) nd cd)) (by kernel_rfl) ?_ (fun hHeld => ?_)
          . exact ⟨y0, e1, e2, e9⟩
          refine held_t 0 hHeld ?_
          refine held_t 1 hHeld ?_
          refine held_t 2 hHeld ?_
          refine held_t 3 hHeld ?_
          refine held_one (i := 4) (by kernel_rfl) rfl (by kernel_rfl) (fun K hK => ?_)
          go_simp
          refine (hasStripe_any _ x.n x.s y).mono ?_
          rintro e w2 ⟨rfl, b2⟩
          have b2' : Below w1.heap.size w1 w2 := (Below.refl w1.heap.size w1).drew.trans b2
          clear b2
          rw [hI]
          go_wp2_with fail
          clear hHeld
          refine hK.out _ _ ?_ (fun hHeld => ?_)
          . exact ⟨(b2'.cell (p := ⟨wr.heap.size, 0, none⟩) zy).trans y0, (b2'.cell (p := ⟨w.heap.size, 1, none⟩) zx).trans e1, (b2'.cell (p := ⟨w.heap.size, 2, none⟩) zx).trans e2, (b2'.cell (p := ⟨w.heap.size, 9, none⟩) zx).trans e9⟩
          clear hK K
          refine held_t 5 hHeld ?_
          refine held_t 6 hHeld ?_
          refine held_t 7 hHeld ?_
          refine held_t 8 hHeld ?_
          refine held_t 9 hHeld ?_
          refine held_p 10 hHeld ?_
          refine held_p 11 hHeld ?_
          refine held_p 12 hHeld ?_
          refine held_p 13 hHeld ?_
          refine held_p 14 hHeld ?_
          refine held_p 15 hHeld ?_
          refine held_p 16 hHeld ?_
          refine held_p 17 hHeld ?_
          refine held_p 18 hHeld ?_
          refine held_p 19 hHeld ?_
          refine held_t 20 hHeld ?_
          refine held_t 21 hHeld ?_
          refine wpAnyH_done (by kernel_rfl) ?_ _
          clear hHeld
          have my1 := (b2'.cell (p := ⟨wr.heap.size, 1, none⟩) zy).trans y1
          have me1 := (b2'.cell (p := ⟨w.heap.size, 1, none⟩) zx).trans e1
          have me2 := (b2'.cell (p := ⟨w.heap.size, 2, none⟩) zx).trans e2
          have my := Nat.lt_of_lt_of_le zy b2'.size
          have mx := Nat.lt_of_lt_of_le zx b2'.size
          have RZ2 := RZ.below b2'
          go_wp2_with fail
          refine wp_region_held_drew (S := fun w' => w'.cell? ⟨wr.heap.size, 1, none⟩ = some (.slice av zs.length cv) /\ w'.cell? ⟨w.heap.size, 1, none⟩ = some (.int .i64 x.n) /\ w'.cell? ⟨w.heap.size, 2, none⟩ = some (.int .i64 x.s)) (by kernel_rfl) ?_ (fun hHeld => ?_)
          . exact ⟨my1, me1, me2⟩
          refine held_t 0 hHeld ?_
          refine held_t 1 hHeld ?_
          refine held_t 2 hHeld ?_
          refine held_t 3 hHeld ?_
          refine held_t 4 hHeld ?_
          refine held_one (i := 5) (by kernel_rfl) rfl (by kernel_rfl) (fun K hK => ?_)
          go_simp
          refine (perStripe_any _ x.n x.s g1 g2).mono ?_
          rintro e w3 ⟨rfl, b3⟩
          have b3' : Below w2.heap.size w2 w3 := (Below.refl w2.heap.size w2).drew.trans b3
          clear b3
          go_wp2_with fail
          clear hHeld
          refine hK.out _ _ ?_ (fun hHeld => ?_)
          . exact ⟨(b3'.cell (p := ⟨wr.heap.size, 1, none⟩) my).trans my1, (b3'.cell (p := ⟨w.heap.size, 1, none⟩) mx).trans me1, (b3'.cell (p := ⟨w.heap.size, 2, none⟩) mx).trans me2⟩
          clear hK K
          refine held_t 6 hHeld ?_
          refine held_t 7 hHeld ?_
          refine held_p 8 hHeld ?_
          refine held_p 9 hHeld ?_
          refine held_none (i := 10) (by kernel_rfl) rfl (by kernel_rfl) hHeld ?_
          simp only [Act.put, List.setIfInBounds_toArray, List.set_cons_zero, List.set_cons_succ]
          refine held_p 11 hHeld ?_
          refine held_t 12 hHeld ?_
          refine wpAnyH_done (by kernel_rfl) ?_ _
          clear hHeld
          have HB := hidden (hA.trans ((B1.trans ((Below.andThen b2' b3').mono B1.size)).mono hA.size))
          have HE := hidden (entsB_no (x := x) HDJ.out (entAt_2 HL.out))
          go_wp2
          go_ret
          exact ⟨ret_bool HE.out.symm, HB.out⟩
      . obtain ⟨p, rfl⟩ : ∃ p, j = p + 1 := ⟨j - 1, by omega⟩
        have hpq : ds[p]? = some (ds[p]'(by omega)) := List.getElem?_eq_getElem (by omega)
        generalize ds[p]'(by omega) = q at hpq
        have qc := HQ.out p q hpq
        obtain ⟨s, zq⟩ := q
        simp only at qc
        have HPQ := hidden hpq
        clear hpq
        have j1 : IntKind.i64.wrap (((p + 1 : Nat) : Int) - 1) = (p : Int) := by rw [IntWalk.i64_in _ (by omega)]; omega
        have j2 : IntKind.i64.wrap ((p : Int) + 1 - 1) = (p : Int) := by rw [IntWalk.i64_in _ (by omega)]; omega
        have j3 : IntKind.i64.wrap (p : Int) = (p : Int) := IntWalk.i64_in _ (by omega)
        have j4 : (0 : Int) <= (p : Int) := by omega
        have j5 : (p : Int) < (nd : Int) := by omega
        have j6 : (0 : Int) < ((p + 1 : Nat) : Int) := by omega
        by_cases hlt : s < y
        . have hge : ¬ y <= s := by omega
          by_cases hL : (zs.length : Int) = x.n - 1
          . have hL1 : ((zs.length : Int) == x.n - 1) = true := by simpa using hL
            have hL2 : ((zs.length : Int) != x.n - 1) = false := by simpa using hL
            have HL := hidden hL
            have hsa : secB zs = allW zs := sec_all6 (by omega)
            have HSA := hidden hsa
            clear hL hsa
            cases hZ : secB zs
            . have HZ := hidden (HSA.out.symm.trans hZ)
              go_wp2_with fail
              generalize wr.alloc (.cells #[.int .i64 y, .slice av zs.length cv] 99) = w1 at X1 Y1 RZ B1 y0 y1 e1 e2 e9 zy zx zb HQ qc ⊢
              refine wp_region_held_drew (S := fun w' => w'.cell? ⟨wr.heap.size, 0, none⟩ = some (.int .i64 y) /\ w'.cell? ⟨w.heap.size, 1, none⟩ = some (.int .i64 x.n) /\ w'.cell? ⟨w.heap.size, 2, none⟩ = some (.int .i64 x.s) /\ w'.cell? ⟨w.heap.size, 9, none⟩ = some (.slice (some ⟨b, off, none⟩) nd cd) /\ w'.cell? ⟨b, off + p * 2, none⟩ = some (.int .i64 s)) (by kernel_rfl) ?_ (fun hHeld => ?_)
              . exact ⟨y0, e1, e2, e9, qc⟩
              refine held_t 0 hHeld ?_
              refine held_t 1 hHeld ?_
              refine held_t 2 hHeld ?_
              refine held_t 3 hHeld ?_
              refine held_one (i := 4) (by kernel_rfl) rfl (by kernel_rfl) (fun K hK => ?_)
              go_simp
              refine (hasStripe_any _ x.n x.s y).mono ?_
              rintro e w2 ⟨rfl, b2⟩
              have b2' : Below w1.heap.size w1 w2 := (Below.refl w1.heap.size w1).drew.trans b2
              clear b2
              rw [hI]
              go_wp2_with fail
              clear hHeld
              refine hK.out _ _ ?_ (fun hHeld => ?_)
              . exact ⟨(b2'.cell (p := ⟨wr.heap.size, 0, none⟩) zy).trans y0, (b2'.cell (p := ⟨w.heap.size, 1, none⟩) zx).trans e1, (b2'.cell (p := ⟨w.heap.size, 2, none⟩) zx).trans e2, (b2'.cell (p := ⟨w.heap.size, 9, none⟩) zx).trans e9, (b2'.cell (p := ⟨b, off + p * 2, none⟩) zb).trans qc⟩
              clear hK K
              refine held_t 5 hHeld ?_
              refine held_t 6 hHeld ?_
              refine held_t 7 hHeld ?_
              refine held_t 8 hHeld ?_
              refine held_t 9 hHeld ?_
              refine held_t 10 hHeld ?_
              refine held_t 11 hHeld ?_
              refine held_t 12 hHeld ?_
              refine held_t 13 hHeld ?_
              refine held_t 14 hHeld ?_
              refine held_t 15 hHeld ?_
              refine held_t 16 hHeld ?_
              refine held_t 17 hHeld ?_
              refine held_t 18 hHeld ?_
              refine held_t 19 hHeld ?_
              refine held_t 20 hHeld ?_
              refine held_t 21 hHeld ?_
              refine wpAnyH_done (by kernel_rfl) ?_ _
              clear hHeld
              have my1 := (b2'.cell (p := ⟨wr.heap.size, 1, none⟩) zy).trans y1
              have me1 := (b2'.cell (p := ⟨w.heap.size, 1, none⟩) zx).trans e1
              have me2 := (b2'.cell (p := ⟨w.heap.size, 2, none⟩) zx).trans e2
              have my := Nat.lt_of_lt_of_le zy b2'.size
              have mx := Nat.lt_of_lt_of_le zx b2'.size
              have RZ2 := RZ.below b2'
              go_wp2_with fail
              refine wp_region_held_drew (S := fun w' => w'.cell? ⟨wr.heap.size, 1, none⟩ = some (.slice av zs.length cv) /\ w'.cell? ⟨w.heap.size, 1, none⟩ = some (.int .i64 x.n) /\ w'.cell? ⟨w.heap.size, 2, none⟩ = some (.int .i64 x.s)) (by kernel_rfl) ?_ (fun hHeld => ?_)
              . exact ⟨my1, me1, me2⟩
              refine held_t 0 hHeld ?_
              refine held_t 1 hHeld ?_
              refine held_t 2 hHeld ?_
              refine held_t 3 hHeld ?_
              refine held_t 4 hHeld ?_
              refine held_one (i := 5) (by kernel_rfl) rfl (by kernel_rfl) (fun K hK => ?_)
              go_simp
              refine (perStripe_any _ x.n x.s g1 g2).mono ?_
              rintro e w3 ⟨rfl, b3⟩
              have b3' : Below w2.heap.size w2 w3 := (Below.refl w2.heap.size w2).drew.trans b3
              clear b3
              go_wp2_with fail
              clear hHeld
              refine hK.out _ _ ?_ (fun hHeld => ?_)
              . exact ⟨(b3'.cell (p := ⟨wr.heap.size, 1, none⟩) my).trans my1, (b3'.cell (p := ⟨w.heap.size, 1, none⟩) mx).trans me1, (b3'.cell (p := ⟨w.heap.size, 2, none⟩) mx).trans me2⟩
              clear hK K
              refine held_t 6 hHeld ?_
              refine held_t 7 hHeld ?_
              refine held_t 8 hHeld ?_
              refine held_t 9 hHeld ?_
              refine held_one (i := 10) (by kernel_rfl) rfl (by kernel_rfl) (fun K hK => ?_)
              go_simp
              refine (implSecOk_any _ _ _ _ zs rfl (ints_rd (RZ2.below b3')).1 hwz).mono ?_
              rintro e w4 ⟨rfl, s4⟩
              have b4' : Below w2.heap.size w2 w4 := Below.andThen b3' (s4.below _)
              clear s4
              rw [hZ]
              go_wp2_with fail
              clear hHeld
              refine hK.out _ _ ?_ (fun hHeld => ?_)
              . exact ⟨(b4'.cell (p := ⟨wr.heap.size, 1, none⟩) my).trans my1, (b4'.cell (p := ⟨w.heap.size, 1, none⟩) mx).trans me1, (b4'.cell (p := ⟨w.heap.size, 2, none⟩) mx).trans me2⟩
              clear hK K
              refine held_t 11 hHeld ?_
              refine held_t 12 hHeld ?_
              refine wpAnyH_done (by kernel_rfl) ?_ _
              clear hHeld
              have HB := hidden (hA.trans ((B1.trans ((Below.andThen b2' b4').mono B1.size)).mono hA.size))
              have HE := hidden (entsB_no (x := x) HDJ.out (entAt_3 HZ.out))
              go_wp2
              go_ret
              exact ⟨ret_bool HE.out.symm, HB.out⟩
            . have HZ := hidden (HSA.out.symm.trans hZ)
              go_wp2_with fail
              generalize wr.alloc (.cells #[.int .i64 y, .slice av zs.length cv] 99) = w1 at X1 Y1 RZ B1 y0 y1 e1 e2 e9 zy zx zb HQ qc ⊢
              refine wp_region_held_drew (S := fun w' => w'.cell? ⟨wr.heap.size, 0, none⟩ = some (.int .i64 y) /\ w'.cell? ⟨w.heap.size, 1, none⟩ = some (.int .i64 x.n) /\ w'.cell? ⟨w.heap.size, 2, none⟩ = some (.int .i64 x.s) /\ w'.cell? ⟨w.heap.size, 9, none⟩ = some (.slice (some ⟨b, off, none⟩) nd cd) /\ w'.cell? ⟨b, off + p * 2, none⟩ = some (.int .i64 s)) (by kernel_rfl) ?_ (fun hHeld => ?_)
              . exact ⟨y0, e1, e2, e9, qc⟩
              refine held_t 0 hHeld ?_
              refine held_t 1 hHeld ?_
              refine held_t 2 hHeld ?_
              refine held_t 3 hHeld ?_
              refine held_one (i := 4) (by kernel_rfl) rfl (by kernel_rfl) (fun K hK => ?_)
              go_simp
              refine (hasStripe_any _ x.n x.s y).mono ?_
              rintro e w2 ⟨rfl, b2⟩
              have b2' : Below w1.heap.size w1 w2 := (Below.refl w1.heap.size w1).drew.trans b2
              clear b2
              rw [hI]
              go_wp2_with fail
              clear hHeld
              refine hK.out _ _ ?_ (fun hHeld => ?_)
              . exact ⟨(b2'.cell (p := ⟨wr.heap.size, 0, none⟩) zy).trans y0, (b2'.cell (p := ⟨w.heap.size, 1, none⟩) zx).trans e1, (b2'.cell (p := ⟨w.heap.size, 2, none⟩) zx).trans e2, (b2'.cell (p := ⟨w.heap.size, 9, none⟩) zx).trans e9, (b2'.cell (p := ⟨b, off + p * 2, none⟩) zb).trans qc⟩
              clear hK K
              refine held_t 5 hHeld ?_
              refine held_t 6 hHeld ?_
              refine held_t 7 hHeld ?_
              refine held_t 8 hHeld ?_
              refine held_t 9 hHeld ?_
              refine held_t 10 hHeld ?_
              refine held_t 11 hHeld ?_
              refine held_t 12 hHeld ?_
              refine held_t 13 hHeld ?_
              refine held_t 14 hHeld ?_
              refine held_t 15 hHeld ?_
              refine held_t 16 hHeld ?_
              refine held_t 17 hHeld ?_
              refine held_t 18 hHeld ?_
              refine held_t 19 hHeld ?_
              refine held_t 20 hHeld ?_
              refine held_t 21 hHeld ?_
              refine wpAnyH_done (by kernel_rfl) ?_ _
              clear hHeld
              have my1 := (b2'.cell (p := ⟨wr.heap.size, 1, none⟩) zy).trans y1
              have me1 := (b2'.cell (p := ⟨w.heap.size, 1, none⟩) zx).trans e1
              have me2 := (b2'.cell (p := ⟨w.heap.size, 2, none⟩) zx).trans e2
              have my := Nat.lt_of_lt_of_le zy b2'.size
              have mx := Nat.lt_of_lt_of_le zx b2'.size
              have RZ2 := RZ.below b2'
              go_wp2_with fail
              refine wp_region_held_drew (S := fun w' => w'.cell? ⟨wr.heap.size, 1, none⟩ = some (.slice av zs.length cv) /\ w'.cell? ⟨w.heap.size, 1, none⟩ = some (.int .i64 x.n) /\ w'.cell? ⟨w.heap.size, 2, none⟩ = some (.int .i64 x.s)) (by kernel_rfl) ?_ (fun hHeld => ?_)
              . exact ⟨my1, me1, me2⟩
              refine held_t 0 hHeld ?_
              refine held_t 1 hHeld ?_
              refine held_t 2 hHeld ?_
              refine held_t 3 hHeld ?_
              refine held_t 4 hHeld ?_
              refine held_one (i := 5) (by kernel_rfl) rfl (by kernel_rfl) (fun K hK => ?_)
              go_simp
              refine (perStripe_any _ x.n x.s g1 g2).mono ?_
              rintro e w3 ⟨rfl, b3⟩
              have b3' : Below w2.heap.size w2 w3 := (Below.refl w2.heap.size w2).drew.trans b3
              clear b3
              go_wp2_with fail
              clear hHeld
              refine hK.out _ _ ?_ (fun hHeld => ?_)
              . exact ⟨(b3'.cell (p := ⟨wr.heap.size, 1, none⟩) my).trans my1, (b3'.cell (p := ⟨w.heap.size, 1, none⟩) mx).trans me1, (b3'.cell (p := ⟨w.heap.size, 2, none⟩) mx).trans me2⟩
              clear hK K
              refine held_t 6 hHeld ?_
              refine held_t 7 hHeld ?_
              refine held_t 8 hHeld ?_
              refine held_t 9 hHeld ?_
              refine held_one (i := 10) (by kernel_rfl) rfl (by kernel_rfl) (fun K hK => ?_)
              go_simp
              refine (implSecOk_any _ _ _ _ zs rfl (ints_rd (RZ2.below b3')).1 hwz).mono ?_
              rintro e w4 ⟨rfl, s4⟩
              have b4' : Below w2.heap.size w2 w4 := Below.andThen b3' (s4.below _)
              clear s4
              rw [hZ]
              go_wp2_with fail
              clear hHeld
              refine hK.out _ _ ?_ (fun hHeld => ?_)
              . exact ⟨(b4'.cell (p := ⟨wr.heap.size, 1, none⟩) my).trans my1, (b4'.cell (p := ⟨w.heap.size, 1, none⟩) mx).trans me1, (b4'.cell (p := ⟨w.heap.size, 2, none⟩) mx).trans me2⟩
              clear hK K
              refine held_t 11 hHeld ?_
              refine held_t 12 hHeld ?_
              refine wpAnyH_done (by kernel_rfl) ?_ _
              clear hHeld
              have HB := hidden (B1.trans ((Below.andThen b2' b4').mono B1.size))
              have hat : entAt x ds (p + 1) (y, zs) = true := (entAt_5 HI.out HL.out HZ.out HPQ.out).trans (by simpa using hlt)
              go_wp2
              go_roundw
              case rel => exact ⟨p + 1 + 1, by omega, by go_num, fun q d hq hm' => by
               rcases Nat.lt_or_ge q (p + 1) with h | h
               . exact hall q d h hm'
               . obtain rfl : q = p + 1 := by omega
                 rw [HDJ.out] at hm'
                 cases hm'
                 exact hat, HB.out⟩
              case measure => simp [intOf]; omega
          . have hL1 : ((zs.length : Int) == x.n - 1) = false := by simpa using hL
            have hL2 : ((zs.length : Int) != x.n - 1) = true := by simpa using hL
            have HL := hidden hL
            clear hL
            go_wp2_with fail
            generalize wr.alloc (.cells #[.int .i64 y, .slice av zs.length cv] 99) = w1 at X1 Y1 RZ B1 y0 y1 e1 e2 e9 zy zx zb HQ qc ⊢
            refine wp_region_held_drew (S := fun w' => w'.cell? ⟨wr.heap.size, 0, none⟩ = some (.int .i64 y) /\ w'.cell? ⟨w.heap.size, 1, none⟩ = some (.int .i64 x.n) /\ w'.cell? ⟨w.heap.size, 2, none⟩ = some (.int .i64 x.s) /\ w'.cell? ⟨w.heap.size, 9, none⟩ = some (.slice (some ⟨b, off, none⟩) nd cd) /\ w'.cell? ⟨b, off + p * 2, none⟩ = some (.int .i64 s)) (by kernel_rfl) ?_ (fun hHeld => ?_)
            . exact ⟨y0, e1, e2, e9, qc⟩
            refine held_t 0 hHeld ?_
            refine held_t 1 hHeld ?_
            refine held_t 2 hHeld ?_
            refine held_t 3 hHeld ?_
            refine held_one (i := 4) (by kernel_rfl) rfl (by kernel_rfl) (fun K hK => ?_)
            go_simp
            refine (hasStripe_any _ x.n x.s y).mono ?_
            rintro e w2 ⟨rfl, b2⟩
            have b2' : Below w1.heap.size w1 w2 := (Below.refl w1.heap.size w1).drew.trans b2
            clear b2
            rw [hI]
            go_wp2_with fail
            clear hHeld
            refine hK.out _ _ ?_ (fun hHeld => ?_)
            . exact ⟨(b2'.cell (p := ⟨wr.heap.size, 0, none⟩) zy).trans y0, (b2'.cell (p := ⟨w.heap.size, 1, none⟩) zx).trans e1, (b2'.cell (p := ⟨w.heap.size, 2, none⟩) zx).trans e2, (b2'.cell (p := ⟨w.heap.size, 9, none⟩) zx).trans e9, (b2'.cell (p := ⟨b, off + p * 2, none⟩) zb).trans qc⟩
            clear hK K
            refine held_t 5 hHeld ?_
            refine held_t 6 hHeld ?_
            refine held_t 7 hHeld ?_
            refine held_t 8 hHeld ?_
            refine held_t 9 hHeld ?_
            refine held_t 10 hHeld ?_
            refine held_t 11 hHeld ?_
            refine held_t 12 hHeld ?_
            refine held_t 13 hHeld ?_
            refine held_t 14 hHeld ?_
            refine held_t 15 hHeld ?_
            refine held_t 16 hHeld ?_
            refine held_t 17 hHeld ?_
            refine held_t 18 hHeld ?_
            refine held_t 19 hHeld ?_
            refine held_t 20 hHeld ?_
            refine held_t 21 hHeld ?_
            refine wpAnyH_done (by kernel_rfl) ?_ _
            clear hHeld
            have my1 := (b2'.cell (p := ⟨wr.heap.size, 1, none⟩) zy).trans y1
            have me1 := (b2'.cell (p := ⟨w.heap.size, 1, none⟩) zx).trans e1
            have me2 := (b2'.cell (p := ⟨w.heap.size, 2, none⟩) zx).trans e2
            have my := Nat.lt_of_lt_of_le zy b2'.size
            have mx := Nat.lt_of_lt_of_le zx b2'.size
            have RZ2 := RZ.below b2'
            go_wp2_with fail
            refine wp_region_held_drew (S := fun w' => w'.cell? ⟨wr.heap.size, 1, none⟩ = some (.slice av zs.length cv) /\ w'.cell? ⟨w.heap.size, 1, none⟩ = some (.int .i64 x.n) /\ w'.cell? ⟨w.heap.size, 2, none⟩ = some (.int .i64 x.s)) (by kernel_rfl) ?_ (fun hHeld => ?_)
            . exact ⟨my1, me1, me2⟩
            refine held_t 0 hHeld ?_
            refine held_t 1 hHeld ?_
            refine held_t 2 hHeld ?_
            refine held_t 3 hHeld ?_
            refine held_t 4 hHeld ?_
            refine held_one (i := 5) (by kernel_rfl) rfl (by kernel_rfl) (fun K hK => ?_)
            go_simp
            refine (perStripe_any _ x.n x.s g1 g2).mono ?_
            rintro e w3 ⟨rfl, b3⟩
            have b3' : Below w2.heap.size w2 w3 := (Below.refl w2.heap.size w2).drew.trans b3
            clear b3
            go_wp2_with fail
            clear hHeld
            refine hK.out _ _ ?_ (fun hHeld => ?_)
            . exact ⟨(b3'.cell (p := ⟨wr.heap.size, 1, none⟩) my).trans my1, (b3'.cell (p := ⟨w.heap.size, 1, none⟩) mx).trans me1, (b3'.cell (p := ⟨w.heap.size, 2, none⟩) mx).trans me2⟩
            clear hK K
            refine held_t 6 hHeld ?_
            refine held_t 7 hHeld ?_
            refine held_p 8 hHeld ?_
            refine held_p 9 hHeld ?_
            refine held_none (i := 10) (by kernel_rfl) rfl (by kernel_rfl) hHeld ?_
            simp only [Act.put, List.setIfInBounds_toArray, List.set_cons_zero, List.set_cons_succ]
            refine held_p 11 hHeld ?_
            refine held_t 12 hHeld ?_
            refine wpAnyH_done (by kernel_rfl) ?_ _
            clear hHeld
            have HB := hidden (hA.trans ((B1.trans ((Below.andThen b2' b3').mono B1.size)).mono hA.size))
            have HE := hidden (entsB_no (x := x) HDJ.out (entAt_2 HL.out))
            go_wp2
            go_ret
            exact ⟨ret_bool HE.out.symm, HB.out⟩
        . have hge : y <= s := by omega
          go_wp2_with fail
          generalize wr.alloc (.cells #[.int .i64 y, .slice av zs.length cv] 99) = w1 at X1 Y1 RZ B1 y0 y1 e1 e2 e9 zy zx zb HQ qc ⊢
          refine wp_region_held_drew (S := fun w' => w'.cell? ⟨wr.heap.size, 0, none⟩ = some (.int .i64 y) /\ w'.cell? ⟨w.heap.size, 1, none⟩ = some (.int .i64 x.n) /\ w'.cell? ⟨w.heap.size, 2, none⟩ = some (.int .i64 x.s) /\ w'.cell? ⟨w.heap.size, 9, none⟩ = some (.slice (some ⟨b, off, none⟩) nd cd) /\ w'.cell? ⟨b, off + p * 2, none⟩ = some (.int .i64 s)) (by kernel_rfl) ?_ (fun hHeld => ?_)
          . exact ⟨y0, e1, e2, e9, qc⟩
          refine held_t 0 hHeld ?_
          refine held_t 1 hHeld ?_
          refine held_t 2 hHeld ?_
          refine held_t 3 hHeld ?_
          refine held_one (i := 4) (by kernel_rfl) rfl (by kernel_rfl) (fun K hK => ?_)
          go_simp
          refine (hasStripe_any _ x.n x.s y).mono ?_
          rintro e w2 ⟨rfl, b2⟩
          have b2' : Below w1.heap.size w1 w2 := (Below.refl w1.heap.size w1).drew.trans b2
          clear b2
          rw [hI]
          go_wp2_with fail
          clear hHeld
          refine hK.out _ _ ?_ (fun hHeld => ?_)
          . exact ⟨(b2'.cell (p := ⟨wr.heap.size, 0, none⟩) zy).trans y0, (b2'.cell (p := ⟨w.heap.size, 1, none⟩) zx).trans e1, (b2'.cell (p := ⟨w.heap.size, 2, none⟩) zx).trans e2, (b2'.cell (p := ⟨w.heap.size, 9, none⟩) zx).trans e9, (b2'.cell (p := ⟨b, off + p * 2, none⟩) zb).trans qc⟩
          clear hK K
          refine held_t 5 hHeld ?_
          refine held_t 6 hHeld ?_
          refine held_t 7 hHeld ?_
          refine held_t 8 hHeld ?_
          refine held_t 9 hHeld ?_
          refine held_t 10 hHeld ?_
          refine held_t 11 hHeld ?_
          refine held_t 12 hHeld ?_
          refine held_t 13 hHeld ?_
          refine held_t 14 hHeld ?_
          refine held_t 15 hHeld ?_
          refine held_t 16 hHeld ?_
          refine held_t 17 hHeld ?_
          refine held_t 18 hHeld ?_
          refine held_t 19 hHeld ?_
          refine held_t 20 hHeld ?_
          refine held_t 21 hHeld ?_
          refine wpAnyH_done (by kernel_rfl) ?_ _
          clear hHeld
          have HB := hidden (hA.trans ((B1.trans (b2'.mono B1.size)).mono hA.size))
          have HE := hidden (entsB_no (x := x) HDJ.out (entAt_6 HPQ.out hge))
          go_wp2
          go_ret
          exact ⟨ret_bool HE.out.symm, HB.out⟩
  . have ej : j = nd := by omega
    subst ej
    have hAll : entsB x ds = true := allIx_iff.2 (fun q d hq => hall q d (by have := (List.getElem?_eq_some_iff.1 hq).1; omega) hq)
    have HB := hidden (hA.trans (hb.mono hA.size))
    go_wp2
    go_ret
    exact ⟨ret_bool hAll.symm, HB.out⟩

theorem recsOk_any (w : World) (x : ArrN) (am ad : Option Addr) (nm cm nd cd : Nat) :
 Calls Try.prog 77 #[.agg #[.int .i64 x.id, .int .i64 x.n, .int .i64 x.s, .slice am nm cm, .int .i64 x.lost, .int .i64 x.built, .int .i64 x.seq, .int .i64 x.tail, .int .i64 x.gen, .slice ad nd cd, .int .i64 x.fuse, .bool x.down, .bool x.broken]] w fun e w' => e = .returned (.bool (recB6 x)) /\ Below w.heap.size w w' := by
 have hA := new_below w (.cells #[.int .i64 x.id, .int .i64 x.n, .int .i64 x.s, .slice am nm cm, .int .i64 x.lost, .int .i64 x.built, .int .i64 x.seq, .int .i64 x.tail, .int .i64 x.gen, .slice ad nd cd, .int .i64 x.fuse, .bool x.down, .bool x.broken] 33)
 have X := Box.new w 33 #[.int .i64 x.id, .int .i64 x.n, .int .i64 x.s, .slice am nm cm, .int .i64 x.lost, .int .i64 x.built, .int .i64 x.seq, .int .i64 x.tail, .int .i64 x.gen, .slice ad nd cd, .int .i64 x.fuse, .bool x.down, .bool x.broken]
 obtain ⟨k0, k1, k2, k3, k4, k5, k6, k7, k8, k9, k10, k11, k12⟩ := X.cells13
 clear k0 k1 k2 k3 k4 k5 k8 k9 k10 k11 k12 X
 go_enter Try.func77, Try.ntmps77
 go_wp2_with fail
 refine (within_any _ _ _ _).mono ?_
 rintro e wq ⟨rfl, hq⟩
 obtain rfl := hq.symm
 cases hs : inB x.seq 0 60000
 . have HF : Hid (recB6 x = false) := by unfold Hid recB6; rw [hs]; rfl
   go_wp2
   go_ret
   exact ⟨ret_bool HF.out.symm, hA⟩
 . go_wp2_with fail
   refine (within_any _ _ _ _).mono ?_
   rintro e wq ⟨rfl, hq⟩
   obtain rfl := hq.symm
   cases ht : inB x.tail 0 60000
   . have HF : Hid (recB6 x = false) := by unfold Hid recB6; rw [hs, ht]; rfl
     go_wp2
     go_ret
     exact ⟨ret_bool HF.out.symm, hA⟩
   . have HF : Hid (recB6 x = inB (x.seq - x.tail) 0 4) := by unfold Hid recB6; rw [hs, ht]; rfl
     obtain ⟨s1, s2⟩ := inB_iff.1 hs
     obtain ⟨t1, t2⟩ := inB_iff.1 ht
     have hw : IntKind.i64.wrap (x.seq - x.tail) = x.seq - x.tail := IntWalk.i64_in _ (by omega)
     go_wp2_with fail
     refine (within_any _ _ _ _).mono ?_
     rintro e wq ⟨rfl, hq⟩
     obtain rfl := hq.symm
     cases hd : inB (x.seq - x.tail) 0 4
     . go_wp2
       go_ret
       exact ⟨ret_bool (by rw [HF.out, hd]), hA⟩
     . go_wp2
       go_ret
       exact ⟨ret_bool (by rw [HF.out, hd]), hA⟩

theorem implArrOk_any (w : World) (E F G : TypeId) (x : ArrN) (am ad : Option Addr) (nm cm nd cd : Nat) (ms : List MemD) (ds : List (Int × List Int)) (h0 : (tMemS E F).Rd w [.slice am nm cm] ms) (h1 : (tWrS G).Rd w [.slice ad nd cd] ds) (hw : wtArr ms ds <= 2097152) :
 Calls Try.prog 37 #[.agg #[.int .i64 x.id, .int .i64 x.n, .int .i64 x.s, .slice am nm cm, .int .i64 x.lost, .int .i64 x.built, .int .i64 x.seq, .int .i64 x.tail, .int .i64 x.gen, .slice ad nd cd, .int .i64 x.fuse, .bool x.down, .bool x.broken]] w fun e w' => e = .returned (.bool (arrB x ms ds)) /\ Below w.heap.size w w' := by
 have hwm : wtMemS ms <= 2097152 := by unfold wtArr at hw; omega
 have hwd : wtWrS ds <= 2097152 := by unfold wtArr at hw; omega
 have hA := new_below w (.cells #[.int .i64 x.id, .int .i64 x.n, .int .i64 x.s, .slice am nm cm, .int .i64 x.lost, .int .i64 x.built, .int .i64 x.seq, .int .i64 x.tail, .int .i64 x.gen, .slice ad nd cd, .int .i64 x.fuse, .bool x.down, .bool x.broken] 33)
 have X := Box.new w 33 #[.int .i64 x.id, .int .i64 x.n, .int .i64 x.s, .slice am nm cm, .int .i64 x.lost, .int .i64 x.built, .int .i64 x.seq, .int .i64 x.tail, .int .i64 x.gen, .slice ad nd cd, .int .i64 x.fuse, .bool x.down, .bool x.broken]
 obtain ⟨k0, k1, k2, k3, k4, k5, k6, k7, k8, k9, k10, k11, k12⟩ := X.cells13
 have zA := X.lt
 have r0 := h0.below hA
 have r1 := h1.below hA
 go_enter Try.func37, Try.ntmps37
 go_wp2_with fail
 generalize w.alloc (.cells #[.int .i64 x.id, .int .i64 x.n, .int .i64 x.s, .slice am nm cm, .int .i64 x.lost, .int .i64 x.built, .int .i64 x.seq, .int .i64 x.tail, .int .i64 x.gen, .slice ad nd cd, .int .i64 x.fuse, .bool x.down, .bool x.broken] 33) = W at hA X zA r0 r1 k0 k1 k2 k3 k4 k5 k6 k7 k8 k9 k10 k11 k12 ⊢
 refine (implGeoOk_any _ _ _).mono ?_
 rintro e w1 ⟨rfl, b1⟩
 have X1 := X.below b1 X.lt
 have B1 := Below.andThen hA b1
 have q1 := r0.below b1
 have t1 := r1.below b1
 clear k0 k1 k2 k3 k4 k5 k6 k7 k8 k9 k10 k11 k12 b1 X hA r0 r1
 obtain ⟨k0, k1, k2, k3, k4, k5, k6, k7, k8, k9, k10, k11, k12⟩ := X1.cells13
 cases hg : geoB x.n x.s
 . have HF : Hid (arrB x ms ds = false) := by
    unfold Hid
    unfold arrB; rw [hg]; rfl
   go_wp2
   go_ret
   exact ⟨ret_bool HF.out.symm, B1⟩
 . have HE := hidden (arr_same6 (ms := ms) (ds := ds) hg)
   obtain ⟨g1, g2, g3, g4⟩ := geoB_iff.1 hg
   go_wp2_with fail
   refine (within_any _ _ _ _).mono ?_
   rintro e wq ⟨rfl, hq⟩
   obtain rfl := hq.symm
   cases hid : inB x.id 1 60000
   . have HF : Hid (arrB x ms ds = false) := by
      unfold Hid
      rw [HE.out, hid]; rfl
     go_wp2
     go_ret
     exact ⟨ret_bool HF.out.symm, B1⟩
   . go_wp2_with fail
     refine (lostOk_any _ x.n x.s x.lost x.built ⟨g1, g2⟩).mono ?_
     rintro e w2 ⟨rfl, b2⟩
     have X2 := X1.below b2 X1.lt
     have B2 := Below.andThen B1 b2
     have q2 := q1.below b2
     have t2 := t1.below b2
     clear k0 k1 k2 k3 k4 k5 k6 k7 k8 k9 k10 k11 k12 b2 X1 B1 q1 t1
     obtain ⟨k0, k1, k2, k3, k4, k5, k6, k7, k8, k9, k10, k11, k12⟩ := X2.cells13
     cases hlo : lostB x.n x.s x.lost x.built
     . have HF : Hid (arrB x ms ds = false) := by
        unfold Hid
        rw [HE.out, hid, hlo]; rfl
       go_wp2
       go_ret
       exact ⟨ret_bool HF.out.symm, B2⟩
     . skip
       go_wp2_with fail
       refine (within_any _ _ _ _).mono ?_
       rintro e wq ⟨rfl, hq⟩
       obtain rfl := hq.symm
       cases hge : inB x.gen 0 60000
       . have HF : Hid (arrB x ms ds = false) := by
          unfold Hid
          rw [HE.out, hid, hlo, hge]; rfl
         go_wp2
         go_ret
         exact ⟨ret_bool HF.out.symm, B2⟩
       . skip
         go_wp2_with fail
         refine (within_any _ _ _ _).mono ?_
         rintro e wq ⟨rfl, hq⟩
         obtain rfl := hq.symm
         cases hfu : inB x.fuse (-1) 1000
         . have HF : Hid (arrB x ms ds = false) := by
            unfold Hid
            rw [HE.out, hid, hlo, hge, hfu]; rfl
           go_wp2
           go_ret
           exact ⟨ret_bool HF.out.symm, B2⟩
         . go_wp2_with fail
           refine (memsOk_any _ E F x _ _ _ _ _ _ ms q2 hwm hg).mono ?_
           rintro e w3 ⟨rfl, b3⟩
           have X3 := X2.below b3 X2.lt
           have B3 := Below.andThen B2 b3
           have q3 := q2.below b3
           have t3 := t2.below b3
           clear k0 k1 k2 k3 k4 k5 k6 k7 k8 k9 k10 k11 k12 b3 X2 B2 q2 t2
           obtain ⟨k0, k1, k2, k3, k4, k5, k6, k7, k8, k9, k10, k11, k12⟩ := X3.cells13
           cases hms : memsB x ms
           . have HF : Hid (arrB x ms ds = false) := by
              unfold Hid
              rw [HE.out, hid, hlo, hge, hfu, hms]; rfl
             go_wp2
             go_ret
             exact ⟨ret_bool HF.out.symm, B3⟩
           . go_wp2_with fail
             refine (recsOk_any _ x _ _ _ _ _ _).mono ?_
             rintro e w4 ⟨rfl, b4⟩
             have X4 := X3.below b4 X3.lt
             have B4 := Below.andThen B3 b4
             have q4 := q3.below b4
             have t4 := t3.below b4
             clear k0 k1 k2 k3 k4 k5 k6 k7 k8 k9 k10 k11 k12 b4 X3 B3 q3 t3
             obtain ⟨k0, k1, k2, k3, k4, k5, k6, k7, k8, k9, k10, k11, k12⟩ := X4.cells13
             cases hre : recB6 x
             . have HF : Hid (arrB x ms ds = false) := by
                unfold Hid
                rw [HE.out, hid, hlo, hge, hfu, hms, hre]; rfl
               go_wp2
               go_ret
               exact ⟨ret_bool HF.out.symm, B4⟩
             . have HF : Hid (arrB x ms ds = entsB x ds) := by
                unfold Hid
                rw [HE.out, hid, hlo, hge, hfu, hms, hre]; rfl
               go_wp2_with fail
               refine (dirtyOk_any _ G x _ _ _ _ _ _ ds t4 hwd hg).mono ?_
               rintro e w5 ⟨rfl, b5⟩
               have X5 := X4.below b5 X4.lt
               have B5 := Below.andThen B4 b5
               have q5 := q4.below b5
               have t5 := t4.below b5
               clear k0 k1 k2 k3 k4 k5 k6 k7 k8 k9 k10 k11 k12 b5 X4 B4 q4 t4
               obtain ⟨k0, k1, k2, k3, k4, k5, k6, k7, k8, k9, k10, k11, k12⟩ := X5.cells13
               cases hds : entsB x ds
               . go_wp2
                 go_ret
                 exact ⟨ret_bool (by rw [HF.out, hds]), B5⟩
               . go_wp2
                 go_ret
                 exact ⟨ret_bool (by rw [HF.out, hds]), B5⟩

theorem implAssemble_any (w : World) (E F : TypeId) (a : Option Addr) (n cap : Nat) (ms : List MemD) (id : Int) (h0 : (tMemS E F).Rd w [.slice a n cap] ms) (hw : wtMemS ms <= 2097152) :
 Calls Try.prog 25 #[.slice a n cap, .int .i64 id] w fun e w' => ArrOutB w w' e (asmQ ms id).1 (asmQ ms id).2 [] := by
 obtain ⟨rfl, hc, hm⟩ := row_length h0
 have hn : ms.length <= 2097152 := by unfold wtMemS at hw; omega
 have hA := new_below w (.cells #[.int .i64 0, .int .i64 0, .int .i64 0, .slice none 0 0, .int .i64 0, .int .i64 0, .int .i64 0, .int .i64 0, .int .i64 0, .slice none 0 0, .int .i64 0, .bool false, .bool false] 33)
 have R0 := Box.new w 33 #[.int .i64 0, .int .i64 0, .int .i64 0, .slice none 0 0, .int .i64 0, .int .i64 0, .int .i64 0, .int .i64 0, .int .i64 0, .slice none 0 0, .int .i64 0, .bool false, .bool false]
 have zR := R0.lt
 go_enter Try.func25, Try.ntmps25
 go_wp2_with fail
 generalize w.alloc (.cells #[.int .i64 0, .int .i64 0, .int .i64 0, .slice none 0 0, .int .i64 0, .int .i64 0, .int .i64 0, .int .i64 0, .int .i64 0, .slice none 0 0, .int .i64 0, .bool false, .bool false] 33) = W at hA R0 zR ⊢
 refine (newestSuper_any _ E F _ _ _ ms id (h0.below hA) hw).mono ?_
 rintro e w1 ⟨rfl, b1⟩
 have R1 := R0.below b1 zR
 have B1 := Below.andThen hA b1
 have z1 := B1.size
 have zR1 := R1.lt
 have HID := hidden (new_id (ms := ms) (id := id) ms.length)
 generalize hST : newSt ms id ms.length = yf at HID ⊢
 have HST := hidden hST
 obtain ⟨y, fb⟩ := yf
 dsimp only
 clear hST R0 hA b1
 have S3 := Box.new w1 80 #[.int .i64 y.id, .int .i64 y.gen, .int .i64 y.role, .int .i64 y.n, .int .i64 y.s, .int .i64 y.tail, .int .i64 y.lost, .int .i64 y.built]
 have R3 := hidden (R1.alloc (.cells #[.int .i64 y.id, .int .i64 y.gen, .int .i64 y.role, .int .i64 y.n, .int .i64 y.s, .int .i64 y.tail, .int .i64 y.lost, .int .i64 y.built] 80))
 have B3 := hidden (B1.alloc z1 (.cells #[.int .i64 y.id, .int .i64 y.gen, .int .i64 y.role, .int .i64 y.n, .int .i64 y.s, .int .i64 y.tail, .int .i64 y.lost, .int .i64 y.built] 80))
 obtain ⟨x0, x1, x2, x3, x4, x5, x6, x7⟩ := S3.cells8
 have HS3 := hidden S3
 have hz2 : (w1.alloc (.cells #[.int .i64 y.id, .int .i64 y.gen, .int .i64 y.role, .int .i64 y.n, .int .i64 y.s, .int .i64 y.tail, .int .i64 y.lost, .int .i64 y.built] 80)).heap.size = w1.heap.size + 1 := by simp
 clear R1 B1 S3
 go_upto_region 2 with fail
 generalize w1.alloc (.cells #[.int .i64 y.id, .int .i64 y.gen, .int .i64 y.role, .int .i64 y.n, .int .i64 y.s, .int .i64 y.tail, .int .i64 y.lost, .int .i64 y.built] 80) = w2 at R3 B3 HS3 hz2 x0 x1 x2 x3 x4 x5 x6 x7 ⊢
 obtain ⟨SB, hSB⟩ : ∃ SB, w1.heap.size = SB := ⟨_, rfl⟩
 rw [hSB] at HS3 x0 x1 x2 x3 x4 x5 x6 x7 hz2 z1 zR1 ⊢
 obtain ⟨RB, hRB⟩ : ∃ RB, w.heap.size = RB := ⟨_, rfl⟩
 have q1 : w.heap.size <= RB /\ RB < SB := by omega
 rw [hRB] at R3 ⊢
 have HRB := hidden hRB
 clear hSB hRB
 have zS2 : SB + 1 <= w2.heap.size := by omega
 have zR2 := R3.out.lt
 clear hz2
 have none_ : Hid (∀ w4, Below w.heap.size w w4 -> Box w4 RB 33 #[.int .i64 0, .int .i64 0, .int .i64 0, .slice none 0 0, .int .i64 0, .int .i64 0, .int .i64 0, .int .i64 0, .int .i64 0, .slice none 0 0, .int .i64 0, .bool false, .bool false] -> asmQ ms id = ((arrZ, []), false) -> ArrOutB w (puts w4 RB [(0, .int .i64 0), (1, .int .i64 0), (2, .int .i64 0), (3, .slice none 0 0), (4, .int .i64 0), (5, .int .i64 0), (6, .int .i64 0), (7, .int .i64 0), (8, .int .i64 0), (9, .slice none 0 0), (10, .int .i64 0), (11, .bool false), (12, .bool false)]) (.returned (.tuple #[.agg #[.int .i64 0, .int .i64 0, .int .i64 0, .slice none 0 0, .int .i64 0, .int .i64 0, .int .i64 0, .int .i64 0, .int .i64 0, .slice none 0 0, .int .i64 0, .bool false, .bool false], .bool false])) (asmQ ms id).1 (asmQ ms id).2 []) := fun w4 hb hr hq => by
  rw [hq]
  exact arr_outB (y := arrZ) (ns := []) (ds := []) (vm := none) (vd := none) (cvm := 0) (cvd := 0) (lo := RB + 1) hb hr rfl (nil_mine _) (nil_mine _) (by simp) (by simp) (by simp) (by omega) (by omega)
 simp only [puts] at none_
 by_cases hfb : fb = true
 . subst hfb
   by_cases hln : (ms.length : Int) = y.n
   . have hdl : decide ((ms.length : Int) = y.n) = true := decide_eq_true hln
     have HLN := hidden hln
     have hne : ((ms.length : Int) != y.n) = false := by simp [hln]
     clear hln
     have h2 := h0.below B3.out
     go_wp2_with fail
     refine (arrOfSuper_any _ E F y _ _ _ ms h2 hw).mono ?_
     rintro e w3 ⟨bm, bd, cm, cd, rfl, ⟨fm, fd, mm, md, hr, rm, rd⟩, b3⟩
     dsimp only at mm rm
     have R4 := R3.out.below b3 zR2
     have B4 := Below.andThen B3.out b3
     have z3 := b3.size
     have nb := new_below w3 (.cells #[.int .i64 (arr0 y).id, .int .i64 (arr0 y).n, .int .i64 (arr0 y).s, .slice bm ms.length cm, .int .i64 (arr0 y).lost, .int .i64 (arr0 y).built, .int .i64 (arr0 y).seq, .int .i64 (arr0 y).tail, .int .i64 (arr0 y).gen, .slice bd 0 cd, .int .i64 (arr0 y).fuse, .bool (arr0 y).down, .bool (arr0 y).broken] 33)
     have Y := Box.new w3 33 #[.int .i64 (arr0 y).id, .int .i64 (arr0 y).n, .int .i64 (arr0 y).s, .slice bm ms.length cm, .int .i64 (arr0 y).lost, .int .i64 (arr0 y).built, .int .i64 (arr0 y).seq, .int .i64 (arr0 y).tail, .int .i64 (arr0 y).gen, .slice bd 0 cd, .int .i64 (arr0 y).fuse, .bool (arr0 y).down, .bool (arr0 y).broken]
     have zY := Y.lt
     have A5 : Hid (ArrAt (w3.alloc (.cells #[.int .i64 (arr0 y).id, .int .i64 (arr0 y).n, .int .i64 (arr0 y).s, .slice bm ms.length cm, .int .i64 (arr0 y).lost, .int .i64 (arr0 y).built, .int .i64 (arr0 y).seq, .int .i64 (arr0 y).tail, .int .i64 (arr0 y).gen, .slice bd 0 cd, .int .i64 (arr0 y).fuse, .bool (arr0 y).down, .bool (arr0 y).broken] 33)) w3.heap.size (arr0 y) ms [] fm fd) := ⟨bm, bd, cm, cd, Y, mm.below nb, md.below nb, hr, fun hm => by have := (rm _ hm).2; omega, fun hm => by have := (rd _ hm).2; omega⟩
     have R5 := hidden (R4.below nb (by omega))
     have B5 := hidden (Below.andThen B4 nb)
     have rm2 : ∀ b ∈ fm, w2.heap.size <= b := fun b hb => (rm b hb).1
     have rd2 : ∀ b ∈ fd, w2.heap.size <= b := fun b hb => (rd b hb).1
     clear x0 x1 x2 x3 x4 x5 x6 x7 R3 B3 HS3 mm md rm rd b3 R4 B4 nb Y h2
     unfold arrC
     go_upto_region 5 with fail
     generalize w3.alloc (.cells #[.int .i64 (arr0 y).id, .int .i64 (arr0 y).n, .int .i64 (arr0 y).s, .slice bm ms.length cm, .int .i64 (arr0 y).lost, .int .i64 (arr0 y).built, .int .i64 (arr0 y).seq, .int .i64 (arr0 y).tail, .int .i64 (arr0 y).gen, .slice bd 0 cd, .int .i64 (arr0 y).fuse, .bool (arr0 y).down, .bool (arr0 y).broken] 33) = w5 at A5 R5 B5 zY ⊢
     obtain ⟨AB, hAB⟩ : ∃ AB, w3.heap.size = AB := ⟨_, rfl⟩
     rw [hAB] at A5 zY z3 ⊢
     have q2 : RB < AB /\ w2.heap.size <= AB := by omega
     clear hAB z3
     go_wp2
     go_loopw [34] (fun i wr => ∃ j : Nat, j <= ms.length /\ i = .int .i64 j /\ ArrAt wr AB (asmX ms id (arr0 y) j) ms [] fm fd /\ But AB (AB + 1) w5 wr) (fun i _ => ms.length - (intOf i).toNat)
     case atStart => exact ⟨0, Nat.zero_le _, rfl, A5.out, But.refl _ _ _⟩
     case round =>
      obtain ⟨j, hj, rfl, hAt, hbt⟩ := hrel
      have hb := Below.andBut B5.out hbt (by omega)
      have zr := hbt.size
      by_cases hjn : j < ms.length
      . rcases quads_at rfl h0 with h0' | ⟨b, off, rfl, hbl, hcs⟩
        . omega
        have hdj : ms[j]? = some (ms[j]'(by omega)) := List.getElem?_eq_getElem (by omega)
        have UP := hidden (fun h => asm_here (id := id) (x := arr0 y) hdj h)
        have DN := hidden (fun h => asm_lose (id := id) (x := arr0 y) hdj h)
        generalize ms[j]'(by omega) = d at hdj UP DN
        have hin := Nat.le_trans (inner_leM hdj) hw
        obtain ⟨u0, u1, u2, u3, hv0, hv1, hv2, hv3, hrv⟩ := hcs j d hdj
        obtain ⟨a0, c0, a1, c1, a3, c3, ss, cs, f, bs, rfl, rfl, rfl, rfl, rfl, r0, r1, r3⟩ := mem_at hrv
        have pv0 := (hb.cell (p := ⟨b, off + j * 4, none⟩) hbl).trans hv0
        have pv1 := (hb.cell (p := ⟨b, off + j * 4 + 1, none⟩) hbl).trans hv1
        have pv2 := (hb.cell (p := ⟨b, off + j * 4 + 2, none⟩) hbl).trans hv2
        have pv3 := (hb.cell (p := ⟨b, off + j * 4 + 3, none⟩) hbl).trans hv3
        have nb := new_below wr (.cells #[.slice a0 ss.length c0, .slice a1 cs.length c1, .bool f, .slice a3 bs.length c3] 73)
        have hbm := Below.andThen hb nb
        have R0' := hidden (r0.below hbm)
        have R1' := hidden (r1.below hbm)
        have R3' := hidden (r3.below hbm)
        have AM := hidden (hAt.below nb)
        have BM := hidden (hbt.trans (But.of_below nb))
        have k1 : (0 : Int) <= (j : Int) := by omega
        have k2 : (j : Int) < (ms.length : Int) := by omega
        clear hcs hdj hv0 hv1 hv2 hv3 hrv r0 r1 r3 nb hbm hAt hbt hb
        go_wp2_with fail
        generalize wr.alloc (.cells #[.slice a0 ss.length c0, .slice a1 cs.length c1, .bool f, .slice a3 bs.length c3] 73) = wm at R0' R1' R3' AM BM ⊢
        refine (superHere_any _ E _ _ _ _ _ _ _ _ _ ss cs f bs id (j : Int) R0'.out R1'.out R3'.out hin).mono ?_
        rintro e wq ⟨t, rfl, _, bq⟩
        have AQ := hidden ((AM.out.below bq).below (new_below wq (.cells #[.int .i64 t.id, .int .i64 t.gen, .int .i64 t.role, .int .i64 t.n, .int .i64 t.s, .int .i64 t.tail, .int .i64 t.lost, .int .i64 t.built] 80)))
        have BQ := hidden ((BM.out.trans (But.of_below bq)).trans (But.of_below (new_below wq (.cells #[.int .i64 t.id, .int .i64 t.gen, .int .i64 t.role, .int .i64 t.n, .int .i64 t.s, .int .i64 t.tail, .int .i64 t.lost, .int .i64 t.built] 80))))
        clear R0' R1' R3' pv0 pv1 pv2 pv3 AM BM bq
        generalize hereB (ss, cs, f, bs) id (j : Int) = hk at UP DN ⊢
        go_upto_region 9 with fail
        generalize wq.alloc (.cells #[.int .i64 t.id, .int .i64 t.gen, .int .i64 t.role, .int .i64 t.n, .int .i64 t.s, .int .i64 t.tail, .int .i64 t.lost, .int .i64 t.built] 80) = wp at AQ BQ ⊢
        cases hk
        . have HX := hidden (DN.out rfl)
          go_wp2_with fail
          refine (loseDisk_any wp AB _ ms [] fm fd AQ.out (j : Int)).mono ?_
          rintro e wl ⟨rfl, al, bl⟩
          have AL := hidden al
          have BL := hidden (BQ.out.trans bl)
          clear al bl AQ BQ UP DN
          go_wp2
          go_roundw
          case rel => exact ⟨j + 1, by omega, by go_num, by rw [HX.out]; exact AL.out, BL.out⟩
          case measure => simp [intOf]; omega
        . have HX := hidden (UP.out rfl)
          clear UP DN
          go_wp2
          go_roundw
          case rel => exact ⟨j + 1, by omega, by go_num, by rw [HX.out]; exact AQ.out, BQ.out⟩
          case measure => simp [intOf]; omega
      . have ej : j = ms.length := by omega
        subst ej
        have R6 := R5.out.kept (hbt.block _ R5.out.lt (by omega))
        have HYES := hidden (fun ha => asm_yes (ms := ms) (id := id) HST.out HLN.out ha)
        have HNO := hidden (fun ha => asm_no2 (ms := ms) (id := id) HST.out ha)
        generalize asmX ms id (arr0 y) ms.length = X at hAt HYES HNO
        obtain ⟨vm, vd, cvm, cvd, Yf, mf, df, hrf, r1f, r2f⟩ := hAt
        have p0 := mf.rd
        have p1 := df.rd
        have Y0 := Yf
        unfold arrC at Y0
        simp only [List.length_nil] at Y0 p1 df
        obtain ⟨t0, t1, t2, t3, t4, t5, t6, t7, t8, t9, t10, t11, t12⟩ := Y0.cells13
        clear A5 R5
        go_wp2_with fail
        refine (implArrOk_any _ 108 73 99 X _ _ _ _ _ _ ms [] p0 p1 (by unfold wtArr; have : wtWrS [] = 0 := rfl; omega)).mono ?_
        rintro e w7 ⟨rfl, b7⟩
        have R7 := R6.below b7 R6.lt
        have B7 := Below.andThen hb b7
        have m7 := mf.below b7
        have d7 := df.below b7
        have Y7 := Y0.below b7 Y0.lt
        clear t0 t1 t2 t3 t4 t5 t6 t7 t8 t9 t10 t11 t12 R6 hb mf df Yf Y0 b7 p0 p1
        cases ha : arrB X ms []
        . have hq := HNO.out ha
          have HN := hidden (none_.out w7 B7 R7 hq)
          obtain ⟨r0, r1, r2, r3, r4, r5, r6, r7, r8, r9, r10, r11, r12⟩ := R7.cells13
          have fzR := R7.frozen
          clear none_
          go_wp2
          refine bodyPost_ret (v := .tuple #[.agg #[.int .i64 0, .int .i64 0, .int .i64 0, .slice none 0 0, .int .i64 0, .int .i64 0, .int .i64 0, .int .i64 0, .int .i64 0, .slice none 0 0, .int .i64 0, .bool false, .bool false], .bool false]) (by simp [results, Try.results25, go_sem, r0, r1, r2, r3, r4, r5, r6, r7, r8, r9, r10, r11, r12]) rfl ?_
          exact HN.out
        . have hq := HYES.out ha
          have HO := hidden (arr_outB (y := X) (ns := ms) (ds := []) (vm := vm) (vd := vd) (cvm := cvm) (cvd := cvd) (code := true) (e := .returned (.tuple #[.agg (arrC X _ _), .bool true])) B7 R7 rfl m7 d7 hrf rm2 rd2 (by omega) (by omega))
          unfold arrC at HO
          simp only [puts, List.length_nil] at HO
          obtain ⟨r0, r1, r2, r3, r4, r5, r6, r7, r8, r9, r10, r11, r12⟩ := R7.cells13
          have fzR := R7.frozen
          obtain ⟨t0, t1, t2, t3, t4, t5, t6, t7, t8, t9, t10, t11, t12⟩ := Y7.cells13
          have HQ := hidden hq
          clear R7 B7 m7 d7 Y7 none_ HYES HNO hq
          go_wp2
          refine bodyPost_ret (v := .tuple #[.agg #[.int .i64 X.id, .int .i64 X.n, .int .i64 X.s, .slice vm ms.length cvm, .int .i64 X.lost, .int .i64 X.built, .int .i64 X.seq, .int .i64 X.tail, .int .i64 X.gen, .slice vd 0 cvd, .int .i64 X.fuse, .bool X.down, .bool X.broken], .bool true]) (by simp [results, Try.results25, go_sem, r0, r1, r2, r3, r4, r5, r6, r7, r8, r9, r10, r11, r12]) rfl ?_
          rw [HQ.out]; exact HO.out
   . have hne : ((ms.length : Int) != y.n) = true := by simp [hln]
     have HN := hidden (none_.out w2 B3.out R3.out (asm_no1 HST.out (fun h => hln h.2)))
     obtain ⟨r0, r1, r2, r3, r4, r5, r6, r7, r8, r9, r10, r11, r12⟩ := R3.out.cells13
     have fzR := R3.out.frozen
     clear none_
     go_wp2
     refine bodyPost_ret (v := .tuple #[.agg #[.int .i64 0, .int .i64 0, .int .i64 0, .slice none 0 0, .int .i64 0, .int .i64 0, .int .i64 0, .int .i64 0, .int .i64 0, .slice none 0 0, .int .i64 0, .bool false, .bool false], .bool false]) (by simp [results, Try.results25, go_sem, r0, r1, r2, r3, r4, r5, r6, r7, r8, r9, r10, r11, r12]) rfl ?_
     exact HN.out
 . have hfb : fb = false := by simpa using hfb
   subst hfb
   have HN := hidden (none_.out w2 B3.out R3.out (asm_no1 HST.out (fun h => by cases h.1)))
   obtain ⟨r0, r1, r2, r3, r4, r5, r6, r7, r8, r9, r10, r11, r12⟩ := R3.out.cells13
   have fzR := R3.out.frozen
   clear none_
   go_wp2
   refine bodyPost_ret (v := .tuple #[.agg #[.int .i64 0, .int .i64 0, .int .i64 0, .slice none 0 0, .int .i64 0, .int .i64 0, .int .i64 0, .int .i64 0, .int .i64 0, .slice none 0 0, .int .i64 0, .bool false, .bool false], .bool false]) (by simp [results, Try.results25, go_sem, r0, r1, r2, r3, r4, r5, r6, r7, r8, r9, r10, r11, r12]) rfl ?_
   exact HN.out

theorem l9Super_any (w : World) (E F : TypeId) (a : Option Addr) (n cap j : Nat) (ms : List MemD) (d : MemD) (id : Int) (h0 : (tMemS E F).Rd w [.slice a n cap] ms) (hw : wtMemS ms <= 2097152) (hd : ms[j]? = some d) :
 Calls Try.prog 55 #[.slice a n cap, .int .i64 (j : Int), .int .i64 id] w fun e w' => HereOut w w' e d id (j : Int) := by
 obtain ⟨hl, hc, hm⟩ := row_length h0
 have hjn : j < n := by rw [← hl]; exact (List.getElem?_eq_some_iff.1 hd).1
 have hn : n <= 2097152 := by unfold wtMemS at hw; omega
 have hin := Nat.le_trans (inner_leM hd) hw
 rcases quads_at rfl h0 with h0' | ⟨b, off, rfl, hbl, hcs⟩
 . omega
 obtain ⟨u0, u1, u2, u3, hv0, hv1, hv2, hv3, hrv⟩ := hcs j d hd
 obtain ⟨a0, c0, a1, c1, a3, c3, ss, cs, f, bs, rfl, rfl, rfl, rfl, rfl, r0, r1, r3⟩ := mem_at hrv
 have hA := new_below w (.cells #[.int .i64 0, .int .i64 0, .int .i64 0, .int .i64 0, .int .i64 0, .int .i64 0, .int .i64 0, .int .i64 0] 80)
 have R0 := Box.new w 80 #[.int .i64 0, .int .i64 0, .int .i64 0, .int .i64 0, .int .i64 0, .int .i64 0, .int .i64 0, .int .i64 0]
 have zR := R0.lt
 have pv0 := (hA.cell (p := ⟨b, off + j * 4, none⟩) hbl).trans hv0
 have pv1 := (hA.cell (p := ⟨b, off + j * 4 + 1, none⟩) hbl).trans hv1
 have pv2 := (hA.cell (p := ⟨b, off + j * 4 + 2, none⟩) hbl).trans hv2
 have pv3 := (hA.cell (p := ⟨b, off + j * 4 + 3, none⟩) hbl).trans hv3
 have p0 := r0.below hA
 have p1 := r1.below hA
 have p3 := r3.below hA
 have k1 : (0 : Int) <= (j : Int) := by omega
 have k2 : (j : Int) < (n : Int) := by omega
 clear hcs hv0 hv1 hv2 hv3 hrv r0 r1 r3 hd h0
 go_enter Try.func55, Try.ntmps55
 cases hf : f
 . subst hf
   go_wp2_with fail
   generalize w.alloc (.cells #[.int .i64 0, .int .i64 0, .int .i64 0, .int .i64 0, .int .i64 0, .int .i64 0, .int .i64 0, .int .i64 0] 80) = W at hA R0 zR p0 p1 p3 pv0 pv1 pv2 pv3 ⊢
   refine (specBestSuper_any _ E _ _ _ _ _ _ _ _ _ ss cs false bs id p0 p1 p3 hin).mono ?_
   rintro e w1 ⟨rfl, b1⟩
   have HB := hidden (show best1 (ss, cs, false, bs) id = bestSt ss cs false bs id 2 from rfl)
   generalize bestSt ss cs false bs id 2 = yf at HB ⊢
   obtain ⟨y, fb⟩ := yf
   dsimp only
   have R1 := R0.below b1 zR
   have B1 := Below.andThen hA b1
   have z1 := B1.size
   have z2 := R1.lt
   clear pv0 pv1 pv2 pv3 R0 hA b1 p0 p1 p3
   have X3 := Box.new w1 80 #[.int .i64 y.id, .int .i64 y.gen, .int .i64 y.role, .int .i64 y.n, .int .i64 y.s, .int .i64 y.tail, .int .i64 y.lost, .int .i64 y.built]
   have R3 := R1.alloc (.cells #[.int .i64 y.id, .int .i64 y.gen, .int .i64 y.role, .int .i64 y.n, .int .i64 y.s, .int .i64 y.tail, .int .i64 y.lost, .int .i64 y.built] 80)
   have B3 := hidden (B1.alloc z1 (.cells #[.int .i64 y.id, .int .i64 y.gen, .int .i64 y.role, .int .i64 y.n, .int .i64 y.s, .int .i64 y.tail, .int .i64 y.lost, .int .i64 y.built] 80))
   obtain ⟨x0, x1, x2, x3, x4, x5, x6, x7⟩ := X3.cells8
   obtain ⟨r0, r1, r2, r3, r4, r5, r6, r7⟩ := R3.cells8
   have fz := R3.frozen
   have hne : ¬ w.heap.size = w1.heap.size := by omega
   have hne2 : ¬ w1.heap.size = w.heap.size := by omega
   have HV := hidden (hereB_some (i := (j : Int)) HB.out)
   have HY := hidden ((Below.andBut B3.out (set8_but (w1.alloc (.cells #[.int .i64 y.id, .int .i64 y.gen, .int .i64 y.role, .int .i64 y.n, .int .i64 y.s, .int .i64 y.tail, .int .i64 y.lost, .int .i64 y.built] 80)) w.heap.size (.int .i64 y.id) (.int .i64 y.gen) (.int .i64 y.role) (.int .i64 y.n) (.int .i64 y.s) (.int .i64 y.tail) (.int .i64 y.lost) (.int .i64 y.built)) (by omega)).drew)
   have HX := hidden (X3.kept ((set8_but (w1.alloc (.cells #[.int .i64 y.id, .int .i64 y.gen, .int .i64 y.role, .int .i64 y.n, .int .i64 y.s, .int .i64 y.tail, .int .i64 y.lost, .int .i64 y.built] 80)) w.heap.size (.int .i64 y.id) (.int .i64 y.gen) (.int .i64 y.role) (.int .i64 y.n) (.int .i64 y.s) (.int .i64 y.tail) (.int .i64 y.lost) (.int .i64 y.built)).block _ X3.lt (by omega)))
   have HR := hidden (set8_box R3 (.int .i64 y.id) (.int .i64 y.gen) (.int .i64 y.role) (.int .i64 y.n) (.int .i64 y.s) (.int .i64 y.tail) (.int .i64 y.lost) (.int .i64 y.built))
   unfold set8 at HY HX HR
   have mk : Hid (∀ w', Box w' w1.heap.size 80 #[.int .i64 y.id, .int .i64 y.gen, .int .i64 y.role, .int .i64 y.n, .int .i64 y.s, .int .i64 y.tail, .int .i64 y.lost, .int .i64 y.built] -> w'.cell? ⟨w1.heap.size, 0, none⟩ = some (.int .i64 y.id) /\ w'.cell? ⟨w1.heap.size, 1, none⟩ = some (.int .i64 y.gen) /\ w'.cell? ⟨w1.heap.size, 2, none⟩ = some (.int .i64 y.role) /\ w'.cell? ⟨w1.heap.size, 3, none⟩ = some (.int .i64 y.n) /\ w'.cell? ⟨w1.heap.size, 4, none⟩ = some (.int .i64 y.s) /\ w'.cell? ⟨w1.heap.size, 5, none⟩ = some (.int .i64 y.tail) /\ w'.cell? ⟨w1.heap.size, 6, none⟩ = some (.int .i64 y.lost) /\ w'.cell? ⟨w1.heap.size, 7, none⟩ = some (.int .i64 y.built)) := fun w' h => h.cells8
   clear X3 R3 B3 R1 B1
   have fin : Hid (∀ (q : Bool), q = hereB (ss, cs, false, bs) id (j : Int) -> ∀ W', Below w.heap.size w W' -> HereOut w W' (.returned (.tuple #[.agg #[.int .i64 y.id, .int .i64 y.gen, .int .i64 y.role, .int .i64 y.n, .int .i64 y.s, .int .i64 y.tail, .int .i64 y.lost, .int .i64 y.built], .bool q])) (ss, cs, false, bs) id (j : Int)) := fun q hq W' hW => ⟨y, by rw [hq], fun _ => by rw [HB.out], hW⟩
   by_cases hfb : fb = true
   . subst hfb
     have HT := hidden (fin.out (y.role == (j : Int)) (by rw [HV.out, Bool.true_and]; rfl))
     clear fin
     go_upto_region 4 with fail
     generalize w1.alloc (.cells #[.int .i64 y.id, .int .i64 y.gen, .int .i64 y.role, .int .i64 y.n, .int .i64 y.s, .int .i64 y.tail, .int .i64 y.lost, .int .i64 y.built] 80) = w2 at HY HX HR x0 x1 x2 x3 x4 x5 x6 x7 r0 r1 r2 r3 r4 r5 r6 r7 fz ⊢
     obtain ⟨RB, hRB⟩ : ∃ RB, w.heap.size = RB := ⟨_, rfl⟩
     rw [hRB] at HY HX HR r0 r1 r2 r3 r4 r5 r6 r7 fz hne hne2 ⊢
     have HRB := hidden hRB
     clear hRB
     obtain ⟨XB, hXB⟩ : ∃ XB, w1.heap.size = XB := ⟨_, rfl⟩
     rw [hXB] at HX mk x0 x1 x2 x3 x4 x5 x6 x7 hne hne2 ⊢
     clear hXB z1 z2
     refine wp_region_held_drew (S := fun w' => w'.cell? ⟨XB, 0, none⟩ = some (.int .i64 y.id) /\ w'.cell? ⟨XB, 1, none⟩ = some (.int .i64 y.gen) /\ w'.cell? ⟨XB, 2, none⟩ = some (.int .i64 y.role) /\ w'.cell? ⟨XB, 3, none⟩ = some (.int .i64 y.n) /\ w'.cell? ⟨XB, 4, none⟩ = some (.int .i64 y.s) /\ w'.cell? ⟨XB, 5, none⟩ = some (.int .i64 y.tail) /\ w'.cell? ⟨XB, 6, none⟩ = some (.int .i64 y.lost) /\ w'.cell? ⟨XB, 7, none⟩ = some (.int .i64 y.built)) (by kernel_rfl) ?_ (fun hHeld => ?_)
     . exact ⟨x0, x1, x2, x3, x4, x5, x6, x7⟩
     refine held_t 0 hHeld ?_
     refine held_t 1 hHeld ?_
     refine held_t 2 hHeld ?_
     refine held_t 3 hHeld ?_
     refine held_t 4 hHeld ?_
     refine held_t 5 hHeld ?_
     refine held_t 6 hHeld ?_
     refine held_t 7 hHeld ?_
     refine held_one (i := 8) (by kernel_rfl) rfl (by kernel_rfl) (fun K hK => ?_)
     go_simp
     clear hHeld
     generalize ((((((((w2).setCell ⟨RB, 0, none⟩ (.int .i64 y.id)).setCell ⟨RB, 1, none⟩ (.int .i64 y.gen)).setCell ⟨RB, 2, none⟩ (.int .i64 y.role)).setCell ⟨RB, 3, none⟩ (.int .i64 y.n)).setCell ⟨RB, 4, none⟩ (.int .i64 y.s)).setCell ⟨RB, 5, none⟩ (.int .i64 y.tail)).setCell ⟨RB, 6, none⟩ (.int .i64 y.lost)).setCell ⟨RB, 7, none⟩ (.int .i64 y.built) = w3 at HX HY HR ⊢
     refine hK.out _ _ ?_ (fun hHeld => ?_)
     . exact mk.out w3.drew HX.out
     clear hK K
     refine held_t 9 hHeld ?_
     refine wpAnyH_done (by kernel_rfl) ?_ _
     clear hHeld r0 r1 r2 r3 r4 r5 r6 r7
     obtain ⟨r0, r1, r2, r3, r4, r5, r6, r7⟩ := HR.out.cells8
     go_wp2
     refine bodyPost_ret (v := .tuple #[.agg #[.int .i64 y.id, .int .i64 y.gen, .int .i64 y.role, .int .i64 y.n, .int .i64 y.s, .int .i64 y.tail, .int .i64 y.lost, .int .i64 y.built], .bool (y.role == (j : Int))]) (by simp [results, Try.results55, go_sem, r0, r1, r2, r3, r4, r5, r6, r7]) rfl ?_
     exact HT.out _ (by rw [HRB.out]; exact HY.out)
   . have hfb : fb = false := by simpa using hfb
     subst hfb
     have HT := hidden (fin.out false (by rw [HV.out]; rfl))
     clear fin
     go_upto_region 4 with fail
     generalize w1.alloc (.cells #[.int .i64 y.id, .int .i64 y.gen, .int .i64 y.role, .int .i64 y.n, .int .i64 y.s, .int .i64 y.tail, .int .i64 y.lost, .int .i64 y.built] 80) = w2 at HY HX HR x0 x1 x2 x3 x4 x5 x6 x7 r0 r1 r2 r3 r4 r5 r6 r7 fz ⊢
     obtain ⟨RB, hRB⟩ : ∃ RB, w.heap.size = RB := ⟨_, rfl⟩
     rw [hRB] at HY HX HR r0 r1 r2 r3 r4 r5 r6 r7 fz hne hne2 ⊢
     have HRB := hidden hRB
     clear hRB
     obtain ⟨XB, hXB⟩ : ∃ XB, w1.heap.size = XB := ⟨_, rfl⟩
     rw [hXB] at HX mk x0 x1 x2 x3 x4 x5 x6 x7 hne hne2 ⊢
     clear hXB z1 z2
     refine wp_region_held_drew (S := fun w' => w'.cell? ⟨XB, 0, none⟩ = some (.int .i64 y.id) /\ w'.cell? ⟨XB, 1, none⟩ = some (.int .i64 y.gen) /\ w'.cell? ⟨XB, 2, none⟩ = some (.int .i64 y.role) /\ w'.cell? ⟨XB, 3, none⟩ = some (.int .i64 y.n) /\ w'.cell? ⟨XB, 4, none⟩ = some (.int .i64 y.s) /\ w'.cell? ⟨XB, 5, none⟩ = some (.int .i64 y.tail) /\ w'.cell? ⟨XB, 6, none⟩ = some (.int .i64 y.lost) /\ w'.cell? ⟨XB, 7, none⟩ = some (.int .i64 y.built)) (by kernel_rfl) ?_ (fun hHeld => ?_)
     . exact ⟨x0, x1, x2, x3, x4, x5, x6, x7⟩
     refine held_t 0 hHeld ?_
     refine held_t 1 hHeld ?_
     refine held_t 2 hHeld ?_
     refine held_p 3 hHeld ?_
     refine held_p 4 hHeld ?_
     refine held_p 5 hHeld ?_
     refine held_p 6 hHeld ?_
     refine held_t 7 hHeld ?_
     refine held_one (i := 8) (by kernel_rfl) rfl (by kernel_rfl) (fun K hK => ?_)
     go_simp
     clear hHeld
     generalize ((((((((w2).setCell ⟨RB, 0, none⟩ (.int .i64 y.id)).setCell ⟨RB, 1, none⟩ (.int .i64 y.gen)).setCell ⟨RB, 2, none⟩ (.int .i64 y.role)).setCell ⟨RB, 3, none⟩ (.int .i64 y.n)).setCell ⟨RB, 4, none⟩ (.int .i64 y.s)).setCell ⟨RB, 5, none⟩ (.int .i64 y.tail)).setCell ⟨RB, 6, none⟩ (.int .i64 y.lost)).setCell ⟨RB, 7, none⟩ (.int .i64 y.built) = w3 at HX HY HR ⊢
     refine hK.out _ _ ?_ (fun hHeld => ?_)
     . exact mk.out w3.drew HX.out
     clear hK K
     refine held_t 9 hHeld ?_
     refine wpAnyH_done (by kernel_rfl) ?_ _
     clear hHeld r0 r1 r2 r3 r4 r5 r6 r7
     obtain ⟨r0, r1, r2, r3, r4, r5, r6, r7⟩ := HR.out.cells8
     go_wp2
     refine bodyPost_ret (v := .tuple #[.agg #[.int .i64 y.id, .int .i64 y.gen, .int .i64 y.role, .int .i64 y.n, .int .i64 y.s, .int .i64 y.tail, .int .i64 y.lost, .int .i64 y.built], .bool false]) (by simp [results, Try.results55, go_sem, r0, r1, r2, r3, r4, r5, r6, r7]) rfl ?_
     exact HT.out _ (by rw [HRB.out]; exact HY.out)
 . subst hf
   have HT : Hid (hereB (ss, cs, true, bs) id (j : Int) = false) := by unfold Hid; rw [hereB_some (d := (ss, cs, true, bs)) (y := supZ) (fb := false) (best_failed 2)]; rfl
   obtain ⟨r0, r1, r2, r3, r4, r5, r6, r7⟩ := R0.cells8
   have fz := R0.frozen
   have HZ := hidden (Below.andBut hA (set8_but (w.alloc (.cells #[.int .i64 0, .int .i64 0, .int .i64 0, .int .i64 0, .int .i64 0, .int .i64 0, .int .i64 0, .int .i64 0] 80)) w.heap.size (.int .i64 0) (.int .i64 0) (.int .i64 0) (.int .i64 0) (.int .i64 0) (.int .i64 0) (.int .i64 0) (.int .i64 0)) (Nat.le_refl _))
   unfold set8 at HZ
   clear R0 hA p0 p1 p3
   go_upto_region 2 with fail
   generalize w.alloc (.cells #[.int .i64 0, .int .i64 0, .int .i64 0, .int .i64 0, .int .i64 0, .int .i64 0, .int .i64 0, .int .i64 0] 80) = W at HZ zR r0 r1 r2 r3 r4 r5 r6 r7 fz pv0 pv1 pv2 pv3 ⊢
   go_wp2
   refine bodyPost_ret (v := .tuple #[.agg #[.int .i64 0, .int .i64 0, .int .i64 0, .int .i64 0, .int .i64 0, .int .i64 0, .int .i64 0, .int .i64 0], .bool false]) (by simp [results, Try.results55, go_sem, r0, r1, r2, r3, r4, r5, r6, r7]) rfl ?_
   exact ⟨supZ, by rw [HT.out]; rfl, (fun h => by rw [HT.out] at h; cases h), HZ.out⟩

theorem l9Best_any (w : World) (E F : TypeId) (a : Option Addr) (n cap : Nat) (ms : List MemD) (id : Int) (h0 : (tMemS E F).Rd w [.slice a n cap] ms) (hw : wtMemS ms <= 2097152) :
 Calls Try.prog 53 #[.slice a n cap, .int .i64 id] w fun e w' => NewOut w w' e ms id := by
 obtain ⟨hl, hc, hm⟩ := row_length h0
 have hn : n <= 2097152 := by unfold wtMemS at hw; omega
 have hA := (new_below w (.cells #[.int .i64 0, .int .i64 0, .int .i64 0, .int .i64 0, .int .i64 0, .int .i64 0, .int .i64 0, .int .i64 0] 80)).alloc (by simp) (.cells #[.int .i64 0, .int .i64 0, .int .i64 0, .int .i64 0, .int .i64 0, .int .i64 0, .int .i64 0, .int .i64 0] 80)
 have R0 := (Box.new w 80 #[.int .i64 0, .int .i64 0, .int .i64 0, .int .i64 0, .int .i64 0, .int .i64 0, .int .i64 0, .int .i64 0]).alloc (.cells #[.int .i64 0, .int .i64 0, .int .i64 0, .int .i64 0, .int .i64 0, .int .i64 0, .int .i64 0, .int .i64 0] 80)
 have T0 := Box.new (w.alloc (.cells #[.int .i64 0, .int .i64 0, .int .i64 0, .int .i64 0, .int .i64 0, .int .i64 0, .int .i64 0, .int .i64 0] 80)) 80 #[.int .i64 0, .int .i64 0, .int .i64 0, .int .i64 0, .int .i64 0, .int .i64 0, .int .i64 0, .int .i64 0]
 rw [World.size_alloc] at T0
 go_enter Try.func53, Try.ntmps53
 go_wp2
 generalize (w.alloc (.cells #[.int .i64 0, .int .i64 0, .int .i64 0, .int .i64 0, .int .i64 0, .int .i64 0, .int .i64 0, .int .i64 0] 80)).alloc (.cells #[.int .i64 0, .int .i64 0, .int .i64 0, .int .i64 0, .int .i64 0, .int .i64 0, .int .i64 0, .int .i64 0] 80) = W at hA R0 T0 ⊢
 obtain ⟨RB, hRB⟩ : ∃ RB, w.heap.size = RB := ⟨_, rfl⟩
 obtain ⟨TB, hTB⟩ : ∃ TB, w.heap.size + 1 = TB := ⟨_, rfl⟩
 rw [hTB] at T0 ⊢
 rw [hRB] at R0 ⊢
 have q1 : w.heap.size <= RB /\ RB < TB := by omega
 have HRB := hidden hRB
 clear hTB hRB
 go_loopw [7, 8] (fun fv i wr => ∃ (j : Nat) (y : Sup) (fb : Bool), j <= n /\ i = .int .i64 j /\ fv = .bool fb /\ newSt ms id j = (y, fb) /\ Box wr TB 80 #[.int .i64 y.id, .int .i64 y.gen, .int .i64 y.role, .int .i64 y.n, .int .i64 y.s, .int .i64 y.tail, .int .i64 y.lost, .int .i64 y.built] /\ Box wr RB 80 #[.int .i64 0, .int .i64 0, .int .i64 0, .int .i64 0, .int .i64 0, .int .i64 0, .int .i64 0, .int .i64 0] /\ Below w.heap.size w wr) (fun _ i _ => n - (intOf i).toNat)
 case atStart => exact ⟨0, supZ, false, by omega, rfl, rfl, rfl, T0, R0, hA⟩
 case round =>
  obtain ⟨j, y, fb, hj, rfl, rfl, hst, T1, R1, B1⟩ := hrel
  clear T0 R0 hA
  have HST := hidden hst
  have zR := R1.lt
  have zT := T1.lt
  have zw := B1.size
  clear hst
  by_cases hjn : j < n
  . have k2 : (j : Int) < (n : Int) := by omega
    have k1 : (0 : Int) <= (j : Int) := by omega
    have hdj : ms[j]? = some (ms[j]'(by omega)) := List.getElem?_eq_getElem (by omega)
    generalize ms[j]'(by omega) = d at hdj
    have HDJ := hidden hdj
    have T3p := hidden T1
    have R3p := hidden R1
    have B3p := hidden B1
    have r0 := h0.below B1
    clear T1 R1 B1
    go_wp2_with fail
    refine (l9Super_any _ E F _ _ _ j ms d id r0 hw hdj).mono ?_
    clear r0 hdj
    rintro e w1 ⟨x, rfl, hx, b1⟩
    have UP := hidden (fun h => new_up (ms := ms) (id := id) HDJ.out HST.out hx h)
    have DN := hidden (fun h => new_same (ms := ms) (id := id) HDJ.out HST.out hx h)
    clear hx
    generalize hereB d id (j : Int) = k at UP DN ⊢
    have T2 := T3p.out.below b1 (by omega)
    have R2 := R3p.out.below b1 (by omega)
    have B2 := Below.andThen B3p.out b1
    have z1 := b1.size
    clear T3p R3p B3p b1
    have T3 := T2.alloc (.cells #[.int .i64 x.id, .int .i64 x.gen, .int .i64 x.role, .int .i64 x.n, .int .i64 x.s, .int .i64 x.tail, .int .i64 x.lost, .int .i64 x.built] 80)
    have R3 := hidden (R2.alloc (.cells #[.int .i64 x.id, .int .i64 x.gen, .int .i64 x.role, .int .i64 x.n, .int .i64 x.s, .int .i64 x.tail, .int .i64 x.lost, .int .i64 x.built] 80))
    have B3 := hidden (B2.alloc B2.size (.cells #[.int .i64 x.id, .int .i64 x.gen, .int .i64 x.role, .int .i64 x.n, .int .i64 x.s, .int .i64 x.tail, .int .i64 x.lost, .int .i64 x.built] 80))
    have X3 := Box.new w1 80 #[.int .i64 x.id, .int .i64 x.gen, .int .i64 x.role, .int .i64 x.n, .int .i64 x.s, .int .i64 x.tail, .int .i64 x.lost, .int .i64 x.built]
    have zT1 := T2.lt
    obtain ⟨x0, x1, x2, x3, x4, x5, x6, x7⟩ := X3.cells8
    obtain ⟨t0, t1, t2, t3, t4, t5, t6, t7⟩ := T3.cells8
    have fz := T3.frozen
    have TT := hidden T3
    clear T2 R2 B2 X3 T3
    go_upto_region 7 with fail
    generalize w1.alloc (.cells #[.int .i64 x.id, .int .i64 x.gen, .int .i64 x.role, .int .i64 x.n, .int .i64 x.s, .int .i64 x.tail, .int .i64 x.lost, .int .i64 x.built] 80) = w2 at R3 B3 TT x0 x1 x2 x3 x4 x5 x6 x7 t0 t1 t2 t3 t4 t5 t6 t7 fz ⊢
    obtain ⟨XB, hXB⟩ : ∃ XB, w1.heap.size = XB := ⟨_, rfl⟩
    rw [hXB] at x0 x1 x2 x3 x4 x5 x6 x7 zT1 ⊢
    have hne : ¬ TB = XB := by omega
    have hne2 : ¬ XB = TB := by omega
    clear hXB
    by_cases hb : better k x y fb = true
    . have HN := hidden (UP.out hb)
      have hbt := set8_but w2 TB (.int .i64 x.id) (.int .i64 x.gen) (.int .i64 x.role) (.int .i64 x.n) (.int .i64 x.s) (.int .i64 x.tail) (.int .i64 x.lost) (.int .i64 x.built)
      have TF := hidden (set8_box TT.out (.int .i64 x.id) (.int .i64 x.gen) (.int .i64 x.role) (.int .i64 x.n) (.int .i64 x.s) (.int .i64 x.tail) (.int .i64 x.lost) (.int .i64 x.built))
      have RF := hidden (R3.out.kept (hbt.block _ (by have := R3.out.lt; omega) (by omega)))
      have BF := hidden (Below.andBut B3.out hbt (by omega))
      unfold set8 at TF RF BF
      clear hbt UP DN R3 B3 TT
      unfold better at hb
      simp only [Bool.and_eq_true, Bool.or_eq_true, Bool.not_eq_true', decide_eq_true_eq] at hb
      obtain ⟨hk, hc⟩ := hb
      subst hk
      by_cases hf : fb = true
      . subst hf
        have hc : y.gen < x.gen := by simpa using hc
        go_wp2
        go_roundw
        case rel => exact ⟨j + 1, x, true, by omega, by go_num, rfl, HN.out, TF.out, RF.out, BF.out⟩
        case measure => simp [intOf]; omega
      . have hf : fb = false := by simpa using hf
        subst hf
        clear hc
        go_wp2
        go_roundw
        case rel => exact ⟨j + 1, x, true, by omega, by go_num, rfl, HN.out, TF.out, RF.out, BF.out⟩
        case measure => simp [intOf]; omega
    . have hb' : better k x y fb = false := by simpa using hb
      have HN := hidden (DN.out hb')
      clear UP DN hb fz
      unfold better at hb'
      by_cases hk : k = true
      . subst hk
        by_cases hf : fb = true
        . subst hf
          have hc : ¬ y.gen < x.gen := by simpa using hb'
          clear hb'
          go_wp2
          go_roundw
          case rel => exact ⟨j + 1, y, true, by omega, by go_num, rfl, HN.out, TT.out, R3.out, B3.out⟩
          case measure => simp [intOf]; omega
        . have hf : fb = false := by simpa using hf
          subst hf
          simp at hb'
      . have hk : k = false := by simpa using hk
        subst hk
        clear hb'
        go_wp2
        go_roundw
        case rel => exact ⟨j + 1, y, fb, by omega, by go_num, rfl, HN.out, TT.out, R3.out, B3.out⟩
        case measure => simp [intOf]; omega
  . have e : j = n := by omega
    subst e
    obtain ⟨t0, t1, t2, t3, t4, t5, t6, t7⟩ := T1.cells8
    obtain ⟨r0, r1, r2, r3, r4, r5, r6, r7⟩ := R1.cells8
    have fz := R1.frozen
    have FB := hidden (Below.andBut B1 (set8_but wr RB (.int .i64 y.id) (.int .i64 y.gen) (.int .i64 y.role) (.int .i64 y.n) (.int .i64 y.s) (.int .i64 y.tail) (.int .i64 y.lost) (.int .i64 y.built)) (by omega))
    unfold set8 at FB
    have hne : ¬ TB = RB := by omega
    have hne2 : ¬ RB = TB := by omega
    clear T1 R1 B1
    go_wp2
    refine bodyPost_ret (v := .tuple #[.agg #[.int .i64 y.id, .int .i64 y.gen, .int .i64 y.role, .int .i64 y.n, .int .i64 y.s, .int .i64 y.tail, .int .i64 y.lost, .int .i64 y.built], .bool fb]) (by simp [results, Try.results53, go_sem, r0, r1, r2, r3, r4, r5, r6, r7]) rfl ?_
    exact ⟨by rw [hl, HST.out], FB.out⟩

theorem Turned.belowN {N : Nat} {fp : List Nat} {w w' : World} (h : Turned fp w w') (hN : N <= w.heap.size) (hf : ∀ b ∈ fp, N <= b) : Below N w w' :=
 ⟨h.os, h.tape, h.output, h.size, fun k hk => h.block k (by omega) (fun hm => by have := hf k hm; omega)⟩

theorem specAssemble_any (w : World) (E F : TypeId) (a : Option Addr) (n cap : Nat) (ms : List MemD) (id : Int) (h0 : (tMemS E F).Rd w [.slice a n cap] ms) (hw : wtMemS ms <= 2097152) :
 Calls Try.prog 24 #[.slice a n cap, .int .i64 id] w fun e w' => ArrOutB w w' e (asmQ ms id).1 (asmQ ms id).2 [] := by
 obtain ⟨rfl, hc, hm⟩ := row_length h0
 have hn : ms.length <= 2097152 := by unfold wtMemS at hw; omega
 have hA := new_below w (.cells #[.int .i64 0, .int .i64 0, .int .i64 0, .slice none 0 0, .int .i64 0, .int .i64 0, .int .i64 0, .int .i64 0, .int .i64 0, .slice none 0 0, .int .i64 0, .bool false, .bool false] 33)
 have R0 := Box.new w 33 #[.int .i64 0, .int .i64 0, .int .i64 0, .slice none 0 0, .int .i64 0, .int .i64 0, .int .i64 0, .int .i64 0, .int .i64 0, .slice none 0 0, .int .i64 0, .bool false, .bool false]
 have zR := R0.lt
 go_enter Try.func24, Try.ntmps24
 go_wp2_with fail
 generalize w.alloc (.cells #[.int .i64 0, .int .i64 0, .int .i64 0, .slice none 0 0, .int .i64 0, .int .i64 0, .int .i64 0, .int .i64 0, .int .i64 0, .slice none 0 0, .int .i64 0, .bool false, .bool false] 33) = W at hA R0 zR ⊢
 refine (l9Best_any _ E F _ _ _ ms id (h0.below hA) hw).mono ?_
 rintro e w1 ⟨rfl, b1⟩
 have R1 := R0.below b1 zR
 have B1 := Below.andThen hA b1
 have z1 := B1.size
 have zR1 := R1.lt
 have HID := hidden (new_id (ms := ms) (id := id) ms.length)
 generalize hST : newSt ms id ms.length = yf at HID ⊢
 have HST := hidden hST
 obtain ⟨y, fb⟩ := yf
 dsimp only
 clear hST R0 hA b1
 have S3 := Box.new w1 80 #[.int .i64 y.id, .int .i64 y.gen, .int .i64 y.role, .int .i64 y.n, .int .i64 y.s, .int .i64 y.tail, .int .i64 y.lost, .int .i64 y.built]
 have R3 := hidden (R1.alloc (.cells #[.int .i64 y.id, .int .i64 y.gen, .int .i64 y.role, .int .i64 y.n, .int .i64 y.s, .int .i64 y.tail, .int .i64 y.lost, .int .i64 y.built] 80))
 have B3 := hidden (B1.alloc z1 (.cells #[.int .i64 y.id, .int .i64 y.gen, .int .i64 y.role, .int .i64 y.n, .int .i64 y.s, .int .i64 y.tail, .int .i64 y.lost, .int .i64 y.built] 80))
 obtain ⟨x0, x1, x2, x3, x4, x5, x6, x7⟩ := S3.cells8
 have HS3 := hidden S3
 have hz2 : (w1.alloc (.cells #[.int .i64 y.id, .int .i64 y.gen, .int .i64 y.role, .int .i64 y.n, .int .i64 y.s, .int .i64 y.tail, .int .i64 y.lost, .int .i64 y.built] 80)).heap.size = w1.heap.size + 1 := by simp
 clear R1 B1 S3
 go_upto_region 2 with fail
 generalize w1.alloc (.cells #[.int .i64 y.id, .int .i64 y.gen, .int .i64 y.role, .int .i64 y.n, .int .i64 y.s, .int .i64 y.tail, .int .i64 y.lost, .int .i64 y.built] 80) = w2 at R3 B3 HS3 hz2 x0 x1 x2 x3 x4 x5 x6 x7 ⊢
 obtain ⟨SB, hSB⟩ : ∃ SB, w1.heap.size = SB := ⟨_, rfl⟩
 rw [hSB] at HS3 x0 x1 x2 x3 x4 x5 x6 x7 hz2 z1 zR1 ⊢
 obtain ⟨RB, hRB⟩ : ∃ RB, w.heap.size = RB := ⟨_, rfl⟩
 have q1 : w.heap.size <= RB /\ RB < SB := by omega
 rw [hRB] at R3 ⊢
 have HRB := hidden hRB
 clear hSB hRB
 have zS2 : SB + 1 <= w2.heap.size := by omega
 have zR2 := R3.out.lt
 clear hz2
 have none_ : Hid (∀ w4, Below w.heap.size w w4 -> Box w4 RB 33 #[.int .i64 0, .int .i64 0, .int .i64 0, .slice none 0 0, .int .i64 0, .int .i64 0, .int .i64 0, .int .i64 0, .int .i64 0, .slice none 0 0, .int .i64 0, .bool false, .bool false] -> asmQ ms id = ((arrZ, []), false) -> ArrOutB w (puts w4 RB [(0, .int .i64 0), (1, .int .i64 0), (2, .int .i64 0), (3, .slice none 0 0), (4, .int .i64 0), (5, .int .i64 0), (6, .int .i64 0), (7, .int .i64 0), (8, .int .i64 0), (9, .slice none 0 0), (10, .int .i64 0), (11, .bool false), (12, .bool false)]) (.returned (.tuple #[.agg #[.int .i64 0, .int .i64 0, .int .i64 0, .slice none 0 0, .int .i64 0, .int .i64 0, .int .i64 0, .int .i64 0, .int .i64 0, .slice none 0 0, .int .i64 0, .bool false, .bool false], .bool false])) (asmQ ms id).1 (asmQ ms id).2 []) := fun w4 hb hr hq => by
  rw [hq]
  exact arr_outB (y := arrZ) (ns := []) (ds := []) (vm := none) (vd := none) (cvm := 0) (cvd := 0) (lo := RB + 1) hb hr rfl (nil_mine _) (nil_mine _) (by simp) (by simp) (by simp) (by omega) (by omega)
 simp only [puts] at none_
 by_cases hfb : fb = true
 . subst hfb
   by_cases hln : (ms.length : Int) = y.n
   . have hdl : decide ((ms.length : Int) = y.n) = true := decide_eq_true hln
     have HLN := hidden hln
     have hne : ((ms.length : Int) != y.n) = false := by simp [hln]
     clear hln
     have hid : y.id = id := HID.out rfl
     have Y := Box.new w2 33 #[.int .i64 id, .int .i64 y.n, .int .i64 y.s, .slice none 0 0, .int .i64 y.lost, .int .i64 y.built, .int .i64 y.tail, .int .i64 y.tail, .int .i64 y.gen, .slice none 0 0, .int .i64 (-1), .bool false, .bool false]
     have R5 := hidden (R3.out.alloc (.cells #[.int .i64 id, .int .i64 y.n, .int .i64 y.s, .slice none 0 0, .int .i64 y.lost, .int .i64 y.built, .int .i64 y.tail, .int .i64 y.tail, .int .i64 y.gen, .slice none 0 0, .int .i64 (-1), .bool false, .bool false] 33))
     have B5 := hidden (B3.out.alloc B3.out.size (.cells #[.int .i64 id, .int .i64 y.n, .int .i64 y.s, .slice none 0 0, .int .i64 y.lost, .int .i64 y.built, .int .i64 y.tail, .int .i64 y.tail, .int .i64 y.gen, .slice none 0 0, .int .i64 (-1), .bool false, .bool false] 33))
     have zY := Y.lt
     have hz5 : (w2.alloc (.cells #[.int .i64 id, .int .i64 y.n, .int .i64 y.s, .slice none 0 0, .int .i64 y.lost, .int .i64 y.built, .int .i64 y.tail, .int .i64 y.tail, .int .i64 y.gen, .slice none 0 0, .int .i64 (-1), .bool false, .bool false] 33)).heap.size = w2.heap.size + 1 := by simp
     have Y5 : Hid (Box (w2.alloc (.cells #[.int .i64 id, .int .i64 y.n, .int .i64 y.s, .slice none 0 0, .int .i64 y.lost, .int .i64 y.built, .int .i64 y.tail, .int .i64 y.tail, .int .i64 y.gen, .slice none 0 0, .int .i64 (-1), .bool false, .bool false] 33)) w2.heap.size 33 (arrC (arr0 y) (.slice none 0 0) (.slice none 0 0))) := by unfold Hid arrC arr0; rw [hid]; exact Y
     clear Y R3 B3 HS3
     go_upto_region 5 with fail
     generalize w2.alloc (.cells #[.int .i64 id, .int .i64 y.n, .int .i64 y.s, .slice none 0 0, .int .i64 y.lost, .int .i64 y.built, .int .i64 y.tail, .int .i64 y.tail, .int .i64 y.gen, .slice none 0 0, .int .i64 (-1), .bool false, .bool false] 33) = w5 at Y5 R5 B5 zY hz5 ⊢
     obtain ⟨AB, hAB⟩ : ∃ AB, w2.heap.size = AB := ⟨_, rfl⟩
     rw [hAB] at Y5 zY hz5 zS2 zR2 ⊢
     obtain ⟨LB, hLB⟩ : ∃ LB, AB + 1 = LB := ⟨_, rfl⟩
     rw [hLB] at hz5
     have q2 : RB < AB /\ AB < LB /\ LB <= w5.heap.size /\ w5.heap.size <= LB := by omega
     clear hAB hLB hz5 x0 x1 x2 x3 x4 x5 x6 x7
     obtain ⟨i4, hi4, hz0, hz1, hz2⟩ := info_parts Try.infoMem
     go_wp2
     go_loopw [9] (fun i wr => ∃ (j : Nat) (v0 : Value) (fp0 : List Nat), j <= ms.length /\ i = .int .i64 j /\ Fr LB AB w5 wr /\ Box wr AB 33 (arrC (asmX ms id (arr0 y) j) v0 (.slice none 0 0)) /\ (tMemS 108 73).Mine wr [v0] (ms.take j) fp0 /\ (∀ b ∈ fp0, LB <= b)) (fun i _ => ms.length - (intOf i).toNat)
     case atStart => exact ⟨0, _, [], Nat.zero_le _, rfl, Fr.refl _ _ _, Y5.out, nil_mine _, by simp⟩
     case round =>
      obtain ⟨j, v0, fp0, hj, rfl, fr, xo, hm, hfp⟩ := hrel
      have hs := fr.size
      have hb := B5.out.trans (fr.below (M := w.heap.size) (by omega) (by omega))
      by_cases hjn : j < ms.length
      . rcases quads_at rfl h0 with h0' | ⟨b, off, rfl, hbl, hcs⟩
        . omega
        have hdj : ms[j]? = some (ms[j]'(by omega)) := List.getElem?_eq_getElem (by omega)
        have htk : ms.take (j + 1) = ms.take j ++ [ms[j]'(by omega)] := List.take_succ_eq_append_getElem (by omega)
        have UP := hidden (fun h => asm_here (id := id) (x := arr0 y) hdj h)
        have DN := hidden (fun h => asm_lose (id := id) (x := arr0 y) hdj h)
        generalize ms[j]'(by omega) = d at hdj UP DN htk
        generalize asmX ms id (arr0 y) j = X at xo UP DN
        have hin := Nat.le_trans (inner_leM hdj) hw
        obtain ⟨u0, u1, u2, u3, hv0, hv1, hv2, hv3, hrv⟩ := hcs j d hdj
        obtain ⟨a0, c0, a1, c1, a3, c3, ss, cs, f, bs, rfl, rfl, rfl, rfl, rfl, r0, r1, r3⟩ := mem_at hrv
        have R0' := hidden (r0.below hb)
        have R1' := hidden (r1.below hb)
        have R3' := hidden (r3.below hb)
        have k1 : (0 : Int) <= (j : Int) := by omega
        have k2 : (j : Int) < (ms.length : Int) := by omega
        have HTK := hidden htk
        have HDJ := hidden hdj
        have FRR := hidden fr
        have HM := hidden hm
        have HFP := hidden hfp
        have XO := hidden xo
        have HB := hidden hb
        have HL : Hid ((ms.take j).length = j) := by unfold Hid; rw [List.length_take]; omega
        have L1 : Hid ((ms.take j).length + 1 <= maxLen) := by unfold Hid; rw [HL.out]; unfold maxLen; omega
        have L2 : Hid (((ms.take j).length + 1) * 80 <= 140737488355328) := by unfold Hid; rw [HL.out]; omega
        have mk : Hid (∀ w' : World, Box w' AB 33 (arrC X v0 (.slice none 0 0)) -> w'.heap[b]? = w.heap[b]? -> w'.cell? ⟨AB, 3, none⟩ = some v0 /\ w'.cell? ⟨b, off + j * 4, none⟩ = some (.slice a0 ss.length c0) /\ w'.cell? ⟨b, off + j * 4 + 1, none⟩ = some (.slice a1 cs.length c1) /\ w'.cell? ⟨b, off + j * 4 + 2, none⟩ = some (.bool f) /\ w'.cell? ⟨b, off + j * 4 + 3, none⟩ = some (.slice a3 bs.length c3)) := fun w' h1 h2 => ⟨h1.cell 3, (World.cell?_of_block h2).trans hv0, (World.cell?_of_block h2).trans hv1, (World.cell?_of_block h2).trans hv2, (World.cell?_of_block h2).trans hv3⟩
        have hS : wr.drew.cell? ⟨AB, 3, none⟩ = some v0 /\ wr.drew.cell? ⟨b, off + j * 4, none⟩ = some (.slice a0 ss.length c0) /\ wr.drew.cell? ⟨b, off + j * 4 + 1, none⟩ = some (.slice a1 cs.length c1) /\ wr.drew.cell? ⟨b, off + j * 4 + 2, none⟩ = some (.bool f) /\ wr.drew.cell? ⟨b, off + j * 4 + 3, none⟩ = some (.slice a3 bs.length c3) := mk.out wr.drew xo (hb.block b hbl)
        have zAr := xo.lt
        clear hcs hdj hv0 hv1 hv2 hv3 hrv htk xo hm hfp hb fr r0 r1 r3
        go_wp2_with fail
        refine Upto.start (S := fun w' => w'.cell? ⟨AB, 3, none⟩ = some v0 /\ w'.cell? ⟨b, off + j * 4, none⟩ = some (.slice a0 ss.length c0) /\ w'.cell? ⟨b, off + j * 4 + 1, none⟩ = some (.slice a1 cs.length c1) /\ w'.cell? ⟨b, off + j * 4 + 2, none⟩ = some (.bool f) /\ w'.cell? ⟨b, off + j * 4 + 3, none⟩ = some (.slice a3 bs.length c3)) (k := 10) (by kernel_rfl) ?_
        refine Upto.t 0 hS ?_
        refine Upto.t 1 hS ?_
        refine Upto.t 2 hS ?_
        refine Upto.t 3 hS ?_
        refine Upto.t 4 hS ?_
        refine Upto.t 5 hS ?_
        refine Upto.one (i := 6) (by kernel_rfl) rfl (fun K hK => ?_)
        go_simp
        refine (l2Copy_any _ E _ _ _ _ _ _ _ _ _ ss cs f bs R0'.out.drew R1'.out.drew R3'.out.drew hin).mono ?_
        rintro e wc ⟨y0, y1, y3, m1, m2, rfl, o3, o0, o1, hm12, hm01, hm22, bc⟩
        have hbc' : Below wr.heap.size wr wc := (Below.refl wr.heap.size wr).drew.trans bc
        have hm01' : wr.heap.size <= m1 := hm01
        have om : (tMem 108).Own wc wr.heap.size wc.heap.size [y0, y1, .bool f, y3] (ss, cs, f, bs) := mem_own3 o0 o1 o3 (.inl (Nat.le_refl _)) (.inr (Nat.le_refl _)) (.inr hm12) ⟨by omega, by omega⟩ ⟨by omega, Nat.le_refl _⟩ ⟨Nat.le_refl _, by omega⟩
        obtain ⟨e0, g0, rfl⟩ := row_shape o0.rd
        obtain ⟨e1, g1, rfl⟩ := row_shape o1.rd
        obtain ⟨e3, g3, rfl⟩ := row_shape o3.rd
        obtain ⟨fpx, mx, rx⟩ := om.mine
        have xoc := XO.out.below hbc' zAr
        have HBc := hidden (Below.andThen HB.out hbc')
        have zc := HBc.out.size
        have hS3 : wc.cell? ⟨AB, 3, none⟩ = some v0 /\ wc.cell? ⟨b, off + j * 4, none⟩ = some (.slice a0 ss.length c0) /\ wc.cell? ⟨b, off + j * 4 + 1, none⟩ = some (.slice a1 cs.length c1) /\ wc.cell? ⟨b, off + j * 4 + 2, none⟩ = some (.bool f) /\ wc.cell? ⟨b, off + j * 4 + 3, none⟩ = some (.slice a3 bs.length c3) := mk.out wc xoc (HBc.out.block b hbl)
        have hS4 : (wc.alloc (.cells #[.slice e0 ss.length g0, .slice e1 cs.length g1, .bool f, .slice e3 bs.length g3] 73)).cell? ⟨AB, 3, none⟩ = some v0 /\ (wc.alloc (.cells #[.slice e0 ss.length g0, .slice e1 cs.length g1, .bool f, .slice e3 bs.length g3] 73)).cell? ⟨b, off + j * 4, none⟩ = some (.slice a0 ss.length c0) /\ (wc.alloc (.cells #[.slice e0 ss.length g0, .slice e1 cs.length g1, .bool f, .slice e3 bs.length g3] 73)).cell? ⟨b, off + j * 4 + 1, none⟩ = some (.slice a1 cs.length c1) /\ (wc.alloc (.cells #[.slice e0 ss.length g0, .slice e1 cs.length g1, .bool f, .slice e3 bs.length g3] 73)).cell? ⟨b, off + j * 4 + 2, none⟩ = some (.bool f) /\ (wc.alloc (.cells #[.slice e0 ss.length g0, .slice e1 cs.length g1, .bool f, .slice e3 bs.length g3] 73)).cell? ⟨b, off + j * 4 + 3, none⟩ = some (.slice a3 bs.length c3) := mk.out _ (xoc.alloc _) ((HBc.out.alloc zc _).block b hbl)
        have XOC := hidden xoc
        have MX := hidden mx
        have RX := hidden rx
        have HBC := hidden hbc'
        clear xoc mx rx hbc' bc om o0 o1 o3 hm01 hm01' hm12 hm22 R0' R1' R3'
        go_wp2_with fail
        refine hK.out _ _ (fun _ => hS3) ?_
        clear hK K
        refine Upto.one (i := 7) (by kernel_rfl) rfl (fun K hK => ?_)
        go_simp
        refine hK.out _ _ (fun _ => hS4) ?_
        clear hK K
        refine Upto.one (i := 8) (by kernel_rfl) rfl (fun K hK => ?_)
        refine step_appT (tMem 108) (by rfl) _ _ 30 (by rfl) 73 i4 (.agg #[.slice none 0 0, .slice none 0 0, .bool false, .slice none 0 0]) 80 Try.underlying30 hi4 hz0 hz1 hz2 rfl (by decide) v0 (ms.take j) fp0 (by rfl) ?_ ⟨wc.heap.size, 0, none⟩ 1 [.slice e0 ss.length g0, .slice e1 cs.length g1, .bool f, .slice e3 bs.length g3] (ss, cs, f, bs) fpx (by rfl) ?_ ?_ ?_ ?_ L1.out L2.out ?_
        . exact (HM.out.below HBC.out).alloc _
        . exact MX.out.alloc _
        . intro b hb hb'
          have h1 := HM.out.lt b hb
          have h2 := RX.out b hb'
          omega
        . exact news_new _ _ _
        . intro u hu
          simp at hu
          rcases hu with hu | hu | hu | hu <;> (rw [hu]; rfl)
        intro g cap wA fpA m1 m2 m3
        rw [HL.out] at m1 ⊢
        rw [← HTK.out] at m1
        have ya := (XOC.out.alloc (.cells #[.slice e0 ss.length g0, .slice e1 cs.length g1, .bool f, .slice e3 bs.length g3] 73)).turned m3 (fun hm => by have := HFP.out _ hm; omega)
        have HBA := hidden ((HBc.out.alloc zc (.cells #[.slice e0 ss.length g0, .slice e1 cs.length g1, .bool f, .slice e3 bs.length g3] 73)).trans (m3.belowN (by simp; omega) (fun b hb => by have := HFP.out b hb; omega)))
        have hS5 : wA.cell? ⟨AB, 3, none⟩ = some v0 /\ wA.cell? ⟨b, off + j * 4, none⟩ = some (.slice a0 ss.length c0) /\ wA.cell? ⟨b, off + j * 4 + 1, none⟩ = some (.slice a1 cs.length c1) /\ wA.cell? ⟨b, off + j * 4 + 2, none⟩ = some (.bool f) /\ wA.cell? ⟨b, off + j * 4 + 3, none⟩ = some (.slice a3 bs.length c3) := mk.out wA ya (HBA.out.block b hbl)
        have c3 := hS5.1
        have fz := ya.frozen 3
        have YA := hidden ya
        have M1 := hidden m1
        have M2 := hidden m2
        have M3 := hidden m3
        clear ya m1 m2 m3
        refine hK.out _ _ (fun _ => hS5) ?_
        clear hK K
        simp only [Act.put, List.setIfInBounds_toArray, List.set_cons_zero, List.set_cons_succ]
        refine Upto.t 9 hS5 ?_
        refine Upto.one (i := 10) (by kernel_rfl) rfl (fun K hK => ?_)
        go_simp
        refine hK.out _ _ (fun h => absurd rfl h) ?_
        clear hK K
        refine Upto.done (by kernel_rfl) ?_ _
        have HFA := hidden (round_fp (N := LB) (by omega) HBC.out HFP.out RX.out M2.out)
        have FRA := hidden (Fr.round FRR.out (by omega) HBC.out _ M3.out HFP.out 3 (.slice (some ⟨g, 0, none⟩) (j + 1) cap))
        have MA := hidden (M1.out.setCell (g := AB) (j := 3) (fun hm => by have := HFA.out _ hm; omega) (.slice (some ⟨g, 0, none⟩) (j + 1) cap))
        have YA' : Hid (Box (wA.setCell ⟨AB, 3, none⟩ (.slice (some ⟨g, 0, none⟩) (j + 1) cap)) AB 33 (arrC X (.slice (some ⟨g, 0, none⟩) (j + 1) cap) (.slice none 0 0))) := YA.out.set 3 (.slice (some ⟨g, 0, none⟩) (j + 1) cap)
        clear hS hS3 hS4 hS5 c3 fz YA M1 M2 M3 XOC MX RX HBC HFP HM FRR XO mk HBc HBA HB zc zAr hs
        generalize wA.setCell ⟨AB, 3, none⟩ (.slice (some ⟨g, 0, none⟩) (j + 1) cap) = wB at FRA MA YA' ⊢
        have hb := B5.out.trans (FRA.out.below (M := w.heap.size) (by omega) (by omega))
        have zB := FRA.out.size
        have r0 := h0.below hb
        go_wp2_with fail
        refine (l9Super_any _ E F _ _ _ j ms _ id r0 hw HDJ.out).mono ?_
        rintro e wq ⟨t, rfl, _, bq⟩
        have nq := new_below wq (.cells #[.int .i64 t.id, .int .i64 t.gen, .int .i64 t.role, .int .i64 t.n, .int .i64 t.s, .int .i64 t.tail, .int .i64 t.lost, .int .i64 t.built] 80)
        have bqq := Below.andThen bq nq
        have FQ := hidden (FRA.out.trans (Fr.ofBelow bqq (by omega)))
        have MQ := hidden (MA.out.below bqq)
        have YQ := YA'.out.below bqq YA'.out.lt
        clear FRA MA YA' bq nq bqq r0 hb HDJ
        generalize hereB (ss, cs, f, bs) id (j : Int) = hk at UP DN ⊢
        go_upto_region 11 with fail
        generalize wq.alloc (.cells #[.int .i64 t.id, .int .i64 t.gen, .int .i64 t.role, .int .i64 t.n, .int .i64 t.s, .int .i64 t.tail, .int .i64 t.lost, .int .i64 t.built] 80) = wp at FQ MQ YQ ⊢
        have YH := hidden YQ
        unfold arrC at YQ
        obtain ⟨t0, t1, t2, t3, t4, t5, t6, t7, t8, t9, t10, t11, t12⟩ := YQ.cells13
        have fz := YQ.frozen
        clear YQ
        have nA : AB ∉ fpA := fun hm => by have := HFA.out _ hm; omega
        cases hk
        . have HX := hidden (DN.out rfl)
          clear UP DN
          have FS1 := hidden (FQ.out.trans (Fr.ofSet (N := LB) (B := AB) wp 12 (.bool true)))
          have MS1 := hidden (MQ.out.setCell (g := AB) (j := 12) nA (.bool true))
          have FS2 := hidden ((FQ.out.trans (Fr.ofSet (N := LB) (B := AB) wp 4 (.int .i64 (j : Int)))).trans (Fr.ofSet (N := LB) (B := AB) _ 5 (.int .i64 0)))
          have MS2 := hidden ((MQ.out.setCell (g := AB) (j := 4) nA (.int .i64 (j : Int))).setCell (g := AB) (j := 5) nA (.int .i64 0))
          have YS1 : Hid (Box (wp.setCell ⟨AB, 12, none⟩ (.bool true)) AB 33 (arrC {X with broken := true} (.slice (some ⟨g, 0, none⟩) (j + 1) cap) (.slice none 0 0))) := YH.out.set 12 _
          have YS2 : Hid (Box ((wp.setCell ⟨AB, 4, none⟩ (.int .i64 (j : Int))).setCell ⟨AB, 5, none⟩ (.int .i64 0)) AB 33 (arrC {X with lost := (j : Int), built := 0} (.slice (some ⟨g, 0, none⟩) (j + 1) cap) (.slice none 0 0))) := (YH.out.set 4 _).set 5 _
          clear YH
          by_cases h1 : X.lost = -1
          . have HV : Hid (loseX X (j : Int) = {X with lost := (j : Int), built := 0}) := if_pos (.inl h1)
            rw [h1] at t4
            clear h1
            go_wp2
            go_roundw
            case rel => exact ⟨j + 1, _, fpA, by omega, by go_num, FS2.out, by rw [HX.out]; exact (by rw [HV.out]; exact YS2.out), MS2.out, HFA.out⟩
            case measure => simp [intOf]; omega
          . by_cases h2 : X.lost = (j : Int)
            . have HV : Hid (loseX X (j : Int) = {X with lost := (j : Int), built := 0}) := if_pos (.inr h2)
              have g1 : (X.lost == -1) = false := by simp [h1]
              have g2 : (X.lost == (j : Int)) = true := by simp [h2]
              clear h1 h2
              go_wp2
              go_roundw
              case rel => exact ⟨j + 1, _, fpA, by omega, by go_num, FS2.out, by rw [HX.out]; exact (by rw [HV.out]; exact YS2.out), MS2.out, HFA.out⟩
              case measure => simp [intOf]; omega
            . have HV : Hid (loseX X (j : Int) = {X with broken := true}) := if_neg (by omega)
              have g1 : (X.lost == -1) = false := by simp [h1]
              have g2 : (X.lost == (j : Int)) = false := by simp [h2]
              clear h1 h2
              go_wp2
              go_roundw
              case rel => exact ⟨j + 1, _, fpA, by omega, by go_num, FS1.out, by rw [HX.out]; exact (by rw [HV.out]; exact YS1.out), MS1.out, HFA.out⟩
              case measure => simp [intOf]; omega
        . have HX := hidden (UP.out rfl)
          clear UP DN
          go_wp2
          go_roundw
          case rel => exact ⟨j + 1, _, fpA, by omega, by go_num, FQ.out, by rw [HX.out]; exact YH.out, MQ.out, HFA.out⟩
          case measure => simp [intOf]; omega
      . have ej : j = ms.length := by omega
        subst ej
        rw [List.take_of_length_le (by omega)] at hm
        obtain ⟨vm, cvm, hvM⟩ := row_shape hm.rd
        subst hvM
        have R6 := fr.box R5.out (by omega) (by omega)
        have HYES := hidden (fun ha => asm_yes (ms := ms) (id := id) HST.out HLN.out ha)
        have HNO := hidden (fun ha => asm_no2 (ms := ms) (id := id) HST.out ha)
        generalize asmX ms id (arr0 y) ms.length = X at xo HYES HNO
        have p0 := hm.rd
        have p1 : (tWrS 99).Rd wr [.slice none 0 0] [] := (nil_mine (t := tWr) (E := 99) wr).rd
        have Y0 := xo
        unfold arrC at Y0
        obtain ⟨t0, t1, t2, t3, t4, t5, t6, t7, t8, t9, t10, t11, t12⟩ := Y0.cells13
        clear Y5 R5 xo
        go_wp2_with fail
        refine (specArrOk_any _ 108 73 99 X _ _ _ _ _ _ ms [] p0 p1 (by unfold wtArr; have : wtWrS [] = 0 := rfl; omega)).mono ?_
        rintro e w7 ⟨rfl, b7⟩
        have R7 := R6.below b7 R6.lt
        have B7 := Below.andThen hb b7
        have m7 := hm.below b7
        have Y7 := Y0.below b7 Y0.lt
        clear t0 t1 t2 t3 t4 t5 t6 t7 t8 t9 t10 t11 t12 R6 hb hm Y0 b7 p0 p1
        cases ha : arrB X ms []
        . have hq := HNO.out ha
          have HN := hidden (none_.out w7 B7 R7 hq)
          obtain ⟨r0, r1, r2, r3, r4, r5, r6, r7, r8, r9, r10, r11, r12⟩ := R7.cells13
          have fzR := R7.frozen
          clear none_
          go_wp2
          refine bodyPost_ret (v := .tuple #[.agg #[.int .i64 0, .int .i64 0, .int .i64 0, .slice none 0 0, .int .i64 0, .int .i64 0, .int .i64 0, .int .i64 0, .int .i64 0, .slice none 0 0, .int .i64 0, .bool false, .bool false], .bool false]) (by simp [results, Try.results24, go_sem, r0, r1, r2, r3, r4, r5, r6, r7, r8, r9, r10, r11, r12]) rfl ?_
          exact HN.out
        . have hq := HYES.out ha
          have HO := hidden (arr_outB (y := X) (ns := ms) (ds := []) (vm := vm) (vd := none) (cvm := cvm) (cvd := 0) (fd := []) (lo := LB) (code := true) (e := .returned (.tuple #[.agg (arrC X _ _), .bool true])) B7 R7 rfl m7 (nil_mine _) (by simp) hfp (by simp) (by omega) (by omega))
          unfold arrC at HO
          simp only [puts, List.length_nil] at HO
          obtain ⟨r0, r1, r2, r3, r4, r5, r6, r7, r8, r9, r10, r11, r12⟩ := R7.cells13
          have fzR := R7.frozen
          obtain ⟨t0, t1, t2, t3, t4, t5, t6, t7, t8, t9, t10, t11, t12⟩ := Y7.cells13
          have HQ := hidden hq
          clear R7 B7 m7 Y7 none_ HYES HNO hq
          go_wp2
          refine bodyPost_ret (v := .tuple #[.agg #[.int .i64 X.id, .int .i64 X.n, .int .i64 X.s, .slice vm ms.length cvm, .int .i64 X.lost, .int .i64 X.built, .int .i64 X.seq, .int .i64 X.tail, .int .i64 X.gen, .slice none 0 0, .int .i64 X.fuse, .bool X.down, .bool X.broken], .bool true]) (by simp [results, Try.results24, go_sem, r0, r1, r2, r3, r4, r5, r6, r7, r8, r9, r10, r11, r12]) rfl ?_
          rw [HQ.out]; exact HO.out
   . have hne : ((ms.length : Int) != y.n) = true := by simp [hln]
     have HN := hidden (none_.out w2 B3.out R3.out (asm_no1 HST.out (fun h => hln h.2)))
     obtain ⟨r0, r1, r2, r3, r4, r5, r6, r7, r8, r9, r10, r11, r12⟩ := R3.out.cells13
     have fzR := R3.out.frozen
     clear none_
     go_wp2
     refine bodyPost_ret (v := .tuple #[.agg #[.int .i64 0, .int .i64 0, .int .i64 0, .slice none 0 0, .int .i64 0, .int .i64 0, .int .i64 0, .int .i64 0, .int .i64 0, .slice none 0 0, .int .i64 0, .bool false, .bool false], .bool false]) (by simp [results, Try.results24, go_sem, r0, r1, r2, r3, r4, r5, r6, r7, r8, r9, r10, r11, r12]) rfl ?_
     exact HN.out
 . have hfb : fb = false := by simpa using hfb
   subst hfb
   have HN := hidden (none_.out w2 B3.out R3.out (asm_no1 HST.out (fun h => by cases h.1)))
   obtain ⟨r0, r1, r2, r3, r4, r5, r6, r7, r8, r9, r10, r11, r12⟩ := R3.out.cells13
   have fzR := R3.out.frozen
   clear none_
   go_wp2
   refine bodyPost_ret (v := .tuple #[.agg #[.int .i64 0, .int .i64 0, .int .i64 0, .slice none 0 0, .int .i64 0, .int .i64 0, .int .i64 0, .int .i64 0, .int .i64 0, .slice none 0 0, .int .i64 0, .bool false, .bool false], .bool false]) (by simp [results, Try.results24, go_sem, r0, r1, r2, r3, r4, r5, r6, r7, r8, r9, r10, r11, r12]) rfl ?_
   exact HN.out

theorem heldMemS_any (w : World) (E F : TypeId) (a : Option Addr) (n cap : Nat) (d : List MemD) (k0 : Int) (h : (tMemS E F).Rd w [.slice a n cap] (markMS k0 d)) (hw : wtMemS d <= 2097152) (hk : 0 <= k0) (hk' : k0 + (wtMemS d : Int) <= 2097153) :
 Calls Try.prog 23 #[.slice a n cap, .int .i64 k0] w fun e w' => e = .returned (.int .i64 (k0 + (cntMS d : Int))) /\ Same w w' := by
 obtain ⟨hl, hc, hm⟩ := row_length h
 have hmL : (markMS k0 d).length = d.length := markL_length _ _ _ _
 rw [hmL] at hl
 have hnn : n <= 2097152 := by unfold wtMemS at hw; omega
 have hwt := cntMS_le d
 go_enter Try.func23, Try.ntmps23
 go_wp2
 go_loopw [1, 5] (fun kk i wr => ∃ j : Nat, j <= n /\ i = .int .i64 j /\ kk = .int .i64 (k0 + (sumL ((d.map cntMD).take j) : Int)) /\ Same w wr) (fun _ i _ => n - (intOf i).toNat)
 case atStart => exact ⟨0, Nat.zero_le _, rfl, by simp [sumL], Same.refl _⟩
 case round =>
  obtain ⟨j, hj, rfl, rfl, hs⟩ := hrel
  by_cases hjn : j < n
  . have hdj : d[j]? = some (d[j]'(by omega)) := List.getElem?_eq_getElem (by omega)
    generalize d[j]'(by omega) = x at hdj
    have hst := sumL_take (l := d.map cntMD) (j := j) (x := cntMD x) (by rw [List.getElem?_map, hdj]; rfl)
    have hle := sumL_le (l := d.map cntMD) (j + 1)
    have hin := Nat.le_trans (inner_leM hdj) hw
    unfold cntMS at hwt
    have hmj := markL_at (c := cntMD) (mk := markMD) (k := k0) hdj
    have HW := hidden hst
    generalize sumL ((d.map cntMD).take j) = S at hst hmj HW
    rcases quads_at rfl h with h0' | ⟨b, off, rfl, hbl, hcs⟩
    . omega
    obtain ⟨v0, v1, v2, v3, hv0, hv1, hv2, hv3, hrv⟩ := hcs j _ hmj
    obtain ⟨ss, cs, f, bs⟩ := x
    obtain ⟨a0, c0, a1, c1, a3, c3, ss', cs', f', bs', hx, rfl, rfl, rfl, rfl, r0, r1, r3⟩ := mem_at hrv
    have hcx : cntMD (ss, cs, f, bs) = cntSS ss + cntWS cs + 1 + bs.length := rfl
    have hin0 : wtIntSS ss <= 2097152 := by unfold wtMem at hin; simp only at hin; omega
    have hin1 : wtWrS cs <= 2097152 := by unfold wtMem at hin; simp only at hin; omega
    have hin3 : bs.length <= 2097152 := by unfold wtMem at hin; simp only at hin; omega
    have hcw := Nat.le_of_eq (cntWS_wt cs)
    have hcw' := Nat.le_of_eq (cntWS_wt cs).symm
    have hS : k0 + (S : Int) + (cntSS ss : Int) + (cntWS cs : Int) + 1 + (bs.length : Int) <= 2097153 := by omega
    unfold markMD at hx
    simp only [Prod.mk.injEq] at hx
    obtain ⟨e0, e1, e2, e3⟩ := hx
    subst e0
    subst e1
    subst e3
    rw [marks_length] at hv3 r3
    have w0 := (hs.cell _).trans hv0
    have w1 := (hs.cell _).trans hv1
    have w2 := (hs.cell _).trans hv2
    have w3 := (hs.cell _).trans hv3
    have HE2 := hidden e2
    have i1 : (0 : Int) <= (j : Int) := by omega
    have i2 : (j : Int) < (n : Int) := by omega
    have R0 := r0.same hs
    have R1 := r1.same hs
    have R3 := r3.same hs
    clear hcs hst hdj hv0 hv1 hv2 hv3 hrv hmj e2 r0 r1 r3
    go_wp2_with fail
    refine (heldIntSS_any _ _ _ _ ss _ R0 hin0 (by omega) (by omega)).mono ?_
    rintro e u1 ⟨rfl, s1⟩
    have w1' := (s1.cell _).trans w1
    have w2' := (s1.cell _).trans w2
    have w3' := (s1.cell _).trans w3
    have R1' := R1.same s1
    have R3' := R3.same s1
    clear w0 w1 w2 w3 R0 R1 R3
    have p1 : ¬ k0 + (S : Int) + (cntSS ss : Int) < 0 := by omega
    go_wp2_with fail
    refine (heldWrS_any _ E _ _ _ cs _ R1' hin1 (by omega) (by omega)).mono ?_
    rintro e u2 ⟨rfl, s2⟩
    have w2 := (s2.cell _).trans w2'
    have w3 := (s2.cell _).trans w3'
    have R3 := ints_rd (R3'.same s2)
    clear w1' w2' w3' R1' R3'
    have hK : 0 <= k0 + (S : Int) + (cntSS ss : Int) + (cntWS cs : Int) /\ k0 + (S : Int) + (cntSS ss : Int) + (cntWS cs : Int) <= 2097153 := by omega
    have HKK : Hid (k0 + (S : Int) + (cntSS ss : Int) + (cntWS cs : Int) + 1 + (bs.length : Int) = k0 + ((S + cntMD (ss, cs, f, bs) : Nat) : Int)) := by unfold Hid; rw [hcx]; omega
    generalize hKd : k0 + (S : Int) + (cntSS ss : Int) + (cntWS cs : Int) = K at hK HKK HE2 R3 hS ⊢
    clear hKd
    have p2 : ¬ K < 0 := by omega
    have t1 : K.tmod 3 = K % 3 := Int.tmod_eq_emod_of_nonneg hK.1
    have t2 : IntKind.i64.wrap (K % 3) = K % 3 := IntWalk.i64_in _ (by omega)
    have t3 : IntKind.i64.wrap (K + 1) = K + 1 := IntWalk.i64_in _ (by omega)
    have p3 : ¬ K + 1 + (bs.length : Int) < 0 := by omega
    have t4 : f' = (K % 3 == 0) := by rw [← HE2.out]; rfl
    have t5 : ((K % 3 == 0) != (K % 3 == 0)) = false := by simp
    have t6 : ((K % 3 == 0) == (K % 3 == 0)) = true := by simp
    subst t4
    clear HE2
    go_wp2_with fail
    refine (heldIntS_any _ _ _ _ _ R3.1 (by omega) (by omega) (by omega)).mono ?_
    rintro e u3 ⟨rfl, s3⟩
    have HS := hidden (((hs.trans s1).trans s2).trans s3)
    clear s1 s2 s3 hs R3 w2 w3
    go_wp2
    go_roundw
    case rel => exact ⟨j + 1, by omega, by go_num, by rw [HW.out, HKK.out], HS.out⟩
    case measure => simp [intOf]; omega
  . have ej : j = n := by omega
    subst ej
    have ht : (d.map cntMD).take j = d.map cntMD := List.take_of_length_le (by simp; omega)
    have HT : Hid (k0 + (sumL ((d.map cntMD).take j) : Int) = k0 + (cntMS d : Int)) := by unfold Hid cntMS; rw [ht]
    clear ht
    go_wp2
    go_ret
    exact ⟨ret_int HT.out, hs⟩

theorem heldArr_any (w : World) (E F G : TypeId) (x : ArrN) (bm bd : Option Addr) (nm cm nd cd : Nat) (ms : List MemD) (ds : List (Int × List Int)) (h0 : (tMemS E F).Rd w [.slice bm nm cm] (markMS 1 ms)) (h1 : (tWrS G).Rd w [.slice bd nd cd] (markW (1 + (cntMS ms : Int)) ds)) (hw : wtArr ms ds <= 2097152) :
 Calls Try.prog 13 #[.agg #[.int .i64 x.id, .int .i64 x.n, .int .i64 x.s, .slice bm nm cm, .int .i64 x.lost, .int .i64 x.built, .int .i64 x.seq, .int .i64 x.tail, .int .i64 x.gen, .slice bd nd cd, .int .i64 x.fuse, .bool x.down, .bool x.broken], .int .i64 1] w fun e w' => e = .returned (.int .i64 (1 + (cntMS ms : Int) + (cntWS ds : Int))) /\ Below w.heap.size w w' := by
 have hw0 : wtMemS ms <= 2097152 := by unfold wtArr at hw; omega
 have hw1 : wtWrS ds <= 2097152 := by unfold wtArr at hw; omega
 have hws : wtMemS ms + wtWrS ds <= 2097152 := by unfold wtArr at hw; omega
 have hcm := cntMS_le ms
 have hA := new_below w (.cells #[.int .i64 x.id, .int .i64 x.n, .int .i64 x.s, .slice bm nm cm, .int .i64 x.lost, .int .i64 x.built, .int .i64 x.seq, .int .i64 x.tail, .int .i64 x.gen, .slice bd nd cd, .int .i64 x.fuse, .bool x.down, .bool x.broken] 33)
 have X := Box.new w 33 #[.int .i64 x.id, .int .i64 x.n, .int .i64 x.s, .slice bm nm cm, .int .i64 x.lost, .int .i64 x.built, .int .i64 x.seq, .int .i64 x.tail, .int .i64 x.gen, .slice bd nd cd, .int .i64 x.fuse, .bool x.down, .bool x.broken]
 obtain ⟨k0, k1, k2, k3, k4, k5, k6, k7, k8, k9, k10, k11, k12⟩ := X.cells13
 have r0 := h0.below hA
 have r1 := h1.below hA
 go_enter Try.func13, Try.ntmps13
 go_wp2_with fail
 generalize w.alloc (.cells #[.int .i64 x.id, .int .i64 x.n, .int .i64 x.s, .slice bm nm cm, .int .i64 x.lost, .int .i64 x.built, .int .i64 x.seq, .int .i64 x.tail, .int .i64 x.gen, .slice bd nd cd, .int .i64 x.fuse, .bool x.down, .bool x.broken] 33) = W at hA X r0 r1 k0 k1 k2 k3 k4 k5 k6 k7 k8 k9 k10 k11 k12 ⊢
 refine (heldMemS_any _ E F _ _ _ ms _ r0 hw0 (by omega) (by omega)).mono ?_
 rintro e w1 ⟨rfl, s1⟩
 have X1 := X.same s1
 have r2 := r1.same s1
 have B1 := Below.andSame hA s1
 clear k0 k1 k2 k3 k4 k5 k6 k7 k8 k9 k10 k11 k12 X r0 r1 s1 hA
 obtain ⟨k0, k1, k2, k3, k4, k5, k6, k7, k8, k9, k10, k11, k12⟩ := X1.cells13
 have p1 : ¬ 1 + (cntMS ms : Int) < 0 := by omega
 go_wp2_with fail
 refine (heldEntS_any _ G _ _ _ ds _ r2 hw1 (by omega) (by omega)).mono ?_
 rintro e w2 ⟨rfl, s2⟩
 have B2 := Below.andSame B1 s2
 have p2 : ¬ 1 + (cntMS ms : Int) + (cntWS ds : Int) < 0 := by omega
 clear k0 k1 k2 k3 k4 k5 k6 k7 k8 k9 k10 k11 k12 X1 r2 s2 B1
 go_wp2
 go_ret
 exact ⟨rfl, B2⟩

theorem fnExactAssemble_walk (am : Option Addr) (nm cm : Nat) (ms : List MemD) (id : Int) (w : World) (h0 : (tMemS 122 70).Rd w [.slice am nm cm] ms) :
 Calls Try.prog 5 #[.slice am nm cm, .int .i64 id] w fun e w' => e = .returned (.bool true) /\ Below w.heap.size w w' := by
 go_enter Try.func5, Try.ntmps5
 go_wp2_with fail
 refine (szMemS_any _ 122 70 _ _ _ ms _ h0 (by omega) (by omega)).mono ?_
 rintro e w1 ⟨rfl, hb1⟩
 have B1 := hidden hb1
 have z1 := hb1.size
 clear hb1
 by_cases hwt : (wtMemS ms : Int) <= 1048576
 . have hq := leftOf_pos hwt
   have hwt' : wtMemS ms <= 1048576 := by omega
   have hwt2 : wtMemS ms <= 2097152 := by omega
   have hwq0 := asm_wt (id := id) hwt'
   obtain ⟨y, ns, sc, hq0⟩ : ∃ (y : ArrN) (ns : List MemD) (sc : Bool), asmQ ms id = ((y, ns), sc) := ⟨_, _, _, rfl⟩
   rw [hq0] at hwq0
   obtain ⟨es, hes⟩ : ∃ es : List (Int × List Int), es = [] := ⟨_, rfl⟩
   have hwq : wtArr ns es <= 2097152 := by rw [hes]; exact hwq0
   have HQ := hidden hq0
   have HES := hidden hes
   clear hq0 hwq0 hes
   have hne : (sc != sc) = false := by simp
   have hcp := cntMS_le ms
   go_wp2_with fail
   refine (toMemS_any _ 122 70 _ _ _ ms (h0.below B1.out) hwt').mono ?_
   rintro e w2 ⟨rfl, o2, hb2⟩
   have B2 := hidden (Below.andThen B1.out hb2)
   have z2 := hb2.size
   clear B1 hb2
   have C2 := hidden o2
   clear o2
   go_wp2_with fail
   refine (specAssemble_any _ 108 73 _ _ _ ms id C2.out.rd hwt2).mono ?_
   rintro e w3 ho3
   have hp3 := ho3
   rw [HQ.out, ← HES.out] at hp3
   clear ho3
   obtain ⟨a3, d3, c3, b3, rfl, o3, hb3⟩ := hp3
   dsimp only at o3
   unfold arrC
   have B3 := hidden (Below.andThen B2.out hb3)
   have C3 := hidden (C2.out.below hb3)
   have z3 := hb3.size
   clear B2 C2 hb3
   have W3 := hidden o3
   clear o3
   clear C3
   have ba : Below w3.heap.size w3 (w3.alloc (.cells #[.int .i64 y.id, .int .i64 y.n, .int .i64 y.s, .slice a3 ns.length c3, .int .i64 y.lost, .int .i64 y.built, .int .i64 y.seq, .int .i64 y.tail, .int .i64 y.gen, .slice d3 es.length b3, .int .i64 y.fuse, .bool y.down, .bool y.broken] 33)) := (Below.refl _ _).alloc (Nat.le_refl _) _
   have xb := Box.new w3 33 #[.int .i64 y.id, .int .i64 y.n, .int .i64 y.s, .slice a3 ns.length c3, .int .i64 y.lost, .int .i64 y.built, .int .i64 y.seq, .int .i64 y.tail, .int .i64 y.gen, .slice d3 es.length b3, .int .i64 y.fuse, .bool y.down, .bool y.broken]
   have zx4 := xb.lt
   have B4 := hidden (Below.andThen B3.out ba)
   have W4 := hidden (W3.out.below ba)
   have z4 := ba.size
   clear B3 W3 ba
   have WB4 := hidden xb
   clear xb
   go_wp2_with fail
   generalize w3.alloc (.cells #[.int .i64 y.id, .int .i64 y.n, .int .i64 y.s, .slice a3 ns.length c3, .int .i64 y.lost, .int .i64 y.built, .int .i64 y.seq, .int .i64 y.tail, .int .i64 y.gen, .slice d3 es.length b3, .int .i64 y.fuse, .bool y.down, .bool y.broken] 33) = w4 at B4 W4 WB4 z4 zx4  ⊢
   refine (toMemS_any _ 122 70 _ _ _ ms (h0.below B4.out) hwt').mono ?_
   rintro e w5 ⟨rfl, o5, hb5⟩
   have B5 := hidden (Below.andThen B4.out hb5)
   have W5 := hidden (W4.out.below hb5)
   have WB5 := hidden (WB4.out.below hb5 (by omega))
   have z5 := hb5.size
   clear B4 W4 WB4 hb5
   have D5 := hidden o5
   clear o5
   go_wp2_with fail
   refine (implAssemble_any _ 108 73 _ _ _ ms id D5.out.rd hwt2).mono ?_
   rintro e w6 ho6
   have hp6 := ho6
   rw [HQ.out, ← HES.out] at hp6
   clear ho6
   obtain ⟨a6, d6, c6, b6, rfl, o6, hb6⟩ := hp6
   dsimp only at o6
   unfold arrC
   have B6 := hidden (Below.andThen B5.out hb6)
   have W6 := hidden (W5.out.below hb6)
   have WB6 := hidden (WB5.out.below hb6 (by omega))
   have D6 := hidden (D5.out.below hb6)
   have z6 := hb6.size
   clear B5 W5 WB5 D5 hb6
   have G6 := hidden o6
   clear o6
   have ba : Below w6.heap.size w6 (w6.alloc (.cells #[.int .i64 y.id, .int .i64 y.n, .int .i64 y.s, .slice a6 ns.length c6, .int .i64 y.lost, .int .i64 y.built, .int .i64 y.seq, .int .i64 y.tail, .int .i64 y.gen, .slice d6 es.length b6, .int .i64 y.fuse, .bool y.down, .bool y.broken] 33)) := (Below.refl _ _).alloc (Nat.le_refl _) _
   have xb := Box.new w6 33 #[.int .i64 y.id, .int .i64 y.n, .int .i64 y.s, .slice a6 ns.length c6, .int .i64 y.lost, .int .i64 y.built, .int .i64 y.seq, .int .i64 y.tail, .int .i64 y.gen, .slice d6 es.length b6, .int .i64 y.fuse, .bool y.down, .bool y.broken]
   have zx7 := xb.lt
   have B7 := hidden (Below.andThen B6.out ba)
   have W7 := hidden (W6.out.below ba)
   have WB7 := hidden (WB6.out.below ba (by omega))
   have D7 := hidden (D6.out.below ba)
   have G7 := hidden (G6.out.below ba)
   have z7 := ba.size
   clear B6 W6 WB6 D6 G6 ba
   have GB7 := hidden xb
   clear xb
   obtain ⟨p0, p1, p2, p3, p4, p5, p6, p7, p8, p9, p10, p11, p12⟩ := GB7.out.cells13
   obtain ⟨q0, q1, q2, q3, q4, q5, q6, q7, q8, q9, q10, q11, q12⟩ := WB7.out.cells13
   go_wp2_with fail
   generalize w6.alloc (.cells #[.int .i64 y.id, .int .i64 y.n, .int .i64 y.s, .slice a6 ns.length c6, .int .i64 y.lost, .int .i64 y.built, .int .i64 y.seq, .int .i64 y.tail, .int .i64 y.gen, .slice d6 es.length b6, .int .i64 y.fuse, .bool y.down, .bool y.broken] 33) = w7 at B7 W7 WB7 D7 G7 GB7 z7 zx7 p0 p1 p2 p3 p4 p5 p6 p7 p8 p9 p10 p11 p12 q0 q1 q2 q3 q4 q5 q6 q7 q8 q9 q10 q11 q12 ⊢
   refine (eqArr_same _ 108 108 73 73 99 99 y _ _ _ _ _ _ _ _ _ _ _ _ ns es G7.out.rdm G7.out.rdd W7.out.rdm W7.out.rdd hwq).mono ?_
   rintro e w8 ⟨rfl, hb8⟩
   clear p0 p1 p2 p3 p4 p5 p6 p7 p8 p9 p10 p11 p12 q0 q1 q2 q3 q4 q5 q6 q7 q8 q9 q10 q11 q12
   have B8 := hidden (Below.andThen B7.out hb8)
   have W8 := hidden (W7.out.below hb8)
   have WB8 := hidden (WB7.out.below hb8 (by omega))
   have D8 := hidden (D7.out.below hb8)
   have G8 := hidden (G7.out.below hb8)
   have GB8 := hidden (GB7.out.below hb8 (by omega))
   have z8 := hb8.size
   clear B7 W7 WB7 D7 G7 GB7 hb8
   go_wp2_with fail
   refine (toMemS_any _ 122 70 _ _ _ ms (h0.below B8.out) hwt').mono ?_
   rintro e w9 ⟨rfl, o9, hb9⟩
   have B9 := hidden (Below.andThen B8.out hb9)
   have W9 := hidden (W8.out.below hb9)
   have WB9 := hidden (WB8.out.below hb9 (by omega))
   have D9 := hidden (D8.out.below hb9)
   have G9 := hidden (G8.out.below hb9)
   have GB9 := hidden (GB8.out.below hb9 (by omega))
   have z9 := hb9.size
   clear B8 W8 WB8 D8 G8 GB8 hb9
   have Y9 := hidden o9
   clear o9
   go_wp2_with fail
   refine (eqMemS_same _ 108 108 73 73 _ _ _ _ _ _ ms D9.out.rd Y9.out.rd hwt2).mono ?_
   rintro e w10 ⟨rfl, hb10⟩
   have B10 := hidden (Below.andThen B9.out hb10)
   have W10 := hidden (W9.out.below hb10)
   have WB10 := hidden (WB9.out.below hb10 (by omega))
   have D10 := hidden (D9.out.below hb10)
   have G10 := hidden (G9.out.below hb10)
   have GB10 := hidden (GB9.out.below hb10 (by omega))
   have Y10 := hidden (Y9.out.below hb10)
   have z10 := hb10.size
   clear B9 W9 WB9 D9 G9 GB9 Y9 hb10
   clear Y10
   obtain ⟨fpX, mX, rX⟩ := D10.out.mine
   go_wp2_with fail
   refine (markMemS_fp _ _ _ _ ms _ fpX mX hwt2 (by omega) (by omega)).mono ?_
   rintro e w11 ⟨rfl, m11, t11⟩
   clear D10
   have hb11 := t11.but rX
   clear mX m11 t11 rX
   have B11 := hidden (Below.andBut B10.out hb11 (by omega))
   have W11 := hidden (W10.out.but hb11 (by omega))
   have WB11 := hidden (WB10.out.kept (hb11.block _ (by omega) (by omega)))
   have G11 := hidden (G10.out.but hb11 (by omega))
   have GB11 := hidden (GB10.out.kept (hb11.block _ (by omega) (by omega)))
   have z11 := hb11.size
   clear B10 W10 WB10 G10 GB10 hb11
   have hcn : (0 : Int) <= 1 + (cntMS ms : Int) := by omega
   generalize 1 + (cntMS ms : Int) = cn at hcn ⊢
   obtain ⟨p0, p1, p2, p3, p4, p5, p6, p7, p8, p9, p10, p11, p12⟩ := GB11.out.cells13
   obtain ⟨q0, q1, q2, q3, q4, q5, q6, q7, q8, q9, q10, q11, q12⟩ := WB11.out.cells13
   go_wp2_with fail
   refine (eqArr_same _ 108 108 73 73 99 99 y _ _ _ _ _ _ _ _ _ _ _ _ ns es G11.out.rdm G11.out.rdd W11.out.rdm W11.out.rdd hwq).mono ?_
   rintro e w12 ⟨rfl, hb12⟩
   clear p0 p1 p2 p3 p4 p5 p6 p7 p8 p9 p10 p11 p12 q0 q1 q2 q3 q4 q5 q6 q7 q8 q9 q10 q11 q12
   have B12 := hidden (Below.andThen B11.out hb12)
   have W12 := hidden (W11.out.below hb12)
   have WB12 := hidden (WB11.out.below hb12 (by omega))
   have G12 := hidden (G11.out.below hb12)
   have GB12 := hidden (GB11.out.below hb12 (by omega))
   have z12 := hb12.size
   clear B11 W11 WB11 G11 GB11 hb12
   obtain ⟨p0, p1, p2, p3, p4, p5, p6, p7, p8, p9, p10, p11, p12⟩ := GB12.out.cells13
   go_wp2_with fail
   refine (markArr_in _ w5.heap.size w6.heap.size y _ _ _ _ _ _ ns es G12.out (by omega) hwq).mono ?_
   rintro e w13 ⟨rfl, oi13, hb13⟩
   clear p0 p1 p2 p3 p4 p5 p6 p7 p8 p9 p10 p11 p12
   clear G12
   have B13 := hidden (Below.andBut B12.out hb13 (by omega))
   have W13 := hidden (W12.out.but hb13 (by omega))
   have WB13 := hidden (WB12.out.kept (hb13.block _ (by omega) (by omega)))
   have GB13 := hidden (GB12.out.kept (hb13.block _ (by omega) (by omega)))
   have z13 := hb13.size
   clear B12 W12 WB12 GB12 hb13
   have G13 := hidden oi13
   clear oi13
   obtain ⟨p0, p1, p2, p3, p4, p5, p6, p7, p8, p9, p10, p11, p12⟩ := GB13.out.cells13
   go_wp2_with fail
   refine (heldArr_any _ 108 73 99 y _ _ _ _ _ _ ns es G13.out.rdm G13.out.rdd hwq).mono ?_
   rintro e w14 ⟨rfl, hb14⟩
   clear p0 p1 p2 p3 p4 p5 p6 p7 p8 p9 p10 p11 p12
   have B14 := hidden (Below.andThen B13.out hb14)
   have W14 := hidden (W13.out.below hb14)
   have WB14 := hidden (WB13.out.below hb14 (by omega))
   have GB14 := hidden (GB13.out.below hb14 (by omega))
   have G14 := hidden (G13.out.below hb14)
   have z14 := hb14.size
   clear B13 W13 WB13 GB13 G13 hb14
   have hcm : (0 : Int) <= 1 + (cntMS ns : Int) + (cntWS es : Int) := by omega
   generalize hCM : 1 + (cntMS ns : Int) + (cntWS es : Int) = ck at hcm ⊢
   have HCM := hidden hCM
   clear hCM
   go_wp2_with fail
   refine (toMemS_any _ 122 70 _ _ _ ms (h0.below B14.out) hwt').mono ?_
   rintro e w15 ⟨rfl, o15, hb15⟩
   have B15 := hidden (Below.andThen B14.out hb15)
   have W15 := hidden (W14.out.below hb15)
   have WB15 := hidden (WB14.out.below hb15 (by omega))
   have GB15 := hidden (GB14.out.below hb15 (by omega))
   have G15 := hidden (G14.out.below hb15)
   have z15 := hb15.size
   clear B14 W14 WB14 GB14 G14 hb15
   have E15 := hidden o15
   clear o15
   go_wp2_with fail
   refine (implAssemble_any _ 108 73 _ _ _ ms id E15.out.rd hwt2).mono ?_
   rintro e w16 ho16
   have hp16 := ho16
   rw [HQ.out, ← HES.out] at hp16
   clear ho16
   obtain ⟨a16, d16, c16, b16, rfl, o16, hb16⟩ := hp16
   dsimp only at o16
   unfold arrC
   have B16 := hidden (Below.andThen B15.out hb16)
   have W16 := hidden (W15.out.below hb16)
   have WB16 := hidden (WB15.out.below hb16 (by omega))
   have GB16 := hidden (GB15.out.below hb16 (by omega))
   have G16 := hidden (G15.out.below hb16)
   have E16 := hidden (E15.out.below hb16)
   have z16 := hb16.size
   clear B15 W15 WB15 GB15 G15 E15 hb16
   have H16 := hidden o16
   clear o16
   clear E16
   have ba : Below w16.heap.size w16 (w16.alloc (.cells #[.int .i64 y.id, .int .i64 y.n, .int .i64 y.s, .slice a16 ns.length c16, .int .i64 y.lost, .int .i64 y.built, .int .i64 y.seq, .int .i64 y.tail, .int .i64 y.gen, .slice d16 es.length b16, .int .i64 y.fuse, .bool y.down, .bool y.broken] 33)) := (Below.refl _ _).alloc (Nat.le_refl _) _
   have xb := Box.new w16 33 #[.int .i64 y.id, .int .i64 y.n, .int .i64 y.s, .slice a16 ns.length c16, .int .i64 y.lost, .int .i64 y.built, .int .i64 y.seq, .int .i64 y.tail, .int .i64 y.gen, .slice d16 es.length b16, .int .i64 y.fuse, .bool y.down, .bool y.broken]
   have zx17 := xb.lt
   have B17 := hidden (Below.andThen B16.out ba)
   have W17 := hidden (W16.out.below ba)
   have WB17 := hidden (WB16.out.below ba (by omega))
   have GB17 := hidden (GB16.out.below ba (by omega))
   have G17 := hidden (G16.out.below ba)
   have H17 := hidden (H16.out.below ba)
   have z17 := ba.size
   clear B16 W16 WB16 GB16 G16 H16 ba
   have HB17 := hidden xb
   clear xb
   obtain ⟨p0, p1, p2, p3, p4, p5, p6, p7, p8, p9, p10, p11, p12⟩ := HB17.out.cells13
   obtain ⟨q0, q1, q2, q3, q4, q5, q6, q7, q8, q9, q10, q11, q12⟩ := WB17.out.cells13
   go_wp2_with fail
   generalize w16.alloc (.cells #[.int .i64 y.id, .int .i64 y.n, .int .i64 y.s, .slice a16 ns.length c16, .int .i64 y.lost, .int .i64 y.built, .int .i64 y.seq, .int .i64 y.tail, .int .i64 y.gen, .slice d16 es.length b16, .int .i64 y.fuse, .bool y.down, .bool y.broken] 33) = w17 at B17 W17 WB17 GB17 G17 H17 HB17 z17 zx17 p0 p1 p2 p3 p4 p5 p6 p7 p8 p9 p10 p11 p12 q0 q1 q2 q3 q4 q5 q6 q7 q8 q9 q10 q11 q12 ⊢
   refine (eqArr_same _ 108 108 73 73 99 99 y _ _ _ _ _ _ _ _ _ _ _ _ ns es H17.out.rdm H17.out.rdd W17.out.rdm W17.out.rdd hwq).mono ?_
   rintro e w18 ⟨rfl, hb18⟩
   clear p0 p1 p2 p3 p4 p5 p6 p7 p8 p9 p10 p11 p12 q0 q1 q2 q3 q4 q5 q6 q7 q8 q9 q10 q11 q12
   have B18 := hidden (Below.andThen B17.out hb18)
   have W18 := hidden (W17.out.below hb18)
   have WB18 := hidden (WB17.out.below hb18 (by omega))
   have GB18 := hidden (GB17.out.below hb18 (by omega))
   have G18 := hidden (G17.out.below hb18)
   have H18 := hidden (H17.out.below hb18)
   have HB18 := hidden (HB17.out.below hb18 (by omega))
   have z18 := hb18.size
   clear B17 W17 WB17 GB17 G17 H17 HB17 hb18
   clear H18
   clear HB18
   clear W18
   clear WB18
   obtain ⟨p0, p1, p2, p3, p4, p5, p6, p7, p8, p9, p10, p11, p12⟩ := GB18.out.cells13
   go_wp2_with fail
   refine (heldArr_any _ 108 73 99 y _ _ _ _ _ _ ns es G18.out.rdm G18.out.rdd hwq).mono ?_
   rintro e w19 ⟨rfl, hb19⟩
   clear p0 p1 p2 p3 p4 p5 p6 p7 p8 p9 p10 p11 p12
   have B19 := hidden (Below.andThen B18.out hb19)
   have GB19 := hidden (GB18.out.below hb19 (by omega))
   have G19 := hidden (G18.out.below hb19)
   have z19 := hb19.size
   clear B18 GB18 G18 hb19
   rw [HCM.out]
   go_wp2
   go_ret
   exact ⟨rfl, B19.out⟩
 . have hq := leftOf_neg (left := 1048576) (wt := wtMemS ms) (by omega)
   go_wp2
   go_ret
   exact ⟨rfl, B1.out⟩

end Go.Proofs.Ytlcjfgmmjkandaa

namespace Go.Proofs.Ytlcjfgmmjkandaa
open Go.RowKit Go.ChangeShapes Go.WideShapes Go.ChangeAt Go.Joins Go.Deep

section
variable {H : Type} {enc : TypeId × Value -> H} {P : Program} {w : World} {held : Bool}

theorem rdInts_of {t q : TypeId} {fuel : Nat} {v : Value} {x : DataW H × List MemPlace} (ht : P.underlying t = some (.slice q)) (hq : P.underlying q = some (.int .i64)) (cq : P.cellsOf q = 1)
 (h : DataW.trod enc P w 0 (fun _ => true) held fuel t [v] = some x) : ∃ zs, tIntS.Rd w [v] zs := by
 rcases open_ints ht hq cq h with ⟨hcs, _⟩ | ⟨a, len, cap, zs, hcs, _, hl, hm, hz, _, hcell, hwz⟩
 . simp at hcs
   subst hcs
   exact ⟨[], ints_rd_of (.inl rfl) (Nat.le_refl _) (by simp) (fun _ => rfl)⟩
 . simp at hcs
   subst hcs
   have hr : IsRow .i64 w (some a) len cap zs := .inr ⟨_, rfl, hl, hm, by simpa using hz, hcell, hwz⟩
   obtain ⟨h1, h2, _, _⟩ := hr.reads
   refine ⟨zs.take len, ?_⟩
   have := ints_rd_of (E := 3) (cap := cap) h1 (by omega) (by unfold maxLen at hm; omega) (by simp)
   rw [h2] at this
   exact this

theorem rd_row {t : Ty} {E : TypeId} {a : Addr} {len cap : Nat} (hl : len <= cap) (hm : cap <= 9223372036854775807) (cs : Nat -> List Value) (hn : 0 < t.n) (hcl : ∀ i, i < len -> (cs i).length = t.n)
 (hc : ∀ i, i < len -> ∀ j, j < t.n -> w.cell? (a.add (i * t.n + j)) = (cs i)[j]?) (hx : ∀ i, i < len -> ∃ x, t.Rd w (cs i) x) : ∃ d, (rowTy t E).Rd w [.slice (some a) len cap] d := by
 have each : ∀ i, i < len -> ∃ y : t.D × List Nat, t.rd w (cs i) y.1 y.2 := by
  intro i hi
  obtain ⟨x, fp, h⟩ := hx i hi
  exact ⟨(x, fp), h⟩
 by_cases h0 : len = 0
 . subst h0
   exact ⟨[], [], some a, cap, rfl, by simp, hm, .inl ⟨rfl, rfl, by simp⟩⟩
 . have hne : Nonempty (t.D × List Nat) := by
    obtain ⟨y, _⟩ := each 0 (by omega)
    exact ⟨y⟩
   have hch : ∃ f : Nat -> t.D × List Nat, ∀ i, i < len -> t.rd w (cs i) (f i).1 (f i).2 := by
    refine ⟨fun i => if h : i < len then Classical.choose (each i h) else Classical.choice hne, fun i hi => ?_⟩
    simp only [dif_pos hi]
    exact Classical.choose_spec (each i hi)
   obtain ⟨f, hf⟩ := hch
   obtain ⟨b, off, spot⟩ := a
   have hc0 := hc 0 (by omega) 0 hn
   have hsome : ∃ v0, (cs 0)[0]? = some v0 := ⟨(cs 0)[0]'(by rw [hcl 0 (by omega)]; exact hn), List.getElem?_eq_getElem _⟩
   obtain ⟨v0, hv0⟩ := hsome
   rw [hv0] at hc0
   have hspot : spot = none := by simpa [Addr.add] using World.cell?_spot hc0
   subst hspot
   have ea : ∀ k, (⟨b, off, none⟩ : Addr).add k = ⟨b, off + k, none⟩ := by
    intro k
    unfold Addr.add
    split <;> simp_all
   rw [ea] at hc0
   have hblt : b < w.heap.size := World.block_lt_of_cell? w _ hc0
   refine ⟨(List.range len).map fun i => (f i).1, b :: ((List.range len).map fun i => (f i).2).flatten, _, cap, by simp, by simpa using hl, hm, .inr ⟨b, off, (List.range len).map fun i => (f i).2, rfl, hblt, rfl, by simp, fun i x hxi => ?_⟩⟩
   have hi : i < len := by
    have := (List.getElem?_eq_some_iff.1 hxi).1
    simpa using this
   rw [List.getElem?_map, List.getElem?_range hi] at hxi
   simp at hxi
   subst hxi
   refine ⟨(f i).2, cs i, by rw [List.getElem?_map, List.getElem?_range hi]; rfl, hf i hi, fun j hj => ?_⟩
   rw [← ea]
   exact hc i hi j hj

theorem rdIntSS_of {t e q : TypeId} {fuel : Nat} {v : Value} {x : DataW H × List MemPlace} (ht : P.underlying t = some (.slice e)) (he : P.underlying e = some (.slice q)) (hq : P.underlying q = some (.int .i64)) (ce : P.cellsOf e = 1) (cq : P.cellsOf q = 1)
 (h : DataW.trod enc P w 0 (fun _ => true) held fuel t [v] = some x) : ∃ d, tIntSS.Rd w [v] d := by
 rcases open_slice1 ht ce h with ⟨hcs, _⟩ | ⟨a, len, cap, m, n, V, D, Pl, hcs, _, hl, hm, hmm, _, hx⟩
 . simp at hcs
   subst hcs
   exact ⟨[], [], none, 0, rfl, by simp, by simp, .inl ⟨rfl, rfl, fun _ => rfl⟩⟩
 . simp at hcs
   subst hcs
   simp only [if_true] at hmm
   refine rd_row hl (by unfold maxLen at hm; omega) (fun i => [V i]) (by decide) (fun _ _ => rfl) (fun i hi j hj => ?_) (fun i hi => rdInts_of he hq cq (hx i (by omega)).2)
   have hj0 : j = 0 := by have : j < 1 := hj; omega
   subst hj0
   have := (hx i (by omega)).1
   show w.cell? (a.add (i * 1 + 0)) = some (V i)
   rw [Nat.mul_one, Nat.add_zero]
   exact this

theorem rdWrS_of {t e q : TypeId} {f0 f1 : Field} {E : TypeId} {fuel : Nat} {v : Value} {x : DataW H × List MemPlace} (ht : P.underlying t = some (.slice e)) (he : P.underlying e = some (.struct #[f0, f1])) (ce : P.cellsOf e = 2) (o0 : f0.offset = 0) (o1 : f1.offset = 1) (c0 : P.cellsOf f0.type = 1) (c1 : P.cellsOf f1.type = 1)
 (hi0 : P.underlying f0.type = some (.int .i64)) (hi1 : P.underlying f1.type = some (.slice q)) (hq : P.underlying q = some (.int .i64)) (cq : P.cellsOf q = 1)
 (h : DataW.trod enc P w 0 (fun _ => true) held fuel t [v] = some x) : ∃ d, (tWrS E).Rd w [v] d := by
 rcases open_slice_pairs ht he ce o0 o1 c0 c1 h with ⟨hcs, _⟩ | ⟨a, len, cap, m, n, V0, V1, D0, D1, P0, P1, hcs, _, hl, hm, hmm, _, hx⟩
 . simp at hcs
   subst hcs
   exact ⟨[], [], none, 0, rfl, by simp, by simp, .inl ⟨rfl, rfl, fun _ => rfl⟩⟩
 . simp at hcs
   subst hcs
   simp only [if_true] at hmm
   refine rd_row hl (by unfold maxLen at hm; omega) (fun i => [V0 i, V1 i]) (by decide) (fun _ _ => rfl) (fun i hi j hj => ?_) (fun i hi => ?_)
   . have hj2 : j < 2 := hj
     obtain ⟨h0, h1, _⟩ := hx i (by omega)
     match j, hj2 with
     | 0, _ => exact h0
     | 1, _ => exact h1
   . obtain ⟨_, _, h2, h3⟩ := hx i (by omega)
     obtain ⟨y, hy, _, _⟩ := DataW.trod_int hi0 h2
     obtain ⟨zs, hzs⟩ := rdInts_of hi1 hq cq h3
     simp at hy
     exact ⟨(y, zs), by rw [hy]; exact pair_rd_of (t := intTy) (vs := [_]) ⟨[], rfl, rfl⟩ hzs⟩

end
end Go.Proofs.Ytlcjfgmmjkandaa

namespace Go.Proofs.Ytlcjfgmmjkandaa
open Go.RowKit Go.ChangeShapes Go.WideShapes Go.ChangeAt Go.Joins Go.Deep

section
variable {H : Type} {enc : TypeId × Value -> H} {w : World} {held : Bool}

theorem rdRow_of {P : Program} {t e E : TypeId} {u : Ty} {fuel : Nat} {v : Value} {x : DataW H × List MemPlace} (ht : P.underlying t = some (.slice e)) (ce : P.cellsOf e = u.n) (hn : 0 < u.n)
 (each : ∀ (n : Nat) (cs : List Value) (y : DataW H × List MemPlace), cs.length = u.n -> DataW.trod enc P w 0 (fun _ => true) held n e cs = some y -> ∃ d, u.Rd w cs d)
 (h : DataW.trod enc P w 0 (fun _ => true) held fuel t [v] = some x) : ∃ d, (rowTy u E).Rd w [v] d := by
 rcases open_slice ht h with ⟨hcs, _⟩ | ⟨a, len, cap, m, n, D, Pl, hcs, _, hl, hm, hmm, _, hx⟩
 . simp at hcs
   subst hcs
   exact ⟨[], [], none, 0, rfl, by simp, by simp, .inl ⟨rfl, rfl, fun _ => rfl⟩⟩
 . simp at hcs
   subst hcs
   simp only [if_true] at hmm
   have one : ∀ i, i < len -> ∃ cs : List Value, cs.length = u.n /\ (∀ j, j < u.n -> w.cell? (a.add (i * u.n + j)) = cs[j]?) /\ ∃ d, u.Rd w cs d := by
    intro i hi
    obtain ⟨cs', h1, h2⟩ := hx i (by omega)
    rw [ce] at h1
    obtain ⟨_, hlen, hcell⟩ := World.cells?_some h1
    refine ⟨cs', hlen, fun j hj => ?_, each n cs' _ hlen h2⟩
    have := hcell j hj
    rw [add_add] at this
    exact this
   obtain ⟨q, hq⟩ := choose_lt one
   exact rd_row hl (by unfold maxLen at hm; omega) q hn (fun i hi => (hq i hi).1) (fun i hi => (hq i hi).2.1) (fun i hi => (hq i hi).2.2)

theorem rdMemS_of {fuel : Nat} {v : Value} {x : DataW H × List MemPlace} (h : DataW.trod enc Try.prog w 0 (fun _ => true) held fuel 24 [v] = some x) : ∃ d, (tMemS 122 70).Rd w [v] d := by
 refine rdRow_of (e := 70) Try.underlying24 (by kernel_rfl) (by decide) (fun n cs y hl hy => ?_) h
 match cs, hl with
 | [v0, v1, v2, v3], _ =>
  obtain ⟨xs, k, _, _, _, hxl, hf⟩ := DataW.trod_struct Try.underlying70 hy
  have c1 : Try.prog.cellsOf 67 = 1 := by kernel_rfl
  have c2 : Try.prog.cellsOf 68 = 1 := by kernel_rfl
  have c3 : Try.prog.cellsOf 4 = 1 := by kernel_rfl
  have c4 : Try.prog.cellsOf 39 = 1 := by kernel_rfl
  match xs, hxl with
  | [y0, y1, y2, y3], _ =>
   have g0 := hf 0 _ rfl
   have g1 := hf 1 _ rfl
   have g2 := hf 2 _ rfl
   have g3 := hf 3 _ rfl
   simp [c1] at g0
   simp [c2] at g1
   simp [c3] at g2
   simp [c4] at g3
   obtain ⟨ss, r0⟩ := rdIntSS_of Try.underlying67 Try.underlying39 Try.underlying3 (by kernel_rfl) (by kernel_rfl) g0
   obtain ⟨ws, r1⟩ := rdWrS_of (E := 122) Try.underlying68 Try.underlying122 (by kernel_rfl) rfl rfl (by kernel_rfl) (by kernel_rfl) Try.underlying3 Try.underlying39 Try.underlying3 (by kernel_rfl) g1
   obtain ⟨f, hfb, _⟩ := DataW.trod_bool Try.underlying4 g2
   obtain ⟨bs, r3⟩ := rdInts_of Try.underlying39 Try.underlying3 (by kernel_rfl) g3
   simp at hfb
   subst hfb
   exact ⟨(ss, ws, f, bs), pair_rd_of (vs := [v0]) r0 (pair_rd_of (vs := [v1]) r1 (pair_rd_of (t := boolTy) (vs := [.bool f]) ⟨[], rfl, rfl⟩ r3))⟩

end Go.Proofs.Ytlcjfgmmjkandaa

namespace Go.Proofs.Ytlcjfgmmjkandaa.fnExactAssemble
open Go.ChangeShapes Go.WideShapes Go.ChangeAt Go.RowKit Go.Joins
open Go.ChangeMaps (open_string shut_string)
set_option linter.unusedVariables false

theorem own : ownKnob Try.prog.godebug = none := by kernel_rfl
theorem laidOut : laidOutB Try.prog = true := by kernel_rfl

theorem lifted (os : Os) (started : os.Started) (H : Type) (enc : TypeId × Value -> H) :
 ReturnsInHanded {} Try.checked os 5 .any (Rows.fnExactAssembleSpec.pre6 enc Try.prog Try.f5 Rows.fnExactAssembleRow.domain false) (Rows.fnExactAssembleSpec.post enc Try.prog Try.f5 false true false false) := by
 refine returnsInHanded_of_change (C := Try.checked) own started (by kernel_rfl) Try.func5
  (ChangeSpec.witness6 (enc := enc) (C := Try.checked) false ⟨#[], #[.slice none 0 0, .int .i64 0], []⟩ 8 (by kernel_rfl) (by kernel_rfl) (by kernel_rfl) (by kernel_rfl)) ?_
 intro W base args ds gs before hval0 hW hcnd _
 have hval : ∀ (j : Nat) t v, Try.f5.params[j]? = some t -> args[j]? = some v -> Value.okWide Try.prog W .any base t v := hval0
 have hW' := hW
 obtain ⟨p, q, hA0, hV, rfl, hfz, hnd⟩ := hW
 have hA : DataW.TrodAll enc Try.prog W 0 (fun _ => true) true Try.f5.params.toList args.toList ds p := hA0
 rw [Try.params5] at hA hval
 obtain ⟨v0, vs0, d0, ds0, p0, q0, hargs0, rfl, rfl, h0, r0⟩ := trodAll_cons hA
 obtain ⟨v1, vs1, d1, ds1, p1, q1, hargs1, rfl, rfl, h1, r1⟩ := trodAll_cons r0
 obtain ⟨rfl, rfl, rfl⟩ := trodAll_nil r1
 obtain rfl : args = #[v0, v1] := by cases args; simp_all
 obtain ⟨rfl, rfl⟩ := trodVars_none hV
 have k0 := h0
 have lt0 : ∀ x ∈ p0, x.block < W.heap.size := by obtain ⟨m, hm⟩ := k0; exact DataW.trod_lt m _ _ _ hm
 obtain ⟨a0, l0, c0, hv0⟩ := okWide_slice Try.underlying24 (hval 0 24 v0 rfl rfl)
 subst hv0
 obtain ⟨ms0, g0⟩ : ∃ d, (tMemS 122 70).Rd W [.slice a0 l0 c0] d := by
  obtain ⟨fuel, hf⟩ := h0
  exact rdMemS_of hf
 have k1 := h1
 have lt1 : ∀ x ∈ p1, x.block < W.heap.size := by obtain ⟨m, hm⟩ := k1; exact DataW.trod_lt m _ _ _ hm
 obtain ⟨x1, hv1, _, _, wf1⟩ := open_int Try.underlying3 (hval 1 3 v1 rfl rfl) h1
 subst hv1
 clear hA0 hval0
 refine (fnExactAssemble_walk a0 l0 c0 ms0 x1 W g0).mono fun e W' ⟨he, bel⟩ => ?_
 subst he
 exact ⟨_, rfl, _, _, _, [], _, [], hW', trodAll_mk1 (shut_bool Try.underlying4 _), (trodAll_cons_mk (Below.trod laidOut (by kernel_rfl) (of_decide_eq_true (by kernel_rfl)) k0 bel lt0) (trodAll_cons_mk (Below.trod laidOut (by kernel_rfl) (of_decide_eq_true (by kernel_rfl)) k1 bel lt1) trodAll_mk0)), rfl, bel.frame _, fun h => by cases h⟩

theorem over : Rows.fnExactAssembleRow.holds Try.pinned (OpenSpec.ofChange Rows.fnExactAssembleSpec) :=
 OpenClaim.holds_of_wide 5 Try.f5 rfl rfl rfl rfl rfl rfl rfl ⟨rfl, rfl, rfl, rfl, rfl⟩ rfl rfl rfl rfl rfl (by kernel_rfl) Try.func5 (by kernel_rfl)
  (of_decide_eq_true (by kernel_rfl)) (by unfold Func.isWrapper; first | (rw [if_pos (by decide +kernel)]; kernel_rfl) | (rw [if_neg (by decide +kernel)]; exact ⟨rfl, rfl⟩))
  (fun os started H enc _ => lifted os started H enc)
end Go.Proofs.Ytlcjfgmmjkandaa.fnExactAssemble

namespace Go.Proofs.Ytlcjfgmmjkandaa
theorem fnExactAssemble_holds : Rows.FnExactAssembleSaid := fnExactAssemble.over
#print axioms fnExactAssemble_holds
end Go.Proofs.Ytlcjfgmmjkandaa


/-
  The walks of the program's worked and of what it defers: an array as work leaves it, which may give up where the power goes. Condition: the array weighs at most 2097152.
-/
import Derived.Test.YthkpkpclmemodaaGreatWalkDel
import Derived.Test.YthkpkpclmemodaaGreatWalkFlush
import Derived.Test.YthkpkpclmemodaaGreatWalkL2Has
import Derived.Test.YthkpkpclmemodaaGreatData
import Derived.Test.YthkpkpclmemodaaGreatWalkSecOk
import Derived.Test.YthkpkpclmemodaaGreatBox
import Derived.Test.YthkpkpclmemodaaGreatWalkWriteSpec
import Derived.Test.YthkpkpclmemodaaGreatArr7
import Derived.Test.YthkpkpclmemodaaGreatRowCheckAll4
import Derived.Test.YthkpkpclmemodaaGreatWalkMems
import Derived.Test.YthkpkpclmemodaaGreatWalkArr
import Derived.Test.YthkpkpclmemodaaGreatWalkCopy
import Derived.Test.YthkpkpclmemodaaGreatWalkCopySpec
import Derived.Test.YthkpkpclmemodaaGreatOrder
import Derived.Test.YthkpkpclmemodaaGreatGrow
import Derived.Recover

/-
  The walk of the specification's SpoilSec: one sector more that can't be read, among the others, in memory of its own; else the disk as it was. Condition: the disk weighs at most 2097152.
-/
namespace Go.Proofs.YthkpkpclmemodaaGreat
open Go.RowKit

/-- Whether a sector is spoilt anew; a number among ascending ones; the sectors that can't be read behind it. -/
def spOk (ss : List (List Int)) (cs : List (Int × List Int)) (bs : List Int) (n : Int) : Bool := memB ss cs bs && (inB n 0 ((ss.length : Int) - 1) && !inL bs n)
def insD (bs : List Int) (n : Int) : List Int := bs.take (bs.filter fun x => decide (x ≤ n)).length ++ n :: bs.drop (bs.filter fun x => decide (x ≤ n)).length
def spBS (ss : List (List Int)) (cs : List (Int × List Int)) (bs : List Int) (n : Int) : List Int := if spOk ss cs bs n = true then insD bs n else bs
theorem ins_eq {bs : List Int} {n : Int} {k : Nat} (h1 : ∀ x ∈ bs.take k, x ≤ n) (h2 : ∀ x ∈ bs.drop k, n < x) (hk : k ≤ bs.length) : insD bs n = bs.take k ++ n :: bs.drop k := by
  have e : (bs.filter fun x => decide (x ≤ n)).length = k := by
    have h3 : (bs.take k ++ bs.drop k).filter (fun x => decide (x ≤ n)) = bs.take k := by
      rw [List.filter_append, List.filter_eq_self.2 (fun x hx => by simp [h1 x hx]), List.filter_eq_nil_iff.2 (fun x hx => by have := h2 x hx; simp; omega), List.append_nil]
    rw [List.take_append_drop] at h3
    rw [h3, List.length_take]
    omega
  unfold insD
  rw [e]
theorem bad_lt {ss : List (List Int)} {cs : List (Int × List Int)} {bs : List Int} (h : memB ss cs bs = true) : ∀ i, i + 1 < bs.length → bs.getD i 0 < bs.getD (i + 1) 0 := by
  unfold memB at h
  simp only [Bool.and_eq_true] at h
  have h1 := h.2.2.1
  unfold badB at h1
  rw [List.all_eq_true] at h1
  intro i hi
  have h2 := h1 (i + 1) (List.mem_range.2 hi)
  unfold badAt at h2
  simp at h2
  have h3 := h2.2
  rw [List.getD_eq_getElem?_getD, List.getD_eq_getElem?_getD]
  exact h3
/-- All ahead of one that is not greater are not greater. -/
theorem take_le {bs : List Int} {n : Int} {k : Nat} (ha : ∀ i, i + 1 < bs.length → bs.getD i 0 < bs.getD (i + 1) 0) (hk : k ≤ bs.length) (h : k = 0 ∨ bs.getD (k - 1) 0 ≤ n) : ∀ x ∈ bs.take k, x ≤ n := by
  intro x hx
  obtain ⟨i, hi⟩ := List.mem_iff_getElem?.1 hx
  rw [List.getElem?_take] at hi
  by_cases hik : i < k
  · rw [if_pos hik] at hi
    have hd : bs.getD i 0 = x := by rw [List.getD_eq_getElem?_getD, hi]; rfl
    rcases h with h | h
    · omega
    · have mono : ∀ d, i + d < k → bs.getD i 0 ≤ bs.getD (i + d) 0 := by
        intro d
        induction d with
        | zero => intro _; exact Int.le_refl _
        | succ d ih =>
          intro hd'
          have h1 := ih (by omega)
          have h2 := ha (i + d) (by omega)
          have e : i + d + 1 = i + (d + 1) := by omega
          rw [e] at h2
          omega
      have h3 := mono (k - 1 - i) (by omega)
      have e : i + (k - 1 - i) = k - 1 := by omega
      rw [e, hd] at h3
      omega
  · rw [if_neg hik] at hi
    simp at hi

end Go.Proofs.YthkpkpclmemodaaGreat

/-
  The walks of both MemNew (the program's and the specification's): a new disk, in memory of its own. No condition.
-/
namespace Go.Proofs.YthkpkpclmemodaaGreat
open Go.RowKit

/-- A new disk. -/
def newSS (n : Int) : List (List Int) := if 1 ≤ n ∧ n ≤ 20 then List.replicate n.toNat [] else []

end Go.Proofs.YthkpkpclmemodaaGreat

/-
  A disk that is MemOk stays so: new, flushed or fallen, written, spoilt. Plain lemmas. No condition.
-/
namespace Go.Proofs.YthkpkpclmemodaaGreat
open Go.RowKit

theorem asc_pairwise {bs : List Int} (ha : ∀ i, i + 1 < bs.length → bs.getD i 0 < bs.getD (i + 1) 0) : bs.Pairwise (· < ·) := by
  have mono : ∀ d i, i + (d + 1) < bs.length → bs.getD i 0 < bs.getD (i + (d + 1)) 0 := by
    intro d
    induction d with
    | zero => intro i hi; exact ha i hi
    | succ d ih =>
      intro i hi
      have h1 := ih i (by omega)
      have h2 := ha (i + (d + 1)) (by omega)
      have e : i + (d + 1) + 1 = i + (d + 1 + 1) := by omega
      rw [e] at h2
      omega
  rw [List.pairwise_iff_getElem]
  intro i j hi hj hij
  have h := mono (j - i - 1) i (by omega)
  have e : i + (j - i - 1 + 1) = j := by omega
  rw [e, List.getD_eq_getElem?_getD, List.getD_eq_getElem?_getD, List.getElem?_eq_getElem hi, List.getElem?_eq_getElem hj] at h
  exact h

theorem badB_iff (n : Int) (bs : List Int) : badB n bs = true ↔ (∀ x ∈ bs, 0 ≤ x ∧ x ≤ n - 1) ∧ bs.Pairwise (· < ·) := by
  unfold badB
  rw [List.all_eq_true]
  constructor
  · intro h
    refine ⟨fun x hx => ?_, asc_pairwise (fun i hi => ?_)⟩
    · obtain ⟨i, hi⟩ := List.mem_iff_getElem?.1 hx
      have hil : i < bs.length := (List.getElem?_eq_some_iff.1 hi).1
      have h1 := h i (List.mem_range.2 hil)
      unfold badAt inB at h1
      rw [List.getD_eq_getElem?_getD, hi] at h1
      simp at h1
      omega
    · have h1 := h (i + 1) (List.mem_range.2 hi)
      unfold badAt at h1
      simp at h1
      rw [List.getD_eq_getElem?_getD, List.getD_eq_getElem?_getD]
      exact h1.2
  · rintro ⟨h1, h2⟩ i hi
    have hil : i < bs.length := List.mem_range.1 hi
    unfold badAt inB
    have e : bs.getD i 0 = bs[i] := by rw [List.getD_eq_getElem?_getD, List.getElem?_eq_getElem hil]; rfl
    have h3 := h1 bs[i] (List.getElem_mem hil)
    rw [e]
    simp only [Bool.and_eq_true, Bool.or_eq_true, decide_eq_true_eq]
    refine ⟨⟨by omega, by omega⟩, ?_⟩
    by_cases h0 : i = 0
    · exact .inl h0
    · right
      have h4 := List.pairwise_iff_getElem.1 h2 (i - 1) i (by omega) hil (by omega)
      rw [List.getD_eq_getElem?_getD, List.getElem?_eq_getElem (by omega : i - 1 < bs.length)]
      exact h4

theorem memB_iff (ss : List (List Int)) (cs : List (Int × List Int)) (bs : List Int) : memB ss cs bs = true ↔ (∀ x ∈ ss, secB x = true) ∧ (∀ x ∈ cs, wrB ss.length x = true) ∧ badB ss.length bs = true ∧ inB ss.length 1 20 = true ∧ cs.length ≤ 60 := by
  unfold memB
  simp only [Bool.and_eq_true, List.all_eq_true, decide_eq_true_eq]

theorem memB_flush {ss : List (List Int)} {cs : List (Int × List Int)} {bs : List Int} (h : memB ss cs bs = true) (ks : List (Int × List Int)) (hk : ∀ x ∈ ks, x ∈ cs) : memB (flushD ss ks) [] bs = true := by
  obtain ⟨h1, h2, h3, h4, _⟩ := (memB_iff _ _ _).1 h
  rw [memB_iff, flushD_length]
  refine ⟨fun x hx => ?_, by simp, h3, h4, by simp⟩
  unfold flushD at hx
  obtain ⟨k, hkr, rfl⟩ := List.mem_map.1 hx
  have hkl : k < ss.length := List.mem_range.1 hkr
  cases hl : lastW ks (k : Int) with
  | some zs =>
    have h5 := h2 _ (hk _ (lastW_mem hl))
    unfold wrB at h5
    simp only [Bool.and_eq_true] at h5
    exact h5.2
  | none => exact h1 _ (List.mem_of_getElem? (getD_some hkl))

theorem memB_write {ss : List (List Int)} {cs : List (Int × List Int)} {f : Bool} {bs : List Int} {n : Int} {sw : List Int} (h : wrOk ss cs f bs n sw = true) : memB ss (cs ++ [(n, sw)]) (filt bs n) = true := by
  unfold wrOk at h
  simp only [Bool.and_eq_true, decide_eq_true_eq] at h
  obtain ⟨hM, _, hI, hS, hL⟩ := h
  obtain ⟨h1, h2, h3, h4, _⟩ := (memB_iff _ _ _).1 hM
  rw [memB_iff]
  refine ⟨h1, fun x hx => ?_, ?_, h4, by rw [List.length_append]; simp; omega⟩
  · rcases List.mem_append.1 hx with hx | hx
    · exact h2 x hx
    · simp at hx
      subst hx
      unfold wrB
      rw [hI, hS]
      rfl
  · rw [badB_iff] at h3 ⊢
    exact ⟨fun x hx => h3.1 x (List.mem_filter.1 hx).1, h3.2.filter _⟩

theorem memB_spoil {ss : List (List Int)} {cs : List (Int × List Int)} {bs : List Int} {n : Int} (h : spOk ss cs bs n = true) : memB ss cs (insD bs n) = true := by
  unfold spOk at h
  simp only [Bool.and_eq_true, Bool.not_eq_true'] at h
  obtain ⟨hM, hI, hH⟩ := h
  have hasc := bad_lt hM
  obtain ⟨h1, h2, h3, h4, h5⟩ := (memB_iff _ _ _).1 hM
  rw [memB_iff]
  refine ⟨h1, h2, ?_, h4, h5⟩
  rw [badB_iff] at h3 ⊢
  have hn : ∀ x ∈ bs, x ≠ n := by
    intro x hx e
    unfold inL at hH
    rw [List.any_eq_false] at hH
    exact hH x hx (by simp [e])
  unfold inB at hI
  simp at hI
  refine ⟨fun x hx => ?_, ?_⟩
  · unfold insD at hx
    rcases List.mem_append.1 hx with hx | hx
    · exact h3.1 x (List.mem_of_mem_take hx)
    · rcases List.mem_cons.1 hx with rfl | hx
      · omega
      · exact h3.1 x (List.mem_of_mem_drop hx)
  · have hp := h3.2
    have hle : ∀ (l : List Int), l.Pairwise (· < ·) → (∀ x ∈ l, x ≠ n) → ∃ k, k ≤ l.length ∧ (∀ x ∈ l.take k, x ≤ n) ∧ (∀ x ∈ l.drop k, n < x) := by
      intro l
      induction l with
      | nil => intro _ _; exact ⟨0, by simp, by simp, by simp⟩
      | cons y l ih =>
        intro hp hne
        rw [List.pairwise_cons] at hp
        by_cases hy : y ≤ n
        · obtain ⟨k, k1, k2, k3⟩ := ih hp.2 (fun x hx => hne x (List.mem_cons_of_mem _ hx))
          refine ⟨k + 1, by simp; omega, fun x hx => ?_, by simpa using k3⟩
          rw [List.take_succ_cons] at hx
          rcases List.mem_cons.1 hx with rfl | hx
          · exact hy
          · exact k2 x hx
        · refine ⟨0, by simp, by simp, fun x hx => ?_⟩
          rw [List.drop_zero] at hx
          rcases List.mem_cons.1 hx with rfl | hx
          · omega
          · have := hp.1 x hx
            omega
    obtain ⟨k, k1, k2, k3⟩ := hle bs hp hn
    rw [ins_eq k2 k3 k1]
    rw [List.pairwise_append, List.pairwise_cons]
    refine ⟨hp.sublist (List.take_sublist _ _), ⟨k3, hp.sublist (List.drop_sublist _ _)⟩, fun a ha b hb => ?_⟩
    have h6 := k2 a ha
    have h7 := hn a (List.mem_of_mem_take ha)
    rcases List.mem_cons.1 hb with rfl | hb
    · omega
    · have := k3 b hb
      omega

theorem memB_new {n : Int} (h1 : 1 ≤ n) (h2 : n ≤ 20) : memB (newSS n) [] [] = true := by
  rw [memB_iff]
  unfold newSS
  rw [if_pos ⟨h1, h2⟩]
  refine ⟨fun x hx => ?_, by simp, by rw [badB_iff]; simp, ?_, by simp⟩
  · rw [List.eq_of_mem_replicate hx]
    decide
  · unfold inB
    simp
    omega

end Go.Proofs.YthkpkpclmemodaaGreat

/-
  What the operations on an array's disks make of it: one operation counted, a sector written, all flushed, marked, checked; what they keep. Plain lemmas. No condition.
-/
namespace Go.Proofs.YthkpkpclmemodaaGreat
open Go.RowKit

def memZ : MemD := ([], [], false, [])
def opB (x : ArrN) : Bool := !x.down && !decide (x.fuse = 0)
def opX (x : ArrN) : ArrN := if x.down = true then x else if x.fuse = 0 then {x with down := true, fuse := -1} else if 0 < x.fuse then {x with fuse := x.fuse - 1} else x
def wrM (d : MemD) (n : Int) (s : List Int) : MemD := (d.1, wrCS d.1 d.2.1 d.2.2.1 d.2.2.2 n s, d.2.2.1, wrBS d.1 d.2.1 d.2.2.1 d.2.2.2 n s)
def flM (d : MemD) : MemD := (flSS d.1 d.2.1 d.2.2.1 d.2.2.2, flCS d.1 d.2.1 d.2.2.1 d.2.2.2, d.2.2.1, d.2.2.2)
/-- An operation at the disk i: if it is not Failed, it counts; if it is done, the disk is turned. -/
def doS (q : ArrN × List MemD) (i : Nat) (f : MemD → MemD) : ArrN × List MemD :=
  if (q.2.getD i memZ).2.2.1 = true then q else if opB q.1 = true then (opX q.1, q.2.set i (f (q.2.getD i memZ))) else (opX q.1, q.2)
def putS (q : ArrN × List MemD) (i : Nat) (n : Int) (s : List Int) : ArrN × List MemD := doS q i fun d => wrM d n s
def syncS (q : ArrN × List MemD) (j : Nat) : ArrN × List MemD := (List.range j).foldl (fun q i => doS q i flM) q
def supA (x : ArrN) (i : Nat) : Sup := ⟨x.id, x.gen, (i : Int), x.n, x.s, x.tail, x.lost, x.built⟩
def supsS (q : ArrN × List MemD) (j : Nat) : ArrN × List MemD := (List.range j).foldl (fun q i => putS q i (q.1.gen % 2) (putD (supA q.1 i))) q
def markS (q : ArrN × List MemD) : ArrN × List MemD := syncS (supsS ({q.1 with gen := q.1.gen + 1}, q.2) q.2.length) q.2.length
def checkS (q : ArrN × List MemD) : ArrN × List MemD := if (syncS q q.2.length).1.down = true then syncS q q.2.length else markS ({(syncS q q.2.length).1 with tail := (syncS q q.2.length).1.seq}, (syncS q q.2.length).2)

/-- Every disk is right. -/
def MsOk (ms : List MemD) : Prop := ∀ (i : Nat) (d : MemD), ms[i]? = some d → memB d.1 d.2.1 d.2.2.2 = true

/-- The numbers but those of the power are the same. -/
def SameN (x y : ArrN) : Prop := y.id = x.id ∧ y.n = x.n ∧ y.s = x.s ∧ y.lost = x.lost ∧ y.built = x.built ∧ y.seq = x.seq ∧ y.tail = x.tail ∧ y.gen = x.gen ∧ y.broken = x.broken ∧ y.fuse ≤ 1000 ∧ (-1 ≤ x.fuse → -1 ≤ y.fuse)
theorem SameN.refl {x : ArrN} (h : x.fuse ≤ 1000) : SameN x x := ⟨rfl, rfl, rfl, rfl, rfl, rfl, rfl, rfl, rfl, h, fun h => h⟩
theorem SameN.trans {x y z : ArrN} (h : SameN x y) (k : SameN y z) : SameN x z := by
  obtain ⟨a1, a2, a3, a4, a5, a6, a7, a8, a9, _, b⟩ := h
  obtain ⟨c1, c2, c3, c4, c5, c6, c7, c8, c9, c10, d⟩ := k
  exact ⟨c1.trans a1, c2.trans a2, c3.trans a3, c4.trans a4, c5.trans a5, c6.trans a6, c7.trans a7, c8.trans a8, c9.trans a9, c10, fun h => d (b h)⟩
theorem opX_same {x : ArrN} (h : x.fuse ≤ 1000) : SameN x (opX x) := by
  unfold opX
  split
  · exact SameN.refl h
  · split
    · exact ⟨rfl, rfl, rfl, rfl, rfl, rfl, rfl, rfl, rfl, by dsimp only; omega, fun _ => by dsimp only; omega⟩
    · split
      · exact ⟨rfl, rfl, rfl, rfl, rfl, rfl, rfl, rfl, rfl, by dsimp only; omega, fun _ => by dsimp only; omega⟩
      · exact SameN.refl h
theorem opX_keeps {x : ArrN} (h : x.fuse ≤ 1000) : (opX x).fuse ≤ 1000 := (opX_same h).2.2.2.2.2.2.2.2.2.1
theorem getD_at {ms : List MemD} {i : Nat} {d : MemD} (h : ms[i]? = some d) : ms.getD i memZ = d := by rw [List.getD_eq_getElem?_getD, h]; rfl
theorem doS_failed {q : ArrN × List MemD} {i : Nat} {d : MemD} {f : MemD → MemD} (h : q.2[i]? = some d) (hf : d.2.2.1 = true) : doS q i f = q := by unfold doS; rw [getD_at h, if_pos hf]
theorem doS_no {q : ArrN × List MemD} {i : Nat} {d : MemD} {f : MemD → MemD} (h : q.2[i]? = some d) (hf : d.2.2.1 = false) (ho : opB q.1 = false) : doS q i f = (opX q.1, q.2) := by unfold doS; rw [getD_at h, if_neg (by simp [hf]), if_neg (by simp [ho])]
theorem doS_yes {q : ArrN × List MemD} {i : Nat} {d : MemD} {f : MemD → MemD} (h : q.2[i]? = some d) (hf : d.2.2.1 = false) (ho : opB q.1 = true) : doS q i f = (opX q.1, q.2.set i (f d)) := by unfold doS; rw [getD_at h, if_neg (by simp [hf]), if_pos ho]
theorem doS_len (q : ArrN × List MemD) (i : Nat) (f : MemD → MemD) : (doS q i f).2.length = q.2.length := by
  unfold doS
  split
  · rfl
  · split
    · exact List.length_set
    · rfl
theorem doS_same {q : ArrN × List MemD} (i : Nat) (f : MemD → MemD) (h : q.1.fuse ≤ 1000) : SameN q.1 (doS q i f).1 := by
  unfold doS
  split
  · exact SameN.refl h
  · split <;> exact opX_same h
theorem MsOk.set {ms : List MemD} {i : Nat} {d : MemD} (h : MsOk ms) (hd : memB d.1 d.2.1 d.2.2.2 = true) : MsOk (ms.set i d) := by
  intro k e he
  by_cases hk : k = i
  · subst hk
    by_cases hl : k < ms.length
    · rw [List.getElem?_set_self hl] at he
      simp at he
      subst he
      exact hd
    · rw [List.getElem?_eq_none (by rw [List.length_set]; omega)] at he
      cases he
  · rw [List.getElem?_set_ne (fun e => hk e.symm)] at he
    exact h k e he
theorem doS_ok {q : ArrN × List MemD} {i : Nat} {f : MemD → MemD} (h : MsOk q.2) (hf : ∀ d : MemD, memB d.1 d.2.1 d.2.2.2 = true → memB (f d).1 (f d).2.1 (f d).2.2.2 = true) : MsOk (doS q i f).2 := by
  unfold doS
  split
  · exact h
  · split
    · cases hd : q.2[i]? with
      | none =>
        rw [List.set_eq_of_length_le (by rw [List.getElem?_eq_none_iff] at hd; exact hd)]
        exact h
      | some d => rw [getD_at hd]; exact h.set (hf d (h i d hd))
    · exact h
theorem wrM_ok (n : Int) (s : List Int) (d : MemD) (h : memB d.1 d.2.1 d.2.2.2 = true) : memB (wrM d n s).1 (wrM d n s).2.1 (wrM d n s).2.2.2 = true := by
  unfold wrM wrCS wrBS
  dsimp only
  by_cases hw : wrOk d.1 d.2.1 d.2.2.1 d.2.2.2 n s = true
  · rw [if_pos hw, if_pos hw]
    exact memB_write hw
  · rw [if_neg hw, if_neg hw]
    exact h
theorem flM_ok (d : MemD) (h : memB d.1 d.2.1 d.2.2.2 = true) : memB (flM d).1 (flM d).2.1 (flM d).2.2.2 = true := by
  unfold flM flSS flCS
  dsimp only
  by_cases hw : (memB d.1 d.2.1 d.2.2.2 && !d.2.2.1) = true
  · rw [if_pos hw, if_pos hw]
    exact memB_flush h d.2.1 (fun _ h => h)
  · rw [if_neg hw, if_neg hw]
    exact h
theorem putS_ok {q : ArrN × List MemD} {i : Nat} {n : Int} {s : List Int} (h : MsOk q.2) : MsOk (putS q i n s).2 := doS_ok h (wrM_ok n s)
theorem syncS_succ (q : ArrN × List MemD) (j : Nat) : syncS q (j + 1) = doS (syncS q j) j flM := by unfold syncS; rw [List.range_succ, List.foldl_append]; rfl
theorem syncS_keeps {q : ArrN × List MemD} (h : MsOk q.2) (hf : q.1.fuse ≤ 1000) : ∀ j, MsOk (syncS q j).2 ∧ SameN q.1 (syncS q j).1 ∧ (syncS q j).2.length = q.2.length
  | 0 => ⟨h, SameN.refl hf, rfl⟩
  | j + 1 => by
    obtain ⟨h1, h2, h3⟩ := syncS_keeps h hf j
    rw [syncS_succ]
    exact ⟨doS_ok h1 flM_ok, h2.trans (doS_same _ _ h2.2.2.2.2.2.2.2.2.2.1), by rw [doS_len]; exact h3⟩
theorem supsS_succ (q : ArrN × List MemD) (j : Nat) : supsS q (j + 1) = putS (supsS q j) j ((supsS q j).1.gen % 2) (putD (supA (supsS q j).1 j)) := by unfold supsS; rw [List.range_succ, List.foldl_append]; rfl
theorem supsS_keeps {q : ArrN × List MemD} (h : MsOk q.2) (hf : q.1.fuse ≤ 1000) : ∀ j, MsOk (supsS q j).2 ∧ SameN q.1 (supsS q j).1 ∧ (supsS q j).2.length = q.2.length
  | 0 => ⟨h, SameN.refl hf, rfl⟩
  | j + 1 => by
    obtain ⟨h1, h2, h3⟩ := supsS_keeps h hf j
    rw [supsS_succ]
    exact ⟨putS_ok h1, h2.trans (doS_same _ _ h2.2.2.2.2.2.2.2.2.2.1), by unfold putS; rw [doS_len]; exact h3⟩
theorem bad_ge {n : Int} {bs : List Int} (h : badB n bs = true) : ∀ i : Nat, i < bs.length → (i : Int) ≤ bs.getD i 0
  | 0, hi => by
    unfold badB at h
    have := (List.all_eq_true.1 h) 0 (List.mem_range.2 hi)
    unfold badAt inB at this
    simp at this
    have e : bs.getD 0 0 = bs[0]?.getD 0 := List.getD_eq_getElem?_getD ..
    rw [e]
    omega
  | i + 1, hi => by
    have h1 := bad_ge h i (by omega)
    unfold badB at h
    have h2 := (List.all_eq_true.1 h) (i + 1) (List.mem_range.2 hi)
    unfold badAt at h2
    simp only [Bool.and_eq_true, Bool.or_eq_true, decide_eq_true_eq] at h2
    rw [Nat.add_sub_cancel] at h2
    omega
theorem bad_len {n : Int} {bs : List Int} (h : badB n bs = true) : bs = [] ∨ (bs.length : Int) ≤ n := by
  by_cases h0 : bs.length = 0
  · exact .inl (List.length_eq_zero_iff.1 h0)
  · right
    have h1 := bad_ge h (bs.length - 1) (by omega)
    unfold badB at h
    have h2 := (List.all_eq_true.1 h) (bs.length - 1) (List.mem_range.2 (by omega))
    unfold badAt at h2
    simp only [Bool.and_eq_true] at h2
    have h3 := inB_iff.1 h2.1
    omega
/-- A disk that is right weighs little. -/
theorem memB_light {ss : List (List Int)} {cs : List (Int × List Int)} {bs : List Int} (h : memB ss cs bs = true) (f : Bool) : wtMem (ss, cs, f, bs) ≤ 2000 := by
  have h1 := sumL_bound (ss.map List.length) 12 (fun x hx => by
    obtain ⟨y, hy, rfl⟩ := List.mem_map.1 hx
    exact (mem_small h).1 y hy)
  have h2 := sumL_bound (cs.map fun x => x.2.length) 12 (fun x hx => by
    obtain ⟨y, hy, rfl⟩ := List.mem_map.1 hx
    exact (mem_small h).2 y hy)
  have h3 := mem_secs h
  have h5 := h
  unfold memB at h5
  simp only [Bool.and_eq_true, decide_eq_true_eq] at h5
  have h4 : cs.length ≤ 60 := h5.2.2.2.2
  have h6 : bs.length ≤ 20 := by
    rcases bad_len h5.2.2.1 with h7 | h7
    · rw [h7]; simp
    · omega
  rw [List.length_map] at h1 h2
  unfold wtMem wtIntSS wtWrS
  simp only
  omega

end Go.Proofs.YthkpkpclmemodaaGreat

/-
  What a list of disk operations makes of an array, where the power may go within it: plain lemmas. No condition.
-/
namespace Go.Proofs.YthkpkpclmemodaaGreat
open Go.RowKit

/-- A disk operation: its disk; none: it is flushed; some none: what it knows is written; some (some (n, s)): its sector n is written. -/
abbrev DOp := Nat × Option (Option (Int × List Int))
def supM (d : MemD) (u : Sup) : MemD := (d.1, wsCS d.1 d.2.1 d.2.2.1 d.2.2.2 u, d.2.2.1, wsBS d.1 d.2.1 d.2.2.1 d.2.2.2 u)
def opF (o : DOp) (x : ArrN) : MemD → MemD :=
  match o.2 with
  | none => flM
  | some none => fun d => supM d (supA x o.1)
  | some (some p) => fun d => wrM d p.1 p.2
def runS (q : ArrN × List MemD) (ops : List DOp) : ArrN × List MemD := ops.foldl (fun q o => doS q o.1 (opF o q.1)) q

theorem opX_down {x : ArrN} (h : x.down = true) : opX x = x := by unfold opX; rw [if_pos h]
theorem opB_down {x : ArrN} (h : x.down = true) : opB x = false := by unfold opB; simp [h]
theorem opX_no {x : ArrN} (h : opB x = false) : (opX x).down = true := by
  unfold opB at h
  unfold opX
  by_cases hd : x.down = true
  · rw [if_pos hd]; exact hd
  · rw [if_neg hd]
    simp at h
    rw [if_pos (h (by simpa using hd))]
theorem opX_yes {x : ArrN} (h : opB x = true) : (opX x).down = false := by
  unfold opB at h
  simp at h
  unfold opX
  rw [if_neg (by simp [h.1]), if_neg h.2]
  split
  · exact h.1
  · exact h.1
theorem doS_down {q : ArrN × List MemD} (i : Nat) (f : MemD → MemD) (h : q.1.down = true) : doS q i f = q := by
  unfold doS
  rw [opB_down h, opX_down h]
  split
  · rfl
  · rfl
theorem runS_down {q : ArrN × List MemD} (h : q.1.down = true) : ∀ ops : List DOp, runS q ops = q
  | [] => rfl
  | o :: ops => by
    unfold runS
    rw [List.foldl_cons, doS_down _ _ h]
    exact runS_down h ops
theorem runS_app (q : ArrN × List MemD) (a b : List DOp) : runS q (a ++ b) = runS (runS q a) b := by unfold runS; rw [List.foldl_append]
theorem runS_one (q : ArrN × List MemD) (o : DOp) : runS q [o] = doS q o.1 (opF o q.1) := rfl
theorem runS_next {q : ArrN × List MemD} {ops : List DOp} {j : Nat} {o : DOp} (h : ops[j]? = some o) : runS q (ops.take (j + 1)) = doS (runS q (ops.take j)) o.1 (opF o (runS q (ops.take j)).1) := by
  rw [List.take_add_one, h, runS_app]
  rfl
theorem runS_end {q : ArrN × List MemD} {ops : List DOp} {j : Nat} (h : (runS q (ops.take j)).1.down = true) : runS q ops = runS q (ops.take j) := by
  have := runS_app q (ops.take j) (ops.drop j)
  rw [List.take_append_drop, runS_down h] at this
  exact this
theorem supM_ok (u : Sup) (d : MemD) (h : memB d.1 d.2.1 d.2.2.2 = true) : memB (supM d u).1 (supM d u).2.1 (supM d u).2.2.2 = true := by
  unfold supM wsCS wsBS
  dsimp only
  by_cases hu : supB u = true
  · rw [if_pos hu, if_pos hu]
    exact wrM_ok (u.gen % 2) (putD u) d h
  · rw [if_neg hu, if_neg hu]
    exact h
theorem supM_put {u : Sup} (h : supB u = true) (d : MemD) : supM d u = wrM d (u.gen % 2) (putD u) := by
  unfold supM wsCS wsBS wrM
  rw [if_pos h, if_pos h]
theorem opF_ok (o : DOp) (x : ArrN) (d : MemD) (h : memB d.1 d.2.1 d.2.2.2 = true) : memB (opF o x d).1 (opF o x d).2.1 (opF o x d).2.2.2 = true := by
  obtain ⟨i, k⟩ := o
  rcases k with _ | _ | ⟨n, s⟩
  · exact flM_ok d h
  · exact supM_ok _ d h
  · exact wrM_ok n s d h
theorem opF_flag (o : DOp) (x : ArrN) (d : MemD) : (opF o x d).2.2.1 = d.2.2.1 := by
  obtain ⟨i, k⟩ := o
  rcases k with _ | _ | ⟨n, s⟩ <;> rfl
theorem runS_keeps {q : ArrN × List MemD} (h : MsOk q.2) (hf : q.1.fuse ≤ 1000) : ∀ ops : List DOp, MsOk (runS q ops).2 ∧ SameN q.1 (runS q ops).1 ∧ (runS q ops).2.length = q.2.length := by
  intro ops
  induction ops generalizing q with
  | nil => exact ⟨h, SameN.refl hf, rfl⟩
  | cons o ops ih =>
    have h1 := doS_same (q := q) o.1 (opF o q.1) hf
    obtain ⟨a, b, c⟩ := ih (q := doS q o.1 (opF o q.1)) (doS_ok h (opF_ok o q.1)) h1.2.2.2.2.2.2.2.2.2.1
    exact ⟨a, h1.trans b, c.trans (doS_len _ _ _)⟩
theorem opF_opX (o : DOp) (x : ArrN) : opF o (opX x) = opF o x := by
  obtain ⟨i, k⟩ := o
  rcases k with _ | _ | ⟨n, s⟩
  · rfl
  · have e : supA (opX x) i = supA x i := by
      unfold opX
      split
      · rfl
      · split
        · rfl
        · split <;> rfl
    show (fun d => supM d (supA (opX x) i)) = fun d => supM d (supA x i)
    rw [e]
  · rfl
/-- Which disks Failed stays. -/
def flagAt (ms : List MemD) (k : Nat) : Bool := (ms.getD k memZ).2.2.1
theorem flag_set {ms : List MemD} {i : Nat} {d : MemD} (h : d.2.2.1 = flagAt ms i) (k : Nat) : flagAt (ms.set i d) k = flagAt ms k := by
  unfold flagAt
  by_cases hk : k = i
  · subst hk
    by_cases hl : k < ms.length
    · rw [List.getD_eq_getElem?_getD, List.getElem?_set_self hl]
      exact h
    · rw [List.set_eq_of_length_le (by omega)]
  · rw [List.getD_eq_getElem?_getD, List.getD_eq_getElem?_getD, List.getElem?_set_ne (fun e => hk e.symm)]
theorem doS_flag (q : ArrN × List MemD) (i : Nat) {f : MemD → MemD} (hf : ∀ d, (f d).2.2.1 = d.2.2.1) (k : Nat) : flagAt (doS q i f).2 k = flagAt q.2 k := by
  unfold doS
  split
  · rfl
  · split
    · exact flag_set (hf _) k
    · rfl
theorem runS_flag (q : ArrN × List MemD) (ops : List DOp) (k : Nat) : flagAt (runS q ops).2 k = flagAt q.2 k := by
  induction ops generalizing q with
  | nil => rfl
  | cons o ops ih => exact (ih (doS q o.1 (opF o q.1))).trans (doS_flag q o.1 (opF_flag o q.1) k)
/-- What is to be done disk by disk; a disk that Failed does nothing. -/
def opsL (K : Nat → DOp) (ms : List MemD) (j : Nat) : List DOp := ((List.range j).filter fun i => !flagAt ms i).map K
theorem opsL_succ (K : Nat → DOp) (ms : List MemD) (j : Nat) : opsL K ms (j + 1) = opsL K ms j ++ (if flagAt ms j = true then [] else [K j]) := by
  unfold opsL
  rw [List.range_succ, List.filter_append, List.map_append]
  cases h : flagAt ms j <;> simp [h]
theorem opsL_len (K : Nat → DOp) (ms : List MemD) (j : Nat) : (opsL K ms j).length ≤ j := by
  unfold opsL
  rw [List.length_map]
  exact Nat.le_trans (List.length_filter_le _ _) (by rw [List.length_range]; exact Nat.le_refl _)
theorem opsL_mem {K : Nat → DOp} {ms : List MemD} {j : Nat} {o : DOp} (h : o ∈ opsL K ms j) : ∃ i, i < j ∧ flagAt ms i = false ∧ o = K i := by
  unfold opsL at h
  obtain ⟨i, hi, rfl⟩ := List.mem_map.1 h
  obtain ⟨h1, h2⟩ := List.mem_filter.1 hi
  exact ⟨i, List.mem_range.1 h1, by simpa using h2, rfl⟩
theorem run_list {K : Nat → DOp} (hK : ∀ i, (K i).1 = i) (q : ArrN × List MemD) : ∀ j, runS q (opsL K q.2 j) = (List.range j).foldl (fun q i => doS q i (opF (K i) q.1)) q
  | 0 => rfl
  | j + 1 => by
    rw [opsL_succ, runS_app, List.range_succ, List.foldl_append, ← run_list hK q j]
    cases h : flagAt q.2 j
    · rw [if_neg (by simp), runS_one, hK]
      rfl
    · rw [if_pos rfl]
      have h2 : flagAt (runS q (opsL K q.2 j)).2 j = true := by rw [runS_flag]; exact h
      show runS q (opsL K q.2 j) = doS (runS q (opsL K q.2 j)) j _
      unfold flagAt at h2
      unfold doS
      rw [if_pos h2]
def flushK (i : Nat) : DOp := (i, none)
def supK (i : Nat) : DOp := (i, some none)
def wrK (n : Int) (s : List Int) (i : Nat) : DOp := (i, some (some (n, s)))
theorem run_sync (q : ArrN × List MemD) (j : Nat) : runS q (opsL flushK q.2 j) = syncS q j := run_list (fun _ => rfl) q j
theorem run_sups {q : ArrN × List MemD} (h : MsOk q.2) (hf : q.1.fuse ≤ 1000) (hu : ∀ i : Nat, i < q.2.length → supB (supA q.1 i) = true) : ∀ j, j ≤ q.2.length → runS q (opsL supK q.2 j) = supsS q j
  | 0, _ => rfl
  | j + 1, hj => by
    have ih := run_sups h hf hu j (by omega)
    have hs := (supsS_keeps h hf j).2.1
    rw [run_list (fun _ => rfl)] at ih ⊢
    rw [List.range_succ, List.foldl_append, ih, supsS_succ]
    have e : supA (supsS q j).1 j = supA q.1 j := by
      obtain ⟨a1, a2, a3, a4, a5, a6, a7, a8, a9, _⟩ := hs
      unfold supA
      rw [a1, a2, a3, a4, a5, a7, a8]
    have hu2 : supB (supA (supsS q j).1 j) = true := by rw [e]; exact hu j (by omega)
    show doS (supsS q j) j (fun d => supM d (supA (supsS q j).1 j)) = putS _ _ _ _
    unfold putS
    congr 1
    funext d
    exact supM_put hu2 d

end Go.Proofs.YthkpkpclmemodaaGreat

/-
  The walk of the laws' mark over slices of disks: every number, flag and word is marked in place, one behind the other. Condition: they weigh at most 2097152, and the first mark and the weight together at most 2097153.
-/
namespace Go.Proofs.YthkpkpclmemodaaGreat
open Go.RowKit

def cntMD (x : MemD) : Nat := cntSS x.1 + cntWS x.2.1 + 1 + x.2.2.2.length
def markMD (k : Int) (x : MemD) : MemD := (markSS k x.1, markW (k + (cntSS x.1 : Int)) x.2.1, decide ((k + (cntSS x.1 : Int) + (cntWS x.2.1 : Int)) % 3 = 0), marks id (k + (cntSS x.1 : Int) + (cntWS x.2.1 : Int) + 1) x.2.2.2.length)
def markMS (k0 : Int) (d : List MemD) : List MemD := markL cntMD markMD k0 d
def cntMS (d : List MemD) : Nat := sumL (d.map cntMD)
theorem cntMS_le (d : List MemD) : cntMS d ≤ wtMemS d := by
  unfold cntMS wtMemS
  induction d with
  | nil => simp [sumL]
  | cons x d ih =>
    have h1 : cntMD x ≤ wtMem x + 1 := by
      have := Nat.le_of_eq (cntWS_wt x.2.1)
      unfold cntMD wtMem wtIntSS cntSS
      omega
    have e1 : sumL ((x :: d).map cntMD) = cntMD x + sumL (d.map cntMD) := by simp [sumL]
    have e2 : sumL ((x :: d).map wtMem) = wtMem x + sumL (d.map wtMem) := by simp [sumL]
    rw [e1, e2, List.length_cons]
    omega

set_option maxHeartbeats 6400000 in
theorem markMemS_fp (w : World) (a : Option Addr) (n cap : Nat) (d : List MemD) (k0 : Int) (fp : List Nat) (h : (tMemS 104 73).Mine w [.slice a n cap] d fp) (hw : wtMemS d ≤ 2097152) (hk : 0 ≤ k0) (hk' : k0 + (wtMemS d : Int) ≤ 2097153) :
    Calls Tryz.prog 35 #[.slice a n cap, .int .i64 k0] w fun e w' => e = .returned (.int .i64 (k0 + (cntMS d : Int))) ∧ (tMemS 104 73).Mine w' [.slice a n cap] (markMS k0 d) fp ∧ Turned fp w w' := by
  obtain ⟨hl, hc, hm⟩ := row_length h.rd
  have hmL : (markMS k0 d).length = d.length := markL_length _ _ _ _
  have hnn : n ≤ 2097152 := by unfold wtMemS at hw; omega
  have hwt := cntMS_le d
  go_enter Tryz.func35, Tryz.ntmps35
  go_wp2
  go_loopw [1, 5] (fun kk i wr => ∃ j : Nat, j ≤ n ∧ i = .int .i64 j ∧ kk = .int .i64 (k0 + (sumL ((d.map cntMD).take j) : Int)) ∧ (tMemS 104 73).Mine wr [.slice a n cap] ((markMS k0 d).take j ++ d.drop j) fp ∧ Turned fp w wr) (fun _ i _ => n - (intOf i).toNat)
  case atStart => exact ⟨0, Nat.zero_le _, rfl, by simp [sumL], by simpa using h, Turned.refl _ _⟩
  case round =>
    obtain ⟨j, hj, rfl, rfl, ho, hb⟩ := hrel
    by_cases hjn : j < n
    · have hdj : d[j]? = some (d[j]'(by omega)) := List.getElem?_eq_getElem (by omega)
      generalize d[j]'(by omega) = x at hdj
      have hst := sumL_take (l := d.map cntMD) (j := j) (x := cntMD x) (by rw [List.getElem?_map, hdj]; rfl)
      have hle := sumL_le (l := d.map cntMD) (j + 1)
      have hin := Nat.le_trans (inner_leM hdj) hw
      unfold cntMS at hwt
      have HM := hidden (turn_step hmL (markL_at (c := cntMD) (mk := markMD) (k := k0) hdj))
      have hat := turn_at (m := markMS k0 d) hmL hdj
      have HW := hidden hst
      generalize sumL ((d.map cntMD).take j) = S at hst HM HW
      obtain ⟨ss, cs, f, bs⟩ := x
      have hcx : cntMD (ss, cs, f, bs) = cntSS ss + cntWS cs + 1 + bs.length := rfl
      have hin0 : wtIntSS ss ≤ 2097152 := by unfold wtMem at hin; simp only at hin; omega
      have hin1 : wtWrS cs ≤ 2097152 := by unfold wtMem at hin; simp only at hin; omega
      have hin3 : bs.length ≤ 2097152 := by unfold wtMem at hin; simp only at hin; omega
      have hcw := Nat.le_of_eq (cntWS_wt cs)
      have hcw' := Nat.le_of_eq (cntWS_wt cs).symm
      have hS : k0 + (S : Int) + (cntSS ss : Int) + (cntWS cs : Int) + 1 + (bs.length : Int) ≤ 2097153 := by omega
      rcases row_ow_shape ho with h0' | ⟨g, rfl⟩
      · omega
      obtain ⟨cs1, f1, ow1, hgf, hgp, hf1, hcc, hfz, _, back⟩ := row_open ho hat
      have hcl := (tMem 104).rdLen ((tMem 104).owRd ow1.1)
      obtain ⟨v0, v1, v2, v3, rfl⟩ : ∃ v0 v1 v2 v3, cs1 = [v0, v1, v2, v3] := by
        match cs1, hcl with
        | [v0, v1, v2, v3], _ => exact ⟨v0, v1, v2, v3, rfl⟩
      obtain ⟨f0, g1, rfl, m0, ow2, d0⟩ := pair_mine (t := tIntSS) (u := pairTy (tWrS 104) (pairTy boolTy tIntS)) (vs := [v0]) (us := [v1, v2, v3]) rfl ow1
      obtain ⟨fc, g2, rfl, m1, ow3, d1⟩ := pair_mine (t := tWrS 104) (u := pairTy boolTy tIntS) (vs := [v1]) (us := [v2, v3]) rfl ow2
      obtain ⟨fb, f3, rfl, ⟨⟨hv2, hfb⟩, _⟩, m3, _⟩ := pair_mine (t := boolTy) (u := tIntS) (vs := [v2]) (us := [v3]) rfl ow3
      simp at hv2
      subst hv2
      subst hfb
      rw [List.nil_append] at *
      have hc0 : wr.cell? ⟨g, j * 4, none⟩ = some v0 := hcc 0 (by show 0 < 4; omega)
      have hc1 : wr.cell? ⟨g, j * 4 + 1, none⟩ = some v1 := hcc 1 (by show 1 < 4; omega)
      have hc2 : wr.cell? ⟨g, j * 4 + 2, none⟩ = some (.bool f) := hcc 2 (by show 2 < 4; omega)
      have hc3 : wr.cell? ⟨g, j * 4 + 3, none⟩ = some v3 := hcc 3 (by show 3 < 4; omega)
      obtain ⟨a0, e0, rfl⟩ := row_shape m0.rd
      obtain ⟨a1, e1', rfl⟩ := row_shape m1.rd
      obtain ⟨a3, e3, rfl⟩ := row_shape m3.rd
      have hlt := ho.lt
      have ng0 : g ∉ f0 := fun hm => hgf (List.mem_append_left _ hm)
      have ngc : g ∉ fc := fun hm => hgf (List.mem_append_right _ (List.mem_append_left _ hm))
      have ng3 : g ∉ f3 := fun hm => hgf (List.mem_append_right _ (List.mem_append_right _ hm))
      have d0c : ∀ b ∈ fc, b ∉ f0 := fun b hb hb' => d0 b hb' (List.mem_append_left _ hb)
      have d03 : ∀ b ∈ f3, b ∉ f0 := fun b hb hb' => d0 b hb' (List.mem_append_right _ hb)
      have dc3 : ∀ b ∈ f3, b ∉ fc := fun b hb hb' => d1 b hb' hb
      have hgl : g < wr.heap.size := hlt g hgp
      obtain ⟨cur, hcur, hcsz, hncap, _⟩ := row_block (ho.own (lo := 0) (hi := wr.heap.size) (fun b hb => ⟨Nat.zero_le _, ho.lt b hb⟩))
      have XB : Box wr g 73 cur := hcur
      have HBK := hidden back
      have HLT := hidden hlt
      have HF1 := hidden hf1
      have HFZ := hidden hfz
      have M0 := hidden m0
      have M1 := hidden m1
      have M3 := hidden m3
      have DD := hidden (And.intro d0 d1)
      have HG := hidden hgf
      have i1 : (0 : Int) ≤ (j : Int) := by omega
      have i2 : (j : Int) < (n : Int) := by omega
      clear hcc back hcl ow1 ow2 ow3 hat hdj ho hst hlt hfz hf1 m0 m1 m3 d0 d1 hgf
      have e1 : (k0 + (S : Int) + (cntSS ss : Int) + (cntWS cs : Int)).tmod 3 = (k0 + (S : Int) + (cntSS ss : Int) + (cntWS cs : Int)) % 3 := Int.tmod_eq_emod_of_nonneg (by omega)
      have HXB := hidden XB
      have HC := hidden (And.intro hc0 (And.intro hc1 hc3))
      clear XB hcur
      go_wp2_with fail
      refine (markIntSS_fp _ _ _ _ ss _ f0 M0.out hin0 (by omega) (by omega)).mono ?_
      rintro e w1 ⟨rfl, o1, t1⟩
      have b1 := t1.block g hgl ng0
      have kc1 := (cell_kept b1 (j * 4 + 1)).trans hc1
      have kc2 := (cell_kept b1 (j * 4 + 2)).trans hc2
      have kc3 := (cell_kept b1 (j * 4 + 3)).trans hc3
      have X1 := hidden (HXB.out.kept b1)
      have z1 := t1.size
      have M1' := hidden (M1.out.kept t1 d0c)
      have M3' := hidden (M3.out.kept t1 d03)
      have O1 := hidden o1
      have T1 := hidden t1
      clear hc0 hc1 hc2 hc3 b1 o1 t1 M0 M1 M3 HXB
      have hg1 : g < w1.heap.size := Nat.lt_of_lt_of_le hgl z1
      go_wp2_with fail
      refine (markWrS_fp _ _ _ _ cs _ fc M1'.out hin1 (by omega) (by omega)).mono ?_
      rintro e w2 ⟨rfl, o2, t2⟩
      have b2 := t2.block g hg1 ngc
      have lc2 := (cell_kept b2 (j * 4 + 2)).trans kc2
      have lc3 := (cell_kept b2 (j * 4 + 3)).trans kc3
      have x2 := X1.out.kept b2
      have X2 := hidden x2
      have ff := x2.frozen (j * 4 + 2)
      have z2 := t2.size
      have M3'' := hidden (M3'.out.kept t2 dc3)
      have O1' := hidden (O1.out.kept t2 (fun b hb hb' => d0c b hb' hb))
      have O2 := hidden o2
      have T2 := hidden t2
      have T3 : Hid (Turned [g] w2 (w2.setCell ⟨g, j * 4 + 2, none⟩ (.bool (decide ((k0 + (S : Int) + (cntSS ss : Int) + (cntWS cs : Int)) % 3 = 0))))) := Turned.setCell _ (by simp)
      have M3t := hidden (M3''.out.kept T3.out (fun b hb hb' => ng3 (by simp at hb'; exact hb' ▸ hb)))
      have O1t := hidden (O1'.out.kept T3.out (fun b hb hb' => ng0 (by simp at hb'; exact hb' ▸ hb)))
      have O2t := hidden (O2.out.kept T3.out (fun b hb hb' => ngc (by simp at hb'; exact hb' ▸ hb)))
      have X3 := hidden (x2.set (j * 4 + 2) (.bool (decide ((k0 + (S : Int) + (cntSS ss : Int) + (cntWS cs : Int)) % 3 = 0))))
      clear kc1 kc2 kc3 b2 o2 t2 X1 M1' M3' M3'' O1 O1' O2 x2
      have hg2 : g < w2.heap.size := Nat.lt_of_lt_of_le hg1 z2
      go_wp2_with fail
      generalize hw3 : w2.setCell ⟨g, j * 4 + 2, none⟩ (.bool (decide ((k0 + (S : Int) + (cntSS ss : Int) + (cntWS cs : Int)) % 3 = 0))) = w3 at T3 M3t O1t O2t X3 ⊢
      clear hw3
      refine (markIntS_fp _ _ _ _ bs _ f3 M3t.out (by omega) (by omega) (by omega)).mono ?_
      rintro e w4 ⟨rfl, o3, t4⟩
      have z3 := T3.out.size
      have z4 := t4.size
      have hg3 : g < w3.heap.size := Nat.lt_of_lt_of_le hg2 z3
      have hO := HBK.out w4 [.slice a0 ss.length e0, .slice a1 cs.length e1', .bool (decide ((k0 + (S : Int) + (cntSS ss : Int) + (cntWS cs : Int)) % 3 = 0)), .slice a3 bs.length e3] (markMD (k0 + (S : Int)) (ss, cs, f, bs))
        (pair_mine_of (t := tIntSS) (vs := [_]) (us := [_, _, _]) (O1t.out.kept t4 (fun b hb hb' => d03 b hb' hb)) (pair_mine_of (t := tWrS 104) (vs := [_]) (us := [_, _]) (O2t.out.kept t4 (fun b hb hb' => dc3 b hb' hb)) (pair_mine_of (t := boolTy) (u := tIntS) (vs := [_]) (us := [_]) (f1 := []) ⟨⟨rfl, rfl⟩, by simp⟩ o3 (by simp)) DD.out.2) DD.out.1)
        (fun b hb hbf hbg => by
          have n0 : b ∉ f0 := fun hm => hbf (List.mem_append_left _ hm)
          have nc : b ∉ fc := fun hm => hbf (List.mem_append_right _ (List.mem_append_left _ hm))
          have n3 : b ∉ f3 := fun hm => hbf (List.mem_append_right _ (List.mem_append_right _ hm))
          have l0 := HLT.out b hb
          rw [t4.block b (by omega) n3, T3.out.block b (by omega) (by simpa using hbg), T2.out.block b (by omega) nc, T1.out.block b l0 n0])
        (by omega)
        (fun cur2 hcur2 hcs2 hnc2 => by
          have hX := X3.out
          have e2 : cur2 = cur := by
            have h1 := X2.out
            have h2 : w2.heap[g]? = wr.heap[g]? := by rw [T2.out.block g hg1 ngc, T1.out.block g hgl ng0]
            unfold Box at h1
            rw [h2, hcur2] at h1
            simpa using h1
          subst e2
          refine ⟨_, (t4.block g hg3 ng3).trans hX, by simp, fun k => ?_⟩
          have hcs' : cur2.size = cap * 4 := hcs2
          rw [Array.toList_setIfInBounds]
          obtain ⟨p0, p1, p3⟩ := HC.out
          rw [cell_of_row wr g _ cur2 _ (0, 0) hcur2] at p0 p1 p3
          simp only [show (1 + (1 + (1 + 1)) : Nat) = 4 from rfl]
          by_cases k0' : k = j * 4
          · subst k0'
            rw [List.getElem?_set_ne (by omega), if_pos (by omega), Nat.sub_self, Array.getElem?_toList, p0]
            rfl
          · by_cases k1 : k = j * 4 + 1
            · subst k1
              rw [List.getElem?_set_ne (by omega), if_pos (by omega), Nat.add_sub_cancel_left, Array.getElem?_toList, p1]
              rfl
            · by_cases k2 : k = j * 4 + 2
              · subst k2
                rw [List.getElem?_set_self (by simp; omega), if_pos (by omega), Nat.add_sub_cancel_left]
                rfl
              · by_cases k3 : k = j * 4 + 3
                · subst k3
                  rw [List.getElem?_set_ne (by omega), if_pos (by omega), Nat.add_sub_cancel_left, Array.getElem?_toList, p3]
                  rfl
                · rw [List.getElem?_set_ne (by omega), if_neg (by omega)])
      rw [HM.out] at hO
      have HO := hidden hO
      have HB := hidden ((((hb.trans (T1.out.mono (fun b hm => HF1.out b (List.mem_append_left _ hm)))).trans (T2.out.mono (fun b hm => HF1.out b (List.mem_append_right _ (List.mem_append_left _ hm))))).trans (T3.out.mono (by simpa using hgp))).trans (t4.mono (fun b hm => HF1.out b (List.mem_append_right _ (List.mem_append_right _ hm)))))
      clear hO o3 t4 HBK hb T1 T2 T3 X2 X3 O1t O2t M3t HLT HC
      go_wp2
      go_roundw
      case rel => exact ⟨j + 1, by omega, by go_num, by rw [HW.out, hcx]; go_num, HO.out, HB.out⟩
      case measure => simp [intOf]; omega
    · go_wp2
      go_ret
      have e : j = n := by omega
      subst e
      have ht : (d.map cntMD).take j = d.map cntMD := List.take_of_length_le (by simp; omega)
      rw [List.take_of_length_le (by omega), List.drop_of_length_le (by omega), List.append_nil] at ho
      exact ⟨ret_int (by rw [ht]; rfl), ho, hb⟩

end Go.Proofs.YthkpkpclmemodaaGreat

/-
  The walk of the laws' mark over an array: its disks and stripes are marked in place. Condition: it weighs at most 2097152.
-/
namespace Go.Proofs.YthkpkpclmemodaaGreat
open Go.RowKit

set_option maxHeartbeats 1600000 in
theorem markArr_own (w : World) (lo m hi : Nat) (x : ArrN) (bm bd : Option Addr) (nm cm nd cd : Nat) (ms : List MemD) (ds : List (Int × List Int)) (h0 : (tMemS 104 73).Own w lo m [.slice bm nm cm] ms) (h1 : (tWrS 75).Own w m hi [.slice bd nd cd] ds) (hlm : lo ≤ m) (hmh : m ≤ hi) (hhi : hi ≤ w.heap.size) (hw : wtArr ms ds ≤ 2097152) :
    Calls Tryz.prog 11 #[.agg #[.int .i64 x.id, .int .i64 x.n, .int .i64 x.s, .slice bm nm cm, .int .i64 x.lost, .int .i64 x.built, .int .i64 x.seq, .int .i64 x.tail, .int .i64 x.gen, .slice bd nd cd, .int .i64 x.fuse, .bool x.down, .bool x.broken], .int .i64 1] w fun e w' => e = .returned (.int .i64 (1 + (cntMS ms : Int) + (cntWS ds : Int))) ∧ (tMemS 104 73).Own w' lo m [.slice bm nm cm] (markMS 1 ms) ∧ (tWrS 75).Own w' m hi [.slice bd nd cd] (markW (1 + (cntMS ms : Int)) ds) ∧ But lo hi w w' := by
  have hw0 : wtMemS ms ≤ 2097152 := by unfold wtArr at hw; omega
  have hw1 : wtWrS ds ≤ 2097152 := by unfold wtArr at hw; omega
  have hcm := cntMS_le ms
  have hA := new_below w (.cells #[.int .i64 x.id, .int .i64 x.n, .int .i64 x.s, .slice bm nm cm, .int .i64 x.lost, .int .i64 x.built, .int .i64 x.seq, .int .i64 x.tail, .int .i64 x.gen, .slice bd nd cd, .int .i64 x.fuse, .bool x.down, .bool x.broken] 33)
  have A := Box.new w 33 #[.int .i64 x.id, .int .i64 x.n, .int .i64 x.s, .slice bm nm cm, .int .i64 x.lost, .int .i64 x.built, .int .i64 x.seq, .int .i64 x.tail, .int .i64 x.gen, .slice bd nd cd, .int .i64 x.fuse, .bool x.down, .bool x.broken]
  obtain ⟨k0, k1, k2, k3, k4, k5, k6, k7, k8, k9, k10, k11, k12⟩ := A.cells13
  have o0 := h0.below hA
  have o1 := h1.below hA
  have zA := A.lt
  go_enter Tryz.func11, Tryz.ntmps11
  go_wp2_with fail
  generalize w.alloc (.cells #[.int .i64 x.id, .int .i64 x.n, .int .i64 x.s, .slice bm nm cm, .int .i64 x.lost, .int .i64 x.built, .int .i64 x.seq, .int .i64 x.tail, .int .i64 x.gen, .slice bd nd cd, .int .i64 x.fuse, .bool x.down, .bool x.broken] 33) = W at hA A o0 o1 zA k0 k1 k2 k3 k4 k5 k6 k7 k8 k9 k10 k11 k12 ⊢
  obtain ⟨f0, m0, r0⟩ := o0.mine
  refine (markMemS_fp _ _ _ _ ms 1 f0 m0 hw0 (by omega) (by omega)).mono ?_
  rintro e w1 ⟨rfl, p0, t1⟩
  have hb1 := t1.but (lo := lo) (hi := m) r0
  have q0 := p0.own r0
  have q1 := o1.but hb1 (.inr (Nat.le_refl _))
  have A1 := A.kept (hb1.block _ zA (by omega))
  have B1 := (But.of_below (lo := lo) (hi := hi) hA).trans ⟨hb1.os, hb1.tape, hb1.output, hb1.size, fun k hk ho => hb1.block k hk (by omega)⟩
  clear k0 k1 k2 k3 k4 k5 k6 k7 k8 k9 k10 k11 k12 A hb1 t1 p0 m0 o0 o1 hA
  obtain ⟨k0, k1, k2, k3, k4, k5, k6, k7, k8, k9, k10, k11, k12⟩ := A1.cells13
  obtain ⟨f1, m1, r1⟩ := q1.mine
  have hwa : (wtMemS ms : Int) + (wtWrS ds : Int) ≤ 2097152 := by unfold wtArr at hw; omega
  go_wp2_with fail
  refine (markEntS_fp _ _ _ _ ds (1 + (cntMS ms : Int)) f1 m1 hw1 (by omega) (by omega)).mono ?_
  rintro e w2 ⟨rfl, p1, t2⟩
  have hb2 := t2.but (lo := m) (hi := hi) r1
  have s1 := hidden (p1.own r1)
  have s0 := hidden (q0.but hb2 (.inl (Nat.le_refl _)))
  have B2 := hidden (B1.trans ⟨hb2.os, hb2.tape, hb2.output, hb2.size, fun k hk ho => hb2.block k hk (by omega)⟩)
  clear k0 k1 k2 k3 k4 k5 k6 k7 k8 k9 k10 k11 k12 A1 hb2 t2 p1 m1 q0 q1 B1
  go_wp2
  go_ret
  exact ⟨rfl, s0.out, s1.out, B2.out⟩

end Go.Proofs.YthkpkpclmemodaaGreat

/-
  An array's data in memory of its own, whatever order its blocks lie in; the walk of the laws' mark over it. Condition: it weighs at most 2097152.
-/
namespace Go.Proofs.YthkpkpclmemodaaGreat
open Go.RowKit

/-- An array's disks and entries, in blocks lo .. hi of their own. -/
def ArrIn (w : World) (lo hi : Nat) (bm bd : Option Addr) (nm cm nd cd : Nat) (ms : List MemD) (ds : List (Int × List Int)) : Prop :=
  ∃ (fm fd : List Nat), (tMemS 104 73).Mine w [.slice bm nm cm] ms fm ∧ (tWrS 75).Mine w [.slice bd nd cd] ds fd ∧ (∀ b ∈ fm, b ∉ fd) ∧ (∀ b ∈ fm, lo ≤ b ∧ b < hi) ∧ ∀ b ∈ fd, lo ≤ b ∧ b < hi

theorem ArrIn.below {w w' : World} {lo hi : Nat} {bm bd : Option Addr} {nm cm nd cd : Nat} {ms : List MemD} {ds : List (Int × List Int)} (h : ArrIn w lo hi bm bd nm cm nd cd ms ds) (hb : Below w.heap.size w w') : ArrIn w' lo hi bm bd nm cm nd cd ms ds := by
  obtain ⟨fm, fd, h1, h2, h3⟩ := h
  exact ⟨fm, fd, h1.below hb, h2.below hb, h3⟩
theorem ArrIn.same {w w' : World} {lo hi : Nat} {bm bd : Option Addr} {nm cm nd cd : Nat} {ms : List MemD} {ds : List (Int × List Int)} (h : ArrIn w lo hi bm bd nm cm nd cd ms ds) (hs : Same w w') : ArrIn w' lo hi bm bd nm cm nd cd ms ds := h.below (hs.below _)
theorem ArrIn.but {w w' : World} {lo hi l u : Nat} {bm bd : Option Addr} {nm cm nd cd : Nat} {ms : List MemD} {ds : List (Int × List Int)} (h : ArrIn w lo hi bm bd nm cm nd cd ms ds) (hb : But l u w w') (hd : hi ≤ l ∨ u ≤ lo) : ArrIn w' lo hi bm bd nm cm nd cd ms ds := by
  obtain ⟨fm, fd, h1, h2, h3, h4, h5⟩ := h
  exact ⟨fm, fd, h1.but hb (fun b hb' => by have := h4 b hb'; omega), h2.but hb (fun b hb' => by have := h5 b hb'; omega), h3, h4, h5⟩
theorem ArrIn.rdm {w : World} {lo hi : Nat} {bm bd : Option Addr} {nm cm nd cd : Nat} {ms : List MemD} {ds : List (Int × List Int)} (h : ArrIn w lo hi bm bd nm cm nd cd ms ds) : (tMemS 104 73).Rd w [.slice bm nm cm] ms := by
  obtain ⟨fm, fd, h1, _⟩ := h
  exact h1.rd
theorem ArrIn.rdd {w : World} {lo hi : Nat} {bm bd : Option Addr} {nm cm nd cd : Nat} {ms : List MemD} {ds : List (Int × List Int)} (h : ArrIn w lo hi bm bd nm cm nd cd ms ds) : (tWrS 75).Rd w [.slice bd nd cd] ds := by
  obtain ⟨fm, fd, _, h2, _⟩ := h
  exact h2.rd
theorem ArrIn.widen {w : World} {lo hi lo' hi' : Nat} {bm bd : Option Addr} {nm cm nd cd : Nat} {ms : List MemD} {ds : List (Int × List Int)} (h : ArrIn w lo hi bm bd nm cm nd cd ms ds) (h1 : lo' ≤ lo) (h2 : hi ≤ hi') : ArrIn w lo' hi' bm bd nm cm nd cd ms ds := by
  obtain ⟨fm, fd, a1, a2, a3, a4, a5⟩ := h
  exact ⟨fm, fd, a1, a2, a3, fun b hb => by have := a4 b hb; omega, fun b hb => by have := a5 b hb; omega⟩
theorem ArrIn.of_own {w : World} {lo m hi : Nat} {bm bd : Option Addr} {nm cm nd cd : Nat} {ms : List MemD} {ds : List (Int × List Int)} (h0 : (tMemS 104 73).Own w lo m [.slice bm nm cm] ms) (h1 : (tWrS 75).Own w m hi [.slice bd nd cd] ds) (hlm : lo ≤ m) (hmh : m ≤ hi) : ArrIn w lo hi bm bd nm cm nd cd ms ds := by
  obtain ⟨fm, m0, r0⟩ := h0.mine
  obtain ⟨fd, m1, r1⟩ := h1.mine
  exact ⟨fm, fd, m0, m1, fun b hb hb' => by have h1 := r0 b hb; have h2 := r1 b hb'; omega, fun b hb => by have := r0 b hb; omega, fun b hb => by have := r1 b hb; omega⟩

set_option maxHeartbeats 1600000 in
theorem markArr_in (w : World) (lo hi : Nat) (x : ArrN) (bm bd : Option Addr) (nm cm nd cd : Nat) (ms : List MemD) (ds : List (Int × List Int)) (h : ArrIn w lo hi bm bd nm cm nd cd ms ds) (hhi : hi ≤ w.heap.size) (hw : wtArr ms ds ≤ 2097152) :
    Calls Tryz.prog 11 #[.agg #[.int .i64 x.id, .int .i64 x.n, .int .i64 x.s, .slice bm nm cm, .int .i64 x.lost, .int .i64 x.built, .int .i64 x.seq, .int .i64 x.tail, .int .i64 x.gen, .slice bd nd cd, .int .i64 x.fuse, .bool x.down, .bool x.broken], .int .i64 1] w fun e w' => e = .returned (.int .i64 (1 + (cntMS ms : Int) + (cntWS ds : Int))) ∧ ArrIn w' lo hi bm bd nm cm nd cd (markMS 1 ms) (markW (1 + (cntMS ms : Int)) ds) ∧ But lo hi w w' := by
  obtain ⟨f0, f1, h0, h1, hdis, r0, r1⟩ := h
  have hw0 : wtMemS ms ≤ 2097152 := by unfold wtArr at hw; omega
  have hw1 : wtWrS ds ≤ 2097152 := by unfold wtArr at hw; omega
  have hcm := cntMS_le ms
  have hA := new_below w (.cells #[.int .i64 x.id, .int .i64 x.n, .int .i64 x.s, .slice bm nm cm, .int .i64 x.lost, .int .i64 x.built, .int .i64 x.seq, .int .i64 x.tail, .int .i64 x.gen, .slice bd nd cd, .int .i64 x.fuse, .bool x.down, .bool x.broken] 33)
  have A := Box.new w 33 #[.int .i64 x.id, .int .i64 x.n, .int .i64 x.s, .slice bm nm cm, .int .i64 x.lost, .int .i64 x.built, .int .i64 x.seq, .int .i64 x.tail, .int .i64 x.gen, .slice bd nd cd, .int .i64 x.fuse, .bool x.down, .bool x.broken]
  obtain ⟨k0, k1, k2, k3, k4, k5, k6, k7, k8, k9, k10, k11, k12⟩ := A.cells13
  have m0 := h0.below hA
  have o1 := h1.below hA
  have zA := A.lt
  go_enter Tryz.func11, Tryz.ntmps11
  go_wp2_with fail
  generalize w.alloc (.cells #[.int .i64 x.id, .int .i64 x.n, .int .i64 x.s, .slice bm nm cm, .int .i64 x.lost, .int .i64 x.built, .int .i64 x.seq, .int .i64 x.tail, .int .i64 x.gen, .slice bd nd cd, .int .i64 x.fuse, .bool x.down, .bool x.broken] 33) = W at hA A m0 o1 zA k0 k1 k2 k3 k4 k5 k6 k7 k8 k9 k10 k11 k12 ⊢
  refine (markMemS_fp _ _ _ _ ms 1 f0 m0 hw0 (by omega) (by omega)).mono ?_
  rintro e w1 ⟨rfl, p0, t1⟩
  have hb1 := t1.but (lo := lo) (hi := hi) r0
  have m1 := o1.kept t1 (fun b hb hb' => hdis b hb' hb)
  have A1 := A.kept (hb1.block _ zA (by omega))
  have B1 := (But.of_below (lo := lo) (hi := hi) hA).trans hb1
  clear k0 k1 k2 k3 k4 k5 k6 k7 k8 k9 k10 k11 k12 A hb1 t1 m0 o1 hA
  obtain ⟨k0, k1, k2, k3, k4, k5, k6, k7, k8, k9, k10, k11, k12⟩ := A1.cells13
  have hwa : (wtMemS ms : Int) + (wtWrS ds : Int) ≤ 2097152 := by unfold wtArr at hw; omega
  go_wp2_with fail
  refine (markEntS_fp _ _ _ _ ds (1 + (cntMS ms : Int)) f1 m1 hw1 (by omega) (by omega)).mono ?_
  rintro e w2 ⟨rfl, p1, t2⟩
  have hb2 := t2.but (lo := lo) (hi := hi) r1
  have s0 := hidden (p0.kept t2 hdis)
  have s1 := hidden p1
  have B2 := hidden (B1.trans hb2)
  clear k0 k1 k2 k3 k4 k5 k6 k7 k8 k9 k10 k11 k12 A1 hb2 t2 p1 m1 p0 B1
  go_wp2
  go_ret
  exact ⟨rfl, ⟨f0, f1, s0.out, s1.out, hdis, r0, r1⟩, B2.out⟩

end Go.Proofs.YthkpkpclmemodaaGreat

/-
  The walks of the specification's looks at an array's entries, at the array as a whole, and whether a disk of it lives. Condition: it weighs at most 2097152.
-/
namespace Go.Proofs.YthkpkpclmemodaaGreat
open Go.RowKit

theorem entsB_no {x : ArrN} {ds : List (Int × List Int)} {i : Nat} {d : Int × List Int} (hx : ds[i]? = some d) (h : entAt x ds i d = false) : entsB x ds = false := allIx_no hx h
theorem entAt_1 {x : ArrN} {ds : List (Int × List Int)} {i : Nat} {y : Int} {zs : List Int} (h : inB y 0 (x.s - 1) = false) : entAt x ds i (y, zs) = false := by unfold entAt; rw [h]; rfl
theorem entAt_2 {x : ArrN} {ds : List (Int × List Int)} {i : Nat} {y : Int} {zs : List Int} (h : ¬ (zs.length : Int) = x.n - 1) : entAt x ds i (y, zs) = false := by unfold entAt; simp [h]
theorem entAt_3 {x : ArrN} {ds : List (Int × List Int)} {i : Nat} {y : Int} {zs : List Int} (h : allW zs = false) : entAt x ds i (y, zs) = false := by unfold entAt; simp [h]
theorem entAt_4 {x : ArrN} {ds : List (Int × List Int)} {y : Int} {zs : List Int} (h1 : inB y 0 (x.s - 1) = true) (h2 : (zs.length : Int) = x.n - 1) (h3 : allW zs = true) : entAt x ds 0 (y, zs) = true := by unfold entAt; simp [h1, h2, h3]
theorem entAt_5 {x : ArrN} {ds : List (Int × List Int)} {p : Nat} {y : Int} {zs : List Int} {q : Int × List Int} (h1 : inB y 0 (x.s - 1) = true) (h2 : (zs.length : Int) = x.n - 1) (h3 : allW zs = true) (hq : ds[p]? = some q) : entAt x ds (p + 1) (y, zs) = decide (q.1 < y) := by
  unfold entAt
  rw [h1, h3]
  have : ds.getD (p + 1 - 1) (0, []) = q := by rw [Nat.add_sub_cancel, List.getD_eq_getElem?_getD, hq]; rfl
  simp only [h2, decide_true, Bool.true_and, this]
  simp

set_option linter.unusedSimpArgs false in
set_option maxHeartbeats 3200000 in
theorem l6Dirty_any (w : World) (G : TypeId) (x : ArrN) (am ad : Option Addr) (nm cm nd cd : Nat) (ds : List (Int × List Int)) (h0 : (tWrS G).Rd w [.slice ad nd cd] ds) (hw : wtWrS ds ≤ 2097152) (hg : geoB x.n x.s = true) :
    Calls Tryz.prog 52 #[.agg #[.int .i64 x.id, .int .i64 x.n, .int .i64 x.s, .slice am nm cm, .int .i64 x.lost, .int .i64 x.built, .int .i64 x.seq, .int .i64 x.tail, .int .i64 x.gen, .slice ad nd cd, .int .i64 x.fuse, .bool x.down, .bool x.broken]] w fun e w' => e = .returned (.bool (entsB x ds)) ∧ Below w.heap.size w w' := by
  obtain ⟨hl, hc, hm⟩ := row_length h0
  obtain ⟨g1, g2, g3, g4⟩ := geoB_iff.1 hg
  have hA := new_below w (.cells #[.int .i64 x.id, .int .i64 x.n, .int .i64 x.s, .slice am nm cm, .int .i64 x.lost, .int .i64 x.built, .int .i64 x.seq, .int .i64 x.tail, .int .i64 x.gen, .slice ad nd cd, .int .i64 x.fuse, .bool x.down, .bool x.broken] 33)
  have X := Box.new w 33 #[.int .i64 x.id, .int .i64 x.n, .int .i64 x.s, .slice am nm cm, .int .i64 x.lost, .int .i64 x.built, .int .i64 x.seq, .int .i64 x.tail, .int .i64 x.gen, .slice ad nd cd, .int .i64 x.fuse, .bool x.down, .bool x.broken]
  have zA := X.lt
  have hnd : nd ≤ 2097152 := by unfold wtWrS at hw; omega
  have h1 := h0.below hA
  have hws : IntKind.i64.wrap (x.s - 1) = x.s - 1 := IntWalk.i64_in _ (by omega)
  have hwn : IntKind.i64.wrap (x.n - 1) = x.n - 1 := IntWalk.i64_in _ (by omega)
  go_enter Tryz.func52, Tryz.ntmps52
  go_wp2
  generalize w.alloc (.cells #[.int .i64 x.id, .int .i64 x.n, .int .i64 x.s, .slice am nm cm, .int .i64 x.lost, .int .i64 x.built, .int .i64 x.seq, .int .i64 x.tail, .int .i64 x.gen, .slice ad nd cd, .int .i64 x.fuse, .bool x.down, .bool x.broken] 33) = W at hA X zA h1 ⊢
  go_loopw [3] (fun i wr => ∃ j : Nat, j ≤ nd ∧ i = .int .i64 j ∧ (∀ (q : Nat) (d : Int × List Int), q < j → ds[q]? = some d → entAt x ds q d = true) ∧ Below W.heap.size W wr) (fun i _ => nd - (intOf i).toNat)
  case atStart => exact ⟨0, Nat.zero_le _, rfl, fun q d hq => by omega, Below.refl _ _⟩
  case round =>
    obtain ⟨j, hj, rfl, hall, hb⟩ := hrel
    have Xr := X.below hb zA
    obtain ⟨k0, k1, k2, k3, k4, k5, k6, k7, k8, k9, k10, k11, k12⟩ := Xr.cells13
    by_cases hjn : j < nd
    · rcases pairs_at rfl h1 with h0' | ⟨b, off, rfl, hbl, hcs⟩
      · omega
      have hdj : ds[j]? = some (ds[j]'(by omega)) := List.getElem?_eq_getElem (by omega)
      generalize ds[j]'(by omega) = d at hdj
      obtain ⟨v0, v1, hv0, hv1, hrv⟩ := hcs j d hdj
      obtain ⟨rfl, hrw⟩ := wr_rd hrv
      obtain ⟨av, cv, rfl⟩ := row_shape hrw
      obtain ⟨y, zs⟩ := d
      simp only at hv0 hv1 hrw hrv
      have u0 := (hb.cell (p := ⟨b, off + j * 2, none⟩) hbl).trans hv0
      have u1 := (hb.cell (p := ⟨b, off + j * 2 + 1, none⟩) hbl).trans hv1
      have i1 : (0 : Int) ≤ (j : Int) := by omega
      have i2 : (j : Int) < (nd : Int) := by omega
      have hwz : zs.length ≤ 2097152 := Nat.le_trans (inner_le' hdj) hw
      have HDJ := hidden hdj
      have b1 := new_below wr (.cells #[.int .i64 y, .slice av zs.length cv] 75)
      have Y1 := Box.new wr 75 #[.int .i64 y, .slice av zs.length cv]
      have X1 := Xr.below b1 Xr.lt
      have RZ := (ints_rd ((hrw.below hb).below b1)).1
      have B1 := hb.trans (b1.mono hb.size)
      obtain ⟨y0, y1⟩ := Y1.cells2
      obtain ⟨e0, e1, e2, e3, e4, e5, e6, e7, e8, e9, e10, e11, e12⟩ := X1.cells13
      have hq : ∀ (p : Nat) (q : Int × List Int), ds[p]? = some q → (wr.alloc (.cells #[.int .i64 y, .slice av zs.length cv] 75)).cell? ⟨b, off + p * 2, none⟩ = some (.int .i64 q.1) := fun p q hpq => by
        obtain ⟨c0, c1, hc0, hc1, hrc⟩ := hcs p q hpq
        obtain ⟨rfl, _⟩ := wr_rd hrc
        exact (B1.cell (p := ⟨b, off + p * 2, none⟩) hbl).trans hc0
      have HQ := hidden hq
      clear hcs hv0 hv1 hrv hrw hdj hq b1 e0 e3 e4 e5 e6 e7 e8 e10 e11 e12
      cases hI : inB y 0 (x.s - 1)
      · skip
        go_wp2_with fail
        generalize wr.alloc (.cells #[.int .i64 y, .slice av zs.length cv] 75) = w1 at X1 Y1 RZ B1 y0 y1 e1 e2 e9 HQ ⊢
        refine wp_region_held_drew (S := fun w' => w'.cell? ⟨wr.heap.size, 0, none⟩ = some (.int .i64 y) ∧ w'.cell? ⟨wr.heap.size, 1, none⟩ = some (.slice av zs.length cv) ∧ w'.cell? ⟨w.heap.size, 1, none⟩ = some (.int .i64 x.n) ∧ w'.cell? ⟨w.heap.size, 2, none⟩ = some (.int .i64 x.s) ∧ w'.cell? ⟨w.heap.size, 9, none⟩ = some (.slice (some ⟨b, off, none⟩) nd cd)) (by kernel_rfl) ?_ (fun hHeld => ?_)
        · exact ⟨y0, y1, e1, e2, e9⟩
        refine held_take (i := 0) (v := ?_) rfl (by kernel_rfl) (by kernel_rfl) (by kernel_rfl) (fun _ _ _ h => h) (by kernel_rfl) ?_ hHeld ?_
        rotate_left 1
        · (intro w hSw; (try dsimp only at hSw); go_split_ands; go_simp; first | done | with_reducible rfl)
        simp only [Act.put, List.setIfInBounds_toArray, List.set_cons_zero, List.set_cons_succ]
        refine held_take (i := 1) (v := ?_) rfl (by kernel_rfl) (by kernel_rfl) (by kernel_rfl) (fun _ _ _ h => h) (by kernel_rfl) ?_ hHeld ?_
        rotate_left 1
        · (intro w hSw; (try dsimp only at hSw); go_split_ands; go_simp; first | done | with_reducible rfl)
        simp only [Act.put, List.setIfInBounds_toArray, List.set_cons_zero, List.set_cons_succ]
        refine held_take (i := 2) (v := ?_) rfl (by kernel_rfl) (by kernel_rfl) (by kernel_rfl) (fun _ _ _ h => h) (by kernel_rfl) ?_ hHeld ?_
        rotate_left 1
        · (intro w hSw; (try dsimp only at hSw); go_split_ands; go_simp; first | done | with_reducible rfl)
        simp only [Act.put, List.setIfInBounds_toArray, List.set_cons_zero, List.set_cons_succ]
        refine held_take (i := 3) (v := ?_) rfl (by kernel_rfl) (by kernel_rfl) (by kernel_rfl) (fun _ _ _ h => h) (by kernel_rfl) ?_ hHeld ?_
        rotate_left 1
        · (intro w hSw; (try dsimp only at hSw); go_split_ands; go_simp; first | done | with_reducible rfl)
        simp only [Act.put, List.setIfInBounds_toArray, List.set_cons_zero, List.set_cons_succ]
        refine held_take (i := 4) (v := ?_) rfl (by kernel_rfl) (by kernel_rfl) (by kernel_rfl) (fun _ _ _ h => h) (by kernel_rfl) ?_ hHeld ?_
        rotate_left 1
        · (intro w hSw; (try dsimp only at hSw); go_split_ands; go_simp; first | done | with_reducible rfl)
        simp only [Act.put, List.setIfInBounds_toArray, List.set_cons_zero, List.set_cons_succ]
        refine held_take (i := 5) (v := ?_) rfl (by kernel_rfl) (by kernel_rfl) (by kernel_rfl) (fun _ _ _ h => h) (by kernel_rfl) ?_ hHeld ?_
        rotate_left 1
        · (intro w hSw; (try dsimp only at hSw); go_split_ands; go_simp; first | done | with_reducible rfl)
        simp only [Act.put, List.setIfInBounds_toArray, List.set_cons_zero, List.set_cons_succ]
        refine held_one (i := 6) (by kernel_rfl) rfl (by kernel_rfl) (fun K hK => ?_)
        go_simp
        refine (l1In_any _ _ _ _).mono ?_
        rintro e w2 ⟨rfl, hw2⟩
        subst hw2
        rw [hI]
        go_wp2_with fail
        clear hHeld
        refine hK.out _ _ ?_ (fun hHeld => ?_)
        · exact ⟨y0, y1, e1, e2, e9⟩
        clear hK K
        refine held_take (i := 7) (v := ?_) rfl (by kernel_rfl) (by kernel_rfl) (by kernel_rfl) (fun _ _ _ h => h) (by kernel_rfl) ?_ hHeld ?_
        rotate_left 1
        · (intro w hSw; (try dsimp only at hSw); go_split_ands; go_simp; first | done | with_reducible rfl)
        simp only [Act.put, List.setIfInBounds_toArray, List.set_cons_zero, List.set_cons_succ]
        refine held_take (i := 8) (v := ?_) rfl (by kernel_rfl) (by kernel_rfl) (by kernel_rfl) (fun _ _ _ h => h) (by kernel_rfl) ?_ hHeld ?_
        rotate_left 1
        · (intro w hSw; (try dsimp only at hSw); go_split_ands; go_simp; first | done | with_reducible rfl)
        simp only [Act.put, List.setIfInBounds_toArray, List.set_cons_zero, List.set_cons_succ]
        refine held_pass (i := 9) rfl (by kernel_rfl) (by kernel_rfl) (by kernel_rfl) (fun _ _ _ h => h) (by kernel_rfl) hHeld ?_
        simp only [Act.put, List.setIfInBounds_toArray, List.set_cons_zero, List.set_cons_succ]
        refine held_pass (i := 10) rfl (by kernel_rfl) (by kernel_rfl) (by kernel_rfl) (fun _ _ _ h => h) (by kernel_rfl) hHeld ?_
        simp only [Act.put, List.setIfInBounds_toArray, List.set_cons_zero, List.set_cons_succ]
        refine held_pass (i := 11) rfl (by kernel_rfl) (by kernel_rfl) (by kernel_rfl) (fun _ _ _ h => h) (by kernel_rfl) hHeld ?_
        simp only [Act.put, List.setIfInBounds_toArray, List.set_cons_zero, List.set_cons_succ]
        refine held_pass (i := 12) rfl (by kernel_rfl) (by kernel_rfl) (by kernel_rfl) (fun _ _ _ h => h) (by kernel_rfl) hHeld ?_
        simp only [Act.put, List.setIfInBounds_toArray, List.set_cons_zero, List.set_cons_succ]
        refine held_pass (i := 13) rfl (by kernel_rfl) (by kernel_rfl) (by kernel_rfl) (fun _ _ _ h => h) (by kernel_rfl) hHeld ?_
        simp only [Act.put, List.setIfInBounds_toArray, List.set_cons_zero, List.set_cons_succ]
        refine held_pass (i := 14) rfl (by kernel_rfl) (by kernel_rfl) (by kernel_rfl) (fun _ _ _ h => h) (by kernel_rfl) hHeld ?_
        simp only [Act.put, List.setIfInBounds_toArray, List.set_cons_zero, List.set_cons_succ]
        refine held_pass (i := 15) rfl (by kernel_rfl) (by kernel_rfl) (by kernel_rfl) (fun _ _ _ h => h) (by kernel_rfl) hHeld ?_
        simp only [Act.put, List.setIfInBounds_toArray, List.set_cons_zero, List.set_cons_succ]
        refine held_pass (i := 16) rfl (by kernel_rfl) (by kernel_rfl) (by kernel_rfl) (fun _ _ _ h => h) (by kernel_rfl) hHeld ?_
        simp only [Act.put, List.setIfInBounds_toArray, List.set_cons_zero, List.set_cons_succ]
        refine held_take (i := 17) (v := ?_) rfl (by kernel_rfl) (by kernel_rfl) (by kernel_rfl) (fun _ _ _ h => h) (by kernel_rfl) ?_ hHeld ?_
        rotate_left 1
        · (intro w hSw; (try dsimp only at hSw); go_split_ands; go_simp; first | done | with_reducible rfl)
        simp only [Act.put, List.setIfInBounds_toArray, List.set_cons_zero, List.set_cons_succ]
        refine held_take (i := 18) (v := ?_) rfl (by kernel_rfl) (by kernel_rfl) (by kernel_rfl) (fun _ _ _ h => h) (by kernel_rfl) ?_ hHeld ?_
        rotate_left 1
        · (intro w hSw; (try dsimp only at hSw); go_split_ands; go_simp; first | done | with_reducible rfl)
        simp only [Act.put, List.setIfInBounds_toArray, List.set_cons_zero, List.set_cons_succ]
        refine held_pass (i := 19) rfl (by kernel_rfl) (by kernel_rfl) (by kernel_rfl) (fun _ _ _ h => h) (by kernel_rfl) hHeld ?_
        simp only [Act.put, List.setIfInBounds_toArray, List.set_cons_zero, List.set_cons_succ]
        refine held_pass (i := 20) rfl (by kernel_rfl) (by kernel_rfl) (by kernel_rfl) (fun _ _ _ h => h) (by kernel_rfl) hHeld ?_
        simp only [Act.put, List.setIfInBounds_toArray, List.set_cons_zero, List.set_cons_succ]
        refine held_none (i := 21) (by kernel_rfl) rfl (by kernel_rfl) hHeld ?_
        simp only [Act.put, List.setIfInBounds_toArray, List.set_cons_zero, List.set_cons_succ]
        refine held_pass (i := 22) rfl (by kernel_rfl) (by kernel_rfl) (by kernel_rfl) (fun _ _ _ h => h) (by kernel_rfl) hHeld ?_
        simp only [Act.put, List.setIfInBounds_toArray, List.set_cons_zero, List.set_cons_succ]
        refine held_take (i := 23) (v := ?_) rfl (by kernel_rfl) (by kernel_rfl) (by kernel_rfl) (fun _ _ _ h => h) (by kernel_rfl) ?_ hHeld ?_
        rotate_left 1
        · (intro w hSw; (try dsimp only at hSw); go_split_ands; go_simp; first | done | with_reducible rfl)
        simp only [Act.put, List.setIfInBounds_toArray, List.set_cons_zero, List.set_cons_succ]
        refine held_take (i := 24) (v := ?_) rfl (by kernel_rfl) (by kernel_rfl) (by kernel_rfl) (fun _ _ _ h => h) (by kernel_rfl) ?_ hHeld ?_
        rotate_left 1
        · (intro w hSw; (try dsimp only at hSw); go_split_ands; go_simp; first | done | with_reducible rfl)
        simp only [Act.put, List.setIfInBounds_toArray, List.set_cons_zero, List.set_cons_succ]
        refine held_pass (i := 25) rfl (by kernel_rfl) (by kernel_rfl) (by kernel_rfl) (fun _ _ _ h => h) (by kernel_rfl) hHeld ?_
        simp only [Act.put, List.setIfInBounds_toArray, List.set_cons_zero, List.set_cons_succ]
        refine held_pass (i := 26) rfl (by kernel_rfl) (by kernel_rfl) (by kernel_rfl) (fun _ _ _ h => h) (by kernel_rfl) hHeld ?_
        simp only [Act.put, List.setIfInBounds_toArray, List.set_cons_zero, List.set_cons_succ]
        refine held_pass (i := 27) rfl (by kernel_rfl) (by kernel_rfl) (by kernel_rfl) (fun _ _ _ h => h) (by kernel_rfl) hHeld ?_
        simp only [Act.put, List.setIfInBounds_toArray, List.set_cons_zero, List.set_cons_succ]
        refine held_pass (i := 28) rfl (by kernel_rfl) (by kernel_rfl) (by kernel_rfl) (fun _ _ _ h => h) (by kernel_rfl) hHeld ?_
        simp only [Act.put, List.setIfInBounds_toArray, List.set_cons_zero, List.set_cons_succ]
        refine held_pass (i := 29) rfl (by kernel_rfl) (by kernel_rfl) (by kernel_rfl) (fun _ _ _ h => h) (by kernel_rfl) hHeld ?_
        simp only [Act.put, List.setIfInBounds_toArray, List.set_cons_zero, List.set_cons_succ]
        refine held_pass (i := 30) rfl (by kernel_rfl) (by kernel_rfl) (by kernel_rfl) (fun _ _ _ h => h) (by kernel_rfl) hHeld ?_
        simp only [Act.put, List.setIfInBounds_toArray, List.set_cons_zero, List.set_cons_succ]
        refine held_pass (i := 31) rfl (by kernel_rfl) (by kernel_rfl) (by kernel_rfl) (fun _ _ _ h => h) (by kernel_rfl) hHeld ?_
        simp only [Act.put, List.setIfInBounds_toArray, List.set_cons_zero, List.set_cons_succ]
        refine held_pass (i := 32) rfl (by kernel_rfl) (by kernel_rfl) (by kernel_rfl) (fun _ _ _ h => h) (by kernel_rfl) hHeld ?_
        simp only [Act.put, List.setIfInBounds_toArray, List.set_cons_zero, List.set_cons_succ]
        refine held_pass (i := 33) rfl (by kernel_rfl) (by kernel_rfl) (by kernel_rfl) (fun _ _ _ h => h) (by kernel_rfl) hHeld ?_
        simp only [Act.put, List.setIfInBounds_toArray, List.set_cons_zero, List.set_cons_succ]
        refine held_pass (i := 34) rfl (by kernel_rfl) (by kernel_rfl) (by kernel_rfl) (fun _ _ _ h => h) (by kernel_rfl) hHeld ?_
        simp only [Act.put, List.setIfInBounds_toArray, List.set_cons_zero, List.set_cons_succ]
        refine held_pass (i := 35) rfl (by kernel_rfl) (by kernel_rfl) (by kernel_rfl) (fun _ _ _ h => h) (by kernel_rfl) hHeld ?_
        simp only [Act.put, List.setIfInBounds_toArray, List.set_cons_zero, List.set_cons_succ]
        refine held_pass (i := 36) rfl (by kernel_rfl) (by kernel_rfl) (by kernel_rfl) (fun _ _ _ h => h) (by kernel_rfl) hHeld ?_
        simp only [Act.put, List.setIfInBounds_toArray, List.set_cons_zero, List.set_cons_succ]
        refine held_pass (i := 37) rfl (by kernel_rfl) (by kernel_rfl) (by kernel_rfl) (fun _ _ _ h => h) (by kernel_rfl) hHeld ?_
        simp only [Act.put, List.setIfInBounds_toArray, List.set_cons_zero, List.set_cons_succ]
        refine held_pass (i := 38) rfl (by kernel_rfl) (by kernel_rfl) (by kernel_rfl) (fun _ _ _ h => h) (by kernel_rfl) hHeld ?_
        simp only [Act.put, List.setIfInBounds_toArray, List.set_cons_zero, List.set_cons_succ]
        refine held_take (i := 39) (v := ?_) rfl (by kernel_rfl) (by kernel_rfl) (by kernel_rfl) (fun _ _ _ h => h) (by kernel_rfl) ?_ hHeld ?_
        rotate_left 1
        · (intro w hSw; (try dsimp only at hSw); go_split_ands; go_simp; first | done | with_reducible rfl)
        simp only [Act.put, List.setIfInBounds_toArray, List.set_cons_zero, List.set_cons_succ]
        refine wpAnyH_done (by kernel_rfl) ?_ _
        clear hHeld
        have HB := hidden (hA.trans (B1.drew.mono hA.size))
        have HE := hidden (entsB_no (x := x) HDJ.out (entAt_1 hI))
        go_wp2
        go_ret
        exact ⟨ret_bool HE.out.symm, HB.out⟩
      · by_cases hL : (zs.length : Int) = x.n - 1
        · have hL1 : ((zs.length : Int) == x.n - 1) = true := by simpa using hL
          have hL2 : ((zs.length : Int) != x.n - 1) = false := by simpa using hL
          have HL := hidden hL
          clear hL
          cases hZ : allW zs
          · skip
            go_wp2_with fail
            generalize wr.alloc (.cells #[.int .i64 y, .slice av zs.length cv] 75) = w1 at X1 Y1 RZ B1 y0 y1 e1 e2 e9 HQ ⊢
            refine wp_region_held_drew (S := fun w' => w'.cell? ⟨wr.heap.size, 0, none⟩ = some (.int .i64 y) ∧ w'.cell? ⟨wr.heap.size, 1, none⟩ = some (.slice av zs.length cv) ∧ w'.cell? ⟨w.heap.size, 1, none⟩ = some (.int .i64 x.n) ∧ w'.cell? ⟨w.heap.size, 2, none⟩ = some (.int .i64 x.s) ∧ w'.cell? ⟨w.heap.size, 9, none⟩ = some (.slice (some ⟨b, off, none⟩) nd cd)) (by kernel_rfl) ?_ (fun hHeld => ?_)
            · exact ⟨y0, y1, e1, e2, e9⟩
            refine held_take (i := 0) (v := ?_) rfl (by kernel_rfl) (by kernel_rfl) (by kernel_rfl) (fun _ _ _ h => h) (by kernel_rfl) ?_ hHeld ?_
            rotate_left 1
            · (intro w hSw; (try dsimp only at hSw); go_split_ands; go_simp; first | done | with_reducible rfl)
            simp only [Act.put, List.setIfInBounds_toArray, List.set_cons_zero, List.set_cons_succ]
            refine held_take (i := 1) (v := ?_) rfl (by kernel_rfl) (by kernel_rfl) (by kernel_rfl) (fun _ _ _ h => h) (by kernel_rfl) ?_ hHeld ?_
            rotate_left 1
            · (intro w hSw; (try dsimp only at hSw); go_split_ands; go_simp; first | done | with_reducible rfl)
            simp only [Act.put, List.setIfInBounds_toArray, List.set_cons_zero, List.set_cons_succ]
            refine held_take (i := 2) (v := ?_) rfl (by kernel_rfl) (by kernel_rfl) (by kernel_rfl) (fun _ _ _ h => h) (by kernel_rfl) ?_ hHeld ?_
            rotate_left 1
            · (intro w hSw; (try dsimp only at hSw); go_split_ands; go_simp; first | done | with_reducible rfl)
            simp only [Act.put, List.setIfInBounds_toArray, List.set_cons_zero, List.set_cons_succ]
            refine held_take (i := 3) (v := ?_) rfl (by kernel_rfl) (by kernel_rfl) (by kernel_rfl) (fun _ _ _ h => h) (by kernel_rfl) ?_ hHeld ?_
            rotate_left 1
            · (intro w hSw; (try dsimp only at hSw); go_split_ands; go_simp; first | done | with_reducible rfl)
            simp only [Act.put, List.setIfInBounds_toArray, List.set_cons_zero, List.set_cons_succ]
            refine held_take (i := 4) (v := ?_) rfl (by kernel_rfl) (by kernel_rfl) (by kernel_rfl) (fun _ _ _ h => h) (by kernel_rfl) ?_ hHeld ?_
            rotate_left 1
            · (intro w hSw; (try dsimp only at hSw); go_split_ands; go_simp; first | done | with_reducible rfl)
            simp only [Act.put, List.setIfInBounds_toArray, List.set_cons_zero, List.set_cons_succ]
            refine held_take (i := 5) (v := ?_) rfl (by kernel_rfl) (by kernel_rfl) (by kernel_rfl) (fun _ _ _ h => h) (by kernel_rfl) ?_ hHeld ?_
            rotate_left 1
            · (intro w hSw; (try dsimp only at hSw); go_split_ands; go_simp; first | done | with_reducible rfl)
            simp only [Act.put, List.setIfInBounds_toArray, List.set_cons_zero, List.set_cons_succ]
            refine held_one (i := 6) (by kernel_rfl) rfl (by kernel_rfl) (fun K hK => ?_)
            go_simp
            refine (l1In_any _ _ _ _).mono ?_
            rintro e w2 ⟨rfl, hw2⟩
            subst hw2
            rw [hI]
            go_wp2_with fail
            clear hHeld
            refine hK.out _ _ ?_ (fun hHeld => ?_)
            · exact ⟨y0, y1, e1, e2, e9⟩
            clear hK K
            refine held_take (i := 7) (v := ?_) rfl (by kernel_rfl) (by kernel_rfl) (by kernel_rfl) (fun _ _ _ h => h) (by kernel_rfl) ?_ hHeld ?_
            rotate_left 1
            · (intro w hSw; (try dsimp only at hSw); go_split_ands; go_simp; first | done | with_reducible rfl)
            simp only [Act.put, List.setIfInBounds_toArray, List.set_cons_zero, List.set_cons_succ]
            refine held_take (i := 8) (v := ?_) rfl (by kernel_rfl) (by kernel_rfl) (by kernel_rfl) (fun _ _ _ h => h) (by kernel_rfl) ?_ hHeld ?_
            rotate_left 1
            · (intro w hSw; (try dsimp only at hSw); go_split_ands; go_simp; first | done | with_reducible rfl)
            simp only [Act.put, List.setIfInBounds_toArray, List.set_cons_zero, List.set_cons_succ]
            refine held_take (i := 9) (v := ?_) rfl (by kernel_rfl) (by kernel_rfl) (by kernel_rfl) (fun _ _ _ h => h) (by kernel_rfl) ?_ hHeld ?_
            rotate_left 1
            · (intro w hSw; (try dsimp only at hSw); go_split_ands; go_simp; first | done | with_reducible rfl)
            simp only [Act.put, List.setIfInBounds_toArray, List.set_cons_zero, List.set_cons_succ]
            refine held_take (i := 10) (v := ?_) rfl (by kernel_rfl) (by kernel_rfl) (by kernel_rfl) (fun _ _ _ h => h) (by kernel_rfl) ?_ hHeld ?_
            rotate_left 1
            · (intro w hSw; (try dsimp only at hSw); go_split_ands; go_simp; first | done | with_reducible rfl)
            simp only [Act.put, List.setIfInBounds_toArray, List.set_cons_zero, List.set_cons_succ]
            refine held_take (i := 11) (v := ?_) rfl (by kernel_rfl) (by kernel_rfl) (by kernel_rfl) (fun _ _ _ h => h) (by kernel_rfl) ?_ hHeld ?_
            rotate_left 1
            · (intro w hSw; (try dsimp only at hSw); go_split_ands; go_simp; first | done | with_reducible rfl)
            simp only [Act.put, List.setIfInBounds_toArray, List.set_cons_zero, List.set_cons_succ]
            refine held_take (i := 12) (v := ?_) rfl (by kernel_rfl) (by kernel_rfl) (by kernel_rfl) (fun _ _ _ h => h) (by kernel_rfl) ?_ hHeld ?_
            rotate_left 1
            · (intro w hSw; (try dsimp only at hSw); go_split_ands; go_simp; first | done | with_reducible rfl)
            simp only [Act.put, List.setIfInBounds_toArray, List.set_cons_zero, List.set_cons_succ]
            refine held_take (i := 13) (v := ?_) rfl (by kernel_rfl) (by kernel_rfl) (by kernel_rfl) (fun _ _ _ h => h) (by kernel_rfl) ?_ hHeld ?_
            rotate_left 1
            · (intro w hSw; (try dsimp only at hSw); go_split_ands; go_simp; first | done | with_reducible rfl)
            simp only [Act.put, List.setIfInBounds_toArray, List.set_cons_zero, List.set_cons_succ]
            refine held_take (i := 14) (v := ?_) rfl (by kernel_rfl) (by kernel_rfl) (by kernel_rfl) (fun _ _ _ h => h) (by kernel_rfl) ?_ hHeld ?_
            rotate_left 1
            · (intro w hSw; (try dsimp only at hSw); go_split_ands; go_simp; first | done | with_reducible rfl)
            simp only [Act.put, List.setIfInBounds_toArray, List.set_cons_zero, List.set_cons_succ]
            refine held_take (i := 15) (v := ?_) rfl (by kernel_rfl) (by kernel_rfl) (by kernel_rfl) (fun _ _ _ h => h) (by kernel_rfl) ?_ hHeld ?_
            rotate_left 1
            · (intro w hSw; (try dsimp only at hSw); go_split_ands; go_simp; first | done | with_reducible rfl)
            simp only [Act.put, List.setIfInBounds_toArray, List.set_cons_zero, List.set_cons_succ]
            refine held_take (i := 16) (v := ?_) rfl (by kernel_rfl) (by kernel_rfl) (by kernel_rfl) (fun _ _ _ h => h) (by kernel_rfl) ?_ hHeld ?_
            rotate_left 1
            · (intro w hSw; (try dsimp only at hSw); go_split_ands; go_simp; first | done | with_reducible rfl)
            simp only [Act.put, List.setIfInBounds_toArray, List.set_cons_zero, List.set_cons_succ]
            refine held_take (i := 17) (v := ?_) rfl (by kernel_rfl) (by kernel_rfl) (by kernel_rfl) (fun _ _ _ h => h) (by kernel_rfl) ?_ hHeld ?_
            rotate_left 1
            · (intro w hSw; (try dsimp only at hSw); go_split_ands; go_simp; first | done | with_reducible rfl)
            simp only [Act.put, List.setIfInBounds_toArray, List.set_cons_zero, List.set_cons_succ]
            refine held_take (i := 18) (v := ?_) rfl (by kernel_rfl) (by kernel_rfl) (by kernel_rfl) (fun _ _ _ h => h) (by kernel_rfl) ?_ hHeld ?_
            rotate_left 1
            · (intro w hSw; (try dsimp only at hSw); go_split_ands; go_simp; first | done | with_reducible rfl)
            simp only [Act.put, List.setIfInBounds_toArray, List.set_cons_zero, List.set_cons_succ]
            refine held_take (i := 19) (v := ?_) rfl (by kernel_rfl) (by kernel_rfl) (by kernel_rfl) (fun _ _ _ h => h) (by kernel_rfl) ?_ hHeld ?_
            rotate_left 1
            · (intro w hSw; (try dsimp only at hSw); go_split_ands; go_simp; first | done | with_reducible rfl)
            simp only [Act.put, List.setIfInBounds_toArray, List.set_cons_zero, List.set_cons_succ]
            refine held_take (i := 20) (v := ?_) rfl (by kernel_rfl) (by kernel_rfl) (by kernel_rfl) (fun _ _ _ h => h) (by kernel_rfl) ?_ hHeld ?_
            rotate_left 1
            · (intro w hSw; (try dsimp only at hSw); go_split_ands; go_simp; first | done | with_reducible rfl)
            simp only [Act.put, List.setIfInBounds_toArray, List.set_cons_zero, List.set_cons_succ]
            refine held_one (i := 21) (by kernel_rfl) rfl (by kernel_rfl) (fun K hK => ?_)
            go_simp
            refine (l1Words_any _ _ _ _ zs rfl RZ.draw hwz).mono ?_
            rintro e w2 ⟨rfl, hw2⟩
            subst hw2
            rw [hZ]
            go_wp2_with fail
            clear hHeld
            refine hK.out _ _ ?_ (fun hHeld => ?_)
            · exact ⟨y0, y1, e1, e2, e9⟩
            clear hK K
            refine held_take (i := 22) (v := ?_) rfl (by kernel_rfl) (by kernel_rfl) (by kernel_rfl) (fun _ _ _ h => h) (by kernel_rfl) ?_ hHeld ?_
            rotate_left 1
            · (intro w hSw; (try dsimp only at hSw); go_split_ands; go_simp; first | done | with_reducible rfl)
            simp only [Act.put, List.setIfInBounds_toArray, List.set_cons_zero, List.set_cons_succ]
            refine held_take (i := 23) (v := ?_) rfl (by kernel_rfl) (by kernel_rfl) (by kernel_rfl) (fun _ _ _ h => h) (by kernel_rfl) ?_ hHeld ?_
            rotate_left 1
            · (intro w hSw; (try dsimp only at hSw); go_split_ands; go_simp; first | done | with_reducible rfl)
            simp only [Act.put, List.setIfInBounds_toArray, List.set_cons_zero, List.set_cons_succ]
            refine held_take (i := 24) (v := ?_) rfl (by kernel_rfl) (by kernel_rfl) (by kernel_rfl) (fun _ _ _ h => h) (by kernel_rfl) ?_ hHeld ?_
            rotate_left 1
            · (intro w hSw; (try dsimp only at hSw); go_split_ands; go_simp; first | done | with_reducible rfl)
            simp only [Act.put, List.setIfInBounds_toArray, List.set_cons_zero, List.set_cons_succ]
            refine held_pass (i := 25) rfl (by kernel_rfl) (by kernel_rfl) (by kernel_rfl) (fun _ _ _ h => h) (by kernel_rfl) hHeld ?_
            simp only [Act.put, List.setIfInBounds_toArray, List.set_cons_zero, List.set_cons_succ]
            refine held_pass (i := 26) rfl (by kernel_rfl) (by kernel_rfl) (by kernel_rfl) (fun _ _ _ h => h) (by kernel_rfl) hHeld ?_
            simp only [Act.put, List.setIfInBounds_toArray, List.set_cons_zero, List.set_cons_succ]
            refine held_pass (i := 27) rfl (by kernel_rfl) (by kernel_rfl) (by kernel_rfl) (fun _ _ _ h => h) (by kernel_rfl) hHeld ?_
            simp only [Act.put, List.setIfInBounds_toArray, List.set_cons_zero, List.set_cons_succ]
            refine held_pass (i := 28) rfl (by kernel_rfl) (by kernel_rfl) (by kernel_rfl) (fun _ _ _ h => h) (by kernel_rfl) hHeld ?_
            simp only [Act.put, List.setIfInBounds_toArray, List.set_cons_zero, List.set_cons_succ]
            refine held_pass (i := 29) rfl (by kernel_rfl) (by kernel_rfl) (by kernel_rfl) (fun _ _ _ h => h) (by kernel_rfl) hHeld ?_
            simp only [Act.put, List.setIfInBounds_toArray, List.set_cons_zero, List.set_cons_succ]
            refine held_pass (i := 30) rfl (by kernel_rfl) (by kernel_rfl) (by kernel_rfl) (fun _ _ _ h => h) (by kernel_rfl) hHeld ?_
            simp only [Act.put, List.setIfInBounds_toArray, List.set_cons_zero, List.set_cons_succ]
            refine held_pass (i := 31) rfl (by kernel_rfl) (by kernel_rfl) (by kernel_rfl) (fun _ _ _ h => h) (by kernel_rfl) hHeld ?_
            simp only [Act.put, List.setIfInBounds_toArray, List.set_cons_zero, List.set_cons_succ]
            refine held_pass (i := 32) rfl (by kernel_rfl) (by kernel_rfl) (by kernel_rfl) (fun _ _ _ h => h) (by kernel_rfl) hHeld ?_
            simp only [Act.put, List.setIfInBounds_toArray, List.set_cons_zero, List.set_cons_succ]
            refine held_pass (i := 33) rfl (by kernel_rfl) (by kernel_rfl) (by kernel_rfl) (fun _ _ _ h => h) (by kernel_rfl) hHeld ?_
            simp only [Act.put, List.setIfInBounds_toArray, List.set_cons_zero, List.set_cons_succ]
            refine held_pass (i := 34) rfl (by kernel_rfl) (by kernel_rfl) (by kernel_rfl) (fun _ _ _ h => h) (by kernel_rfl) hHeld ?_
            simp only [Act.put, List.setIfInBounds_toArray, List.set_cons_zero, List.set_cons_succ]
            refine held_pass (i := 35) rfl (by kernel_rfl) (by kernel_rfl) (by kernel_rfl) (fun _ _ _ h => h) (by kernel_rfl) hHeld ?_
            simp only [Act.put, List.setIfInBounds_toArray, List.set_cons_zero, List.set_cons_succ]
            refine held_pass (i := 36) rfl (by kernel_rfl) (by kernel_rfl) (by kernel_rfl) (fun _ _ _ h => h) (by kernel_rfl) hHeld ?_
            simp only [Act.put, List.setIfInBounds_toArray, List.set_cons_zero, List.set_cons_succ]
            refine held_pass (i := 37) rfl (by kernel_rfl) (by kernel_rfl) (by kernel_rfl) (fun _ _ _ h => h) (by kernel_rfl) hHeld ?_
            simp only [Act.put, List.setIfInBounds_toArray, List.set_cons_zero, List.set_cons_succ]
            refine held_pass (i := 38) rfl (by kernel_rfl) (by kernel_rfl) (by kernel_rfl) (fun _ _ _ h => h) (by kernel_rfl) hHeld ?_
            simp only [Act.put, List.setIfInBounds_toArray, List.set_cons_zero, List.set_cons_succ]
            refine held_take (i := 39) (v := ?_) rfl (by kernel_rfl) (by kernel_rfl) (by kernel_rfl) (fun _ _ _ h => h) (by kernel_rfl) ?_ hHeld ?_
            rotate_left 1
            · (intro w hSw; (try dsimp only at hSw); go_split_ands; go_simp; first | done | with_reducible rfl)
            simp only [Act.put, List.setIfInBounds_toArray, List.set_cons_zero, List.set_cons_succ]
            refine wpAnyH_done (by kernel_rfl) ?_ _
            clear hHeld
            have HB := hidden (hA.trans (B1.drew.mono hA.size))
            have HE := hidden (entsB_no (x := x) HDJ.out (entAt_3 hZ))
            go_wp2
            go_ret
            exact ⟨ret_bool HE.out.symm, HB.out⟩
          · by_cases hj0 : j = 0
            · subst hj0
              simp only [Nat.zero_mul, Nat.add_zero] at u0 u1
              go_wp2_with fail
              generalize wr.alloc (.cells #[.int .i64 y, .slice av zs.length cv] 75) = w1 at X1 Y1 RZ B1 y0 y1 e1 e2 e9 HQ ⊢
              refine wp_region_held_drew (S := fun w' => w'.cell? ⟨wr.heap.size, 0, none⟩ = some (.int .i64 y) ∧ w'.cell? ⟨wr.heap.size, 1, none⟩ = some (.slice av zs.length cv) ∧ w'.cell? ⟨w.heap.size, 1, none⟩ = some (.int .i64 x.n) ∧ w'.cell? ⟨w.heap.size, 2, none⟩ = some (.int .i64 x.s) ∧ w'.cell? ⟨w.heap.size, 9, none⟩ = some (.slice (some ⟨b, off, none⟩) nd cd)) (by kernel_rfl) ?_ (fun hHeld => ?_)
              · exact ⟨y0, y1, e1, e2, e9⟩
              refine held_take (i := 0) (v := ?_) rfl (by kernel_rfl) (by kernel_rfl) (by kernel_rfl) (fun _ _ _ h => h) (by kernel_rfl) ?_ hHeld ?_
              rotate_left 1
              · (intro w hSw; (try dsimp only at hSw); go_split_ands; go_simp; first | done | with_reducible rfl)
              simp only [Act.put, List.setIfInBounds_toArray, List.set_cons_zero, List.set_cons_succ]
              refine held_take (i := 1) (v := ?_) rfl (by kernel_rfl) (by kernel_rfl) (by kernel_rfl) (fun _ _ _ h => h) (by kernel_rfl) ?_ hHeld ?_
              rotate_left 1
              · (intro w hSw; (try dsimp only at hSw); go_split_ands; go_simp; first | done | with_reducible rfl)
              simp only [Act.put, List.setIfInBounds_toArray, List.set_cons_zero, List.set_cons_succ]
              refine held_take (i := 2) (v := ?_) rfl (by kernel_rfl) (by kernel_rfl) (by kernel_rfl) (fun _ _ _ h => h) (by kernel_rfl) ?_ hHeld ?_
              rotate_left 1
              · (intro w hSw; (try dsimp only at hSw); go_split_ands; go_simp; first | done | with_reducible rfl)
              simp only [Act.put, List.setIfInBounds_toArray, List.set_cons_zero, List.set_cons_succ]
              refine held_take (i := 3) (v := ?_) rfl (by kernel_rfl) (by kernel_rfl) (by kernel_rfl) (fun _ _ _ h => h) (by kernel_rfl) ?_ hHeld ?_
              rotate_left 1
              · (intro w hSw; (try dsimp only at hSw); go_split_ands; go_simp; first | done | with_reducible rfl)
              simp only [Act.put, List.setIfInBounds_toArray, List.set_cons_zero, List.set_cons_succ]
              refine held_take (i := 4) (v := ?_) rfl (by kernel_rfl) (by kernel_rfl) (by kernel_rfl) (fun _ _ _ h => h) (by kernel_rfl) ?_ hHeld ?_
              rotate_left 1
              · (intro w hSw; (try dsimp only at hSw); go_split_ands; go_simp; first | done | with_reducible rfl)
              simp only [Act.put, List.setIfInBounds_toArray, List.set_cons_zero, List.set_cons_succ]
              refine held_take (i := 5) (v := ?_) rfl (by kernel_rfl) (by kernel_rfl) (by kernel_rfl) (fun _ _ _ h => h) (by kernel_rfl) ?_ hHeld ?_
              rotate_left 1
              · (intro w hSw; (try dsimp only at hSw); go_split_ands; go_simp; first | done | with_reducible rfl)
              simp only [Act.put, List.setIfInBounds_toArray, List.set_cons_zero, List.set_cons_succ]
              refine held_one (i := 6) (by kernel_rfl) rfl (by kernel_rfl) (fun K hK => ?_)
              go_simp
              refine (l1In_any _ _ _ _).mono ?_
              rintro e w2 ⟨rfl, hw2⟩
              subst hw2
              rw [hI]
              go_wp2_with fail
              clear hHeld
              refine hK.out _ _ ?_ (fun hHeld => ?_)
              · exact ⟨y0, y1, e1, e2, e9⟩
              clear hK K
              refine held_take (i := 7) (v := ?_) rfl (by kernel_rfl) (by kernel_rfl) (by kernel_rfl) (fun _ _ _ h => h) (by kernel_rfl) ?_ hHeld ?_
              rotate_left 1
              · (intro w hSw; (try dsimp only at hSw); go_split_ands; go_simp; first | done | with_reducible rfl)
              simp only [Act.put, List.setIfInBounds_toArray, List.set_cons_zero, List.set_cons_succ]
              refine held_take (i := 8) (v := ?_) rfl (by kernel_rfl) (by kernel_rfl) (by kernel_rfl) (fun _ _ _ h => h) (by kernel_rfl) ?_ hHeld ?_
              rotate_left 1
              · (intro w hSw; (try dsimp only at hSw); go_split_ands; go_simp; first | done | with_reducible rfl)
              simp only [Act.put, List.setIfInBounds_toArray, List.set_cons_zero, List.set_cons_succ]
              refine held_take (i := 9) (v := ?_) rfl (by kernel_rfl) (by kernel_rfl) (by kernel_rfl) (fun _ _ _ h => h) (by kernel_rfl) ?_ hHeld ?_
              rotate_left 1
              · (intro w hSw; (try dsimp only at hSw); go_split_ands; go_simp; first | done | with_reducible rfl)
              simp only [Act.put, List.setIfInBounds_toArray, List.set_cons_zero, List.set_cons_succ]
              refine held_take (i := 10) (v := ?_) rfl (by kernel_rfl) (by kernel_rfl) (by kernel_rfl) (fun _ _ _ h => h) (by kernel_rfl) ?_ hHeld ?_
              rotate_left 1
              · (intro w hSw; (try dsimp only at hSw); go_split_ands; go_simp; first | done | with_reducible rfl)
              simp only [Act.put, List.setIfInBounds_toArray, List.set_cons_zero, List.set_cons_succ]
              refine held_take (i := 11) (v := ?_) rfl (by kernel_rfl) (by kernel_rfl) (by kernel_rfl) (fun _ _ _ h => h) (by kernel_rfl) ?_ hHeld ?_
              rotate_left 1
              · (intro w hSw; (try dsimp only at hSw); go_split_ands; go_simp; first | done | with_reducible rfl)
              simp only [Act.put, List.setIfInBounds_toArray, List.set_cons_zero, List.set_cons_succ]
              refine held_take (i := 12) (v := ?_) rfl (by kernel_rfl) (by kernel_rfl) (by kernel_rfl) (fun _ _ _ h => h) (by kernel_rfl) ?_ hHeld ?_
              rotate_left 1
              · (intro w hSw; (try dsimp only at hSw); go_split_ands; go_simp; first | done | with_reducible rfl)
              simp only [Act.put, List.setIfInBounds_toArray, List.set_cons_zero, List.set_cons_succ]
              refine held_take (i := 13) (v := ?_) rfl (by kernel_rfl) (by kernel_rfl) (by kernel_rfl) (fun _ _ _ h => h) (by kernel_rfl) ?_ hHeld ?_
              rotate_left 1
              · (intro w hSw; (try dsimp only at hSw); go_split_ands; go_simp; first | done | with_reducible rfl)
              simp only [Act.put, List.setIfInBounds_toArray, List.set_cons_zero, List.set_cons_succ]
              refine held_take (i := 14) (v := ?_) rfl (by kernel_rfl) (by kernel_rfl) (by kernel_rfl) (fun _ _ _ h => h) (by kernel_rfl) ?_ hHeld ?_
              rotate_left 1
              · (intro w hSw; (try dsimp only at hSw); go_split_ands; go_simp; first | done | with_reducible rfl)
              simp only [Act.put, List.setIfInBounds_toArray, List.set_cons_zero, List.set_cons_succ]
              refine held_take (i := 15) (v := ?_) rfl (by kernel_rfl) (by kernel_rfl) (by kernel_rfl) (fun _ _ _ h => h) (by kernel_rfl) ?_ hHeld ?_
              rotate_left 1
              · (intro w hSw; (try dsimp only at hSw); go_split_ands; go_simp; first | done | with_reducible rfl)
              simp only [Act.put, List.setIfInBounds_toArray, List.set_cons_zero, List.set_cons_succ]
              refine held_take (i := 16) (v := ?_) rfl (by kernel_rfl) (by kernel_rfl) (by kernel_rfl) (fun _ _ _ h => h) (by kernel_rfl) ?_ hHeld ?_
              rotate_left 1
              · (intro w hSw; (try dsimp only at hSw); go_split_ands; go_simp; first | done | with_reducible rfl)
              simp only [Act.put, List.setIfInBounds_toArray, List.set_cons_zero, List.set_cons_succ]
              refine held_take (i := 17) (v := ?_) rfl (by kernel_rfl) (by kernel_rfl) (by kernel_rfl) (fun _ _ _ h => h) (by kernel_rfl) ?_ hHeld ?_
              rotate_left 1
              · (intro w hSw; (try dsimp only at hSw); go_split_ands; go_simp; first | done | with_reducible rfl)
              simp only [Act.put, List.setIfInBounds_toArray, List.set_cons_zero, List.set_cons_succ]
              refine held_take (i := 18) (v := ?_) rfl (by kernel_rfl) (by kernel_rfl) (by kernel_rfl) (fun _ _ _ h => h) (by kernel_rfl) ?_ hHeld ?_
              rotate_left 1
              · (intro w hSw; (try dsimp only at hSw); go_split_ands; go_simp; first | done | with_reducible rfl)
              simp only [Act.put, List.setIfInBounds_toArray, List.set_cons_zero, List.set_cons_succ]
              refine held_take (i := 19) (v := ?_) rfl (by kernel_rfl) (by kernel_rfl) (by kernel_rfl) (fun _ _ _ h => h) (by kernel_rfl) ?_ hHeld ?_
              rotate_left 1
              · (intro w hSw; (try dsimp only at hSw); go_split_ands; go_simp; first | done | with_reducible rfl)
              simp only [Act.put, List.setIfInBounds_toArray, List.set_cons_zero, List.set_cons_succ]
              refine held_take (i := 20) (v := ?_) rfl (by kernel_rfl) (by kernel_rfl) (by kernel_rfl) (fun _ _ _ h => h) (by kernel_rfl) ?_ hHeld ?_
              rotate_left 1
              · (intro w hSw; (try dsimp only at hSw); go_split_ands; go_simp; first | done | with_reducible rfl)
              simp only [Act.put, List.setIfInBounds_toArray, List.set_cons_zero, List.set_cons_succ]
              refine held_one (i := 21) (by kernel_rfl) rfl (by kernel_rfl) (fun K hK => ?_)
              go_simp
              refine (l1Words_any _ _ _ _ zs rfl RZ.draw hwz).mono ?_
              rintro e w2 ⟨rfl, hw2⟩
              subst hw2
              rw [hZ]
              go_wp2_with fail
              clear hHeld
              refine hK.out _ _ ?_ (fun hHeld => ?_)
              · exact ⟨y0, y1, e1, e2, e9⟩
              clear hK K
              refine held_take (i := 22) (v := ?_) rfl (by kernel_rfl) (by kernel_rfl) (by kernel_rfl) (fun _ _ _ h => h) (by kernel_rfl) ?_ hHeld ?_
              rotate_left 1
              · (intro w hSw; (try dsimp only at hSw); go_split_ands; go_simp; first | done | with_reducible rfl)
              simp only [Act.put, List.setIfInBounds_toArray, List.set_cons_zero, List.set_cons_succ]
              refine held_take (i := 23) (v := ?_) rfl (by kernel_rfl) (by kernel_rfl) (by kernel_rfl) (fun _ _ _ h => h) (by kernel_rfl) ?_ hHeld ?_
              rotate_left 1
              · (intro w hSw; (try dsimp only at hSw); go_split_ands; go_simp; first | done | with_reducible rfl)
              simp only [Act.put, List.setIfInBounds_toArray, List.set_cons_zero, List.set_cons_succ]
              refine held_take (i := 24) (v := ?_) rfl (by kernel_rfl) (by kernel_rfl) (by kernel_rfl) (fun _ _ _ h => h) (by kernel_rfl) ?_ hHeld ?_
              rotate_left 1
              · (intro w hSw; (try dsimp only at hSw); go_split_ands; go_simp; first | done | with_reducible rfl)
              simp only [Act.put, List.setIfInBounds_toArray, List.set_cons_zero, List.set_cons_succ]
              refine held_take (i := 25) (v := ?_) rfl (by kernel_rfl) (by kernel_rfl) (by kernel_rfl) (fun _ _ _ h => h) (by kernel_rfl) ?_ hHeld ?_
              rotate_left 1
              · (intro w hSw; (try dsimp only at hSw); go_split_ands; go_simp; first | done | with_reducible rfl)
              simp only [Act.put, List.setIfInBounds_toArray, List.set_cons_zero, List.set_cons_succ]
              refine held_take (i := 26) (v := ?_) rfl (by kernel_rfl) (by kernel_rfl) (by kernel_rfl) (fun _ _ _ h => h) (by kernel_rfl) ?_ hHeld ?_
              rotate_left 1
              · (intro w hSw; (try dsimp only at hSw); go_split_ands; go_simp; first | done | with_reducible rfl)
              simp only [Act.put, List.setIfInBounds_toArray, List.set_cons_zero, List.set_cons_succ]
              refine held_take (i := 27) (v := ?_) rfl (by kernel_rfl) (by kernel_rfl) (by kernel_rfl) (fun _ _ _ h => h) (by kernel_rfl) ?_ hHeld ?_
              rotate_left 1
              · (intro w hSw; (try dsimp only at hSw); go_split_ands; go_simp; first | done | with_reducible rfl)
              simp only [Act.put, List.setIfInBounds_toArray, List.set_cons_zero, List.set_cons_succ]
              refine held_pass (i := 28) rfl (by kernel_rfl) (by kernel_rfl) (by kernel_rfl) (fun _ _ _ h => h) (by kernel_rfl) hHeld ?_
              simp only [Act.put, List.setIfInBounds_toArray, List.set_cons_zero, List.set_cons_succ]
              refine held_pass (i := 29) rfl (by kernel_rfl) (by kernel_rfl) (by kernel_rfl) (fun _ _ _ h => h) (by kernel_rfl) hHeld ?_
              simp only [Act.put, List.setIfInBounds_toArray, List.set_cons_zero, List.set_cons_succ]
              refine held_pass (i := 30) rfl (by kernel_rfl) (by kernel_rfl) (by kernel_rfl) (fun _ _ _ h => h) (by kernel_rfl) hHeld ?_
              simp only [Act.put, List.setIfInBounds_toArray, List.set_cons_zero, List.set_cons_succ]
              refine held_pass (i := 31) rfl (by kernel_rfl) (by kernel_rfl) (by kernel_rfl) (fun _ _ _ h => h) (by kernel_rfl) hHeld ?_
              simp only [Act.put, List.setIfInBounds_toArray, List.set_cons_zero, List.set_cons_succ]
              refine held_pass (i := 32) rfl (by kernel_rfl) (by kernel_rfl) (by kernel_rfl) (fun _ _ _ h => h) (by kernel_rfl) hHeld ?_
              simp only [Act.put, List.setIfInBounds_toArray, List.set_cons_zero, List.set_cons_succ]
              refine held_pass (i := 33) rfl (by kernel_rfl) (by kernel_rfl) (by kernel_rfl) (fun _ _ _ h => h) (by kernel_rfl) hHeld ?_
              simp only [Act.put, List.setIfInBounds_toArray, List.set_cons_zero, List.set_cons_succ]
              refine held_pass (i := 34) rfl (by kernel_rfl) (by kernel_rfl) (by kernel_rfl) (fun _ _ _ h => h) (by kernel_rfl) hHeld ?_
              simp only [Act.put, List.setIfInBounds_toArray, List.set_cons_zero, List.set_cons_succ]
              refine held_pass (i := 35) rfl (by kernel_rfl) (by kernel_rfl) (by kernel_rfl) (fun _ _ _ h => h) (by kernel_rfl) hHeld ?_
              simp only [Act.put, List.setIfInBounds_toArray, List.set_cons_zero, List.set_cons_succ]
              refine held_pass (i := 36) rfl (by kernel_rfl) (by kernel_rfl) (by kernel_rfl) (fun _ _ _ h => h) (by kernel_rfl) hHeld ?_
              simp only [Act.put, List.setIfInBounds_toArray, List.set_cons_zero, List.set_cons_succ]
              refine held_pass (i := 37) rfl (by kernel_rfl) (by kernel_rfl) (by kernel_rfl) (fun _ _ _ h => h) (by kernel_rfl) hHeld ?_
              simp only [Act.put, List.setIfInBounds_toArray, List.set_cons_zero, List.set_cons_succ]
              refine held_take (i := 38) (v := ?_) rfl (by kernel_rfl) (by kernel_rfl) (by kernel_rfl) (fun _ _ _ h => h) (by kernel_rfl) ?_ hHeld ?_
              rotate_left 1
              · (intro w hSw; (try dsimp only at hSw); go_split_ands; go_simp; first | done | with_reducible rfl)
              simp only [Act.put, List.setIfInBounds_toArray, List.set_cons_zero, List.set_cons_succ]
              refine held_take (i := 39) (v := ?_) rfl (by kernel_rfl) (by kernel_rfl) (by kernel_rfl) (fun _ _ _ h => h) (by kernel_rfl) ?_ hHeld ?_
              rotate_left 1
              · (intro w hSw; (try dsimp only at hSw); go_split_ands; go_simp; first | done | with_reducible rfl)
              simp only [Act.put, List.setIfInBounds_toArray, List.set_cons_zero, List.set_cons_succ]
              refine wpAnyH_done (by kernel_rfl) ?_ _
              clear hHeld
              have HB := hidden B1.drew
              have hat : entAt x ds (0) (y, zs) = true := entAt_4 hI HL.out hZ
              go_wp2
              go_roundw
              case rel => exact ⟨0 + 1, by omega, by go_num, fun q d hq hm' => by
                  rcases Nat.lt_or_ge q (0) with h | h
                  · exact hall q d h hm'
                  · obtain rfl : q = 0 := by omega
                    rw [HDJ.out] at hm'
                    cases hm'
                    exact hat, HB.out⟩
              case measure => simp [intOf]; omega
            · obtain ⟨p, rfl⟩ : ∃ p, j = p + 1 := ⟨j - 1, by omega⟩
              have hpq : ds[p]? = some (ds[p]'(by omega)) := List.getElem?_eq_getElem (by omega)
              generalize ds[p]'(by omega) = q at hpq
              have hE := entAt_5 hI HL.out hZ hpq
              have qc := HQ.out p q hpq
              obtain ⟨s, zq⟩ := q
              simp only at qc hE
              have HE5 := hidden hE
              clear hpq hE
              have j1 : IntKind.i64.wrap (((p + 1 : Nat) : Int) - 1) = (p : Int) := by rw [IntWalk.i64_in _ (by omega)]; omega
              have j2 : IntKind.i64.wrap ((p : Int) + 1 - 1) = (p : Int) := by rw [IntWalk.i64_in _ (by omega)]; omega
              have j3 : IntKind.i64.wrap (p : Int) = (p : Int) := IntWalk.i64_in _ (by omega)
              have j4 : (0 : Int) ≤ (p : Int) := by omega
              have j5 : (p : Int) < (nd : Int) := by omega
              have j6 : (0 : Int) < ((p + 1 : Nat) : Int) := by omega
              by_cases hlt : s < y
              · have hd1 : decide (s < y) = true := by simpa using hlt
                have hge : ¬ y ≤ s := by omega
                go_wp2_with fail
                generalize wr.alloc (.cells #[.int .i64 y, .slice av zs.length cv] 75) = w1 at X1 Y1 RZ B1 y0 y1 e1 e2 e9 HQ qc ⊢
                refine wp_region_held_drew (S := fun w' => w'.cell? ⟨wr.heap.size, 0, none⟩ = some (.int .i64 y) ∧ w'.cell? ⟨wr.heap.size, 1, none⟩ = some (.slice av zs.length cv) ∧ w'.cell? ⟨w.heap.size, 1, none⟩ = some (.int .i64 x.n) ∧ w'.cell? ⟨w.heap.size, 2, none⟩ = some (.int .i64 x.s) ∧ w'.cell? ⟨w.heap.size, 9, none⟩ = some (.slice (some ⟨b, off, none⟩) nd cd) ∧ w'.cell? ⟨b, off + p * 2, none⟩ = some (.int .i64 s)) (by kernel_rfl) ?_ (fun hHeld => ?_)
                · exact ⟨y0, y1, e1, e2, e9, qc⟩
                refine held_take (i := 0) (v := ?_) rfl (by kernel_rfl) (by kernel_rfl) (by kernel_rfl) (fun _ _ _ h => h) (by kernel_rfl) ?_ hHeld ?_
                rotate_left 1
                · (intro w hSw; (try dsimp only at hSw); go_split_ands; go_simp; first | done | with_reducible rfl)
                simp only [Act.put, List.setIfInBounds_toArray, List.set_cons_zero, List.set_cons_succ]
                refine held_take (i := 1) (v := ?_) rfl (by kernel_rfl) (by kernel_rfl) (by kernel_rfl) (fun _ _ _ h => h) (by kernel_rfl) ?_ hHeld ?_
                rotate_left 1
                · (intro w hSw; (try dsimp only at hSw); go_split_ands; go_simp; first | done | with_reducible rfl)
                simp only [Act.put, List.setIfInBounds_toArray, List.set_cons_zero, List.set_cons_succ]
                refine held_take (i := 2) (v := ?_) rfl (by kernel_rfl) (by kernel_rfl) (by kernel_rfl) (fun _ _ _ h => h) (by kernel_rfl) ?_ hHeld ?_
                rotate_left 1
                · (intro w hSw; (try dsimp only at hSw); go_split_ands; go_simp; first | done | with_reducible rfl)
                simp only [Act.put, List.setIfInBounds_toArray, List.set_cons_zero, List.set_cons_succ]
                refine held_take (i := 3) (v := ?_) rfl (by kernel_rfl) (by kernel_rfl) (by kernel_rfl) (fun _ _ _ h => h) (by kernel_rfl) ?_ hHeld ?_
                rotate_left 1
                · (intro w hSw; (try dsimp only at hSw); go_split_ands; go_simp; first | done | with_reducible rfl)
                simp only [Act.put, List.setIfInBounds_toArray, List.set_cons_zero, List.set_cons_succ]
                refine held_take (i := 4) (v := ?_) rfl (by kernel_rfl) (by kernel_rfl) (by kernel_rfl) (fun _ _ _ h => h) (by kernel_rfl) ?_ hHeld ?_
                rotate_left 1
                · (intro w hSw; (try dsimp only at hSw); go_split_ands; go_simp; first | done | with_reducible rfl)
                simp only [Act.put, List.setIfInBounds_toArray, List.set_cons_zero, List.set_cons_succ]
                refine held_take (i := 5) (v := ?_) rfl (by kernel_rfl) (by kernel_rfl) (by kernel_rfl) (fun _ _ _ h => h) (by kernel_rfl) ?_ hHeld ?_
                rotate_left 1
                · (intro w hSw; (try dsimp only at hSw); go_split_ands; go_simp; first | done | with_reducible rfl)
                simp only [Act.put, List.setIfInBounds_toArray, List.set_cons_zero, List.set_cons_succ]
                refine held_one (i := 6) (by kernel_rfl) rfl (by kernel_rfl) (fun K hK => ?_)
                go_simp
                refine (l1In_any _ _ _ _).mono ?_
                rintro e w2 ⟨rfl, hw2⟩
                subst hw2
                rw [hI]
                go_wp2_with fail
                clear hHeld
                refine hK.out _ _ ?_ (fun hHeld => ?_)
                · exact ⟨y0, y1, e1, e2, e9, qc⟩
                clear hK K
                refine held_take (i := 7) (v := ?_) rfl (by kernel_rfl) (by kernel_rfl) (by kernel_rfl) (fun _ _ _ h => h) (by kernel_rfl) ?_ hHeld ?_
                rotate_left 1
                · (intro w hSw; (try dsimp only at hSw); go_split_ands; go_simp; first | done | with_reducible rfl)
                simp only [Act.put, List.setIfInBounds_toArray, List.set_cons_zero, List.set_cons_succ]
                refine held_take (i := 8) (v := ?_) rfl (by kernel_rfl) (by kernel_rfl) (by kernel_rfl) (fun _ _ _ h => h) (by kernel_rfl) ?_ hHeld ?_
                rotate_left 1
                · (intro w hSw; (try dsimp only at hSw); go_split_ands; go_simp; first | done | with_reducible rfl)
                simp only [Act.put, List.setIfInBounds_toArray, List.set_cons_zero, List.set_cons_succ]
                refine held_take (i := 9) (v := ?_) rfl (by kernel_rfl) (by kernel_rfl) (by kernel_rfl) (fun _ _ _ h => h) (by kernel_rfl) ?_ hHeld ?_
                rotate_left 1
                · (intro w hSw; (try dsimp only at hSw); go_split_ands; go_simp; first | done | with_reducible rfl)
                simp only [Act.put, List.setIfInBounds_toArray, List.set_cons_zero, List.set_cons_succ]
                refine held_take (i := 10) (v := ?_) rfl (by kernel_rfl) (by kernel_rfl) (by kernel_rfl) (fun _ _ _ h => h) (by kernel_rfl) ?_ hHeld ?_
                rotate_left 1
                · (intro w hSw; (try dsimp only at hSw); go_split_ands; go_simp; first | done | with_reducible rfl)
                simp only [Act.put, List.setIfInBounds_toArray, List.set_cons_zero, List.set_cons_succ]
                refine held_take (i := 11) (v := ?_) rfl (by kernel_rfl) (by kernel_rfl) (by kernel_rfl) (fun _ _ _ h => h) (by kernel_rfl) ?_ hHeld ?_
                rotate_left 1
                · (intro w hSw; (try dsimp only at hSw); go_split_ands; go_simp; first | done | with_reducible rfl)
                simp only [Act.put, List.setIfInBounds_toArray, List.set_cons_zero, List.set_cons_succ]
                refine held_take (i := 12) (v := ?_) rfl (by kernel_rfl) (by kernel_rfl) (by kernel_rfl) (fun _ _ _ h => h) (by kernel_rfl) ?_ hHeld ?_
                rotate_left 1
                · (intro w hSw; (try dsimp only at hSw); go_split_ands; go_simp; first | done | with_reducible rfl)
                simp only [Act.put, List.setIfInBounds_toArray, List.set_cons_zero, List.set_cons_succ]
                refine held_take (i := 13) (v := ?_) rfl (by kernel_rfl) (by kernel_rfl) (by kernel_rfl) (fun _ _ _ h => h) (by kernel_rfl) ?_ hHeld ?_
                rotate_left 1
                · (intro w hSw; (try dsimp only at hSw); go_split_ands; go_simp; first | done | with_reducible rfl)
                simp only [Act.put, List.setIfInBounds_toArray, List.set_cons_zero, List.set_cons_succ]
                refine held_take (i := 14) (v := ?_) rfl (by kernel_rfl) (by kernel_rfl) (by kernel_rfl) (fun _ _ _ h => h) (by kernel_rfl) ?_ hHeld ?_
                rotate_left 1
                · (intro w hSw; (try dsimp only at hSw); go_split_ands; go_simp; first | done | with_reducible rfl)
                simp only [Act.put, List.setIfInBounds_toArray, List.set_cons_zero, List.set_cons_succ]
                refine held_take (i := 15) (v := ?_) rfl (by kernel_rfl) (by kernel_rfl) (by kernel_rfl) (fun _ _ _ h => h) (by kernel_rfl) ?_ hHeld ?_
                rotate_left 1
                · (intro w hSw; (try dsimp only at hSw); go_split_ands; go_simp; first | done | with_reducible rfl)
                simp only [Act.put, List.setIfInBounds_toArray, List.set_cons_zero, List.set_cons_succ]
                refine held_take (i := 16) (v := ?_) rfl (by kernel_rfl) (by kernel_rfl) (by kernel_rfl) (fun _ _ _ h => h) (by kernel_rfl) ?_ hHeld ?_
                rotate_left 1
                · (intro w hSw; (try dsimp only at hSw); go_split_ands; go_simp; first | done | with_reducible rfl)
                simp only [Act.put, List.setIfInBounds_toArray, List.set_cons_zero, List.set_cons_succ]
                refine held_take (i := 17) (v := ?_) rfl (by kernel_rfl) (by kernel_rfl) (by kernel_rfl) (fun _ _ _ h => h) (by kernel_rfl) ?_ hHeld ?_
                rotate_left 1
                · (intro w hSw; (try dsimp only at hSw); go_split_ands; go_simp; first | done | with_reducible rfl)
                simp only [Act.put, List.setIfInBounds_toArray, List.set_cons_zero, List.set_cons_succ]
                refine held_take (i := 18) (v := ?_) rfl (by kernel_rfl) (by kernel_rfl) (by kernel_rfl) (fun _ _ _ h => h) (by kernel_rfl) ?_ hHeld ?_
                rotate_left 1
                · (intro w hSw; (try dsimp only at hSw); go_split_ands; go_simp; first | done | with_reducible rfl)
                simp only [Act.put, List.setIfInBounds_toArray, List.set_cons_zero, List.set_cons_succ]
                refine held_take (i := 19) (v := ?_) rfl (by kernel_rfl) (by kernel_rfl) (by kernel_rfl) (fun _ _ _ h => h) (by kernel_rfl) ?_ hHeld ?_
                rotate_left 1
                · (intro w hSw; (try dsimp only at hSw); go_split_ands; go_simp; first | done | with_reducible rfl)
                simp only [Act.put, List.setIfInBounds_toArray, List.set_cons_zero, List.set_cons_succ]
                refine held_take (i := 20) (v := ?_) rfl (by kernel_rfl) (by kernel_rfl) (by kernel_rfl) (fun _ _ _ h => h) (by kernel_rfl) ?_ hHeld ?_
                rotate_left 1
                · (intro w hSw; (try dsimp only at hSw); go_split_ands; go_simp; first | done | with_reducible rfl)
                simp only [Act.put, List.setIfInBounds_toArray, List.set_cons_zero, List.set_cons_succ]
                refine held_one (i := 21) (by kernel_rfl) rfl (by kernel_rfl) (fun K hK => ?_)
                go_simp
                refine (l1Words_any _ _ _ _ zs rfl RZ.draw hwz).mono ?_
                rintro e w2 ⟨rfl, hw2⟩
                subst hw2
                rw [hZ]
                go_wp2_with fail
                clear hHeld
                refine hK.out _ _ ?_ (fun hHeld => ?_)
                · exact ⟨y0, y1, e1, e2, e9, qc⟩
                clear hK K
                refine held_take (i := 22) (v := ?_) rfl (by kernel_rfl) (by kernel_rfl) (by kernel_rfl) (fun _ _ _ h => h) (by kernel_rfl) ?_ hHeld ?_
                rotate_left 1
                · (intro w hSw; (try dsimp only at hSw); go_split_ands; go_simp; first | done | with_reducible rfl)
                simp only [Act.put, List.setIfInBounds_toArray, List.set_cons_zero, List.set_cons_succ]
                refine held_take (i := 23) (v := ?_) rfl (by kernel_rfl) (by kernel_rfl) (by kernel_rfl) (fun _ _ _ h => h) (by kernel_rfl) ?_ hHeld ?_
                rotate_left 1
                · (intro w hSw; (try dsimp only at hSw); go_split_ands; go_simp; first | done | with_reducible rfl)
                simp only [Act.put, List.setIfInBounds_toArray, List.set_cons_zero, List.set_cons_succ]
                refine held_take (i := 24) (v := ?_) rfl (by kernel_rfl) (by kernel_rfl) (by kernel_rfl) (fun _ _ _ h => h) (by kernel_rfl) ?_ hHeld ?_
                rotate_left 1
                · (intro w hSw; (try dsimp only at hSw); go_split_ands; go_simp; first | done | with_reducible rfl)
                simp only [Act.put, List.setIfInBounds_toArray, List.set_cons_zero, List.set_cons_succ]
                refine held_take (i := 25) (v := ?_) rfl (by kernel_rfl) (by kernel_rfl) (by kernel_rfl) (fun _ _ _ h => h) (by kernel_rfl) ?_ hHeld ?_
                rotate_left 1
                · (intro w hSw; (try dsimp only at hSw); go_split_ands; go_simp; first | done | with_reducible rfl)
                simp only [Act.put, List.setIfInBounds_toArray, List.set_cons_zero, List.set_cons_succ]
                refine held_take (i := 26) (v := ?_) rfl (by kernel_rfl) (by kernel_rfl) (by kernel_rfl) (fun _ _ _ h => h) (by kernel_rfl) ?_ hHeld ?_
                rotate_left 1
                · (intro w hSw; (try dsimp only at hSw); go_split_ands; go_simp; first | done | with_reducible rfl)
                simp only [Act.put, List.setIfInBounds_toArray, List.set_cons_zero, List.set_cons_succ]
                refine held_take (i := 27) (v := ?_) rfl (by kernel_rfl) (by kernel_rfl) (by kernel_rfl) (fun _ _ _ h => h) (by kernel_rfl) ?_ hHeld ?_
                rotate_left 1
                · (intro w hSw; (try dsimp only at hSw); go_split_ands; go_simp; first | done | with_reducible rfl)
                simp only [Act.put, List.setIfInBounds_toArray, List.set_cons_zero, List.set_cons_succ]
                refine held_take (i := 28) (v := ?_) rfl (by kernel_rfl) (by kernel_rfl) (by kernel_rfl) (fun _ _ _ h => h) (by kernel_rfl) ?_ hHeld ?_
                rotate_left 1
                · (intro w hSw; (try dsimp only at hSw); go_split_ands; go_simp; first | done | with_reducible rfl)
                simp only [Act.put, List.setIfInBounds_toArray, List.set_cons_zero, List.set_cons_succ]
                refine held_take (i := 29) (v := ?_) rfl (by kernel_rfl) (by kernel_rfl) (by kernel_rfl) (fun _ _ _ h => h) (by kernel_rfl) ?_ hHeld ?_
                rotate_left 1
                · (intro w hSw; (try dsimp only at hSw); go_split_ands; go_simp; first | done | with_reducible rfl)
                simp only [Act.put, List.setIfInBounds_toArray, List.set_cons_zero, List.set_cons_succ]
                refine held_take (i := 30) (v := ?_) rfl (by kernel_rfl) (by kernel_rfl) (by kernel_rfl) (fun _ _ _ h => h) (by kernel_rfl) ?_ hHeld ?_
                rotate_left 1
                · (intro w hSw; (try dsimp only at hSw); go_split_ands; go_simp; first | done | with_reducible rfl)
                simp only [Act.put, List.setIfInBounds_toArray, List.set_cons_zero, List.set_cons_succ]
                refine held_take (i := 31) (v := ?_) rfl (by kernel_rfl) (by kernel_rfl) (by kernel_rfl) (fun _ _ _ h => h) (by kernel_rfl) ?_ hHeld ?_
                rotate_left 1
                · (intro w hSw; (try dsimp only at hSw); go_split_ands; go_simp; first | done | with_reducible rfl)
                simp only [Act.put, List.setIfInBounds_toArray, List.set_cons_zero, List.set_cons_succ]
                refine held_take (i := 32) (v := ?_) rfl (by kernel_rfl) (by kernel_rfl) (by kernel_rfl) (fun _ _ _ h => h) (by kernel_rfl) ?_ hHeld ?_
                rotate_left 1
                · (intro w hSw; (try dsimp only at hSw); go_split_ands; go_simp; first | done | with_reducible rfl)
                simp only [Act.put, List.setIfInBounds_toArray, List.set_cons_zero, List.set_cons_succ]
                refine held_take (i := 33) (v := ?_) rfl (by kernel_rfl) (by kernel_rfl) (by kernel_rfl) (fun _ _ _ h => h) (by kernel_rfl) ?_ hHeld ?_
                rotate_left 1
                · (intro w hSw; (try dsimp only at hSw); go_split_ands; go_simp; first | done | with_reducible rfl)
                simp only [Act.put, List.setIfInBounds_toArray, List.set_cons_zero, List.set_cons_succ]
                refine held_take (i := 34) (v := ?_) rfl (by kernel_rfl) (by kernel_rfl) (by kernel_rfl) (fun _ _ _ h => h) (by kernel_rfl) ?_ hHeld ?_
                rotate_left 1
                · (intro w hSw; (try dsimp only at hSw); go_split_ands; go_simp; first | done | with_reducible rfl)
                simp only [Act.put, List.setIfInBounds_toArray, List.set_cons_zero, List.set_cons_succ]
                refine held_take (i := 35) (v := ?_) rfl (by kernel_rfl) (by kernel_rfl) (by kernel_rfl) (fun _ _ _ h => h) (by kernel_rfl) ?_ hHeld ?_
                rotate_left 1
                · (intro w hSw; (try dsimp only at hSw); go_split_ands; go_simp; first | done | with_reducible rfl)
                simp only [Act.put, List.setIfInBounds_toArray, List.set_cons_zero, List.set_cons_succ]
                refine held_take (i := 36) (v := ?_) rfl (by kernel_rfl) (by kernel_rfl) (by kernel_rfl) (fun _ _ _ h => h) (by kernel_rfl) ?_ hHeld ?_
                rotate_left 1
                · (intro w hSw; (try dsimp only at hSw); go_split_ands; go_simp; first | done | with_reducible rfl)
                simp only [Act.put, List.setIfInBounds_toArray, List.set_cons_zero, List.set_cons_succ]
                refine held_take (i := 37) (v := ?_) rfl (by kernel_rfl) (by kernel_rfl) (by kernel_rfl) (fun _ _ _ h => h) (by kernel_rfl) ?_ hHeld ?_
                rotate_left 1
                · (intro w hSw; (try dsimp only at hSw); go_split_ands; go_simp; first | done | with_reducible rfl)
                simp only [Act.put, List.setIfInBounds_toArray, List.set_cons_zero, List.set_cons_succ]
                refine held_take (i := 38) (v := ?_) rfl (by kernel_rfl) (by kernel_rfl) (by kernel_rfl) (fun _ _ _ h => h) (by kernel_rfl) ?_ hHeld ?_
                rotate_left 1
                · (intro w hSw; (try dsimp only at hSw); go_split_ands; go_simp; first | done | with_reducible rfl)
                simp only [Act.put, List.setIfInBounds_toArray, List.set_cons_zero, List.set_cons_succ]
                refine held_take (i := 39) (v := ?_) rfl (by kernel_rfl) (by kernel_rfl) (by kernel_rfl) (fun _ _ _ h => h) (by kernel_rfl) ?_ hHeld ?_
                rotate_left 1
                · (intro w hSw; (try dsimp only at hSw); go_split_ands; go_simp; first | done | with_reducible rfl)
                simp only [Act.put, List.setIfInBounds_toArray, List.set_cons_zero, List.set_cons_succ]
                refine wpAnyH_done (by kernel_rfl) ?_ _
                clear hHeld
                have HB := hidden B1.drew
                have hat : entAt x ds (p + 1) (y, zs) = true := HE5.out.trans hd1
                go_wp2
                go_roundw
                case rel => exact ⟨p + 1 + 1, by omega, by go_num, fun q d hq hm' => by
                    rcases Nat.lt_or_ge q (p + 1) with h | h
                    · exact hall q d h hm'
                    · obtain rfl : q = p + 1 := by omega
                      rw [HDJ.out] at hm'
                      cases hm'
                      exact hat, HB.out⟩
                case measure => simp [intOf]; omega
              · have hd1 : decide (s < y) = false := by simpa using hlt
                have hge : y ≤ s := by omega
                go_wp2_with fail
                generalize wr.alloc (.cells #[.int .i64 y, .slice av zs.length cv] 75) = w1 at X1 Y1 RZ B1 y0 y1 e1 e2 e9 HQ qc ⊢
                refine wp_region_held_drew (S := fun w' => w'.cell? ⟨wr.heap.size, 0, none⟩ = some (.int .i64 y) ∧ w'.cell? ⟨wr.heap.size, 1, none⟩ = some (.slice av zs.length cv) ∧ w'.cell? ⟨w.heap.size, 1, none⟩ = some (.int .i64 x.n) ∧ w'.cell? ⟨w.heap.size, 2, none⟩ = some (.int .i64 x.s) ∧ w'.cell? ⟨w.heap.size, 9, none⟩ = some (.slice (some ⟨b, off, none⟩) nd cd) ∧ w'.cell? ⟨b, off + p * 2, none⟩ = some (.int .i64 s)) (by kernel_rfl) ?_ (fun hHeld => ?_)
                · exact ⟨y0, y1, e1, e2, e9, qc⟩
                refine held_take (i := 0) (v := ?_) rfl (by kernel_rfl) (by kernel_rfl) (by kernel_rfl) (fun _ _ _ h => h) (by kernel_rfl) ?_ hHeld ?_
                rotate_left 1
                · (intro w hSw; (try dsimp only at hSw); go_split_ands; go_simp; first | done | with_reducible rfl)
                simp only [Act.put, List.setIfInBounds_toArray, List.set_cons_zero, List.set_cons_succ]
                refine held_take (i := 1) (v := ?_) rfl (by kernel_rfl) (by kernel_rfl) (by kernel_rfl) (fun _ _ _ h => h) (by kernel_rfl) ?_ hHeld ?_
                rotate_left 1
                · (intro w hSw; (try dsimp only at hSw); go_split_ands; go_simp; first | done | with_reducible rfl)
                simp only [Act.put, List.setIfInBounds_toArray, List.set_cons_zero, List.set_cons_succ]
                refine held_take (i := 2) (v := ?_) rfl (by kernel_rfl) (by kernel_rfl) (by kernel_rfl) (fun _ _ _ h => h) (by kernel_rfl) ?_ hHeld ?_
                rotate_left 1
                · (intro w hSw; (try dsimp only at hSw); go_split_ands; go_simp; first | done | with_reducible rfl)
                simp only [Act.put, List.setIfInBounds_toArray, List.set_cons_zero, List.set_cons_succ]
                refine held_take (i := 3) (v := ?_) rfl (by kernel_rfl) (by kernel_rfl) (by kernel_rfl) (fun _ _ _ h => h) (by kernel_rfl) ?_ hHeld ?_
                rotate_left 1
                · (intro w hSw; (try dsimp only at hSw); go_split_ands; go_simp; first | done | with_reducible rfl)
                simp only [Act.put, List.setIfInBounds_toArray, List.set_cons_zero, List.set_cons_succ]
                refine held_take (i := 4) (v := ?_) rfl (by kernel_rfl) (by kernel_rfl) (by kernel_rfl) (fun _ _ _ h => h) (by kernel_rfl) ?_ hHeld ?_
                rotate_left 1
                · (intro w hSw; (try dsimp only at hSw); go_split_ands; go_simp; first | done | with_reducible rfl)
                simp only [Act.put, List.setIfInBounds_toArray, List.set_cons_zero, List.set_cons_succ]
                refine held_take (i := 5) (v := ?_) rfl (by kernel_rfl) (by kernel_rfl) (by kernel_rfl) (fun _ _ _ h => h) (by kernel_rfl) ?_ hHeld ?_
                rotate_left 1
                · (intro w hSw; (try dsimp only at hSw); go_split_ands; go_simp; first | done | with_reducible rfl)
                simp only [Act.put, List.setIfInBounds_toArray, List.set_cons_zero, List.set_cons_succ]
                refine held_one (i := 6) (by kernel_rfl) rfl (by kernel_rfl) (fun K hK => ?_)
                go_simp
                refine (l1In_any _ _ _ _).mono ?_
                rintro e w2 ⟨rfl, hw2⟩
                subst hw2
                rw [hI]
                go_wp2_with fail
                clear hHeld
                refine hK.out _ _ ?_ (fun hHeld => ?_)
                · exact ⟨y0, y1, e1, e2, e9, qc⟩
                clear hK K
                refine held_take (i := 7) (v := ?_) rfl (by kernel_rfl) (by kernel_rfl) (by kernel_rfl) (fun _ _ _ h => h) (by kernel_rfl) ?_ hHeld ?_
                rotate_left 1
                · (intro w hSw; (try dsimp only at hSw); go_split_ands; go_simp; first | done | with_reducible rfl)
                simp only [Act.put, List.setIfInBounds_toArray, List.set_cons_zero, List.set_cons_succ]
                refine held_take (i := 8) (v := ?_) rfl (by kernel_rfl) (by kernel_rfl) (by kernel_rfl) (fun _ _ _ h => h) (by kernel_rfl) ?_ hHeld ?_
                rotate_left 1
                · (intro w hSw; (try dsimp only at hSw); go_split_ands; go_simp; first | done | with_reducible rfl)
                simp only [Act.put, List.setIfInBounds_toArray, List.set_cons_zero, List.set_cons_succ]
                refine held_take (i := 9) (v := ?_) rfl (by kernel_rfl) (by kernel_rfl) (by kernel_rfl) (fun _ _ _ h => h) (by kernel_rfl) ?_ hHeld ?_
                rotate_left 1
                · (intro w hSw; (try dsimp only at hSw); go_split_ands; go_simp; first | done | with_reducible rfl)
                simp only [Act.put, List.setIfInBounds_toArray, List.set_cons_zero, List.set_cons_succ]
                refine held_take (i := 10) (v := ?_) rfl (by kernel_rfl) (by kernel_rfl) (by kernel_rfl) (fun _ _ _ h => h) (by kernel_rfl) ?_ hHeld ?_
                rotate_left 1
                · (intro w hSw; (try dsimp only at hSw); go_split_ands; go_simp; first | done | with_reducible rfl)
                simp only [Act.put, List.setIfInBounds_toArray, List.set_cons_zero, List.set_cons_succ]
                refine held_take (i := 11) (v := ?_) rfl (by kernel_rfl) (by kernel_rfl) (by kernel_rfl) (fun _ _ _ h => h) (by kernel_rfl) ?_ hHeld ?_
                rotate_left 1
                · (intro w hSw; (try dsimp only at hSw); go_split_ands; go_simp; first | done | with_reducible rfl)
                simp only [Act.put, List.setIfInBounds_toArray, List.set_cons_zero, List.set_cons_succ]
                refine held_take (i := 12) (v := ?_) rfl (by kernel_rfl) (by kernel_rfl) (by kernel_rfl) (fun _ _ _ h => h) (by kernel_rfl) ?_ hHeld ?_
                rotate_left 1
                · (intro w hSw; (try dsimp only at hSw); go_split_ands; go_simp; first | done | with_reducible rfl)
                simp only [Act.put, List.setIfInBounds_toArray, List.set_cons_zero, List.set_cons_succ]
                refine held_take (i := 13) (v := ?_) rfl (by kernel_rfl) (by kernel_rfl) (by kernel_rfl) (fun _ _ _ h => h) (by kernel_rfl) ?_ hHeld ?_
                rotate_left 1
                · (intro w hSw; (try dsimp only at hSw); go_split_ands; go_simp; first | done | with_reducible rfl)
                simp only [Act.put, List.setIfInBounds_toArray, List.set_cons_zero, List.set_cons_succ]
                refine held_take (i := 14) (v := ?_) rfl (by kernel_rfl) (by kernel_rfl) (by kernel_rfl) (fun _ _ _ h => h) (by kernel_rfl) ?_ hHeld ?_
                rotate_left 1
                · (intro w hSw; (try dsimp only at hSw); go_split_ands; go_simp; first | done | with_reducible rfl)
                simp only [Act.put, List.setIfInBounds_toArray, List.set_cons_zero, List.set_cons_succ]
                refine held_take (i := 15) (v := ?_) rfl (by kernel_rfl) (by kernel_rfl) (by kernel_rfl) (fun _ _ _ h => h) (by kernel_rfl) ?_ hHeld ?_
                rotate_left 1
                · (intro w hSw; (try dsimp only at hSw); go_split_ands; go_simp; first | done | with_reducible rfl)
                simp only [Act.put, List.setIfInBounds_toArray, List.set_cons_zero, List.set_cons_succ]
                refine held_take (i := 16) (v := ?_) rfl (by kernel_rfl) (by kernel_rfl) (by kernel_rfl) (fun _ _ _ h => h) (by kernel_rfl) ?_ hHeld ?_
                rotate_left 1
                · (intro w hSw; (try dsimp only at hSw); go_split_ands; go_simp; first | done | with_reducible rfl)
                simp only [Act.put, List.setIfInBounds_toArray, List.set_cons_zero, List.set_cons_succ]
                refine held_take (i := 17) (v := ?_) rfl (by kernel_rfl) (by kernel_rfl) (by kernel_rfl) (fun _ _ _ h => h) (by kernel_rfl) ?_ hHeld ?_
                rotate_left 1
                · (intro w hSw; (try dsimp only at hSw); go_split_ands; go_simp; first | done | with_reducible rfl)
                simp only [Act.put, List.setIfInBounds_toArray, List.set_cons_zero, List.set_cons_succ]
                refine held_take (i := 18) (v := ?_) rfl (by kernel_rfl) (by kernel_rfl) (by kernel_rfl) (fun _ _ _ h => h) (by kernel_rfl) ?_ hHeld ?_
                rotate_left 1
                · (intro w hSw; (try dsimp only at hSw); go_split_ands; go_simp; first | done | with_reducible rfl)
                simp only [Act.put, List.setIfInBounds_toArray, List.set_cons_zero, List.set_cons_succ]
                refine held_take (i := 19) (v := ?_) rfl (by kernel_rfl) (by kernel_rfl) (by kernel_rfl) (fun _ _ _ h => h) (by kernel_rfl) ?_ hHeld ?_
                rotate_left 1
                · (intro w hSw; (try dsimp only at hSw); go_split_ands; go_simp; first | done | with_reducible rfl)
                simp only [Act.put, List.setIfInBounds_toArray, List.set_cons_zero, List.set_cons_succ]
                refine held_take (i := 20) (v := ?_) rfl (by kernel_rfl) (by kernel_rfl) (by kernel_rfl) (fun _ _ _ h => h) (by kernel_rfl) ?_ hHeld ?_
                rotate_left 1
                · (intro w hSw; (try dsimp only at hSw); go_split_ands; go_simp; first | done | with_reducible rfl)
                simp only [Act.put, List.setIfInBounds_toArray, List.set_cons_zero, List.set_cons_succ]
                refine held_one (i := 21) (by kernel_rfl) rfl (by kernel_rfl) (fun K hK => ?_)
                go_simp
                refine (l1Words_any _ _ _ _ zs rfl RZ.draw hwz).mono ?_
                rintro e w2 ⟨rfl, hw2⟩
                subst hw2
                rw [hZ]
                go_wp2_with fail
                clear hHeld
                refine hK.out _ _ ?_ (fun hHeld => ?_)
                · exact ⟨y0, y1, e1, e2, e9, qc⟩
                clear hK K
                refine held_take (i := 22) (v := ?_) rfl (by kernel_rfl) (by kernel_rfl) (by kernel_rfl) (fun _ _ _ h => h) (by kernel_rfl) ?_ hHeld ?_
                rotate_left 1
                · (intro w hSw; (try dsimp only at hSw); go_split_ands; go_simp; first | done | with_reducible rfl)
                simp only [Act.put, List.setIfInBounds_toArray, List.set_cons_zero, List.set_cons_succ]
                refine held_take (i := 23) (v := ?_) rfl (by kernel_rfl) (by kernel_rfl) (by kernel_rfl) (fun _ _ _ h => h) (by kernel_rfl) ?_ hHeld ?_
                rotate_left 1
                · (intro w hSw; (try dsimp only at hSw); go_split_ands; go_simp; first | done | with_reducible rfl)
                simp only [Act.put, List.setIfInBounds_toArray, List.set_cons_zero, List.set_cons_succ]
                refine held_take (i := 24) (v := ?_) rfl (by kernel_rfl) (by kernel_rfl) (by kernel_rfl) (fun _ _ _ h => h) (by kernel_rfl) ?_ hHeld ?_
                rotate_left 1
                · (intro w hSw; (try dsimp only at hSw); go_split_ands; go_simp; first | done | with_reducible rfl)
                simp only [Act.put, List.setIfInBounds_toArray, List.set_cons_zero, List.set_cons_succ]
                refine held_take (i := 25) (v := ?_) rfl (by kernel_rfl) (by kernel_rfl) (by kernel_rfl) (fun _ _ _ h => h) (by kernel_rfl) ?_ hHeld ?_
                rotate_left 1
                · (intro w hSw; (try dsimp only at hSw); go_split_ands; go_simp; first | done | with_reducible rfl)
                simp only [Act.put, List.setIfInBounds_toArray, List.set_cons_zero, List.set_cons_succ]
                refine held_take (i := 26) (v := ?_) rfl (by kernel_rfl) (by kernel_rfl) (by kernel_rfl) (fun _ _ _ h => h) (by kernel_rfl) ?_ hHeld ?_
                rotate_left 1
                · (intro w hSw; (try dsimp only at hSw); go_split_ands; go_simp; first | done | with_reducible rfl)
                simp only [Act.put, List.setIfInBounds_toArray, List.set_cons_zero, List.set_cons_succ]
                refine held_take (i := 27) (v := ?_) rfl (by kernel_rfl) (by kernel_rfl) (by kernel_rfl) (fun _ _ _ h => h) (by kernel_rfl) ?_ hHeld ?_
                rotate_left 1
                · (intro w hSw; (try dsimp only at hSw); go_split_ands; go_simp; first | done | with_reducible rfl)
                simp only [Act.put, List.setIfInBounds_toArray, List.set_cons_zero, List.set_cons_succ]
                refine held_take (i := 28) (v := ?_) rfl (by kernel_rfl) (by kernel_rfl) (by kernel_rfl) (fun _ _ _ h => h) (by kernel_rfl) ?_ hHeld ?_
                rotate_left 1
                · (intro w hSw; (try dsimp only at hSw); go_split_ands; go_simp; first | done | with_reducible rfl)
                simp only [Act.put, List.setIfInBounds_toArray, List.set_cons_zero, List.set_cons_succ]
                refine held_take (i := 29) (v := ?_) rfl (by kernel_rfl) (by kernel_rfl) (by kernel_rfl) (fun _ _ _ h => h) (by kernel_rfl) ?_ hHeld ?_
                rotate_left 1
                · (intro w hSw; (try dsimp only at hSw); go_split_ands; go_simp; first | done | with_reducible rfl)
                simp only [Act.put, List.setIfInBounds_toArray, List.set_cons_zero, List.set_cons_succ]
                refine held_take (i := 30) (v := ?_) rfl (by kernel_rfl) (by kernel_rfl) (by kernel_rfl) (fun _ _ _ h => h) (by kernel_rfl) ?_ hHeld ?_
                rotate_left 1
                · (intro w hSw; (try dsimp only at hSw); go_split_ands; go_simp; first | done | with_reducible rfl)
                simp only [Act.put, List.setIfInBounds_toArray, List.set_cons_zero, List.set_cons_succ]
                refine held_take (i := 31) (v := ?_) rfl (by kernel_rfl) (by kernel_rfl) (by kernel_rfl) (fun _ _ _ h => h) (by kernel_rfl) ?_ hHeld ?_
                rotate_left 1
                · (intro w hSw; (try dsimp only at hSw); go_split_ands; go_simp; first | done | with_reducible rfl)
                simp only [Act.put, List.setIfInBounds_toArray, List.set_cons_zero, List.set_cons_succ]
                refine held_take (i := 32) (v := ?_) rfl (by kernel_rfl) (by kernel_rfl) (by kernel_rfl) (fun _ _ _ h => h) (by kernel_rfl) ?_ hHeld ?_
                rotate_left 1
                · (intro w hSw; (try dsimp only at hSw); go_split_ands; go_simp; first | done | with_reducible rfl)
                simp only [Act.put, List.setIfInBounds_toArray, List.set_cons_zero, List.set_cons_succ]
                refine held_take (i := 33) (v := ?_) rfl (by kernel_rfl) (by kernel_rfl) (by kernel_rfl) (fun _ _ _ h => h) (by kernel_rfl) ?_ hHeld ?_
                rotate_left 1
                · (intro w hSw; (try dsimp only at hSw); go_split_ands; go_simp; first | done | with_reducible rfl)
                simp only [Act.put, List.setIfInBounds_toArray, List.set_cons_zero, List.set_cons_succ]
                refine held_take (i := 34) (v := ?_) rfl (by kernel_rfl) (by kernel_rfl) (by kernel_rfl) (fun _ _ _ h => h) (by kernel_rfl) ?_ hHeld ?_
                rotate_left 1
                · (intro w hSw; (try dsimp only at hSw); go_split_ands; go_simp; first | done | with_reducible rfl)
                simp only [Act.put, List.setIfInBounds_toArray, List.set_cons_zero, List.set_cons_succ]
                refine held_take (i := 35) (v := ?_) rfl (by kernel_rfl) (by kernel_rfl) (by kernel_rfl) (fun _ _ _ h => h) (by kernel_rfl) ?_ hHeld ?_
                rotate_left 1
                · (intro w hSw; (try dsimp only at hSw); go_split_ands; go_simp; first | done | with_reducible rfl)
                simp only [Act.put, List.setIfInBounds_toArray, List.set_cons_zero, List.set_cons_succ]
                refine held_take (i := 36) (v := ?_) rfl (by kernel_rfl) (by kernel_rfl) (by kernel_rfl) (fun _ _ _ h => h) (by kernel_rfl) ?_ hHeld ?_
                rotate_left 1
                · (intro w hSw; (try dsimp only at hSw); go_split_ands; go_simp; first | done | with_reducible rfl)
                simp only [Act.put, List.setIfInBounds_toArray, List.set_cons_zero, List.set_cons_succ]
                refine held_take (i := 37) (v := ?_) rfl (by kernel_rfl) (by kernel_rfl) (by kernel_rfl) (fun _ _ _ h => h) (by kernel_rfl) ?_ hHeld ?_
                rotate_left 1
                · (intro w hSw; (try dsimp only at hSw); go_split_ands; go_simp; first | done | with_reducible rfl)
                simp only [Act.put, List.setIfInBounds_toArray, List.set_cons_zero, List.set_cons_succ]
                refine held_take (i := 38) (v := ?_) rfl (by kernel_rfl) (by kernel_rfl) (by kernel_rfl) (fun _ _ _ h => h) (by kernel_rfl) ?_ hHeld ?_
                rotate_left 1
                · (intro w hSw; (try dsimp only at hSw); go_split_ands; go_simp; first | done | with_reducible rfl)
                simp only [Act.put, List.setIfInBounds_toArray, List.set_cons_zero, List.set_cons_succ]
                refine held_take (i := 39) (v := ?_) rfl (by kernel_rfl) (by kernel_rfl) (by kernel_rfl) (fun _ _ _ h => h) (by kernel_rfl) ?_ hHeld ?_
                rotate_left 1
                · (intro w hSw; (try dsimp only at hSw); go_split_ands; go_simp; first | done | with_reducible rfl)
                simp only [Act.put, List.setIfInBounds_toArray, List.set_cons_zero, List.set_cons_succ]
                refine wpAnyH_done (by kernel_rfl) ?_ _
                clear hHeld
                have HB := hidden (hA.trans (B1.drew.mono hA.size))
                have HE := hidden (entsB_no (x := x) HDJ.out (HE5.out.trans hd1))
                go_wp2
                go_ret
                exact ⟨ret_bool HE.out.symm, HB.out⟩
        · have hL1 : ((zs.length : Int) == x.n - 1) = false := by simpa using hL
          have hL2 : ((zs.length : Int) != x.n - 1) = true := by simpa using hL
          have HL := hidden hL
          clear hL
          go_wp2_with fail
          generalize wr.alloc (.cells #[.int .i64 y, .slice av zs.length cv] 75) = w1 at X1 Y1 RZ B1 y0 y1 e1 e2 e9 HQ ⊢
          refine wp_region_held_drew (S := fun w' => w'.cell? ⟨wr.heap.size, 0, none⟩ = some (.int .i64 y) ∧ w'.cell? ⟨wr.heap.size, 1, none⟩ = some (.slice av zs.length cv) ∧ w'.cell? ⟨w.heap.size, 1, none⟩ = some (.int .i64 x.n) ∧ w'.cell? ⟨w.heap.size, 2, none⟩ = some (.int .i64 x.s) ∧ w'.cell? ⟨w.heap.size, 9, none⟩ = some (.slice (some ⟨b, off, none⟩) nd cd)) (by kernel_rfl) ?_ (fun hHeld => ?_)
          · exact ⟨y0, y1, e1, e2, e9⟩
          refine held_take (i := 0) (v := ?_) rfl (by kernel_rfl) (by kernel_rfl) (by kernel_rfl) (fun _ _ _ h => h) (by kernel_rfl) ?_ hHeld ?_
          rotate_left 1
          · (intro w hSw; (try dsimp only at hSw); go_split_ands; go_simp; first | done | with_reducible rfl)
          simp only [Act.put, List.setIfInBounds_toArray, List.set_cons_zero, List.set_cons_succ]
          refine held_take (i := 1) (v := ?_) rfl (by kernel_rfl) (by kernel_rfl) (by kernel_rfl) (fun _ _ _ h => h) (by kernel_rfl) ?_ hHeld ?_
          rotate_left 1
          · (intro w hSw; (try dsimp only at hSw); go_split_ands; go_simp; first | done | with_reducible rfl)
          simp only [Act.put, List.setIfInBounds_toArray, List.set_cons_zero, List.set_cons_succ]
          refine held_take (i := 2) (v := ?_) rfl (by kernel_rfl) (by kernel_rfl) (by kernel_rfl) (fun _ _ _ h => h) (by kernel_rfl) ?_ hHeld ?_
          rotate_left 1
          · (intro w hSw; (try dsimp only at hSw); go_split_ands; go_simp; first | done | with_reducible rfl)
          simp only [Act.put, List.setIfInBounds_toArray, List.set_cons_zero, List.set_cons_succ]
          refine held_take (i := 3) (v := ?_) rfl (by kernel_rfl) (by kernel_rfl) (by kernel_rfl) (fun _ _ _ h => h) (by kernel_rfl) ?_ hHeld ?_
          rotate_left 1
          · (intro w hSw; (try dsimp only at hSw); go_split_ands; go_simp; first | done | with_reducible rfl)
          simp only [Act.put, List.setIfInBounds_toArray, List.set_cons_zero, List.set_cons_succ]
          refine held_take (i := 4) (v := ?_) rfl (by kernel_rfl) (by kernel_rfl) (by kernel_rfl) (fun _ _ _ h => h) (by kernel_rfl) ?_ hHeld ?_
          rotate_left 1
          · (intro w hSw; (try dsimp only at hSw); go_split_ands; go_simp; first | done | with_reducible rfl)
          simp only [Act.put, List.setIfInBounds_toArray, List.set_cons_zero, List.set_cons_succ]
          refine held_take (i := 5) (v := ?_) rfl (by kernel_rfl) (by kernel_rfl) (by kernel_rfl) (fun _ _ _ h => h) (by kernel_rfl) ?_ hHeld ?_
          rotate_left 1
          · (intro w hSw; (try dsimp only at hSw); go_split_ands; go_simp; first | done | with_reducible rfl)
          simp only [Act.put, List.setIfInBounds_toArray, List.set_cons_zero, List.set_cons_succ]
          refine held_one (i := 6) (by kernel_rfl) rfl (by kernel_rfl) (fun K hK => ?_)
          go_simp
          refine (l1In_any _ _ _ _).mono ?_
          rintro e w2 ⟨rfl, hw2⟩
          subst hw2
          rw [hI]
          go_wp2_with fail
          clear hHeld
          refine hK.out _ _ ?_ (fun hHeld => ?_)
          · exact ⟨y0, y1, e1, e2, e9⟩
          clear hK K
          refine held_take (i := 7) (v := ?_) rfl (by kernel_rfl) (by kernel_rfl) (by kernel_rfl) (fun _ _ _ h => h) (by kernel_rfl) ?_ hHeld ?_
          rotate_left 1
          · (intro w hSw; (try dsimp only at hSw); go_split_ands; go_simp; first | done | with_reducible rfl)
          simp only [Act.put, List.setIfInBounds_toArray, List.set_cons_zero, List.set_cons_succ]
          refine held_take (i := 8) (v := ?_) rfl (by kernel_rfl) (by kernel_rfl) (by kernel_rfl) (fun _ _ _ h => h) (by kernel_rfl) ?_ hHeld ?_
          rotate_left 1
          · (intro w hSw; (try dsimp only at hSw); go_split_ands; go_simp; first | done | with_reducible rfl)
          simp only [Act.put, List.setIfInBounds_toArray, List.set_cons_zero, List.set_cons_succ]
          refine held_take (i := 9) (v := ?_) rfl (by kernel_rfl) (by kernel_rfl) (by kernel_rfl) (fun _ _ _ h => h) (by kernel_rfl) ?_ hHeld ?_
          rotate_left 1
          · (intro w hSw; (try dsimp only at hSw); go_split_ands; go_simp; first | done | with_reducible rfl)
          simp only [Act.put, List.setIfInBounds_toArray, List.set_cons_zero, List.set_cons_succ]
          refine held_take (i := 10) (v := ?_) rfl (by kernel_rfl) (by kernel_rfl) (by kernel_rfl) (fun _ _ _ h => h) (by kernel_rfl) ?_ hHeld ?_
          rotate_left 1
          · (intro w hSw; (try dsimp only at hSw); go_split_ands; go_simp; first | done | with_reducible rfl)
          simp only [Act.put, List.setIfInBounds_toArray, List.set_cons_zero, List.set_cons_succ]
          refine held_take (i := 11) (v := ?_) rfl (by kernel_rfl) (by kernel_rfl) (by kernel_rfl) (fun _ _ _ h => h) (by kernel_rfl) ?_ hHeld ?_
          rotate_left 1
          · (intro w hSw; (try dsimp only at hSw); go_split_ands; go_simp; first | done | with_reducible rfl)
          simp only [Act.put, List.setIfInBounds_toArray, List.set_cons_zero, List.set_cons_succ]
          refine held_take (i := 12) (v := ?_) rfl (by kernel_rfl) (by kernel_rfl) (by kernel_rfl) (fun _ _ _ h => h) (by kernel_rfl) ?_ hHeld ?_
          rotate_left 1
          · (intro w hSw; (try dsimp only at hSw); go_split_ands; go_simp; first | done | with_reducible rfl)
          simp only [Act.put, List.setIfInBounds_toArray, List.set_cons_zero, List.set_cons_succ]
          refine held_take (i := 13) (v := ?_) rfl (by kernel_rfl) (by kernel_rfl) (by kernel_rfl) (fun _ _ _ h => h) (by kernel_rfl) ?_ hHeld ?_
          rotate_left 1
          · (intro w hSw; (try dsimp only at hSw); go_split_ands; go_simp; first | done | with_reducible rfl)
          simp only [Act.put, List.setIfInBounds_toArray, List.set_cons_zero, List.set_cons_succ]
          refine held_take (i := 14) (v := ?_) rfl (by kernel_rfl) (by kernel_rfl) (by kernel_rfl) (fun _ _ _ h => h) (by kernel_rfl) ?_ hHeld ?_
          rotate_left 1
          · (intro w hSw; (try dsimp only at hSw); go_split_ands; go_simp; first | done | with_reducible rfl)
          simp only [Act.put, List.setIfInBounds_toArray, List.set_cons_zero, List.set_cons_succ]
          refine held_take (i := 15) (v := ?_) rfl (by kernel_rfl) (by kernel_rfl) (by kernel_rfl) (fun _ _ _ h => h) (by kernel_rfl) ?_ hHeld ?_
          rotate_left 1
          · (intro w hSw; (try dsimp only at hSw); go_split_ands; go_simp; first | done | with_reducible rfl)
          simp only [Act.put, List.setIfInBounds_toArray, List.set_cons_zero, List.set_cons_succ]
          refine held_take (i := 16) (v := ?_) rfl (by kernel_rfl) (by kernel_rfl) (by kernel_rfl) (fun _ _ _ h => h) (by kernel_rfl) ?_ hHeld ?_
          rotate_left 1
          · (intro w hSw; (try dsimp only at hSw); go_split_ands; go_simp; first | done | with_reducible rfl)
          simp only [Act.put, List.setIfInBounds_toArray, List.set_cons_zero, List.set_cons_succ]
          refine held_take (i := 17) (v := ?_) rfl (by kernel_rfl) (by kernel_rfl) (by kernel_rfl) (fun _ _ _ h => h) (by kernel_rfl) ?_ hHeld ?_
          rotate_left 1
          · (intro w hSw; (try dsimp only at hSw); go_split_ands; go_simp; first | done | with_reducible rfl)
          simp only [Act.put, List.setIfInBounds_toArray, List.set_cons_zero, List.set_cons_succ]
          refine held_take (i := 18) (v := ?_) rfl (by kernel_rfl) (by kernel_rfl) (by kernel_rfl) (fun _ _ _ h => h) (by kernel_rfl) ?_ hHeld ?_
          rotate_left 1
          · (intro w hSw; (try dsimp only at hSw); go_split_ands; go_simp; first | done | with_reducible rfl)
          simp only [Act.put, List.setIfInBounds_toArray, List.set_cons_zero, List.set_cons_succ]
          refine held_pass (i := 19) rfl (by kernel_rfl) (by kernel_rfl) (by kernel_rfl) (fun _ _ _ h => h) (by kernel_rfl) hHeld ?_
          simp only [Act.put, List.setIfInBounds_toArray, List.set_cons_zero, List.set_cons_succ]
          refine held_pass (i := 20) rfl (by kernel_rfl) (by kernel_rfl) (by kernel_rfl) (fun _ _ _ h => h) (by kernel_rfl) hHeld ?_
          simp only [Act.put, List.setIfInBounds_toArray, List.set_cons_zero, List.set_cons_succ]
          refine held_none (i := 21) (by kernel_rfl) rfl (by kernel_rfl) hHeld ?_
          simp only [Act.put, List.setIfInBounds_toArray, List.set_cons_zero, List.set_cons_succ]
          refine held_pass (i := 22) rfl (by kernel_rfl) (by kernel_rfl) (by kernel_rfl) (fun _ _ _ h => h) (by kernel_rfl) hHeld ?_
          simp only [Act.put, List.setIfInBounds_toArray, List.set_cons_zero, List.set_cons_succ]
          refine held_take (i := 23) (v := ?_) rfl (by kernel_rfl) (by kernel_rfl) (by kernel_rfl) (fun _ _ _ h => h) (by kernel_rfl) ?_ hHeld ?_
          rotate_left 1
          · (intro w hSw; (try dsimp only at hSw); go_split_ands; go_simp; first | done | with_reducible rfl)
          simp only [Act.put, List.setIfInBounds_toArray, List.set_cons_zero, List.set_cons_succ]
          refine held_take (i := 24) (v := ?_) rfl (by kernel_rfl) (by kernel_rfl) (by kernel_rfl) (fun _ _ _ h => h) (by kernel_rfl) ?_ hHeld ?_
          rotate_left 1
          · (intro w hSw; (try dsimp only at hSw); go_split_ands; go_simp; first | done | with_reducible rfl)
          simp only [Act.put, List.setIfInBounds_toArray, List.set_cons_zero, List.set_cons_succ]
          refine held_pass (i := 25) rfl (by kernel_rfl) (by kernel_rfl) (by kernel_rfl) (fun _ _ _ h => h) (by kernel_rfl) hHeld ?_
          simp only [Act.put, List.setIfInBounds_toArray, List.set_cons_zero, List.set_cons_succ]
          refine held_pass (i := 26) rfl (by kernel_rfl) (by kernel_rfl) (by kernel_rfl) (fun _ _ _ h => h) (by kernel_rfl) hHeld ?_
          simp only [Act.put, List.setIfInBounds_toArray, List.set_cons_zero, List.set_cons_succ]
          refine held_pass (i := 27) rfl (by kernel_rfl) (by kernel_rfl) (by kernel_rfl) (fun _ _ _ h => h) (by kernel_rfl) hHeld ?_
          simp only [Act.put, List.setIfInBounds_toArray, List.set_cons_zero, List.set_cons_succ]
          refine held_pass (i := 28) rfl (by kernel_rfl) (by kernel_rfl) (by kernel_rfl) (fun _ _ _ h => h) (by kernel_rfl) hHeld ?_
          simp only [Act.put, List.setIfInBounds_toArray, List.set_cons_zero, List.set_cons_succ]
          refine held_pass (i := 29) rfl (by kernel_rfl) (by kernel_rfl) (by kernel_rfl) (fun _ _ _ h => h) (by kernel_rfl) hHeld ?_
          simp only [Act.put, List.setIfInBounds_toArray, List.set_cons_zero, List.set_cons_succ]
          refine held_pass (i := 30) rfl (by kernel_rfl) (by kernel_rfl) (by kernel_rfl) (fun _ _ _ h => h) (by kernel_rfl) hHeld ?_
          simp only [Act.put, List.setIfInBounds_toArray, List.set_cons_zero, List.set_cons_succ]
          refine held_pass (i := 31) rfl (by kernel_rfl) (by kernel_rfl) (by kernel_rfl) (fun _ _ _ h => h) (by kernel_rfl) hHeld ?_
          simp only [Act.put, List.setIfInBounds_toArray, List.set_cons_zero, List.set_cons_succ]
          refine held_pass (i := 32) rfl (by kernel_rfl) (by kernel_rfl) (by kernel_rfl) (fun _ _ _ h => h) (by kernel_rfl) hHeld ?_
          simp only [Act.put, List.setIfInBounds_toArray, List.set_cons_zero, List.set_cons_succ]
          refine held_pass (i := 33) rfl (by kernel_rfl) (by kernel_rfl) (by kernel_rfl) (fun _ _ _ h => h) (by kernel_rfl) hHeld ?_
          simp only [Act.put, List.setIfInBounds_toArray, List.set_cons_zero, List.set_cons_succ]
          refine held_pass (i := 34) rfl (by kernel_rfl) (by kernel_rfl) (by kernel_rfl) (fun _ _ _ h => h) (by kernel_rfl) hHeld ?_
          simp only [Act.put, List.setIfInBounds_toArray, List.set_cons_zero, List.set_cons_succ]
          refine held_pass (i := 35) rfl (by kernel_rfl) (by kernel_rfl) (by kernel_rfl) (fun _ _ _ h => h) (by kernel_rfl) hHeld ?_
          simp only [Act.put, List.setIfInBounds_toArray, List.set_cons_zero, List.set_cons_succ]
          refine held_pass (i := 36) rfl (by kernel_rfl) (by kernel_rfl) (by kernel_rfl) (fun _ _ _ h => h) (by kernel_rfl) hHeld ?_
          simp only [Act.put, List.setIfInBounds_toArray, List.set_cons_zero, List.set_cons_succ]
          refine held_pass (i := 37) rfl (by kernel_rfl) (by kernel_rfl) (by kernel_rfl) (fun _ _ _ h => h) (by kernel_rfl) hHeld ?_
          simp only [Act.put, List.setIfInBounds_toArray, List.set_cons_zero, List.set_cons_succ]
          refine held_pass (i := 38) rfl (by kernel_rfl) (by kernel_rfl) (by kernel_rfl) (fun _ _ _ h => h) (by kernel_rfl) hHeld ?_
          simp only [Act.put, List.setIfInBounds_toArray, List.set_cons_zero, List.set_cons_succ]
          refine held_take (i := 39) (v := ?_) rfl (by kernel_rfl) (by kernel_rfl) (by kernel_rfl) (fun _ _ _ h => h) (by kernel_rfl) ?_ hHeld ?_
          rotate_left 1
          · (intro w hSw; (try dsimp only at hSw); go_split_ands; go_simp; first | done | with_reducible rfl)
          simp only [Act.put, List.setIfInBounds_toArray, List.set_cons_zero, List.set_cons_succ]
          refine wpAnyH_done (by kernel_rfl) ?_ _
          clear hHeld
          have HB := hidden (hA.trans (B1.drew.mono hA.size))
          have HE := hidden (entsB_no (x := x) HDJ.out (entAt_2 HL.out))
          go_wp2
          go_ret
          exact ⟨ret_bool HE.out.symm, HB.out⟩
    · have ej : j = nd := by omega
      subst ej
      have hAll : entsB x ds = true := allIx_iff.2 (fun q d hq => hall q d (by have := (List.getElem?_eq_some_iff.1 hq).1; omega) hq)
      have HB := hidden (hA.trans (hb.mono hA.size))
      go_wp2
      go_ret
      exact ⟨ret_bool hAll.symm, HB.out⟩

end Go.Proofs.YthkpkpclmemodaaGreat

/-
  The walks of the specification's looks whether an array is right, and whether a disk of it lives at a stripe. Condition: it weighs at most 2097152.
-/
namespace Go.Proofs.YthkpkpclmemodaaGreat
open Go.RowKit

def liveB (x : ArrN) (ms : List MemD) (m s : Int) : Bool := inB m 0 ((ms.length : Int) - 1) && (!(ms.getD m.toNat ([], [], false, [])).2.2.1 && (!decide (m = x.lost) || decide (s < x.built)))

set_option maxHeartbeats 3200000 in
theorem specArrOk_any (w : World) (E F G : TypeId) (x : ArrN) (am ad : Option Addr) (nm cm nd cd : Nat) (ms : List MemD) (ds : List (Int × List Int)) (h0 : (tMemS E F).Rd w [.slice am nm cm] ms) (h1 : (tWrS G).Rd w [.slice ad nd cd] ds) (hw : wtArr ms ds ≤ 2097152) :
    Calls Tryz.prog 23 #[.agg #[.int .i64 x.id, .int .i64 x.n, .int .i64 x.s, .slice am nm cm, .int .i64 x.lost, .int .i64 x.built, .int .i64 x.seq, .int .i64 x.tail, .int .i64 x.gen, .slice ad nd cd, .int .i64 x.fuse, .bool x.down, .bool x.broken]] w fun e w' => e = .returned (.bool (arrB x ms ds)) ∧ Below w.heap.size w w' := by
  have hwm : wtMemS ms ≤ 2097152 := by unfold wtArr at hw; omega
  have hwd : wtWrS ds ≤ 2097152 := by unfold wtArr at hw; omega
  have hA := new_below w (.cells #[.int .i64 x.id, .int .i64 x.n, .int .i64 x.s, .slice am nm cm, .int .i64 x.lost, .int .i64 x.built, .int .i64 x.seq, .int .i64 x.tail, .int .i64 x.gen, .slice ad nd cd, .int .i64 x.fuse, .bool x.down, .bool x.broken] 33)
  have X := Box.new w 33 #[.int .i64 x.id, .int .i64 x.n, .int .i64 x.s, .slice am nm cm, .int .i64 x.lost, .int .i64 x.built, .int .i64 x.seq, .int .i64 x.tail, .int .i64 x.gen, .slice ad nd cd, .int .i64 x.fuse, .bool x.down, .bool x.broken]
  obtain ⟨k0, k1, k2, k3, k4, k5, k6, k7, k8, k9, k10, k11, k12⟩ := X.cells13
  have zA := X.lt
  have r0 := h0.below hA
  have r1 := h1.below hA
  go_enter Tryz.func23, Tryz.ntmps23
  go_wp2_with fail
  generalize w.alloc (.cells #[.int .i64 x.id, .int .i64 x.n, .int .i64 x.s, .slice am nm cm, .int .i64 x.lost, .int .i64 x.built, .int .i64 x.seq, .int .i64 x.tail, .int .i64 x.gen, .slice ad nd cd, .int .i64 x.fuse, .bool x.down, .bool x.broken] 33) = W at hA X zA r0 r1 k0 k1 k2 k3 k4 k5 k6 k7 k8 k9 k10 k11 k12 ⊢
  refine (specGeoOk_any _ _ _).mono ?_
  rintro e w1 ⟨rfl, b1⟩
  have X1 := X.below b1 X.lt
  have B1 := Below.andThen hA b1
  have q1 := r0.below b1
  have t1 := r1.below b1
  clear k0 k1 k2 k3 k4 k5 k6 k7 k8 k9 k10 k11 k12 b1 hA X r0 r1
  obtain ⟨k0, k1, k2, k3, k4, k5, k6, k7, k8, k9, k10, k11, k12⟩ := X1.cells13
  cases hg : geoB x.n x.s
  · skip
    have HF : Hid (arrB x ms ds = false) := by unfold Hid arrB; simp [hg]
    go_wp2
    go_ret
    exact ⟨ret_bool HF.out.symm, B1⟩
  · obtain ⟨g1, g2, g3, g4⟩ := geoB_iff.1 hg
    have hws : IntKind.i64.wrap (x.n - 1) = x.n - 1 := IntWalk.i64_in _ (by omega)
    go_wp2_with fail
    refine (l1In_any _ _ _ _).mono ?_
    rintro e wq ⟨rfl, hq⟩
    obtain rfl := hq.symm
    cases hid : inB x.id 1 60000
    · skip
      have HF : Hid (arrB x ms ds = false) := by unfold Hid arrB; simp [hid]
      go_wp2
      go_ret
      exact ⟨ret_bool HF.out.symm, B1⟩
    · skip
      go_wp2_with fail
      refine (l6Mems_any _ E F x _ _ _ _ _ _ ms q1 hwm hg).mono ?_
      rintro e w2 ⟨rfl, b2⟩
      have X2 := X1.below b2 X1.lt
      have B2 := Below.andThen B1 b2
      have q2 := q1.below b2
      have t2 := t1.below b2
      clear k0 k1 k2 k3 k4 k5 k6 k7 k8 k9 k10 k11 k12 b2 B1 X1 q1 t1
      obtain ⟨k0, k1, k2, k3, k4, k5, k6, k7, k8, k9, k10, k11, k12⟩ := X2.cells13
      cases hms : memsB x ms
      · skip
        have HF : Hid (arrB x ms ds = false) := by unfold Hid arrB; simp [hms]
        go_wp2
        go_ret
        exact ⟨ret_bool HF.out.symm, B2⟩
      · skip
        go_wp2_with fail
        refine (l6Dirty_any _ G x _ _ _ _ _ _ ds t2 hwd hg).mono ?_
        rintro e w3 ⟨rfl, b3⟩
        have X3 := X2.below b3 X2.lt
        have B3 := Below.andThen B2 b3
        have q3 := q2.below b3
        have t3 := t2.below b3
        clear k0 k1 k2 k3 k4 k5 k6 k7 k8 k9 k10 k11 k12 b3 B2 X2 q2 t2
        obtain ⟨k0, k1, k2, k3, k4, k5, k6, k7, k8, k9, k10, k11, k12⟩ := X3.cells13
        cases hds : entsB x ds
        · skip
          have HF : Hid (arrB x ms ds = false) := by unfold Hid arrB; simp [hds]
          go_wp2
          go_ret
          exact ⟨ret_bool HF.out.symm, B3⟩
        · skip
          go_wp2_with fail
          refine (l1In_any _ _ _ _).mono ?_
          rintro e wq ⟨rfl, hq⟩
          obtain rfl := hq.symm
          cases hlo : inB x.lost (-1) (x.n - 1)
          · skip
            have HF : Hid (arrB x ms ds = false) := by unfold Hid arrB; simp [lostB6, hlo]
            go_wp2
            go_ret
            exact ⟨ret_bool HF.out.symm, B3⟩
          · skip
            go_wp2_with fail
            refine (l1In_any _ _ _ _).mono ?_
            rintro e wq ⟨rfl, hq⟩
            obtain rfl := hq.symm
            cases hbu : inB x.built 0 x.s
            · skip
              have HF : Hid (arrB x ms ds = false) := by unfold Hid arrB; simp [lostB6, hbu]
              go_wp2
              go_ret
              exact ⟨ret_bool HF.out.symm, B3⟩
            · skip
              have hlb : (x.lost = -1 ∧ ¬ x.built = 0) ∨ (x.lost = -1 ∧ x.built = 0) ∨ ¬ x.lost = -1 := by omega
              have HLB : Hid (lostB6 x = (!decide (x.lost = -1) || decide (x.built = 0))) := by unfold Hid lostB6; rw [hlo, hbu]; simp
              rcases hlb with ⟨l1, l2⟩ | ⟨l1, l2⟩ | l1
              · have e1 : (x.lost == -1) = true := by simpa using l1
                have e2 : (x.built != 0) = true := by simpa using l2
                have e3 : (x.built == 0) = false := by simpa using l2
                have hL : lostB6 x = false := by rw [HLB.out]; simp [l1, l2]
                rw [l1] at k4
                have HF : Hid (arrB x ms ds = false) := by unfold Hid arrB; simp [hL]
                clear hL l1 l2
                go_wp2
                go_ret
                exact ⟨ret_bool HF.out.symm, B3⟩
              · have e1 : (x.lost == -1) = true := by simpa using l1
                have e2 : (x.built != 0) = false := by simpa using l2
                have e3 : (x.built == 0) = true := by simpa using l2
                have HLT : Hid (lostB6 x = true) := by unfold Hid; rw [HLB.out]; simp [l2]
                rw [l1] at k4
                rw [l2] at k5
                clear l1 l2
                have HT : Hid (arrB x ms ds = seqB6 x) := by unfold Hid arrB; rw [hg, hid, hms, hds, HLT.out]; rfl
                go_wp2_with fail
                refine (l1In_any _ _ _ _).mono ?_
                rintro e wq ⟨rfl, hq⟩
                obtain rfl := hq.symm
                cases ht : inB x.tail 0 60000
                · have HF : Hid (arrB x ms ds = false) := by unfold Hid; rw [HT.out]; unfold seqB6; simp [ht]
                  go_wp2
                  go_ret
                  exact ⟨ret_bool HF.out.symm, B3⟩
                · skip
                  have ht2 : 0 ≤ x.tail ∧ x.tail ≤ 60000 := by unfold inB at ht; simpa using ht
                  have hw4 : IntKind.i64.wrap (x.tail + 4) = x.tail + 4 := IntWalk.i64_in _ (by omega)
                  go_wp2_with fail
                  refine (l1In_any _ _ _ _).mono ?_
                  rintro e wq ⟨rfl, hq⟩
                  obtain rfl := hq.symm
                  cases hs : inB x.seq x.tail 60000
                  · have HF : Hid (arrB x ms ds = false) := by unfold Hid; rw [HT.out]; unfold seqB6; simp [hs]
                    go_wp2
                    go_ret
                    exact ⟨ret_bool HF.out.symm, B3⟩
                  · skip
                    by_cases hle : x.seq ≤ x.tail + 4
                    · skip
                      go_wp2_with fail
                      refine (l1In_any _ _ _ _).mono ?_
                      rintro e wq ⟨rfl, hq⟩
                      obtain rfl := hq.symm
                      cases hge : inB x.gen 0 60000
                      · have HF : Hid (arrB x ms ds = false) := by unfold Hid; rw [HT.out]; unfold seqB6; simp [hge]
                        go_wp2
                        go_ret
                        exact ⟨ret_bool HF.out.symm, B3⟩
                      · skip
                        have HF : Hid (arrB x ms ds = inB x.fuse (-1) 1000) := by unfold Hid; rw [HT.out]; unfold seqB6; simp [ht, hs, hle, hge]
                        go_wp2_with fail
                        refine (l1In_any _ _ _ _).mono ?_
                        rintro e wq ⟨rfl, hq⟩
                        obtain rfl := hq.symm
                        cases hfu : inB x.fuse (-1) 1000
                        · go_wp2
                          go_ret
                          exact ⟨ret_bool (by rw [HF.out, hfu]), B3⟩
                        · go_wp2
                          go_ret
                          exact ⟨ret_bool (by rw [HF.out, hfu]), B3⟩
                    · have HF : Hid (arrB x ms ds = false) := by unfold Hid; rw [HT.out]; unfold seqB6; simp; omega
                      have hgt : x.tail + 4 < x.seq := by omega
                      go_wp2
                      go_ret
                      exact ⟨ret_bool HF.out.symm, B3⟩
              · have e1 : (x.lost == -1) = false := by simpa using l1
                have HLT : Hid (lostB6 x = true) := by unfold Hid; rw [HLB.out]; simp [l1]
                clear l1
                have HT : Hid (arrB x ms ds = seqB6 x) := by unfold Hid arrB; rw [hg, hid, hms, hds, HLT.out]; rfl
                go_wp2_with fail
                refine (l1In_any _ _ _ _).mono ?_
                rintro e wq ⟨rfl, hq⟩
                obtain rfl := hq.symm
                cases ht : inB x.tail 0 60000
                · have HF : Hid (arrB x ms ds = false) := by unfold Hid; rw [HT.out]; unfold seqB6; simp [ht]
                  go_wp2
                  go_ret
                  exact ⟨ret_bool HF.out.symm, B3⟩
                · skip
                  have ht2 : 0 ≤ x.tail ∧ x.tail ≤ 60000 := by unfold inB at ht; simpa using ht
                  have hw4 : IntKind.i64.wrap (x.tail + 4) = x.tail + 4 := IntWalk.i64_in _ (by omega)
                  go_wp2_with fail
                  refine (l1In_any _ _ _ _).mono ?_
                  rintro e wq ⟨rfl, hq⟩
                  obtain rfl := hq.symm
                  cases hs : inB x.seq x.tail 60000
                  · have HF : Hid (arrB x ms ds = false) := by unfold Hid; rw [HT.out]; unfold seqB6; simp [hs]
                    go_wp2
                    go_ret
                    exact ⟨ret_bool HF.out.symm, B3⟩
                  · skip
                    by_cases hle : x.seq ≤ x.tail + 4
                    · skip
                      go_wp2_with fail
                      refine (l1In_any _ _ _ _).mono ?_
                      rintro e wq ⟨rfl, hq⟩
                      obtain rfl := hq.symm
                      cases hge : inB x.gen 0 60000
                      · have HF : Hid (arrB x ms ds = false) := by unfold Hid; rw [HT.out]; unfold seqB6; simp [hge]
                        go_wp2
                        go_ret
                        exact ⟨ret_bool HF.out.symm, B3⟩
                      · skip
                        have HF : Hid (arrB x ms ds = inB x.fuse (-1) 1000) := by unfold Hid; rw [HT.out]; unfold seqB6; simp [ht, hs, hle, hge]
                        go_wp2_with fail
                        refine (l1In_any _ _ _ _).mono ?_
                        rintro e wq ⟨rfl, hq⟩
                        obtain rfl := hq.symm
                        cases hfu : inB x.fuse (-1) 1000
                        · go_wp2
                          go_ret
                          exact ⟨ret_bool (by rw [HF.out, hfu]), B3⟩
                        · go_wp2
                          go_ret
                          exact ⟨ret_bool (by rw [HF.out, hfu]), B3⟩
                    · have HF : Hid (arrB x ms ds = false) := by unfold Hid; rw [HT.out]; unfold seqB6; simp; omega
                      have hgt : x.tail + 4 < x.seq := by omega
                      go_wp2
                      go_ret
                      exact ⟨ret_bool HF.out.symm, B3⟩

set_option maxHeartbeats 1600000 in
theorem specLiveAt_any (w : World) (E F : TypeId) (x : ArrN) (am ad : Option Addr) (nm cm nd cd : Nat) (ms : List MemD) (m s : Int) (h0 : (tMemS E F).Rd w [.slice am nm cm] ms) (hw : wtMemS ms ≤ 2097152) :
    Calls Tryz.prog 111 #[.agg #[.int .i64 x.id, .int .i64 x.n, .int .i64 x.s, .slice am nm cm, .int .i64 x.lost, .int .i64 x.built, .int .i64 x.seq, .int .i64 x.tail, .int .i64 x.gen, .slice ad nd cd, .int .i64 x.fuse, .bool x.down, .bool x.broken], .int .i64 m, .int .i64 s] w fun e w' => e = .returned (.bool (liveB x ms m s)) ∧ Below w.heap.size w w' := by
  obtain ⟨hl, hc, hm⟩ := row_length h0
  have hnm : nm ≤ 2097152 := by unfold wtMemS at hw; omega
  have hA := new_below w (.cells #[.int .i64 x.id, .int .i64 x.n, .int .i64 x.s, .slice am nm cm, .int .i64 x.lost, .int .i64 x.built, .int .i64 x.seq, .int .i64 x.tail, .int .i64 x.gen, .slice ad nd cd, .int .i64 x.fuse, .bool x.down, .bool x.broken] 33)
  have X := Box.new w 33 #[.int .i64 x.id, .int .i64 x.n, .int .i64 x.s, .slice am nm cm, .int .i64 x.lost, .int .i64 x.built, .int .i64 x.seq, .int .i64 x.tail, .int .i64 x.gen, .slice ad nd cd, .int .i64 x.fuse, .bool x.down, .bool x.broken]
  obtain ⟨k0, k1, k2, k3, k4, k5, k6, k7, k8, k9, k10, k11, k12⟩ := X.cells13
  have h1 := h0.below hA
  have hwn : IntKind.i64.wrap ((nm : Int) - 1) = (nm : Int) - 1 := IntWalk.i64_in _ (by omega)
  go_enter Tryz.func111, Tryz.ntmps111
  go_wp2_with fail
  generalize w.alloc (.cells #[.int .i64 x.id, .int .i64 x.n, .int .i64 x.s, .slice am nm cm, .int .i64 x.lost, .int .i64 x.built, .int .i64 x.seq, .int .i64 x.tail, .int .i64 x.gen, .slice ad nd cd, .int .i64 x.fuse, .bool x.down, .bool x.broken] 33) = W at hA X h1 k0 k1 k2 k3 k4 k5 k6 k7 k8 k9 k10 k11 k12 ⊢
  refine (l1In_any _ _ _ _).mono ?_
  rintro e wq ⟨rfl, hq⟩
  obtain rfl := hq.symm
  cases hi : inB m 0 ((nm : Int) - 1)
  · have HF : Hid (liveB x ms m s = false) := by unfold Hid liveB; rw [hl, hi]; rfl
    go_wp2
    go_ret
    exact ⟨ret_bool HF.out.symm, hA⟩
  · have hi2 : 0 ≤ m ∧ m ≤ (nm : Int) - 1 := by unfold inB at hi; simpa using hi
    obtain ⟨j, rfl⟩ := Int.eq_ofNat_of_zero_le hi2.1
    rcases quads_at rfl h1 with h0' | ⟨b, off, rfl, hbl, hcs⟩
    · omega
    have hdj : ms[j]? = some (ms[j]'(by omega)) := List.getElem?_eq_getElem (by omega)
    generalize ms[j]'(by omega) = d at hdj
    obtain ⟨v0, v1, v2, v3, hv0, hv1, hv2, hv3, hrv⟩ := hcs j d hdj
    obtain ⟨a0, c0, a1, c1, a3, c3, ss, cs, f, bs, rfl, rfl, rfl, rfl, rfl, r0, r1, r3⟩ := mem_at hrv
    have i1 : (0 : Int) ≤ (j : Int) := by omega
    have i2 : (j : Int) < (nm : Int) := by omega
    have HD : Hid (liveB x ms (j : Int) s = (!f && (!decide ((j : Int) = x.lost) || decide (s < x.built)))) := by
      unfold Hid liveB
      rw [hl, hi, Int.toNat_natCast, List.getD_eq_getElem?_getD, hdj]
      rfl
    clear hcs hv0 hv1 hv3 hrv r0 r1 r3 hdj
    cases f
    · by_cases hj : (j : Int) = x.lost
      · have e1 : ((j : Int) == x.lost) = true := by simpa using hj
        have e2 : ((j : Int) != x.lost) = false := by simpa using hj
        have HF : Hid (liveB x ms (j : Int) s = decide (s < x.built)) := by unfold Hid; rw [HD.out]; simp [hj]
        clear hj
        go_wp2
        go_ret
        exact ⟨ret_bool HF.out.symm, hA⟩
      · have e1 : ((j : Int) == x.lost) = false := by simpa using hj
        have e2 : ((j : Int) != x.lost) = true := by simpa using hj
        have HF : Hid (liveB x ms (j : Int) s = true) := by unfold Hid; rw [HD.out]; simp [hj]
        clear hj
        go_wp2
        go_ret
        exact ⟨ret_bool HF.out.symm, hA⟩
    · have HF : Hid (liveB x ms (j : Int) s = false) := by unfold Hid; rw [HD.out]; rfl
      go_wp2
      go_ret
      exact ⟨ret_bool HF.out.symm, hA⟩

end Go.Proofs.YthkpkpclmemodaaGreat

/-
  An array that a function hands back: plain lemmas. No condition.
-/
namespace Go.Proofs.YthkpkpclmemodaaGreat
open Go.RowKit

/-- What an array was made into, in memory of its own. -/
def ArrOut (w w' : World) (e : Ending) (q : ArrN × List MemD) (ds : List (Int × List Int)) : Prop :=
  ∃ (bm bd : Option Addr) (cm cd : Nat), e = .returned (.agg (arrC q.1 (.slice bm q.2.length cm) (.slice bd ds.length cd))) ∧ ArrIn w' w.heap.size w'.heap.size bm bd q.2.length cm ds.length cd q.2 ds ∧ Below w.heap.size w w'
theorem Moved.belowN {B N : Nat} {f1 f2 : List Nat} {w1 w2 : World} (h : Moved B f1 w1 f2 w2) (hB : N ≤ B) (hf : ∀ b ∈ f1, N ≤ b) (hN : N ≤ w1.heap.size) : Below N w1 w2 :=
  ⟨h.1.os, h.1.tape, h.1.output, h.1.size, fun k hk => h.1.block k (by omega) (fun hm => by
    rcases List.mem_cons.1 hm with e | hm
    · omega
    · have := hf k hm; omega)⟩
theorem arr_facts {x : ArrN} {ms : List MemD} {ds : List (Int × List Int)} (h : arrB x ms ds = true) : x.fuse ≤ 1000 ∧ MsOk ms ∧ 0 ≤ x.gen ∧ x.gen ≤ 60000 := by
  unfold arrB memsB seqB6 at h
  simp only [Bool.and_eq_true, inB_iff] at h
  obtain ⟨_, _, ⟨hm, _⟩, _, _, _, _, _, hg, hf⟩ := h
  refine ⟨hf.2, fun i d hd => ?_, hg.1, hg.2⟩
  have := allIx_iff.1 hm i d hd
  unfold memAt at this
  simp only [Bool.and_eq_true] at this
  exact this.1
/-- The array is handed back: its cells are stored into the result's box. -/
theorem arr_out {w w4 : World} {R lo : Nat} {y : ArrN} {ns : List MemD} {ds : List (Int × List Int)} {vm vd : Option Addr} {cvm cvd : Nat} {fm fd : List Nat} {e : Ending} {T : TypeId} {cs : Array Value} (hb : Below w.heap.size w w4) (_ : Box w4 R T cs) (he : e = .returned (.agg (arrC y (.slice vm ns.length cvm) (.slice vd ds.length cvd)))) (hm : (tMemS 104 73).Mine w4 [.slice vm ns.length cvm] ns fm) (hd : (tWrS 75).Mine w4 [.slice vd ds.length cvd] ds fd) (hr : ∀ b ∈ fm, b ∉ fd) (rm : ∀ b ∈ fm, lo ≤ b) (rd : ∀ b ∈ fd, lo ≤ b) (h1 : w.heap.size ≤ R) (h2 : R < lo) :
    ArrOut w (puts w4 R [(0, .int .i64 y.id), (1, .int .i64 y.n), (2, .int .i64 y.s), (3, .slice vm ns.length cvm), (4, .int .i64 y.lost), (5, .int .i64 y.built), (6, .int .i64 y.seq), (7, .int .i64 y.tail), (8, .int .i64 y.gen), (9, .slice vd ds.length cvd), (10, .int .i64 y.fuse), (11, .bool y.down), (12, .bool y.broken)]) e (y, ns) ds := by
  have hbt := puts_but R [(0, .int .i64 y.id), (1, .int .i64 y.n), (2, .int .i64 y.s), (3, .slice vm ns.length cvm), (4, .int .i64 y.lost), (5, .int .i64 y.built), (6, .int .i64 y.seq), (7, .int .i64 y.tail), (8, .int .i64 y.gen), (9, .slice vd ds.length cvd), (10, .int .i64 y.fuse), (11, .bool y.down), (12, .bool y.broken)] w4
  have hz := hbt.size
  have hlm := hm.lt
  have hld := hd.lt
  refine ⟨vm, vd, cvm, cvd, he, ⟨fm, fd, hm.but hbt (fun b hb => by have := rm b hb; omega), hd.but hbt (fun b hb => by have := rd b hb; omega), hr, fun b hb => ?_, fun b hb => ?_⟩, Below.andBut hb hbt h1⟩
  · have h3 := rm b hb
    have h4 := hlm b hb
    omega
  · have h3 := rd b hb
    have h4 := hld b hb
    omega


end Go.Proofs.YthkpkpclmemodaaGreat

/-
  What Sync, Mark and Check make of an array, whatever it is: plain lemmas. No condition.
-/
namespace Go.Proofs.YthkpkpclmemodaaGreat
open Go.RowKit

def syncA (q : ArrN × List MemD) : ArrN × List MemD := syncS q q.2.length
def syncO (x : ArrN) (ms : List MemD) (ds : List (Int × List Int)) : ArrN × List MemD := if (arrB x ms ds && !x.down) = true then syncA (x, ms) else (x, ms)
def markO (x : ArrN) (ms : List MemD) (ds : List (Int × List Int)) : ArrN × List MemD := if (arrB x ms ds && !x.down && decide (x.gen < 60000)) = true then markS (x, ms) else (x, ms)
def checkO (x : ArrN) (ms : List MemD) (ds : List (Int × List Int)) : ArrN × List MemD := if (arrB x ms ds && !x.down && decide (x.gen < 60000)) = true then checkS (x, ms) else (x, ms)

theorem arr_len {x : ArrN} {ms : List MemD} {ds : List (Int × List Int)} (h : arrB x ms ds = true) : 3 ≤ x.n ∧ x.n ≤ 5 ∧ (ms.length : Int) = x.n := by
  unfold arrB memsB at h
  simp only [Bool.and_eq_true, geoB_iff, decide_eq_true_eq] at h
  exact ⟨h.1.1, h.1.2.1, h.2.2.1.2⟩
theorem ms_light {ns : List MemD} (h : MsOk ns) (hl : ns.length ≤ 5) : wtMemS ns ≤ 10005 := by
  have h1 := sumL_bound (ns.map wtMem) 2000 (fun y hy => by
    obtain ⟨d, hd, rfl⟩ := List.mem_map.1 hy
    obtain ⟨i, hi⟩ := List.mem_iff_getElem?.1 hd
    obtain ⟨ss, cs, f, bs⟩ := d
    exact memB_light (h i _ hi) f)
  rw [List.length_map] at h1
  unfold wtMemS
  omega
/-- What keeps the disks right and their number weighs little. -/
theorem out_light {x : ArrN} {ms : List MemD} {ds : List (Int × List Int)} {q : ArrN × List MemD} (h : arrB x ms ds = true) (hk : MsOk q.2) (hl : q.2.length = ms.length) (hw : wtArr ms ds ≤ 1048576) : wtArr q.2 ds ≤ 2097152 := by
  have h1 := arr_len h
  have h2 := ms_light hk (by omega)
  unfold wtArr at hw ⊢
  omega
theorem markS_keeps {q : ArrN × List MemD} (h : MsOk q.2) (hf : q.1.fuse ≤ 1000) : MsOk (markS q).2 ∧ (markS q).2.length = q.2.length := by
  obtain ⟨a, b, c⟩ := supsS_keeps (q := ({q.1 with gen := q.1.gen + 1}, q.2)) h hf q.2.length
  obtain ⟨a2, _, c2⟩ := syncS_keeps (q := supsS ({q.1 with gen := q.1.gen + 1}, q.2) q.2.length) a b.2.2.2.2.2.2.2.2.2.1 q.2.length
  exact ⟨a2, c2.trans c⟩
theorem checkS_keeps {q : ArrN × List MemD} (h : MsOk q.2) (hf : q.1.fuse ≤ 1000) : MsOk (checkS q).2 ∧ (checkS q).2.length = q.2.length := by
  obtain ⟨a, b, c⟩ := syncS_keeps (q := q) h hf q.2.length
  unfold checkS
  split
  · exact ⟨a, c⟩
  · obtain ⟨a2, c2⟩ := markS_keeps (q := ({(syncS q q.2.length).1 with tail := (syncS q q.2.length).1.seq}, (syncS q q.2.length).2)) a b.2.2.2.2.2.2.2.2.2.1
    exact ⟨a2, c2.trans c⟩
theorem syncO_wt {x : ArrN} {ms : List MemD} {ds : List (Int × List Int)} (hw : wtArr ms ds ≤ 1048576) : wtArr (syncO x ms ds).2 ds ≤ 2097152 := by
  unfold syncO
  split
  · rename_i h
    simp only [Bool.and_eq_true] at h
    obtain ⟨fc, mk, _⟩ := arr_facts h.1
    obtain ⟨a, _, c⟩ := syncS_keeps (q := (x, ms)) mk fc ms.length
    exact out_light h.1 a c hw
  · exact Nat.le_trans hw (by omega)
theorem markO_wt {x : ArrN} {ms : List MemD} {ds : List (Int × List Int)} (hw : wtArr ms ds ≤ 1048576) : wtArr (markO x ms ds).2 ds ≤ 2097152 := by
  unfold markO
  split
  · rename_i h
    simp only [Bool.and_eq_true] at h
    obtain ⟨fc, mk, _⟩ := arr_facts h.1.1
    obtain ⟨a, c⟩ := markS_keeps (q := (x, ms)) mk fc
    exact out_light h.1.1 a c hw
  · exact Nat.le_trans hw (by omega)
theorem checkO_wt {x : ArrN} {ms : List MemD} {ds : List (Int × List Int)} (hw : wtArr ms ds ≤ 1048576) : wtArr (checkO x ms ds).2 ds ≤ 2097152 := by
  unfold checkO
  split
  · rename_i h
    simp only [Bool.and_eq_true] at h
    obtain ⟨fc, mk, _⟩ := arr_facts h.1.1
    obtain ⟨a, c⟩ := checkS_keeps (q := (x, ms)) mk fc
    exact out_light h.1.1 a c hw
  · exact Nat.le_trans hw (by omega)

end Go.Proofs.YthkpkpclmemodaaGreat

/-
  The walk of the program's copyArr: the same array in memory of its own. Condition: it weighs at most 2097152.
-/
namespace Go.Proofs.YthkpkpclmemodaaGreat
open Go.RowKit

set_option linter.unusedSimpArgs false in
set_option maxRecDepth 20000 in
set_option maxHeartbeats 4000000 in
theorem copyArr_any (w : World) (E F G : TypeId) (x : ArrN) (am ad : Option Addr) (nm cm nd cd : Nat) (ms : List MemD) (ds : List (Int × List Int)) (h0 : (tMemS E F).Rd w [.slice am nm cm] ms) (h1 : (tWrS G).Rd w [.slice ad nd cd] ds) (hw : wtArr ms ds ≤ 2097152) :
    Calls Tryz.prog 29 #[.agg #[.int .i64 x.id, .int .i64 x.n, .int .i64 x.s, .slice am nm cm, .int .i64 x.lost, .int .i64 x.built, .int .i64 x.seq, .int .i64 x.tail, .int .i64 x.gen, .slice ad nd cd, .int .i64 x.fuse, .bool x.down, .bool x.broken]] w fun e w' => ∃ bm cm' bd cd' m, e = .returned (.agg #[.int .i64 x.id, .int .i64 x.n, .int .i64 x.s, .slice bm nm cm', .int .i64 x.lost, .int .i64 x.built, .int .i64 x.seq, .int .i64 x.tail, .int .i64 x.gen, .slice bd nd cd', .int .i64 x.fuse, .bool x.down, .bool x.broken]) ∧ (tMemS 104 73).Own w' w.heap.size m [.slice bm nm cm'] ms ∧ (tWrS 75).Own w' m w'.heap.size [.slice bd nd cd'] ds ∧ w.heap.size ≤ m ∧ m ≤ w'.heap.size ∧ Below w.heap.size w w' := by
  have hwm : wtMemS ms ≤ 2097152 := by unfold wtArr at hw; omega
  have hwd : wtWrS ds ≤ 2097152 := by unfold wtArr at hw; omega
  obtain ⟨hl0, _, hm0⟩ := row_length h0
  obtain ⟨hl1, _, hm1⟩ := row_length h1
  have hn0 : nm ≤ 2097152 := by unfold wtMemS at hwm; omega
  have hn1 : nd ≤ 2097152 := by unfold wtWrS at hwd; omega
  obtain ⟨i1, hi1, hy0, hy1, hy2⟩ := info_parts Tryz.infoEnt
  obtain ⟨i4, hi4, hz0, hz1, hz2⟩ := info_parts Tryz.infoMem
  have zz : ∀ u : World, ∀ ob : Obj, (u.alloc ob).heap.size = u.heap.size + 1 := fun u ob => by simp
  have xm : Box (((w.alloc (.cells #[.int .i64 x.id, .int .i64 x.n, .int .i64 x.s, .slice am nm cm, .int .i64 x.lost, .int .i64 x.built, .int .i64 x.seq, .int .i64 x.tail, .int .i64 x.gen, .slice ad nd cd, .int .i64 x.fuse, .bool x.down, .bool x.broken] 33)).alloc (.cells #[.int .i64 0, .int .i64 0, .int .i64 0, .slice none 0 0, .int .i64 0, .int .i64 0, .int .i64 0, .int .i64 0, .int .i64 0, .slice none 0 0, .int .i64 0, .bool false, .bool false] 33)).alloc (.cells #[.int .i64 x.id, .int .i64 x.n, .int .i64 x.s, .slice none 0 0, .int .i64 x.lost, .int .i64 x.built, .int .i64 x.seq, .int .i64 x.tail, .int .i64 x.gen, .slice none 0 0, .int .i64 x.fuse, .bool x.down, .bool x.broken] 33)) (w.heap.size) 33 #[.int .i64 x.id, .int .i64 x.n, .int .i64 x.s, .slice am nm cm, .int .i64 x.lost, .int .i64 x.built, .int .i64 x.seq, .int .i64 x.tail, .int .i64 x.gen, .slice ad nd cd, .int .i64 x.fuse, .bool x.down, .bool x.broken] := ((Box.new w _ _).alloc _).alloc _
  have xr0 := Box.new (w.alloc (.cells #[.int .i64 x.id, .int .i64 x.n, .int .i64 x.s, .slice am nm cm, .int .i64 x.lost, .int .i64 x.built, .int .i64 x.seq, .int .i64 x.tail, .int .i64 x.gen, .slice ad nd cd, .int .i64 x.fuse, .bool x.down, .bool x.broken] 33)) 33 #[.int .i64 0, .int .i64 0, .int .i64 0, .slice none 0 0, .int .i64 0, .int .i64 0, .int .i64 0, .int .i64 0, .int .i64 0, .slice none 0 0, .int .i64 0, .bool false, .bool false]
  rw [zz] at xr0
  have xr : Box (((w.alloc (.cells #[.int .i64 x.id, .int .i64 x.n, .int .i64 x.s, .slice am nm cm, .int .i64 x.lost, .int .i64 x.built, .int .i64 x.seq, .int .i64 x.tail, .int .i64 x.gen, .slice ad nd cd, .int .i64 x.fuse, .bool x.down, .bool x.broken] 33)).alloc (.cells #[.int .i64 0, .int .i64 0, .int .i64 0, .slice none 0 0, .int .i64 0, .int .i64 0, .int .i64 0, .int .i64 0, .int .i64 0, .slice none 0 0, .int .i64 0, .bool false, .bool false] 33)).alloc (.cells #[.int .i64 x.id, .int .i64 x.n, .int .i64 x.s, .slice none 0 0, .int .i64 x.lost, .int .i64 x.built, .int .i64 x.seq, .int .i64 x.tail, .int .i64 x.gen, .slice none 0 0, .int .i64 x.fuse, .bool x.down, .bool x.broken] 33)) (w.heap.size + 1) 33 #[.int .i64 0, .int .i64 0, .int .i64 0, .slice none 0 0, .int .i64 0, .int .i64 0, .int .i64 0, .int .i64 0, .int .i64 0, .slice none 0 0, .int .i64 0, .bool false, .bool false] := xr0.alloc _
  have xo := Box.new ((w.alloc (.cells #[.int .i64 x.id, .int .i64 x.n, .int .i64 x.s, .slice am nm cm, .int .i64 x.lost, .int .i64 x.built, .int .i64 x.seq, .int .i64 x.tail, .int .i64 x.gen, .slice ad nd cd, .int .i64 x.fuse, .bool x.down, .bool x.broken] 33)).alloc (.cells #[.int .i64 0, .int .i64 0, .int .i64 0, .slice none 0 0, .int .i64 0, .int .i64 0, .int .i64 0, .int .i64 0, .int .i64 0, .slice none 0 0, .int .i64 0, .bool false, .bool false] 33)) 33 #[.int .i64 x.id, .int .i64 x.n, .int .i64 x.s, .slice none 0 0, .int .i64 x.lost, .int .i64 x.built, .int .i64 x.seq, .int .i64 x.tail, .int .i64 x.gen, .slice none 0 0, .int .i64 x.fuse, .bool x.down, .bool x.broken]
  rw [zz, zz] at xo
  have hB : Below (w.heap.size) w (((w.alloc (.cells #[.int .i64 x.id, .int .i64 x.n, .int .i64 x.s, .slice am nm cm, .int .i64 x.lost, .int .i64 x.built, .int .i64 x.seq, .int .i64 x.tail, .int .i64 x.gen, .slice ad nd cd, .int .i64 x.fuse, .bool x.down, .bool x.broken] 33)).alloc (.cells #[.int .i64 0, .int .i64 0, .int .i64 0, .slice none 0 0, .int .i64 0, .int .i64 0, .int .i64 0, .int .i64 0, .int .i64 0, .slice none 0 0, .int .i64 0, .bool false, .bool false] 33)).alloc (.cells #[.int .i64 x.id, .int .i64 x.n, .int .i64 x.s, .slice none 0 0, .int .i64 x.lost, .int .i64 x.built, .int .i64 x.seq, .int .i64 x.tail, .int .i64 x.gen, .slice none 0 0, .int .i64 x.fuse, .bool x.down, .bool x.broken] 33)) := (((Below.refl _ _).alloc (Nat.le_refl _) _).alloc (by simp) _).alloc (by simp; omega) _
  have hz : (((w.alloc (.cells #[.int .i64 x.id, .int .i64 x.n, .int .i64 x.s, .slice am nm cm, .int .i64 x.lost, .int .i64 x.built, .int .i64 x.seq, .int .i64 x.tail, .int .i64 x.gen, .slice ad nd cd, .int .i64 x.fuse, .bool x.down, .bool x.broken] 33)).alloc (.cells #[.int .i64 0, .int .i64 0, .int .i64 0, .slice none 0 0, .int .i64 0, .int .i64 0, .int .i64 0, .int .i64 0, .int .i64 0, .slice none 0 0, .int .i64 0, .bool false, .bool false] 33)).alloc (.cells #[.int .i64 x.id, .int .i64 x.n, .int .i64 x.s, .slice none 0 0, .int .i64 x.lost, .int .i64 x.built, .int .i64 x.seq, .int .i64 x.tail, .int .i64 x.gen, .slice none 0 0, .int .i64 x.fuse, .bool x.down, .bool x.broken] 33)).heap.size = w.heap.size + 1 + 1 + 1 := by simp
  have cm3 := xm.cell 3
  have cm9 := xm.cell 9
  clear xr0 zz
  go_enter Tryz.func29, Tryz.ntmps29
  go_wp2
  clear cm3 cm9
  generalize ((w.alloc (.cells #[.int .i64 x.id, .int .i64 x.n, .int .i64 x.s, .slice am nm cm, .int .i64 x.lost, .int .i64 x.built, .int .i64 x.seq, .int .i64 x.tail, .int .i64 x.gen, .slice ad nd cd, .int .i64 x.fuse, .bool x.down, .bool x.broken] 33)).alloc (.cells #[.int .i64 0, .int .i64 0, .int .i64 0, .slice none 0 0, .int .i64 0, .int .i64 0, .int .i64 0, .int .i64 0, .int .i64 0, .slice none 0 0, .int .i64 0, .bool false, .bool false] 33)).alloc (.cells #[.int .i64 x.id, .int .i64 x.n, .int .i64 x.s, .slice none 0 0, .int .i64 x.lost, .int .i64 x.built, .int .i64 x.seq, .int .i64 x.tail, .int .i64 x.gen, .slice none 0 0, .int .i64 x.fuse, .bool x.down, .bool x.broken] 33) = W2 at xm xr xo hB hz ⊢
  obtain ⟨LB, hLB⟩ : ∃ LB, W2.heap.size = LB := ⟨_, rfl⟩
  rw [hLB] at hz
  have q3 : w.heap.size + 1 + 1 + 1 ≤ LB ∧ LB ≤ w.heap.size + 1 + 1 + 1 := by omega
  have hzL : LB ≤ W2.heap.size := by omega
  clear hLB hz
  obtain ⟨BO, hBO⟩ : ∃ BO, w.heap.size + 1 + 1 = BO := ⟨_, rfl⟩
  rw [hBO] at xo ⊢
  have q2 : w.heap.size + 1 + 1 ≤ BO ∧ BO ≤ w.heap.size + 1 + 1 := by omega
  clear hBO
  obtain ⟨BR, hBR⟩ : ∃ BR, w.heap.size + 1 = BR := ⟨_, rfl⟩
  rw [hBR] at xr ⊢
  have q1 : w.heap.size + 1 ≤ BR ∧ BR ≤ w.heap.size + 1 := by omega
  clear hBR
  have XM2 := hidden xm
  have XR2 := hidden xr
  have XO2 := hidden xo
  have HB2 := hidden hB
  clear xm xr xo hB
  go_loopw [14] (fun i wr => ∃ (j : Nat) (v0 : Value) (fp0 : List Nat), j ≤ nm ∧ i = .int .i64 j ∧ Fr LB BO W2 wr ∧ Box wr BO 33 #[.int .i64 x.id, .int .i64 x.n, .int .i64 x.s, v0, .int .i64 x.lost, .int .i64 x.built, .int .i64 x.seq, .int .i64 x.tail, .int .i64 x.gen, .slice none 0 0, .int .i64 x.fuse, .bool x.down, .bool x.broken] ∧ (tMemS 104 73).Mine wr [v0] (ms.take j) fp0 ∧ (∀ b ∈ fp0, LB ≤ b)) (fun i _ => nm - (intOf i).toNat)
  case atStart => exact ⟨0, _, [], Nat.zero_le _, rfl, Fr.refl _ _ _, XO2.out, nil_mine _, by simp⟩
  case round =>
    obtain ⟨j, v0, fp0, hj, rfl, fr, xo, hm, hfp⟩ := hrel
    have hs := fr.size
    have hb := HB2.out.trans (fr.below (M := w.heap.size) (by omega) (by omega))
    by_cases hjn : j < nm
    · rcases quads_at rfl h0 with h0' | ⟨b, off, rfl, hbl, hcs⟩
      · omega
      have hdj : ms[j]? = some (ms[j]'(by omega)) := List.getElem?_eq_getElem (by omega)
      have htk : ms.take (j + 1) = ms.take j ++ [ms[j]'(by omega)] := List.take_succ_eq_append_getElem (by omega)
      generalize ms[j]'(by omega) = d at hdj htk
      have hin := Nat.le_trans (inner_leM hdj) hwm
      obtain ⟨u0, u1, u2, u3, hv0, hv1, hv2, hv3, hrv⟩ := hcs j d hdj
      obtain ⟨a0, c0, a1, c1, a3, c3', ss, cs, f, bs, rfl, rfl, rfl, rfl, rfl, r0, r1, r3⟩ := mem_at hrv
      have pv0 := (hb.cell (p := ⟨b, off + j * 4, none⟩) hbl).trans hv0
      have pv1 := (hb.cell (p := ⟨b, off + j * 4 + 1, none⟩) hbl).trans hv1
      have pv2 := (hb.cell (p := ⟨b, off + j * 4 + 2, none⟩) hbl).trans hv2
      have pv3 := (hb.cell (p := ⟨b, off + j * 4 + 3, none⟩) hbl).trans hv3
      have nb := new_below wr (.cells #[.slice a0 ss.length c0, .slice a1 cs.length c1, .bool f, .slice a3 bs.length c3'] 73)
      have hzm : (wr.alloc (.cells #[.slice a0 ss.length c0, .slice a1 cs.length c1, .bool f, .slice a3 bs.length c3'] 73)).heap.size = wr.heap.size + 1 := by simp
      have hbm := Below.andThen hb nb
      have R0 := hidden (r0.below hbm)
      have R1 := hidden (r1.below hbm)
      have R3 := hidden (r3.below hbm)
      have xom := xo.alloc (.cells #[.slice a0 ss.length c0, .slice a1 cs.length c1, .bool f, .slice a3 bs.length c3'] 73)
      have xmm := Box.new wr 73 #[.slice a0 ss.length c0, .slice a1 cs.length c1, .bool f, .slice a3 bs.length c3']
      have hmm := hm.alloc (.cells #[.slice a0 ss.length c0, .slice a1 cs.length c1, .bool f, .slice a3 bs.length c3'] 73)
      have frm : Fr LB BO W2 (wr.alloc (.cells #[.slice a0 ss.length c0, .slice a1 cs.length c1, .bool f, .slice a3 bs.length c3'] 73)) := fr.trans (Fr.ofBelow nb (by omega))
      have k1 : (0 : Int) ≤ (j : Int) := by omega
      have k2 : (j : Int) < (nm : Int) := by omega
      have HL : Hid ((ms.take j).length = j) := by unfold Hid; rw [List.length_take]; omega
      have L1 : Hid ((ms.take j).length + 1 ≤ maxLen) := by unfold Hid; rw [HL.out]; unfold maxLen; omega
      have L2 : Hid (((ms.take j).length + 1) * 80 ≤ 140737488355328) := by unfold Hid; rw [HL.out]; omega
      have hlt0 : ∀ b ∈ fp0, b < wr.heap.size := hm.lt
      have HTK := hidden htk
      have FRR := hidden frm
      have HM := hidden hmm
      have HFP := hidden hfp
      have XO := hidden xom
      have XMM := hidden xmm
      clear hcs hdj hv0 hv1 hv2 hv3 hrv htk xo hm hfp hb fr r0 r1 r3 nb hbm xom xmm hmm frm
      go_wp2_with fail
      generalize wr.alloc (.cells #[.slice a0 ss.length c0, .slice a1 cs.length c1, .bool f, .slice a3 bs.length c3'] 73) = wm at R0 R1 R3 FRR HM XO XMM hzm ⊢
      have FLT := hidden hlt0
      obtain ⟨MB, hMB⟩ : ∃ MB, wr.heap.size = MB := ⟨_, rfl⟩
      rw [hMB] at XMM hzm hs FLT ⊢
      clear hMB pv0 pv1 pv2 pv3
      have zMB : MB < wm.heap.size := by omega
      have zBO : BO < wm.heap.size := by omega
      have hzm2 : MB + 1 ≤ wm.heap.size := by omega
      clear hzm
      have mk : Hid (∀ w', Box w' BO 33 #[.int .i64 x.id, .int .i64 x.n, .int .i64 x.s, v0, .int .i64 x.lost, .int .i64 x.built, .int .i64 x.seq, .int .i64 x.tail, .int .i64 x.gen, .slice none 0 0, .int .i64 x.fuse, .bool x.down, .bool x.broken] → Box w' MB 73 #[.slice a0 ss.length c0, .slice a1 cs.length c1, .bool f, .slice a3 bs.length c3'] → w'.cell? ⟨BO, 3, none⟩ = some (v0) ∧ w'.cell? ⟨MB, 0, none⟩ = some (.slice a0 ss.length c0) ∧ w'.cell? ⟨MB, 1, none⟩ = some (.slice a1 cs.length c1) ∧ w'.cell? ⟨MB, 2, none⟩ = some (.bool f) ∧ w'.cell? ⟨MB, 3, none⟩ = some (.slice a3 bs.length c3')) := fun w' h1 h2 => ⟨h1.cell 3, h2.cell 0, h2.cell 1, h2.cell 2, h2.cell 3⟩
      have hS : wm.drew.cell? ⟨BO, 3, none⟩ = some (v0) ∧ wm.drew.cell? ⟨MB, 0, none⟩ = some (.slice a0 ss.length c0) ∧ wm.drew.cell? ⟨MB, 1, none⟩ = some (.slice a1 cs.length c1) ∧ wm.drew.cell? ⟨MB, 2, none⟩ = some (.bool f) ∧ wm.drew.cell? ⟨MB, 3, none⟩ = some (.slice a3 bs.length c3') := mk.out wm.drew XO.out XMM.out
      refine Upto.start (S := fun w' => w'.cell? ⟨BO, 3, none⟩ = some (v0) ∧ w'.cell? ⟨MB, 0, none⟩ = some (.slice a0 ss.length c0) ∧ w'.cell? ⟨MB, 1, none⟩ = some (.slice a1 cs.length c1) ∧ w'.cell? ⟨MB, 2, none⟩ = some (.bool f) ∧ w'.cell? ⟨MB, 3, none⟩ = some (.slice a3 bs.length c3')) (k := 7) (by kernel_rfl) ?_
      refine Upto.take (i := 0) (v := ?_) rfl (by kernel_rfl) (by kernel_rfl) (by kernel_rfl) (by kernel_rfl) (fun _ _ _ h => h) (Or.inl ⟨by rfl, ?_⟩) hS ?_
      rotate_left 1
      · (intro w hSw; (try dsimp only at hSw); go_split_ands; go_simp; first | done | with_reducible rfl)
      simp only [Act.put, List.setIfInBounds_toArray, List.set_cons_zero, List.set_cons_succ]
      refine Upto.take (i := 1) (v := ?_) rfl (by kernel_rfl) (by kernel_rfl) (by kernel_rfl) (by kernel_rfl) (fun _ _ _ h => h) (Or.inl ⟨by rfl, ?_⟩) hS ?_
      rotate_left 1
      · (intro w hSw; (try dsimp only at hSw); go_split_ands; go_simp; first | done | with_reducible rfl)
      simp only [Act.put, List.setIfInBounds_toArray, List.set_cons_zero, List.set_cons_succ]
      refine Upto.take (i := 2) (v := ?_) rfl (by kernel_rfl) (by kernel_rfl) (by kernel_rfl) (by kernel_rfl) (fun _ _ _ h => h) (Or.inl ⟨by rfl, ?_⟩) hS ?_
      rotate_left 1
      · (intro w hSw; (try dsimp only at hSw); go_split_ands; go_simp; first | done | with_reducible rfl)
      simp only [Act.put, List.setIfInBounds_toArray, List.set_cons_zero, List.set_cons_succ]
      refine Upto.one (i := 3) (by kernel_rfl) rfl (fun K hK => ?_)
      go_simp
      refine (copyMem_any _ E _ _ _ _ _ _ _ _ _ ss cs f bs R0.out.drew R1.out.drew R3.out.drew hin).mono ?_
      rintro e wc ⟨y0, y1, y3, m1, m2, rfl, o3, o0, o1, hm12, hm01, hm22, bc⟩
      have hbc' : Below wm.heap.size wm wc := (Below.refl wm.heap.size wm).drew.trans bc
      have hm01' : wm.heap.size ≤ m1 := hm01
      have om : (tMem 104).Own wc wm.heap.size wc.heap.size [y0, y1, .bool f, y3] (ss, cs, f, bs) := mem_own3 o0 o1 o3 (.inl (Nat.le_refl _)) (.inr (Nat.le_refl _)) (.inr hm12) ⟨by omega, by omega⟩ ⟨by omega, Nat.le_refl _⟩ ⟨Nat.le_refl _, by omega⟩
      obtain ⟨e0, g0, rfl⟩ := row_shape o0.rd
      obtain ⟨e1, g1, rfl⟩ := row_shape o1.rd
      obtain ⟨e3, g3, rfl⟩ := row_shape o3.rd
      obtain ⟨fpx, mx, rx⟩ := om.mine
      have xoc := XO.out.below hbc' zBO
      have xmc := XMM.out.below hbc' zMB
      have hS3 : wc.cell? ⟨BO, 3, none⟩ = some (v0) ∧ wc.cell? ⟨MB, 0, none⟩ = some (.slice a0 ss.length c0) ∧ wc.cell? ⟨MB, 1, none⟩ = some (.slice a1 cs.length c1) ∧ wc.cell? ⟨MB, 2, none⟩ = some (.bool f) ∧ wc.cell? ⟨MB, 3, none⟩ = some (.slice a3 bs.length c3') := mk.out wc xoc xmc
      have zc := hbc'.size
      have hS4 : (wc.alloc (.cells #[.slice e0 ss.length g0, .slice e1 cs.length g1, .bool f, .slice e3 bs.length g3] 73)).cell? ⟨BO, 3, none⟩ = some (v0) ∧ (wc.alloc (.cells #[.slice e0 ss.length g0, .slice e1 cs.length g1, .bool f, .slice e3 bs.length g3] 73)).cell? ⟨MB, 0, none⟩ = some (.slice a0 ss.length c0) ∧ (wc.alloc (.cells #[.slice e0 ss.length g0, .slice e1 cs.length g1, .bool f, .slice e3 bs.length g3] 73)).cell? ⟨MB, 1, none⟩ = some (.slice a1 cs.length c1) ∧ (wc.alloc (.cells #[.slice e0 ss.length g0, .slice e1 cs.length g1, .bool f, .slice e3 bs.length g3] 73)).cell? ⟨MB, 2, none⟩ = some (.bool f) ∧ (wc.alloc (.cells #[.slice e0 ss.length g0, .slice e1 cs.length g1, .bool f, .slice e3 bs.length g3] 73)).cell? ⟨MB, 3, none⟩ = some (.slice a3 bs.length c3') := mk.out _ (xoc.alloc _) (xmc.alloc _)
      have XOC := hidden xoc
      have XMC := hidden xmc
      have MX := hidden mx
      have RX := hidden rx
      have HBC := hidden hbc'
      clear xoc xmc mx rx hbc' bc om o0 o1 o3 hm01 hm01' hm12 hm22 R0 R1 R3
      go_wp2_with fail
      refine hK.out _ _ (fun _ => hS3) ?_
      clear hK K
      refine Upto.one (i := 4) (by kernel_rfl) rfl (fun K hK => ?_)
      go_simp
      refine hK.out _ _ (fun _ => hS4) ?_
      clear hK K
      refine Upto.one (i := 5) (by kernel_rfl) rfl (fun K hK => ?_)
      refine step_appT (tMem 104) (by rfl) _ _ 30 (by rfl) 73 i4 (.agg #[.slice none 0 0, .slice none 0 0, .bool false, .slice none 0 0]) 80 Tryz.underlying30 hi4 hz0 hz1 hz2 rfl (by decide) v0 (ms.take j) fp0 (by rfl) ?_ ⟨wc.heap.size, 0, none⟩ 1 [.slice e0 ss.length g0, .slice e1 cs.length g1, .bool f, .slice e3 bs.length g3] (ss, cs, f, bs) fpx (by rfl) ?_ ?_ ?_ ?_ L1.out L2.out ?_
      · exact (HM.out.below HBC.out).alloc _
      · exact MX.out.alloc _
      · intro b hb hb'
        have h1 := HM.out.lt b hb
        have h2 := RX.out b hb'
        omega
      · exact news_new _ _ _
      · intro u hu
        simp at hu
        rcases hu with hu | hu | hu | hu <;> (rw [hu]; rfl)
      intro g cap wA fpA m1 m2 m3
      rw [HL.out] at m1 ⊢
      rw [← HTK.out] at m1
      have nMB : MB ∉ fp0 := fun hm => by have := FLT.out _ hm; omega
      have ya := (XOC.out.alloc (.cells #[.slice e0 ss.length g0, .slice e1 cs.length g1, .bool f, .slice e3 bs.length g3] 73)).turned m3 (fun hm => by have := HFP.out _ hm; omega)
      have ym := (XMC.out.alloc (.cells #[.slice e0 ss.length g0, .slice e1 cs.length g1, .bool f, .slice e3 bs.length g3] 73)).turned m3 nMB
      have hS5 : wA.cell? ⟨BO, 3, none⟩ = some (v0) ∧ wA.cell? ⟨MB, 0, none⟩ = some (.slice a0 ss.length c0) ∧ wA.cell? ⟨MB, 1, none⟩ = some (.slice a1 cs.length c1) ∧ wA.cell? ⟨MB, 2, none⟩ = some (.bool f) ∧ wA.cell? ⟨MB, 3, none⟩ = some (.slice a3 bs.length c3') := mk.out wA ya ym
      have r0 := hS5.1
      have fz := ya.frozen 3
      have YA := hidden ya
      have M1 := hidden m1
      have M2 := hidden m2
      have M3 := hidden m3
      clear ya ym m1 m2 m3 nMB
      refine hK.out _ _ (fun _ => hS5) ?_
      clear hK K
      simp only [Act.put, List.setIfInBounds_toArray, List.set_cons_zero, List.set_cons_succ]
      refine Upto.take (i := 6) (v := ?_) rfl (by kernel_rfl) (by kernel_rfl) (by kernel_rfl) (by kernel_rfl) (fun _ _ _ h => h) (Or.inl ⟨by rfl, ?_⟩) hS5 ?_
      rotate_left 1
      · (intro w hSw; (try dsimp only at hSw); go_split_ands; go_simp; first | done | with_reducible rfl)
      simp only [Act.put, List.setIfInBounds_toArray, List.set_cons_zero, List.set_cons_succ]
      refine Upto.one (i := 7) (by kernel_rfl) rfl (fun K hK => ?_)
      go_simp
      refine hK.out _ _ (fun h => absurd rfl h) ?_
      clear hK K
      refine Upto.done (by kernel_rfl) ?_ _
      have HFA := hidden (round_fp (N := LB) (by omega) HBC.out HFP.out RX.out M2.out)
      have FRA := hidden (Fr.round FRR.out (by omega) HBC.out _ M3.out HFP.out 3 (.slice (some ⟨g, 0, none⟩) (j + 1) cap))
      have MA := hidden (M1.out.setCell (g := BO) (j := 3) (fun hm => by have := HFA.out _ hm; omega) (.slice (some ⟨g, 0, none⟩) (j + 1) cap))
      have YA' := hidden (YA.out.set 3 (.slice (some ⟨g, 0, none⟩) (j + 1) cap))
      clear hS hS3 hS4 hS5 r0 YA M1 M2 M3 XOC MX RX HBC HFP HM FRR XO XMM XMC mk FLT
      go_wp2
      go_roundw
      case rel => exact ⟨j + 1, _, fpA, by omega, by go_num, FRA.out, YA'.out, MA.out, HFA.out⟩
      case measure => simp [intOf]; omega
    · have ej : nm = j := by omega
      subst ej
      rw [List.take_of_length_le (by omega)] at hm
      have hlt := hm.lt
      obtain ⟨eM, gM, hvM⟩ := row_shape hm.rd
      rw [hl0] at hvM
      subst hvM
      have KM := hm.own (lo := LB) (hi := wr.heap.size) (fun b hb => ⟨hfp b hb, hlt b hb⟩)
      have xr := fr.box XR2.out (by omega) (by omega)
      have xm := fr.box XM2.out (by omega) (by omega)
      have c9 : wr.cell? ⟨w.heap.size, 9, none⟩ = some (.slice ad nd cd) := xm.cell 9
      obtain ⟨LE, hLE⟩ : ∃ LE, wr.heap.size = LE := ⟨_, rfl⟩
      rw [hLE] at KM hs
      have hLE2 : LE ≤ wr.heap.size := by omega
      clear hLE
      have XM3 := hidden xm
      have XR3 := hidden xr
      have XO3 := hidden xo
      have KM3 := hidden KM
      have HB3 := hidden hb
      clear fr xo xm hm hfp hlt KM xr hb hj XM2 XR2 XO2 HB2
      go_wp2
      clear c9
      obtain ⟨wo, hwo⟩ : ∃ y, y = wr := ⟨_, rfl⟩
      subst hwo
      go_loopw [29] (fun i wq => ∃ (j : Nat) (v1 : Value) (fp1 : List Nat), j ≤ nd ∧ i = .int .i64 j ∧ Fr LE BO wo wq ∧ Box wq BO 33 #[.int .i64 x.id, .int .i64 x.n, .int .i64 x.s, .slice eM nm gM, .int .i64 x.lost, .int .i64 x.built, .int .i64 x.seq, .int .i64 x.tail, .int .i64 x.gen, v1, .int .i64 x.fuse, .bool x.down, .bool x.broken] ∧ (tWrS 75).Mine wq [v1] (ds.take j) fp1 ∧ (∀ b ∈ fp1, LE ≤ b)) (fun i _ => nd - (intOf i).toNat)
      case atStart => exact ⟨0, _, [], Nat.zero_le _, rfl, Fr.refl _ _ _, XO3.out, nil_mine _, by simp⟩
      case round =>
        obtain ⟨j, v1, fp1, hj, rfl, fr, xo, hm, hfp⟩ := hrel
        have hs3 := fr.size
        have hb := HB3.out.trans (fr.below (M := w.heap.size) (by omega) (by omega))
        by_cases hjn : j < nd
        · rcases pairs_at rfl h1 with h0' | ⟨b, off, rfl, hbl, hcs⟩
          · omega
          have hdj : ds[j]? = some (ds[j]'(by omega)) := List.getElem?_eq_getElem (by omega)
          have htk : ds.take (j + 1) = ds.take j ++ [ds[j]'(by omega)] := List.take_succ_eq_append_getElem (by omega)
          generalize ds[j]'(by omega) = d at hdj htk
          have hil := inner_le' hdj
          obtain ⟨u0, u1, hv0, hv1, hrv⟩ := hcs j d hdj
          obtain ⟨rfl, hrv'⟩ := wr_rd hrv
          obtain ⟨av, cv, rfl⟩ := row_shape hrv'
          have pv0 := (hb.cell (p := ⟨b, off + j * 2, none⟩) hbl).trans hv0
          have pv1 := (hb.cell (p := ⟨b, off + j * 2 + 1, none⟩) hbl).trans hv1
          obtain ⟨x0, x1⟩ := d
          simp only at pv0 pv1 hrv' hil
          have nb := new_below wr (.cells #[.int .i64 x0, .slice av x1.length cv] 75)
          have hzm : (wr.alloc (.cells #[.int .i64 x0, .slice av x1.length cv] 75)).heap.size = wr.heap.size + 1 := by simp
          have HX := hidden (hrv'.below (Below.andThen hb nb))
          have k1 : (0 : Int) ≤ (j : Int) := by omega
          have k2 : (j : Int) < (nd : Int) := by omega
          have xom := xo.alloc (.cells #[.int .i64 x0, .slice av x1.length cv] 75)
          have xmm := Box.new wr 75 #[.int .i64 x0, .slice av x1.length cv]
          have hmm := hm.alloc (.cells #[.int .i64 x0, .slice av x1.length cv] 75)
          have frm : Fr LE BO wo (wr.alloc (.cells #[.int .i64 x0, .slice av x1.length cv] 75)) := fr.trans (Fr.ofBelow nb (by omega))
          have hlt0 : ∀ b ∈ fp1, b < wr.heap.size := hm.lt
          have HL : Hid ((ds.take j).length = j) := by unfold Hid; rw [List.length_take]; omega
          have L1 : Hid ((ds.take j).length + 1 ≤ maxLen) := by unfold Hid; rw [HL.out]; unfold maxLen; omega
          have L2 : Hid (((ds.take j).length + 1) * 32 ≤ 140737488355328) := by unfold Hid; rw [HL.out]; omega
          have HTK := hidden htk
          have FRR := hidden frm
          have HM := hidden hmm
          have HFP := hidden hfp
          have XO := hidden xom
          have XMM := hidden xmm
          have FLT := hidden hlt0
          clear hcs hdj hv0 hv1 hrv hrv' htk xo hm hfp hb fr nb xom xmm hmm frm hlt0
          go_wp2_with fail
          generalize wr.alloc (.cells #[.int .i64 x0, .slice av x1.length cv] 75) = wm at HX FRR HM XO XMM hzm ⊢
          obtain ⟨MB, hMB⟩ : ∃ MB, wr.heap.size = MB := ⟨_, rfl⟩
          rw [hMB] at XMM hzm hs3 FLT ⊢
          clear hMB pv0 pv1
          have zMB : MB < wm.heap.size := by omega
          have zBO : BO < wm.heap.size := by omega
          have hzm2 : MB + 1 ≤ wm.heap.size := by omega
          clear hzm
          have mk : Hid (∀ w', Box w' BO 33 #[.int .i64 x.id, .int .i64 x.n, .int .i64 x.s, .slice eM nm gM, .int .i64 x.lost, .int .i64 x.built, .int .i64 x.seq, .int .i64 x.tail, .int .i64 x.gen, v1, .int .i64 x.fuse, .bool x.down, .bool x.broken] → Box w' MB 75 #[.int .i64 x0, .slice av x1.length cv] → w'.cell? ⟨BO, 9, none⟩ = some (v1) ∧ w'.cell? ⟨MB, 0, none⟩ = some (.int .i64 x0) ∧ w'.cell? ⟨MB, 1, none⟩ = some (.slice av x1.length cv)) := fun w' h1 h2 => ⟨h1.cell 9, h2.cell 0, h2.cell 1⟩
          have hS : wm.drew.cell? ⟨BO, 9, none⟩ = some (v1) ∧ wm.drew.cell? ⟨MB, 0, none⟩ = some (.int .i64 x0) ∧ wm.drew.cell? ⟨MB, 1, none⟩ = some (.slice av x1.length cv) := mk.out wm.drew XO.out XMM.out
          refine Upto.start (S := fun w' => w'.cell? ⟨BO, 9, none⟩ = some (v1) ∧ w'.cell? ⟨MB, 0, none⟩ = some (.int .i64 x0) ∧ w'.cell? ⟨MB, 1, none⟩ = some (.slice av x1.length cv)) (k := 11) (by kernel_rfl) ?_
          refine Upto.take (i := 0) (v := ?_) rfl (by kernel_rfl) (by kernel_rfl) (by kernel_rfl) (by kernel_rfl) (fun _ _ _ h => h) (Or.inl ⟨by rfl, ?_⟩) hS ?_
          rotate_left 1
          · (intro w hSw; (try dsimp only at hSw); go_split_ands; go_simp; first | done | with_reducible rfl)
          simp only [Act.put, List.setIfInBounds_toArray, List.set_cons_zero, List.set_cons_succ]
          refine Upto.take (i := 1) (v := ?_) rfl (by kernel_rfl) (by kernel_rfl) (by kernel_rfl) (by kernel_rfl) (fun _ _ _ h => h) (Or.inl ⟨by rfl, ?_⟩) hS ?_
          rotate_left 1
          · (intro w hSw; (try dsimp only at hSw); go_split_ands; go_simp; first | done | with_reducible rfl)
          simp only [Act.put, List.setIfInBounds_toArray, List.set_cons_zero, List.set_cons_succ]
          refine Upto.take (i := 2) (v := ?_) rfl (by kernel_rfl) (by kernel_rfl) (by kernel_rfl) (by kernel_rfl) (fun _ _ _ h => h) (Or.inl ⟨by rfl, ?_⟩) hS ?_
          rotate_left 1
          · (intro w hSw; (try dsimp only at hSw); go_split_ands; go_simp; first | done | with_reducible rfl)
          simp only [Act.put, List.setIfInBounds_toArray, List.set_cons_zero, List.set_cons_succ]
          refine Upto.take (i := 3) (v := ?_) rfl (by kernel_rfl) (by kernel_rfl) (by kernel_rfl) (by kernel_rfl) (fun _ _ _ h => h) (Or.inl ⟨by rfl, ?_⟩) hS ?_
          rotate_left 1
          · (intro w hSw; (try dsimp only at hSw); go_split_ands; go_simp; first | done | with_reducible rfl)
          simp only [Act.put, List.setIfInBounds_toArray, List.set_cons_zero, List.set_cons_succ]
          refine Upto.take (i := 4) (v := ?_) rfl (by kernel_rfl) (by kernel_rfl) (by kernel_rfl) (by kernel_rfl) (fun _ _ _ h => h) (Or.inl ⟨by rfl, ?_⟩) hS ?_
          rotate_left 1
          · (intro w hSw; (try dsimp only at hSw); go_split_ands; go_simp; first | done | with_reducible rfl)
          simp only [Act.put, List.setIfInBounds_toArray, List.set_cons_zero, List.set_cons_succ]
          refine Upto.take (i := 5) (v := ?_) rfl (by kernel_rfl) (by kernel_rfl) (by kernel_rfl) (by kernel_rfl) (fun _ _ _ h => h) (Or.inl ⟨by rfl, ?_⟩) hS ?_
          rotate_left 1
          · (intro w hSw; (try dsimp only at hSw); go_split_ands; go_simp; first | done | with_reducible rfl)
          simp only [Act.put, List.setIfInBounds_toArray, List.set_cons_zero, List.set_cons_succ]
          refine Upto.one (i := 6) (by kernel_rfl) rfl (fun K hK => ?_)
          go_simp
          refine (copyWords_any _ _ _ _ x1 HX.out.drew (by omega)).mono ?_
          rintro e wc ⟨ac, cc, rfl, ow, bc⟩
          have hbc' : Below wm.heap.size wm wc := (Below.refl wm.heap.size wm).drew.trans bc
          obtain ⟨fpx, mx, rx0⟩ := ow.mine
          have rx : ∀ b ∈ fpx, wm.heap.size ≤ b ∧ b < wc.heap.size := rx0
          have xoc := XO.out.below hbc' zBO
          have xmc := XMM.out.below hbc' zMB
          have hS3 : wc.cell? ⟨BO, 9, none⟩ = some (v1) ∧ wc.cell? ⟨MB, 0, none⟩ = some (.int .i64 x0) ∧ wc.cell? ⟨MB, 1, none⟩ = some (.slice av x1.length cv) := mk.out wc xoc xmc
          have zc := hbc'.size
          have hS4 : (wc.alloc (.cells #[.int .i64 x0, .slice ac x1.length cc] 75)).cell? ⟨BO, 9, none⟩ = some (v1) ∧ (wc.alloc (.cells #[.int .i64 x0, .slice ac x1.length cc] 75)).cell? ⟨MB, 0, none⟩ = some (.int .i64 x0) ∧ (wc.alloc (.cells #[.int .i64 x0, .slice ac x1.length cc] 75)).cell? ⟨MB, 1, none⟩ = some (.slice av x1.length cv) := mk.out _ (xoc.alloc _) (xmc.alloc _)
          have XOC := hidden xoc
          have XMC := hidden xmc
          have MX := hidden mx
          have RX := hidden rx
          have HBC := hidden hbc'
          clear xoc xmc mx rx rx0 hbc' bc ow HX
          go_wp2_with fail
          refine hK.out _ _ (fun _ => hS3) ?_
          clear hK K
          refine Upto.take (i := 7) (v := ?_) rfl (by kernel_rfl) (by kernel_rfl) (by kernel_rfl) (by kernel_rfl) (fun _ _ _ h => h) (Or.inl ⟨by rfl, ?_⟩) hS3 ?_
          rotate_left 1
          · (intro w hSw; (try dsimp only at hSw); go_split_ands; go_simp; first | done | with_reducible rfl)
          simp only [Act.put, List.setIfInBounds_toArray, List.set_cons_zero, List.set_cons_succ]
          refine Upto.one (i := 8) (by kernel_rfl) rfl (fun K hK => ?_)
          go_simp
          refine hK.out _ _ (fun _ => hS4) ?_
          clear hK K
          refine Upto.one (i := 9) (by kernel_rfl) rfl (fun K hK => ?_)
          refine step_appT tWr (by rfl) _ _ 31 (by rfl) 75 i1 (.agg #[.int .i64 0, .slice none 0 0]) 32 Tryz.underlying31 hi1 hy0 hy1 hy2 rfl Nat.zero_lt_two v1 (ds.take j) fp1 (by rfl) ?_ ⟨wc.heap.size, 0, none⟩ 1 [.int .i64 x0, .slice ac x1.length cc] (x0, x1) fpx (by rfl) ?_ ?_ ?_ ?_ L1.out L2.out ?_
          · exact (HM.out.below HBC.out).alloc _
          · exact (wr_mine x0 MX.out).alloc _
          · intro b hb hb'
            have h1 := HM.out.lt b hb
            have h2 := RX.out b hb'
            omega
          · exact news_new _ _ _
          · intro u hu
            simp at hu
            rcases hu with hu | hu <;> (rw [hu]; rfl)
          intro g cap wA fpA m1 m2 m3
          rw [HL.out] at m1 ⊢
          rw [← HTK.out] at m1
          have nMB : MB ∉ fp1 := fun hm => by have := FLT.out _ hm; omega
          have ya := (XOC.out.alloc (.cells #[.int .i64 x0, .slice ac x1.length cc] 75)).turned m3 (fun hm => by have := HFP.out _ hm; omega)
          have ym := (XMC.out.alloc (.cells #[.int .i64 x0, .slice ac x1.length cc] 75)).turned m3 nMB
          have hS5 : wA.cell? ⟨BO, 9, none⟩ = some (v1) ∧ wA.cell? ⟨MB, 0, none⟩ = some (.int .i64 x0) ∧ wA.cell? ⟨MB, 1, none⟩ = some (.slice av x1.length cv) := mk.out wA ya ym
          have r0 := hS5.1
          have fz := ya.frozen 9
          have YA := hidden ya
          have M1 := hidden m1
          have M2 := hidden m2
          have M3 := hidden m3
          clear ya ym m1 m2 m3 nMB
          refine hK.out _ _ (fun _ => hS5) ?_
          clear hK K
          simp only [Act.put, List.setIfInBounds_toArray, List.set_cons_zero, List.set_cons_succ]
          refine Upto.take (i := 10) (v := ?_) rfl (by kernel_rfl) (by kernel_rfl) (by kernel_rfl) (by kernel_rfl) (fun _ _ _ h => h) (Or.inl ⟨by rfl, ?_⟩) hS5 ?_
          rotate_left 1
          · (intro w hSw; (try dsimp only at hSw); go_split_ands; go_simp; first | done | with_reducible rfl)
          simp only [Act.put, List.setIfInBounds_toArray, List.set_cons_zero, List.set_cons_succ]
          refine Upto.one (i := 11) (by kernel_rfl) rfl (fun K hK => ?_)
          go_simp
          refine hK.out _ _ (fun h => absurd rfl h) ?_
          clear hK K
          refine Upto.done (by kernel_rfl) ?_ _
          have HFA := hidden (round_fp (N := LE) (by omega) HBC.out HFP.out RX.out M2.out)
          have FRA := hidden (Fr.round FRR.out (by omega) HBC.out _ M3.out HFP.out 9 (.slice (some ⟨g, 0, none⟩) (j + 1) cap))
          have MA := hidden (M1.out.setCell (g := BO) (j := 9) (fun hm => by have := HFA.out _ hm; omega) (.slice (some ⟨g, 0, none⟩) (j + 1) cap))
          have YA' := hidden (YA.out.set 9 (.slice (some ⟨g, 0, none⟩) (j + 1) cap))
          clear hS hS3 hS4 hS5 r0 YA M1 M2 M3 XOC MX RX HBC HFP HM FRR XO XMM XMC mk FLT
          go_wp2
          go_roundw
          case rel => exact ⟨j + 1, _, fpA, by omega, by go_num, FRA.out, YA'.out, MA.out, HFA.out⟩
          case measure => simp [intOf]; omega
        · have ej : nd = j := by omega
          subst ej
          rw [List.take_of_length_le (by omega)] at hm
          have hlt := hm.lt
          obtain ⟨eD, gD, hvD⟩ := row_shape hm.rd
          rw [hl1] at hvD
          subst hvD
          have K1 := hm.own (lo := LE) (hi := wr.heap.size) (fun b hb => ⟨hfp b hb, hlt b hb⟩)
          have K0 := fr.own KM3.out (Nat.le_refl _) (.inr (by omega))
          have xr := fr.box XR3.out (by omega) (by omega)
          have hbt := puts_but BR [(0, .int .i64 x.id), (1, .int .i64 x.n), (2, .int .i64 x.s), (3, .slice eM nm gM), (4, .int .i64 x.lost), (5, .int .i64 x.built), (6, .int .i64 x.seq), (7, .int .i64 x.tail), (8, .int .i64 x.gen), (9, .slice eD nd gD), (10, .int .i64 x.fuse), (11, .bool x.down), (12, .bool x.broken)] wr
          have H0 := K0.but hbt (.inr (by omega))
          have H1 := K1.but hbt (.inr (by omega))
          have HBB := Below.andBut hb hbt (by omega)
          have hsz := hbt.size
          have H0w := hidden (H0.widen (lo' := w.heap.size) (hi' := LE) (by omega) (Nat.le_refl _))
          have H1w := hidden (H1.widen (lo' := LE) (Nat.le_refl _) hsz)
          have HBw := hidden HBB
          have HSZ : Hid (LE ≤ (puts wr BR [(0, .int .i64 x.id), (1, .int .i64 x.n), (2, .int .i64 x.s), (3, .slice eM nm gM), (4, .int .i64 x.lost), (5, .int .i64 x.built), (6, .int .i64 x.seq), (7, .int .i64 x.tail), (8, .int .i64 x.gen), (9, .slice eD nd gD), (10, .int .i64 x.fuse), (11, .bool x.down), (12, .bool x.broken)]).heap.size) := by unfold Hid; omega
          simp only [puts] at H0w H1w HBw HSZ
          obtain ⟨p0, p1, p2, p3, p4, p5, p6, p7, p8, p9, p10, p11, p12⟩ := xr.cells13
          have fz := xr.frozen
          obtain ⟨r0, r1, r2, r3, r4, r5, r6, r7, r8, r9, r10, r11, r12⟩ := xo.cells13
          have hLw : w.heap.size ≤ LE := by omega
          clear fr xo hb hm hfp hlt xr K0 K1 hbt H0 H1 HBB hsz hj hs3
          go_wp2
          refine bodyPost_ret (v := .agg #[.int .i64 x.id, .int .i64 x.n, .int .i64 x.s, .slice eM nm gM, .int .i64 x.lost, .int .i64 x.built, .int .i64 x.seq, .int .i64 x.tail, .int .i64 x.gen, .slice eD nd gD, .int .i64 x.fuse, .bool x.down, .bool x.broken]) (by simp [results, Tryz.results29, go_sem, p0, p1, p2, p3, p4, p5, p6, p7, p8, p9, p10, p11, p12]) rfl ?_
          exact ⟨_, _, _, _, LE, rfl, H0w.out, H1w.out, hLw, HSZ.out, HBw.out⟩

end Go.Proofs.YthkpkpclmemodaaGreat

/-
  A disk operation that is yet to be done, as a function value: what it does when it is called, in every world in which what it holds is as it was. Plain lemmas. No condition.
-/
namespace Go.Proofs.YthkpkpclmemodaaGreat
open Go.RowKit

/-- The function is one of the program's own. -/
def Enters (F : FuncId) (args : Array Value) : Prop := ∀ w : World, Sem.run Tryz.prog (callFunc F args) w = .ok (.enter F args) w
theorem enters_of {F : FuncId} {fn : Func} (hf : Tryz.prog.funcs[F]? = some fn) (hn : (fn.name == "runtime.NumGoroutine") = false) (hb : fn.body.isNone = false) (args : Array Value) : Enters F args := by
  intro w
  have hb' : ¬ fn.body = none := fun h => by rw [h] at hb; cases hb
  have hn' : ¬ fn.name = "runtime.NumGoroutine" := by simpa using hn
  simp [go_sem, callFunc, hf, hn', hb']
/-- Called, it turns its disk. -/
def OpRuns (B : Nat) (fp : List Nat) (F : FuncId) (cap : Array Value) (o : DOp) (w : World) : Prop :=
  ∀ (x : ArrN) (ms : List MemD) (ds : List (Int × List Int)) (fm fd : List Nat), ArrAt w B x ms ds fm fd → MsOk ms → (∀ b ∈ fp, b ≠ B ∧ b ∉ fm) → o.1 < ms.length →
    Calls Tryz.prog F cap w fun e w' => e = .returned (.tuple #[]) ∧ ∃ fm', ArrAt w' B x (ms.set o.1 (opF o x (ms.getD o.1 memZ))) ds fm' fd ∧ Moved B fm w fm' w'
def opOw (B : Nat) (w : World) (vs : List Value) (o : DOp) (fp : List Nat) : Prop :=
  ∃ F cap, vs = [.func (Fn.func F) #[] cap] ∧ Enters F cap ∧ (∀ b ∈ fp, b < w.heap.size) ∧ ∀ w' : World, (∀ b ∈ fp, w'.heap[b]? = w.heap[b]?) → w.heap.size ≤ w'.heap.size → OpRuns B fp F cap o w'
/-- A disk operation of the array in the box B. -/
abbrev opTy (B : Nat) : Ty where
  n := 1
  D := DOp
  rd := opOw B
  ow := opOw B
  owRd := fun h => h
  rdLen := fun ⟨_, _, h, _⟩ => by rw [h]; rfl
  rdLt := fun ⟨_, _, _, _, h, _⟩ => h
  rdKept := fun ⟨F, cap, h, he, hl, hr⟩ hk hs => ⟨F, cap, h, he, fun b hb => Nat.lt_of_lt_of_le (hl b hb) hs, fun w'' hk2 hs2 => hr w'' (fun b hb => (hk2 b hb).trans (hk b hb)) (Nat.le_trans hs hs2)⟩
  owKept := fun ⟨F, cap, h, he, hl, hr⟩ hk hs => ⟨F, cap, h, he, fun b hb => Nat.lt_of_lt_of_le (hl b hb) hs, fun w'' hk2 hs2 => hr w'' (fun b hb => (hk2 b hb).trans (hk b hb)) (Nat.le_trans hs hs2)⟩
abbrev tOps (B : Nat) : Ty := rowTy (opTy B) 112

/-- What is given up with where the power goes. -/
abbrev goneV : Value := .iface 86 (.agg #[])
abbrev goneC : List PanicEntry := [{ v := goneV, recovered := false }]
/-- It gives up where the power is gone; else it ends. -/
def EndOf (y : ArrN) (e : Ending) : Prop := if y.down = true then e = .panicked goneC else e = .returned (.tuple #[])
theorem EndOf.gone {y : ArrN} (h : y.down = true) : EndOf y (.panicked goneC) := by unfold EndOf; rw [if_pos h]
theorem EndOf.fine {y : ArrN} (h : y.down = false) : EndOf y (.returned (.tuple #[])) := by unfold EndOf; rw [if_neg (by simp [h])]
/-- Done to the array in the box B: what it is made into, and how it ends. -/
def Did (w : World) (B : Nat) (fm : List Nat) (ds : List (Int × List Int)) (fd : List Nat) (q : ArrN × List MemD) (e : Ending) (w' : World) : Prop := EndOf q.1 e ∧ ∃ fm', ArrAt w' B q.1 q.2 ds fm' fd ∧ Moved B fm w fm' w'

/-- The operation j of a row. -/
theorem dop_at {w : World} {B n cap j : Nat} {bo : Option Addr} {ops : List DOp} {o : DOp} {fo : List Nat} (h : (tOps B).Mine w [.slice bo n cap] ops fo) (hj : ops[j]? = some o) :
    ∃ (g : Nat) (F : FuncId) (cp : Array Value) (fp : List Nat), bo = some ⟨g, 0, none⟩ ∧ g < w.heap.size ∧ w.cell? ⟨g, j, none⟩ = some (.func (Fn.func F) #[] cp) ∧ Enters F cp ∧ (∀ b ∈ fp, b ∈ fo) ∧ ∀ w' : World, (∀ b ∈ fp, w'.heap[b]? = w.heap[b]?) → w.heap.size ≤ w'.heap.size → OpRuns B fp F cp o w' := by
  obtain ⟨h, _⟩ := h
  have hjl := (List.getElem?_eq_some_iff.1 hj).1
  rcases h with ⟨_, h2, _⟩ | ⟨b, cap', cur, fps, h1, h2, h3, h4, h5, h6, h7, h8⟩
  · rw [h2] at hjl; simp at hjl
  · simp only [List.cons.injEq, Value.slice.injEq, and_true] at h1
    obtain ⟨f, hf, F, cp, hv, he, hl, hr⟩ := h8 j o hj
    refine ⟨b, F, cp, f, h1.1, (Array.getElem?_eq_some_iff.1 h4).1, ?_, he, fun b' hb' => ?_, hr⟩
    · rw [cell_of_row w b _ cur 112 (0, 0) h4]
      have : ((cur.toList.drop (j * 1)).take 1)[0]? = some (.func (Fn.func F) #[] cp) := by rw [hv]; rfl
      rw [List.getElem?_take, if_pos (by omega), List.getElem?_drop] at this
      simpa using this
    · rw [h6]
      exact List.mem_cons_of_mem _ (List.mem_flatten.2 ⟨f, List.mem_of_getElem? hf, hb'⟩)

end Go.Proofs.YthkpkpclmemodaaGreat

namespace Go.Proofs.YthkpkpclmemodaaGreat
open Go.RowKit

set_option maxRecDepth 20000 in
theorem catch_gone (w : World) : CallsD Tryz.prog 66 #[] (.panicking goneC) w fun e u' w' => e = .returned (.tuple #[]) ∧ u' = .panicking [{ v := goneV, recovered := true }] ∧ w' = w := by
  have n1 : ∀ w : World, Sem.run Tryz.prog (binOp BinOp.neq 20 goneV .nilIface) w = .ok (.bool true) w := fun _ => by kernel_rfl
  have n2 : ∀ w : World, Sem.run Tryz.prog (binOp BinOp.neq 20 goneV goneV) w = .ok (.bool false) w := fun _ => by kernel_rfl
  refine callsD_of_wpS Tryz.func66 rfl fun c₀ cs hu => ?_
  apply wpS_seq
  apply wpS_region
  simp [wpOpsS, go_sem, recoverD, hu, Tryz.ntmps66, Exit.thenS]
  refine wpS_of_wp ?_
  have ht : ((Array.replicate 11 undef).setIfInBounds 1 goneV).setIfInBounds 0 goneV = #[goneV, goneV, undef, undef, undef, undef, undef, undef, undef, undef, undef] := rfl
  rw [ht]
  go_wp2
  exact ⟨rfl, _, rfl, .tuple #[], results_none rfl _ _ _, rfl, rfl, rfl⟩

set_option maxRecDepth 20000 in
theorem catch_idle (w : World) : CallsD Tryz.prog 66 #[] .returning w fun e u' w' => e = .returned (.tuple #[]) ∧ u' = .returning ∧ w' = w := by
  have n1 : ∀ w : World, Sem.run Tryz.prog (binOp BinOp.neq 20 .nilIface .nilIface) w = .ok (.bool false) w := fun _ => by kernel_rfl
  refine callsD_of_wpS Tryz.func66 rfl fun c₀ cs hu => ?_
  apply wpS_seq
  apply wpS_region
  simp [wpOpsS, go_sem, recoverD, hu, Tryz.ntmps66, Exit.thenS]
  refine wpS_of_wp ?_
  have ht : ((Array.replicate 11 undef).setIfInBounds 1 Value.nilIface).setIfInBounds 0 Value.nilIface = #[Value.nilIface, Value.nilIface, undef, undef, undef, undef, undef, undef, undef, undef, undef] := rfl
  rw [ht]
  go_wp2
  exact ⟨rfl, .returning, by cases c₀; simp_all, .tuple #[], results_none rfl _ _ _, rfl, rfl, rfl⟩

theorem puts_arr {w : World} {B : Nat} {T : TypeId} {z0 z1 z2 z3 z4 z5 z6 z7 z8 z9 z10 z11 z12 : Value} (h : Box w B T #[z0, z1, z2, z3, z4, z5, z6, z7, z8, z9, z10, z11, z12]) (c0 c1 c2 c3 c4 c5 c6 c7 c8 c9 c10 c11 c12 : Value) : Box (puts w B [(0, c0), (1, c1), (2, c2), (3, c3), (4, c4), (5, c5), (6, c6), (7, c7), (8, c8), (9, c9), (10, c10), (11, c11), (12, c12)]) B T #[c0, c1, c2, c3, c4, c5, c6, c7, c8, c9, c10, c11, c12] := by
  simp only [puts]
  have := (((((((((((((h.set 0 c0).set 1 c1).set 2 c2).set 3 c3).set 4 c4).set 5 c5).set 6 c6).set 7 c7).set 8 c8).set 9 c9).set 10 c10).set 11 c11).set 12 c12)
  simpa using this
/-- An array that lies where it is handed back from. -/
theorem arr_here {w w4 : World} {B : Nat} {y : ArrN} {ns : List MemD} {ds : List (Int × List Int)} {bm bd : Option Addr} {cm cd : Nat} {fm fd : List Nat} {e : Ending} (hb : Below w.heap.size w w4) (he : e = .returned (.agg (arrC y (.slice bm ns.length cm) (.slice bd ds.length cd)))) (hm : (tMemS 104 73).Mine w4 [.slice bm ns.length cm] ns fm) (hd : (tWrS 75).Mine w4 [.slice bd ds.length cd] ds fd) (hr : ∀ b ∈ fm, b ∉ fd) (rm : ∀ b ∈ fm, B ≤ b) (rd : ∀ b ∈ fd, B ≤ b) (h1 : w.heap.size ≤ B) : ArrOut w w4 e (y, ns) ds :=
  ⟨bm, bd, cm, cd, he, ⟨fm, fd, hm, hd, hr, fun b hb => ⟨Nat.le_trans h1 (rm b hb), hm.lt b hb⟩, fun b hb => ⟨Nat.le_trans h1 (rd b hb), hd.lt b hb⟩⟩, hb⟩

set_option linter.unusedSimpArgs false in
set_option maxRecDepth 20000 in
set_option maxHeartbeats 3200000 in
theorem worked_any (w : World) (E F G : TypeId) (x : ArrN) (am ad : Option Addr) (nm cm nd cd : Nat) (ms : List MemD) (ds : List (Int × List Int)) (h0 : (tMemS E F).Rd w [.slice am nm cm] ms) (h1 : (tWrS G).Rd w [.slice ad nd cd] ds) (hw : wtArr ms ds ≤ 2097152)
    (Fw : FuncId) (cap : Array Value) (q : ArrN × List MemD) (hen : ∀ B : Nat, Enters Fw (#[.pointer (some ⟨B, 0, none⟩)] ++ cap))
    (hwork : ∀ (w' : World) (B : Nat) (fm fd : List Nat), Below w.heap.size w w' → w.heap.size ≤ B → ArrAt w' B x ms ds fm fd → (∀ b ∈ fm, w.heap.size ≤ b) → (∀ b ∈ fd, w.heap.size ≤ b) → Calls Tryz.prog Fw (#[.pointer (some ⟨B, 0, none⟩)] ++ cap) w' (Did w' B fm ds fd q)) :
    Calls Tryz.prog 30 #[.agg #[.int .i64 x.id, .int .i64 x.n, .int .i64 x.s, .slice am nm cm, .int .i64 x.lost, .int .i64 x.built, .int .i64 x.seq, .int .i64 x.tail, .int .i64 x.gen, .slice ad nd cd, .int .i64 x.fuse, .bool x.down, .bool x.broken], .func (Fn.func Fw) #[] cap] w fun e w' => ArrOut w w' e q ds := by
  obtain ⟨rfl, _⟩ := row_length h0
  obtain ⟨rfl, _⟩ := row_length h1
  have hA := (new_below w (.cells #[.int .i64 x.id, .int .i64 x.n, .int .i64 x.s, .slice am ms.length cm, .int .i64 x.lost, .int .i64 x.built, .int .i64 x.seq, .int .i64 x.tail, .int .i64 x.gen, .slice ad ds.length cd, .int .i64 x.fuse, .bool x.down, .bool x.broken] 33)).alloc (by simp) (.cells #[.int .i64 0, .int .i64 0, .int .i64 0, .slice none 0 0, .int .i64 0, .int .i64 0, .int .i64 0, .int .i64 0, .int .i64 0, .slice none 0 0, .int .i64 0, .bool false, .bool false] 33)
  have X0 : Box ((w.alloc (.cells #[.int .i64 x.id, .int .i64 x.n, .int .i64 x.s, .slice am ms.length cm, .int .i64 x.lost, .int .i64 x.built, .int .i64 x.seq, .int .i64 x.tail, .int .i64 x.gen, .slice ad ds.length cd, .int .i64 x.fuse, .bool x.down, .bool x.broken] 33)).alloc (.cells #[.int .i64 0, .int .i64 0, .int .i64 0, .slice none 0 0, .int .i64 0, .int .i64 0, .int .i64 0, .int .i64 0, .int .i64 0, .slice none 0 0, .int .i64 0, .bool false, .bool false] 33)) w.heap.size 33 #[.int .i64 x.id, .int .i64 x.n, .int .i64 x.s, .slice am ms.length cm, .int .i64 x.lost, .int .i64 x.built, .int .i64 x.seq, .int .i64 x.tail, .int .i64 x.gen, .slice ad ds.length cd, .int .i64 x.fuse, .bool x.down, .bool x.broken] := (Box.new w _ _).alloc _
  have R0 := Box.new (w.alloc (.cells #[.int .i64 x.id, .int .i64 x.n, .int .i64 x.s, .slice am ms.length cm, .int .i64 x.lost, .int .i64 x.built, .int .i64 x.seq, .int .i64 x.tail, .int .i64 x.gen, .slice ad ds.length cd, .int .i64 x.fuse, .bool x.down, .bool x.broken] 33)) 33 #[.int .i64 0, .int .i64 0, .int .i64 0, .slice none 0 0, .int .i64 0, .int .i64 0, .int .i64 0, .int .i64 0, .int .i64 0, .slice none 0 0, .int .i64 0, .bool false, .bool false]
  rw [World.size_alloc] at R0
  have zX := X0.lt
  have zR := R0.lt
  have r0 := h0.below hA
  have r1 := h1.below hA
  have hzW : ((w.alloc (.cells #[.int .i64 x.id, .int .i64 x.n, .int .i64 x.s, .slice am ms.length cm, .int .i64 x.lost, .int .i64 x.built, .int .i64 x.seq, .int .i64 x.tail, .int .i64 x.gen, .slice ad ds.length cd, .int .i64 x.fuse, .bool x.down, .bool x.broken] 33)).alloc (.cells #[.int .i64 0, .int .i64 0, .int .i64 0, .slice none 0 0, .int .i64 0, .int .i64 0, .int .i64 0, .int .i64 0, .int .i64 0, .slice none 0 0, .int .i64 0, .bool false, .bool false] 33)).heap.size = w.heap.size + 1 + 1 := by simp
  obtain ⟨k0, k1, k2, k3, k4, k5, k6, k7, k8, k9, k10, k11, k12⟩ := X0.cells13
  have HW := hidden hwork
  clear hwork
  have hmf : ∀ (fn : Fn) (first cap : Array Value) (w : World), (Instr.makeFunc fn first cap).run Tryz.prog w = .ok (.func fn first cap) w := fun _ _ _ _ => rfl
  go_enter_defers Tryz.func30, Tryz.ntmps30
  go_wp2_with fail
  generalize (w.alloc (.cells #[.int .i64 x.id, .int .i64 x.n, .int .i64 x.s, .slice am ms.length cm, .int .i64 x.lost, .int .i64 x.built, .int .i64 x.seq, .int .i64 x.tail, .int .i64 x.gen, .slice ad ds.length cd, .int .i64 x.fuse, .bool x.down, .bool x.broken] 33)).alloc (.cells #[.int .i64 0, .int .i64 0, .int .i64 0, .slice none 0 0, .int .i64 0, .int .i64 0, .int .i64 0, .int .i64 0, .int .i64 0, .slice none 0 0, .int .i64 0, .bool false, .bool false] 33) = W at hA X0 R0 zX zR r0 r1 hzW k0 k1 k2 k3 k4 k5 k6 k7 k8 k9 k10 k11 k12 ⊢
  obtain ⟨BO, hBO⟩ : ∃ BO, w.heap.size + 1 = BO := ⟨_, rfl⟩
  rw [hBO] at R0 zR hzW ⊢
  have q1 : w.heap.size + 1 ≤ BO ∧ BO ≤ w.heap.size + 1 := by omega
  clear hBO
  refine (copyArr_any _ E F G x _ _ _ _ _ _ ms ds r0 r1 hw).mono ?_
  rintro e w1 ⟨bm, cm1, bd, cd1, m, rfl, om, od, zm, zm2, b1⟩
  have R1 := R0.below b1 zR
  have hbt := puts_but BO [(0, .int .i64 x.id), (1, .int .i64 x.n), (2, .int .i64 x.s), (3, .slice bm ms.length cm1), (4, .int .i64 x.lost), (5, .int .i64 x.built), (6, .int .i64 x.seq), (7, .int .i64 x.tail), (8, .int .i64 x.gen), (9, .slice bd ds.length cd1), (10, .int .i64 x.fuse), (11, .bool x.down), (12, .bool x.broken)] w1
  have Y : Box (puts w1 BO [(0, .int .i64 x.id), (1, .int .i64 x.n), (2, .int .i64 x.s), (3, .slice bm ms.length cm1), (4, .int .i64 x.lost), (5, .int .i64 x.built), (6, .int .i64 x.seq), (7, .int .i64 x.tail), (8, .int .i64 x.gen), (9, .slice bd ds.length cd1), (10, .int .i64 x.fuse), (11, .bool x.down), (12, .bool x.broken)]) BO 33 (arrC x (.slice bm ms.length cm1) (.slice bd ds.length cd1)) := puts_arr R1 _ _ _ _ _ _ _ _ _ _ _ _ _
  obtain ⟨fm, mm, rm⟩ := om.mine
  obtain ⟨fd, md, rd⟩ := od.mine
  have AA : ArrAt (puts w1 BO [(0, .int .i64 x.id), (1, .int .i64 x.n), (2, .int .i64 x.s), (3, .slice bm ms.length cm1), (4, .int .i64 x.lost), (5, .int .i64 x.built), (6, .int .i64 x.seq), (7, .int .i64 x.tail), (8, .int .i64 x.gen), (9, .slice bd ds.length cd1), (10, .int .i64 x.fuse), (11, .bool x.down), (12, .bool x.broken)]) BO x ms ds fm fd := ⟨bm, bd, cm1, cd1, Y, mm.but hbt (fun b hb => by have := rm b hb; omega), md.but hbt (fun b hb => by have := rd b hb; omega), fun b hb hb' => by have h1 := rm b hb; have h2 := rd b hb'; omega, fun hm => by have := rm _ hm; omega, fun hm => by have := rd _ hm; omega⟩
  have B1 := Below.andBut (Below.andThen hA b1) hbt (by omega)
  have rm2 : ∀ b ∈ fm, BO < b := fun b hb => by have := rm b hb; omega
  have rd2 : ∀ b ∈ fd, BO < b := fun b hb => by have := rd b hb; omega
  have WK := hidden (HW.out _ BO fm fd B1 (by omega) AA (fun b hb => by have := rm2 b hb; omega) (fun b hb => by have := rd2 b hb; omega))
  have hcf : ∀ w : World, Sem.run Tryz.prog (callFunc Fw (#[.pointer (some ⟨BO, 0, none⟩)] ++ cap)) w = .ok (.enter Fw (#[.pointer (some ⟨BO, 0, none⟩)] ++ cap)) w := hen BO
  have BH := hidden B1
  have zW := AA.lt
  simp only [puts] at WK BH zW
  obtain ⟨t0, t1, t2, t3, t4, t5, t6, t7, t8, t9, t10, t11, t12⟩ := R1.cells13
  have fz := R1.frozen
  clear X0 R0 r0 r1 om od b1 hbt Y mm md AA B1 rm rd hA HW k0 k1 k2 k3 k4 k5 k6 k7 k8 k9 k10 k11 k12
  go_wp2_with fail
  refine WK.out.mono ?_
  rintro e w4 ⟨he, fm4, hA4, hMv4⟩
  clear WK hcf fz t0 t1 t2 t3 t4 t5 t6 t7 t8 t9 t10 t11 t12
  have rm4 : ∀ b ∈ fm4, BO < b := fun b hb => by rcases hMv4.2 b hb with h | h; exact rm2 b h; omega
  have B4 := BH.out.trans (hMv4.belowN (N := w.heap.size) (by omega) (fun b hb => by have := rm2 b hb; omega) (by have := BH.out.size; omega))
  obtain ⟨y, ns⟩ := q
  dsimp only at hA4 he
  obtain ⟨vm, vd, cvm, cvd, Yf, mf, df, hrf, r1f, r2f⟩ := hA4
  clear hMv4 BH zW
  have Y0 := Yf
  unfold arrC at Y0
  obtain ⟨s0, s1, s2, s3, s4, s5, s6, s7, s8, s9, s10, s11, s12⟩ := Y0.cells13
  have fz := Y0.frozen
  unfold EndOf at he
  cases hdn : y.down
  · rw [if_neg (by simp [hdn])] at he
    subst he
    clear hdn
    have HO := hidden (arr_out (y := y) (e := .returned (.agg (arrC y _ _))) B4 Yf rfl mf df hrf (lo := BO + 1) (fun b hb => rm4 b hb) (fun b hb => rd2 b hb) (by omega) (by omega))
    unfold arrC at HO
    simp only [puts] at HO
    clear B4 Yf Y0 mf df
    go_wp2
    refine leaves_cons (f := 66) (args := #[]) (by simp) (by simp [go_sem]) ?_
    refine (catch_idle _).mono ?_
    rintro e u' w'' ⟨rfl, rfl, rfl⟩
    exact ⟨.agg #[.int .i64 y.id, .int .i64 y.n, .int .i64 y.s, .slice vm ns.length cvm, .int .i64 y.lost, .int .i64 y.built, .int .i64 y.seq, .int .i64 y.tail, .int .i64 y.gen, .slice vd ds.length cvd, .int .i64 y.fuse, .bool y.down, .bool y.broken], by simp [results, Tryz.results30, go_sem, s0, s1, s2, s3, s4, s5, s6, s7, s8, s9, s10, s11, s12], HO.out⟩
  · rw [if_pos hdn] at he
    subst he
    clear hdn
    have HO := hidden (arr_here (y := y) (e := .returned (.agg (arrC y _ _))) B4 rfl mf df hrf (B := BO) (fun b hb => Nat.le_of_lt (rm4 b hb)) (fun b hb => Nat.le_of_lt (rd2 b hb)) (by omega))
    unfold arrC at HO
    clear B4 Yf Y0 mf df
    go_wp2
    refine leaves_cons (f := 66) (args := #[]) (by simp) (by simp [go_sem]) ?_
    refine (catch_gone _).mono ?_
    rintro e u' w'' ⟨rfl, rfl, rfl⟩
    exact ⟨.agg #[.int .i64 y.id, .int .i64 y.n, .int .i64 y.s, .slice vm ns.length cvm, .int .i64 y.lost, .int .i64 y.built, .int .i64 y.seq, .int .i64 y.tail, .int .i64 y.gen, .slice vd ds.length cvd, .int .i64 y.fuse, .bool y.down, .bool y.broken], by simp [results, Tryz.results30, go_sem, s0, s1, s2, s3, s4, s5, s6, s7, s8, s9, s10, s11, s12], HO.out⟩

end Go.Proofs.YthkpkpclmemodaaGreat

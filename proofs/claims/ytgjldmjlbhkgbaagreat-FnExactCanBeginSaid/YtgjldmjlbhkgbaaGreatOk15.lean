/-
  What makes an engine right: what both sides answer of its jobs and its lengths, as plain definitions. No condition.
-/
import Derived.Test.YtgjldmjlbhkgbaaGreatEng15
import Derived.Test.YtgjldmjlbhkgbaaGreatWalkArrOk
import Derived.Test.YtgjldmjlbhkgbaaGreatWalkInts
namespace Go.Proofs.YtgjldmjlbhkgbaaGreat
open Go.RowKit

def codeD (gn gs : Int) (c : CmdD) : Int := codeC gn gs c.1 c.2.1 c.2.2.1 c.2.2.2.1 c.2.2.2.2
def spanD (gn gs : Int) (c : CmdD) : Int × Int := spanC gn gs c.1 c.2.1 c.2.2.1 c.2.2.2.1 c.2.2.2.2
/-- Whether two commands clash. -/
def clashD (gn gs : Int) (c c2 : CmdD) : Bool := metC (spanD gn gs c) (spanD gn gs c2)
def jobC (x : JobD) : CmdD := (x.1, x.2.1, x.2.2.1, x.2.2.2.1, x.2.2.2.2.1)
def gotB (gs : List Int) : Bool := allW gs && decide (gs.length ≤ 6)
def wentB (q : Int) : Bool := decide (q = 0) || inB q 4 7
def rightJ (gn gs : Int) (x : JobD) : Bool := decide (codeD gn gs (jobC x) = 0) && (inB x.2.2.2.2.2.1 0 40 && (gotB x.2.2.2.2.2.2.1 && wentB x.2.2.2.2.2.2.2))
/-- The job at i: right, and it clashes with none ahead of it. -/
def jobAt (gn gs : Int) (js : List JobD) (i : Nat) : Bool := match js[i]? with
  | some x => rightJ gn gs x && !((js.take i).any fun y => clashD gn gs (jobC y) (jobC x))
  | none => true
def jobsB (gn gs : Int) (js : List JobD) (n : Nat) : Bool := (List.range n).all (jobAt gn gs js)
def fewB (e : EngD) : Bool := decide (e.ws.length ≤ 8) && (decide (e.js.length ≤ 4) && (decide (e.an.length ≤ 8) && decide (e.ts.length ≤ 400)))
def engB (e : EngD) : Bool := arrB e.x e.ms e.ds && (fewB e && jobsB e.x.n e.x.s e.js e.js.length)

theorem jobsB_step {gn gs : Int} {js : List JobD} {n : Nat} (h : jobsB gn gs js n = true) (h1 : jobAt gn gs js n = true) : jobsB gn gs js (n + 1) = true := by
  unfold jobsB at *
  rw [List.range_succ, List.all_append, h]
  simp [h1]
theorem jobsB_fail {gn gs : Int} {js : List JobD} {n i : Nat} (hi : i < n) (h1 : jobAt gn gs js i = false) : jobsB gn gs js n = false := by
  unfold jobsB
  rw [List.all_eq_false]
  exact ⟨i, List.mem_range.2 hi, by simp [h1]⟩
theorem jobAt_eq {gn gs : Int} {js : List JobD} {i : Nat} {x : JobD} (h : js[i]? = some x) : jobAt gn gs js i = (rightJ gn gs x && !((js.take i).any fun y => clashD gn gs (jobC y) (jobC x))) := by unfold jobAt; rw [h]
theorem any_step {α : Type} {p : α → Bool} {l : List α} {j : Nat} {x : α} (h : l[j]? = some x) (hx : p x = false) (ht : (l.take j).any p = false) : (l.take (j + 1)).any p = false := by
  have hj := (List.getElem?_eq_some_iff.1 h).1
  rw [List.take_succ_eq_append_getElem hj, List.any_append, ht]
  rw [List.getElem?_eq_getElem hj] at h
  simp at h
  simp [h, hx]
theorem any_hit {α : Type} {p : α → Bool} {l : List α} {j : Nat} {x : α} (h : l[j]? = some x) (hx : p x = true) : l.any p = true := List.any_eq_true.2 ⟨x, List.mem_of_getElem? h, hx⟩
theorem sec_got {gs : List Int} : (secB gs && decide (gs.length ≤ 6)) = gotB gs := by
  unfold secB gotB
  by_cases h : gs.length ≤ 6
  · rw [decide_eq_true h, decide_eq_true (show gs.length ≤ 12 by omega)]; simp
  · rw [decide_eq_false h]; simp
theorem engB_arr {e : EngD} (h : arrB e.x e.ms e.ds = false) : engB e = false := by unfold engB; rw [h]; rfl
theorem engB_few {e : EngD} (h : fewB e = false) : engB e = false := by unfold engB; rw [h]; simp
theorem engB_job {e : EngD} (h : jobsB e.x.n e.x.s e.js e.js.length = false) : engB e = false := by unfold engB; rw [h]; simp

/-- Whether there is room for one job more. -/
def roomE (e : EngD) : Bool := decide (e.js.length < 4) && (decide (e.an.length + e.js.length < 8) && decide (e.ts.length + e.js.length < 400))
/-- Whether what waits at m clashes with no job, and with none that waits ahead. -/
def freeD (gn gs : Int) (js : List JobD) (ws : List CmdD) (m : Nat) (c : CmdD) : Bool := !(js.any fun y => clashD gn gs (jobC y) c) && !((ws.take m).any fun y => clashD gn gs y c)
def freeB (e : EngD) (m : Nat) : Bool := match e.ws[m]? with
  | some c => freeD e.x.n e.x.s e.js e.ws m c
  | none => true
def canB (e : EngD) (k : Int) : Bool := engB e && (inB k 0 ((e.ws.length : Int) - 1) && (roomE e && freeB e k.toNat))
theorem freeB_eq {e : EngD} {m : Nat} {c : CmdD} (h : e.ws[m]? = some c) : freeB e m = freeD e.x.n e.x.s e.js e.ws m c := by unfold freeB; rw [h]

end Go.Proofs.YtgjldmjlbhkgbaaGreat

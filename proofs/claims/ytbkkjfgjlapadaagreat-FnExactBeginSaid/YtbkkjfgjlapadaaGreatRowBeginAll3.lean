/-
  The walks of the program's look whether an array is right: disk by disk, entry by entry, and as a whole. Condition: it weighs at most 2097152.
-/
import Derived.Test.YtbkkjfgjlapadaaGreatEng15
import Derived.Test.YtbkkjfgjlapadaaGreatRowBeginAll4
import Derived.Test.YtbkkjfgjlapadaaGreatWalkInts
import Derived.Test.YtbkkjfgjlapadaaGreatWalkCmd
import Derived.Test.YtbkkjfgjlapadaaGreatData
import Derived.Test.YtbkkjfgjlapadaaGreatFrame
import Derived.Laws.AppendOwnNone
import Derived.Test.YtbkkjfgjlapadaaGreatCopy15
import Derived.Test.YtbkkjfgjlapadaaGreatSealC15
import Derived.Test.YtbkkjfgjlapadaaGreatHeldLoad15
import Derived.Deep.Cut
import Derived.Test.YtbkkjfgjlapadaaGreatCopy15b
import Derived.Test.YtbkkjfgjlapadaaGreatSl15
import Derived.Test.YtbkkjfgjlapadaaGreatCmdS14
import Derived.Test.YtbkkjfgjlapadaaGreatLate
import Derived.Test.YtbkkjfgjlapadaaGreatRows14
import Derived.Test.YtbkkjfgjlapadaaGreatHeld
import Derived.Deep.RegionLaw
import Derived.Test.YtbkkjfgjlapadaaGreatBox
import Derived.Test.YtbkkjfgjlapadaaGreatWalkGeo
import Derived.Test.YtbkkjfgjlapadaaGreatWalkIn

/-
  What makes an engine right: what both sides answer of its jobs and its lengths, as plain definitions. No condition.
-/
namespace Go.Proofs.YtbkkjfgjlapadaaGreat
open Go.RowKit

def codeD (gn gs : Int) (c : CmdD) : Int := codeC gn gs c.1 c.2.1 c.2.2.1 c.2.2.2.1 c.2.2.2.2
def spanD (gn gs : Int) (c : CmdD) : Int × Int := spanC gn gs c.1 c.2.1 c.2.2.1 c.2.2.2.1 c.2.2.2.2
/-- Whether two commands clash. -/
def clashD (gn gs : Int) (c c2 : CmdD) : Bool := metC (spanD gn gs c) (spanD gn gs c2)
def jobC (x : JobD) : CmdD := (x.1, x.2.1, x.2.2.1, x.2.2.2.1, x.2.2.2.2.1)
def gotB (gs : List Int) : Bool := allW gs && decide (gs.length ≤ 6)
def wentB (q : Int) : Bool := decide (q = 0) || inB q 4 7
def rightJ (gn gs : Int) (x : JobD) : Bool := decide (codeD gn gs (jobC x) = 0) && (inB x.2.2.2.2.2.1 0 40 && (gotB x.2.2.2.2.2.2.1 && wentB x.2.2.2.2.2.2.2))
/-- The job at i: right, and it clashes with none ahead of it. -/
def jobAt (gn gs : Int) (js : List JobD) (i : Nat) : Bool := match js[i]? with
  | some x => rightJ gn gs x && !((js.take i).any fun y => clashD gn gs (jobC y) (jobC x))
  | none => true
def jobsB (gn gs : Int) (js : List JobD) (n : Nat) : Bool := (List.range n).all (jobAt gn gs js)
def fewB (e : EngD) : Bool := decide (e.ws.length ≤ 8) && (decide (e.js.length ≤ 4) && (decide (e.an.length ≤ 8) && decide (e.ts.length ≤ 400)))
def engB (e : EngD) : Bool := arrB e.x e.ms e.ds && (fewB e && jobsB e.x.n e.x.s e.js e.js.length)

theorem jobsB_step {gn gs : Int} {js : List JobD} {n : Nat} (h : jobsB gn gs js n = true) (h1 : jobAt gn gs js n = true) : jobsB gn gs js (n + 1) = true := by
  unfold jobsB at *
  rw [List.range_succ, List.all_append, h]
  simp [h1]
theorem jobsB_fail {gn gs : Int} {js : List JobD} {n i : Nat} (hi : i < n) (h1 : jobAt gn gs js i = false) : jobsB gn gs js n = false := by
  unfold jobsB
  rw [List.all_eq_false]
  exact ⟨i, List.mem_range.2 hi, by simp [h1]⟩
theorem jobAt_eq {gn gs : Int} {js : List JobD} {i : Nat} {x : JobD} (h : js[i]? = some x) : jobAt gn gs js i = (rightJ gn gs x && !((js.take i).any fun y => clashD gn gs (jobC y) (jobC x))) := by unfold jobAt; rw [h]
theorem any_step {α : Type} {p : α → Bool} {l : List α} {j : Nat} {x : α} (h : l[j]? = some x) (hx : p x = false) (ht : (l.take j).any p = false) : (l.take (j + 1)).any p = false := by
  have hj := (List.getElem?_eq_some_iff.1 h).1
  rw [List.take_succ_eq_append_getElem hj, List.any_append, ht]
  rw [List.getElem?_eq_getElem hj] at h
  simp at h
  simp [h, hx]
theorem any_hit {α : Type} {p : α → Bool} {l : List α} {j : Nat} {x : α} (h : l[j]? = some x) (hx : p x = true) : l.any p = true := List.any_eq_true.2 ⟨x, List.mem_of_getElem? h, hx⟩
theorem sec_got {gs : List Int} : (secB gs && decide (gs.length ≤ 6)) = gotB gs := by
  unfold secB gotB
  by_cases h : gs.length ≤ 6
  · rw [decide_eq_true h, decide_eq_true (show gs.length ≤ 12 by omega)]; simp
  · rw [decide_eq_false h]; simp
theorem engB_arr {e : EngD} (h : arrB e.x e.ms e.ds = false) : engB e = false := by unfold engB; rw [h]; rfl
theorem engB_few {e : EngD} (h : fewB e = false) : engB e = false := by unfold engB; rw [h]; simp
theorem engB_job {e : EngD} (h : jobsB e.x.n e.x.s e.js e.js.length = false) : engB e = false := by unfold engB; rw [h]; simp

/-- Whether there is room for one job more. -/
def roomE (e : EngD) : Bool := decide (e.js.length < 4) && (decide (e.an.length + e.js.length < 8) && decide (e.ts.length + e.js.length < 400))
/-- Whether what waits at m clashes with no job, and with none that waits ahead. -/
def freeD (gn gs : Int) (js : List JobD) (ws : List CmdD) (m : Nat) (c : CmdD) : Bool := !(js.any fun y => clashD gn gs (jobC y) c) && !((ws.take m).any fun y => clashD gn gs y c)
def freeB (e : EngD) (m : Nat) : Bool := match e.ws[m]? with
  | some c => freeD e.x.n e.x.s e.js e.ws m c
  | none => true
def canB (e : EngD) (k : Int) : Bool := engB e && (inB k 0 ((e.ws.length : Int) - 1) && (roomE e && freeB e k.toNat))
theorem freeB_eq {e : EngD} {m : Nat} {c : CmdD} (h : e.ws[m]? = some c) : freeB e m = freeD e.x.n e.x.s e.js e.ws m c := by unfold freeB; rw [h]

end Go.Proofs.YtbkkjfgjlapadaaGreat

/-
  An engine in its box, its slices in memory of its own; what an answer and a beginning make of an engine. No condition.
-/
namespace Go.Proofs.YtbkkjfgjlapadaaGreat
open Go.RowKit

def EngAt (w : World) (N lo : Nat) (e : EngD) (F : List Nat) : Prop :=
  ∃ vm vd vw vj va vu f0 f1 f2 f3 f4 f5, F = f0 ++ (f1 ++ (f2 ++ (f3 ++ (f4 ++ f5)))) ∧ Box w N 35 (engC e.x vm vd vw vj va vu) ∧ EngP w lo w.heap.size e vm vd vw vj va vu f0 f1 f2 f3 f4 f5 ∧ N ∉ F
theorem mem_six {b : Nat} {f0 f1 f2 f3 f4 f5 : List Nat} : b ∈ f0 ++ (f1 ++ (f2 ++ (f3 ++ (f4 ++ f5)))) ↔ b ∈ f0 ∨ b ∈ f1 ∨ b ∈ f2 ∨ b ∈ f3 ∨ b ∈ f4 ∨ b ∈ f5 := by simp only [List.mem_append]
theorem not_six {b : Nat} {f0 f1 f2 f3 f4 f5 : List Nat} : b ∉ f0 ++ (f1 ++ (f2 ++ (f3 ++ (f4 ++ f5)))) ↔ b ∉ f0 ∧ b ∉ f1 ∧ b ∉ f2 ∧ b ∉ f3 ∧ b ∉ f4 ∧ b ∉ f5 := by simp only [List.mem_append, not_or]
theorem EngP.widen {w : World} {lo hi hi' : Nat} {e : EngD} {vm vd vw vj va vu : Value} {f0 f1 f2 f3 f4 f5 : List Nat} (h : EngP w lo hi e vm vd vw vj va vu f0 f1 f2 f3 f4 f5) (hh : hi ≤ hi') : EngP w lo hi' e vm vd vw vj va vu f0 f1 f2 f3 f4 f5 :=
  ⟨h.m0, h.m1, h.m2, h.m3, h.m4, h.m5, fun b hb => by have := h.r b hb; omega, h.d0, h.d1, h.d2, h.d3, h.d4⟩
/-- What an answer adds to an engine. -/
def ansE (e : EngD) (c : CmdD) (a : AnsD) : EngD := { e with an := e.an ++ [a], ts := e.ts ++ [(c.1, c.2.1, c.2.2.1, c.2.2.2.1, c.2.2.2.2, a.1, a.2.1, a.2.2)] }
def jobE (e : EngD) (c : CmdD) : EngD := { e with js := e.js ++ [(c.1, c.2.1, c.2.2.1, c.2.2.2.1, c.2.2.2.2, 0, [], 0)] }
def takeE (e : EngD) (k : Nat) : EngD := { e with ws := e.ws.eraseIdx k }
/-- What beginning the k-th command that waits makes of an engine. -/
def begC (e : EngD) (k : Nat) (c : CmdD) : EngD := if codeD e.x.n e.x.s c = 0 then jobE (takeE e k) c else ansE (takeE e k) c (c.2.1, codeD e.x.n e.x.s c, [])

end Go.Proofs.YtbkkjfgjlapadaaGreat

/-
  What the program answers of a command: how many blocks it has, its code, its span, and whether two clash. Condition: at most 2097152 words each.
-/
namespace Go.Proofs.YtbkkjfgjlapadaaGreat
open Go.RowKit

theorem opOk_any (w : World) (o : Int) : Calls Tryz.prog 207 #[.int .i64 o] w fun e w' => e = .returned (.bool (inB o 1 6)) ∧ w' = w := by
  go_enter Tryz.func207, Tryz.ntmps207
  go_wp2_with fail
  refine (within_any _ _ _ _).mono ?_
  rintro e w1 ⟨rfl, rfl⟩
  go_wp2
  go_ret
  exact ⟨rfl, rfl⟩

set_option maxHeartbeats 1600000 in
theorem roomOf_any (w : World) (o d b k : Int) (a : Option Addr) (n cap : Nat) (zs : List Int) (hz : zs.length = n) (hr : Reads .i64 w a zs) (hn : n ≤ 2097152) :
    Calls Tryz.prog 251 #[.agg #[.int .i64 o, .int .i64 d, .int .i64 b, .int .i64 k, .slice a n cap]] w fun e w' => e = .returned (.int .i64 (lenC o k zs)) ∧ Below w.heap.size w w' := by
  have hA := new_below w (.cells #[.int .i64 o, .int .i64 d, .int .i64 b, .int .i64 k, .slice a n cap] 38)
  have hr' := hr.below hA
  subst hz
  by_cases h1 : o = 1
  · subst h1
    go_enter Tryz.func251, Tryz.ntmps251
    go_wp2
    go_ret
    exact ⟨ret_int (len1 (.inl rfl)).symm, hA⟩
  · skip
    by_cases h6 : o = 6
    · subst h6
      go_enter Tryz.func251, Tryz.ntmps251
      go_wp2
      go_ret
      exact ⟨ret_int (len1 (.inr rfl)).symm, hA⟩
    · skip
      by_cases h2 : o = 2
      · subst h2
        go_enter Tryz.func251, Tryz.ntmps251
        go_wp2
        go_ret
        exact ⟨ret_int (len2 (.inl rfl)).symm, hA⟩
      · skip
        by_cases h3 : o = 3
        · subst h3
          go_enter Tryz.func251, Tryz.ntmps251
          go_wp2
          go_ret
          exact ⟨ret_int (len2 (.inr rfl)).symm, hA⟩
        · skip
          by_cases h5 : o = 5
          · subst h5
            go_enter Tryz.func251, Tryz.ntmps251
            go_wp2
            go_ret
            exact ⟨ret_int (len5).symm, hA⟩
          · skip
            have hl := len0 (k := k) (zs := zs) (by omega : ¬ (o = 1 ∨ o = 6)) (by omega : ¬ (o = 2 ∨ o = 3)) h5
            go_enter Tryz.func251, Tryz.ntmps251
            go_wp2
            go_ret
            exact ⟨ret_int hl.symm, hA⟩

theorem sec_bad {o k : Int} {zs : List Int} (h : o = 2 ∨ o = 3) (hq : secB zs = false) : sizeC o k zs = false := by
  rw [size2 h]
  cases hl : inB (zs.length : Int) 1 6
  · rfl
  · rw [← secB_six hl, hq]
    rfl
theorem sec_good {o k : Int} {zs : List Int} (h : o = 2 ∨ o = 3) (hq : secB zs = true) (hl : inB (lenC o k zs) 1 6 = true) : sizeC o k zs = true := by
  rw [len2 h] at hl
  rw [size2 h, hl, ← secB_six hl, hq]
  rfl
theorem size_long {o k : Int} {zs : List Int} (h : o = 2 ∨ o = 3) (hl : inB (lenC o k zs) 1 6 = false) : sizeC o k zs = false := by
  rw [len2 h] at hl
  rw [size2 h, hl]
  rfl
theorem five_never {k : Int} {zs : List Int} (h : inB (lenC 5 k zs) 1 6 = false) : sizeC 5 k zs = false := by
  rw [len5] at h
  exact absurd h (by decide)
theorem two_bad {k : Int} {zs : List Int} (hq : secB zs = false) : sizeC 5 k zs = false := by
  rw [size5]
  by_cases hl : zs.length = 2
  · rw [← secB_two hl, hq]
    simp
  · simp [hl]
theorem two_not {k : Int} {zs : List Int} (hl : ¬ zs.length = 2) : sizeC 5 k zs = false := by
  rw [size5]
  simp [hl]
theorem two_good {k : Int} {zs : List Int} (hl : zs.length = 2) (hq : secB zs = true) : sizeC 5 k zs = true := by
  rw [size5, ← secB_two hl, hq]
  simp [hl]

set_option maxHeartbeats 3200000 in
theorem roomCode_any (w : World) (gn gs : Int) (o d b k : Int) (a : Option Addr) (n cap : Nat) (zs : List Int) (hz : zs.length = n) (hr : Reads .i64 w a zs) (hn : n ≤ 2097152) (ho : inB o 1 6 = true) :
    Calls Tryz.prog 208 #[.agg #[.int .i64 gn, .int .i64 gs], .agg #[.int .i64 o, .int .i64 d, .int .i64 b, .int .i64 k, .slice a n cap]] w fun e w' => e = .returned (.int .i64 (restC gn gs o b k zs)) ∧ Below w.heap.size w w' := by
  have hA : Below w.heap.size w ((w.alloc (.cells #[.int .i64 gn, .int .i64 gs] 25)).alloc (.cells #[.int .i64 o, .int .i64 d, .int .i64 b, .int .i64 k, .slice a n cap] 38)) := (new_below w _).alloc (by simp) _
  have G : Box ((w.alloc (.cells #[.int .i64 gn, .int .i64 gs] 25)).alloc (.cells #[.int .i64 o, .int .i64 d, .int .i64 b, .int .i64 k, .slice a n cap] 38)) w.heap.size 25 #[.int .i64 gn, .int .i64 gs] := (Box.new w _ _).below (new_below _ _) (by simp)
  have X : Box ((w.alloc (.cells #[.int .i64 gn, .int .i64 gs] 25)).alloc (.cells #[.int .i64 o, .int .i64 d, .int .i64 b, .int .i64 k, .slice a n cap] 38)) (w.heap.size + 1) 38 #[.int .i64 o, .int .i64 d, .int .i64 b, .int .i64 k, .slice a n cap] := by
    have := Box.new (w.alloc (.cells #[.int .i64 gn, .int .i64 gs] 25)) 38 #[.int .i64 o, .int .i64 d, .int .i64 b, .int .i64 k, .slice a n cap]
    simpa using this
  have hr' := hr.below hA
  subst hz
  obtain ⟨g0, g1⟩ := G.cells2
  obtain ⟨c0, c1, c2, c3, c4⟩ := X.cells5
  rw [inB_iff] at ho
  by_cases h4 : o = 4
  · subst h4
    have HR := hidden (rest_flush (gn := gn) (gs := gs) (b := b) (k := k) (zs := zs))
    go_enter Tryz.func208, Tryz.ntmps208
    go_wp2
    go_ret
    exact ⟨ret_int HR.out.symm, hA⟩
  · by_cases h1 : o = 1
    · subst h1
      go_enter Tryz.func208, Tryz.ntmps208
      go_wp2_with fail
      generalize (w.alloc (.cells #[.int .i64 gn, .int .i64 gs] 25)).alloc (.cells #[.int .i64 1, .int .i64 d, .int .i64 b, .int .i64 k, .slice a zs.length cap] 38) = W0 at hA G X hr' g0 g1 c0 c1 c2 c3 c4 ⊢
      have B0 := hA
      have G0 := G
      have X0 := X
      have R0 := hr'
      clear hA G X hr' hr
      go_wp2_with fail
      refine (roomOf_any _ 1 d b k _ _ _ zs rfl R0 hn).mono ?_
      rintro e w1 ⟨rfl, b1⟩
      have B1 := Below.andThen B0 b1
      have G1 := G0.below b1 G0.lt
      have X1 := X0.below b1 X0.lt
      have R1 := R0.below b1
      clear g0 g1 c0 c1 c2 c3 c4
      obtain ⟨g0, g1⟩ := G1.cells2
      obtain ⟨c0, c1, c2, c3, c4⟩ := X1.cells5
      clear B0 G0 X0 R0 b1
      go_wp2_with fail
      refine (within_any _ _ _ _).mono ?_
      rintro e w2 ⟨rfl, hw⟩
      subst w2
      cases hl : inB (lenC 1 k zs) 1 6
      · have HR := hidden (rest_bad13 (gn := gn) (gs := gs) (b := b) ((size_room (o := 1) (k := k) (zs := zs) (.inl rfl)).trans hl))
        go_wp2
        go_ret
        exact ⟨ret_int HR.out.symm, B1⟩
      · have hs : sizeC 1 k zs = true := (size_room (o := 1) (k := k) (zs := zs) (.inl rfl)).trans hl
        have hbr := blocksN_range gn gs
        obtain ⟨hl0, hl1, _⟩ := size_len hs
        have zg := G1.lt
        have zx := X1.lt
        have hwr : IntKind.i64.wrap (blocksN gn gs - lenC 1 k zs) = blocksN gn gs - lenC 1 k zs := IntWalk.i64_in _ (by omega)
        go_wp2_with fail
        go_region_held3 (fun w' => w'.cell? ⟨w.heap.size, 0, none⟩ = some (.int .i64 gn) ∧ w'.cell? ⟨w.heap.size, 1, none⟩ = some (.int .i64 gs) ∧ w'.cell? ⟨w.heap.size + 1, 0, none⟩ = some (.int .i64 1) ∧ w'.cell? ⟨w.heap.size + 1, 1, none⟩ = some (.int .i64 d) ∧ w'.cell? ⟨w.heap.size + 1, 2, none⟩ = some (.int .i64 b) ∧ w'.cell? ⟨w.heap.size + 1, 3, none⟩ = some (.int .i64 k) ∧ w'.cell? ⟨w.heap.size + 1, 4, none⟩ = some (.slice a zs.length cap))
          (first | (exact ⟨(q3.cell (p := ⟨w.heap.size, 0, none⟩) zg).trans g0, (q3.cell (p := ⟨w.heap.size, 1, none⟩) zg).trans g1, (q3.cell (p := ⟨w.heap.size + 1, 0, none⟩) zx).trans c0, (q3.cell (p := ⟨w.heap.size + 1, 1, none⟩) zx).trans c1, (q3.cell (p := ⟨w.heap.size + 1, 2, none⟩) zx).trans c2, (q3.cell (p := ⟨w.heap.size + 1, 3, none⟩) zx).trans c3, (q3.cell (p := ⟨w.heap.size + 1, 4, none⟩) zx).trans c4⟩) | (exact ⟨(q2.cell (p := ⟨w.heap.size, 0, none⟩) zg).trans g0, (q2.cell (p := ⟨w.heap.size, 1, none⟩) zg).trans g1, (q2.cell (p := ⟨w.heap.size + 1, 0, none⟩) zx).trans c0, (q2.cell (p := ⟨w.heap.size + 1, 1, none⟩) zx).trans c1, (q2.cell (p := ⟨w.heap.size + 1, 2, none⟩) zx).trans c2, (q2.cell (p := ⟨w.heap.size + 1, 3, none⟩) zx).trans c3, (q2.cell (p := ⟨w.heap.size + 1, 4, none⟩) zx).trans c4⟩) | (exact ⟨g0, g1, c0, c1, c2, c3, c4⟩) | go_keep)
          (first | (go_at_call 74; refine (within_any _ _ _ _).mono ?_; rintro e w4 ⟨rfl, hw⟩; subst w4) | (go_at_call 251; refine (roomOf_any _ 1 d b k _ _ _ zs rfl (by exact R1.below q2) hn).mono ?_; rintro e w3 ⟨rfl, p3⟩; have q3 : Below w1.heap.size w1 w3 := Below.andThen q2 p3) | (go_at_call 252; refine (implBlocks_any _ _ _).mono ?_; rintro e w2 ⟨rfl, p2⟩; have q2 : Below w1.heap.size w1 w2 := (Below.refl w1.heap.size w1).drew.trans p2))
        cases hx : inB b 0 (blocksN gn gs - lenC 1 k zs)
        · have HR := hidden (rest_out hs (by omega) hx)
          go_wp2
          go_ret
          exact ⟨ret_int HR.out.symm, (Below.andThen B1 q3)⟩
        · have HR := hidden (rest_in hs hx)
          go_wp2
          go_ret
          exact ⟨ret_int HR.out.symm, (Below.andThen B1 q3)⟩
    · by_cases h6 : o = 6
      · subst h6
        go_enter Tryz.func208, Tryz.ntmps208
        go_wp2_with fail
        generalize (w.alloc (.cells #[.int .i64 gn, .int .i64 gs] 25)).alloc (.cells #[.int .i64 6, .int .i64 d, .int .i64 b, .int .i64 k, .slice a zs.length cap] 38) = W0 at hA G X hr' g0 g1 c0 c1 c2 c3 c4 ⊢
        have B0 := hA
        have G0 := G
        have X0 := X
        have R0 := hr'
        clear hA G X hr' hr
        go_wp2_with fail
        refine (roomOf_any _ 6 d b k _ _ _ zs rfl R0 hn).mono ?_
        rintro e w1 ⟨rfl, b1⟩
        have B1 := Below.andThen B0 b1
        have G1 := G0.below b1 G0.lt
        have X1 := X0.below b1 X0.lt
        have R1 := R0.below b1
        clear g0 g1 c0 c1 c2 c3 c4
        obtain ⟨g0, g1⟩ := G1.cells2
        obtain ⟨c0, c1, c2, c3, c4⟩ := X1.cells5
        clear B0 G0 X0 R0 b1
        go_wp2_with fail
        refine (within_any _ _ _ _).mono ?_
        rintro e w2 ⟨rfl, hw⟩
        subst w2
        cases hl : inB (lenC 6 k zs) 1 6
        · have HR := hidden (rest_bad13 (gn := gn) (gs := gs) (b := b) ((size_room (o := 6) (k := k) (zs := zs) (.inr rfl)).trans hl))
          go_wp2
          go_ret
          exact ⟨ret_int HR.out.symm, B1⟩
        · have hs : sizeC 6 k zs = true := (size_room (o := 6) (k := k) (zs := zs) (.inr rfl)).trans hl
          have hbr := blocksN_range gn gs
          obtain ⟨hl0, hl1, _⟩ := size_len hs
          have zg := G1.lt
          have zx := X1.lt
          have hwr : IntKind.i64.wrap (blocksN gn gs - lenC 6 k zs) = blocksN gn gs - lenC 6 k zs := IntWalk.i64_in _ (by omega)
          go_wp2_with fail
          go_region_held3 (fun w' => w'.cell? ⟨w.heap.size, 0, none⟩ = some (.int .i64 gn) ∧ w'.cell? ⟨w.heap.size, 1, none⟩ = some (.int .i64 gs) ∧ w'.cell? ⟨w.heap.size + 1, 0, none⟩ = some (.int .i64 6) ∧ w'.cell? ⟨w.heap.size + 1, 1, none⟩ = some (.int .i64 d) ∧ w'.cell? ⟨w.heap.size + 1, 2, none⟩ = some (.int .i64 b) ∧ w'.cell? ⟨w.heap.size + 1, 3, none⟩ = some (.int .i64 k) ∧ w'.cell? ⟨w.heap.size + 1, 4, none⟩ = some (.slice a zs.length cap))
            (first | (exact ⟨(q3.cell (p := ⟨w.heap.size, 0, none⟩) zg).trans g0, (q3.cell (p := ⟨w.heap.size, 1, none⟩) zg).trans g1, (q3.cell (p := ⟨w.heap.size + 1, 0, none⟩) zx).trans c0, (q3.cell (p := ⟨w.heap.size + 1, 1, none⟩) zx).trans c1, (q3.cell (p := ⟨w.heap.size + 1, 2, none⟩) zx).trans c2, (q3.cell (p := ⟨w.heap.size + 1, 3, none⟩) zx).trans c3, (q3.cell (p := ⟨w.heap.size + 1, 4, none⟩) zx).trans c4⟩) | (exact ⟨(q2.cell (p := ⟨w.heap.size, 0, none⟩) zg).trans g0, (q2.cell (p := ⟨w.heap.size, 1, none⟩) zg).trans g1, (q2.cell (p := ⟨w.heap.size + 1, 0, none⟩) zx).trans c0, (q2.cell (p := ⟨w.heap.size + 1, 1, none⟩) zx).trans c1, (q2.cell (p := ⟨w.heap.size + 1, 2, none⟩) zx).trans c2, (q2.cell (p := ⟨w.heap.size + 1, 3, none⟩) zx).trans c3, (q2.cell (p := ⟨w.heap.size + 1, 4, none⟩) zx).trans c4⟩) | (exact ⟨g0, g1, c0, c1, c2, c3, c4⟩) | go_keep)
            (first | (go_at_call 74; refine (within_any _ _ _ _).mono ?_; rintro e w4 ⟨rfl, hw⟩; subst w4) | (go_at_call 251; refine (roomOf_any _ 6 d b k _ _ _ zs rfl (by exact R1.below q2) hn).mono ?_; rintro e w3 ⟨rfl, p3⟩; have q3 : Below w1.heap.size w1 w3 := Below.andThen q2 p3) | (go_at_call 252; refine (implBlocks_any _ _ _).mono ?_; rintro e w2 ⟨rfl, p2⟩; have q2 : Below w1.heap.size w1 w2 := (Below.refl w1.heap.size w1).drew.trans p2))
          cases hx : inB b 0 (blocksN gn gs - lenC 6 k zs)
          · have HR := hidden (rest_out hs (by omega) hx)
            go_wp2
            go_ret
            exact ⟨ret_int HR.out.symm, (Below.andThen B1 q3)⟩
          · have HR := hidden (rest_in hs hx)
            go_wp2
            go_ret
            exact ⟨ret_int HR.out.symm, (Below.andThen B1 q3)⟩
      · by_cases h2 : o = 2
        · subst h2
          go_enter Tryz.func208, Tryz.ntmps208
          go_wp2_with fail
          generalize (w.alloc (.cells #[.int .i64 gn, .int .i64 gs] 25)).alloc (.cells #[.int .i64 2, .int .i64 d, .int .i64 b, .int .i64 k, .slice a zs.length cap] 38) = W0 at hA G X hr' g0 g1 c0 c1 c2 c3 c4 ⊢
          have B0 := hA
          have G0 := G
          have X0 := X
          have R0 := hr'
          clear hA G X hr' hr
          go_wp2_with fail
          refine (implSecOk_any _ _ _ _ zs rfl R0 hn).mono ?_
          rintro e w1 ⟨rfl, s1⟩
          have B1 := Below.andSame B0 s1
          have G1 := G0.same s1
          have X1 := X0.same s1
          have R1 := R0.same s1
          clear g0 g1 c0 c1 c2 c3 c4
          obtain ⟨g0, g1⟩ := G1.cells2
          obtain ⟨c0, c1, c2, c3, c4⟩ := X1.cells5
          clear B0 G0 X0 R0 s1
          cases hq : secB zs
          · have HR := hidden (rest_bad13 (gn := gn) (gs := gs) (b := b) (sec_bad (k := k) (.inl rfl) hq))
            go_wp2
            go_ret
            exact ⟨ret_int HR.out.symm, B1⟩
          · skip
            go_wp2_with fail
            refine (roomOf_any _ 2 d b k _ _ _ zs rfl R1 hn).mono ?_
            rintro e w2 ⟨rfl, b2⟩
            have B2 := Below.andThen B1 b2
            have G2 := G1.below b2 G1.lt
            have X2 := X1.below b2 X1.lt
            have R2 := R1.below b2
            clear g0 g1 c0 c1 c2 c3 c4
            obtain ⟨g0, g1⟩ := G2.cells2
            obtain ⟨c0, c1, c2, c3, c4⟩ := X2.cells5
            clear B1 G1 X1 R1 b2
            go_wp2_with fail
            refine (within_any _ _ _ _).mono ?_
            rintro e w3 ⟨rfl, hw⟩
            subst w3
            cases hl : inB (lenC 2 k zs) 1 6
            · have HR := hidden (rest_bad13 (gn := gn) (gs := gs) (b := b) (size_long (k := k) (.inl rfl) hl))
              go_wp2
              go_ret
              exact ⟨ret_int HR.out.symm, B2⟩
            · have hs : sizeC 2 k zs = true := sec_good (k := k) (.inl rfl) hq hl
              have hbr := blocksN_range gn gs
              obtain ⟨hl0, hl1, _⟩ := size_len hs
              have zg := G2.lt
              have zx := X2.lt
              have hwr : IntKind.i64.wrap (blocksN gn gs - lenC 2 k zs) = blocksN gn gs - lenC 2 k zs := IntWalk.i64_in _ (by omega)
              go_wp2_with fail
              go_region_held3 (fun w' => w'.cell? ⟨w.heap.size, 0, none⟩ = some (.int .i64 gn) ∧ w'.cell? ⟨w.heap.size, 1, none⟩ = some (.int .i64 gs) ∧ w'.cell? ⟨w.heap.size + 1, 0, none⟩ = some (.int .i64 2) ∧ w'.cell? ⟨w.heap.size + 1, 1, none⟩ = some (.int .i64 d) ∧ w'.cell? ⟨w.heap.size + 1, 2, none⟩ = some (.int .i64 b) ∧ w'.cell? ⟨w.heap.size + 1, 3, none⟩ = some (.int .i64 k) ∧ w'.cell? ⟨w.heap.size + 1, 4, none⟩ = some (.slice a zs.length cap))
                (first | (exact ⟨(q4.cell (p := ⟨w.heap.size, 0, none⟩) zg).trans g0, (q4.cell (p := ⟨w.heap.size, 1, none⟩) zg).trans g1, (q4.cell (p := ⟨w.heap.size + 1, 0, none⟩) zx).trans c0, (q4.cell (p := ⟨w.heap.size + 1, 1, none⟩) zx).trans c1, (q4.cell (p := ⟨w.heap.size + 1, 2, none⟩) zx).trans c2, (q4.cell (p := ⟨w.heap.size + 1, 3, none⟩) zx).trans c3, (q4.cell (p := ⟨w.heap.size + 1, 4, none⟩) zx).trans c4⟩) | (exact ⟨(q3.cell (p := ⟨w.heap.size, 0, none⟩) zg).trans g0, (q3.cell (p := ⟨w.heap.size, 1, none⟩) zg).trans g1, (q3.cell (p := ⟨w.heap.size + 1, 0, none⟩) zx).trans c0, (q3.cell (p := ⟨w.heap.size + 1, 1, none⟩) zx).trans c1, (q3.cell (p := ⟨w.heap.size + 1, 2, none⟩) zx).trans c2, (q3.cell (p := ⟨w.heap.size + 1, 3, none⟩) zx).trans c3, (q3.cell (p := ⟨w.heap.size + 1, 4, none⟩) zx).trans c4⟩) | (exact ⟨g0, g1, c0, c1, c2, c3, c4⟩) | go_keep)
                (first | (go_at_call 74; refine (within_any _ _ _ _).mono ?_; rintro e w5 ⟨rfl, hw⟩; subst w5) | (go_at_call 251; refine (roomOf_any _ 2 d b k _ _ _ zs rfl (by exact R2.below q3) hn).mono ?_; rintro e w4 ⟨rfl, p4⟩; have q4 : Below w2.heap.size w2 w4 := Below.andThen q3 p4) | (go_at_call 252; refine (implBlocks_any _ _ _).mono ?_; rintro e w3 ⟨rfl, p3⟩; have q3 : Below w2.heap.size w2 w3 := (Below.refl w2.heap.size w2).drew.trans p3))
              cases hx : inB b 0 (blocksN gn gs - lenC 2 k zs)
              · have HR := hidden (rest_out hs (by omega) hx)
                go_wp2
                go_ret
                exact ⟨ret_int HR.out.symm, (Below.andThen B2 q4)⟩
              · have HR := hidden (rest_in hs hx)
                go_wp2
                go_ret
                exact ⟨ret_int HR.out.symm, (Below.andThen B2 q4)⟩
        · by_cases h3 : o = 3
          · subst h3
            go_enter Tryz.func208, Tryz.ntmps208
            go_wp2_with fail
            generalize (w.alloc (.cells #[.int .i64 gn, .int .i64 gs] 25)).alloc (.cells #[.int .i64 3, .int .i64 d, .int .i64 b, .int .i64 k, .slice a zs.length cap] 38) = W0 at hA G X hr' g0 g1 c0 c1 c2 c3 c4 ⊢
            have B0 := hA
            have G0 := G
            have X0 := X
            have R0 := hr'
            clear hA G X hr' hr
            go_wp2_with fail
            refine (implSecOk_any _ _ _ _ zs rfl R0 hn).mono ?_
            rintro e w1 ⟨rfl, s1⟩
            have B1 := Below.andSame B0 s1
            have G1 := G0.same s1
            have X1 := X0.same s1
            have R1 := R0.same s1
            clear g0 g1 c0 c1 c2 c3 c4
            obtain ⟨g0, g1⟩ := G1.cells2
            obtain ⟨c0, c1, c2, c3, c4⟩ := X1.cells5
            clear B0 G0 X0 R0 s1
            cases hq : secB zs
            · have HR := hidden (rest_bad13 (gn := gn) (gs := gs) (b := b) (sec_bad (k := k) (.inr rfl) hq))
              go_wp2
              go_ret
              exact ⟨ret_int HR.out.symm, B1⟩
            · skip
              go_wp2_with fail
              refine (roomOf_any _ 3 d b k _ _ _ zs rfl R1 hn).mono ?_
              rintro e w2 ⟨rfl, b2⟩
              have B2 := Below.andThen B1 b2
              have G2 := G1.below b2 G1.lt
              have X2 := X1.below b2 X1.lt
              have R2 := R1.below b2
              clear g0 g1 c0 c1 c2 c3 c4
              obtain ⟨g0, g1⟩ := G2.cells2
              obtain ⟨c0, c1, c2, c3, c4⟩ := X2.cells5
              clear B1 G1 X1 R1 b2
              go_wp2_with fail
              refine (within_any _ _ _ _).mono ?_
              rintro e w3 ⟨rfl, hw⟩
              subst w3
              cases hl : inB (lenC 3 k zs) 1 6
              · have HR := hidden (rest_bad13 (gn := gn) (gs := gs) (b := b) (size_long (k := k) (.inr rfl) hl))
                go_wp2
                go_ret
                exact ⟨ret_int HR.out.symm, B2⟩
              · have hs : sizeC 3 k zs = true := sec_good (k := k) (.inr rfl) hq hl
                have hbr := blocksN_range gn gs
                obtain ⟨hl0, hl1, _⟩ := size_len hs
                have zg := G2.lt
                have zx := X2.lt
                have hwr : IntKind.i64.wrap (blocksN gn gs - lenC 3 k zs) = blocksN gn gs - lenC 3 k zs := IntWalk.i64_in _ (by omega)
                go_wp2_with fail
                go_region_held3 (fun w' => w'.cell? ⟨w.heap.size, 0, none⟩ = some (.int .i64 gn) ∧ w'.cell? ⟨w.heap.size, 1, none⟩ = some (.int .i64 gs) ∧ w'.cell? ⟨w.heap.size + 1, 0, none⟩ = some (.int .i64 3) ∧ w'.cell? ⟨w.heap.size + 1, 1, none⟩ = some (.int .i64 d) ∧ w'.cell? ⟨w.heap.size + 1, 2, none⟩ = some (.int .i64 b) ∧ w'.cell? ⟨w.heap.size + 1, 3, none⟩ = some (.int .i64 k) ∧ w'.cell? ⟨w.heap.size + 1, 4, none⟩ = some (.slice a zs.length cap))
                  (first | (exact ⟨(q4.cell (p := ⟨w.heap.size, 0, none⟩) zg).trans g0, (q4.cell (p := ⟨w.heap.size, 1, none⟩) zg).trans g1, (q4.cell (p := ⟨w.heap.size + 1, 0, none⟩) zx).trans c0, (q4.cell (p := ⟨w.heap.size + 1, 1, none⟩) zx).trans c1, (q4.cell (p := ⟨w.heap.size + 1, 2, none⟩) zx).trans c2, (q4.cell (p := ⟨w.heap.size + 1, 3, none⟩) zx).trans c3, (q4.cell (p := ⟨w.heap.size + 1, 4, none⟩) zx).trans c4⟩) | (exact ⟨(q3.cell (p := ⟨w.heap.size, 0, none⟩) zg).trans g0, (q3.cell (p := ⟨w.heap.size, 1, none⟩) zg).trans g1, (q3.cell (p := ⟨w.heap.size + 1, 0, none⟩) zx).trans c0, (q3.cell (p := ⟨w.heap.size + 1, 1, none⟩) zx).trans c1, (q3.cell (p := ⟨w.heap.size + 1, 2, none⟩) zx).trans c2, (q3.cell (p := ⟨w.heap.size + 1, 3, none⟩) zx).trans c3, (q3.cell (p := ⟨w.heap.size + 1, 4, none⟩) zx).trans c4⟩) | (exact ⟨g0, g1, c0, c1, c2, c3, c4⟩) | go_keep)
                  (first | (go_at_call 74; refine (within_any _ _ _ _).mono ?_; rintro e w5 ⟨rfl, hw⟩; subst w5) | (go_at_call 251; refine (roomOf_any _ 3 d b k _ _ _ zs rfl (by exact R2.below q3) hn).mono ?_; rintro e w4 ⟨rfl, p4⟩; have q4 : Below w2.heap.size w2 w4 := Below.andThen q3 p4) | (go_at_call 252; refine (implBlocks_any _ _ _).mono ?_; rintro e w3 ⟨rfl, p3⟩; have q3 : Below w2.heap.size w2 w3 := (Below.refl w2.heap.size w2).drew.trans p3))
                cases hx : inB b 0 (blocksN gn gs - lenC 3 k zs)
                · have HR := hidden (rest_out hs (by omega) hx)
                  go_wp2
                  go_ret
                  exact ⟨ret_int HR.out.symm, (Below.andThen B2 q4)⟩
                · have HR := hidden (rest_in hs hx)
                  go_wp2
                  go_ret
                  exact ⟨ret_int HR.out.symm, (Below.andThen B2 q4)⟩
          · obtain rfl : o = 5 := by omega
            go_enter Tryz.func208, Tryz.ntmps208
            by_cases hl2 : zs.length = 2
            · obtain ⟨hd, hd'⟩ := two_len hl2
              have HQ := hidden (secB_two hl2)
              have HL := hidden hl2
              clear hl2
              go_wp2_with fail
              generalize (w.alloc (.cells #[.int .i64 gn, .int .i64 gs] 25)).alloc (.cells #[.int .i64 5, .int .i64 d, .int .i64 b, .int .i64 k, .slice a zs.length cap] 38) = W0 at hA G X hr' g0 g1 c0 c1 c2 c3 c4 ⊢
              have B0 := hA
              have G0 := G
              have X0 := X
              have R0 := hr'
              clear hA G X hr' hr
              refine (implSecOk_any _ _ _ _ zs rfl R0 hn).mono ?_
              rintro e w1 ⟨rfl, s1⟩
              have B1 := Below.andSame B0 s1
              have G1 := G0.same s1
              have X1 := X0.same s1
              have R1 := R0.same s1
              clear g0 g1 c0 c1 c2 c3 c4
              obtain ⟨g0, g1⟩ := G1.cells2
              obtain ⟨c0, c1, c2, c3, c4⟩ := X1.cells5
              clear B0 G0 X0 R0 s1
              cases hq : secB zs
              · have HR := hidden (rest_bad13 (gn := gn) (gs := gs) (b := b) (two_bad (k := k) hq))
                go_wp2
                go_ret
                exact ⟨ret_int HR.out.symm, B1⟩
              · have hs0 := two_good (k := k) HL.out hq
                go_wp2_with fail
                refine (roomOf_any _ 5 d b k _ _ _ zs rfl R1 hn).mono ?_
                rintro e w2 ⟨rfl, b2⟩
                have B2 := Below.andThen B1 b2
                have G2 := G1.below b2 G1.lt
                have X2 := X1.below b2 X1.lt
                have R2 := R1.below b2
                clear g0 g1 c0 c1 c2 c3 c4
                obtain ⟨g0, g1⟩ := G2.cells2
                obtain ⟨c0, c1, c2, c3, c4⟩ := X2.cells5
                clear B1 G1 X1 R1 b2
                go_wp2_with fail
                refine (within_any _ _ _ _).mono ?_
                rintro e w3 ⟨rfl, hw⟩
                subst w3
                cases hl : inB (lenC 5 k zs) 1 6
                · have HR := hidden (rest_bad13 (gn := gn) (gs := gs) (b := b) (five_never hl))
                  go_wp2
                  go_ret
                  exact ⟨ret_int HR.out.symm, B2⟩
                · have hs : sizeC 5 k zs = true := hs0
                  have hbr := blocksN_range gn gs
                  obtain ⟨hl0, hl1, _⟩ := size_len hs
                  have zg := G2.lt
                  have zx := X2.lt
                  have hwr : IntKind.i64.wrap (blocksN gn gs - lenC 5 k zs) = blocksN gn gs - lenC 5 k zs := IntWalk.i64_in _ (by omega)
                  go_wp2_with fail
                  go_region_held3 (fun w' => w'.cell? ⟨w.heap.size, 0, none⟩ = some (.int .i64 gn) ∧ w'.cell? ⟨w.heap.size, 1, none⟩ = some (.int .i64 gs) ∧ w'.cell? ⟨w.heap.size + 1, 0, none⟩ = some (.int .i64 5) ∧ w'.cell? ⟨w.heap.size + 1, 1, none⟩ = some (.int .i64 d) ∧ w'.cell? ⟨w.heap.size + 1, 2, none⟩ = some (.int .i64 b) ∧ w'.cell? ⟨w.heap.size + 1, 3, none⟩ = some (.int .i64 k) ∧ w'.cell? ⟨w.heap.size + 1, 4, none⟩ = some (.slice a zs.length cap))
                    (first | (exact ⟨(q4.cell (p := ⟨w.heap.size, 0, none⟩) zg).trans g0, (q4.cell (p := ⟨w.heap.size, 1, none⟩) zg).trans g1, (q4.cell (p := ⟨w.heap.size + 1, 0, none⟩) zx).trans c0, (q4.cell (p := ⟨w.heap.size + 1, 1, none⟩) zx).trans c1, (q4.cell (p := ⟨w.heap.size + 1, 2, none⟩) zx).trans c2, (q4.cell (p := ⟨w.heap.size + 1, 3, none⟩) zx).trans c3, (q4.cell (p := ⟨w.heap.size + 1, 4, none⟩) zx).trans c4⟩) | (exact ⟨(q3.cell (p := ⟨w.heap.size, 0, none⟩) zg).trans g0, (q3.cell (p := ⟨w.heap.size, 1, none⟩) zg).trans g1, (q3.cell (p := ⟨w.heap.size + 1, 0, none⟩) zx).trans c0, (q3.cell (p := ⟨w.heap.size + 1, 1, none⟩) zx).trans c1, (q3.cell (p := ⟨w.heap.size + 1, 2, none⟩) zx).trans c2, (q3.cell (p := ⟨w.heap.size + 1, 3, none⟩) zx).trans c3, (q3.cell (p := ⟨w.heap.size + 1, 4, none⟩) zx).trans c4⟩) | (exact ⟨g0, g1, c0, c1, c2, c3, c4⟩) | go_keep)
                    (first | (go_at_call 74; refine (within_any _ _ _ _).mono ?_; rintro e w5 ⟨rfl, hw⟩; subst w5) | (go_at_call 251; refine (roomOf_any _ 5 d b k _ _ _ zs rfl (by exact R2.below q3) hn).mono ?_; rintro e w4 ⟨rfl, p4⟩; have q4 : Below w2.heap.size w2 w4 := Below.andThen q3 p4) | (go_at_call 252; refine (implBlocks_any _ _ _).mono ?_; rintro e w3 ⟨rfl, p3⟩; have q3 : Below w2.heap.size w2 w3 := (Below.refl w2.heap.size w2).drew.trans p3))
                  cases hx : inB b 0 (blocksN gn gs - lenC 5 k zs)
                  · have HR := hidden (rest_out hs (by omega) hx)
                    go_wp2
                    go_ret
                    exact ⟨ret_int HR.out.symm, (Below.andThen B2 q4)⟩
                  · have HR := hidden (rest_in hs hx)
                    go_wp2
                    go_ret
                    exact ⟨ret_int HR.out.symm, (Below.andThen B2 q4)⟩
            · obtain ⟨hd, hd'⟩ := two_len' hl2
              have HR := hidden (rest_bad13 (gn := gn) (gs := gs) (b := b) (two_not (k := k) hl2))
              go_wp2
              go_ret
              exact ⟨ret_int HR.out.symm, hA⟩

set_option maxHeartbeats 3200000 in
theorem implCmdCode_any (w : World) (gn gs : Int) (o d b k : Int) (a : Option Addr) (n cap : Nat) (zs : List Int) (hz : zs.length = n) (hr : Reads .i64 w a zs) (hn : n ≤ 2097152) :
    Calls Tryz.prog 143 #[.agg #[.int .i64 gn, .int .i64 gs], .agg #[.int .i64 o, .int .i64 d, .int .i64 b, .int .i64 k, .slice a n cap]] w fun e w' => e = .returned (.int .i64 (codeC gn gs o d b k zs)) ∧ Below w.heap.size w w' := by
  have hA : Below w.heap.size w ((w.alloc (.cells #[.int .i64 gn, .int .i64 gs] 25)).alloc (.cells #[.int .i64 o, .int .i64 d, .int .i64 b, .int .i64 k, .slice a n cap] 38)) := (new_below w _).alloc (by simp) _
  have G : Box ((w.alloc (.cells #[.int .i64 gn, .int .i64 gs] 25)).alloc (.cells #[.int .i64 o, .int .i64 d, .int .i64 b, .int .i64 k, .slice a n cap] 38)) w.heap.size 25 #[.int .i64 gn, .int .i64 gs] := (Box.new w _ _).below (new_below _ _) (by simp)
  have X : Box ((w.alloc (.cells #[.int .i64 gn, .int .i64 gs] 25)).alloc (.cells #[.int .i64 o, .int .i64 d, .int .i64 b, .int .i64 k, .slice a n cap] 38)) (w.heap.size + 1) 38 #[.int .i64 o, .int .i64 d, .int .i64 b, .int .i64 k, .slice a n cap] := by
    have := Box.new (w.alloc (.cells #[.int .i64 gn, .int .i64 gs] 25)) 38 #[.int .i64 o, .int .i64 d, .int .i64 b, .int .i64 k, .slice a n cap]
    simpa using this
  have hr' := hr.below hA
  subst hz
  obtain ⟨g0, g1⟩ := G.cells2
  obtain ⟨c0, c1, c2, c3, c4⟩ := X.cells5
  go_enter Tryz.func143, Tryz.ntmps143
  go_wp2_with fail
  generalize (w.alloc (.cells #[.int .i64 gn, .int .i64 gs] 25)).alloc (.cells #[.int .i64 o, .int .i64 d, .int .i64 b, .int .i64 k, .slice a zs.length cap] 38) = W0 at hA G X hr' g0 g1 c0 c1 c2 c3 c4 ⊢
  have B0 := hA
  have G0 := G
  have X0 := X
  have R0 := hr'
  clear hA G X hr' hr
  go_wp2_with fail
  refine (implGeoOk_any _ _ _).mono ?_
  rintro e w1 ⟨rfl, b1⟩
  have B1 := Below.andThen B0 b1
  have G1 := G0.below b1 G0.lt
  have X1 := X0.below b1 X0.lt
  have R1 := R0.below b1
  clear g0 g1 c0 c1 c2 c3 c4
  obtain ⟨g0, g1⟩ := G1.cells2
  obtain ⟨c0, c1, c2, c3, c4⟩ := X1.cells5
  clear B0 G0 X0 R0 b1
  cases hg : geoB gn gs
  · have HF := hidden (code_form (b := b) (k := k) (zs := zs) (form_geo (o := o) (d := d) hg))
    go_wp2
    go_ret
    exact ⟨ret_int HF.out.symm, B1⟩
  · skip
    go_wp2_with fail
    refine (opOk_any _ _).mono ?_
    rintro e w2 ⟨rfl, hw⟩
    subst w2
    cases ho : inB o 1 6
    · have HF := hidden (code_form (b := b) (k := k) (zs := zs) (form_op (gn := gn) (gs := gs) (d := d) ho))
      go_wp2
      go_ret
      exact ⟨ret_int HF.out.symm, B1⟩
    · skip
      go_wp2_with fail
      refine (within_any _ _ _ _).mono ?_
      rintro e w3 ⟨rfl, hw⟩
      subst w3
      cases hi : inB d 1 999
      · have HF := hidden (code_form (b := b) (k := k) (zs := zs) (form_id (gn := gn) (gs := gs) (o := o) hi))
        go_wp2
        go_ret
        exact ⟨ret_int HF.out.symm, B1⟩
      · have HC := hidden (code_rest (b := b) (k := k) (zs := zs) (form_all hg ho hi))
        go_wp2_with fail
        refine (roomCode_any _ gn gs o d b k _ _ _ zs rfl R1 hn ho).mono ?_
        rintro e w4 ⟨rfl, b4⟩
        go_wp2
        go_ret
        exact ⟨ret_int HC.out.symm, (Below.andThen B1 b4)⟩

set_option maxHeartbeats 3200000 in
theorem implSpanOf_any (w : World) (gn gs : Int) (o d b k : Int) (a : Option Addr) (n cap : Nat) (zs : List Int) (hz : zs.length = n) (hr : Reads .i64 w a zs) (hn : n ≤ 2097152) :
    Calls Tryz.prog 225 #[.agg #[.int .i64 gn, .int .i64 gs], .agg #[.int .i64 o, .int .i64 d, .int .i64 b, .int .i64 k, .slice a n cap]] w fun e w' => e = .returned (.tuple #[.int .i64 (spanC gn gs o d b k zs).1, .int .i64 (spanC gn gs o d b k zs).2]) ∧ Below w.heap.size w w' := by
  have hA : Below w.heap.size w ((w.alloc (.cells #[.int .i64 gn, .int .i64 gs] 25)).alloc (.cells #[.int .i64 o, .int .i64 d, .int .i64 b, .int .i64 k, .slice a n cap] 38)) := (new_below w _).alloc (by simp) _
  have G : Box ((w.alloc (.cells #[.int .i64 gn, .int .i64 gs] 25)).alloc (.cells #[.int .i64 o, .int .i64 d, .int .i64 b, .int .i64 k, .slice a n cap] 38)) w.heap.size 25 #[.int .i64 gn, .int .i64 gs] := (Box.new w _ _).below (new_below _ _) (by simp)
  have X : Box ((w.alloc (.cells #[.int .i64 gn, .int .i64 gs] 25)).alloc (.cells #[.int .i64 o, .int .i64 d, .int .i64 b, .int .i64 k, .slice a n cap] 38)) (w.heap.size + 1) 38 #[.int .i64 o, .int .i64 d, .int .i64 b, .int .i64 k, .slice a n cap] := by
    have := Box.new (w.alloc (.cells #[.int .i64 gn, .int .i64 gs] 25)) 38 #[.int .i64 o, .int .i64 d, .int .i64 b, .int .i64 k, .slice a n cap]
    simpa using this
  have hr' := hr.below hA
  subst hz
  obtain ⟨g0, g1⟩ := G.cells2
  obtain ⟨c0, c1, c2, c3, c4⟩ := X.cells5
  go_enter Tryz.func225, Tryz.ntmps225
  go_wp2_with fail
  generalize (w.alloc (.cells #[.int .i64 gn, .int .i64 gs] 25)).alloc (.cells #[.int .i64 o, .int .i64 d, .int .i64 b, .int .i64 k, .slice a zs.length cap] 38) = W0 at hA G X hr' g0 g1 c0 c1 c2 c3 c4 ⊢
  have B0 := hA
  have G0 := G
  have X0 := X
  have R0 := hr'
  clear hA G X hr' hr
  go_wp2_with fail
  refine (implCmdCode_any _ gn gs o d b k _ _ _ zs rfl R0 hn).mono ?_
  rintro e w1 ⟨rfl, b1⟩
  have B1 := Below.andThen B0 b1
  have G1 := G0.below b1 G0.lt
  have X1 := X0.below b1 X0.lt
  have R1 := R0.below b1
  clear g0 g1 c0 c1 c2 c3 c4
  obtain ⟨g0, g1⟩ := G1.cells2
  obtain ⟨c0, c1, c2, c3, c4⟩ := X1.cells5
  clear B0 G0 X0 R0 b1
  by_cases hc : codeC gn gs o d b k zs = 0
  · have hcb : (codeC gn gs o d b k zs == 0) = true := by simpa using hc
    by_cases h4 : o = 4
    · subst h4
      have HS := hidden (span_flush hc)
      go_wp2_with fail
      refine (implBlocks_any _ _ _).mono ?_
      rintro e w2 ⟨rfl, b2⟩
      have B2 := Below.andThen B1 b2
      go_wp2
      refine bodyPost_ret (v := .tuple #[.int .i64 0, .int .i64 (blocksN gn gs)]) (by simp [results, Tryz.results225, go_sem]) rfl ?_
      exact ⟨by rw [HS.out], B2⟩
    · have HS := hidden (span_own hc h4)
      obtain ⟨_, hsz, hro⟩ := code_good13 hc
      have hro' : 0 ≤ b ∧ b + lenC o k zs ≤ blocksN gn gs := hro.resolve_left h4
      have hwr : IntKind.i64.wrap (b + lenC o k zs) = b + lenC o k zs := IntWalk.i64_in _ (by have := (size_len hsz).1; have := blocksN_range gn gs; omega)
      have hbr := blocksN_range gn gs
      obtain ⟨hl0, hl1, _⟩ := size_len hsz
      have zg := G1.lt
      have zx := X1.lt
      clear hro
      go_wp2_with fail
      go_region_held3 (fun w' => w'.cell? ⟨w.heap.size, 0, none⟩ = some (.int .i64 gn) ∧ w'.cell? ⟨w.heap.size, 1, none⟩ = some (.int .i64 gs) ∧ w'.cell? ⟨w.heap.size + 1, 0, none⟩ = some (.int .i64 o) ∧ w'.cell? ⟨w.heap.size + 1, 1, none⟩ = some (.int .i64 d) ∧ w'.cell? ⟨w.heap.size + 1, 2, none⟩ = some (.int .i64 b) ∧ w'.cell? ⟨w.heap.size + 1, 3, none⟩ = some (.int .i64 k) ∧ w'.cell? ⟨w.heap.size + 1, 4, none⟩ = some (.slice a zs.length cap))
        (first | (exact ⟨(q2.cell (p := ⟨w.heap.size, 0, none⟩) zg).trans g0, (q2.cell (p := ⟨w.heap.size, 1, none⟩) zg).trans g1, (q2.cell (p := ⟨w.heap.size + 1, 0, none⟩) zx).trans c0, (q2.cell (p := ⟨w.heap.size + 1, 1, none⟩) zx).trans c1, (q2.cell (p := ⟨w.heap.size + 1, 2, none⟩) zx).trans c2, (q2.cell (p := ⟨w.heap.size + 1, 3, none⟩) zx).trans c3, (q2.cell (p := ⟨w.heap.size + 1, 4, none⟩) zx).trans c4⟩) | (exact ⟨g0, g1, c0, c1, c2, c3, c4⟩) | go_keep)
        (first | (go_at_call 251; refine (roomOf_any _ o d b k _ _ _ zs rfl (by exact R1.draw) hn).mono ?_; rintro e w2 ⟨rfl, p2⟩; have q2 : Below w1.heap.size w1 w2 := (Below.refl w1.heap.size w1).drew.trans p2))
      go_wp2
      refine bodyPost_ret (v := .tuple #[.int .i64 b, .int .i64 (b + lenC o k zs)]) (by simp [results, Tryz.results225, go_sem]) rfl ?_
      exact ⟨by rw [HS.out], Below.andThen B1 q2⟩
  · have HS := hidden (span_bad hc)
    go_wp2
    refine bodyPost_ret (v := .tuple #[.int .i64 0, .int .i64 0]) (by simp [results, Tryz.results225, go_sem]) rfl ?_
    exact ⟨by rw [HS.out], B1⟩

set_option maxHeartbeats 3200000 in
theorem implClash_any (w : World) (gn gs o d b k : Int) (a : Option Addr) (n cap : Nat) (zs : List Int) (o2 d2 b2 k2 : Int) (a2 : Option Addr) (n2 cap2 : Nat) (zs2 : List Int) (hz : zs.length = n) (hr : Reads .i64 w a zs) (hn : n ≤ 2097152) (hz2 : zs2.length = n2) (hr2 : Reads .i64 w a2 zs2) (hn2 : n2 ≤ 2097152) :
    Calls Tryz.prog 160 #[.agg #[.int .i64 gn, .int .i64 gs], .agg #[.int .i64 o, .int .i64 d, .int .i64 b, .int .i64 k, .slice a n cap], .agg #[.int .i64 o2, .int .i64 d2, .int .i64 b2, .int .i64 k2, .slice a2 n2 cap2]] w fun e w' => e = .returned (.bool (metC (spanC gn gs o d b k zs) (spanC gn gs o2 d2 b2 k2 zs2))) ∧ Below w.heap.size w w' := by
  have hA : Below w.heap.size w (((w.alloc (.cells #[.int .i64 gn, .int .i64 gs] 25)).alloc (.cells #[.int .i64 o, .int .i64 d, .int .i64 b, .int .i64 k, .slice a n cap] 38)).alloc (.cells #[.int .i64 o2, .int .i64 d2, .int .i64 b2, .int .i64 k2, .slice a2 n2 cap2] 38)) := ((new_below w _).alloc (by simp) _).alloc (by simp; omega) _
  have G : Box (((w.alloc (.cells #[.int .i64 gn, .int .i64 gs] 25)).alloc (.cells #[.int .i64 o, .int .i64 d, .int .i64 b, .int .i64 k, .slice a n cap] 38)).alloc (.cells #[.int .i64 o2, .int .i64 d2, .int .i64 b2, .int .i64 k2, .slice a2 n2 cap2] 38)) w.heap.size 25 #[.int .i64 gn, .int .i64 gs] := ((Box.new w _ _).below (new_below _ _) (by simp)).below (new_below _ _) (by simp; omega)
  have X : Box (((w.alloc (.cells #[.int .i64 gn, .int .i64 gs] 25)).alloc (.cells #[.int .i64 o, .int .i64 d, .int .i64 b, .int .i64 k, .slice a n cap] 38)).alloc (.cells #[.int .i64 o2, .int .i64 d2, .int .i64 b2, .int .i64 k2, .slice a2 n2 cap2] 38)) (w.heap.size + 1) 38 #[.int .i64 o, .int .i64 d, .int .i64 b, .int .i64 k, .slice a n cap] := by
    have := (Box.new (w.alloc (.cells #[.int .i64 gn, .int .i64 gs] 25)) 38 #[.int .i64 o, .int .i64 d, .int .i64 b, .int .i64 k, .slice a n cap]).below (new_below _ (.cells #[.int .i64 o2, .int .i64 d2, .int .i64 b2, .int .i64 k2, .slice a2 n2 cap2] 38)) (by simp)
    simpa using this
  have Y : Box (((w.alloc (.cells #[.int .i64 gn, .int .i64 gs] 25)).alloc (.cells #[.int .i64 o, .int .i64 d, .int .i64 b, .int .i64 k, .slice a n cap] 38)).alloc (.cells #[.int .i64 o2, .int .i64 d2, .int .i64 b2, .int .i64 k2, .slice a2 n2 cap2] 38)) (w.heap.size + 1 + 1) 38 #[.int .i64 o2, .int .i64 d2, .int .i64 b2, .int .i64 k2, .slice a2 n2 cap2] := by
    have := Box.new ((w.alloc (.cells #[.int .i64 gn, .int .i64 gs] 25)).alloc (.cells #[.int .i64 o, .int .i64 d, .int .i64 b, .int .i64 k, .slice a n cap] 38)) 38 #[.int .i64 o2, .int .i64 d2, .int .i64 b2, .int .i64 k2, .slice a2 n2 cap2]
    simpa using this
  have hr' := hr.below hA
  have hr2' := hr2.below hA
  generalize hP : spanC gn gs o d b k zs = P
  generalize hQ : spanC gn gs o2 d2 b2 k2 zs2 = Q
  obtain ⟨p0, p1⟩ := P
  obtain ⟨q0, q1⟩ := Q
  have HP := hidden hP
  have HQ := hidden hQ
  clear hP hQ hr hr2
  obtain ⟨g0, g1⟩ := G.cells2
  obtain ⟨c0, c1, c2, c3, c4⟩ := X.cells5
  go_enter Tryz.func160, Tryz.ntmps160
  go_wp2_with fail
  generalize (((w.alloc (.cells #[.int .i64 gn, .int .i64 gs] 25)).alloc (.cells #[.int .i64 o, .int .i64 d, .int .i64 b, .int .i64 k, .slice a n cap] 38)).alloc (.cells #[.int .i64 o2, .int .i64 d2, .int .i64 b2, .int .i64 k2, .slice a2 n2 cap2] 38)) = W0 at hA G X Y hr' hr2' g0 g1 c0 c1 c2 c3 c4 ⊢
  refine (implSpanOf_any _ gn gs o d b k _ _ _ zs hz hr' hn).mono ?_
  rintro e w1 ⟨rfl, b1⟩
  rw [HP.out]
  have B1 := Below.andThen hA b1
  have G1 := G.below b1 G.lt
  have Y1 := Y.below b1 Y.lt
  have R1 := hr2'.below b1
  clear g0 g1 c0 c1 c2 c3 c4 G X Y hr' hr2' hA b1
  obtain ⟨g0, g1⟩ := G1.cells2
  obtain ⟨c0, c1, c2, c3, c4⟩ := Y1.cells5
  go_wp2_with fail
  refine (implSpanOf_any _ gn gs o2 d2 b2 k2 _ _ _ zs2 hz2 R1 hn2).mono ?_
  rintro e w2 ⟨rfl, b2⟩
  have B2 := Below.andThen B1 b2
  clear g0 g1 c0 c1 c2 c3 c4 G1 Y1 R1 B1 b2
  rw [HQ.out]
  by_cases h1 : p0 < q1
  · by_cases h2 : q0 < p1
    · go_wp2
      go_ret
      exact ⟨ret_bool (by simp [metC, h1, h2]), B2⟩
    · go_wp2
      go_ret
      exact ⟨ret_bool (by simp [metC]; omega), B2⟩
  · go_wp2
    go_ret
    exact ⟨ret_bool (by simp [metC]; omega), B2⟩

end Go.Proofs.YtbkkjfgjlapadaaGreat

/-
  A plain lemma: the length of a slice of one's own is that of its numbers. No condition.
-/
namespace Go.Proofs.YtbkkjfgjlapadaaGreat
open Go.RowKit

theorem own_len2 {w : World} {lo hi l : Nat} {a : Option Addr} {c : Nat} {zs ps : List Int} {pl : Nat} (h : tIntS.Own w lo hi [.slice a l c] zs) (hp : zs = ps) (hl : ps.length = pl) : l = pl ∧ tIntS.Own w lo hi [.slice a pl c] ps := by
  subst hp
  have h2 := (row_length h.rd).1
  have : l = pl := by omega
  subst this
  exact ⟨rfl, h⟩

end Go.Proofs.YtbkkjfgjlapadaaGreat

/-
  Both PutCmd (the program's and the specification's) answer as the definition here says. Condition: at most 2097152 words.
-/
namespace Go.Proofs.YtbkkjfgjlapadaaGreat
open Go.RowKit

def putL (o d b k : Int) (zs : List Int) : List Int := o :: d :: b :: k :: (zs.length : Int) :: zs
def putB (o d b k : Int) (zs : List Int) : Bool := inB o 1 6 && (decide (zs.length ≤ 6) && allW (putL o d b k zs))
def putC (o d b k : Int) (zs : List Int) : List Int := if putB o d b k zs = true then putL o d b k zs else []
theorem putC_of {o d b k : Int} {zs : List Int} (h : putB o d b k zs = true) : putC o d b k zs = putL o d b k zs := by unfold putC; rw [if_pos h]
theorem putC_not {o d b k : Int} {zs : List Int} (h : putB o d b k zs = false) : putC o d b k zs = [] := by unfold putC; rw [if_neg (by simp [h])]
theorem putB_op {o d b k : Int} {zs : List Int} (h : inB o 1 6 = false) : putB o d b k zs = false := by unfold putB; rw [h]; rfl
theorem putB_long {o d b k : Int} {zs : List Int} (h : ¬ zs.length ≤ 6) : putB o d b k zs = false := by unfold putB; rw [decide_eq_false h]; simp
theorem putB_words {o d b k : Int} {zs : List Int} (h : allW (putL o d b k zs) = false) : putB o d b k zs = false := by unfold putB; rw [h]; simp
theorem putB_all {o d b k : Int} {zs : List Int} (h1 : inB o 1 6 = true) (h2 : zs.length ≤ 6) (h3 : allW (putL o d b k zs) = true) : putB o d b k zs = true := by unfold putB; rw [h1, decide_eq_true h2, h3]; rfl
theorem putL_len (o d b k : Int) (zs : List Int) : (putL o d b k zs).length = zs.length + 5 := rfl
theorem secB_put {o d b k : Int} {zs : List Int} (h : zs.length ≤ 6) : secB (putL o d b k zs) = allW (putL o d b k zs) := by
  unfold secB
  rw [putL_len, decide_eq_true (by omega)]
  rfl
theorem putC_le (o d b k : Int) (zs : List Int) : (putC o d b k zs).length ≤ 11 := by
  unfold putC
  split
  · rename_i h
    unfold putB at h
    simp only [Bool.and_eq_true, decide_eq_true_eq] at h
    rw [putL_len]
    omega
  · simp

/-- 'append' of a slice of numbers, empty or not, to a row of one's own. -/
theorem wpList_appAny {P : Program} {w : World} {ops : Array Oper} {rest : List Oper} {o : Oper} {a : Act} {Q : Exit → Act → World → Prop} (hgd : o.guard = none) (s x : Operand) (t : TypeId)
    (ho : o.op = .call { callee := .builtin .append, args := #[s, x], argTypes := #[t, t] })
    (lo : Nat) (i : TypeInfo) (ht : P.underlying t = some (.slice 3)) (hi : P.info? 3 = some i) (hz : i.zero = some (.int .i64 0))
    (hsize : i.size = 1) (hby : i.bytes = 8)
    (v : Value) (zs : List Int) (hs : a.eval s = v) (hown : Owns .i64 3 w lo v zs)
    (ad : Option Addr) (m c : Nat) (ys : List Int) (hx : a.eval x = .slice ad m c) (hr : tIntS.Rd w [.slice ad m c] ys)
    (h63 : zs.length + m ≤ maxLen) (hbytes : (zs.length + m) * 8 ≤ 140737488355328) (hbase : lo ≤ w.heap.size)
    (h : ∀ v' w', Owns .i64 3 w' lo v' (zs ++ ys) → Below lo w w' → wpList P ops Q rest (a.put o.dst v') w') : wpList P ops Q (o :: rest) a w := by
  obtain ⟨hrd, hl, _, _⟩ := ints_rd hr
  match ad, hx, hr, hrd with
  | none, hx, hr, _ =>
    obtain ⟨rfl, rfl, rfl⟩ := row_nil hr
    refine wpList_append_own_none hgd s x t ho lo 3 i 1 ht hi v zs.length (zs.map (Value.int .i64)) hs hown hx ?_
    refine h _ _ ?_ (Below.refl _ _)
    rw [List.append_nil]
    exact hown
  | some ad, hx, _, hrd =>
    exact wpList_app .i64 hgd s x t ho lo 3 i (.int .i64 0) 8 ht hi hz hsize hby rfl v zs hs hown ad m c ys hx hl hrd h63 hbytes hbase h

end Go.Proofs.YtbkkjfgjlapadaaGreat

/-
  The specification's copies of a command and of an answer. Conditions: at most 2097152 words.
-/
namespace Go.Proofs.YtbkkjfgjlapadaaGreat
open Go.RowKit


set_option maxRecDepth 20000 in
set_option maxHeartbeats 1600000 in
theorem l13Copy_any (w : World) (o d1 b1 k : Int) (a0 : Option Addr) (c0 : Nat) (zs : List Int) (r0 : tIntS.Rd w [.slice a0 zs.length c0] zs) (hz : zs.length ≤ 2097152) :
    Calls Tryz.prog 51 #[.agg #[.int .i64 o, .int .i64 d1, .int .i64 b1, .int .i64 k, .slice a0 zs.length c0]] w fun e w' => ∃ b0 e0, e = .returned (.agg #[.int .i64 o, .int .i64 d1, .int .i64 b1, .int .i64 k, .slice b0 zs.length e0]) ∧ tCmd.Own w' w.heap.size w'.heap.size [.int .i64 o, .int .i64 d1, .int .i64 b1, .int .i64 k, .slice b0 zs.length e0] (o, d1, b1, k, zs) ∧ Below w.heap.size w w' := by
  obtain ⟨i0, hi, hz0, hz1, hz2⟩ := info_parts Tryz.info3
  go_enter Tryz.func51, Tryz.ntmps51
  go_upto_region 1 with fail
  refine seal_new2C ?_
  intro V A R B
  obtain ⟨k0, k1, k2, k3, k4⟩ := A.cells5
  have lA := A.lt
  have lR := R.lt
  have R0 := hidden (r0.below B)
  go_wp2_with (first | (refine wpList_store_new rfl _ _ _ rfl rfl rfl rfl Tryz.szCmd15 (by rfl) ?_; intro V2 O b2; have A := A.below b2 lA; have R := R.below b2 lR; have B := Below.andThen B b2; have lA2 := A.lt; have lR2 := R.lt; clear k0 k1 k2 k3 k4; obtain ⟨k0, k1, k2, k3, k4⟩ := A.cells5; have lO := O.lt; have nb := new_below V2 (.cells #[] 3); have R1 := hidden (R0.out.below (Below.andThen b2 nb)); have hO : Owns .i64 3 (V2.alloc (.cells #[] 3)) V2.heap.size (.slice (some ⟨V2.heap.size, 0, none⟩) 0 0) [] := Owns.lit .i64 3 V2 [] 0 #[] rfl rfl (by unfold maxLen; omega)) | (at_builtin; refine wpList_appAny rfl _ _ 36 rfl V2.heap.size i0 Tryz.underlying36 hi hz0 hz1 hz2 _ [] rfl hO _ zs.length c0 zs rfl R1.out (by unfold maxLen; simp; omega) (by simp; omega) (by simp) ?_; intro v' w3 ho hb3; obtain ⟨a1, c1, hv1, _⟩ := ho.shape; rw [List.nil_append] at ho hv1; subst hv1; have q3 := Below.trans nb hb3; have A := A.below q3 A.lt; have R := R.below q3 R.lt; have O := O.below q3 lO; have B := Below.andThen B q3; have o4 := O.cell 4; have fo := O.frozen 4; have z3 := q3.size; clear k0 k1 k2 k3 k4; obtain ⟨k0, k1, k2, k3, k4⟩ := A.cells5) | (refine wpList_load_box rfl _ _ rfl rfl (O.at.set _ _).box _ Tryz.underlying38 rfl Tryz.szCmd15 ?_) | (refine wpList_store_box rfl _ _ _ rfl rfl rfl (R.other (by omega) _ _) rfl Tryz.szCmd15 (by rfl) ?_; intro W X hb hs) | fail)
  have hset : But V.heap.size (V.heap.size + 1) w3 (w3.setCell ⟨V.heap.size, 4, none⟩ (.slice a1 zs.length c1)) := But.setCell (Nat.le_refl _) (Nat.lt_succ_self _) _
  have y := own_ints ho
  have y := y.but hset (by omega)
  have y := y.but hb (by omega)
  have K := hidden (y.widen (show w.heap.size ≤ V2.heap.size by omega) (show w3.heap.size ≤ W.heap.size by have := hset.size; have := hb.size; omega))
  have KB := hidden (Below.andBut (Below.andBut B hset (by omega)) hb (by omega))
  clear y hset hb ho hb3 q3 B
  obtain ⟨x0, x1, x2, x3, x4⟩ := X.cells5
  go_wp2
  refine bodyPost_ret (v := .agg #[.int .i64 o, .int .i64 d1, .int .i64 b1, .int .i64 k, .slice a1 zs.length c1]) (by simp [results, Tryz.results51, go_sem, x0, x1, x2, x3, x4]) rfl ⟨_, _, rfl, ?_, KB.out⟩
  have y := K.out
  exact int_own_of (x := o) (int_own_of (x := d1) (int_own_of (x := b1) (int_own_of (x := k) y)))


set_option maxRecDepth 20000 in
set_option maxHeartbeats 1600000 in
theorem l15Ans_any (w : World) (d1 q1 : Int) (a0 : Option Addr) (c0 : Nat) (zs : List Int) (r0 : tIntS.Rd w [.slice a0 zs.length c0] zs) (hz : zs.length ≤ 2097152) :
    Calls Tryz.prog 76 #[.agg #[.int .i64 d1, .int .i64 q1, .slice a0 zs.length c0]] w fun e w' => ∃ b0 e0, e = .returned (.agg #[.int .i64 d1, .int .i64 q1, .slice b0 zs.length e0]) ∧ tAns.Own w' w.heap.size w'.heap.size [.int .i64 d1, .int .i64 q1, .slice b0 zs.length e0] (d1, q1, zs) ∧ Below w.heap.size w w' := by
  obtain ⟨i0, hi, hz0, hz1, hz2⟩ := info_parts Tryz.info3
  go_enter Tryz.func76, Tryz.ntmps76
  go_upto_region 1 with fail
  refine seal_new2C ?_
  intro V A R B
  obtain ⟨k0, k1, k2⟩ := A.cells3e
  have lA := A.lt
  have lR := R.lt
  have R0 := hidden (r0.below B)
  go_wp2_with (first | (refine wpList_store_new rfl _ _ _ rfl rfl rfl rfl Tryz.szAns15 (by rfl) ?_; intro V2 O b2; have A := A.below b2 lA; have R := R.below b2 lR; have B := Below.andThen B b2; have lA2 := A.lt; have lR2 := R.lt; clear k0 k1 k2; obtain ⟨k0, k1, k2⟩ := A.cells3e; have lO := O.lt; have nb := new_below V2 (.cells #[] 3); have R1 := hidden (R0.out.below (Below.andThen b2 nb)); have hO : Owns .i64 3 (V2.alloc (.cells #[] 3)) V2.heap.size (.slice (some ⟨V2.heap.size, 0, none⟩) 0 0) [] := Owns.lit .i64 3 V2 [] 0 #[] rfl rfl (by unfold maxLen; omega)) | (at_builtin; refine wpList_appAny rfl _ _ 36 rfl V2.heap.size i0 Tryz.underlying36 hi hz0 hz1 hz2 _ [] rfl hO _ zs.length c0 zs rfl R1.out (by unfold maxLen; simp; omega) (by simp; omega) (by simp) ?_; intro v' w3 ho hb3; obtain ⟨a1, c1, hv1, _⟩ := ho.shape; rw [List.nil_append] at ho hv1; subst hv1; have q3 := Below.trans nb hb3; have A := A.below q3 A.lt; have R := R.below q3 R.lt; have O := O.below q3 lO; have B := Below.andThen B q3; have o2 := O.cell 2; have fo := O.frozen 2; have z3 := q3.size; clear k0 k1 k2; obtain ⟨k0, k1, k2⟩ := A.cells3e) | (refine wpList_load_box rfl _ _ rfl rfl (O.at.set _ _).box _ Tryz.underlying55 rfl Tryz.szAns15 ?_) | (refine wpList_store_box rfl _ _ _ rfl rfl rfl (R.other (by omega) _ _) rfl Tryz.szAns15 (by rfl) ?_; intro W X hb hs) | fail)
  have hset : But V.heap.size (V.heap.size + 1) w3 (w3.setCell ⟨V.heap.size, 2, none⟩ (.slice a1 zs.length c1)) := But.setCell (Nat.le_refl _) (Nat.lt_succ_self _) _
  have y := own_ints ho
  have y := y.but hset (by omega)
  have y := y.but hb (by omega)
  have K := hidden (y.widen (show w.heap.size ≤ V2.heap.size by omega) (show w3.heap.size ≤ W.heap.size by have := hset.size; have := hb.size; omega))
  have KB := hidden (Below.andBut (Below.andBut B hset (by omega)) hb (by omega))
  clear y hset hb ho hb3 q3 B
  obtain ⟨x0, x1, x2⟩ := X.cells3e
  go_wp2
  refine bodyPost_ret (v := .agg #[.int .i64 d1, .int .i64 q1, .slice a1 zs.length c1]) (by simp [results, Tryz.results76, go_sem, x0, x1, x2]) rfl ⟨_, _, rfl, ?_, KB.out⟩
  have y := K.out
  exact int_own_of (x := d1) (int_own_of (x := q1) y)


end Go.Proofs.YtbkkjfgjlapadaaGreat

/-
  The walk of answered: an engine gets an answer to a command, in Done and in Log. Conditions: the engine and both are memory of the call's own.
-/
namespace Go.Proofs.YtbkkjfgjlapadaaGreat
open Go.RowKit

theorem But.asTurned {N : Nat} {fp : List Nat} {w w' : World} (h : But N (N + 1) w w') (hN : N ∈ fp) : Turned fp w w' := ⟨h.os, h.tape, h.output, h.size, fun k hk hf => h.block k hk (by have : k ≠ N := fun e => hf (by rw [e]; exact hN); omega)⟩
set_option maxRecDepth 20000 in
set_option maxHeartbeats 6400000 in
theorem answered_any (w : World) (N lo : Nat) (e : EngD) (F : List Nat) (o d b k : Int) (av : Option Addr) (cv : Nat) (zs : List Int) (d1 q1 : Int) (ay : Option Addr) (cy : Nat) (ys : List Int) (fc fa : List Nat)
    (h : EngAt w N lo e F) (hlo : lo ≤ w.heap.size) (mc : tIntS.Mine w [.slice av zs.length cv] zs fc) (hc : ∀ y ∈ fc, lo ≤ y ∧ y ≠ N ∧ y ∉ F) (ma : tIntS.Mine w [.slice ay ys.length cy] ys fa) (ha : ∀ y ∈ fa, lo ≤ y ∧ y ≠ N ∧ y ∉ F) (hca : ∀ y ∈ fc, y ∉ fa) (hyl : ys.length ≤ 2097152) (hal : e.an.length ≤ 2097152) (htl : e.ts.length ≤ 2097152) :
    Calls Tryz.prog 144 #[.pointer (some ⟨N, 0, none⟩), .agg #[.int .i64 o, .int .i64 d, .int .i64 b, .int .i64 k, .slice av zs.length cv], .agg #[.int .i64 d1, .int .i64 q1, .slice ay ys.length cy]] w fun e' w' => e' = .returned (.tuple #[]) ∧ (∃ F', EngAt w' N lo (ansE e (o, d, b, k, zs) (d1, q1, ys)) F') ∧ Turned (N :: F) w w' := by
  obtain ⟨vm, vd, vw, vj, va, vu, f0, f1, f2, f3, f4, f5, rfl, X, P, hN⟩ := h
  obtain ⟨x, ms, ds, ws, js, an, ts⟩ := e
  have X : Box w N 35 #[.int .i64 x.id, .int .i64 x.n, .int .i64 x.s, vm, .int .i64 x.lost, .int .i64 x.built, .int .i64 x.seq, .int .i64 x.tail, .int .i64 x.gen, vd, .int .i64 x.fuse, .bool x.down, .bool x.broken, vw, vj, va, vu] := X
  replace hal : an.length ≤ 2097152 := hal
  replace htl : ts.length ≤ 2097152 := htl
  obtain ⟨n0, n1, n2, n3, n4, n5⟩ := not_six.1 hN
  obtain ⟨an1, ac1, rfl⟩ := row_shape P.m4.rd
  obtain ⟨ts1, tc1, rfl⟩ := row_shape P.m5.rd
  have lN := X.lt
  have Z0 := hidden X
  go_enter Tryz.func144, Tryz.ntmps144
  go_upto_region 1 with fail
  refine seal_new2C ?_
  intro V C A b0
  have lC := C.lt
  have lA := A.lt
  have zB := b0.size
  have X := X.below b0 lN
  have P := P.turned (Turned.ofBelow b0 []) (by simp)
  have mc := mc.below b0
  have ma := ma.below b0
  have lX := X.lt
  have T0 := Turned.ofBelow b0 (N :: (f0 ++ (f1 ++ (f2 ++ (f3 ++ (f4 ++ f5))))))
  clear b0
  have HC := hidden hc
  have HA := hidden ha
  have HP := hidden P
  have HP0 := hidden P
  have MC := hidden mc
  have MA := hidden ma
  have HCA := hidden hca
  have HT0 := hidden T0
  clear hc ha P mc ma hca T0 hN Z0
  obtain ⟨a0, a1, a2⟩ := A.cells3e
  have x15 := X.cell 15
  obtain ⟨i4, hi4, hz40, hz41, hz42⟩ := info_parts Tryz.infoAns15
  refine Late.start (S := fun w' => (∀ q, w'.cell? ⟨N, q, none⟩ = V.cell? ⟨N, q, none⟩) ∧ (∀ q, w'.cell? ⟨w.heap.size + 1, q, none⟩ = V.cell? ⟨w.heap.size + 1, q, none⟩)) (k := 10) (by kernel_rfl) ?_
  have hS : (∀ q, V.drew.cell? ⟨N, q, none⟩ = V.cell? ⟨N, q, none⟩) ∧ (∀ q, V.drew.cell? ⟨w.heap.size + 1, q, none⟩ = V.cell? ⟨w.heap.size + 1, q, none⟩) := ⟨fun _ => rfl, fun _ => rfl⟩
  refine Late.take (i := 0) (v := ?_) rfl (by kernel_rfl) (by kernel_rfl) (by kernel_rfl) (by kernel_rfl) (fun _ _ _ h => h) (Or.inl ⟨by rfl, ?_⟩) hS ?_
  rotate_left 1
  · (intro w hSw; (try dsimp only at hSw); go_split_ands; go_simp; first | done | with_reducible rfl)
  simp only [Act.put, List.setIfInBounds_toArray, List.set_cons_zero, List.set_cons_succ]
  refine Late.take (i := 1) (v := ?_) rfl (by kernel_rfl) (by kernel_rfl) (by kernel_rfl) (by kernel_rfl) (fun _ _ _ h => h) (Or.inl ⟨by rfl, ?_⟩) hS ?_
  rotate_left 1
  · (intro w hSw; (try dsimp only at hSw); go_split_ands; go_simp; first | done | with_reducible rfl)
  simp only [Act.put, List.setIfInBounds_toArray, List.set_cons_zero, List.set_cons_succ]
  refine Late.take (i := 2) (v := ?_) rfl (by kernel_rfl) (by kernel_rfl) (by kernel_rfl) (by kernel_rfl) (fun _ _ _ h => h) (Or.inl ⟨by rfl, ?_⟩) hS ?_
  rotate_left 1
  · (intro w hSw; (try dsimp only at hSw); go_split_ands; go_simp; first | done | with_reducible rfl)
  simp only [Act.put, List.setIfInBounds_toArray, List.set_cons_zero, List.set_cons_succ]
  refine Late.take (i := 3) (v := ?_) rfl (by kernel_rfl) (by kernel_rfl) (by kernel_rfl) (by kernel_rfl) (fun _ _ _ h => h) (Or.inl ⟨by rfl, ?_⟩) hS ?_
  rotate_left 1
  · (intro w hSw; (try dsimp only at hSw); go_split_ands; go_simp; first | done | with_reducible rfl)
  simp only [Act.put, List.setIfInBounds_toArray, List.set_cons_zero, List.set_cons_succ]
  refine Late.take (i := 4) (v := ?_) rfl (by kernel_rfl) (by kernel_rfl) (by kernel_rfl) (by kernel_rfl) (fun _ _ _ h => h) (Or.inl ⟨by rfl, ?_⟩) hS ?_
  rotate_left 1
  · (intro w hSw; (try dsimp only at hSw); go_split_ands; go_simp; first | done | with_reducible rfl)
  simp only [Act.put, List.setIfInBounds_toArray, List.set_cons_zero, List.set_cons_succ]
  refine Late.take (i := 5) (v := ?_) rfl (by kernel_rfl) (by kernel_rfl) (by kernel_rfl) (by kernel_rfl) (fun _ _ _ h => h) (Or.inl ⟨by rfl, ?_⟩) hS ?_
  rotate_left 1
  · (intro w hSw; (try dsimp only at hSw); go_split_ands; go_simp; first | done | with_reducible rfl)
  simp only [Act.put, List.setIfInBounds_toArray, List.set_cons_zero, List.set_cons_succ]
  have qV : Below V.heap.size V V.drew := (Below.refl _ _).drew
  have hSX := hS
  clear hS
  have mE : tAns.Mine V [.int .i64 d1, .int .i64 q1, .slice ay ys.length cy] (d1, q1, ys) fa := int_mine_of (x := d1) (int_mine_of (x := q1) MA.out)
  have hE : ∀ y ∈ fa, lo ≤ y ∧ y ≠ N ∧ (y ∉ f0 ∧ y ∉ f1 ∧ y ∉ f2 ∧ y ∉ f3 ∧ y ∉ f4 ∧ y ∉ f5) := fun y hy => ⟨(HA.out y hy).1, (HA.out y hy).2.1, not_six.1 (HA.out y hy).2.2⟩
  have zX := qV.size
  have nb := (new_below V (.cells #[.int .i64 d1, .int .i64 q1, .slice ay ys.length cy] 55)).drew
  have n1 : (V.alloc (.cells #[.int .i64 d1, .int .i64 q1, .slice ay ys.length cy] 55)).drew.heap.size = V.heap.size + 1 := World.size_alloc _ _
  have qN := nb
  have hSN : (∀ q, (V.alloc (.cells #[.int .i64 d1, .int .i64 q1, .slice ay ys.length cy] 55)).drew.cell? ⟨N, q, none⟩ = V.cell? ⟨N, q, none⟩) ∧ (∀ q, (V.alloc (.cells #[.int .i64 d1, .int .i64 q1, .slice ay ys.length cy] 55)).drew.cell? ⟨w.heap.size + 1, q, none⟩ = V.cell? ⟨w.heap.size + 1, q, none⟩) := ⟨fun q => qN.cell (p := ⟨N, q, none⟩) lX, fun q => qN.cell (p := ⟨w.heap.size + 1, q, none⟩) lA⟩
  refine Late.one (i := 6) (by kernel_rfl) rfl (fun K hK => ?_)
  rw [if_pos (by kernel_rfl)]
  go_wp2_with fail
  refine hK.out _ _ (fun _ => hSN) ?_
  clear hK K hSX
  have PN := HP.out.turned (Turned.ofBelow qN []) (by simp)
  have XN := X.below qN lX
  replace mE := mE.below nb
  have hdis : ∀ y ∈ f4, y ∉ fa := fun y hy hy' => (hE y hy').2.2.2.2.2.2.1 hy
  refine Late.one (i := 7) (by kernel_rfl) rfl (fun K hK => ?_)
  refine step_appT tAns (by rfl) _ _ 32 (by rfl) 55 i4 (.agg #[.int .i64 0, .int .i64 0, .slice none 0 0]) 40 Tryz.underlying32 hi4 hz40 hz41 hz42 rfl (by decide) (.slice an1 an.length ac1) an f4 (by rfl) PN.m4 ⟨V.heap.size, 0, none⟩ 1 [.int .i64 d1, .int .i64 q1, .slice ay ys.length cy] (d1, q1, ys) fa (by rfl) mE hdis (news_new V #[.int .i64 d1, .int .i64 q1, .slice ay ys.length cy] _) (by intro u hu; simp at hu; rcases hu with rfl | rfl | rfl <;> rfl) (by unfold maxLen; omega) (by omega) ?_
  intro g4 cp4 wZ4 frZ mZ sZ tZ
  have zZ := tZ.size
  have hSZ : (∀ q, wZ4.cell? ⟨N, q, none⟩ = V.cell? ⟨N, q, none⟩) ∧ (∀ q, wZ4.cell? ⟨w.heap.size + 1, q, none⟩ = V.cell? ⟨w.heap.size + 1, q, none⟩) := ⟨fun q => (World.cell?_of_block (tZ.block (N) (by omega) n4)).trans (hSN.1 q), fun q => (World.cell?_of_block (tZ.block (w.heap.size + 1) (by omega) (fun hy => by have := (HP0.out.own4 hy).1; omega))).trans (hSN.2 q)⟩
  refine hK.out _ _ (fun _ => hSZ) ?_
  clear hK K hSN
  have XZ := XN.turned tZ n4
  have hfr : ∀ y ∈ frZ, (lo ≤ y ∧ y ≠ N) ∧ y ∉ f0 ∧ y ∉ f1 ∧ y ∉ f2 ∧ y ∉ f3 ∧ y ∉ f5 := fun y hy => by
    rcases sZ y hy with l | l | l
    · have r := HP.out.own4 l
      exact ⟨⟨r.1.1, fun e => n4 (e ▸ l)⟩, r.2⟩
    · have r := hE y l
      exact ⟨⟨r.1, r.2.1⟩, r.2.2.1, r.2.2.2.1, r.2.2.2.2.1, r.2.2.2.2.2.1, r.2.2.2.2.2.2.2⟩
    · have r := HP.out.beyond (b := y) (.inl (by omega))
      exact ⟨⟨by omega, by omega⟩, r.1, r.2.1, r.2.2.1, r.2.2.2.1, r.2.2.2.2.2⟩
  have PZ := PN.set4 tZ (fun y hy => (PN.own4 hy).2) mZ (fun y hy => ⟨(hfr y hy).1.1, (hfr y hy).2⟩) (by omega)
  have E : BoxAt wZ4 _ N 35 [.int .i64 x.id, .int .i64 x.n, .int .i64 x.s, vm, .int .i64 x.lost, .int .i64 x.built, .int .i64 x.seq, .int .i64 x.tail, .int .i64 x.gen, vd, .int .i64 x.fuse, .bool x.down, .bool x.broken, vw, vj, .slice (some ⟨g4, 0, none⟩) (an.length + 1) cp4, .slice ts1 ts.length tc1] := XZ.at.set 15 (.slice (some ⟨g4, 0, none⟩) (an.length + 1) cp4)
  have c15 := XZ.cell 15
  have fz := XZ.frozen 15
  have nz : N ∉ frZ := fun hy => (hfr N hy).1.2 rfl
  have TZ := hidden ((Turned.ofBelow qN (N :: (f0 ++ (f1 ++ (f2 ++ (f3 ++ (f4 ++ f5)))))) ).trans (tZ.mono (fun y hy => List.mem_cons_of_mem _ (mem_six.2 (.inr (.inr (.inr (.inr (.inl hy)))))))))
  have hfc : ∀ y ∈ fc, y ∉ frZ := fun y hc hy => by
    have hl := MC.out.lt y hc
    rcases sZ y hy with l | l | l
    · exact (not_six.1 (HC.out y hc).2.2).2.2.2.2.1 l
    · exact HCA.out y hc l
    · omega
  have hPZ := hidden PZ
  have hFR := hidden hfr
  clear PZ hfr mZ sZ tZ mE hE hdis XN PN qN nb n1 zX
  refine Late.one (i := 8) (by kernel_rfl) rfl (fun K hK => ?_)
  rw [if_pos (by kernel_rfl)]
  go_wp2_with fail
  refine hK.out _ _ (fun _ => hSZ) ?_
  clear hK K
  refine Late.one (i := 9) (by kernel_rfl) rfl (fun K hK => ?_)
  rw [if_pos (by kernel_rfl)]
  go_wp2_with fail
  refine hK.out _ _ (fun _ => hSZ) ?_
  clear hK K
  refine Late.one (i := 10) (by kernel_rfl) rfl (fun K hK => ?_)
  clear hSZ
  rw [if_pos (by kernel_rfl)]
  go_wp2_with fail
  refine hK.out _ _ (fun h => absurd rfl h) ?_
  clear hK K
  refine Late.done (by kernel_rfl) ?_ _
  clear c15 fz XZ
  clear a0 a1 a2 x15
  have nq0 := n0
  have nq1 := n1
  have nq2 := n2
  have nq3 := n3
  have nq5 := n5
  refine seal_then E ?_
  clear E
  intro V2 E
  have TE : Turned (N :: (f0 ++ (f1 ++ (f2 ++ (f3 ++ (f4 ++ f5)))))) wZ4 V2 := But.asTurned E.but List.mem_cons_self
  have hNf : ∀ y, y ∈ f0 ∨ y ∈ f1 ∨ y ∈ f2 ∨ y ∈ f3 ∨ y ∈ frZ ∨ y ∈ f5 → y < N ∨ N + 1 ≤ y := fun y hmem => by
    have : y ≠ N := fun e => by
      subst e
      rcases hmem with l | l | l | l | l | l
      · exact nq0 l
      · exact nq1 l
      · exact nq2 l
      · exact nq3 l
      · exact nz l
      · exact nq5 l
    omega
  have HP := hidden ((hPZ.out.but E.but hNf).widen (by have := E.size; omega) : EngP V2 lo V2.heap.size _ _ _ _ _ _ _ f0 f1 f2 f3 frZ f5)
  have HT := hidden ((HT0.out.trans TZ.out).trans TE)
  have zE := Nat.le_of_eq E.size
  have zE2 := Nat.le_of_eq E.size.symm
  have T2 := TZ.out.trans TE
  have X := E.box
  have hCn : ∀ y, w.heap.size ≤ y → y ∉ N :: (f0 ++ (f1 ++ (f2 ++ (f3 ++ (f4 ++ f5))))) := fun y hy h => by
    rcases List.mem_cons.1 h with h | h
    · omega
    · have := HP0.out.r y (mem_six.1 h); omega
  have C := C.kept (T2.block _ lC (hCn _ (by omega)))
  have A := A.kept (T2.block _ lA (hCn _ (by omega)))
  have HC2 : Hid (∀ y ∈ fc, lo ≤ y ∧ y ≠ N ∧ y ∉ f0 ∧ y ∉ f1 ∧ y ∉ f2 ∧ y ∉ f3 ∧ y ∉ frZ ∧ y ∉ f5) := fun y hy => by
    obtain ⟨h1, h2, h3⟩ := HC.out y hy
    obtain ⟨k0, k1, k2, k3, _, k5⟩ := not_six.1 h3
    exact ⟨h1, h2, k0, k1, k2, k3, hfc y hy, k5⟩
  have MC2 := hidden (MC.out.kept T2 (fun y hy h => by
    rcases List.mem_cons.1 h with h | h
    · exact (HC.out y hy).2.1 h
    · exact (HC.out y hy).2.2 h))
  have MA2 := hidden (MA.out.kept T2 (fun y hy h => by
    rcases List.mem_cons.1 h with h | h
    · exact (HA.out y hy).2.1 h
    · exact (HA.out y hy).2.2 h))
  obtain ⟨f6, hf6⟩ : ∃ f6, f6 = frZ := ⟨_, rfl⟩
  subst hf6
  have nq4 := nz
  have lX := X.lt
  have lC := C.lt
  have lA := A.lt
  have zV2 := T2.size
  clear MC MA HC HA HT0 TZ T2 TE E hPZ hFR nz hNf hfc n4 i4 hi4 hz40 hz41 hz42 hCn
  have MC := MC2
  have MA := MA2
  have HT0 := HT
  clear MC2 MA2 HT
  go_wp2_with fail
  obtain ⟨a0, a1, a2⟩ := A.cells3e
  obtain ⟨c0, c1, c2, c3, c4⟩ := C.cells5
  have x16 := X.cell 16
  obtain ⟨i5, hi5, hz50, hz51, hz52⟩ := info_parts Tryz.infoTurn15
  refine Late.start (S := fun w' => (∀ q, w'.cell? ⟨N, q, none⟩ = V2.cell? ⟨N, q, none⟩) ∧ (∀ q, w'.cell? ⟨w.heap.size, q, none⟩ = V2.cell? ⟨w.heap.size, q, none⟩) ∧ (∀ q, w'.cell? ⟨w.heap.size + 1, q, none⟩ = V2.cell? ⟨w.heap.size + 1, q, none⟩)) (k := 13) (by kernel_rfl) ?_
  have hS : (∀ q, V2.drew.cell? ⟨N, q, none⟩ = V2.cell? ⟨N, q, none⟩) ∧ (∀ q, V2.drew.cell? ⟨w.heap.size, q, none⟩ = V2.cell? ⟨w.heap.size, q, none⟩) ∧ (∀ q, V2.drew.cell? ⟨w.heap.size + 1, q, none⟩ = V2.cell? ⟨w.heap.size + 1, q, none⟩) := ⟨fun _ => rfl, fun _ => rfl, fun _ => rfl⟩
  refine Late.take (i := 0) (v := ?_) rfl (by kernel_rfl) (by kernel_rfl) (by kernel_rfl) (by kernel_rfl) (fun _ _ _ h => h) (Or.inl ⟨by rfl, ?_⟩) hS ?_
  rotate_left 1
  · (intro w hSw; (try dsimp only at hSw); go_split_ands; go_simp; first | done | with_reducible rfl)
  simp only [Act.put, List.setIfInBounds_toArray, List.set_cons_zero, List.set_cons_succ]
  refine Late.take (i := 1) (v := ?_) rfl (by kernel_rfl) (by kernel_rfl) (by kernel_rfl) (by kernel_rfl) (fun _ _ _ h => h) (Or.inl ⟨by rfl, ?_⟩) hS ?_
  rotate_left 1
  · (intro w hSw; (try dsimp only at hSw); go_split_ands; go_simp; first | done | with_reducible rfl)
  simp only [Act.put, List.setIfInBounds_toArray, List.set_cons_zero, List.set_cons_succ]
  refine Late.take (i := 2) (v := ?_) rfl (by kernel_rfl) (by kernel_rfl) (by kernel_rfl) (by kernel_rfl) (fun _ _ _ h => h) (Or.inl ⟨by rfl, ?_⟩) hS ?_
  rotate_left 1
  · (intro w hSw; (try dsimp only at hSw); go_split_ands; go_simp; first | done | with_reducible rfl)
  simp only [Act.put, List.setIfInBounds_toArray, List.set_cons_zero, List.set_cons_succ]
  refine Late.take (i := 3) (v := ?_) rfl (by kernel_rfl) (by kernel_rfl) (by kernel_rfl) (by kernel_rfl) (fun _ _ _ h => h) (Or.inl ⟨by rfl, ?_⟩) hS ?_
  rotate_left 1
  · (intro w hSw; (try dsimp only at hSw); go_split_ands; go_simp; first | done | with_reducible rfl)
  simp only [Act.put, List.setIfInBounds_toArray, List.set_cons_zero, List.set_cons_succ]
  refine Late.take (i := 4) (v := ?_) rfl (by kernel_rfl) (by kernel_rfl) (by kernel_rfl) (by kernel_rfl) (fun _ _ _ h => h) (Or.inl ⟨by rfl, ?_⟩) hS ?_
  rotate_left 1
  · (intro w hSw; (try dsimp only at hSw); go_split_ands; go_simp; first | done | with_reducible rfl)
  simp only [Act.put, List.setIfInBounds_toArray, List.set_cons_zero, List.set_cons_succ]
  refine Late.take (i := 5) (v := ?_) rfl (by kernel_rfl) (by kernel_rfl) (by kernel_rfl) (by kernel_rfl) (fun _ _ _ h => h) (Or.inl ⟨by rfl, ?_⟩) hS ?_
  rotate_left 1
  · (intro w hSw; (try dsimp only at hSw); go_split_ands; go_simp; first | done | with_reducible rfl)
  simp only [Act.put, List.setIfInBounds_toArray, List.set_cons_zero, List.set_cons_succ]
  refine Late.take (i := 6) (v := ?_) rfl (by kernel_rfl) (by kernel_rfl) (by kernel_rfl) (by kernel_rfl) (fun _ _ _ h => h) (Or.inl ⟨by rfl, ?_⟩) hS ?_
  rotate_left 1
  · (intro w hSw; (try dsimp only at hSw); go_split_ands; go_simp; first | done | with_reducible rfl)
  simp only [Act.put, List.setIfInBounds_toArray, List.set_cons_zero, List.set_cons_succ]
  have qV : Below V2.heap.size V2 V2.drew := (Below.refl _ _).drew
  refine Late.one (i := 7) (by kernel_rfl) rfl (fun K hK => ?_)
  rw [if_pos (by kernel_rfl)]
  go_simp
  refine (copyAns_any _ d1 q1 _ _ ys (MA.out.rd.below qV) (by omega)).mono ?_
  rintro e4 w4 ⟨u0, e0, rfl, y0, b4⟩
  have q4 : Below V2.heap.size V2 w4 := qV.trans b4
  have y0 : tAns.Own w4 V2.heap.size w4.heap.size _ _ := y0
  have z4 := q4.size
  have hSX : (∀ q, w4.cell? ⟨N, q, none⟩ = V2.cell? ⟨N, q, none⟩) ∧ (∀ q, w4.cell? ⟨w.heap.size, q, none⟩ = V2.cell? ⟨w.heap.size, q, none⟩) ∧ (∀ q, w4.cell? ⟨w.heap.size + 1, q, none⟩ = V2.cell? ⟨w.heap.size + 1, q, none⟩) := ⟨fun q => q4.cell (p := ⟨N, q, none⟩) lX, fun q => q4.cell (p := ⟨w.heap.size, q, none⟩) lC, fun q => q4.cell (p := ⟨w.heap.size + 1, q, none⟩) lA⟩
  clear hS b4
  go_wp2_with fail
  refine hK.out _ _ (fun _ => hSX) ?_
  clear hK K
  obtain ⟨fy, my, ry⟩ := y0.mine
  clear y0
  have hy : ∀ y ∈ fy, lo ≤ y ∧ y ≠ N ∧ (y ∉ f0 ∧ y ∉ f1 ∧ y ∉ f2 ∧ y ∉ f3 ∧ y ∉ f6 ∧ y ∉ f5) := fun y hy => ⟨by have := ry y hy; omega, by have := ry y hy; omega, by have := ry y hy; exact HP.out.beyond (.inl (by omega))⟩
  have mc := MC.out.below q4
  have mE : tTurn.Mine w4 [.int .i64 o, .int .i64 d, .int .i64 b, .int .i64 k, .slice av zs.length cv, .int .i64 d1, .int .i64 q1, .slice u0 ys.length e0] (o, d, b, k, zs, d1, q1, ys) (fc ++ fy) := int_mine_of (x := o) (int_mine_of (x := d) (int_mine_of (x := b) (int_mine_of (x := k) (ints_mine_of mc my (fun y hc hy' => by have := ry y hy'; have := MC.out.lt y hc; omega)))))
  have hE : ∀ y ∈ (fc ++ fy), lo ≤ y ∧ y ≠ N ∧ (y ∉ f0 ∧ y ∉ f1 ∧ y ∉ f2 ∧ y ∉ f3 ∧ y ∉ f6 ∧ y ∉ f5) := fun y h => by
    rcases List.mem_append.1 h with h | h
    · exact HC2.out y h
    · exact hy y h
  refine Late.one (i := 8) (by kernel_rfl) rfl (fun K hK => ?_)
  go_simp
  refine hK.out _ _ (fun _ => hSX) ?_
  clear hK K
  have zX := q4.size
  have nb := new_below w4 (.cells #[.int .i64 o, .int .i64 d, .int .i64 b, .int .i64 k, .slice av zs.length cv, .int .i64 d1, .int .i64 q1, .slice u0 ys.length e0] 95)
  have n1 : (w4.alloc (.cells #[.int .i64 o, .int .i64 d, .int .i64 b, .int .i64 k, .slice av zs.length cv, .int .i64 d1, .int .i64 q1, .slice u0 ys.length e0] 95)).heap.size = w4.heap.size + 1 := World.size_alloc _ _
  have qN := Below.andThen q4 nb
  have hSN : (∀ q, (w4.alloc (.cells #[.int .i64 o, .int .i64 d, .int .i64 b, .int .i64 k, .slice av zs.length cv, .int .i64 d1, .int .i64 q1, .slice u0 ys.length e0] 95)).cell? ⟨N, q, none⟩ = V2.cell? ⟨N, q, none⟩) ∧ (∀ q, (w4.alloc (.cells #[.int .i64 o, .int .i64 d, .int .i64 b, .int .i64 k, .slice av zs.length cv, .int .i64 d1, .int .i64 q1, .slice u0 ys.length e0] 95)).cell? ⟨w.heap.size, q, none⟩ = V2.cell? ⟨w.heap.size, q, none⟩) ∧ (∀ q, (w4.alloc (.cells #[.int .i64 o, .int .i64 d, .int .i64 b, .int .i64 k, .slice av zs.length cv, .int .i64 d1, .int .i64 q1, .slice u0 ys.length e0] 95)).cell? ⟨w.heap.size + 1, q, none⟩ = V2.cell? ⟨w.heap.size + 1, q, none⟩) := ⟨fun q => qN.cell (p := ⟨N, q, none⟩) lX, fun q => qN.cell (p := ⟨w.heap.size, q, none⟩) lC, fun q => qN.cell (p := ⟨w.heap.size + 1, q, none⟩) lA⟩
  refine Late.one (i := 9) (by kernel_rfl) rfl (fun K hK => ?_)
  rw [if_pos (by kernel_rfl)]
  go_wp2_with fail
  refine hK.out _ _ (fun _ => hSN) ?_
  clear hK K hSX
  have PN := HP.out.turned (Turned.ofBelow qN []) (by simp)
  have XN := X.below qN lX
  replace mE := mE.below nb
  have hdis : ∀ y ∈ f5, y ∉ (fc ++ fy) := fun y hy hy' => (hE y hy').2.2.2.2.2.2.2 hy
  refine Late.one (i := 10) (by kernel_rfl) rfl (fun K hK => ?_)
  refine step_appT tTurn (by rfl) _ _ 33 (by rfl) 95 i5 (.agg #[.int .i64 0, .int .i64 0, .int .i64 0, .int .i64 0, .slice none 0 0, .int .i64 0, .int .i64 0, .slice none 0 0]) 96 Tryz.underlying33 hi5 hz50 hz51 hz52 rfl (by decide) (.slice ts1 ts.length tc1) ts f5 (by rfl) PN.m5 ⟨w4.heap.size, 0, none⟩ 1 [.int .i64 o, .int .i64 d, .int .i64 b, .int .i64 k, .slice av zs.length cv, .int .i64 d1, .int .i64 q1, .slice u0 ys.length e0] (o, d, b, k, zs, d1, q1, ys) (fc ++ fy) (by rfl) mE hdis (news_new w4 #[.int .i64 o, .int .i64 d, .int .i64 b, .int .i64 k, .slice av zs.length cv, .int .i64 d1, .int .i64 q1, .slice u0 ys.length e0] _) (by intro u hu; simp at hu; rcases hu with rfl | rfl | rfl | rfl | rfl | rfl | rfl | rfl <;> rfl) (by unfold maxLen; omega) (by omega) ?_
  intro g5 cp5 wZ5 frZ mZ sZ tZ
  have zZ := tZ.size
  have hSZ : (∀ q, wZ5.cell? ⟨N, q, none⟩ = V2.cell? ⟨N, q, none⟩) ∧ (∀ q, wZ5.cell? ⟨w.heap.size, q, none⟩ = V2.cell? ⟨w.heap.size, q, none⟩) ∧ (∀ q, wZ5.cell? ⟨w.heap.size + 1, q, none⟩ = V2.cell? ⟨w.heap.size + 1, q, none⟩) := ⟨fun q => (World.cell?_of_block (tZ.block (N) (by omega) n5)).trans (hSN.1 q), fun q => (World.cell?_of_block (tZ.block (w.heap.size) (by omega) (fun hy => by have := (HP0.out.own5 hy).1; omega))).trans (hSN.2.1 q), fun q => (World.cell?_of_block (tZ.block (w.heap.size + 1) (by omega) (fun hy => by have := (HP0.out.own5 hy).1; omega))).trans (hSN.2.2 q)⟩
  refine hK.out _ _ (fun _ => hSZ) ?_
  clear hK K hSN
  have XZ := XN.turned tZ n5
  have hfr : ∀ y ∈ frZ, (lo ≤ y ∧ y ≠ N) ∧ y ∉ f0 ∧ y ∉ f1 ∧ y ∉ f2 ∧ y ∉ f3 ∧ y ∉ f6 := fun y hy => by
    rcases sZ y hy with l | l | l
    · have r := HP.out.own5 l
      exact ⟨⟨r.1.1, fun e => n5 (e ▸ l)⟩, r.2⟩
    · have r := hE y l
      exact ⟨⟨r.1, r.2.1⟩, r.2.2.1, r.2.2.2.1, r.2.2.2.2.1, r.2.2.2.2.2.1, r.2.2.2.2.2.2.1⟩
    · have r := HP.out.beyond (b := y) (.inl (by omega))
      exact ⟨⟨by omega, by omega⟩, r.1, r.2.1, r.2.2.1, r.2.2.2.1, r.2.2.2.2.1⟩
  have PZ := PN.set5 tZ (fun y hy => (PN.own5 hy).2) mZ (fun y hy => ⟨(hfr y hy).1.1, (hfr y hy).2⟩) (by omega)
  have E : BoxAt wZ5 _ N 35 [.int .i64 x.id, .int .i64 x.n, .int .i64 x.s, vm, .int .i64 x.lost, .int .i64 x.built, .int .i64 x.seq, .int .i64 x.tail, .int .i64 x.gen, vd, .int .i64 x.fuse, .bool x.down, .bool x.broken, vw, vj, .slice (some ⟨g4, 0, none⟩) (an.length + 1) cp4, .slice (some ⟨g5, 0, none⟩) (ts.length + 1) cp5] := XZ.at.set 16 (.slice (some ⟨g5, 0, none⟩) (ts.length + 1) cp5)
  have c16 := XZ.cell 16
  have fz := XZ.frozen 16
  have nz : N ∉ frZ := fun hy => (hfr N hy).1.2 rfl
  have TZ := hidden ((Turned.ofBelow qN (N :: (f0 ++ (f1 ++ (f2 ++ (f3 ++ (f4 ++ f5)))))) ).trans (tZ.mono (fun y hy => List.mem_cons_of_mem _ (mem_six.2 (.inr (.inr (.inr (.inr (.inr (hy))))))))))
  have hPZ := hidden PZ
  have hFR := hidden hfr
  clear PZ hfr mZ sZ tZ mE hE hdis XN PN qN nb n1 zX my ry hy q4 z4
  refine Late.one (i := 11) (by kernel_rfl) rfl (fun K hK => ?_)
  rw [if_pos (by kernel_rfl)]
  go_wp2_with fail
  refine hK.out _ _ (fun _ => hSZ) ?_
  clear hK K
  refine Late.one (i := 12) (by kernel_rfl) rfl (fun K hK => ?_)
  rw [if_pos (by kernel_rfl)]
  go_wp2_with fail
  refine hK.out _ _ (fun _ => hSZ) ?_
  clear hK K
  refine Late.one (i := 13) (by kernel_rfl) rfl (fun K hK => ?_)
  clear hSZ
  rw [if_pos (by kernel_rfl)]
  go_wp2_with fail
  refine hK.out _ _ (fun h => absurd rfl h) ?_
  clear hK K
  refine Late.done (by kernel_rfl) ?_ _
  clear c16 fz XZ
  clear a0 a1 a2 c0 c1 c2 c3 c4 x16
  refine seal_then E ?_
  clear E
  intro V3 E
  have TE : Turned (N :: (f0 ++ (f1 ++ (f2 ++ (f3 ++ (f4 ++ f5)))))) wZ5 V3 := But.asTurned E.but List.mem_cons_self
  have hNf : ∀ y, y ∈ f0 ∨ y ∈ f1 ∨ y ∈ f2 ∨ y ∈ f3 ∨ y ∈ f6 ∨ y ∈ frZ → y < N ∨ N + 1 ≤ y := fun y hmem => by
    have : y ≠ N := fun e => by
      subst e
      rcases hmem with l | l | l | l | l | l
      · exact nq0 l
      · exact nq1 l
      · exact nq2 l
      · exact nq3 l
      · exact nq4 l
      · exact nz l
    omega
  have HP := hidden ((hPZ.out.but E.but hNf).widen (by have := E.size; omega) : EngP V3 lo V3.heap.size _ _ _ _ _ _ _ f0 f1 f2 f3 f6 frZ)
  have HT := hidden ((HT0.out.trans TZ.out).trans TE)
  have zE := Nat.le_of_eq E.size
  have zE2 := Nat.le_of_eq E.size.symm
  have X := E.box
  have hN' : N ∉ f0 ++ (f1 ++ (f2 ++ (f3 ++ (f6 ++ frZ)))) := fun h => by have := hNf N (mem_six.1 h); omega
  clear E A C
  go_wp2
  refine bodyPost_end (v := .tuple #[]) (results_none rfl _ _ _) rfl ?_
  exact ⟨rfl, ⟨_, _, _, _, _, _, _, f0, f1, f2, f3, f6, frZ, rfl, X, HP.out, hN'⟩, HT.out⟩

end Go.Proofs.YtbkkjfgjlapadaaGreat

/-
  Plain lemmas on one store into a row of a call's own, by its blocks, and on a row's elements with theirs. No condition; nothing of the program is named here.
-/
namespace Go.Proofs.YtbkkjfgjlapadaaGreat
open Go.RowKit

/-- One store into a row of what takes one cell: what is stored shares no block with the row. -/
theorem row_set1 {t : Ty} {E : TypeId} {w : World} {g n cap j : Nat} {d : List t.D} {v : Value} {x : t.D} {fp f : List Nat} (ht : t.n = 1) (h : (rowTy t E).Mine w [.slice (some ⟨g, 0, none⟩) n cap] d fp)
    (hj : j < n) (hx : t.Mine w [v] x f) (hdis : ∀ b ∈ f, b ∉ fp) :
    (∃ old, w.cell? ⟨g, j, none⟩ = some old) ∧ w.frozen? ⟨g, j, none⟩ = false ∧ g ∈ fp ∧ ∃ fp', (rowTy t E).Mine (w.setCell ⟨g, j, none⟩ v) [.slice (some ⟨g, 0, none⟩) n cap] (d.set j x) fp' ∧ ∀ b ∈ fp', b ∈ fp ∨ b ∈ f := by
  obtain ⟨h, hn⟩ := h
  obtain ⟨hx, hn'⟩ := hx
  rcases h with ⟨h1, _⟩ | ⟨b, cap', cur, fps, h1, h2, h3, h4, h5, h6, h7, h8⟩
  · simp at h1
  · simp only [List.cons.injEq, Value.slice.injEq, Option.some.injEq, Addr.mk.injEq, and_true] at h1
    obtain ⟨rfl, rfl, rfl⟩ := h1
    have hgp : g ∈ fp := by rw [h6]; exact List.mem_cons_self
    have hjc : j < cur.size := by rw [h5, ht]; omega
    have hgf' : g ∉ f := fun hm => hdis g hm hgp
    rw [h6, List.nodup_cons] at hn
    obtain ⟨hgf, hnf⟩ := hn
    have hd2 : ∀ b ∈ f, b ∉ fps.flatten := fun b hb hbl => hdis b hb (by rw [h6]; exact List.mem_cons_of_mem _ hbl)
    obtain ⟨hsn, hsm⟩ := flatten_set_nodup fps j f hnf hn' hd2
    have hoth : ∀ b, b ≠ g → (w.setCell ⟨g, j, none⟩ v).heap[b]? = w.heap[b]? := fun b hb => Below.heap_setCell _ _ _ _ hb
    have hsz : w.heap.size ≤ (w.setCell ⟨g, j, none⟩ v).heap.size := by simp
    refine ⟨⟨cur[j], ?_⟩, frozen_of_row w g j cur E h4, hgp, g :: (fps.set j f).flatten, ⟨.inr ⟨g, cap, cur.setIfInBounds j v, fps.set j f, by rw [List.length_set], by rw [List.length_set]; exact h2, h3, heap_setCell_same w g j cur E v h4, by simpa using h5, rfl, by rw [List.length_set, List.length_set]; exact h7, fun i y hy => ?_⟩, ?_⟩, ?_⟩
    · rw [cell_of_row w g j cur E (0, 0) h4, Array.getElem?_eq_getElem hjc]
    · by_cases hij : i = j
      · subst hij
        have hyx : y = x := by
          rw [List.getElem?_set_self (by omega)] at hy
          simpa using hy.symm
        subst hyx
        refine ⟨f, List.getElem?_set_self (by rw [h7]; omega), ?_⟩
        have e : ((cur.setIfInBounds i v).toList.drop (i * t.n)).take t.n = [v] := by
          rw [ht, Nat.mul_one, Array.toList_setIfInBounds, List.drop_set, if_neg (by omega), Nat.sub_self, List.drop_eq_getElem_cons (by simpa using hjc), List.set_cons_zero]
          simp
        rw [e]
        exact t.owKept hx (fun b hb => hoth b (fun e => hgf' (e ▸ hb))) hsz
      · rw [List.getElem?_set_ne (fun e => hij e.symm)] at hy
        obtain ⟨f2, hf, ho⟩ := h8 i y hy
        refine ⟨f2, by rw [List.getElem?_set_ne (fun e => hij e.symm)]; exact hf, ?_⟩
        have e : ((cur.setIfInBounds j v).toList.drop (i * t.n)).take t.n = (cur.toList.drop (i * t.n)).take t.n := by
          rw [ht, Nat.mul_one, Array.toList_setIfInBounds]
          apply List.ext_getElem?
          intro k
          rw [List.getElem?_take, List.getElem?_take, List.getElem?_drop, List.getElem?_drop]
          by_cases hk : k < 1
          · rw [if_pos hk, if_pos hk, List.getElem?_set_ne (by omega)]
          · rw [if_neg hk, if_neg hk]
        rw [e]
        exact t.owKept ho (fun b hb => hoth b (fun e' => hgf (by rw [← e']; exact List.mem_flatten.2 ⟨f2, List.mem_of_getElem? hf, hb⟩))) hsz
    · rw [List.nodup_cons]
      refine ⟨fun hm => ?_, hsn⟩
      rcases hsm g hm with hm | hm
      · exact hgf' hm
      · exact hgf hm
    · intro b hb
      rcases List.mem_cons.1 hb with rfl | hb
      · exact .inl hgp
      · rcases hsm b hb with hb | hb
        · exact .inr hb
        · exact .inl (by rw [h6]; exact List.mem_cons_of_mem _ hb)

theorem flatten_apart : ∀ (fs : List (List Nat)) (i j : Nat) (f f' : List Nat), fs.flatten.Nodup → fs[i]? = some f → fs[j]? = some f' → i < j → ∀ b ∈ f, b ∉ f'
  | [], i, _, _, _, _, h, _, _ => by simp at h
  | g :: fs, 0, j + 1, f, f', hn, hi, hj, _ => by
    simp at hi
    subst hi
    rw [List.flatten_cons, List.nodup_append] at hn
    intro b hb hb'
    refine hn.2.2 b hb b (List.mem_flatten.2 ⟨f', List.mem_of_getElem? (i := j) (by simpa using hj), hb'⟩) rfl
  | g :: fs, i + 1, j + 1, f, f', hn, hi, hj, hij => by
    rw [List.flatten_cons, List.nodup_append] at hn
    exact flatten_apart fs i j f f' hn.2.1 (by simpa using hi) (by simpa using hj) (by omega)
  | g :: fs, i, 0, f, f', _, _, _, hij => by omega

/-- A row's elements, each with its blocks, no two sharing any. -/
theorem row_parts {t : Ty} {E : TypeId} {w : World} {g n cap : Nat} {d : List t.D} {fp : List Nat} (h : (rowTy t E).Mine w [.slice (some ⟨g, 0, none⟩) n cap] d fp) :
    g ∈ fp ∧ ∃ F : Nat → List Nat, (∀ i x, d[i]? = some x → ∃ cs, t.Mine w cs x (F i) ∧ g ∉ F i ∧ (∀ b ∈ F i, b ∈ fp) ∧ ∀ k, k < t.n → w.cell? ⟨g, i * t.n + k, none⟩ = cs[k]?) ∧ ∀ i j, i < j → j < d.length → ∀ b ∈ F i, b ∉ F j := by
  obtain ⟨h, hn⟩ := h
  rcases h with ⟨h1, _⟩ | ⟨b, cap', cur, fps, h1, h2, h3, h4, h5, h6, h7, h8⟩
  · simp at h1
  · simp only [List.cons.injEq, Value.slice.injEq, Option.some.injEq, Addr.mk.injEq, and_true] at h1
    obtain ⟨rfl, rfl, rfl⟩ := h1
    rw [h6, List.nodup_cons] at hn
    obtain ⟨hgf, hnf⟩ := hn
    refine ⟨by rw [h6]; exact List.mem_cons_self, fun i => fps.getD i [], fun i x hx => ?_, fun i j hij hj b hb hb' => ?_⟩
    · obtain ⟨f, hf, ho⟩ := h8 i x hx
      obtain ⟨k1, k2, _⟩ := flatten_part hnf hf
      have hgd : fps.getD i [] = f := by rw [List.getD_eq_getElem?_getD, hf]; rfl
      simp only [hgd]
      refine ⟨_, ⟨ho, k1⟩, fun hm => hgf (k2 g hm), fun b hb => by rw [h6]; exact List.mem_cons_of_mem _ (k2 b hb), fun k hk => ?_⟩
      rw [cell_of_row w g _ cur E (0, 0) h4, List.getElem?_take, if_pos hk, List.getElem?_drop]
      simp
    · have e1 : fps[i]? = some (fps.getD i []) := by rw [List.getD_eq_getElem?_getD, List.getElem?_eq_getElem (by omega)]; rfl
      have e2 : fps[j]? = some (fps.getD j []) := by rw [List.getD_eq_getElem?_getD, List.getElem?_eq_getElem (by omega)]; rfl
      exact flatten_apart fps i j _ _ hnf e1 e2 hij b hb hb'

end Go.Proofs.YtbkkjfgjlapadaaGreat

/-
  One element is taken out of a row of one's own: those behind it move up; the element's own memory stays. No condition; nothing of the program is named here.
-/
namespace Go.Proofs.YtbkkjfgjlapadaaGreat
open Go.RowKit

theorem erase_flat {l : List (List Nat)} {k : Nat} {f : List Nat} (h : l[k]? = some f) : l.flatten = (l.take k).flatten ++ (f ++ (l.drop (k + 1)).flatten) ∧ (l.eraseIdx k).flatten = (l.take k).flatten ++ (l.drop (k + 1)).flatten := by
  obtain ⟨hk, he⟩ := List.getElem?_eq_some_iff.1 h
  constructor
  · rw [show l.flatten = (l.take k ++ l.drop k).flatten by rw [List.take_append_drop], List.flatten_append, List.drop_eq_getElem_cons hk, List.flatten_cons, he]
  · rw [List.eraseIdx_eq_take_drop_succ, List.flatten_append]

theorem row_del {t : Ty} {E : TypeId} {w w' : World} {g n cap k : Nat} {d : List t.D} {x : t.D} {fp : List Nat} (hM : (rowTy t E).Mine w [.slice (some ⟨g, 0, none⟩) n cap] d fp) (hx : d[k]? = some x)
    (hsz : w.heap.size ≤ w'.heap.size) (hoth : ∀ b ∈ fp, b ≠ g → w'.heap[b]? = w.heap[b]?)
    (hcur : ∀ cur, w.heap[g]? = some (.cells cur E (0, 0)) → cur.size = cap * t.n → n ≤ cap → ∃ cur', w'.heap[g]? = some (.cells cur' E (0, 0)) ∧ cur'.size = cur.size ∧ ∀ m, m < (n - 1) * t.n → cur'.toList[m]? = if m < k * t.n then cur.toList[m]? else cur.toList[m + t.n]?) :
    ∃ cs f fr, t.Mine w' cs x f ∧ (∀ q, q < t.n → w.cell? ⟨g, k * t.n + q, none⟩ = cs[q]?) ∧ (rowTy t E).Mine w' [.slice (some ⟨g, 0, none⟩) (n - 1) cap] (d.eraseIdx k) fr ∧ g ∈ fr ∧ (∀ b ∈ f, b ∈ fp ∧ b ∉ fr) ∧ ∀ b ∈ fr, b ∈ fp := by
  obtain ⟨h, hn⟩ := hM
  rcases h with ⟨h1, _⟩ | ⟨b, cap', cur, fps, h1, h2, h3, h4, h5, h6, h7, h8⟩
  · simp at h1
  · simp only [List.cons.injEq, Value.slice.injEq, Option.some.injEq, Addr.mk.injEq, and_true] at h1
    obtain ⟨rfl, rfl, rfl⟩ := h1
    obtain ⟨f, hf, ho⟩ := h8 k x hx
    obtain ⟨e1, e2⟩ := erase_flat hf
    have hk : k < d.length := (List.getElem?_eq_some_iff.1 hx).1
    have hkf : k < fps.length := by rw [h7]; exact hk
    rw [h6, List.nodup_cons, e1] at hn
    obtain ⟨hg, hnf⟩ := hn
    obtain ⟨cur', c1, c2, c3⟩ := hcur cur h4 h5 h2
    have hfp : ∀ b ∈ f, b ∈ fp ∧ b ≠ g := fun b hb => by
      have hm : b ∈ (fps.take k).flatten ++ (f ++ (fps.drop (k + 1)).flatten) := List.mem_append_right _ (List.mem_append_left _ hb)
      exact ⟨by rw [h6, e1]; exact List.mem_cons_of_mem _ hm, fun e => hg (e ▸ hm)⟩
    have hin : ∀ i f', fps[i]? = some f' → ∀ b ∈ f', b ∈ fp ∧ b ≠ g := fun i f' hf' b hb => by
      have hm : b ∈ fps.flatten := List.mem_flatten.2 ⟨f', List.mem_of_getElem? hf', hb⟩
      exact ⟨by rw [h6]; exact List.mem_cons_of_mem _ hm, fun e => hg (by rw [← e1]; exact e ▸ hm)⟩
    rw [List.nodup_append, List.nodup_append] at hnf
    obtain ⟨n1, ⟨n2, n3, n4⟩, n5⟩ := hnf
    have hsub : ∀ b ∈ (fps.eraseIdx k).flatten, b ∈ (fps.take k).flatten ++ (f ++ (fps.drop (k + 1)).flatten) := fun b hb => by
      rw [e2] at hb
      rcases List.mem_append.1 hb with hb | hb
      · exact List.mem_append_left _ hb
      · exact List.mem_append_right _ (List.mem_append_right _ hb)
    have hle : (d.length - 1 + 1) * t.n = d.length * t.n := by rw [show d.length - 1 + 1 = d.length by omega]
    refine ⟨(cur.toList.drop (k * t.n)).take t.n, f, g :: (fps.eraseIdx k).flatten, ⟨t.owKept ho (fun b hb => hoth b (hfp b hb).1 (hfp b hb).2) hsz, n2⟩, fun q hq => ?_, ⟨.inr ⟨g, cap, cur', fps.eraseIdx k, by rw [List.length_eraseIdx_of_lt hk], by rw [List.length_eraseIdx_of_lt hk]; omega, h3, c1, by rw [c2]; exact h5, rfl, by rw [List.length_eraseIdx_of_lt hk, List.length_eraseIdx_of_lt hkf, h7], fun i y hy => ?_⟩, ?_⟩, List.mem_cons_self, fun b hb => ⟨(hfp b hb).1, ?_⟩, fun b hb => ?_⟩
    · rw [cell_of_row w g _ cur E (0, 0) h4, List.getElem?_take, if_pos hq, List.getElem?_drop]
      simp
    · have hil : i < d.length - 1 := by
        have := (List.getElem?_eq_some_iff.1 hy).1
        rwa [List.length_eraseIdx_of_lt hk] at this
      have hil2 : (i + 1) * t.n ≤ (d.length - 1) * t.n := Nat.mul_le_mul_right _ hil
      rw [Nat.add_mul] at hil2
      rw [List.getElem?_eraseIdx] at hy ⊢
      by_cases hik : i < k
      · have hik2 : (i + 1) * t.n ≤ k * t.n := Nat.mul_le_mul_right _ hik
        rw [Nat.add_mul] at hik2
        rw [if_pos hik] at hy ⊢
        obtain ⟨f', hf', ho2⟩ := h8 i y hy
        have hp : (cur'.toList.drop (i * t.n)).take t.n = (cur.toList.drop (i * t.n)).take t.n := by
          apply List.ext_getElem?
          intro q
          rw [List.getElem?_take, List.getElem?_take]
          by_cases hq : q < t.n
          · rw [if_pos hq, if_pos hq, List.getElem?_drop, List.getElem?_drop, c3 _ (by omega), if_pos (by omega)]
          · rw [if_neg hq, if_neg hq]
        rw [hp]
        exact ⟨f', hf', t.owKept ho2 (fun b hb => hoth b (hin i f' hf' b hb).1 (hin i f' hf' b hb).2) hsz⟩
      · have hik2 : k * t.n ≤ i * t.n := Nat.mul_le_mul_right _ (by omega)
        rw [if_neg hik] at hy ⊢
        obtain ⟨f', hf', ho2⟩ := h8 (i + 1) y hy
        have hp : (cur'.toList.drop (i * t.n)).take t.n = (cur.toList.drop ((i + 1) * t.n)).take t.n := by
          apply List.ext_getElem?
          intro q
          rw [List.getElem?_take, List.getElem?_take]
          by_cases hq : q < t.n
          · rw [if_pos hq, if_pos hq, List.getElem?_drop, List.getElem?_drop, c3 _ (by omega), if_neg (by omega), show (i + 1) * t.n + q = i * t.n + q + t.n by rw [Nat.add_mul]; omega]
          · rw [if_neg hq, if_neg hq]
        rw [hp]
        exact ⟨f', hf', t.owKept ho2 (fun b hb => hoth b (hin (i + 1) f' hf' b hb).1 (hin (i + 1) f' hf' b hb).2) hsz⟩
    · rw [List.nodup_cons]
      refine ⟨fun hb => hg (hsub g hb), ?_⟩
      rw [e2, List.nodup_append]
      exact ⟨n1, n3, fun a ha b hb => n5 a ha b (List.mem_append_right _ hb)⟩
    · intro hb'
      rcases List.mem_cons.1 hb' with e | hb'
      · exact (hfp b hb).2 e
      · rw [e2] at hb'
        rcases List.mem_append.1 hb' with hb' | hb'
        · exact n5 b hb' b (List.mem_append_left _ hb) rfl
        · exact n4 b hb b hb' rfl
    · rcases List.mem_cons.1 hb with e | hb
      · rw [e, h6]; exact List.mem_cons_self
      · rw [h6, e1]; exact List.mem_cons_of_mem _ (hsub b hb)

/-- What an append of the elements behind it, into its place, and a clearing of the last one leave in the block. -/
theorem del_cells {g : Nat} {E : TypeId} {w : World} {cur : Array Value} {k n c cap : Nat} {zs : List Value} (h : w.heap[g]? = some (.cells cur E (0, 0))) (hcs : cur.size = cap * c) (hn : n ≤ cap) (hk : k < n) (hz : zs.length = c) :
    ∃ cur', ((w.setCells g (k * c) ((cur.toList.drop ((k + 1) * c)).take ((n - (k + 1)) * c))).setCells g ((n - 1) * c) zs).heap[g]? = some (.cells cur' E (0, 0)) ∧ cur'.size = cur.size ∧ ∀ m, m < (n - 1) * c → cur'.toList[m]? = if m < k * c then cur.toList[m]? else cur.toList[m + c]? := by
  have h1 : n * c ≤ cap * c := Nat.mul_le_mul_right _ hn
  have h2 : (k + 1) * c ≤ n * c := Nat.mul_le_mul_right _ hk
  have h3 : (n - 1) * c + c = n * c := by rw [← Nat.succ_mul]; congr 1; omega
  have h4 : (n - (k + 1)) * c = n * c - (k + 1) * c := Nat.sub_mul _ _ _
  have h5 : (k + 1) * c = k * c + c := Nat.succ_mul _ _
  have hl : ((cur.toList.drop ((k + 1) * c)).take ((n - (k + 1)) * c)).length = (n - (k + 1)) * c := by
    rw [List.length_take, List.length_drop, Array.length_toList]
    omega
  obtain ⟨c1, a1, a2, a3⟩ := setCells_row (E := E) ((cur.toList.drop ((k + 1) * c)).take ((n - (k + 1)) * c)) (k * c) w cur h (by omega)
  obtain ⟨c2, b1, b2, b3⟩ := setCells_row (E := E) zs ((n - 1) * c) _ c1 a1 (by omega)
  refine ⟨c2, b1, by rw [b2, a2], fun m hm => ?_⟩
  rw [b3, if_neg (by omega), a3]
  by_cases hmk : m < k * c
  · rw [if_neg (by omega), if_pos hmk]
  · rw [if_pos (by omega), if_neg hmk, List.getElem?_take, if_pos (by omega), List.getElem?_drop, show (k + 1) * c + (m - k * c) = m + c by omega]

/-- 'clear' of one element: its cells hold the type's zero value. -/
theorem run_clear_one {P : Program} (w : World) (t e ty : TypeId) (z : Value) (zs : List Value) (ht : P.underlying t = some (.slice e)) (hv : ∀ w, (zeroValue e).run P w = .ok z w) (hz : (Builtin.zeroCells z.cells 1).toList = zs) (h1 : ∀ v ∈ zs, v.oneCell' = true) (b o c : Nat)
    (hc : ∀ j, j < zs.length → (w.cell? ⟨b, o + j, none⟩).isSome = true) (hf : ∀ j, j < zs.length → w.frozen? ⟨b, o + j, none⟩ = false) :
    (Builtin.clear_ #[t] ty #[.slice (some ⟨b, o, none⟩) 1 c]).run P w = .ok (.tuple #[]) (w.setCells b o zs) := by
  have hst := run_storeCells_cells (P := P) b o zs 0 w (by simpa using hc) (by simpa using hf) h1
  simp only [Nat.add_zero] at hst
  simp [Builtin.clear_, run_underlying ht, hv, hz, hst]

/-- All its cells are plain ones. -/
def One (t : Ty) : Prop := ∀ (w : World) (vs : List Value) (d : t.D), t.Rd w vs d → ∀ v ∈ vs, v.oneCell' = true
theorem int_one : One intTy := fun w vs d h v hv => by
  obtain ⟨_, h, _⟩ := h
  rw [h] at hv
  simp at hv
  rw [hv]
  rfl
theorem row_one {t : Ty} {E : TypeId} : One (rowTy t E) := fun w vs d h v hv => by
  obtain ⟨_, a, cap, h, _⟩ := h
  rw [h] at hv
  simp at hv
  rw [hv]
  rfl
theorem pair_one {t u : Ty} (ht : One t) (hu : One u) : One (pairTy t u) := fun w vs d h v hv => by
  obtain ⟨fp, f1, f2, _, h1, h2, _⟩ := h
  rw [← List.take_append_drop t.n vs] at hv
  rcases List.mem_append.1 hv with hv | hv
  · exact ht w _ d.1 ⟨f1, h1⟩ v hv
  · exact hu w _ d.2 ⟨f2, h2⟩ v hv
theorem row_plain {t : Ty} {E : TypeId} {w : World} {g n cap : Nat} {d : List t.D} {fp : List Nat} {cur : Array Value} (hM : (rowTy t E).Mine w [.slice (some ⟨g, 0, none⟩) n cap] d fp) (ho : One t) (hc : w.heap[g]? = some (.cells cur E (0, 0))) {m : Nat} {v : Value} (hv : cur.toList[m]? = some v) (hm : m < n * t.n) : v.oneCell' = true := by
  rcases hM.1 with ⟨h1, _⟩ | ⟨b, cap', cur', fps, h1, h2, h3, h4, h5, h6, h7, h8⟩
  · simp at h1
  · simp only [List.cons.injEq, Value.slice.injEq, Option.some.injEq, Addr.mk.injEq, and_true] at h1
    obtain ⟨rfl, rfl, rfl⟩ := h1
    rw [hc] at h4
    simp at h4
    subst h4
    have hn : 0 < t.n := Nat.pos_of_ne_zero (fun e => by rw [e] at hm; simp at hm)
    have hi : m / t.n < d.length := Nat.div_lt_of_lt_mul (by rw [Nat.mul_comm]; exact hm)
    obtain ⟨f, _, hr⟩ := h8 (m / t.n) _ (List.getElem?_eq_getElem hi)
    refine ho w _ _ ⟨f, t.owRd hr⟩ v (List.mem_of_getElem? (i := m % t.n) ?_)
    rw [List.getElem?_take, if_pos (Nat.mod_lt _ hn), List.getElem?_drop, Nat.div_add_mod']
    exact hv

end Go.Proofs.YtbkkjfgjlapadaaGreat

/-
  The walks of slices.Delete of one element of a list of commands, of jobs, of answers that is a call's own. Condition: at most 2097152 elements.
-/
namespace Go.Proofs.YtbkkjfgjlapadaaGreat
open Go.RowKit

theorem wp_of_ifD {c : Bool} {p G : Prop} (hc : c = true) (h : if c = true then p else G) : p := by
  rw [if_pos hc] at h
  exact h


set_option maxRecDepth 20000 in
set_option maxHeartbeats 3200000 in
theorem delCmd_any (w : World) (g cap k : Nat) (d : List CmdD) (x : CmdD) (fp : List Nat) (hM : (tCmdS 38).Mine w [.slice (some ⟨g, 0, none⟩) d.length cap] d fp) (hx : d[k]? = some x) (hd : d.length ≤ 2097152) :
    Calls Tryz.prog 142 #[.slice (some ⟨g, 0, none⟩) d.length cap, .int .i64 k, .int .i64 (k + 1)] w fun e w' => e = .returned (.slice (some ⟨g, 0, none⟩) (d.length - 1) cap) ∧ (∃ cs f fr, tCmd.Mine w' cs x f ∧ (∀ q, q < 5 → w.cell? ⟨g, k * 5 + q, none⟩ = cs[q]?) ∧ (tCmdS 38).Mine w' [.slice (some ⟨g, 0, none⟩) (d.length - 1) cap] (d.eraseIdx k) fr ∧ g ∈ fr ∧ (∀ b ∈ f, b ∈ fp ∧ b ∉ fr) ∧ ∀ b ∈ fr, b ∈ fp) ∧ Turned fp w w' := by
  obtain ⟨cur, hc⟩ := mine_block hM
  obtain ⟨hgp, _⟩ := row_parts hM
  obtain ⟨_, hcap, hmc⟩ := row_length hM.rd
  obtain ⟨i0, hi, hz0, hz1, hz2⟩ := info_parts Tryz.infoCmd14
  have hk : k < d.length := (List.getElem?_eq_some_iff.1 hx).1
  obtain ⟨m, hm⟩ : ∃ m, d.length = m + 1 := ⟨d.length - 1, by omega⟩
  have hm1 : d.length - 1 = m := by omega
  have hcs : cur.size = cap * 5 := by
    rcases hM.1 with ⟨h1, _⟩ | ⟨b, cap', cur', fps, h1, h2, h3, h4, h5, _⟩
    · simp at h1
    · simp only [List.cons.injEq, Value.slice.injEq, Option.some.injEq, Addr.mk.injEq, and_true] at h1
      obtain ⟨rfl, -, rfl⟩ := h1
      rw [hc] at h4
      simp at h4
      rw [h4]
      exact h5
  obtain ⟨news, hnews⟩ : ∃ news, news = (cur.toList.drop ((k + 1) * 5)).take ((d.length - (k + 1)) * 5) := ⟨_, rfl⟩
  have hlen : news.length = (d.length - (k + 1)) * 5 := by
    have hl0 : cur.toList.length = cap * 5 := by rw [Array.length_toList]; exact hcs
    rw [hnews, List.length_take, List.length_drop, hl0]
    omega
  obtain ⟨A, hA, hsrc⟩ : ∃ A : Addr, (if cap = k + 1 then some (⟨g, 0, none⟩ : Addr) else some ⟨g, (k + 1) * 5, none⟩) = some A ∧ Hid (∀ t u, news[t]? = some u → w.drew.cell? (A.add t) = some u) := by
    by_cases h : cap = k + 1
    · refine ⟨⟨g, 0, none⟩, by simp [h], fun t u hu => ?_⟩
      have h0 : news.length = 0 := by rw [hlen]; omega
      rw [List.length_eq_zero_iff.1 h0] at hu
      simp at hu
    · refine ⟨⟨g, (k + 1) * 5, none⟩, by simp [h], fun t u hu => ?_⟩
      have ht : t < (d.length - (k + 1)) * 5 := by
        have := (List.getElem?_eq_some_iff.1 hu).1
        rwa [hlen] at this
      rw [hnews, List.getElem?_take, if_pos ht, List.getElem?_drop, Array.getElem?_toList] at hu
      rw [Addr.add_lit]
      exact (cell_of_row w g _ cur 38 (0, 0) hc).trans hu
  obtain ⟨W1, hW1⟩ : ∃ W1, W1 = w.drew.setCells g (0 + k * 5) news := ⟨_, rfl⟩
  have hW1' : W1 = w.drew.setCells g (k * 5) news := by rw [hW1, Nat.zero_add]
  obtain ⟨cur1, k1, k2, k3⟩ := setCells_row (E := 38) news (k * 5) w.drew cur hc (by rw [hlen, hcs]; omega)
  rw [← hW1'] at k1
  have hcl : ∀ ty, (Builtin.clear_ #[30] ty #[.slice (some ⟨g, m * 5, none⟩) 1 (cap - m)]).run Tryz.prog W1 = .ok (.tuple #[]) (W1.setCells g (m * 5) [.int .i64 0, .int .i64 0, .int .i64 0, .int .i64 0, .slice none 0 0]) := fun ty =>
    run_clear_one W1 _ _ ty (.agg #[.int .i64 0, .int .i64 0, .int .i64 0, .int .i64 0, .slice none 0 0]) _ Tryz.underlying30 Tryz.zeroValue38 (by kernel_rfl) (by intro v hv; simp at hv; rcases hv with rfl | rfl | rfl | rfl | rfl <;> rfl) g (m * 5) _
      (fun j hj => by rw [cell_of_row W1 g _ cur1 38 (0, 0) k1, Array.getElem?_eq_getElem (by rw [k2, hcs]; simp at hj; omega)]; rfl) (fun j _ => frozen_of_row W1 g _ cur1 38 k1)
  have s2 : Hid (∀ u ∈ news, u.oneCell' = true) := by
    intro u hu
    obtain ⟨t, ht⟩ := List.mem_iff_getElem?.1 hu
    have hl := (List.getElem?_eq_some_iff.1 ht).1
    rw [hlen] at hl
    rw [hnews, List.getElem?_take, if_pos hl, List.getElem?_drop] at ht
    exact row_plain hM (pair_one int_one (pair_one int_one (pair_one int_one (pair_one int_one row_one)))) hc ht (by show _ < d.length * 5; omega)
  have s3 : Hid (∀ t, t < news.length → (w.drew.cell? ⟨g, 0 + k * 5 + t, none⟩).isSome = true ∧ w.drew.frozen? ⟨g, 0 + k * 5 + t, none⟩ = false) := by
    intro t ht
    rw [hlen] at ht
    exact ⟨by rw [show w.drew.cell? ⟨g, 0 + k * 5 + t, none⟩ = cur[0 + k * 5 + t]? from cell_of_row w g _ cur 38 (0, 0) hc, Array.getElem?_eq_getElem (by rw [hcs]; omega)]; rfl, frozen_of_row w g _ cur 38 hc⟩
  have HW := hidden hW1
  have HL := hidden hlen
  have tk4 : (0 : Int) ≤ (k : Int) + 1 := by omega
  have tk0 : (0 : Int) ≤ (k : Int) := by omega
  have tk1 : (k : Int) ≤ (cap : Int) := by omega
  have tk2 : (k : Int) + 1 ≤ (d.length : Int) := by omega
  have tk3 : (d.length : Int) ≤ (cap : Int) := by omega
  have hwr : IntKind.i64.wrap ((k : Int) + 1) = (k : Int) + 1 := IntWalk.i64_in _ (by omega)
  have tk5 : (m : Int) ≤ (d.length : Int) := by omega
  have tk6 : (0 : Int) ≤ (m : Int) := by omega
  have hkm : k + (d.length - (k + 1)) = m := by omega
  have hcm : ¬ cap = m := by omega
  have hdm : d.length - m = 1 := by omega
  have HN := hidden hnews
  have HC := hidden hc
  have HM1 := hidden hm1
  have HMM := hidden hm
  have HWW := hidden hW1'
  clear hnews hlen hW1 hc hm1 hm hW1' k1 k2 k3
  go_enter Tryz.func142, Tryz.ntmps142
  go_wp2_with fail
  refine wp_region_held_drew (S := fun _ => True) (by kernel_rfl) trivial (fun hHeld => ?_)
  refine held_t 0 hHeld ?_
  refine held_t 1 hHeld ?_
  refine held_t 2 hHeld ?_
  refine held_t 3 hHeld ?_
  refine held_t 4 hHeld ?_
  refine held_t 5 hHeld ?_
  refine held_one (i := 6) (by kernel_rfl) rfl (by kernel_rfl) (fun K hK => ?_)
  refine wp_of_ifD (G := True) (by kernel_rfl) (step_append_room (ops := #[]) rfl (.tmp 22) (.tmp 25) 30 rfl 38 i0 5 Tryz.underlying30 hi hz1 g 0 k cap (by rfl) A (d.length - (k + 1)) (cap - (k + 1)) news (by rfl) HL.out hsrc.out s2.out (by have := HMM.out; omega) s3.out ?_)
  rw [← HW.out]
  clear hHeld
  refine hK.out _ _ trivial (fun hHeld => ?_)
  clear hK K
  simp only [hkm, Act.put, List.setIfInBounds_toArray, List.set_cons_zero, List.set_cons_succ]
  refine held_t 7 hHeld ?_
  refine wpAnyH_done (by kernel_rfl) ?_ _
  clear hHeld
  go_wp2
  refine bodyPost_ret (v := .slice (some ⟨g, 0, none⟩) m cap) (by simp [results, Tryz.results142, go_sem]) rfl ?_
  have hT : Turned [g] w (W1.setCells g (m * 5) [.int .i64 0, .int .i64 0, .int .i64 0, .int .i64 0, .slice none 0 0]) := by
    rw [HWW.out]
    exact (Turned.undrew (setCells_turned (g := g) news (k * 5) w.drew)).trans (setCells_turned _ _ _)
  refine ⟨by rw [HM1.out], ?_, hT.mono (by simp; exact hgp)⟩
  refine row_del hM hx hT.size (fun b hb hne => hT.block b (hM.lt b hb) (by simpa using hne)) (fun cur' hc' hs' hn' => ?_)
  rw [HC.out] at hc'
  simp only [Option.some.injEq, Obj.cells.injEq, and_true] at hc'
  subst hc'
  have hd := del_cells (k := k) (n := d.length) (c := 5) (cap := cap) (zs := [.int .i64 0, .int .i64 0, .int .i64 0, .int .i64 0, .slice none 0 0]) (w := w.drew) HC.out hcs hn' hk rfl
  rw [HM1.out, ← HN.out, ← HWW.out] at hd
  rw [HM1.out]
  exact hd


set_option maxRecDepth 20000 in
set_option maxHeartbeats 3200000 in
theorem delJob_any (w : World) (g cap k : Nat) (d : List JobD) (x : JobD) (fp : List Nat) (hM : (tJobS 92).Mine w [.slice (some ⟨g, 0, none⟩) d.length cap] d fp) (hx : d[k]? = some x) (hd : d.length ≤ 2097152) :
    Calls Tryz.prog 152 #[.slice (some ⟨g, 0, none⟩) d.length cap, .int .i64 k, .int .i64 (k + 1)] w fun e w' => e = .returned (.slice (some ⟨g, 0, none⟩) (d.length - 1) cap) ∧ (∃ cs f fr, tJob.Mine w' cs x f ∧ (∀ q, q < 8 → w.cell? ⟨g, k * 8 + q, none⟩ = cs[q]?) ∧ (tJobS 92).Mine w' [.slice (some ⟨g, 0, none⟩) (d.length - 1) cap] (d.eraseIdx k) fr ∧ g ∈ fr ∧ (∀ b ∈ f, b ∈ fp ∧ b ∉ fr) ∧ ∀ b ∈ fr, b ∈ fp) ∧ Turned fp w w' := by
  obtain ⟨cur, hc⟩ := mine_block hM
  obtain ⟨hgp, _⟩ := row_parts hM
  obtain ⟨_, hcap, hmc⟩ := row_length hM.rd
  obtain ⟨i0, hi, hz0, hz1, hz2⟩ := info_parts Tryz.infoJob15
  have hk : k < d.length := (List.getElem?_eq_some_iff.1 hx).1
  obtain ⟨m, hm⟩ : ∃ m, d.length = m + 1 := ⟨d.length - 1, by omega⟩
  have hm1 : d.length - 1 = m := by omega
  have hcs : cur.size = cap * 8 := by
    rcases hM.1 with ⟨h1, _⟩ | ⟨b, cap', cur', fps, h1, h2, h3, h4, h5, _⟩
    · simp at h1
    · simp only [List.cons.injEq, Value.slice.injEq, Option.some.injEq, Addr.mk.injEq, and_true] at h1
      obtain ⟨rfl, -, rfl⟩ := h1
      rw [hc] at h4
      simp at h4
      rw [h4]
      exact h5
  obtain ⟨news, hnews⟩ : ∃ news, news = (cur.toList.drop ((k + 1) * 8)).take ((d.length - (k + 1)) * 8) := ⟨_, rfl⟩
  have hlen : news.length = (d.length - (k + 1)) * 8 := by
    have hl0 : cur.toList.length = cap * 8 := by rw [Array.length_toList]; exact hcs
    rw [hnews, List.length_take, List.length_drop, hl0]
    omega
  obtain ⟨A, hA, hsrc⟩ : ∃ A : Addr, (if cap = k + 1 then some (⟨g, 0, none⟩ : Addr) else some ⟨g, (k + 1) * 8, none⟩) = some A ∧ Hid (∀ t u, news[t]? = some u → w.drew.cell? (A.add t) = some u) := by
    by_cases h : cap = k + 1
    · refine ⟨⟨g, 0, none⟩, by simp [h], fun t u hu => ?_⟩
      have h0 : news.length = 0 := by rw [hlen]; omega
      rw [List.length_eq_zero_iff.1 h0] at hu
      simp at hu
    · refine ⟨⟨g, (k + 1) * 8, none⟩, by simp [h], fun t u hu => ?_⟩
      have ht : t < (d.length - (k + 1)) * 8 := by
        have := (List.getElem?_eq_some_iff.1 hu).1
        rwa [hlen] at this
      rw [hnews, List.getElem?_take, if_pos ht, List.getElem?_drop, Array.getElem?_toList] at hu
      rw [Addr.add_lit]
      exact (cell_of_row w g _ cur 92 (0, 0) hc).trans hu
  obtain ⟨W1, hW1⟩ : ∃ W1, W1 = w.drew.setCells g (0 + k * 8) news := ⟨_, rfl⟩
  have hW1' : W1 = w.drew.setCells g (k * 8) news := by rw [hW1, Nat.zero_add]
  obtain ⟨cur1, k1, k2, k3⟩ := setCells_row (E := 92) news (k * 8) w.drew cur hc (by rw [hlen, hcs]; omega)
  rw [← hW1'] at k1
  have hcl : ∀ ty, (Builtin.clear_ #[31] ty #[.slice (some ⟨g, m * 8, none⟩) 1 (cap - m)]).run Tryz.prog W1 = .ok (.tuple #[]) (W1.setCells g (m * 8) [.int .i64 0, .int .i64 0, .int .i64 0, .int .i64 0, .slice none 0 0, .int .i64 0, .slice none 0 0, .int .i64 0]) := fun ty =>
    run_clear_one W1 _ _ ty (.agg #[.int .i64 0, .int .i64 0, .int .i64 0, .int .i64 0, .slice none 0 0, .int .i64 0, .slice none 0 0, .int .i64 0]) _ Tryz.underlying31 Tryz.zeroValue92 (by kernel_rfl) (by intro v hv; simp at hv; rcases hv with rfl | rfl | rfl | rfl | rfl | rfl | rfl | rfl <;> rfl) g (m * 8) _
      (fun j hj => by rw [cell_of_row W1 g _ cur1 92 (0, 0) k1, Array.getElem?_eq_getElem (by rw [k2, hcs]; simp at hj; omega)]; rfl) (fun j _ => frozen_of_row W1 g _ cur1 92 k1)
  have s2 : Hid (∀ u ∈ news, u.oneCell' = true) := by
    intro u hu
    obtain ⟨t, ht⟩ := List.mem_iff_getElem?.1 hu
    have hl := (List.getElem?_eq_some_iff.1 ht).1
    rw [hlen] at hl
    rw [hnews, List.getElem?_take, if_pos hl, List.getElem?_drop] at ht
    exact row_plain hM (pair_one int_one (pair_one int_one (pair_one int_one (pair_one int_one (pair_one row_one (pair_one int_one (pair_one row_one int_one))))))) hc ht (by show _ < d.length * 8; omega)
  have s3 : Hid (∀ t, t < news.length → (w.drew.cell? ⟨g, 0 + k * 8 + t, none⟩).isSome = true ∧ w.drew.frozen? ⟨g, 0 + k * 8 + t, none⟩ = false) := by
    intro t ht
    rw [hlen] at ht
    exact ⟨by rw [show w.drew.cell? ⟨g, 0 + k * 8 + t, none⟩ = cur[0 + k * 8 + t]? from cell_of_row w g _ cur 92 (0, 0) hc, Array.getElem?_eq_getElem (by rw [hcs]; omega)]; rfl, frozen_of_row w g _ cur 92 hc⟩
  have HW := hidden hW1
  have HL := hidden hlen
  have tk4 : (0 : Int) ≤ (k : Int) + 1 := by omega
  have tk0 : (0 : Int) ≤ (k : Int) := by omega
  have tk1 : (k : Int) ≤ (cap : Int) := by omega
  have tk2 : (k : Int) + 1 ≤ (d.length : Int) := by omega
  have tk3 : (d.length : Int) ≤ (cap : Int) := by omega
  have hwr : IntKind.i64.wrap ((k : Int) + 1) = (k : Int) + 1 := IntWalk.i64_in _ (by omega)
  have tk5 : (m : Int) ≤ (d.length : Int) := by omega
  have tk6 : (0 : Int) ≤ (m : Int) := by omega
  have hkm : k + (d.length - (k + 1)) = m := by omega
  have hcm : ¬ cap = m := by omega
  have hdm : d.length - m = 1 := by omega
  have HN := hidden hnews
  have HC := hidden hc
  have HM1 := hidden hm1
  have HMM := hidden hm
  have HWW := hidden hW1'
  clear hnews hlen hW1 hc hm1 hm hW1' k1 k2 k3
  go_enter Tryz.func152, Tryz.ntmps152
  go_wp2_with fail
  refine wp_region_held_drew (S := fun _ => True) (by kernel_rfl) trivial (fun hHeld => ?_)
  refine held_t 0 hHeld ?_
  refine held_t 1 hHeld ?_
  refine held_t 2 hHeld ?_
  refine held_t 3 hHeld ?_
  refine held_t 4 hHeld ?_
  refine held_t 5 hHeld ?_
  refine held_one (i := 6) (by kernel_rfl) rfl (by kernel_rfl) (fun K hK => ?_)
  refine wp_of_ifD (G := True) (by kernel_rfl) (step_append_room (ops := #[]) rfl (.tmp 22) (.tmp 25) 31 rfl 92 i0 8 Tryz.underlying31 hi hz1 g 0 k cap (by rfl) A (d.length - (k + 1)) (cap - (k + 1)) news (by rfl) HL.out hsrc.out s2.out (by have := HMM.out; omega) s3.out ?_)
  rw [← HW.out]
  clear hHeld
  refine hK.out _ _ trivial (fun hHeld => ?_)
  clear hK K
  simp only [hkm, Act.put, List.setIfInBounds_toArray, List.set_cons_zero, List.set_cons_succ]
  refine held_t 7 hHeld ?_
  refine wpAnyH_done (by kernel_rfl) ?_ _
  clear hHeld
  go_wp2
  refine bodyPost_ret (v := .slice (some ⟨g, 0, none⟩) m cap) (by simp [results, Tryz.results152, go_sem]) rfl ?_
  have hT : Turned [g] w (W1.setCells g (m * 8) [.int .i64 0, .int .i64 0, .int .i64 0, .int .i64 0, .slice none 0 0, .int .i64 0, .slice none 0 0, .int .i64 0]) := by
    rw [HWW.out]
    exact (Turned.undrew (setCells_turned (g := g) news (k * 8) w.drew)).trans (setCells_turned _ _ _)
  refine ⟨by rw [HM1.out], ?_, hT.mono (by simp; exact hgp)⟩
  refine row_del hM hx hT.size (fun b hb hne => hT.block b (hM.lt b hb) (by simpa using hne)) (fun cur' hc' hs' hn' => ?_)
  rw [HC.out] at hc'
  simp only [Option.some.injEq, Obj.cells.injEq, and_true] at hc'
  subst hc'
  have hd := del_cells (k := k) (n := d.length) (c := 8) (cap := cap) (zs := [.int .i64 0, .int .i64 0, .int .i64 0, .int .i64 0, .slice none 0 0, .int .i64 0, .slice none 0 0, .int .i64 0]) (w := w.drew) HC.out hcs hn' hk rfl
  rw [HM1.out, ← HN.out, ← HWW.out] at hd
  rw [HM1.out]
  exact hd


set_option maxRecDepth 20000 in
set_option maxHeartbeats 3200000 in
theorem delAns_any (w : World) (g cap k : Nat) (d : List AnsD) (x : AnsD) (fp : List Nat) (hM : (tAnsS 55).Mine w [.slice (some ⟨g, 0, none⟩) d.length cap] d fp) (hx : d[k]? = some x) (hd : d.length ≤ 2097152) :
    Calls Tryz.prog 75 #[.slice (some ⟨g, 0, none⟩) d.length cap, .int .i64 k, .int .i64 (k + 1)] w fun e w' => e = .returned (.slice (some ⟨g, 0, none⟩) (d.length - 1) cap) ∧ (∃ cs f fr, tAns.Mine w' cs x f ∧ (∀ q, q < 3 → w.cell? ⟨g, k * 3 + q, none⟩ = cs[q]?) ∧ (tAnsS 55).Mine w' [.slice (some ⟨g, 0, none⟩) (d.length - 1) cap] (d.eraseIdx k) fr ∧ g ∈ fr ∧ (∀ b ∈ f, b ∈ fp ∧ b ∉ fr) ∧ ∀ b ∈ fr, b ∈ fp) ∧ Turned fp w w' := by
  obtain ⟨cur, hc⟩ := mine_block hM
  obtain ⟨hgp, _⟩ := row_parts hM
  obtain ⟨_, hcap, hmc⟩ := row_length hM.rd
  obtain ⟨i0, hi, hz0, hz1, hz2⟩ := info_parts Tryz.infoAns15
  have hk : k < d.length := (List.getElem?_eq_some_iff.1 hx).1
  obtain ⟨m, hm⟩ : ∃ m, d.length = m + 1 := ⟨d.length - 1, by omega⟩
  have hm1 : d.length - 1 = m := by omega
  have hcs : cur.size = cap * 3 := by
    rcases hM.1 with ⟨h1, _⟩ | ⟨b, cap', cur', fps, h1, h2, h3, h4, h5, _⟩
    · simp at h1
    · simp only [List.cons.injEq, Value.slice.injEq, Option.some.injEq, Addr.mk.injEq, and_true] at h1
      obtain ⟨rfl, -, rfl⟩ := h1
      rw [hc] at h4
      simp at h4
      rw [h4]
      exact h5
  obtain ⟨news, hnews⟩ : ∃ news, news = (cur.toList.drop ((k + 1) * 3)).take ((d.length - (k + 1)) * 3) := ⟨_, rfl⟩
  have hlen : news.length = (d.length - (k + 1)) * 3 := by
    have hl0 : cur.toList.length = cap * 3 := by rw [Array.length_toList]; exact hcs
    rw [hnews, List.length_take, List.length_drop, hl0]
    omega
  obtain ⟨A, hA, hsrc⟩ : ∃ A : Addr, (if cap = k + 1 then some (⟨g, 0, none⟩ : Addr) else some ⟨g, (k + 1) * 3, none⟩) = some A ∧ Hid (∀ t u, news[t]? = some u → w.drew.cell? (A.add t) = some u) := by
    by_cases h : cap = k + 1
    · refine ⟨⟨g, 0, none⟩, by simp [h], fun t u hu => ?_⟩
      have h0 : news.length = 0 := by rw [hlen]; omega
      rw [List.length_eq_zero_iff.1 h0] at hu
      simp at hu
    · refine ⟨⟨g, (k + 1) * 3, none⟩, by simp [h], fun t u hu => ?_⟩
      have ht : t < (d.length - (k + 1)) * 3 := by
        have := (List.getElem?_eq_some_iff.1 hu).1
        rwa [hlen] at this
      rw [hnews, List.getElem?_take, if_pos ht, List.getElem?_drop, Array.getElem?_toList] at hu
      rw [Addr.add_lit]
      exact (cell_of_row w g _ cur 55 (0, 0) hc).trans hu
  obtain ⟨W1, hW1⟩ : ∃ W1, W1 = w.drew.setCells g (0 + k * 3) news := ⟨_, rfl⟩
  have hW1' : W1 = w.drew.setCells g (k * 3) news := by rw [hW1, Nat.zero_add]
  obtain ⟨cur1, k1, k2, k3⟩ := setCells_row (E := 55) news (k * 3) w.drew cur hc (by rw [hlen, hcs]; omega)
  rw [← hW1'] at k1
  have hcl : ∀ ty, (Builtin.clear_ #[32] ty #[.slice (some ⟨g, m * 3, none⟩) 1 (cap - m)]).run Tryz.prog W1 = .ok (.tuple #[]) (W1.setCells g (m * 3) [.int .i64 0, .int .i64 0, .slice none 0 0]) := fun ty =>
    run_clear_one W1 _ _ ty (.agg #[.int .i64 0, .int .i64 0, .slice none 0 0]) _ Tryz.underlying32 Tryz.zeroValue55 (by kernel_rfl) (by intro v hv; simp at hv; rcases hv with rfl | rfl | rfl <;> rfl) g (m * 3) _
      (fun j hj => by rw [cell_of_row W1 g _ cur1 55 (0, 0) k1, Array.getElem?_eq_getElem (by rw [k2, hcs]; simp at hj; omega)]; rfl) (fun j _ => frozen_of_row W1 g _ cur1 55 k1)
  have s2 : Hid (∀ u ∈ news, u.oneCell' = true) := by
    intro u hu
    obtain ⟨t, ht⟩ := List.mem_iff_getElem?.1 hu
    have hl := (List.getElem?_eq_some_iff.1 ht).1
    rw [hlen] at hl
    rw [hnews, List.getElem?_take, if_pos hl, List.getElem?_drop] at ht
    exact row_plain hM (pair_one int_one (pair_one int_one row_one)) hc ht (by show _ < d.length * 3; omega)
  have s3 : Hid (∀ t, t < news.length → (w.drew.cell? ⟨g, 0 + k * 3 + t, none⟩).isSome = true ∧ w.drew.frozen? ⟨g, 0 + k * 3 + t, none⟩ = false) := by
    intro t ht
    rw [hlen] at ht
    exact ⟨by rw [show w.drew.cell? ⟨g, 0 + k * 3 + t, none⟩ = cur[0 + k * 3 + t]? from cell_of_row w g _ cur 55 (0, 0) hc, Array.getElem?_eq_getElem (by rw [hcs]; omega)]; rfl, frozen_of_row w g _ cur 55 hc⟩
  have HW := hidden hW1
  have HL := hidden hlen
  have tk4 : (0 : Int) ≤ (k : Int) + 1 := by omega
  have tk0 : (0 : Int) ≤ (k : Int) := by omega
  have tk1 : (k : Int) ≤ (cap : Int) := by omega
  have tk2 : (k : Int) + 1 ≤ (d.length : Int) := by omega
  have tk3 : (d.length : Int) ≤ (cap : Int) := by omega
  have hwr : IntKind.i64.wrap ((k : Int) + 1) = (k : Int) + 1 := IntWalk.i64_in _ (by omega)
  have tk5 : (m : Int) ≤ (d.length : Int) := by omega
  have tk6 : (0 : Int) ≤ (m : Int) := by omega
  have hkm : k + (d.length - (k + 1)) = m := by omega
  have hcm : ¬ cap = m := by omega
  have hdm : d.length - m = 1 := by omega
  have HN := hidden hnews
  have HC := hidden hc
  have HM1 := hidden hm1
  have HMM := hidden hm
  have HWW := hidden hW1'
  clear hnews hlen hW1 hc hm1 hm hW1' k1 k2 k3
  go_enter Tryz.func75, Tryz.ntmps75
  go_wp2_with fail
  refine wp_region_held_drew (S := fun _ => True) (by kernel_rfl) trivial (fun hHeld => ?_)
  refine held_t 0 hHeld ?_
  refine held_t 1 hHeld ?_
  refine held_t 2 hHeld ?_
  refine held_t 3 hHeld ?_
  refine held_t 4 hHeld ?_
  refine held_t 5 hHeld ?_
  refine held_one (i := 6) (by kernel_rfl) rfl (by kernel_rfl) (fun K hK => ?_)
  refine wp_of_ifD (G := True) (by kernel_rfl) (step_append_room (ops := #[]) rfl (.tmp 22) (.tmp 25) 32 rfl 55 i0 3 Tryz.underlying32 hi hz1 g 0 k cap (by rfl) A (d.length - (k + 1)) (cap - (k + 1)) news (by rfl) HL.out hsrc.out s2.out (by have := HMM.out; omega) s3.out ?_)
  rw [← HW.out]
  clear hHeld
  refine hK.out _ _ trivial (fun hHeld => ?_)
  clear hK K
  simp only [hkm, Act.put, List.setIfInBounds_toArray, List.set_cons_zero, List.set_cons_succ]
  refine held_t 7 hHeld ?_
  refine wpAnyH_done (by kernel_rfl) ?_ _
  clear hHeld
  go_wp2
  refine bodyPost_ret (v := .slice (some ⟨g, 0, none⟩) m cap) (by simp [results, Tryz.results75, go_sem]) rfl ?_
  have hT : Turned [g] w (W1.setCells g (m * 3) [.int .i64 0, .int .i64 0, .slice none 0 0]) := by
    rw [HWW.out]
    exact (Turned.undrew (setCells_turned (g := g) news (k * 3) w.drew)).trans (setCells_turned _ _ _)
  refine ⟨by rw [HM1.out], ?_, hT.mono (by simp; exact hgp)⟩
  refine row_del hM hx hT.size (fun b hb hne => hT.block b (hM.lt b hb) (by simpa using hne)) (fun cur' hc' hs' hn' => ?_)
  rw [HC.out] at hc'
  simp only [Option.some.injEq, Obj.cells.injEq, and_true] at hc'
  subst hc'
  have hd := del_cells (k := k) (n := d.length) (c := 3) (cap := cap) (zs := [.int .i64 0, .int .i64 0, .slice none 0 0]) (w := w.drew) HC.out hcs hn' hk rfl
  rw [HM1.out, ← HN.out, ← HWW.out] at hd
  rw [HM1.out]
  exact hd


end Go.Proofs.YtbkkjfgjlapadaaGreat

/-
  The walk of begin: the command at a place among those that wait is taken out; it is answered, or a job. Conditions: it is there; the engine weighs at most 1048576.
-/
namespace Go.Proofs.YtbkkjfgjlapadaaGreat
open Go.RowKit

theorem five_cells {cs : List Value} (h : cs.length = 5) : ∃ a0 a1 a2 a3 a4, cs = [a0, a1, a2, a3, a4] := by
  match cs, h with
  | [a0, a1, a2, a3, a4], _ => exact ⟨a0, a1, a2, a3, a4, rfl⟩
/-- A command's cells, by the cells that they were read from. -/
theorem cmd_cells {w w' : World} {g i : Nat} {cs : List Value} {f : List Nat} {o d b n : Int} {zs : List Int} {av : Option Addr} {cv : Nat} (h : tCmd.Mine w' cs (o, d, b, n, zs) f) (hcs : ∀ q, q < 5 → w.cell? ⟨g, i + q, none⟩ = cs[q]?) (h4 : w.cell? ⟨g, i + 4, none⟩ = some (.slice av zs.length cv)) : tIntS.Mine w' [.slice av zs.length cv] zs f := by
  obtain ⟨a0, a1, a2, a3, a4, rfl⟩ := five_cells (tCmd.rdLen (tCmd.owRd h.1))
  obtain ⟨_, h⟩ := int_mine h
  obtain ⟨_, h⟩ := int_mine h
  obtain ⟨_, h⟩ := int_mine h
  obtain ⟨_, h⟩ := int_mine h
  have e := hcs 4 (by omega)
  rw [h4] at e
  simp at e
  rw [e]
  exact h

set_option maxRecDepth 20000 in
set_option maxHeartbeats 6400000 in
theorem begin_any (w : World) (N lo : Nat) (e : EngD) (F : List Nat) (m : Nat) (o d b n : Int) (zs : List Int) (h : EngAt w N lo e F) (hlo : lo ≤ w.heap.size) (hNlo : lo ≤ N) (hk : e.ws[m]? = some (o, d, b, n, zs)) (hw : wtEng e ≤ 1048576) :
    Calls Tryz.prog 64 #[.pointer (some ⟨N, 0, none⟩), .int .i64 (m : Int)] w fun e' w' => e' = .returned (.tuple #[]) ∧ (∃ F', EngAt w' N lo (begC e m (o, d, b, n, zs)) F') ∧ Turned (N :: F) w w' := by
  obtain ⟨vm, vd, vw, vj, va, vu, f0, f1, f2, f3, f4, f5, rfl, X, P, hN⟩ := h
  obtain ⟨x, ms, ds, ws, js, an, ts⟩ := e
  have HT : wtArr ms ds + wttCmdS ws + wttJobS js + wttAnsS an + wttTurnS ts ≤ 1048576 := hw
  clear hw
  replace hk : ws[m]? = some (o, d, b, n, zs) := hk
  have hml : m < ws.length := (List.getElem?_eq_some_iff.1 hk).1
  obtain ⟨n0, n1, n2, n3, n4, n5⟩ := not_six.1 hN
  obtain ⟨aw, cw, rfl⟩ := row_shape P.m2.rd
  obtain ⟨aj, cj, rfl⟩ := row_shape P.m3.rd
  obtain ⟨g, rfl⟩ : ∃ g, aw = some ⟨g, 0, none⟩ := by
    rcases row_ow_shape P.m2 with h0 | h0
    · have h0 : ws.length = 0 := h0
      omega
    · exact h0
  obtain ⟨_, hcw, hmc⟩ := row_length P.m2.rd
  have X : Box w N 35 #[.int .i64 x.id, .int .i64 x.n, .int .i64 x.s, vm, .int .i64 x.lost, .int .i64 x.built, .int .i64 x.seq, .int .i64 x.tail, .int .i64 x.gen, vd, .int .i64 x.fuse, .bool x.down, .bool x.broken, .slice (some ⟨g, 0, none⟩) ws.length cw, .slice aj js.length cj, va, vu] := X
  have hwl : ws.length ≤ 1048576 := by unfold wttCmdS at HT; omega
  have hjl : js.length ≤ 1048576 := by unfold wttJobS at HT; omega
  have hal : an.length ≤ 1048576 := by unfold wttAnsS at HT; omega
  have htl : ts.length ≤ 1048576 := by unfold wttTurnS at HT; omega
  have hzl : zs.length ≤ 1048576 := by
    have := cmd_inner hk
    unfold wttCmdS at HT
    simp only at this
    omega
  obtain ⟨av, cv, hc0, hc1, hc2, hc3, hc4, hr0⟩ : ∃ av cv, w.cell? ⟨g, m * 5, none⟩ = some (.int .i64 o) ∧ w.cell? ⟨g, m * 5 + 1, none⟩ = some (.int .i64 d) ∧ w.cell? ⟨g, m * 5 + 2, none⟩ = some (.int .i64 b) ∧ w.cell? ⟨g, m * 5 + 3, none⟩ = some (.int .i64 n) ∧ w.cell? ⟨g, m * 5 + 4, none⟩ = some (.slice av zs.length cv) ∧ tIntS.Rd w [.slice av zs.length cv] zs := by
    rcases cmdS_at P.m2.rd with h0 | ⟨b', off, he, _, hcs⟩
    · have h0 : ws.length = 0 := h0
      omega
    · simp only [Option.some.injEq, Addr.mk.injEq, and_true] at he
      obtain ⟨rfl, rfl⟩ := he
      have := hcs m o d b n zs hk
      simpa only [Nat.zero_add] using this
  have lN := X.lt
  have k13 := X.cell 13
  have t1 : (0 : Int) ≤ (m : Int) := by omega
  have t2 : (m : Int) < (ws.length : Int) := by omega
  have hwr : IntKind.i64.wrap ((m : Int) + 1) = (m : Int) + 1 := IntWalk.i64_in _ (by omega)
  go_enter Tryz.func64, Tryz.ntmps64
  go_wp2_with (first | (refine wpList_store_new rfl _ _ _ rfl rfl rfl rfl Tryz.szCmd15 (by rfl) ?_; intro V C b0; have lC := C.lt; have zB := b0.size; have X := X.below b0 lN; have lX := X.lt; clear k13; have k13 := X.cell 13; have T0 := Turned.ofBelow b0 (N :: (f0 ++ (f1 ++ (f2 ++ (f3 ++ (f4 ++ f5))))))) | fail)
  have hx5 := hc4
  clear hc0 hc1 hc2 hc3
  have P1 := P.turned (Turned.ofBelow b0 []) (by simp)
  refine (delCmd_any _ g cw m ws (o, d, b, n, zs) f2 P1.m2 hk (by omega)).mono ?_
  rintro e2 w2 ⟨rfl, ⟨cs, fc, fr, mx, hcs, mr, _, hfc, hfr⟩, T⟩
  have mc := cmd_cells mx (i := m * 5) (w := V) hcs ((b0.cell (p := ⟨g, m * 5 + 4, none⟩) (P.m2.lt g (row_parts P.m2).1)).trans hx5)
  have X := X.turned T n2
  have P2 := P1.set2 T (fun y hy => (P1.own2 hy).2) mr (fun y hy => ⟨(P1.own2 (hfr y hy)).1.1, (P1.own2 (hfr y hy)).2⟩) (by have := T.size; omega)
  have C := C.kept (T.block _ lC (fun hy => by have := (P.own2 hy).1; omega))
  have TT := T0.trans (T.mono (fun y hy => List.mem_cons_of_mem _ (mem_six.2 (.inr (.inr (.inl hy))))))
  have hfN : N ∉ fr := fun hy => n2 (hfr N hy)
  have hcF : ∀ y ∈ fc, (lo ≤ y ∧ y ≠ N) ∧ y ∉ f0 ∧ y ∉ f1 ∧ y ∉ fr ∧ y ∉ f3 ∧ y ∉ f4 ∧ y ∉ f5 := fun y hy => by
    obtain ⟨h1, h2⟩ := hfc y hy
    obtain ⟨k1, k2⟩ := P.own2 h1
    exact ⟨⟨k1.1, fun e => n2 (e ▸ h1)⟩, k2.1, k2.2.1, h2, k2.2.2.1, k2.2.2.2.1, k2.2.2.2.2⟩
  have zT := T.size
  have c13 := X.cell 13
  have fz := X.frozen 13
  have lC := C.lt
  have HP := hidden P2
  have HTT := hidden TT
  have MC := hidden mc
  have HCF := hidden hcF
  have HFR : Hid (∀ y, y < w.heap.size → y ∈ fr → y ∈ f2) := fun y _ h => hfr y h
  have hC3 : Hid (w.heap.size ∉ f3) := fun hy => by have := (P.own3 hy).1; omega
  have E : BoxAt w2 _ N 35 [.int .i64 x.id, .int .i64 x.n, .int .i64 x.s, vm, .int .i64 x.lost, .int .i64 x.built, .int .i64 x.seq, .int .i64 x.tail, .int .i64 x.gen, vd, .int .i64 x.fuse, .bool x.down, .bool x.broken, .slice (some ⟨g, 0, none⟩) (ws.length - 1) cw, .slice aj js.length cj, va, vu] := X.at.set 13 (.slice (some ⟨g, 0, none⟩) (ws.length - 1) cw)
  clear mx hcs mr hfc hfr T T0 mc P P1 P2 TT hcF hr0 hx5 hc4 k13 X
  go_wp2_with fail
  clear c13 fz
  refine seal_then E ?_
  clear E
  intro V2 E
  have TE : Turned (N :: (f0 ++ (f1 ++ (f2 ++ (f3 ++ (f4 ++ f5)))))) w2 V2 := But.asTurned E.but List.mem_cons_self
  have hNf : ∀ y, y ∈ f0 ∨ y ∈ f1 ∨ y ∈ fr ∨ y ∈ f3 ∨ y ∈ f4 ∨ y ∈ f5 → y < N ∨ N + 1 ≤ y := fun y hm => by
    have : y ≠ N := fun e => by
      subst e
      rcases hm with l | l | l | l | l | l
      · exact n0 l
      · exact n1 l
      · exact hfN l
      · exact n3 l
      · exact n4 l
      · exact n5 l
    omega
  have PV : EngP V2 lo V2.heap.size _ _ _ _ _ _ _ f0 f1 fr f3 f4 f5 := (HP.out.but E.but hNf).widen (by have := E.size; omega)
  have TV := HTT.out.trans TE
  have X := E.box
  have C := E.other C (by omega)
  have mc := MC.out.but E.but (fun y hy => by have := (HCF.out y hy).1.2; omega)
  have lX := X.lt
  have lC := C.lt
  have zV2 := TV.size
  have zE := Nat.le_of_eq E.size
  have zE2 := Nat.le_of_eq E.size.symm
  clear E TE hNf HP HTT MC lN
  have HP := hidden PV
  have HTV := hidden TV
  have MC := hidden mc
  clear PV TV mc
  go_wp2_with fail
  obtain ⟨c0, c1, c2, c3, c4⟩ := C.cells5
  have x1 := X.cell 1
  have x2 := X.cell 2
  refine wp_region_held_drew (S := fun w' => (∀ q, w'.cell? ⟨N, q, none⟩ = V2.cell? ⟨N, q, none⟩) ∧ (∀ q, w'.cell? ⟨w.heap.size, q, none⟩ = V2.cell? ⟨w.heap.size, q, none⟩)) (by kernel_rfl) ⟨fun _ => rfl, fun _ => rfl⟩ (fun hHeld => ?_)
  refine held_t 0 hHeld ?_
  refine held_t 1 hHeld ?_
  refine held_t 2 hHeld ?_
  refine held_t 3 hHeld ?_
  refine held_t 4 hHeld ?_
  refine held_t 5 hHeld ?_
  refine held_one (i := 6) (by kernel_rfl) rfl (by kernel_rfl) (fun K hK => ?_)
  go_simp
  refine (implCmdCode_any _ x.n x.s o d b n _ _ _ zs rfl (ints_rd MC.out.rd.drew).1 (by omega)).mono ?_
  rintro e3 w3 ⟨rfl, b3⟩
  have q3 : Below V2.heap.size V2 w3 := (Below.refl V2.heap.size V2).drew.trans b3
  go_wp2_with fail
  clear hHeld b3
  refine hK.out _ _ ⟨fun q => q3.cell (p := ⟨N, q, none⟩) lX, fun q => q3.cell (p := ⟨w.heap.size, q, none⟩) lC⟩ (fun hHeld => ?_)
  clear hK K
  refine held_t 7 hHeld ?_
  refine wpAnyH_done (by kernel_rfl) ?_ _
  clear hHeld c0 c1 c2 c3 c4 x1 x2
  have X := X.below q3 lX
  have C := C.below q3 lC
  have PV := (HP.out.turned (Turned.ofBelow q3 []) (by simp)).widen (q3.size)
  have TV := HTV.out.trans (Turned.ofBelow q3 (N :: (f0 ++ (f1 ++ (f2 ++ (f3 ++ (f4 ++ f5)))))))
  have mc := MC.out.below q3
  have lX := X.lt
  have lC := C.lt
  have z3 := q3.size
  have HP := hidden PV
  have HTV := hidden TV
  have MC := hidden mc
  clear PV TV mc q3
  have hcd : codeD x.n x.s (o, d, b, n, zs) = codeC x.n x.s o d b n zs := rfl
  obtain ⟨code, hcode⟩ : ∃ code, codeC x.n x.s o d b n zs = code := ⟨_, rfl⟩
  rw [hcode] at hcd ⊢
  have HCD := hidden hcd
  clear hcd hcode
  by_cases hc : code = 0
  rotate_left
  · have hne : (code != 0) = true := by simpa using hc
    have HB : Hid (begC (⟨x, ms, ds, ws, js, an, ts⟩ : EngD) m (o, d, b, n, zs) = ansE (takeE (⟨x, ms, ds, ws, js, an, ts⟩ : EngD) m) (o, d, b, n, zs) (d, code, [])) := by
      unfold Hid begC
      rw [HCD.out, if_neg hc]
    have hbeq : ¬ code = 0 := hc
    obtain ⟨c0, c1, c2, c3, c4⟩ := C.cells5
    go_wp2_with fail
    refine (answered_any _ N lo (takeE (⟨x, ms, ds, ws, js, an, ts⟩ : EngD) m) (f0 ++ (f1 ++ (fr ++ (f3 ++ (f4 ++ f5))))) o d b n av cv zs d code none 0 [] fc [] ⟨_, _, _, _, _, _, f0, f1, fr, f3, f4, f5, rfl, X, HP.out, ?_⟩ (by omega) MC.out (fun y hy => ?_) (nil_mine _) (by simp) (by simp) (by simp) (by show an.length ≤ _; omega) (by show ts.length ≤ _; omega)).mono ?_
    · intro h
      rcases mem_six.1 h with l | l | l | l | l | l
      · exact n0 l
      · exact n1 l
      · exact hfN l
      · exact n3 l
      · exact n4 l
      · exact n5 l
    · have := HCF.out y hy
      exact ⟨this.1.1, this.1.2, not_six.2 this.2⟩
    rintro e4 w4 ⟨rfl, hF, T4⟩
    have TF : Turned (N :: (f0 ++ (f1 ++ (f2 ++ (f3 ++ (f4 ++ f5)))))) w w4 := ⟨T4.os.trans HTV.out.os, T4.tape.trans HTV.out.tape, T4.output.trans HTV.out.output, Nat.le_trans HTV.out.size T4.size, fun y hy hn => (T4.block y (Nat.lt_of_lt_of_le hy HTV.out.size) (fun hm => by
      rcases List.mem_cons.1 hm with l | l
      · exact hn (l ▸ List.mem_cons_self)
      · refine hn (List.mem_cons_of_mem _ (mem_six.2 ?_))
        rcases mem_six.1 l with l | l | l | l | l | l
        · exact .inl l
        · exact .inr (.inl l)
        · exact .inr (.inr (.inl (HFR.out y hy l)))
        · exact .inr (.inr (.inr (.inl l)))
        · exact .inr (.inr (.inr (.inr (.inl l))))
        · exact .inr (.inr (.inr (.inr (.inr l)))))).trans (HTV.out.block y hy hn)⟩
    have HF := hidden hF
    have HTF := hidden TF
    clear hF TF T4
    go_wp2
    refine bodyPost_ret (v := .tuple #[]) (by simp [results, Tryz.results64, go_sem]) rfl ?_
    exact ⟨rfl, by rw [HB.out]; exact HF.out, HTF.out⟩
  subst hc
  have HB : Hid (begC (⟨x, ms, ds, ws, js, an, ts⟩ : EngD) m (o, d, b, n, zs) = jobE (takeE (⟨x, ms, ds, ws, js, an, ts⟩ : EngD) m) (o, d, b, n, zs)) := by
    unfold Hid begC
    rw [HCD.out, if_pos rfl]
  obtain ⟨c0, c1, c2, c3, c4⟩ := C.cells5
  have x14 := X.cell 14
  obtain ⟨i3, hi3, hz30, hz31, hz32⟩ := info_parts Tryz.infoJob15
  go_wp2_with fail
  refine Late.start (S := fun w' => (∀ q, w'.cell? ⟨N, q, none⟩ = w3.cell? ⟨N, q, none⟩) ∧ (∀ q, w'.cell? ⟨w.heap.size, q, none⟩ = w3.cell? ⟨w.heap.size, q, none⟩)) (k := 11) (by kernel_rfl) ?_
  have hS : (∀ q, w3.drew.cell? ⟨N, q, none⟩ = w3.cell? ⟨N, q, none⟩) ∧ (∀ q, w3.drew.cell? ⟨w.heap.size, q, none⟩ = w3.cell? ⟨w.heap.size, q, none⟩) := ⟨fun _ => rfl, fun _ => rfl⟩
  refine Late.take (i := 0) (v := ?_) rfl (by kernel_rfl) (by kernel_rfl) (by kernel_rfl) (by kernel_rfl) (fun _ _ _ h => h) (Or.inl ⟨by rfl, ?_⟩) hS ?_
  rotate_left 1
  · (intro w hSw; (try dsimp only at hSw); go_split_ands; go_simp; first | done | with_reducible rfl)
  simp only [Act.put, List.setIfInBounds_toArray, List.set_cons_zero, List.set_cons_succ]
  refine Late.take (i := 1) (v := ?_) rfl (by kernel_rfl) (by kernel_rfl) (by kernel_rfl) (by kernel_rfl) (fun _ _ _ h => h) (Or.inl ⟨by rfl, ?_⟩) hS ?_
  rotate_left 1
  · (intro w hSw; (try dsimp only at hSw); go_split_ands; go_simp; first | done | with_reducible rfl)
  simp only [Act.put, List.setIfInBounds_toArray, List.set_cons_zero, List.set_cons_succ]
  refine Late.take (i := 2) (v := ?_) rfl (by kernel_rfl) (by kernel_rfl) (by kernel_rfl) (by kernel_rfl) (fun _ _ _ h => h) (Or.inl ⟨by rfl, ?_⟩) hS ?_
  rotate_left 1
  · (intro w hSw; (try dsimp only at hSw); go_split_ands; go_simp; first | done | with_reducible rfl)
  simp only [Act.put, List.setIfInBounds_toArray, List.set_cons_zero, List.set_cons_succ]
  refine Late.take (i := 3) (v := ?_) rfl (by kernel_rfl) (by kernel_rfl) (by kernel_rfl) (by kernel_rfl) (fun _ _ _ h => h) (Or.inl ⟨by rfl, ?_⟩) hS ?_
  rotate_left 1
  · (intro w hSw; (try dsimp only at hSw); go_split_ands; go_simp; first | done | with_reducible rfl)
  simp only [Act.put, List.setIfInBounds_toArray, List.set_cons_zero, List.set_cons_succ]
  refine Late.take (i := 4) (v := ?_) rfl (by kernel_rfl) (by kernel_rfl) (by kernel_rfl) (by kernel_rfl) (fun _ _ _ h => h) (Or.inl ⟨by rfl, ?_⟩) hS ?_
  rotate_left 1
  · (intro w hSw; (try dsimp only at hSw); go_split_ands; go_simp; first | done | with_reducible rfl)
  simp only [Act.put, List.setIfInBounds_toArray, List.set_cons_zero, List.set_cons_succ]
  refine Late.take (i := 5) (v := ?_) rfl (by kernel_rfl) (by kernel_rfl) (by kernel_rfl) (by kernel_rfl) (fun _ _ _ h => h) (Or.inl ⟨by rfl, ?_⟩) hS ?_
  rotate_left 1
  · (intro w hSw; (try dsimp only at hSw); go_split_ands; go_simp; first | done | with_reducible rfl)
  simp only [Act.put, List.setIfInBounds_toArray, List.set_cons_zero, List.set_cons_succ]
  clear c0 c1 c2 c3 c4 x14
  refine Late.one (i := 6) (by kernel_rfl) rfl (fun K hK => ?_)
  go_simp
  refine hK.out _ _ (fun _ => hS) ?_
  clear hK K
  have nb := (new_below w3 (.cells #[.int .i64 o, .int .i64 d, .int .i64 b, .int .i64 n, .slice av zs.length cv, .int .i64 0, .slice none 0 0, .int .i64 0] 92)).drew
  have n9 : (w3.alloc (.cells #[.int .i64 o, .int .i64 d, .int .i64 b, .int .i64 n, .slice av zs.length cv, .int .i64 0, .slice none 0 0, .int .i64 0] 92)).drew.heap.size = w3.heap.size + 1 := World.size_alloc _ _
  have hSN : (∀ q, (w3.alloc (.cells #[.int .i64 o, .int .i64 d, .int .i64 b, .int .i64 n, .slice av zs.length cv, .int .i64 0, .slice none 0 0, .int .i64 0] 92)).drew.cell? ⟨N, q, none⟩ = w3.cell? ⟨N, q, none⟩) ∧ (∀ q, (w3.alloc (.cells #[.int .i64 o, .int .i64 d, .int .i64 b, .int .i64 n, .slice av zs.length cv, .int .i64 0, .slice none 0 0, .int .i64 0] 92)).drew.cell? ⟨w.heap.size, q, none⟩ = w3.cell? ⟨w.heap.size, q, none⟩) := ⟨fun q => nb.cell (p := ⟨N, q, none⟩) lX, fun q => nb.cell (p := ⟨w.heap.size, q, none⟩) lC⟩
  refine Late.one (i := 7) (by kernel_rfl) rfl (fun K hK => ?_)
  rw [if_pos (by kernel_rfl)]
  go_wp2_with fail
  refine hK.out _ _ (fun _ => hSN) ?_
  clear hK K hS
  have mE : tJob.Mine w3 [.int .i64 o, .int .i64 d, .int .i64 b, .int .i64 n, .slice av zs.length cv, .int .i64 0, .slice none 0 0, .int .i64 0] (o, d, b, n, zs, 0, [], 0) (fc ++ ([] ++ [])) := int_mine_of (x := o) (int_mine_of (x := d) (int_mine_of (x := b) (int_mine_of (x := n) (ints_mine_of MC.out (int_mine_of (x := 0) (ints_mine_of (nil_mine _) int_mine1_of (by simp))) (by simp)))))
  rw [List.append_nil, List.append_nil] at mE
  replace mE := mE.below nb
  have PN := HP.out.turned (Turned.ofBelow nb []) (by simp)
  have XN := X.below nb lX
  have hdis : ∀ y ∈ f3, y ∉ fc := fun y hy hy' => (HCF.out y hy').2.2.2.2.1 hy
  refine Late.one (i := 8) (by kernel_rfl) rfl (fun K hK => ?_)
  refine step_appT tJob (by rfl) _ _ 31 (by rfl) 92 i3 (.agg #[.int .i64 0, .int .i64 0, .int .i64 0, .int .i64 0, .slice none 0 0, .int .i64 0, .slice none 0 0, .int .i64 0]) 96 Tryz.underlying31 hi3 hz30 hz31 hz32 rfl (by decide) (.slice aj js.length cj) js f3 (by rfl) PN.m3 ⟨w3.heap.size, 0, none⟩ 1 [.int .i64 o, .int .i64 d, .int .i64 b, .int .i64 n, .slice av zs.length cv, .int .i64 0, .slice none 0 0, .int .i64 0] (o, d, b, n, zs, 0, [], 0) fc (by rfl) mE hdis (news_new w3 #[.int .i64 o, .int .i64 d, .int .i64 b, .int .i64 n, .slice av zs.length cv, .int .i64 0, .slice none 0 0, .int .i64 0] _) (by intro u hu; simp at hu; rcases hu with rfl | rfl | rfl | rfl | rfl | rfl | rfl | rfl <;> rfl) (by unfold maxLen; omega) (by omega) ?_
  intro g3 cp3 wZ frZ mZ sZ tZ
  have zZ := tZ.size
  have hSZ : (∀ q, wZ.cell? ⟨N, q, none⟩ = w3.cell? ⟨N, q, none⟩) ∧ (∀ q, wZ.cell? ⟨w.heap.size, q, none⟩ = w3.cell? ⟨w.heap.size, q, none⟩) := ⟨fun q => (World.cell?_of_block (tZ.block N (by omega) n3)).trans (hSN.1 q), fun q => (World.cell?_of_block (tZ.block (w.heap.size) (by omega) (fun hy => hC3.out hy))).trans (hSN.2 q)⟩
  refine hK.out _ _ (fun _ => hSZ) ?_
  clear hK K hSN
  have XZ := XN.turned tZ n3
  have hfr3 : ∀ y ∈ frZ, (lo ≤ y ∧ y ≠ N) ∧ y ∉ f0 ∧ y ∉ f1 ∧ y ∉ fr ∧ y ∉ f4 ∧ y ∉ f5 := fun y hy => by
    rcases sZ y hy with l | l | l
    · have r := PN.own3 l
      exact ⟨⟨r.1.1, fun e => n3 (e ▸ l)⟩, r.2⟩
    · have r := HCF.out y l
      exact ⟨r.1, r.2.1, r.2.2.1, r.2.2.2.1, r.2.2.2.2.2.1, r.2.2.2.2.2.2⟩
    · have r := HP.out.beyond (b := y) (.inl (by omega))
      exact ⟨⟨by omega, by omega⟩, r.1, r.2.1, r.2.2.1, r.2.2.2.2.1, r.2.2.2.2.2⟩
  have PZ := PN.set3 tZ (fun y hy => (PN.own3 hy).2) mZ (fun y hy => ⟨(hfr3 y hy).1.1, (hfr3 y hy).2⟩) (by omega)
  have E : BoxAt wZ _ N 35 [.int .i64 x.id, .int .i64 x.n, .int .i64 x.s, vm, .int .i64 x.lost, .int .i64 x.built, .int .i64 x.seq, .int .i64 x.tail, .int .i64 x.gen, vd, .int .i64 x.fuse, .bool x.down, .bool x.broken, .slice (some ⟨g, 0, none⟩) (ws.length - 1) cw, .slice (some ⟨g3, 0, none⟩) (js.length + 1) cp3, va, vu] := XZ.at.set 14 (.slice (some ⟨g3, 0, none⟩) (js.length + 1) cp3)
  have c14 := XZ.cell 14
  have fz := XZ.frozen 14
  have TZ := hidden ((HTV.out.trans (Turned.ofBelow nb (N :: (f0 ++ (f1 ++ (f2 ++ (f3 ++ (f4 ++ f5)))))))).trans (tZ.mono (fun y hy => List.mem_cons_of_mem _ (mem_six.2 (.inr (.inr (.inr (.inl hy))))))))
  have hPZ := hidden PZ
  have hFR := hidden hfr3
  clear PZ hfr3 mZ sZ tZ mE hdis XN PN nb n9
  refine Late.one (i := 9) (by kernel_rfl) rfl (fun K hK => ?_)
  rw [if_pos (by kernel_rfl)]
  go_wp2_with fail
  refine hK.out _ _ (fun _ => hSZ) ?_
  clear hK K
  refine Late.one (i := 10) (by kernel_rfl) rfl (fun K hK => ?_)
  rw [if_pos (by kernel_rfl)]
  go_wp2_with fail
  refine hK.out _ _ (fun _ => hSZ) ?_
  clear hK K
  refine Late.one (i := 11) (by kernel_rfl) rfl (fun K hK => ?_)
  clear hSZ
  rw [if_pos (by kernel_rfl)]
  go_wp2_with fail
  refine hK.out _ _ (fun h => absurd rfl h) ?_
  clear hK K
  refine Late.done (by kernel_rfl) ?_ _
  clear c14 fz XZ
  refine seal_then E ?_
  clear E
  intro V3 E
  have TE : Turned (N :: (f0 ++ (f1 ++ (f2 ++ (f3 ++ (f4 ++ f5)))))) wZ V3 := But.asTurned E.but List.mem_cons_self
  have nz : N ∉ frZ := fun hy => (hFR.out N hy).1.2 rfl
  have hNf : ∀ y, y ∈ f0 ∨ y ∈ f1 ∨ y ∈ fr ∨ y ∈ frZ ∨ y ∈ f4 ∨ y ∈ f5 → y < N ∨ N + 1 ≤ y := fun y hm => by
    have : y ≠ N := fun e => by
      subst e
      rcases hm with l | l | l | l | l | l
      · exact n0 l
      · exact n1 l
      · exact hfN l
      · exact nz l
      · exact n4 l
      · exact n5 l
    omega
  have PV : EngP V3 lo V3.heap.size _ _ _ _ _ _ _ f0 f1 fr frZ f4 f5 := (hPZ.out.but E.but hNf).widen (by have := E.size; omega)
  have HV := hidden PV
  have HX := hidden E.box
  have HTF := hidden (TZ.out.trans TE)
  have hN' : N ∉ f0 ++ (f1 ++ (fr ++ (frZ ++ (f4 ++ f5)))) := fun h => by have := hNf N (mem_six.1 h); omega
  have HN := hidden hN'
  clear PV E TE hNf hN' C X
  go_wp2
  refine bodyPost_end (v := .tuple #[]) (results_none rfl _ _ _) rfl ?_
  exact ⟨rfl, by rw [HB.out]; exact ⟨_, _, _, _, _, _, _, f0, f1, fr, frZ, f4, f5, rfl, HX.out, HV.out, HN.out⟩, HTF.out⟩

end Go.Proofs.YtbkkjfgjlapadaaGreat

/-
  The program's look for a job that clashes: over pointers to where jobs stand. Conditions: at most 2097152 words a command.
-/
namespace Go.Proofs.YtbkkjfgjlapadaaGreat
open Go.RowKit

/-- Pointers to n jobs, that lie from off on in block b, in a row at pb. -/
def Ptrs (w : World) (pb b off n : Nat) : Prop := pb < w.heap.size ∧ ∀ i, i < n → w.cell? ⟨pb, i, none⟩ = some (.pointer (some ⟨b, off + i * 8, none⟩))
theorem Ptrs.below {w w' : World} {pb b off n : Nat} (h : Ptrs w pb b off n) (hb : Below w.heap.size w w') : Ptrs w' pb b off n := ⟨Nat.lt_of_lt_of_le h.1 hb.size, fun i hi => (hb.cell (p := ⟨pb, i, none⟩) h.1).trans (h.2 i hi)⟩

set_option maxHeartbeats 1600000 in
theorem jobClashes_any (w : World) (gn gs : Int) (b off : Nat) (o d1 b1 k o2 d2 b2 k2 : Int) (a0 a2 : Option Addr) (c0 c2 : Nat) (zs zs2 : List Int) (hb : b < w.heap.size) (h0 : w.cell? ⟨b, off, none⟩ = some (.int .i64 o)) (h1 : w.cell? ⟨b, off + 1, none⟩ = some (.int .i64 d1)) (h2 : w.cell? ⟨b, off + 2, none⟩ = some (.int .i64 b1)) (h3 : w.cell? ⟨b, off + 3, none⟩ = some (.int .i64 k)) (h4 : w.cell? ⟨b, off + 4, none⟩ = some (.slice a0 zs.length c0)) (r0 : tIntS.Rd w [.slice a0 zs.length c0] zs) (r2 : tIntS.Rd w [.slice a2 zs2.length c2] zs2) (hz : zs.length ≤ 2097152) (hz2 : zs2.length ≤ 2097152) :
    Calls Tryz.prog 205 #[.pointer (some ⟨b, off, none⟩), .agg #[.int .i64 gn, .int .i64 gs], .agg #[.int .i64 o2, .int .i64 d2, .int .i64 b2, .int .i64 k2, .slice a2 zs2.length c2]] w fun e w' => e = .returned (.bool (metC (spanC gn gs o d1 b1 k zs) (spanC gn gs o2 d2 b2 k2 zs2))) ∧ Below w.heap.size w w' := by
  go_enter Tryz.func205, Tryz.ntmps205
  go_wp2_with fail
  refine seal_new2C ?_
  intro V A X B
  have e0 := (B.cell (p := ⟨b, off, none⟩) hb).trans h0
  have e1 := (B.cell (p := ⟨b, off + 1, none⟩) hb).trans h1
  have e2 := (B.cell (p := ⟨b, off + 2, none⟩) hb).trans h2
  have e3 := (B.cell (p := ⟨b, off + 3, none⟩) hb).trans h3
  have e4 := (B.cell (p := ⟨b, off + 4, none⟩) hb).trans h4
  obtain ⟨k0, k1⟩ := A.cells2
  obtain ⟨l0, l1, l2, l3, l4⟩ := X.cells5
  have hbv : b < V.heap.size := Nat.lt_of_lt_of_le hb B.size
  have q0 := ints_rd (r0.below B)
  have q2 := ints_rd (r2.below B)
  have Q0 := hidden q0.1
  have Q2 := hidden q2.1
  have lA := A.lt
  have lX := X.lt
  clear q0 q2 h0 h1 h2 h3 h4
  go_region_held3 (fun w' => w'.cell? ⟨b, off, none⟩ = some (.int .i64 o) ∧ w'.cell? ⟨b, off + 1, none⟩ = some (.int .i64 d1) ∧ w'.cell? ⟨b, off + 2, none⟩ = some (.int .i64 b1) ∧ w'.cell? ⟨b, off + 3, none⟩ = some (.int .i64 k) ∧ w'.cell? ⟨b, off + 4, none⟩ = some (.slice a0 zs.length c0) ∧ (∀ o, w'.cell? ⟨w.heap.size, o, none⟩ = V.cell? ⟨w.heap.size, o, none⟩) ∧ (∀ o, w'.cell? ⟨w.heap.size + 1, o, none⟩ = V.cell? ⟨w.heap.size + 1, o, none⟩))
    (first | (exact ⟨(hbC.cell (p := ⟨b, off, none⟩) hbv).trans e0, (hbC.cell (p := ⟨b, off + 1, none⟩) hbv).trans e1, (hbC.cell (p := ⟨b, off + 2, none⟩) hbv).trans e2, (hbC.cell (p := ⟨b, off + 3, none⟩) hbv).trans e3, (hbC.cell (p := ⟨b, off + 4, none⟩) hbv).trans e4, fun o => hbC.cell (p := ⟨w.heap.size, o, none⟩) lA, fun o => hbC.cell (p := ⟨w.heap.size + 1, o, none⟩) lX⟩) | (exact ⟨e0, e1, e2, e3, e4, fun _ => rfl, fun _ => rfl⟩) | go_keep)
    (first | (go_at_call 160; refine (implClash_any _ gn gs o d1 b1 k _ _ _ zs o2 d2 b2 k2 _ _ _ zs2 rfl Q0.out.draw hz rfl Q2.out.draw hz2).mono ?_; rintro e wC ⟨rfl, hbC0⟩; have hbC : Below V.heap.size V wC := (Below.refl V.heap.size V).drew.trans hbC0))
  have HB := Below.andThen B hbC
  go_wp2
  go_ret
  exact ⟨rfl, HB⟩

theorem clos15_any (w : World) (gn gs : Int) (b off Bg Bc : Nat) (T T2 : TypeId) (o d1 b1 k o2 d2 b2 k2 : Int) (a0 a2 : Option Addr) (c0 c2 : Nat) (zs zs2 : List Int) (hb : b < w.heap.size) (h0 : w.cell? ⟨b, off, none⟩ = some (.int .i64 o)) (h1 : w.cell? ⟨b, off + 1, none⟩ = some (.int .i64 d1)) (h2 : w.cell? ⟨b, off + 2, none⟩ = some (.int .i64 b1)) (h3 : w.cell? ⟨b, off + 3, none⟩ = some (.int .i64 k)) (h4 : w.cell? ⟨b, off + 4, none⟩ = some (.slice a0 zs.length c0)) (r0 : tIntS.Rd w [.slice a0 zs.length c0] zs) (r2 : tIntS.Rd w [.slice a2 zs2.length c2] zs2) (hz : zs.length ≤ 2097152) (hz2 : zs2.length ≤ 2097152)
    (G : Box w Bg T #[.int .i64 gn, .int .i64 gs]) (C : Box w Bc T2 #[.int .i64 o2, .int .i64 d2, .int .i64 b2, .int .i64 k2, .slice a2 zs2.length c2]) :
    Calls Tryz.prog 204 #[.pointer (some ⟨b, off, none⟩), .pointer (some ⟨Bg, 0, none⟩), .pointer (some ⟨Bc, 0, none⟩)] w fun e w' => e = .returned (.bool (metC (spanC gn gs o d1 b1 k zs) (spanC gn gs o2 d2 b2 k2 zs2))) ∧ Below w.heap.size w w' := by
  obtain ⟨k0, k1⟩ := G.cells2
  obtain ⟨l0, l1, l2, l3, l4⟩ := C.cells5
  go_enter Tryz.func204, Tryz.ntmps204
  go_wp2_with fail
  refine (jobClashes_any _ gn gs b off o d1 b1 k o2 d2 b2 k2 _ _ _ _ zs zs2 hb h0 h1 h2 h3 h4 r0 r2 hz hz2).mono ?_
  rintro e w1 ⟨rfl, b⟩
  go_wp2
  go_ret
  exact ⟨rfl, b⟩

set_option maxHeartbeats 1600000 in
theorem jobIndex_any (w : World) (gn gs : Int) (pb pc n b off cj Bg Bc : Nat) (T T2 : TypeId) (js : List JobD) (o2 d2 b2 k2 : Int) (a2 : Option Addr) (c2 : Nat) (zs2 : List Int) (hP : Ptrs w pb b off n) (hn : n ≤ js.length) (hJ : (tJobS 0).Rd w [.slice (some ⟨b, off, none⟩) js.length cj] js) (hw : wttJobS js ≤ 2097152) (r2 : tIntS.Rd w [.slice a2 zs2.length c2] zs2) (hz2 : zs2.length ≤ 2097152)
    (G : Box w Bg T #[.int .i64 gn, .int .i64 gs]) (C : Box w Bc T2 #[.int .i64 o2, .int .i64 d2, .int .i64 b2, .int .i64 k2, .slice a2 zs2.length c2]) :
    Calls Tryz.prog 250 #[.slice (some ⟨pb, 0, none⟩) n pc, .func (Fn.func 204) #[] #[.pointer (some ⟨Bg, 0, none⟩), .pointer (some ⟨Bc, 0, none⟩)]] w fun e w' => ((e = .returned (.int .i64 (-1)) ∧ ((js.take n).any fun y => clashD gn gs (jobC y) (o2, d2, b2, k2, zs2)) = false) ∨ ∃ j : Nat, j < n ∧ e = .returned (.int .i64 j) ∧ ((js.take n).any fun y => clashD gn gs (jobC y) (o2, d2, b2, k2, zs2)) = true) ∧ Below w.heap.size w w' := by
  have hjl : js.length ≤ 2097152 := by unfold wttJobS at hw; omega
  go_enter Tryz.func250, Tryz.ntmps250
  go_wp2
  go_loopw [8] (fun i wr => ∃ j : Nat, j ≤ n ∧ i = .int .i64 j ∧ ((js.take j).any fun y => clashD gn gs (jobC y) (o2, d2, b2, k2, zs2)) = false ∧ Below w.heap.size w wr) (fun i _ => n - (intOf i).toNat)
  case atStart => exact ⟨0, Nat.zero_le _, rfl, rfl, Below.refl _ _⟩
  case round =>
    obtain ⟨j, hj, rfl, ht, hb⟩ := hrel
    by_cases hlt : j < n
    · rcases jobS_at (hJ.below hb) with h0' | ⟨bb, oo, hbo, hbl, hcs⟩
      · omega
      simp only [Option.some.injEq, Addr.mk.injEq, and_true] at hbo
      obtain ⟨rfl, rfl⟩ := hbo
      obtain ⟨o, d1, b1, k, zs, t1, gs1, q1, hdj⟩ : ∃ o d1 b1 k zs t1 gs1 q1, js[j]? = some (o, d1, b1, k, zs, t1, gs1, q1) := ⟨_, _, _, _, _, _, _, _, List.getElem?_eq_getElem (by omega)⟩
      have hin := job_inner hdj
      have hlen : zs.length ≤ 2097152 := by unfold wttJobS at hw; simp only [wJob] at hin; omega
      obtain ⟨av0, cv0, av1, cv1, hc0, hc1, hc2, hc3, hc4, hc5, hc6, hc7, hr0, hr1⟩ := hcs j o d1 b1 k zs t1 gs1 q1 hdj
      have hp := (hP.below hb).2 j hlt
      have HIT := hidden (any_hit (p := fun y => clashD gn gs (jobC y) (o2, d2, b2, k2, zs2)) (l := js.take n) (j := j) (x := (o, d1, b1, k, zs, t1, gs1, q1)) (by rw [List.getElem?_take, if_pos hlt]; exact hdj))
      have STP := hidden (any_step (p := fun y => clashD gn gs (jobC y) (o2, d2, b2, k2, zs2)) hdj)
      have HT := hidden ht
      have CALL := hidden (clos15_any wr gn gs b (off + j * 8) Bg Bc T T2 o d1 b1 k o2 d2 b2 k2 _ _ _ _ zs zs2 hbl hc0 hc1 hc2 hc3 hc4 hr0 (r2.below hb) hlen hz2 (G.below hb G.lt) (C.below hb C.lt))
      have eq : clashD gn gs (jobC (o, d1, b1, k, zs, t1, gs1, q1)) (o2, d2, b2, k2, zs2) = metC (spanC gn gs o d1 b1 k zs) (spanC gn gs o2 d2 b2 k2 zs2) := rfl
      clear hcs hdj hc0 hc1 hc2 hc3 hc4 hc5 hc6 hc7 hr0 hr1 hin ht
      have EQ := hidden eq
      clear eq
      cases hm : metC (spanC gn gs o d1 b1 k zs) (spanC gn gs o2 d2 b2 k2 zs2)
      · have HS := hidden (STP.out (by rw [EQ.out, hm]) HT.out)
        rw [hm] at CALL
        clear hm
        go_wp2_with fail
        refine CALL.out.mono ?_
        rintro e w1 ⟨rfl, hb1⟩
        have HB := Below.andThen hb hb1
        go_wp2
        go_roundw
        case rel => exact ⟨j + 1, by omega, by go_num, HS.out, HB⟩
        case measure => simp [intOf]; omega
      · have HS := hidden (HIT.out (by rw [EQ.out, hm]))
        rw [hm] at CALL
        clear hm
        go_wp2_with fail
        refine CALL.out.mono ?_
        rintro e w1 ⟨rfl, hb1⟩
        have HB := Below.andThen hb hb1
        go_wp2
        go_ret
        exact ⟨.inr ⟨j, hlt, rfl, HS.out⟩, HB⟩
    · obtain rfl : j = n := by omega
      have HT := hidden ht
      clear ht
      go_wp2
      go_ret
      exact ⟨.inl ⟨rfl, HT.out⟩, hb⟩

theorem jobHas_any (w : World) (gn gs : Int) (pb pc n b off cj Bg Bc : Nat) (T T2 : TypeId) (js : List JobD) (o2 d2 b2 k2 : Int) (a2 : Option Addr) (c2 : Nat) (zs2 : List Int) (hP : Ptrs w pb b off n) (hn : n ≤ js.length) (hJ : (tJobS 0).Rd w [.slice (some ⟨b, off, none⟩) js.length cj] js) (hw : wttJobS js ≤ 2097152) (r2 : tIntS.Rd w [.slice a2 zs2.length c2] zs2) (hz2 : zs2.length ≤ 2097152)
    (G : Box w Bg T #[.int .i64 gn, .int .i64 gs]) (C : Box w Bc T2 #[.int .i64 o2, .int .i64 d2, .int .i64 b2, .int .i64 k2, .slice a2 zs2.length c2]) :
    Calls Tryz.prog 203 #[.slice (some ⟨pb, 0, none⟩) n pc, .func (Fn.func 204) #[] #[.pointer (some ⟨Bg, 0, none⟩), .pointer (some ⟨Bc, 0, none⟩)]] w fun e w' => e = .returned (.bool ((js.take n).any fun y => clashD gn gs (jobC y) (o2, d2, b2, k2, zs2))) ∧ Below w.heap.size w w' := by
  go_enter Tryz.func203, Tryz.ntmps203
  go_wp2_with fail
  refine (jobIndex_any _ gn gs pb pc n b off cj Bg Bc T T2 js o2 d2 b2 k2 _ _ zs2 hP hn hJ hw r2 hz2 G C).mono ?_
  rintro e w1 ⟨⟨rfl, h⟩ | ⟨j, hj, rfl, h⟩, hs⟩
  · have H := hidden h
    clear h
    go_wp2
    go_ret
    exact ⟨ret_bool (by rw [H.out]), hs⟩
  · have H := hidden h
    have j0 : (0 : Int) ≤ (j : Int) := by omega
    clear h
    go_wp2
    go_ret
    exact ⟨ret_bool (by rw [H.out]), hs⟩

theorem clashesAny_any (w : World) (gn gs : Int) (pb pc n b off cj : Nat) (js : List JobD) (o2 d2 b2 k2 : Int) (a2 : Option Addr) (c2 : Nat) (zs2 : List Int) (hP : Ptrs w pb b off n) (hn : n ≤ js.length) (hJ : (tJobS 0).Rd w [.slice (some ⟨b, off, none⟩) js.length cj] js) (hw : wttJobS js ≤ 2097152) (r2 : tIntS.Rd w [.slice a2 zs2.length c2] zs2) (hz2 : zs2.length ≤ 2097152) :
    Calls Tryz.prog 136 #[.agg #[.int .i64 gn, .int .i64 gs], .agg #[.int .i64 o2, .int .i64 d2, .int .i64 b2, .int .i64 k2, .slice a2 zs2.length c2], .slice (some ⟨pb, 0, none⟩) n pc] w fun e w' => e = .returned (.bool ((js.take n).any fun y => clashD gn gs (jobC y) (o2, d2, b2, k2, zs2))) ∧ Below w.heap.size w w' := by
  go_enter Tryz.func136, Tryz.ntmps136
  go_wp2_with fail
  refine seal_new2 ?_
  intro V A X B
  refine (jobHas_any _ gn gs pb pc n b off cj _ _ _ _ js o2 d2 b2 k2 _ _ zs2 (hP.below B) hn (hJ.below B) hw (r2.below B) hz2 A X).mono ?_
  rintro e w1 ⟨rfl, b1⟩
  have HB := Below.andThen B b1
  go_wp2
  go_ret
  exact ⟨rfl, HB⟩

end Go.Proofs.YtbkkjfgjlapadaaGreat

/-
  Rows of plain values: plain lemmas. No condition; nothing of the program is named here.
-/
namespace Go.Proofs.YtbkkjfgjlapadaaGreat
open Go.RowKit

/-- A plain value. -/
abbrev valTy : Ty where
  n := 1
  D := Value
  rd := fun _ vs d fp => vs = [d] ∧ fp = []
  ow := fun _ vs d fp => vs = [d] ∧ fp = []
  owRd := fun h => h
  rdLen := fun h => by rw [h.1]; rfl
  rdLt := fun h => by rw [h.2]; simp
  rdKept := fun h _ _ => h
  owKept := fun h _ _ => h
theorem row_mem12 {t : Ty} {E : TypeId} {w : World} {g n cap : Nat} {d : List t.D} {fp : List Nat} (h : (rowTy t E).Mine w [.slice (some ⟨g, 0, none⟩) n cap] d fp) : g ∈ fp := by
  obtain ⟨h, _⟩ := h
  rcases h with ⟨h1, _⟩ | ⟨b, cap', cur, fps, h1, _, _, _, _, hf, _⟩
  · simp at h1
  · simp at h1
    rw [hf, h1.1]
    simp

theorem val_at {w : World} {E : TypeId} {g n cap k : Nat} {ys : List Value} {v : Value} {fo : List Nat} (h : (rowTy valTy E).Mine w [.slice (some ⟨g, 0, none⟩) n cap] ys fo) (hk : ys[k]? = some v) : w.cell? ⟨g, k, none⟩ = some v ∧ g < w.heap.size := by
  obtain ⟨h, _⟩ := h
  rcases h with ⟨h1, _, _⟩ | ⟨b, cap', cur, fps, h1, h2, h3, h4, h5, h6, h7, h8⟩
  · simp at h1
  · simp only [List.cons.injEq, Value.slice.injEq, Option.some.injEq, Addr.mk.injEq, and_true] at h1
    obtain ⟨rfl, _, rfl⟩ := h1
    obtain ⟨f, _, hv, _⟩ := h8 k v hk
    refine ⟨?_, (Array.getElem?_eq_some_iff.1 h4).1⟩
    rw [cell_of_row w g _ cur _ (0, 0) h4]
    have : ((cur.toList.drop (k * 1)).take 1)[0]? = some v := by rw [hv]; rfl
    rw [List.getElem?_take, if_pos (by omega), List.getElem?_drop] at this
    simpa using this

end Go.Proofs.YtbkkjfgjlapadaaGreat

/-
  The program's pointers to where an engine's jobs stand, whether each job is right, whether there are too many of all. Condition: the jobs weigh at most 2097152.
-/
namespace Go.Proofs.YtbkkjfgjlapadaaGreat
open Go.RowKit

theorem Tryz.infoPtr15 : (Tryz.prog.info? 152).map (fun i => (i.zero, i.size, i.bytes)) = some (some (.pointer none), 1, 8) := by kernel_rfl
def ptrL (b off n : Nat) : List Value := (List.range n).map fun i => .pointer (some ⟨b, off + i * 8, none⟩)
theorem ptrL_len {b off n : Nat} : (ptrL b off n).length = n := by simp [ptrL]
theorem ptrL_at {b off n i : Nat} (h : i < n) : (ptrL b off n)[i]? = some (.pointer (some ⟨b, off + i * 8, none⟩)) := by simp [ptrL, h]
theorem ptrL_step {b off n : Nat} : ptrL b off n ++ [.pointer (some ⟨b, off + n * 8, none⟩)] = ptrL b off (n + 1) := by simp [ptrL, List.range_succ]
theorem ptrs_of {w : World} {E : TypeId} {pb b off n c : Nat} {fp : List Nat} (h : (rowTy valTy E).Mine w [.slice (some ⟨pb, 0, none⟩) n c] (ptrL b off n) fp) : Ptrs w pb b off n := ⟨h.lt _ (row_mem12 h), fun _ hi => (val_at h (ptrL_at hi)).1⟩

set_option maxRecDepth 20000 in
set_option maxHeartbeats 1600000 in
theorem jobs_any (w : World) (B : Nat) (T : TypeId) (l : List Value) (aj : Option Addr) (n c b off : Nat) (X : Box w B T l.toArray) (h14 : l[14]? = some (.slice aj n c)) (hj : aj = some ⟨b, off, none⟩ ∨ n = 0) (hn : n ≤ 1048576) (hc : n ≤ c) :
    Calls Tryz.prog 134 #[.pointer (some ⟨B, 0, none⟩)] w fun e w' => ∃ pb pc, e = .returned (.slice (some ⟨pb, 0, none⟩) n pc) ∧ Ptrs w' pb b off n ∧ n ≤ pc ∧ Below w.heap.size w w' := by
  have x14 : w.cell? ⟨B, 14, none⟩ = some (.slice aj n c) := by rw [X.cell 14]; simpa using h14
  have hBl := X.lt
  obtain ⟨i4, hi4, hz0, hz1, hz2⟩ := info_parts Tryz.infoPtr15
  go_enter Tryz.func134, Tryz.ntmps134
  go_wp2
  have hO : (rowTy valTy 152).Mine (w.alloc (.cells #[] 152)) [.slice (some ⟨w.heap.size, 0, none⟩) 0 0] (ptrL b off 0) [w.heap.size] := lit0_mine w
  have hB0 := new_below w (.cells #[] 152)
  go_loopw [3, 11] (fun pv iv wr => ∃ (j g cap : Nat) (fp : List Nat), j ≤ n ∧ iv = .int .i64 j ∧ pv = .slice (some ⟨g, 0, none⟩) j cap ∧ (rowTy valTy 152).Mine wr [.slice (some ⟨g, 0, none⟩) j cap] (ptrL b off j) fp ∧ (∀ q ∈ fp, w.heap.size ≤ q) ∧ Below w.heap.size w wr) (fun _ iv _ => n - (intOf iv).toNat)
  case atStart => exact ⟨0, _, _, _, Nat.zero_le _, rfl, rfl, hO, by simp, hB0⟩
  case round =>
    clear hO hB0
    obtain ⟨j, g, cap, fp, hjn, rfl, rfl, hM, hfp, hb⟩ := hrel
    by_cases hlt : j < n
    · have x14' := (hb.cell (p := ⟨B, 14, none⟩) hBl).trans x14
      rcases hj with rfl | h0
      · have hA := hM.alloc (.cells #[.pointer (some ⟨b, off + j * 8, none⟩)] 152)
        have hS : (ptrL b off j).length + 1 ≤ maxLen := by rw [ptrL_len]; unfold maxLen; omega
        have hS2 : ((ptrL b off j).length + 1) * 8 ≤ 140737488355328 := by rw [ptrL_len]; omega
        have hv1 : ∀ u ∈ [Value.pointer (some ⟨b, off + j * 8, none⟩)], u.oneCell' = true := by simp [Value.oneCell']
        have hmv : valTy.Mine (wr.alloc (.cells #[.pointer (some ⟨b, off + j * 8, none⟩)] 152)) [.pointer (some ⟨b, off + j * 8, none⟩)] (.pointer (some ⟨b, off + j * 8, none⟩)) [] := ⟨⟨rfl, rfl⟩, by simp⟩
        have hln : (ptrL b off j).length = j := ptrL_len
        have NW := news_new wr #[.pointer (some ⟨b, off + j * 8, none⟩)] 152
        have i1 : (0 : Int) ≤ (j : Int) := by omega
        have i2 : (j : Int) < (n : Int) := by omega
        go_wp2_with (at_builtin; refine wpList_appT valTy rfl _ _ 150 rfl 152 i4 (.pointer none) 8 Tryz.underlying150 hi4 hz0 hz1 hz2 rfl Nat.zero_lt_one _ (ptrL b off j) fp rfl hA _ _ [.pointer (some ⟨b, off + j * 8, none⟩)] _ [] rfl hmv (by simp) NW hv1 hS hS2 ?_; intro v' w' fp' m1 m2 m3)
        rw [ptrL_step] at m1
        obtain ⟨a', c', rfl⟩ := row_shape m1.rd
        rw [ptrL_len] at m1
        obtain ⟨g', rfl⟩ : ∃ g', a' = some ⟨g', 0, none⟩ := (row_ow_shape m1).resolve_left (by omega)
        have HM := hidden m1
        have hT := m3.below (N := w.heap.size) (by have := hb.size; simp; omega) hfp
        have HB := hidden ((hb.alloc hb.size (.cells #[.pointer (some ⟨b, off + j * 8, none⟩)] 152)).trans hT)
        have HF : Hid (∀ q ∈ fp', w.heap.size ≤ q) := fun q hq => by
          have := hb.size
          rcases m2 q hq with h | h | h
          · exact hfp q h
          · simp at h
          · have := h.1; simp at this; omega
        rw [ptrL_len]
        clear m1 m2 m3 hA hmv hM hfp hT hb NW
        go_wp2
        go_roundw
        case rel => exact ⟨j + 1, g', c', fp', by omega, by go_num, rfl, HM.out, HF.out, HB.out⟩
        case measure => simp [intOf]; omega
      · omega
    · obtain rfl : j = n := by omega
      have hle := (row_length hM.rd).2.1
      have HP := hidden (ptrs_of hM)
      clear hM
      go_wp2
      go_ret
      exact ⟨_, _, rfl, HP.out, hle, hb⟩

end Go.Proofs.YtbkkjfgjlapadaaGreat

/-
  The walks of the specification's looks at an array's entries, at the array as a whole, and whether a disk of it lives. Condition: it weighs at most 2097152.
-/
namespace Go.Proofs.YtbkkjfgjlapadaaGreat
open Go.RowKit

theorem entsB_no {x : ArrN} {ds : List (Int × List Int)} {i : Nat} {d : Int × List Int} (hx : ds[i]? = some d) (h : entAt x ds i d = false) : entsB x ds = false := allIx_no hx h
theorem entAt_1 {x : ArrN} {ds : List (Int × List Int)} {i : Nat} {y : Int} {zs : List Int} (h : inB y 0 (x.s - 1) = false) : entAt x ds i (y, zs) = false := by unfold entAt; rw [h]; rfl
theorem entAt_2 {x : ArrN} {ds : List (Int × List Int)} {i : Nat} {y : Int} {zs : List Int} (h : ¬ (zs.length : Int) = x.n - 1) : entAt x ds i (y, zs) = false := by unfold entAt; simp [h]
theorem entAt_3 {x : ArrN} {ds : List (Int × List Int)} {i : Nat} {y : Int} {zs : List Int} (h : allW zs = false) : entAt x ds i (y, zs) = false := by unfold entAt; simp [h]
theorem entAt_4 {x : ArrN} {ds : List (Int × List Int)} {y : Int} {zs : List Int} (h1 : inB y 0 (x.s - 1) = true) (h2 : (zs.length : Int) = x.n - 1) (h3 : allW zs = true) : entAt x ds 0 (y, zs) = true := by unfold entAt; simp [h1, h2, h3]
theorem entAt_5 {x : ArrN} {ds : List (Int × List Int)} {p : Nat} {y : Int} {zs : List Int} {q : Int × List Int} (h1 : inB y 0 (x.s - 1) = true) (h2 : (zs.length : Int) = x.n - 1) (h3 : allW zs = true) (hq : ds[p]? = some q) : entAt x ds (p + 1) (y, zs) = decide (q.1 < y) := by
  unfold entAt
  rw [h1, h3]
  have : ds.getD (p + 1 - 1) (0, []) = q := by rw [Nat.add_sub_cancel, List.getD_eq_getElem?_getD, hq]; rfl
  simp only [h2, decide_true, Bool.true_and, this]
  simp

set_option linter.unusedSimpArgs false in
set_option maxHeartbeats 3200000 in
theorem l6Dirty_any (w : World) (G : TypeId) (x : ArrN) (am ad : Option Addr) (nm cm nd cd : Nat) (ds : List (Int × List Int)) (h0 : (tWrS G).Rd w [.slice ad nd cd] ds) (hw : wtWrS ds ≤ 2097152) (hg : geoB x.n x.s = true) :
    Calls Tryz.prog 158 #[.agg #[.int .i64 x.id, .int .i64 x.n, .int .i64 x.s, .slice am nm cm, .int .i64 x.lost, .int .i64 x.built, .int .i64 x.seq, .int .i64 x.tail, .int .i64 x.gen, .slice ad nd cd, .int .i64 x.fuse, .bool x.down, .bool x.broken]] w fun e w' => e = .returned (.bool (entsB x ds)) ∧ Below w.heap.size w w' := by
  obtain ⟨hl, hc, hm⟩ := row_length h0
  obtain ⟨g1, g2, g3, g4⟩ := geoB_iff.1 hg
  have hA := new_below w (.cells #[.int .i64 x.id, .int .i64 x.n, .int .i64 x.s, .slice am nm cm, .int .i64 x.lost, .int .i64 x.built, .int .i64 x.seq, .int .i64 x.tail, .int .i64 x.gen, .slice ad nd cd, .int .i64 x.fuse, .bool x.down, .bool x.broken] 29)
  have X := Box.new w 29 #[.int .i64 x.id, .int .i64 x.n, .int .i64 x.s, .slice am nm cm, .int .i64 x.lost, .int .i64 x.built, .int .i64 x.seq, .int .i64 x.tail, .int .i64 x.gen, .slice ad nd cd, .int .i64 x.fuse, .bool x.down, .bool x.broken]
  have zA := X.lt
  have hnd : nd ≤ 2097152 := by unfold wtWrS at hw; omega
  have h1 := h0.below hA
  have hws : IntKind.i64.wrap (x.s - 1) = x.s - 1 := IntWalk.i64_in _ (by omega)
  have hwn : IntKind.i64.wrap (x.n - 1) = x.n - 1 := IntWalk.i64_in _ (by omega)
  go_enter Tryz.func158, Tryz.ntmps158
  go_wp2
  generalize w.alloc (.cells #[.int .i64 x.id, .int .i64 x.n, .int .i64 x.s, .slice am nm cm, .int .i64 x.lost, .int .i64 x.built, .int .i64 x.seq, .int .i64 x.tail, .int .i64 x.gen, .slice ad nd cd, .int .i64 x.fuse, .bool x.down, .bool x.broken] 29) = W at hA X zA h1 ⊢
  go_loopw [3] (fun i wr => ∃ j : Nat, j ≤ nd ∧ i = .int .i64 j ∧ (∀ (q : Nat) (d : Int × List Int), q < j → ds[q]? = some d → entAt x ds q d = true) ∧ Below W.heap.size W wr) (fun i _ => nd - (intOf i).toNat)
  case atStart => exact ⟨0, Nat.zero_le _, rfl, fun q d hq => by omega, Below.refl _ _⟩
  case round =>
    obtain ⟨j, hj, rfl, hall, hb⟩ := hrel
    have Xr := X.below hb zA
    obtain ⟨k0, k1, k2, k3, k4, k5, k6, k7, k8, k9, k10, k11, k12⟩ := Xr.cells13
    by_cases hjn : j < nd
    · rcases pairs_at rfl h1 with h0' | ⟨b, off, rfl, hbl, hcs⟩
      · omega
      have hdj : ds[j]? = some (ds[j]'(by omega)) := List.getElem?_eq_getElem (by omega)
      generalize ds[j]'(by omega) = d at hdj
      obtain ⟨v0, v1, hv0, hv1, hrv⟩ := hcs j d hdj
      obtain ⟨rfl, hrw⟩ := wr_rd hrv
      obtain ⟨av, cv, rfl⟩ := row_shape hrw
      obtain ⟨y, zs⟩ := d
      simp only at hv0 hv1 hrw hrv
      have u0 := (hb.cell (p := ⟨b, off + j * 2, none⟩) hbl).trans hv0
      have u1 := (hb.cell (p := ⟨b, off + j * 2 + 1, none⟩) hbl).trans hv1
      have i1 : (0 : Int) ≤ (j : Int) := by omega
      have i2 : (j : Int) < (nd : Int) := by omega
      have hwz : zs.length ≤ 2097152 := Nat.le_trans (inner_le' hdj) hw
      have HDJ := hidden hdj
      have b1 := new_below wr (.cells #[.int .i64 y, .slice av zs.length cv] 162)
      have Y1 := Box.new wr 162 #[.int .i64 y, .slice av zs.length cv]
      have X1 := Xr.below b1 Xr.lt
      have RZ := (ints_rd ((hrw.below hb).below b1)).1
      have B1 := hb.trans (b1.mono hb.size)
      obtain ⟨y0, y1⟩ := Y1.cells2
      obtain ⟨e0, e1, e2, e3, e4, e5, e6, e7, e8, e9, e10, e11, e12⟩ := X1.cells13
      have hq : ∀ (p : Nat) (q : Int × List Int), ds[p]? = some q → (wr.alloc (.cells #[.int .i64 y, .slice av zs.length cv] 162)).cell? ⟨b, off + p * 2, none⟩ = some (.int .i64 q.1) := fun p q hpq => by
        obtain ⟨c0, c1, hc0, hc1, hrc⟩ := hcs p q hpq
        obtain ⟨rfl, _⟩ := wr_rd hrc
        exact (B1.cell (p := ⟨b, off + p * 2, none⟩) hbl).trans hc0
      have HQ := hidden hq
      clear hcs hv0 hv1 hrv hrw hdj hq b1 e0 e3 e4 e5 e6 e7 e8 e10 e11 e12
      cases hI : inB y 0 (x.s - 1)
      · skip
        go_wp2_with fail
        generalize wr.alloc (.cells #[.int .i64 y, .slice av zs.length cv] 162) = w1 at X1 Y1 RZ B1 y0 y1 e1 e2 e9 HQ ⊢
        refine wp_region_held_drew (S := fun w' => w'.cell? ⟨wr.heap.size, 0, none⟩ = some (.int .i64 y) ∧ w'.cell? ⟨wr.heap.size, 1, none⟩ = some (.slice av zs.length cv) ∧ w'.cell? ⟨w.heap.size, 1, none⟩ = some (.int .i64 x.n) ∧ w'.cell? ⟨w.heap.size, 2, none⟩ = some (.int .i64 x.s) ∧ w'.cell? ⟨w.heap.size, 9, none⟩ = some (.slice (some ⟨b, off, none⟩) nd cd)) (by kernel_rfl) ?_ (fun hHeld => ?_)
        · exact ⟨y0, y1, e1, e2, e9⟩
        refine held_t 0 hHeld ?_
        refine held_t 1 hHeld ?_
        refine held_t 2 hHeld ?_
        refine held_t 3 hHeld ?_
        refine held_t 4 hHeld ?_
        refine held_t 5 hHeld ?_
        refine held_one (i := 6) (by kernel_rfl) rfl (by kernel_rfl) (fun K hK => ?_)
        go_simp
        refine (l1In_any _ _ _ _).mono ?_
        rintro e w2 ⟨rfl, hw2⟩
        subst hw2
        rw [hI]
        go_wp2_with fail
        clear hHeld
        refine hK.out _ _ ?_ (fun hHeld => ?_)
        · exact ⟨y0, y1, e1, e2, e9⟩
        clear hK K
        refine held_t 7 hHeld ?_
        refine held_t 8 hHeld ?_
        refine held_p 9 hHeld ?_
        refine held_p 10 hHeld ?_
        refine held_p 11 hHeld ?_
        refine held_p 12 hHeld ?_
        refine held_p 13 hHeld ?_
        refine held_p 14 hHeld ?_
        refine held_p 15 hHeld ?_
        refine held_p 16 hHeld ?_
        refine held_t 17 hHeld ?_
        refine held_t 18 hHeld ?_
        refine held_p 19 hHeld ?_
        refine held_p 20 hHeld ?_
        refine held_none (i := 21) (by kernel_rfl) rfl (by kernel_rfl) hHeld ?_
        simp only [Act.put, List.setIfInBounds_toArray, List.set_cons_zero, List.set_cons_succ]
        refine held_p 22 hHeld ?_
        refine held_t 23 hHeld ?_
        refine held_t 24 hHeld ?_
        refine held_p 25 hHeld ?_
        refine held_p 26 hHeld ?_
        refine held_p 27 hHeld ?_
        refine held_p 28 hHeld ?_
        refine held_p 29 hHeld ?_
        refine held_p 30 hHeld ?_
        refine held_p 31 hHeld ?_
        refine held_p 32 hHeld ?_
        refine held_p 33 hHeld ?_
        refine held_p 34 hHeld ?_
        refine held_p 35 hHeld ?_
        refine held_p 36 hHeld ?_
        refine held_p 37 hHeld ?_
        refine held_p 38 hHeld ?_
        refine held_t 39 hHeld ?_
        refine wpAnyH_done (by kernel_rfl) ?_ _
        clear hHeld
        have HB := hidden (hA.trans (B1.drew.mono hA.size))
        have HE := hidden (entsB_no (x := x) HDJ.out (entAt_1 hI))
        go_wp2
        go_ret
        exact ⟨ret_bool HE.out.symm, HB.out⟩
      · by_cases hL : (zs.length : Int) = x.n - 1
        · have hL1 : ((zs.length : Int) == x.n - 1) = true := by simpa using hL
          have hL2 : ((zs.length : Int) != x.n - 1) = false := by simpa using hL
          have HL := hidden hL
          clear hL
          cases hZ : allW zs
          · skip
            go_wp2_with fail
            generalize wr.alloc (.cells #[.int .i64 y, .slice av zs.length cv] 162) = w1 at X1 Y1 RZ B1 y0 y1 e1 e2 e9 HQ ⊢
            refine wp_region_held_drew (S := fun w' => w'.cell? ⟨wr.heap.size, 0, none⟩ = some (.int .i64 y) ∧ w'.cell? ⟨wr.heap.size, 1, none⟩ = some (.slice av zs.length cv) ∧ w'.cell? ⟨w.heap.size, 1, none⟩ = some (.int .i64 x.n) ∧ w'.cell? ⟨w.heap.size, 2, none⟩ = some (.int .i64 x.s) ∧ w'.cell? ⟨w.heap.size, 9, none⟩ = some (.slice (some ⟨b, off, none⟩) nd cd)) (by kernel_rfl) ?_ (fun hHeld => ?_)
            · exact ⟨y0, y1, e1, e2, e9⟩
            refine held_t 0 hHeld ?_
            refine held_t 1 hHeld ?_
            refine held_t 2 hHeld ?_
            refine held_t 3 hHeld ?_
            refine held_t 4 hHeld ?_
            refine held_t 5 hHeld ?_
            refine held_one (i := 6) (by kernel_rfl) rfl (by kernel_rfl) (fun K hK => ?_)
            go_simp
            refine (l1In_any _ _ _ _).mono ?_
            rintro e w2 ⟨rfl, hw2⟩
            subst hw2
            rw [hI]
            go_wp2_with fail
            clear hHeld
            refine hK.out _ _ ?_ (fun hHeld => ?_)
            · exact ⟨y0, y1, e1, e2, e9⟩
            clear hK K
            refine held_t 7 hHeld ?_
            refine held_t 8 hHeld ?_
            refine held_t 9 hHeld ?_
            refine held_t 10 hHeld ?_
            refine held_t 11 hHeld ?_
            refine held_t 12 hHeld ?_
            refine held_t 13 hHeld ?_
            refine held_t 14 hHeld ?_
            refine held_t 15 hHeld ?_
            refine held_t 16 hHeld ?_
            refine held_t 17 hHeld ?_
            refine held_t 18 hHeld ?_
            refine held_t 19 hHeld ?_
            refine held_t 20 hHeld ?_
            refine held_one (i := 21) (by kernel_rfl) rfl (by kernel_rfl) (fun K hK => ?_)
            go_simp
            refine (l1Words_any _ _ _ _ zs rfl RZ.draw hwz).mono ?_
            rintro e w2 ⟨rfl, hw2⟩
            subst hw2
            rw [hZ]
            go_wp2_with fail
            clear hHeld
            refine hK.out _ _ ?_ (fun hHeld => ?_)
            · exact ⟨y0, y1, e1, e2, e9⟩
            clear hK K
            refine held_t 22 hHeld ?_
            refine held_t 23 hHeld ?_
            refine held_t 24 hHeld ?_
            refine held_p 25 hHeld ?_
            refine held_p 26 hHeld ?_
            refine held_p 27 hHeld ?_
            refine held_p 28 hHeld ?_
            refine held_p 29 hHeld ?_
            refine held_p 30 hHeld ?_
            refine held_p 31 hHeld ?_
            refine held_p 32 hHeld ?_
            refine held_p 33 hHeld ?_
            refine held_p 34 hHeld ?_
            refine held_p 35 hHeld ?_
            refine held_p 36 hHeld ?_
            refine held_p 37 hHeld ?_
            refine held_p 38 hHeld ?_
            refine held_t 39 hHeld ?_
            refine wpAnyH_done (by kernel_rfl) ?_ _
            clear hHeld
            have HB := hidden (hA.trans (B1.drew.mono hA.size))
            have HE := hidden (entsB_no (x := x) HDJ.out (entAt_3 hZ))
            go_wp2
            go_ret
            exact ⟨ret_bool HE.out.symm, HB.out⟩
          · by_cases hj0 : j = 0
            · subst hj0
              simp only [Nat.zero_mul, Nat.add_zero] at u0 u1
              go_wp2_with fail
              generalize wr.alloc (.cells #[.int .i64 y, .slice av zs.length cv] 162) = w1 at X1 Y1 RZ B1 y0 y1 e1 e2 e9 HQ ⊢
              refine wp_region_held_drew (S := fun w' => w'.cell? ⟨wr.heap.size, 0, none⟩ = some (.int .i64 y) ∧ w'.cell? ⟨wr.heap.size, 1, none⟩ = some (.slice av zs.length cv) ∧ w'.cell? ⟨w.heap.size, 1, none⟩ = some (.int .i64 x.n) ∧ w'.cell? ⟨w.heap.size, 2, none⟩ = some (.int .i64 x.s) ∧ w'.cell? ⟨w.heap.size, 9, none⟩ = some (.slice (some ⟨b, off, none⟩) nd cd)) (by kernel_rfl) ?_ (fun hHeld => ?_)
              · exact ⟨y0, y1, e1, e2, e9⟩
              refine held_t 0 hHeld ?_
              refine held_t 1 hHeld ?_
              refine held_t 2 hHeld ?_
              refine held_t 3 hHeld ?_
              refine held_t 4 hHeld ?_
              refine held_t 5 hHeld ?_
              refine held_one (i := 6) (by kernel_rfl) rfl (by kernel_rfl) (fun K hK => ?_)
              go_simp
              refine (l1In_any _ _ _ _).mono ?_
              rintro e w2 ⟨rfl, hw2⟩
              subst hw2
              rw [hI]
              go_wp2_with fail
              clear hHeld
              refine hK.out _ _ ?_ (fun hHeld => ?_)
              · exact ⟨y0, y1, e1, e2, e9⟩
              clear hK K
              refine held_t 7 hHeld ?_
              refine held_t 8 hHeld ?_
              refine held_t 9 hHeld ?_
              refine held_t 10 hHeld ?_
              refine held_t 11 hHeld ?_
              refine held_t 12 hHeld ?_
              refine held_t 13 hHeld ?_
              refine held_t 14 hHeld ?_
              refine held_t 15 hHeld ?_
              refine held_t 16 hHeld ?_
              refine held_t 17 hHeld ?_
              refine held_t 18 hHeld ?_
              refine held_t 19 hHeld ?_
              refine held_t 20 hHeld ?_
              refine held_one (i := 21) (by kernel_rfl) rfl (by kernel_rfl) (fun K hK => ?_)
              go_simp
              refine (l1Words_any _ _ _ _ zs rfl RZ.draw hwz).mono ?_
              rintro e w2 ⟨rfl, hw2⟩
              subst hw2
              rw [hZ]
              go_wp2_with fail
              clear hHeld
              refine hK.out _ _ ?_ (fun hHeld => ?_)
              · exact ⟨y0, y1, e1, e2, e9⟩
              clear hK K
              refine held_t 22 hHeld ?_
              refine held_t 23 hHeld ?_
              refine held_t 24 hHeld ?_
              refine held_t 25 hHeld ?_
              refine held_t 26 hHeld ?_
              refine held_t 27 hHeld ?_
              refine held_p 28 hHeld ?_
              refine held_p 29 hHeld ?_
              refine held_p 30 hHeld ?_
              refine held_p 31 hHeld ?_
              refine held_p 32 hHeld ?_
              refine held_p 33 hHeld ?_
              refine held_p 34 hHeld ?_
              refine held_p 35 hHeld ?_
              refine held_p 36 hHeld ?_
              refine held_p 37 hHeld ?_
              refine held_t 38 hHeld ?_
              refine held_t 39 hHeld ?_
              refine wpAnyH_done (by kernel_rfl) ?_ _
              clear hHeld
              have HB := hidden B1.drew
              have hat : entAt x ds (0) (y, zs) = true := entAt_4 hI HL.out hZ
              go_wp2
              go_roundw
              case rel => exact ⟨0 + 1, by omega, by go_num, fun q d hq hm' => by
                  rcases Nat.lt_or_ge q (0) with h | h
                  · exact hall q d h hm'
                  · obtain rfl : q = 0 := by omega
                    rw [HDJ.out] at hm'
                    cases hm'
                    exact hat, HB.out⟩
              case measure => simp [intOf]; omega
            · obtain ⟨p, rfl⟩ : ∃ p, j = p + 1 := ⟨j - 1, by omega⟩
              have hpq : ds[p]? = some (ds[p]'(by omega)) := List.getElem?_eq_getElem (by omega)
              generalize ds[p]'(by omega) = q at hpq
              have hE := entAt_5 hI HL.out hZ hpq
              have qc := HQ.out p q hpq
              obtain ⟨s, zq⟩ := q
              simp only at qc hE
              have HE5 := hidden hE
              clear hpq hE
              have j1 : IntKind.i64.wrap (((p + 1 : Nat) : Int) - 1) = (p : Int) := by rw [IntWalk.i64_in _ (by omega)]; omega
              have j2 : IntKind.i64.wrap ((p : Int) + 1 - 1) = (p : Int) := by rw [IntWalk.i64_in _ (by omega)]; omega
              have j3 : IntKind.i64.wrap (p : Int) = (p : Int) := IntWalk.i64_in _ (by omega)
              have j4 : (0 : Int) ≤ (p : Int) := by omega
              have j5 : (p : Int) < (nd : Int) := by omega
              have j6 : (0 : Int) < ((p + 1 : Nat) : Int) := by omega
              by_cases hlt : s < y
              · have hd1 : decide (s < y) = true := by simpa using hlt
                have hge : ¬ y ≤ s := by omega
                go_wp2_with fail
                generalize wr.alloc (.cells #[.int .i64 y, .slice av zs.length cv] 162) = w1 at X1 Y1 RZ B1 y0 y1 e1 e2 e9 HQ qc ⊢
                refine wp_region_held_drew (S := fun w' => w'.cell? ⟨wr.heap.size, 0, none⟩ = some (.int .i64 y) ∧ w'.cell? ⟨wr.heap.size, 1, none⟩ = some (.slice av zs.length cv) ∧ w'.cell? ⟨w.heap.size, 1, none⟩ = some (.int .i64 x.n) ∧ w'.cell? ⟨w.heap.size, 2, none⟩ = some (.int .i64 x.s) ∧ w'.cell? ⟨w.heap.size, 9, none⟩ = some (.slice (some ⟨b, off, none⟩) nd cd) ∧ w'.cell? ⟨b, off + p * 2, none⟩ = some (.int .i64 s)) (by kernel_rfl) ?_ (fun hHeld => ?_)
                · exact ⟨y0, y1, e1, e2, e9, qc⟩
                refine held_t 0 hHeld ?_
                refine held_t 1 hHeld ?_
                refine held_t 2 hHeld ?_
                refine held_t 3 hHeld ?_
                refine held_t 4 hHeld ?_
                refine held_t 5 hHeld ?_
                refine held_one (i := 6) (by kernel_rfl) rfl (by kernel_rfl) (fun K hK => ?_)
                go_simp
                refine (l1In_any _ _ _ _).mono ?_
                rintro e w2 ⟨rfl, hw2⟩
                subst hw2
                rw [hI]
                go_wp2_with fail
                clear hHeld
                refine hK.out _ _ ?_ (fun hHeld => ?_)
                · exact ⟨y0, y1, e1, e2, e9, qc⟩
                clear hK K
                refine held_t 7 hHeld ?_
                refine held_t 8 hHeld ?_
                refine held_t 9 hHeld ?_
                refine held_t 10 hHeld ?_
                refine held_t 11 hHeld ?_
                refine held_t 12 hHeld ?_
                refine held_t 13 hHeld ?_
                refine held_t 14 hHeld ?_
                refine held_t 15 hHeld ?_
                refine held_t 16 hHeld ?_
                refine held_t 17 hHeld ?_
                refine held_t 18 hHeld ?_
                refine held_t 19 hHeld ?_
                refine held_t 20 hHeld ?_
                refine held_one (i := 21) (by kernel_rfl) rfl (by kernel_rfl) (fun K hK => ?_)
                go_simp
                refine (l1Words_any _ _ _ _ zs rfl RZ.draw hwz).mono ?_
                rintro e w2 ⟨rfl, hw2⟩
                subst hw2
                rw [hZ]
                go_wp2_with fail
                clear hHeld
                refine hK.out _ _ ?_ (fun hHeld => ?_)
                · exact ⟨y0, y1, e1, e2, e9, qc⟩
                clear hK K
                refine held_t 22 hHeld ?_
                refine held_t 23 hHeld ?_
                refine held_t 24 hHeld ?_
                refine held_t 25 hHeld ?_
                refine held_t 26 hHeld ?_
                refine held_t 27 hHeld ?_
                refine held_t 28 hHeld ?_
                refine held_t 29 hHeld ?_
                refine held_t 30 hHeld ?_
                refine held_t 31 hHeld ?_
                refine held_t 32 hHeld ?_
                refine held_t 33 hHeld ?_
                refine held_t 34 hHeld ?_
                refine held_t 35 hHeld ?_
                refine held_t 36 hHeld ?_
                refine held_t 37 hHeld ?_
                refine held_t 38 hHeld ?_
                refine held_t 39 hHeld ?_
                refine wpAnyH_done (by kernel_rfl) ?_ _
                clear hHeld
                have HB := hidden B1.drew
                have hat : entAt x ds (p + 1) (y, zs) = true := HE5.out.trans hd1
                go_wp2
                go_roundw
                case rel => exact ⟨p + 1 + 1, by omega, by go_num, fun q d hq hm' => by
                    rcases Nat.lt_or_ge q (p + 1) with h | h
                    · exact hall q d h hm'
                    · obtain rfl : q = p + 1 := by omega
                      rw [HDJ.out] at hm'
                      cases hm'
                      exact hat, HB.out⟩
                case measure => simp [intOf]; omega
              · have hd1 : decide (s < y) = false := by simpa using hlt
                have hge : y ≤ s := by omega
                go_wp2_with fail
                generalize wr.alloc (.cells #[.int .i64 y, .slice av zs.length cv] 162) = w1 at X1 Y1 RZ B1 y0 y1 e1 e2 e9 HQ qc ⊢
                refine wp_region_held_drew (S := fun w' => w'.cell? ⟨wr.heap.size, 0, none⟩ = some (.int .i64 y) ∧ w'.cell? ⟨wr.heap.size, 1, none⟩ = some (.slice av zs.length cv) ∧ w'.cell? ⟨w.heap.size, 1, none⟩ = some (.int .i64 x.n) ∧ w'.cell? ⟨w.heap.size, 2, none⟩ = some (.int .i64 x.s) ∧ w'.cell? ⟨w.heap.size, 9, none⟩ = some (.slice (some ⟨b, off, none⟩) nd cd) ∧ w'.cell? ⟨b, off + p * 2, none⟩ = some (.int .i64 s)) (by kernel_rfl) ?_ (fun hHeld => ?_)
                · exact ⟨y0, y1, e1, e2, e9, qc⟩
                refine held_t 0 hHeld ?_
                refine held_t 1 hHeld ?_
                refine held_t 2 hHeld ?_
                refine held_t 3 hHeld ?_
                refine held_t 4 hHeld ?_
                refine held_t 5 hHeld ?_
                refine held_one (i := 6) (by kernel_rfl) rfl (by kernel_rfl) (fun K hK => ?_)
                go_simp
                refine (l1In_any _ _ _ _).mono ?_
                rintro e w2 ⟨rfl, hw2⟩
                subst hw2
                rw [hI]
                go_wp2_with fail
                clear hHeld
                refine hK.out _ _ ?_ (fun hHeld => ?_)
                · exact ⟨y0, y1, e1, e2, e9, qc⟩
                clear hK K
                refine held_t 7 hHeld ?_
                refine held_t 8 hHeld ?_
                refine held_t 9 hHeld ?_
                refine held_t 10 hHeld ?_
                refine held_t 11 hHeld ?_
                refine held_t 12 hHeld ?_
                refine held_t 13 hHeld ?_
                refine held_t 14 hHeld ?_
                refine held_t 15 hHeld ?_
                refine held_t 16 hHeld ?_
                refine held_t 17 hHeld ?_
                refine held_t 18 hHeld ?_
                refine held_t 19 hHeld ?_
                refine held_t 20 hHeld ?_
                refine held_one (i := 21) (by kernel_rfl) rfl (by kernel_rfl) (fun K hK => ?_)
                go_simp
                refine (l1Words_any _ _ _ _ zs rfl RZ.draw hwz).mono ?_
                rintro e w2 ⟨rfl, hw2⟩
                subst hw2
                rw [hZ]
                go_wp2_with fail
                clear hHeld
                refine hK.out _ _ ?_ (fun hHeld => ?_)
                · exact ⟨y0, y1, e1, e2, e9, qc⟩
                clear hK K
                refine held_t 22 hHeld ?_
                refine held_t 23 hHeld ?_
                refine held_t 24 hHeld ?_
                refine held_t 25 hHeld ?_
                refine held_t 26 hHeld ?_
                refine held_t 27 hHeld ?_
                refine held_t 28 hHeld ?_
                refine held_t 29 hHeld ?_
                refine held_t 30 hHeld ?_
                refine held_t 31 hHeld ?_
                refine held_t 32 hHeld ?_
                refine held_t 33 hHeld ?_
                refine held_t 34 hHeld ?_
                refine held_t 35 hHeld ?_
                refine held_t 36 hHeld ?_
                refine held_t 37 hHeld ?_
                refine held_t 38 hHeld ?_
                refine held_t 39 hHeld ?_
                refine wpAnyH_done (by kernel_rfl) ?_ _
                clear hHeld
                have HB := hidden (hA.trans (B1.drew.mono hA.size))
                have HE := hidden (entsB_no (x := x) HDJ.out (HE5.out.trans hd1))
                go_wp2
                go_ret
                exact ⟨ret_bool HE.out.symm, HB.out⟩
        · have hL1 : ((zs.length : Int) == x.n - 1) = false := by simpa using hL
          have hL2 : ((zs.length : Int) != x.n - 1) = true := by simpa using hL
          have HL := hidden hL
          clear hL
          go_wp2_with fail
          generalize wr.alloc (.cells #[.int .i64 y, .slice av zs.length cv] 162) = w1 at X1 Y1 RZ B1 y0 y1 e1 e2 e9 HQ ⊢
          refine wp_region_held_drew (S := fun w' => w'.cell? ⟨wr.heap.size, 0, none⟩ = some (.int .i64 y) ∧ w'.cell? ⟨wr.heap.size, 1, none⟩ = some (.slice av zs.length cv) ∧ w'.cell? ⟨w.heap.size, 1, none⟩ = some (.int .i64 x.n) ∧ w'.cell? ⟨w.heap.size, 2, none⟩ = some (.int .i64 x.s) ∧ w'.cell? ⟨w.heap.size, 9, none⟩ = some (.slice (some ⟨b, off, none⟩) nd cd)) (by kernel_rfl) ?_ (fun hHeld => ?_)
          · exact ⟨y0, y1, e1, e2, e9⟩
          refine held_t 0 hHeld ?_
          refine held_t 1 hHeld ?_
          refine held_t 2 hHeld ?_
          refine held_t 3 hHeld ?_
          refine held_t 4 hHeld ?_
          refine held_t 5 hHeld ?_
          refine held_one (i := 6) (by kernel_rfl) rfl (by kernel_rfl) (fun K hK => ?_)
          go_simp
          refine (l1In_any _ _ _ _).mono ?_
          rintro e w2 ⟨rfl, hw2⟩
          subst hw2
          rw [hI]
          go_wp2_with fail
          clear hHeld
          refine hK.out _ _ ?_ (fun hHeld => ?_)
          · exact ⟨y0, y1, e1, e2, e9⟩
          clear hK K
          refine held_t 7 hHeld ?_
          refine held_t 8 hHeld ?_
          refine held_t 9 hHeld ?_
          refine held_t 10 hHeld ?_
          refine held_t 11 hHeld ?_
          refine held_t 12 hHeld ?_
          refine held_t 13 hHeld ?_
          refine held_t 14 hHeld ?_
          refine held_t 15 hHeld ?_
          refine held_t 16 hHeld ?_
          refine held_t 17 hHeld ?_
          refine held_t 18 hHeld ?_
          refine held_p 19 hHeld ?_
          refine held_p 20 hHeld ?_
          refine held_none (i := 21) (by kernel_rfl) rfl (by kernel_rfl) hHeld ?_
          simp only [Act.put, List.setIfInBounds_toArray, List.set_cons_zero, List.set_cons_succ]
          refine held_p 22 hHeld ?_
          refine held_t 23 hHeld ?_
          refine held_t 24 hHeld ?_
          refine held_p 25 hHeld ?_
          refine held_p 26 hHeld ?_
          refine held_p 27 hHeld ?_
          refine held_p 28 hHeld ?_
          refine held_p 29 hHeld ?_
          refine held_p 30 hHeld ?_
          refine held_p 31 hHeld ?_
          refine held_p 32 hHeld ?_
          refine held_p 33 hHeld ?_
          refine held_p 34 hHeld ?_
          refine held_p 35 hHeld ?_
          refine held_p 36 hHeld ?_
          refine held_p 37 hHeld ?_
          refine held_p 38 hHeld ?_
          refine held_t 39 hHeld ?_
          refine wpAnyH_done (by kernel_rfl) ?_ _
          clear hHeld
          have HB := hidden (hA.trans (B1.drew.mono hA.size))
          have HE := hidden (entsB_no (x := x) HDJ.out (entAt_2 HL.out))
          go_wp2
          go_ret
          exact ⟨ret_bool HE.out.symm, HB.out⟩
    · have ej : j = nd := by omega
      subst ej
      have hAll : entsB x ds = true := allIx_iff.2 (fun q d hq => hall q d (by have := (List.getElem?_eq_some_iff.1 hq).1; omega) hq)
      have HB := hidden (hA.trans (hb.mono hA.size))
      go_wp2
      go_ret
      exact ⟨ret_bool hAll.symm, HB.out⟩

end Go.Proofs.YtbkkjfgjlapadaaGreat

/-
  The walk of the program's MemOk: whether a disk is right. Condition: it weighs at most 2097152.
-/
namespace Go.Proofs.YtbkkjfgjlapadaaGreat
open Go.RowKit

theorem hasSec_any (w : World) (a0 : Option Addr) (n0 c0 : Nat) (v1 v2 v3 : Value) (x : Int) :
    Calls Tryz.prog 244 #[.agg #[.slice a0 n0 c0, v1, v2, v3], .int .i64 x] w fun e w' => e = .returned (.bool (inB x 0 ((n0 : Int) - 1))) ∧ Below w.heap.size w w' := by
  have hA : Below w.heap.size w (w.alloc (.cells #[.slice a0 n0 c0, v1, v2, v3] 147)) := (Below.refl _ _).alloc (Nat.le_refl _) _
  have hcell : (w.alloc (.cells #[.slice a0 n0 c0, v1, v2, v3] 147)).cell? ⟨w.heap.size, 0, none⟩ = some (.slice a0 n0 c0) := by
    rw [cell_of_row _ w.heap.size 0 _ _ (0, 0) (heap_alloc_new w _)]
    rfl
  by_cases h0 : 0 ≤ x
  · by_cases h1 : x < (n0 : Int)
    · go_enter Tryz.func244, Tryz.ntmps244
      go_wp2
      go_ret
      exact ⟨ret_bool (by symm; unfold inB; simp; omega), hA⟩
    · go_enter Tryz.func244, Tryz.ntmps244
      go_wp2
      go_ret
      exact ⟨ret_bool (by symm; unfold inB; simp; omega), hA⟩
  · go_enter Tryz.func244, Tryz.ntmps244
    go_wp2
    go_ret
    exact ⟨ret_bool (by symm; unfold inB; simp; omega), hA⟩

set_option maxHeartbeats 1600000 in
theorem badOk_any (w : World) (a0 : Option Addr) (n0 c0 : Nat) (v1 v2 : Value) (a3 : Option Addr) (n3 c3 : Nat) (bs : List Int) (h3 : tIntS.Rd w [.slice a3 n3 c3] bs) :
    Calls Tryz.prog 248 #[.agg #[.slice a0 n0 c0, v1, v2, .slice a3 n3 c3]] w fun e w' => e = .returned (.bool (badB n0 bs)) ∧ Below w.heap.size w w' := by
  obtain ⟨hl3, _, hm3⟩ := row_length h3
  have hA : Below w.heap.size w (w.alloc (.cells #[.slice a0 n0 c0, v1, v2, .slice a3 n3 c3] 147)) := (Below.refl _ _).alloc (Nat.le_refl _) _
  have hcell : ∀ j v, (#[Value.slice a0 n0 c0, v1, v2, .slice a3 n3 c3])[j]? = some v → (w.alloc (.cells #[.slice a0 n0 c0, v1, v2, .slice a3 n3 c3] 147)).cell? ⟨w.heap.size, j, none⟩ = some v := by
    intro j v hv
    rw [cell_of_row _ w.heap.size j _ _ (0, 0) (heap_alloc_new w _)]
    exact hv
  have k0 := hcell 0 _ rfl
  have k1 := hcell 1 _ rfl
  have k2 := hcell 2 _ rfl
  have k3 := hcell 3 _ rfl
  have g3 := h3.below hA
  have hz : w.heap.size < (w.alloc (.cells #[.slice a0 n0 c0, v1, v2, .slice a3 n3 c3] 147)).heap.size := by simp
  go_enter Tryz.func248, Tryz.ntmps248
  go_wp2
  generalize hW : w.alloc (.cells #[.slice a0 n0 c0, v1, v2, .slice a3 n3 c3] 147) = W at hA k0 k1 k2 k3 g3 hz ⊢
  clear hW hcell h3
  go_loopw [8] (fun i wr => ∃ i3 : Nat, i3 ≤ n3 ∧ i = .int .i64 i3 ∧ (List.range i3).all (badAt n0 bs) = true ∧ Below W.heap.size W wr) (fun i _ => n3 - (intOf i).toNat)
  case atStart => exact ⟨0, Nat.zero_le _, rfl, rfl, Below.refl _ _⟩
  case round =>
    obtain ⟨i3, hi3, rfl, ht, hs⟩ := hrel
    have q0 := (hs.cell (p := ⟨w.heap.size, 0, none⟩) hz).trans k0
    have q1 := (hs.cell (p := ⟨w.heap.size, 1, none⟩) hz).trans k1
    have q2 := (hs.cell (p := ⟨w.heap.size, 2, none⟩) hz).trans k2
    have q3 := (hs.cell (p := ⟨w.heap.size, 3, none⟩) hz).trans k3
    have hzr : w.heap.size < wr.heap.size := Nat.lt_of_lt_of_le hz hs.size
    by_cases hi3n : i3 < n3
    · obtain ⟨R3, _, _, _⟩ := ints_rd g3
      rcases R3.cases with h0' | ⟨b, off, rfl, hbl, hcs⟩
      · omega
      have hbr : b < wr.heap.size := Nat.lt_of_lt_of_le hbl hs.size
      have p0 := (hs.cell (p := ⟨b, off + i3, none⟩) hbl).trans (hcs i3 (by omega))
      have HT := hidden ht
      have hrs : (List.range (i3 + 1)).all (badAt n0 bs) = ((List.range i3).all (badAt n0 bs) && badAt n0 bs i3) := by rw [List.range_succ, List.all_append]; simp
      have hrn : badAt n0 bs i3 = false → badB n0 bs = false := by
        intro h
        unfold badB
        rw [List.all_eq_false]
        exact ⟨i3, by simp; omega, by simp [h]⟩
      have hbd : badAt n0 bs i3 = (inB (bs.getD i3 0) 0 ((n0 : Int) - 1) && (decide (i3 = 0) || decide (bs.getD (i3 - 1) 0 < bs.getD i3 0))) := rfl
      have i1 : (0 : Int) ≤ (i3 : Int) := by omega
      have i2' : (i3 : Int) < (n3 : Int) := by omega
      by_cases hI : inB (bs.getD i3 0) 0 ((n0 : Int) - 1) = true
      · by_cases hz3 : i3 = 0
        · have HD : Hid ((List.range (i3 + 1)).all (badAt n0 bs) = true) := by unfold Hid; rw [hrs, HT.out, hbd, hI, decide_eq_true hz3]; rfl
          generalize bs.getD i3 0 = y at p0 hI
          have d0 : decide ((0 : Int) < (i3 : Int)) = false := decide_eq_false (by omega)
          have d0b : decide (0 < i3) = false := decide_eq_false (by omega)
          have HZ := hidden hz3
          clear hcs ht hrs hrn hbd hz3 R3
          go_wp2_with fail
          refine (hasSec_any _ _ _ _ _ _ _ _).mono ?_
          rintro e w5 ⟨rfl, hb5'⟩
          have r0 := (hb5'.cell (p := ⟨w.heap.size, 0, none⟩) hzr).trans q0
          have r1 := (hb5'.cell (p := ⟨w.heap.size, 1, none⟩) hzr).trans q1
          have r2 := (hb5'.cell (p := ⟨w.heap.size, 2, none⟩) hzr).trans q2
          have r3 := (hb5'.cell (p := ⟨w.heap.size, 3, none⟩) hzr).trans q3
          have hs5 := hs.trans (hb5'.mono hs.size)
          clear q0 q1 q2 q3 hb5'
          go_wp2
          go_roundw
          case rel => exact ⟨i3 + 1, by omega, by go_num, HD.out, hs5⟩
          case measure => simp [intOf]; omega
        · have p1 := (hs.cell (p := ⟨b, off + (i3 - 1), none⟩) hbl).trans (hcs (i3 - 1) (by omega))
          have d0 : decide ((0 : Int) < (i3 : Int)) = true := decide_eq_true (by omega)
          have d0b : decide (0 < i3) = true := decide_eq_true (by omega)
          have gv : IntKind.i64.wrap ((i3 : Int) - 1) = (i3 : Int) - 1 := IntWalk.i64_in _ (by omega)
          have gt : ((i3 : Int) - 1).toNat = i3 - 1 := by omega
          have i3a : (0 : Int) ≤ (i3 : Int) - 1 := by omega
          have i3b : (i3 : Int) - 1 < (n3 : Int) := by omega
          by_cases hlt : bs.getD (i3 - 1) 0 < bs.getD i3 0
          · have HD : Hid ((List.range (i3 + 1)).all (badAt n0 bs) = true) := by unfold Hid; rw [hrs, HT.out, hbd, hI, decide_eq_true hlt]; simp
            generalize bs.getD i3 0 = y at p0 hI hlt
            generalize bs.getD (i3 - 1) 0 = z at p1 hlt
            have d1 : ¬ y ≤ z := by omega
            clear hcs ht hrs hrn hbd hz3 R3
            go_wp2_with fail
            refine (hasSec_any _ _ _ _ _ _ _ _).mono ?_
            rintro e w5 ⟨rfl, hb5'⟩
            have r0 := (hb5'.cell (p := ⟨w.heap.size, 0, none⟩) hzr).trans q0
            have r1 := (hb5'.cell (p := ⟨w.heap.size, 1, none⟩) hzr).trans q1
            have r2 := (hb5'.cell (p := ⟨w.heap.size, 2, none⟩) hzr).trans q2
            have r3 := (hb5'.cell (p := ⟨w.heap.size, 3, none⟩) hzr).trans q3
            have p2 := (hb5'.cell (p := ⟨b, off + (i3 - 1), none⟩) hbr).trans p1
            have hs5 := hs.trans (hb5'.mono hs.size)
            clear q0 q1 q2 q3 hb5'
            go_wp2
            go_roundw
            case rel => exact ⟨i3 + 1, by omega, by go_num, HD.out, hs5⟩
            case measure => simp [intOf]; omega
          · have HN := hidden (hrn (by rw [hbd, hI, decide_eq_false hz3, decide_eq_false hlt]; rfl))
            generalize bs.getD i3 0 = y at p0 hI hlt
            generalize bs.getD (i3 - 1) 0 = z at p1 hlt
            have d1 : y ≤ z := by omega
            clear hcs ht hrs hrn hbd hz3 R3
            go_wp2_with fail
            refine (hasSec_any _ _ _ _ _ _ _ _).mono ?_
            rintro e w5 ⟨rfl, hb5'⟩
            have r0 := (hb5'.cell (p := ⟨w.heap.size, 0, none⟩) hzr).trans q0
            have r1 := (hb5'.cell (p := ⟨w.heap.size, 1, none⟩) hzr).trans q1
            have r2 := (hb5'.cell (p := ⟨w.heap.size, 2, none⟩) hzr).trans q2
            have r3 := (hb5'.cell (p := ⟨w.heap.size, 3, none⟩) hzr).trans q3
            have p2 := (hb5'.cell (p := ⟨b, off + (i3 - 1), none⟩) hbr).trans p1
            have hs5 := hs.trans (hb5'.mono hs.size)
            clear q0 q1 q2 q3 hb5'
            go_wp2
            go_ret
            exact ⟨ret_bool HN.out.symm, Below.andThen hA hs5⟩
      · have hI : inB (bs.getD i3 0) 0 ((n0 : Int) - 1) = false := by simpa using hI
        have HN := hidden (hrn (by rw [hbd, hI]; rfl))
        generalize bs.getD i3 0 = y at p0 hI
        clear hcs ht hrs hrn hbd R3
        go_wp2_with fail
        refine (hasSec_any _ _ _ _ _ _ _ _).mono ?_
        rintro e w5 ⟨rfl, hb5'⟩
        have r0 := (hb5'.cell (p := ⟨w.heap.size, 0, none⟩) hzr).trans q0
        have r1 := (hb5'.cell (p := ⟨w.heap.size, 1, none⟩) hzr).trans q1
        have r2 := (hb5'.cell (p := ⟨w.heap.size, 2, none⟩) hzr).trans q2
        have r3 := (hb5'.cell (p := ⟨w.heap.size, 3, none⟩) hzr).trans q3
        have hs5 := hs.trans (hb5'.mono hs.size)
        clear q0 q1 q2 q3 hb5'
        go_wp2
        go_ret
        exact ⟨ret_bool HN.out.symm, Below.andThen hA hs5⟩
    · have e3 : i3 = n3 := by omega
      have HB : Hid (badB n0 bs = true) := by unfold Hid badB; rw [hl3, ← e3]; exact ht
      clear ht hi3
      go_wp2
      go_ret
      exact ⟨ret_bool HB.out.symm, Below.andThen hA hs⟩

set_option maxHeartbeats 3200000 in
theorem implMemOk_any (w : World) (E : TypeId) (a0 a1 a3 : Option Addr) (n0 c0 n1 c1 n3 c3 : Nat) (ss : List (List Int)) (cs : List (Int × List Int)) (f : Bool) (bs : List Int) (h0 : tIntSS.Rd w [.slice a0 n0 c0] ss) (h1 : (tWrS E).Rd w [.slice a1 n1 c1] cs) (h3 : tIntS.Rd w [.slice a3 n3 c3] bs) (hw : wtMem (ss, cs, f, bs) ≤ 2097152) :
    Calls Tryz.prog 199 #[.agg #[.slice a0 n0 c0, .slice a1 n1 c1, .bool f, .slice a3 n3 c3]] w fun e w' => e = .returned (.bool (memB ss cs bs)) ∧ Below w.heap.size w w' := by
  obtain ⟨hl0, _, hm0⟩ := row_length h0
  obtain ⟨hl1, _, hm1⟩ := row_length h1
  obtain ⟨hl3, _, hm3⟩ := row_length h3
  have hw0 : wtIntSS ss ≤ 2097152 := by unfold wtMem at hw; simp only at hw; omega
  have hw1 : wtWrS cs ≤ 2097152 := by unfold wtMem at hw; simp only at hw; omega
  have hA : Below w.heap.size w (w.alloc (.cells #[.slice a0 n0 c0, .slice a1 n1 c1, .bool f, .slice a3 n3 c3] 147)) := (Below.refl _ _).alloc (Nat.le_refl _) _
  have hcell : ∀ j v, (#[Value.slice a0 n0 c0, .slice a1 n1 c1, .bool f, .slice a3 n3 c3])[j]? = some v → (w.alloc (.cells #[.slice a0 n0 c0, .slice a1 n1 c1, .bool f, .slice a3 n3 c3] 147)).cell? ⟨w.heap.size, j, none⟩ = some v := by
    intro j v hv
    rw [cell_of_row _ w.heap.size j _ _ (0, 0) (heap_alloc_new w _)]
    exact hv
  have k0 := hcell 0 _ rfl
  have k1 := hcell 1 _ rfl
  have k2 := hcell 2 _ rfl
  have k3 := hcell 3 _ rfl
  have g0 := h0.below hA
  have g1 := h1.below hA
  have g3 := h3.below hA
  have hz : w.heap.size < (w.alloc (.cells #[.slice a0 n0 c0, .slice a1 n1 c1, .bool f, .slice a3 n3 c3] 147)).heap.size := by simp
  by_cases c1' : (1 : Int) ≤ (n0 : Int)
  · by_cases c2' : (n0 : Int) ≤ 20
    · by_cases c3' : (n1 : Int) ≤ 60
      · have hI0 : inB (ss.length : Int) 1 20 = true := by unfold inB; rw [hl0]; simp; omega
        have hI1 : decide (cs.length ≤ 60) = true := decide_eq_true (by omega)
        have HI0 := hidden hI0
        have HI1 := hidden hI1
        clear hI0 hI1
        go_enter Tryz.func199, Tryz.ntmps199
        go_wp2
        generalize hW : w.alloc (.cells #[.slice a0 n0 c0, .slice a1 n1 c1, .bool f, .slice a3 n3 c3] 147) = W at hA k0 k1 k2 k3 g0 g1 g3 hz ⊢
        clear hW hcell h0 h1 h3
        go_loopw [26] (fun i wr => ∃ j : Nat, j ≤ n0 ∧ i = .int .i64 j ∧ (ss.take j).all secB = true ∧ Same W wr) (fun i _ => n0 - (intOf i).toNat)
        case atStart => exact ⟨0, Nat.zero_le _, rfl, rfl, Same.refl _⟩
        case round =>
          obtain ⟨j, hj, rfl, ht, hs⟩ := hrel
          by_cases hjn : j < n0
          · rcases rows_at rfl g0 with h0' | ⟨b, off, rfl, hbl, hcs⟩
            · omega
            have hdj : ss[j]? = some (ss[j]'(by omega)) := List.getElem?_eq_getElem (by omega)
            generalize ss[j]'(by omega) = x at hdj
            have hal := all_step (p := secB) hdj
            have hil := inner_le hdj
            obtain ⟨v, hv, hrv⟩ := hcs j x hdj
            obtain ⟨av, cv, rfl⟩ := row_shape hrv
            have q1 := (hs.cell ⟨b, off + j, none⟩).trans hv
            obtain ⟨r1, _, _, _⟩ := ints_rd (hrv.same hs)
            have HT := hidden ht
            clear hcs hdj hv hrv ht
            by_cases hx : secB x = true
            · have HD := hidden (hal.1 hx HT.out)
              clear hal
              go_wp2_with fail
              refine (implSecOk_any _ _ _ _ x rfl r1 (by omega)).mono ?_
              rintro e w1 ⟨rfl, hs1⟩
              go_wp2
              go_roundw
              case rel => exact ⟨j + 1, by omega, by go_num, HD.out, hs.trans hs1⟩
              case measure => simp [intOf]; omega
            · have hx : secB x = false := by simpa using hx
              have HN := hidden (hal.2 hx)
              clear hal
              go_wp2_with fail
              refine (implSecOk_any _ _ _ _ x rfl r1 (by omega)).mono ?_
              rintro e w1 ⟨rfl, hs1⟩
              go_wp2
              go_ret
              exact ⟨ret_bool (by unfold memB; rw [HN.out]; rfl), Below.andSame (Below.andSame hA hs) hs1⟩
          · have e : j = n0 := by omega
            subst e
            rw [List.take_of_length_le (by omega)] at ht
            have HS0 := hidden ht
            have hss : ss.length = j := hl0
            have q1 := (hs.cell _).trans k1
            clear ht hj hjn
            go_wp2
            clear q1
            go_loopw [37] (fun i wr => ∃ i2 : Nat, i2 ≤ n1 ∧ i = .int .i64 i2 ∧ (cs.take i2).all (wrB j) = true ∧ Below W.heap.size W wr) (fun i _ => n1 - (intOf i).toNat)
            case atStart => exact ⟨0, Nat.zero_le _, rfl, rfl, hs.below _⟩
            case round =>
              clear hs
              obtain ⟨i2, hi2, rfl, ht, hs⟩ := hrel
              have hzr : w.heap.size < wr.heap.size := Nat.lt_of_lt_of_le hz hs.size
              have q0 := (hs.cell (p := ⟨w.heap.size, 0, none⟩) hz).trans k0
              have q1 := (hs.cell (p := ⟨w.heap.size, 1, none⟩) hz).trans k1
              have q2 := (hs.cell (p := ⟨w.heap.size, 2, none⟩) hz).trans k2
              have q3 := (hs.cell (p := ⟨w.heap.size, 3, none⟩) hz).trans k3
              by_cases hin : i2 < n1
              · rcases pairs_at rfl g1 with h0' | ⟨b, off, rfl, hbl, hcs⟩
                · omega
                have hdj : cs[i2]? = some (cs[i2]'(by omega)) := List.getElem?_eq_getElem (by omega)
                generalize cs[i2]'(by omega) = x at hdj
                have hal := all_step (p := wrB j) hdj
                have hil := inner_le' hdj
                obtain ⟨v0, v1, hv0, hv1, hrv⟩ := hcs i2 x hdj
                obtain ⟨rfl, hrv'⟩ := wr_rd hrv
                obtain ⟨av, cv, rfl⟩ := row_shape hrv'
                have p0 := (hs.cell (p := ⟨b, off + i2 * 2, none⟩) hbl).trans hv0
                have p1 := (hs.cell (p := ⟨b, off + i2 * 2 + 1, none⟩) hbl).trans hv1
                have r0 := hrv'.below hs
                obtain ⟨x0, x1⟩ := x
                simp only at p0 p1 r0 hil
                have HT := hidden ht
                clear hcs hdj hv0 hv1 hrv hrv' ht
                have hB : Below wr.heap.size wr (wr.alloc (.cells #[.int .i64 x0, .slice av x1.length cv] 214)) := (Below.refl _ _).alloc (Nat.le_refl _) _
                have s0 : (wr.alloc (.cells #[.int .i64 x0, .slice av x1.length cv] 214)).cell? ⟨wr.heap.size, 1, none⟩ = some (.slice av x1.length cv) := by
                  rw [cell_of_row _ wr.heap.size 1 _ _ (0, 0) (heap_alloc_new wr _)]
                  rfl
                have zb : wr.heap.size < (wr.alloc (.cells #[.int .i64 x0, .slice av x1.length cv] 214)).heap.size := by simp
                have HB := hidden hB
                have S0 := hidden s0
                have ZB := hidden zb
                clear hB s0 zb
                by_cases hI : inB x0 0 ((j : Int) - 1) = true
                · by_cases hx : secB x1 = true
                  · have HD := hidden (hal.1 (by unfold wrB; simp only; rw [hI, hx]; rfl) HT.out)
                    clear hal
                    go_wp2_with fail
                    refine (hasSec_any _ _ _ _ _ _ _ _).mono ?_
                    rintro e w5 ⟨rfl, hb5⟩
                    have HB6 := hidden (Below.andThen HB.out hb5)
                    have s1 := (hb5.cell (p := ⟨wr.heap.size, 1, none⟩) ZB.out).trans S0.out
                    clear hb5
                    go_wp2_with fail
                    refine (implSecOk_any _ _ _ _ x1 rfl (ints_rd (r0.below HB6.out)).1 (by omega)).mono ?_
                    rintro e w6 ⟨rfl, hs6⟩
                    go_wp2
                    go_roundw
                    case rel => exact ⟨i2 + 1, by omega, by go_num, HD.out, (hs.trans (HB6.out.mono hs.size)).trans (hs6.below _)⟩
                    case measure => simp [intOf]; omega
                  · have hx : secB x1 = false := by simpa using hx
                    have HN := hidden (hal.2 (by unfold wrB; simp only; rw [hI, hx]; rfl))
                    clear hal
                    go_wp2_with fail
                    refine (hasSec_any _ _ _ _ _ _ _ _).mono ?_
                    rintro e w5 ⟨rfl, hb5⟩
                    have HB6 := hidden (Below.andThen HB.out hb5)
                    have s1 := (hb5.cell (p := ⟨wr.heap.size, 1, none⟩) ZB.out).trans S0.out
                    clear hb5
                    go_wp2_with fail
                    refine (implSecOk_any _ _ _ _ x1 rfl (ints_rd (r0.below HB6.out)).1 (by omega)).mono ?_
                    rintro e w6 ⟨rfl, hs6⟩
                    go_wp2
                    go_ret
                    exact ⟨ret_bool (by unfold memB; rw [hss, HN.out, HS0.out]; rfl), Below.andSame (Below.andThen hA (hs.trans (HB6.out.mono hs.size))) hs6⟩
                · have hI : inB x0 0 ((j : Int) - 1) = false := by simpa using hI
                  have HN := hidden (hal.2 (by unfold wrB; simp only; rw [hI]; rfl))
                  clear hal
                  go_wp2_with fail
                  refine (hasSec_any _ _ _ _ _ _ _ _).mono ?_
                  rintro e w5 ⟨rfl, hb5⟩
                  have HB6 := hidden (Below.andThen HB.out hb5)
                  clear hb5
                  go_wp2
                  go_ret
                  exact ⟨ret_bool (by unfold memB; rw [hss, HN.out, HS0.out]; rfl), Below.andThen hA (hs.trans (HB6.out.mono hs.size))⟩
              · have e2 : i2 = n1 := by omega
                subst e2
                rw [List.take_of_length_le (by omega)] at ht
                have HS1 := hidden ht
                clear ht hi2 hin
                have g3' := g3.below hs
                go_wp2_with fail
                refine (badOk_any _ _ _ _ _ _ _ _ _ bs g3').mono ?_
                rintro e w5 ⟨rfl, hb5⟩
                go_wp2
                go_ret
                exact ⟨ret_bool (by unfold memB; rw [HI0.out, HI1.out, hss, HS1.out, HS0.out]; simp), Below.andThen (Below.andThen hA hs) hb5⟩
      · have hI1 : decide (cs.length ≤ 60) = false := decide_eq_false (by omega)
        have HI1 := hidden hI1
        clear hI1
        go_enter Tryz.func199, Tryz.ntmps199
        go_wp2
        go_ret
        exact ⟨ret_bool (by unfold memB; rw [HI1.out]; simp), hA⟩
    · have hI0 : inB (ss.length : Int) 1 20 = false := by unfold inB; rw [hl0]; simp; omega
      have HI0 := hidden hI0
      clear hI0
      go_enter Tryz.func199, Tryz.ntmps199
      go_wp2
      go_ret
      exact ⟨ret_bool (by unfold memB; rw [HI0.out]; simp), hA⟩
  · have hI0 : inB (ss.length : Int) 1 20 = false := by unfold inB; rw [hl0]; simp; omega
    have HI0 := hidden hI0
    clear hI0
    go_enter Tryz.func199, Tryz.ntmps199
    go_wp2
    go_ret
    exact ⟨ret_bool (by unfold memB; rw [HI0.out]; simp), hA⟩

end Go.Proofs.YtbkkjfgjlapadaaGreat

/-
  A Super is eight numbers; both looks whether it is right (the program's and the specification's) answer as the definition here says. No condition.
-/
namespace Go.Proofs.YtbkkjfgjlapadaaGreat
open Go.RowKit

/-- What a disk knows. -/
structure Sup where
  id : Int
  gen : Int
  role : Int
  n : Int
  s : Int
  tail : Int
  lost : Int
  built : Int

def supZ : Sup := ⟨0, 0, 0, 0, 0, 0, 0, 0⟩
def lostB (n s lost built : Int) : Bool := if lost = -1 then decide (built = 0) else inB lost 0 (n - 1) && inB built 0 s
def supB (x : Sup) : Bool := geoB x.n x.s && (lostB x.n x.s x.lost x.built && (inB x.role 0 (x.n - 1) && (inB x.id 1 60000 && (inB x.gen 0 60000 && inB x.tail 0 60000))))

theorem lostB_iff {n s lost built : Int} : lostB n s lost built = true ↔ (lost = -1 ∧ built = 0) ∨ (¬ lost = -1 ∧ 0 ≤ lost ∧ lost ≤ n - 1 ∧ 0 ≤ built ∧ built ≤ s) := by
  unfold lostB
  split
  · rename_i h
    simp [h]
  · rename_i h
    rw [Bool.and_eq_true, inB_iff, inB_iff]
    simp [h, and_assoc]
theorem supB_iff {x : Sup} : supB x = true ↔ (3 ≤ x.n ∧ x.n ≤ 5 ∧ 1 ≤ x.s ∧ x.s ≤ 8) ∧ ((x.lost = -1 ∧ x.built = 0) ∨ (¬ x.lost = -1 ∧ 0 ≤ x.lost ∧ x.lost ≤ x.n - 1 ∧ 0 ≤ x.built ∧ x.built ≤ x.s)) ∧ (0 ≤ x.role ∧ x.role ≤ x.n - 1) ∧ (1 ≤ x.id ∧ x.id ≤ 60000) ∧ (0 ≤ x.gen ∧ x.gen ≤ 60000) ∧ (0 ≤ x.tail ∧ x.tail ≤ 60000) := by
  unfold supB
  simp only [Bool.and_eq_true, geoB_iff, lostB_iff, inB_iff]
theorem supB_not {x : Sup} (h : ¬ ((3 ≤ x.n ∧ x.n ≤ 5 ∧ 1 ≤ x.s ∧ x.s ≤ 8) ∧ ((x.lost = -1 ∧ x.built = 0) ∨ (¬ x.lost = -1 ∧ 0 ≤ x.lost ∧ x.lost ≤ x.n - 1 ∧ 0 ≤ x.built ∧ x.built ≤ x.s)) ∧ (0 ≤ x.role ∧ x.role ≤ x.n - 1) ∧ (1 ≤ x.id ∧ x.id ≤ 60000) ∧ (0 ≤ x.gen ∧ x.gen ≤ 60000) ∧ (0 ≤ x.tail ∧ x.tail ≤ 60000))) : supB x = false := by
  rw [← Bool.not_eq_true, supB_iff]
  exact h

theorem Box.cells8 {w : World} {B : Nat} {T : TypeId} {v0 v1 v2 v3 v4 v5 v6 v7 : Value} (h : Box w B T #[v0, v1, v2, v3, v4, v5, v6, v7]) :
    w.cell? ⟨B, 0, none⟩ = some v0 ∧ w.cell? ⟨B, 1, none⟩ = some v1 ∧ w.cell? ⟨B, 2, none⟩ = some v2 ∧ w.cell? ⟨B, 3, none⟩ = some v3 ∧ w.cell? ⟨B, 4, none⟩ = some v4 ∧ w.cell? ⟨B, 5, none⟩ = some v5 ∧ w.cell? ⟨B, 6, none⟩ = some v6 ∧ w.cell? ⟨B, 7, none⟩ = some v7 :=
  ⟨h.cell 0, h.cell 1, h.cell 2, h.cell 3, h.cell 4, h.cell 5, h.cell 6, h.cell 7⟩

theorem lostOk_any (w : World) (n s lost built : Int) (hn : 3 ≤ n ∧ n ≤ 5) : Calls Tryz.prog 130 #[.agg #[.int .i64 n, .int .i64 s], .int .i64 lost, .int .i64 built] w fun e w' => e = .returned (.bool (lostB n s lost built)) ∧ Below w.heap.size w w' := by
  have hA := new_below w (.cells #[.int .i64 n, .int .i64 s] 25)
  obtain ⟨k0, k1⟩ := (Gbox.new w 25 n s).cells
  have gw : IntKind.i64.wrap (n - 1) = n - 1 := IntWalk.i64_in _ (by omega)
  by_cases h : lost = -1
  · by_cases hb : built = 0
    · go_enter Tryz.func130, Tryz.ntmps130
      go_wp2
      go_ret
      exact ⟨ret_bool (by unfold lostB; rw [if_pos h]; simp [hb]), hA⟩
    · go_enter Tryz.func130, Tryz.ntmps130
      go_wp2
      go_ret
      exact ⟨ret_bool (by unfold lostB; rw [if_pos h]; simp [hb]), hA⟩
  · have HD : Hid (lostB n s lost built = (inB lost 0 (n - 1) && inB built 0 s)) := by unfold Hid lostB; rw [if_neg h]
    go_enter Tryz.func130, Tryz.ntmps130
    go_wp2_with fail
    refine (within_any _ _ _ _).mono ?_
    rintro e w1 ⟨rfl, rfl⟩
    by_cases h1 : inB lost 0 (n - 1) = true
    · go_wp2_with fail
      refine (within_any _ _ _ _).mono ?_
      rintro e w1 ⟨rfl, rfl⟩
      go_wp2
      go_ret
      exact ⟨ret_bool (by rw [HD.out, h1]; rfl), hA⟩
    · have h1' : inB lost 0 (n - 1) = false := by simpa using h1
      go_wp2
      go_ret
      exact ⟨ret_bool (by rw [HD.out, h1']; rfl), hA⟩

set_option maxHeartbeats 1600000 in
theorem specSuperOk_any (w : World) (x : Sup) : Calls Tryz.prog 206 #[.agg #[.int .i64 x.id, .int .i64 x.gen, .int .i64 x.role, .int .i64 x.n, .int .i64 x.s, .int .i64 x.tail, .int .i64 x.lost, .int .i64 x.built]] w fun e w' => e = .returned (.bool (supB x)) ∧ Below w.heap.size w w' := by
  have hA := new_below w (.cells #[.int .i64 x.id, .int .i64 x.gen, .int .i64 x.role, .int .i64 x.n, .int .i64 x.s, .int .i64 x.tail, .int .i64 x.lost, .int .i64 x.built] 158)
  have X := Box.new w 158 #[.int .i64 x.id, .int .i64 x.gen, .int .i64 x.role, .int .i64 x.n, .int .i64 x.s, .int .i64 x.tail, .int .i64 x.lost, .int .i64 x.built]
  obtain ⟨k0, k1, k2, k3, k4, k5, k6, k7⟩ := X.cells8
  have zA := X.lt
  go_enter Tryz.func206, Tryz.ntmps206
  go_wp2_with fail
  refine (specGeoOk_any _ _ _).mono ?_
  rintro e w1 ⟨rfl, b1⟩
  have X1 := X.below b1 zA
  have B1 := Below.andThen hA b1
  clear k0 k1 k2 k3 k4 k5 k6 k7 X b1 hA zA
  obtain ⟨k0, k1, k2, k3, k4, k5, k6, k7⟩ := X1.cells8
  by_cases hg : geoB x.n x.s = true
  · obtain ⟨g1, g2, g3, g4⟩ := geoB_iff.1 hg
    have gw : IntKind.i64.wrap (x.n - 1) = x.n - 1 := IntWalk.i64_in _ (by omega)
    go_wp2_with fail
    refine (l1In_any _ _ _ _).mono ?_
    rintro e w2 ⟨rfl, rfl⟩
    by_cases h1 : inB x.id 1 60000 = true
    · have h1i := inB_iff.1 h1
      go_wp2_with fail
      refine (l1In_any _ _ _ _).mono ?_
      rintro e w2 ⟨rfl, rfl⟩
      by_cases h2 : inB x.gen 0 60000 = true
      · have h2i := inB_iff.1 h2
        go_wp2_with fail
        refine (l1In_any _ _ _ _).mono ?_
        rintro e w2 ⟨rfl, rfl⟩
        by_cases h3 : inB x.role 0 (x.n - 1) = true
        · have h3i := inB_iff.1 h3
          go_wp2_with fail
          refine (l1In_any _ _ _ _).mono ?_
          rintro e w2 ⟨rfl, rfl⟩
          by_cases h4 : inB x.tail 0 60000 = true
          · have h4i := inB_iff.1 h4
            go_wp2_with fail
            refine (l1In_any _ _ _ _).mono ?_
            rintro e w2 ⟨rfl, rfl⟩
            by_cases h5 : inB x.lost (-1) (x.n - 1) = true
            · have h5i := inB_iff.1 h5
              go_wp2_with fail
              refine (l1In_any _ _ _ _).mono ?_
              rintro e w2 ⟨rfl, rfl⟩
              by_cases h6 : inB x.built 0 x.s = true
              · have h6i := inB_iff.1 h6
                clear h1 h2 h3 h4 h5 hg
                go_wp2
                all_goals go_ret
                all_goals exact ⟨ret_bool (by rw [Bool.eq_iff_iff, supB_iff]; simp; omega), B1⟩
              · have h6' : inB x.built 0 x.s = false := by simpa using h6
                have h6n := inB_not.1 h6'
                go_wp2
                go_ret
                exact ⟨ret_bool (by symm; refine supB_not (fun hc => ?_); omega), B1⟩
            · have h5' : inB x.lost (-1) (x.n - 1) = false := by simpa using h5
              have h5n := inB_not.1 h5'
              go_wp2
              go_ret
              exact ⟨ret_bool (by symm; refine supB_not (fun hc => ?_); omega), B1⟩
          · have h4' : inB x.tail 0 60000 = false := by simpa using h4
            have h4n := inB_not.1 h4'
            go_wp2
            go_ret
            exact ⟨ret_bool (by symm; refine supB_not (fun hc => ?_); omega), B1⟩
        · have h3' : inB x.role 0 (x.n - 1) = false := by simpa using h3
          have h3n := inB_not.1 h3'
          go_wp2
          go_ret
          exact ⟨ret_bool (by symm; refine supB_not (fun hc => ?_); omega), B1⟩
      · have h2' : inB x.gen 0 60000 = false := by simpa using h2
        have h2n := inB_not.1 h2'
        go_wp2
        go_ret
        exact ⟨ret_bool (by symm; refine supB_not (fun hc => ?_); omega), B1⟩
    · have h1' : inB x.id 1 60000 = false := by simpa using h1
      have h1n := inB_not.1 h1'
      go_wp2
      go_ret
      exact ⟨ret_bool (by symm; refine supB_not (fun hc => ?_); omega), B1⟩
  · have hg' : geoB x.n x.s = false := by simpa using hg
    go_wp2
    go_ret
    exact ⟨ret_bool (by unfold supB; rw [hg']; rfl), B1⟩

set_option maxHeartbeats 1600000 in
theorem implSuperOk_any (w : World) (x : Sup) : Calls Tryz.prog 241 #[.agg #[.int .i64 x.id, .int .i64 x.gen, .int .i64 x.role, .int .i64 x.n, .int .i64 x.s, .int .i64 x.tail, .int .i64 x.lost, .int .i64 x.built]] w fun e w' => e = .returned (.bool (supB x)) ∧ Below w.heap.size w w' := by
  have hA := new_below w (.cells #[.int .i64 x.id, .int .i64 x.gen, .int .i64 x.role, .int .i64 x.n, .int .i64 x.s, .int .i64 x.tail, .int .i64 x.lost, .int .i64 x.built] 158)
  have X := Box.new w 158 #[.int .i64 x.id, .int .i64 x.gen, .int .i64 x.role, .int .i64 x.n, .int .i64 x.s, .int .i64 x.tail, .int .i64 x.lost, .int .i64 x.built]
  obtain ⟨k0, k1, k2, k3, k4, k5, k6, k7⟩ := X.cells8
  have zA := X.lt
  go_enter Tryz.func241, Tryz.ntmps241
  have hA2 := Below.andThen hA (new_below (w.alloc (.cells #[.int .i64 x.id, .int .i64 x.gen, .int .i64 x.role, .int .i64 x.n, .int .i64 x.s, .int .i64 x.tail, .int .i64 x.lost, .int .i64 x.built] 158)) (.cells #[.int .i64 x.n, .int .i64 x.s] 25))
  have X2 := X.alloc (.cells #[.int .i64 x.n, .int .i64 x.s] 25)
  have G2 := Box.new (w.alloc (.cells #[.int .i64 x.id, .int .i64 x.gen, .int .i64 x.role, .int .i64 x.n, .int .i64 x.s, .int .i64 x.tail, .int .i64 x.lost, .int .i64 x.built] 158)) 25 #[.int .i64 x.n, .int .i64 x.s]
  rw [World.size_alloc] at G2
  obtain ⟨j0, j1⟩ := G2.cells2
  obtain ⟨i0, i1, i2, i3, i4, i5, i6, i7⟩ := X2.cells8
  go_wp2_with fail
  generalize (w.alloc (.cells #[.int .i64 x.id, .int .i64 x.gen, .int .i64 x.role, .int .i64 x.n, .int .i64 x.s, .int .i64 x.tail, .int .i64 x.lost, .int .i64 x.built] 158)).alloc (.cells #[.int .i64 x.n, .int .i64 x.s] 25) = W at hA2 X2 G2 i0 i1 i2 i3 i4 i5 i6 i7 j0 j1 ⊢
  have zX := X2.lt
  have zG := G2.lt
  refine (implGeoOk_any _ _ _).mono ?_
  rintro e w1 ⟨rfl, b1⟩
  have X1 := X2.below b1 zX
  have G1 := G2.below b1 zG
  have B1 := Below.andThen hA2 b1
  clear k0 k1 k2 k3 k4 k5 k6 k7 i0 i1 i2 i3 i4 i5 i6 i7 j0 j1 X hA zA b1 hA2 X2 G2 zX zG
  obtain ⟨k0, k1, k2, k3, k4, k5, k6, k7⟩ := X1.cells8
  obtain ⟨j0, j1⟩ := G1.cells2
  by_cases hg : geoB x.n x.s = true
  · obtain ⟨g1, g2, g3, g4⟩ := geoB_iff.1 hg
    have gw : IntKind.i64.wrap (x.n - 1) = x.n - 1 := IntWalk.i64_in _ (by omega)
    go_wp2_with fail
    refine (lostOk_any _ _ _ _ _ ⟨g1, g2⟩).mono ?_
    rintro e w2 ⟨rfl, b2⟩
    have X3 := X1.below b2 X1.lt
    have G3 := G1.below b2 G1.lt
    have B3 := Below.andThen B1 b2
    clear k0 k1 k2 k3 k4 k5 k6 k7 j0 j1 X1 G1 B1 b2
    obtain ⟨k0, k1, k2, k3, k4, k5, k6, k7⟩ := X3.cells8
    obtain ⟨j0, j1⟩ := G3.cells2
    by_cases hl : lostB x.n x.s x.lost x.built = true
    · have hli := lostB_iff.1 hl
      go_wp2_with fail
      refine (within_any _ _ _ _).mono ?_
      rintro e w4 ⟨rfl, rfl⟩
      by_cases h1 : inB x.role 0 (x.n - 1) = true
      · have h1i := inB_iff.1 h1
        go_wp2_with fail
        refine (within_any _ _ _ _).mono ?_
        rintro e w4 ⟨rfl, rfl⟩
        by_cases h2 : inB x.id 1 60000 = true
        · have h2i := inB_iff.1 h2
          go_wp2_with fail
          refine (within_any _ _ _ _).mono ?_
          rintro e w4 ⟨rfl, rfl⟩
          by_cases h3 : inB x.gen 0 60000 = true
          · have h3i := inB_iff.1 h3
            go_wp2_with fail
            refine (within_any _ _ _ _).mono ?_
            rintro e w4 ⟨rfl, rfl⟩
            go_wp2
            go_ret
            exact ⟨ret_bool (by unfold supB; rw [hg, hl, h1, h2, h3]; rfl), B3⟩
          · have h3' : inB x.gen 0 60000 = false := by simpa using h3
            have h3n := inB_not.1 h3'
            go_wp2
            go_ret
            exact ⟨ret_bool (by symm; refine supB_not (fun hc => ?_); omega), B3⟩
        · have h2' : inB x.id 1 60000 = false := by simpa using h2
          have h2n := inB_not.1 h2'
          go_wp2
          go_ret
          exact ⟨ret_bool (by symm; refine supB_not (fun hc => ?_); omega), B3⟩
      · have h1' : inB x.role 0 (x.n - 1) = false := by simpa using h1
        have h1n := inB_not.1 h1'
        go_wp2
        go_ret
        exact ⟨ret_bool (by symm; refine supB_not (fun hc => ?_); omega), B3⟩
    · have hl' : lostB x.n x.s x.lost x.built = false := by simpa using hl
      go_wp2
      go_ret
      exact ⟨ret_bool (by unfold supB; rw [hg, hl']; rfl), B3⟩
  · have hg' : geoB x.n x.s = false := by simpa using hg
    go_wp2
    go_ret
    exact ⟨ret_bool (by unfold supB; rw [hg']; rfl), B1⟩

end Go.Proofs.YtbkkjfgjlapadaaGreat

/-
  SlotOf and DataAt (the program's and the specification's) answer as the definitions here say, and the walks of their exact laws: at every number the law answers true, and nothing that was there has turned. No condition.
-/
namespace Go.Proofs.YtbkkjfgjlapadaaGreat
open Go.RowKit

def slotN (x : Int) : Int := if 0 ≤ x then 2 + x % 4 else -1
def dataN (x : Int) : Int := if 0 ≤ x ∧ x ≤ 1099511627776 then x + 6 else -1
theorem implSlotOf_any (w : World) (x : Int) : Calls Tryz.prog 364 #[.int .i64 x] w fun e w' => e = .returned (.int .i64 (slotN x)) ∧ w' = w := by
  by_cases h : 0 ≤ x
  · have e1 : x.tmod 4 = x % 4 := Int.tmod_eq_emod_of_nonneg h
    have e2 : IntKind.i64.wrap (x % 4) = x % 4 := IntWalk.i64_in _ (by omega)
    have e3 : IntKind.i64.wrap (2 + x % 4) = 2 + x % 4 := IntWalk.i64_in _ (by omega)
    have hv : slotN x = 2 + x % 4 := by unfold slotN; rw [if_pos h]
    go_enter Tryz.func364, Tryz.ntmps364
    go_wp2
    go_ret
    exact ⟨ret_int (by first | (rw [hv]; done) | rfl | omega), rfl⟩
  · have hv : slotN x = -1 := by unfold slotN; rw [if_neg h]
    go_enter Tryz.func364, Tryz.ntmps364
    go_wp2
    go_ret
    exact ⟨ret_int (by first | (rw [hv]; done) | rfl | omega), rfl⟩

theorem specSlotOf_any (w : World) (x : Int) : Calls Tryz.prog 339 #[.int .i64 x] w fun e w' => e = .returned (.int .i64 (slotN x)) ∧ w' = w := by
  by_cases h : 0 ≤ x
  · have e1 : x.tmod 4 = x % 4 := Int.tmod_eq_emod_of_nonneg h
    have e2 : IntKind.i64.wrap (x % 4) = x % 4 := IntWalk.i64_in _ (by omega)
    have e3 : IntKind.i64.wrap (2 + x % 4) = 2 + x % 4 := IntWalk.i64_in _ (by omega)
    have hv : slotN x = 2 + x % 4 := by unfold slotN; rw [if_pos h]
    go_enter Tryz.func339, Tryz.ntmps339
    go_wp2
    go_ret
    exact ⟨ret_int (by first | (rw [hv]; done) | rfl | omega), rfl⟩
  · have hv : slotN x = -1 := by unfold slotN; rw [if_neg h]
    go_enter Tryz.func339, Tryz.ntmps339
    go_wp2
    go_ret
    exact ⟨ret_int (by first | (rw [hv]; done) | rfl | omega), rfl⟩

theorem implDataAt_any (w : World) (x : Int) : Calls Tryz.prog 197 #[.int .i64 x] w fun e w' => e = .returned (.int .i64 (dataN x)) ∧ w' = w := by
  by_cases h : 0 ≤ x ∧ x ≤ 1099511627776
  · have e2 : IntKind.i64.wrap (x + 2) = x + 2 := IntWalk.i64_in _ (by omega)
    have e4 : IntKind.i64.wrap (x + 2 + 4) = x + 2 + 4 := IntWalk.i64_in _ (by omega)
    have e3 : IntKind.i64.wrap (6 + x) = 6 + x := IntWalk.i64_in _ (by omega)
    have hv : dataN x = x + 6 := by unfold dataN; rw [if_pos h]
    have hi : inB x 0 1099511627776 = true := by unfold inB; simp; omega
    go_enter Tryz.func197, Tryz.ntmps197
    go_wp2_with fail
    refine (within_any _ _ _ _).mono ?_
    rintro e w1 ⟨rfl, rfl⟩
    rw [hi]
    go_wp2
    go_ret
    exact ⟨ret_int (by rw [hv]; omega), rfl⟩
  · have hv : dataN x = -1 := by unfold dataN; rw [if_neg h]
    have hi : inB x 0 1099511627776 = false := by unfold inB; simp; omega
    go_enter Tryz.func197, Tryz.ntmps197
    go_wp2_with fail
    refine (within_any _ _ _ _).mono ?_
    rintro e w1 ⟨rfl, rfl⟩
    rw [hi]
    go_wp2
    go_ret
    exact ⟨ret_int (by first | (rw [hv]; done) | rfl | omega), rfl⟩

theorem specDataAt_any (w : World) (x : Int) : Calls Tryz.prog 140 #[.int .i64 x] w fun e w' => e = .returned (.int .i64 (dataN x)) ∧ w' = w := by
  by_cases h : 0 ≤ x ∧ x ≤ 1099511627776
  · have e2 : IntKind.i64.wrap (x + 2) = x + 2 := IntWalk.i64_in _ (by omega)
    have e4 : IntKind.i64.wrap (x + 2 + 4) = x + 2 + 4 := IntWalk.i64_in _ (by omega)
    have e3 : IntKind.i64.wrap (6 + x) = 6 + x := IntWalk.i64_in _ (by omega)
    have hv : dataN x = x + 6 := by unfold dataN; rw [if_pos h]
    have hi : inB x 0 1099511627776 = true := by unfold inB; simp; omega
    go_enter Tryz.func140, Tryz.ntmps140
    go_wp2_with fail
    refine (l1In_any _ _ _ _).mono ?_
    rintro e w1 ⟨rfl, rfl⟩
    rw [hi]
    go_wp2
    go_ret
    exact ⟨ret_int (by rw [hv]; omega), rfl⟩
  · have hv : dataN x = -1 := by unfold dataN; rw [if_neg h]
    have hi : inB x 0 1099511627776 = false := by unfold inB; simp; omega
    go_enter Tryz.func140, Tryz.ntmps140
    go_wp2_with fail
    refine (l1In_any _ _ _ _).mono ?_
    rintro e w1 ⟨rfl, rfl⟩
    rw [hi]
    go_wp2
    go_ret
    exact ⟨ret_int (by first | (rw [hv]; done) | rfl | omega), rfl⟩

end Go.Proofs.YtbkkjfgjlapadaaGreat

namespace Go.Proofs.YtbkkjfgjlapadaaGreat
open Go.RowKit

def recB6 (x : ArrN) : Bool := inB x.seq 0 60000 && (inB x.tail 0 60000 && inB (x.seq - x.tail) 0 4)
theorem lost_same6 {x : ArrN} (hg : geoB x.n x.s = true) : lostB x.n x.s x.lost x.built = lostB6 x := by
  obtain ⟨g1, g2, g3, g4⟩ := geoB_iff.1 hg
  rw [Bool.eq_iff_iff, lostB_iff]
  unfold lostB6
  simp only [Bool.and_eq_true, inB_iff, Bool.or_eq_true, Bool.not_eq_true', decide_eq_false_iff_not, decide_eq_true_eq]
  omega
theorem seq_same6 (x : ArrN) : seqB6 x = (inB x.gen 0 60000 && (inB x.fuse (-1) 1000 && recB6 x)) := by
  rw [Bool.eq_iff_iff]
  unfold seqB6 recB6
  simp only [Bool.and_eq_true, inB_iff, decide_eq_true_eq]
  omega
theorem arr_same6 {x : ArrN} {ms : List MemD} {ds : List (Int × List Int)} (hg : geoB x.n x.s = true) : arrB x ms ds = (inB x.id 1 60000 && (lostB x.n x.s x.lost x.built && (inB x.gen 0 60000 && (inB x.fuse (-1) 1000 && (memsB x ms && (recB6 x && entsB x ds)))))) := by
  unfold arrB
  rw [hg, lost_same6 hg, seq_same6]
  cases inB x.id 1 60000 <;> cases lostB6 x <;> cases inB x.gen 0 60000 <;> cases inB x.fuse (-1) 1000 <;> cases memsB x ms <;> cases recB6 x <;> cases entsB x ds <;> rfl
theorem stripe_in6 {x : ArrN} {y : Int} (hg : geoB x.n x.s = true) : stripeB x.n x.s y = inB y 0 (x.s - 1) := by unfold stripeB; rw [hg]; rfl
theorem sec_all6 {zs : List Int} (h : zs.length ≤ 12) : secB zs = allW zs := by unfold secB; simp [h]
theorem entAt_6 {x : ArrN} {ds : List (Int × List Int)} {p : Nat} {y : Int} {zs : List Int} {q : Int × List Int} (hq : ds[p]? = some q) (h : y ≤ q.1) : entAt x ds (p + 1) (y, zs) = false := by
  have : ds.getD (p + 1 - 1) (0, []) = q := by rw [Nat.add_sub_cancel, List.getD_eq_getElem?_getD, hq]; rfl
  unfold entAt
  rw [this]
  have h2 : ¬ q.1 < y := by omega
  simp [h2]

theorem sectorsOf_any (w : World) (n s : Int) (hs : 1 ≤ s ∧ s ≤ 8) : Calls Tryz.prog 195 #[.agg #[.int .i64 n, .int .i64 s]] w fun e w' => e = .returned (.int .i64 (6 + s)) ∧ Below w.heap.size w w' := by
  have hA := new_below w (.cells #[.int .i64 n, .int .i64 s] 25)
  obtain ⟨k0, k1⟩ := (Gbox.new w 25 n s).cells
  have hd : dataN s = 6 + s := by unfold dataN; split <;> omega
  have HD := hidden hd
  clear hd
  go_enter Tryz.func195, Tryz.ntmps195
  go_wp2_with fail
  refine (implDataAt_any _ _).mono ?_
  rintro e w1 ⟨rfl, h1⟩
  subst h1
  rw [HD.out]
  go_wp2
  go_ret
  exact ⟨rfl, hA⟩

set_option linter.unusedSimpArgs false in
set_option maxRecDepth 20000 in
set_option maxHeartbeats 3200000 in
theorem memsOk_any (w : World) (E F : TypeId) (x : ArrN) (am ad : Option Addr) (nm cm nd cd : Nat) (ms : List MemD) (h0 : (tMemS E F).Rd w [.slice am nm cm] ms) (hw : wtMemS ms ≤ 2097152) (hg : geoB x.n x.s = true) :
    Calls Tryz.prog 131 #[.agg #[.int .i64 x.id, .int .i64 x.n, .int .i64 x.s, .slice am nm cm, .int .i64 x.lost, .int .i64 x.built, .int .i64 x.seq, .int .i64 x.tail, .int .i64 x.gen, .slice ad nd cd, .int .i64 x.fuse, .bool x.down, .bool x.broken]] w fun e w' => e = .returned (.bool (memsB x ms)) ∧ Below w.heap.size w w' := by
  obtain ⟨hl, hc, hm⟩ := row_length h0
  obtain ⟨g1, g2, g3, g4⟩ := geoB_iff.1 hg
  have hA := new_below w (.cells #[.int .i64 x.id, .int .i64 x.n, .int .i64 x.s, .slice am nm cm, .int .i64 x.lost, .int .i64 x.built, .int .i64 x.seq, .int .i64 x.tail, .int .i64 x.gen, .slice ad nd cd, .int .i64 x.fuse, .bool x.down, .bool x.broken] 29)
  have X := Box.new w 29 #[.int .i64 x.id, .int .i64 x.n, .int .i64 x.s, .slice am nm cm, .int .i64 x.lost, .int .i64 x.built, .int .i64 x.seq, .int .i64 x.tail, .int .i64 x.gen, .slice ad nd cd, .int .i64 x.fuse, .bool x.down, .bool x.broken]
  have zA := X.lt
  have hnm : nm ≤ 2097152 := by unfold wtMemS at hw; omega
  have h1 := h0.below hA
  obtain ⟨k0, k1, k2, k3, k4, k5, k6, k7, k8, k9, k10, k11, k12⟩ := X.cells13
  by_cases hN : (nm : Int) = x.n
  · have hN1 : ((nm : Int) == x.n) = true := by simpa using hN
    have hN2 : ((nm : Int) != x.n) = false := by simpa using hN
    have HN := hidden hN
    clear hN
    go_enter Tryz.func131, Tryz.ntmps131
    go_wp2
    generalize w.alloc (.cells #[.int .i64 x.id, .int .i64 x.n, .int .i64 x.s, .slice am nm cm, .int .i64 x.lost, .int .i64 x.built, .int .i64 x.seq, .int .i64 x.tail, .int .i64 x.gen, .slice ad nd cd, .int .i64 x.fuse, .bool x.down, .bool x.broken] 29) = W at hA X zA h1 k0 k1 k2 k3 k4 k5 k6 k7 k8 k9 k10 k11 k12 ⊢
    clear k0 k1 k2 k3 k4 k5 k6 k7 k8 k9 k10 k11 k12
    go_loopw [15] (fun i wr => ∃ j : Nat, j ≤ nm ∧ i = .int .i64 j ∧ (∀ (q : Nat) (m : MemD), q < j → ms[q]? = some m → memAt x q m = true) ∧ Below W.heap.size W wr) (fun i _ => nm - (intOf i).toNat)
    case atStart => exact ⟨0, Nat.zero_le _, rfl, fun q m hq => by omega, Below.refl _ _⟩
    case round =>
      obtain ⟨j, hj, rfl, hall, hb⟩ := hrel
      have Xr := X.below hb zA
      by_cases hjn : j < nm
      · rcases quads_at rfl h1 with h0' | ⟨b, off, rfl, hbl, hcs⟩
        · omega
        have hdj : ms[j]? = some (ms[j]'(by omega)) := List.getElem?_eq_getElem (by omega)
        generalize ms[j]'(by omega) = m at hdj
        obtain ⟨v0, v1, v2, v3, hv0, hv1, hv2, hv3, hrv⟩ := hcs j m hdj
        obtain ⟨a0, c0, a1, c1, a3, c3, ss, cs, f, bs, rfl, rfl, rfl, rfl, rfl, r0, r1, r3⟩ := mem_at hrv
        have u0 := (hb.cell (p := ⟨b, off + j * 4, none⟩) hbl).trans hv0
        have u1 := (hb.cell (p := ⟨b, off + j * 4 + 1, none⟩) hbl).trans hv1
        have u2 := (hb.cell (p := ⟨b, off + j * 4 + 2, none⟩) hbl).trans hv2
        have u3 := (hb.cell (p := ⟨b, off + j * 4 + 3, none⟩) hbl).trans hv3
        have i1 : (0 : Int) ≤ (j : Int) := by omega
        have i2 : (j : Int) < (nm : Int) := by omega
        have hwm := Nat.le_trans (inner_leM hdj) hw
        have HDJ := hidden hdj
        clear hcs hv0 hv1 hv2 hv3 hrv hdj
        have b1 := new_below wr (.cells #[.slice a0 ss.length c0, .slice a1 cs.length c1, .bool f, .slice a3 bs.length c3] 147)
        have Y1 := Box.new wr 147 #[.slice a0 ss.length c0, .slice a1 cs.length c1, .bool f, .slice a3 bs.length c3]
        have X1 := Xr.below b1 Xr.lt
        have R0 := (r0.below hb).below b1
        have R1 := (r1.below hb).below b1
        have R3 := (r3.below hb).below b1
        have B1 := hb.trans (b1.mono hb.size)
        clear r0 r1 r3 b1
        obtain ⟨y0, y1, y2, y3⟩ := Y1.cells4
        obtain ⟨e0, e1, e2, e3, e4, e5, e6, e7, e8, e9, e10, e11, e12⟩ := X1.cells13
        have zy := Y1.lt
        have zx := X1.lt
        clear e0 e3 e5 e6 e7 e8 e9 e10 e11
        cases hM : memB ss cs bs
        · skip
          go_wp2_with fail
          generalize wr.alloc (.cells #[.slice a0 ss.length c0, .slice a1 cs.length c1, .bool f, .slice a3 bs.length c3] 147) = w1 at X1 Y1 R0 R1 R3 B1 y0 y1 y2 y3 e1 e2 e4 e12 zy zx ⊢
          refine wp_region_held_drew (S := fun w' => w'.cell? ⟨wr.heap.size, 0, none⟩ = some (.slice a0 ss.length c0) ∧ w'.cell? ⟨wr.heap.size, 1, none⟩ = some (.slice a1 cs.length c1) ∧ w'.cell? ⟨wr.heap.size, 2, none⟩ = some (.bool f) ∧ w'.cell? ⟨wr.heap.size, 3, none⟩ = some (.slice a3 bs.length c3) ∧ w'.cell? ⟨w.heap.size, 1, none⟩ = some (.int .i64 x.n) ∧ w'.cell? ⟨w.heap.size, 2, none⟩ = some (.int .i64 x.s)) (by kernel_rfl) ?_ (fun hHeld => ?_)
          · exact ⟨y0, y1, y2, y3, e1, e2⟩
          refine held_t 0 hHeld ?_
          refine held_one (i := 1) (by kernel_rfl) rfl (by kernel_rfl) (fun K hK => ?_)
          go_simp
          refine (implMemOk_any _ E _ _ _ _ _ _ _ _ _ ss cs f bs R0.drew R1.drew R3.drew hwm).mono ?_
          rintro e w2 ⟨rfl, b2⟩
          rw [hM]
          have b2' : Below w1.heap.size w1 w2 := (Below.refl w1.heap.size w1).drew.trans b2
          clear b2
          go_wp2_with fail
          clear hHeld
          refine hK.out _ _ ?_ (fun hHeld => ?_)
          · exact ⟨(b2'.cell (p := ⟨wr.heap.size, 0, none⟩) zy).trans y0, (b2'.cell (p := ⟨wr.heap.size, 1, none⟩) zy).trans y1, (b2'.cell (p := ⟨wr.heap.size, 2, none⟩) zy).trans y2, (b2'.cell (p := ⟨wr.heap.size, 3, none⟩) zy).trans y3, (b2'.cell (p := ⟨w.heap.size, 1, none⟩) zx).trans e1, (b2'.cell (p := ⟨w.heap.size, 2, none⟩) zx).trans e2⟩
          clear hK K
          refine held_t 2 hHeld ?_
          refine held_t 3 hHeld ?_
          refine held_p 4 hHeld ?_
          refine held_p 5 hHeld ?_
          refine held_p 6 hHeld ?_
          refine held_p 7 hHeld ?_
          refine held_p 8 hHeld ?_
          refine held_none (i := 9) (by kernel_rfl) rfl (by kernel_rfl) hHeld ?_
          simp only [Act.put, List.setIfInBounds_toArray, List.set_cons_zero, List.set_cons_succ]
          refine held_p 10 hHeld ?_
          refine held_t 11 hHeld ?_
          refine wpAnyH_done (by kernel_rfl) ?_ _
          clear hHeld
          have HB := hidden (hA.trans ((B1.trans (b2'.mono B1.size)).mono hA.size))
          go_wp2
          go_ret
          exact ⟨ret_bool (by rw [show memsB x ms = false from (by unfold memsB; rw [allIx_no HDJ.out (by unfold memAt; simp [hM])]; rfl)]), HB.out⟩
        · by_cases hS : (ss.length : Int) = 6 + x.s
          · have hS1 : ((ss.length : Int) == 6 + x.s) = true := by simpa using hS
            have hS2 : ((ss.length : Int) != 6 + x.s) = false := by simpa using hS
            have HS := hidden hS
            clear hS
            cases f
            · skip
              go_wp2_with fail
              generalize wr.alloc (.cells #[.slice a0 ss.length c0, .slice a1 cs.length c1, .bool false, .slice a3 bs.length c3] 147) = w1 at X1 Y1 R0 R1 R3 B1 y0 y1 y2 y3 e1 e2 e4 e12 zy zx ⊢
              refine wp_region_held_drew (S := fun w' => w'.cell? ⟨wr.heap.size, 0, none⟩ = some (.slice a0 ss.length c0) ∧ w'.cell? ⟨wr.heap.size, 1, none⟩ = some (.slice a1 cs.length c1) ∧ w'.cell? ⟨wr.heap.size, 2, none⟩ = some (.bool false) ∧ w'.cell? ⟨wr.heap.size, 3, none⟩ = some (.slice a3 bs.length c3) ∧ w'.cell? ⟨w.heap.size, 1, none⟩ = some (.int .i64 x.n) ∧ w'.cell? ⟨w.heap.size, 2, none⟩ = some (.int .i64 x.s)) (by kernel_rfl) ?_ (fun hHeld => ?_)
              · exact ⟨y0, y1, y2, y3, e1, e2⟩
              refine held_t 0 hHeld ?_
              refine held_one (i := 1) (by kernel_rfl) rfl (by kernel_rfl) (fun K hK => ?_)
              go_simp
              refine (implMemOk_any _ E _ _ _ _ _ _ _ _ _ ss cs false bs R0.drew R1.drew R3.drew hwm).mono ?_
              rintro e w2 ⟨rfl, b2⟩
              rw [hM]
              have b2' : Below w1.heap.size w1 w2 := (Below.refl w1.heap.size w1).drew.trans b2
              clear b2
              go_wp2_with fail
              clear hHeld
              refine hK.out _ _ ?_ (fun hHeld => ?_)
              · exact ⟨(b2'.cell (p := ⟨wr.heap.size, 0, none⟩) zy).trans y0, (b2'.cell (p := ⟨wr.heap.size, 1, none⟩) zy).trans y1, (b2'.cell (p := ⟨wr.heap.size, 2, none⟩) zy).trans y2, (b2'.cell (p := ⟨wr.heap.size, 3, none⟩) zy).trans y3, (b2'.cell (p := ⟨w.heap.size, 1, none⟩) zx).trans e1, (b2'.cell (p := ⟨w.heap.size, 2, none⟩) zx).trans e2⟩
              clear hK K
              refine held_t 2 hHeld ?_
              refine held_t 3 hHeld ?_
              refine held_t 4 hHeld ?_
              refine held_t 5 hHeld ?_
              refine held_t 6 hHeld ?_
              refine held_t 7 hHeld ?_
              refine held_t 8 hHeld ?_
              refine held_one (i := 9) (by kernel_rfl) rfl (by kernel_rfl) (fun K hK => ?_)
              go_simp
              refine (sectorsOf_any _ x.n x.s ⟨g3, g4⟩).mono ?_
              rintro e w3 ⟨rfl, b3⟩
              have b3' : Below w1.heap.size w1 w3 := Below.andThen b2' b3
              clear b3
              go_wp2_with fail
              clear hHeld
              refine hK.out _ _ ?_ (fun hHeld => ?_)
              · exact ⟨(b3'.cell (p := ⟨wr.heap.size, 0, none⟩) zy).trans y0, (b3'.cell (p := ⟨wr.heap.size, 1, none⟩) zy).trans y1, (b3'.cell (p := ⟨wr.heap.size, 2, none⟩) zy).trans y2, (b3'.cell (p := ⟨wr.heap.size, 3, none⟩) zy).trans y3, (b3'.cell (p := ⟨w.heap.size, 1, none⟩) zx).trans e1, (b3'.cell (p := ⟨w.heap.size, 2, none⟩) zx).trans e2⟩
              clear hK K
              refine held_t 10 hHeld ?_
              refine held_t 11 hHeld ?_
              refine wpAnyH_done (by kernel_rfl) ?_ _
              clear hHeld
              have n0 := (b3'.cell (p := ⟨w.heap.size, 4, none⟩) zx).trans e4
              have n1 := (b3'.cell (p := ⟨w.heap.size, 12, none⟩) zx).trans e12
              have n2 := (b3'.cell (p := ⟨wr.heap.size, 2, none⟩) zy).trans y2
              have HB := hidden (B1.trans (b3'.mono B1.size))
              have hat : memAt x j (ss, cs, false, bs) = true := (by unfold memAt; simp [hM, HS.out])
              go_wp2
              go_roundw
              case rel => exact ⟨j + 1, by omega, by go_num, fun q m hq hm' => by
                  rcases Nat.lt_or_ge q j with h | h
                  · exact hall q m h hm'
                  · obtain rfl : q = j := by omega
                    rw [HDJ.out] at hm'
                    cases hm'
                    exact hat, HB.out⟩
              case measure => simp [intOf]; omega
            · by_cases hL : (j : Int) = x.lost
              · have hL1 : ((j : Int) == x.lost) = true := by simpa using hL
                have hL2 : ((j : Int) != x.lost) = false := by simpa using hL
                have HL := hidden hL
                clear hL
                go_wp2_with fail
                generalize wr.alloc (.cells #[.slice a0 ss.length c0, .slice a1 cs.length c1, .bool true, .slice a3 bs.length c3] 147) = w1 at X1 Y1 R0 R1 R3 B1 y0 y1 y2 y3 e1 e2 e4 e12 zy zx ⊢
                refine wp_region_held_drew (S := fun w' => w'.cell? ⟨wr.heap.size, 0, none⟩ = some (.slice a0 ss.length c0) ∧ w'.cell? ⟨wr.heap.size, 1, none⟩ = some (.slice a1 cs.length c1) ∧ w'.cell? ⟨wr.heap.size, 2, none⟩ = some (.bool true) ∧ w'.cell? ⟨wr.heap.size, 3, none⟩ = some (.slice a3 bs.length c3) ∧ w'.cell? ⟨w.heap.size, 1, none⟩ = some (.int .i64 x.n) ∧ w'.cell? ⟨w.heap.size, 2, none⟩ = some (.int .i64 x.s)) (by kernel_rfl) ?_ (fun hHeld => ?_)
                · exact ⟨y0, y1, y2, y3, e1, e2⟩
                refine held_t 0 hHeld ?_
                refine held_one (i := 1) (by kernel_rfl) rfl (by kernel_rfl) (fun K hK => ?_)
                go_simp
                refine (implMemOk_any _ E _ _ _ _ _ _ _ _ _ ss cs true bs R0.drew R1.drew R3.drew hwm).mono ?_
                rintro e w2 ⟨rfl, b2⟩
                rw [hM]
                have b2' : Below w1.heap.size w1 w2 := (Below.refl w1.heap.size w1).drew.trans b2
                clear b2
                go_wp2_with fail
                clear hHeld
                refine hK.out _ _ ?_ (fun hHeld => ?_)
                · exact ⟨(b2'.cell (p := ⟨wr.heap.size, 0, none⟩) zy).trans y0, (b2'.cell (p := ⟨wr.heap.size, 1, none⟩) zy).trans y1, (b2'.cell (p := ⟨wr.heap.size, 2, none⟩) zy).trans y2, (b2'.cell (p := ⟨wr.heap.size, 3, none⟩) zy).trans y3, (b2'.cell (p := ⟨w.heap.size, 1, none⟩) zx).trans e1, (b2'.cell (p := ⟨w.heap.size, 2, none⟩) zx).trans e2⟩
                clear hK K
                refine held_t 2 hHeld ?_
                refine held_t 3 hHeld ?_
                refine held_t 4 hHeld ?_
                refine held_t 5 hHeld ?_
                refine held_t 6 hHeld ?_
                refine held_t 7 hHeld ?_
                refine held_t 8 hHeld ?_
                refine held_one (i := 9) (by kernel_rfl) rfl (by kernel_rfl) (fun K hK => ?_)
                go_simp
                refine (sectorsOf_any _ x.n x.s ⟨g3, g4⟩).mono ?_
                rintro e w3 ⟨rfl, b3⟩
                have b3' : Below w1.heap.size w1 w3 := Below.andThen b2' b3
                clear b3
                go_wp2_with fail
                clear hHeld
                refine hK.out _ _ ?_ (fun hHeld => ?_)
                · exact ⟨(b3'.cell (p := ⟨wr.heap.size, 0, none⟩) zy).trans y0, (b3'.cell (p := ⟨wr.heap.size, 1, none⟩) zy).trans y1, (b3'.cell (p := ⟨wr.heap.size, 2, none⟩) zy).trans y2, (b3'.cell (p := ⟨wr.heap.size, 3, none⟩) zy).trans y3, (b3'.cell (p := ⟨w.heap.size, 1, none⟩) zx).trans e1, (b3'.cell (p := ⟨w.heap.size, 2, none⟩) zx).trans e2⟩
                clear hK K
                refine held_t 10 hHeld ?_
                refine held_t 11 hHeld ?_
                refine wpAnyH_done (by kernel_rfl) ?_ _
                clear hHeld
                have n0 := (b3'.cell (p := ⟨w.heap.size, 4, none⟩) zx).trans e4
                have n1 := (b3'.cell (p := ⟨w.heap.size, 12, none⟩) zx).trans e12
                have n2 := (b3'.cell (p := ⟨wr.heap.size, 2, none⟩) zy).trans y2
                have HB := hidden (B1.trans (b3'.mono B1.size))
                have hat : memAt x j (ss, cs, true, bs) = true := (by unfold memAt; simp [hM, HS.out, HL.out])
                go_wp2
                go_roundw
                case rel => exact ⟨j + 1, by omega, by go_num, fun q m hq hm' => by
                    rcases Nat.lt_or_ge q j with h | h
                    · exact hall q m h hm'
                    · obtain rfl : q = j := by omega
                      rw [HDJ.out] at hm'
                      cases hm'
                      exact hat, HB.out⟩
                case measure => simp [intOf]; omega
              · have hL1 : ((j : Int) == x.lost) = false := by simpa using hL
                have hL2 : ((j : Int) != x.lost) = true := by simpa using hL
                have HL := hidden hL
                clear hL
                cases hBr : x.broken
                · rw [hBr] at e12
                  go_wp2_with fail
                  generalize wr.alloc (.cells #[.slice a0 ss.length c0, .slice a1 cs.length c1, .bool true, .slice a3 bs.length c3] 147) = w1 at X1 Y1 R0 R1 R3 B1 y0 y1 y2 y3 e1 e2 e4 e12 zy zx ⊢
                  refine wp_region_held_drew (S := fun w' => w'.cell? ⟨wr.heap.size, 0, none⟩ = some (.slice a0 ss.length c0) ∧ w'.cell? ⟨wr.heap.size, 1, none⟩ = some (.slice a1 cs.length c1) ∧ w'.cell? ⟨wr.heap.size, 2, none⟩ = some (.bool true) ∧ w'.cell? ⟨wr.heap.size, 3, none⟩ = some (.slice a3 bs.length c3) ∧ w'.cell? ⟨w.heap.size, 1, none⟩ = some (.int .i64 x.n) ∧ w'.cell? ⟨w.heap.size, 2, none⟩ = some (.int .i64 x.s)) (by kernel_rfl) ?_ (fun hHeld => ?_)
                  · exact ⟨y0, y1, y2, y3, e1, e2⟩
                  refine held_t 0 hHeld ?_
                  refine held_one (i := 1) (by kernel_rfl) rfl (by kernel_rfl) (fun K hK => ?_)
                  go_simp
                  refine (implMemOk_any _ E _ _ _ _ _ _ _ _ _ ss cs true bs R0.drew R1.drew R3.drew hwm).mono ?_
                  rintro e w2 ⟨rfl, b2⟩
                  rw [hM]
                  have b2' : Below w1.heap.size w1 w2 := (Below.refl w1.heap.size w1).drew.trans b2
                  clear b2
                  go_wp2_with fail
                  clear hHeld
                  refine hK.out _ _ ?_ (fun hHeld => ?_)
                  · exact ⟨(b2'.cell (p := ⟨wr.heap.size, 0, none⟩) zy).trans y0, (b2'.cell (p := ⟨wr.heap.size, 1, none⟩) zy).trans y1, (b2'.cell (p := ⟨wr.heap.size, 2, none⟩) zy).trans y2, (b2'.cell (p := ⟨wr.heap.size, 3, none⟩) zy).trans y3, (b2'.cell (p := ⟨w.heap.size, 1, none⟩) zx).trans e1, (b2'.cell (p := ⟨w.heap.size, 2, none⟩) zx).trans e2⟩
                  clear hK K
                  refine held_t 2 hHeld ?_
                  refine held_t 3 hHeld ?_
                  refine held_t 4 hHeld ?_
                  refine held_t 5 hHeld ?_
                  refine held_t 6 hHeld ?_
                  refine held_t 7 hHeld ?_
                  refine held_t 8 hHeld ?_
                  refine held_one (i := 9) (by kernel_rfl) rfl (by kernel_rfl) (fun K hK => ?_)
                  go_simp
                  refine (sectorsOf_any _ x.n x.s ⟨g3, g4⟩).mono ?_
                  rintro e w3 ⟨rfl, b3⟩
                  have b3' : Below w1.heap.size w1 w3 := Below.andThen b2' b3
                  clear b3
                  go_wp2_with fail
                  clear hHeld
                  refine hK.out _ _ ?_ (fun hHeld => ?_)
                  · exact ⟨(b3'.cell (p := ⟨wr.heap.size, 0, none⟩) zy).trans y0, (b3'.cell (p := ⟨wr.heap.size, 1, none⟩) zy).trans y1, (b3'.cell (p := ⟨wr.heap.size, 2, none⟩) zy).trans y2, (b3'.cell (p := ⟨wr.heap.size, 3, none⟩) zy).trans y3, (b3'.cell (p := ⟨w.heap.size, 1, none⟩) zx).trans e1, (b3'.cell (p := ⟨w.heap.size, 2, none⟩) zx).trans e2⟩
                  clear hK K
                  refine held_t 10 hHeld ?_
                  refine held_t 11 hHeld ?_
                  refine wpAnyH_done (by kernel_rfl) ?_ _
                  clear hHeld
                  have n0 := (b3'.cell (p := ⟨w.heap.size, 4, none⟩) zx).trans e4
                  have n1 := (b3'.cell (p := ⟨w.heap.size, 12, none⟩) zx).trans e12
                  have n2 := (b3'.cell (p := ⟨wr.heap.size, 2, none⟩) zy).trans y2
                  have HB := hidden (hA.trans ((B1.trans (b3'.mono B1.size)).mono hA.size))
                  go_wp2
                  go_ret
                  exact ⟨ret_bool (by rw [show memsB x ms = false from (by unfold memsB; rw [allIx_no HDJ.out (by unfold memAt; simp [HL.out, hBr])]; rfl)]), HB.out⟩
                · rw [hBr] at e12
                  go_wp2_with fail
                  generalize wr.alloc (.cells #[.slice a0 ss.length c0, .slice a1 cs.length c1, .bool true, .slice a3 bs.length c3] 147) = w1 at X1 Y1 R0 R1 R3 B1 y0 y1 y2 y3 e1 e2 e4 e12 zy zx ⊢
                  refine wp_region_held_drew (S := fun w' => w'.cell? ⟨wr.heap.size, 0, none⟩ = some (.slice a0 ss.length c0) ∧ w'.cell? ⟨wr.heap.size, 1, none⟩ = some (.slice a1 cs.length c1) ∧ w'.cell? ⟨wr.heap.size, 2, none⟩ = some (.bool true) ∧ w'.cell? ⟨wr.heap.size, 3, none⟩ = some (.slice a3 bs.length c3) ∧ w'.cell? ⟨w.heap.size, 1, none⟩ = some (.int .i64 x.n) ∧ w'.cell? ⟨w.heap.size, 2, none⟩ = some (.int .i64 x.s)) (by kernel_rfl) ?_ (fun hHeld => ?_)
                  · exact ⟨y0, y1, y2, y3, e1, e2⟩
                  refine held_t 0 hHeld ?_
                  refine held_one (i := 1) (by kernel_rfl) rfl (by kernel_rfl) (fun K hK => ?_)
                  go_simp
                  refine (implMemOk_any _ E _ _ _ _ _ _ _ _ _ ss cs true bs R0.drew R1.drew R3.drew hwm).mono ?_
                  rintro e w2 ⟨rfl, b2⟩
                  rw [hM]
                  have b2' : Below w1.heap.size w1 w2 := (Below.refl w1.heap.size w1).drew.trans b2
                  clear b2
                  go_wp2_with fail
                  clear hHeld
                  refine hK.out _ _ ?_ (fun hHeld => ?_)
                  · exact ⟨(b2'.cell (p := ⟨wr.heap.size, 0, none⟩) zy).trans y0, (b2'.cell (p := ⟨wr.heap.size, 1, none⟩) zy).trans y1, (b2'.cell (p := ⟨wr.heap.size, 2, none⟩) zy).trans y2, (b2'.cell (p := ⟨wr.heap.size, 3, none⟩) zy).trans y3, (b2'.cell (p := ⟨w.heap.size, 1, none⟩) zx).trans e1, (b2'.cell (p := ⟨w.heap.size, 2, none⟩) zx).trans e2⟩
                  clear hK K
                  refine held_t 2 hHeld ?_
                  refine held_t 3 hHeld ?_
                  refine held_t 4 hHeld ?_
                  refine held_t 5 hHeld ?_
                  refine held_t 6 hHeld ?_
                  refine held_t 7 hHeld ?_
                  refine held_t 8 hHeld ?_
                  refine held_one (i := 9) (by kernel_rfl) rfl (by kernel_rfl) (fun K hK => ?_)
                  go_simp
                  refine (sectorsOf_any _ x.n x.s ⟨g3, g4⟩).mono ?_
                  rintro e w3 ⟨rfl, b3⟩
                  have b3' : Below w1.heap.size w1 w3 := Below.andThen b2' b3
                  clear b3
                  go_wp2_with fail
                  clear hHeld
                  refine hK.out _ _ ?_ (fun hHeld => ?_)
                  · exact ⟨(b3'.cell (p := ⟨wr.heap.size, 0, none⟩) zy).trans y0, (b3'.cell (p := ⟨wr.heap.size, 1, none⟩) zy).trans y1, (b3'.cell (p := ⟨wr.heap.size, 2, none⟩) zy).trans y2, (b3'.cell (p := ⟨wr.heap.size, 3, none⟩) zy).trans y3, (b3'.cell (p := ⟨w.heap.size, 1, none⟩) zx).trans e1, (b3'.cell (p := ⟨w.heap.size, 2, none⟩) zx).trans e2⟩
                  clear hK K
                  refine held_t 10 hHeld ?_
                  refine held_t 11 hHeld ?_
                  refine wpAnyH_done (by kernel_rfl) ?_ _
                  clear hHeld
                  have n0 := (b3'.cell (p := ⟨w.heap.size, 4, none⟩) zx).trans e4
                  have n1 := (b3'.cell (p := ⟨w.heap.size, 12, none⟩) zx).trans e12
                  have n2 := (b3'.cell (p := ⟨wr.heap.size, 2, none⟩) zy).trans y2
                  have HB := hidden (B1.trans (b3'.mono B1.size))
                  have hat : memAt x j (ss, cs, true, bs) = true := (by unfold memAt; simp [hM, HS.out, hBr])
                  go_wp2
                  go_roundw
                  case rel => exact ⟨j + 1, by omega, by go_num, fun q m hq hm' => by
                      rcases Nat.lt_or_ge q j with h | h
                      · exact hall q m h hm'
                      · obtain rfl : q = j := by omega
                        rw [HDJ.out] at hm'
                        cases hm'
                        exact hat, HB.out⟩
                  case measure => simp [intOf]; omega
          · have hS1 : ((ss.length : Int) == 6 + x.s) = false := by simpa using hS
            have hS2 : ((ss.length : Int) != 6 + x.s) = true := by simpa using hS
            have HS := hidden hS
            clear hS
            go_wp2_with fail
            generalize wr.alloc (.cells #[.slice a0 ss.length c0, .slice a1 cs.length c1, .bool f, .slice a3 bs.length c3] 147) = w1 at X1 Y1 R0 R1 R3 B1 y0 y1 y2 y3 e1 e2 e4 e12 zy zx ⊢
            refine wp_region_held_drew (S := fun w' => w'.cell? ⟨wr.heap.size, 0, none⟩ = some (.slice a0 ss.length c0) ∧ w'.cell? ⟨wr.heap.size, 1, none⟩ = some (.slice a1 cs.length c1) ∧ w'.cell? ⟨wr.heap.size, 2, none⟩ = some (.bool f) ∧ w'.cell? ⟨wr.heap.size, 3, none⟩ = some (.slice a3 bs.length c3) ∧ w'.cell? ⟨w.heap.size, 1, none⟩ = some (.int .i64 x.n) ∧ w'.cell? ⟨w.heap.size, 2, none⟩ = some (.int .i64 x.s)) (by kernel_rfl) ?_ (fun hHeld => ?_)
            · exact ⟨y0, y1, y2, y3, e1, e2⟩
            refine held_t 0 hHeld ?_
            refine held_one (i := 1) (by kernel_rfl) rfl (by kernel_rfl) (fun K hK => ?_)
            go_simp
            refine (implMemOk_any _ E _ _ _ _ _ _ _ _ _ ss cs f bs R0.drew R1.drew R3.drew hwm).mono ?_
            rintro e w2 ⟨rfl, b2⟩
            rw [hM]
            have b2' : Below w1.heap.size w1 w2 := (Below.refl w1.heap.size w1).drew.trans b2
            clear b2
            go_wp2_with fail
            clear hHeld
            refine hK.out _ _ ?_ (fun hHeld => ?_)
            · exact ⟨(b2'.cell (p := ⟨wr.heap.size, 0, none⟩) zy).trans y0, (b2'.cell (p := ⟨wr.heap.size, 1, none⟩) zy).trans y1, (b2'.cell (p := ⟨wr.heap.size, 2, none⟩) zy).trans y2, (b2'.cell (p := ⟨wr.heap.size, 3, none⟩) zy).trans y3, (b2'.cell (p := ⟨w.heap.size, 1, none⟩) zx).trans e1, (b2'.cell (p := ⟨w.heap.size, 2, none⟩) zx).trans e2⟩
            clear hK K
            refine held_t 2 hHeld ?_
            refine held_t 3 hHeld ?_
            refine held_t 4 hHeld ?_
            refine held_t 5 hHeld ?_
            refine held_t 6 hHeld ?_
            refine held_t 7 hHeld ?_
            refine held_t 8 hHeld ?_
            refine held_one (i := 9) (by kernel_rfl) rfl (by kernel_rfl) (fun K hK => ?_)
            go_simp
            refine (sectorsOf_any _ x.n x.s ⟨g3, g4⟩).mono ?_
            rintro e w3 ⟨rfl, b3⟩
            have b3' : Below w1.heap.size w1 w3 := Below.andThen b2' b3
            clear b3
            go_wp2_with fail
            clear hHeld
            refine hK.out _ _ ?_ (fun hHeld => ?_)
            · exact ⟨(b3'.cell (p := ⟨wr.heap.size, 0, none⟩) zy).trans y0, (b3'.cell (p := ⟨wr.heap.size, 1, none⟩) zy).trans y1, (b3'.cell (p := ⟨wr.heap.size, 2, none⟩) zy).trans y2, (b3'.cell (p := ⟨wr.heap.size, 3, none⟩) zy).trans y3, (b3'.cell (p := ⟨w.heap.size, 1, none⟩) zx).trans e1, (b3'.cell (p := ⟨w.heap.size, 2, none⟩) zx).trans e2⟩
            clear hK K
            refine held_t 10 hHeld ?_
            refine held_t 11 hHeld ?_
            refine wpAnyH_done (by kernel_rfl) ?_ _
            clear hHeld
            have n0 := (b3'.cell (p := ⟨w.heap.size, 4, none⟩) zx).trans e4
            have n1 := (b3'.cell (p := ⟨w.heap.size, 12, none⟩) zx).trans e12
            have n2 := (b3'.cell (p := ⟨wr.heap.size, 2, none⟩) zy).trans y2
            have HB := hidden (hA.trans ((B1.trans (b3'.mono B1.size)).mono hA.size))
            go_wp2
            go_ret
            exact ⟨ret_bool (by rw [show memsB x ms = false from (by unfold memsB; rw [allIx_no HDJ.out (by unfold memAt; simp [HS.out])]; rfl)]), HB.out⟩
      · have e : j = nm := by omega
        subst e
        have hAll : allIx (memAt x) ms = true := allIx_iff.2 (fun q m hq => hall q m (by have := (List.getElem?_eq_some_iff.1 hq).1; omega) hq)
        have HB := hidden (hA.trans (hb.mono hA.size))
        have hR : memsB x ms = true := by unfold memsB; rw [hAll, hl]; simpa using HN.out
        go_wp2
        go_ret
        exact ⟨ret_bool hR.symm, HB.out⟩
  · have hN1 : ((nm : Int) == x.n) = false := by simpa using hN
    have hN2 : ((nm : Int) != x.n) = true := by simpa using hN
    have hR : memsB x ms = false := by unfold memsB; rw [hl]; simp [hN]
    have HR := hidden hR
    clear hN hR
    go_enter Tryz.func131, Tryz.ntmps131
    go_wp2
    go_ret
    exact ⟨ret_bool HR.out.symm, hA⟩

end Go.Proofs.YtbkkjfgjlapadaaGreat

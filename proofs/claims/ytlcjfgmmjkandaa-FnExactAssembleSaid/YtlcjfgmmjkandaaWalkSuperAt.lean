/-
  What stands at one of the two places (the program's superAt): as the definitions here say. Condition: the disk weighs at most 2097152.
-/
import Derived.Test.YtlcjfgmmjkandaaWalkGetSuper
import Derived.Test.YtlcjfgmmjkandaaWalkRead2
import Derived.Test.YtlcjfgmmjkandaaSupPlace
namespace Go.Proofs.Ytlcjfgmmjkandaa
open Go.RowKit

/-- What was read counts: it could be read, is a Super, of this Id, at the place of its Gen. -/
def atOk (rk : Bool) (ps : List Int) (id p : Int) : Bool := rk && (getB ps && (decide ((getD ps).id = id) && decide ((getD ps).gen % 2 = p)))
def atD (rk : Bool) (ps : List Int) (id p : Int) : Sup := if atOk rk ps id p = true then getD ps else supZ
theorem at_zero {rk : Bool} {ps : List Int} {id p : Int} (h : atOk rk ps id p = false) : Ending.returned (.tuple #[.agg #[.int .i64 0, .int .i64 0, .int .i64 0, .int .i64 0, .int .i64 0, .int .i64 0, .int .i64 0, .int .i64 0], .bool false]) = .returned (.tuple #[.agg #[.int .i64 (atD rk ps id p).id, .int .i64 (atD rk ps id p).gen, .int .i64 (atD rk ps id p).role, .int .i64 (atD rk ps id p).n, .int .i64 (atD rk ps id p).s, .int .i64 (atD rk ps id p).tail, .int .i64 (atD rk ps id p).lost, .int .i64 (atD rk ps id p).built], .bool (atOk rk ps id p)]) := by
  have e : atD rk ps id p = supZ := by unfold atD; rw [if_neg (by simp [h])]
  rw [e, h]
  rfl
theorem at_full {rk : Bool} {ps : List Int} {id p : Int} (h : atOk rk ps id p = true) : Ending.returned (.tuple #[.agg #[.int .i64 (getD ps).id, .int .i64 (getD ps).gen, .int .i64 (getD ps).role, .int .i64 (getD ps).n, .int .i64 (getD ps).s, .int .i64 (getD ps).tail, .int .i64 (getD ps).lost, .int .i64 (getD ps).built], .bool true]) = .returned (.tuple #[.agg #[.int .i64 (atD rk ps id p).id, .int .i64 (atD rk ps id p).gen, .int .i64 (atD rk ps id p).role, .int .i64 (atD rk ps id p).n, .int .i64 (atD rk ps id p).s, .int .i64 (atD rk ps id p).tail, .int .i64 (atD rk ps id p).lost, .int .i64 (atD rk ps id p).built], .bool (atOk rk ps id p)]) := by
  have e : atD rk ps id p = getD ps := by unfold atD; rw [if_pos h]
  rw [e, h]
theorem getB_gen {ps : List Int} (h : getB ps = true) : 0 ≤ (getD ps).gen ∧ (getD ps).gen ≤ 60000 := by
  rw [getD_of h]
  unfold getB at h
  simp only [Bool.and_eq_true] at h
  have := (supB_iff.1 h.2.2).2.2.2.2.1
  exact this
/-- The eight cells are what they were set to. -/
theorem set8_box {w : World} {B : Nat} {T : TypeId} {x0 x1 x2 x3 x4 x5 x6 x7 : Value} (h : Box w B T #[x0, x1, x2, x3, x4, x5, x6, x7]) (v0 v1 v2 v3 v4 v5 v6 v7 : Value) : Box (set8 w B v0 v1 v2 v3 v4 v5 v6 v7) B T #[v0, v1, v2, v3, v4, v5, v6, v7] := by
  unfold set8
  have := (((((((h.set 0 v0).set 1 v1).set 2 v2).set 3 v3).set 4 v4).set 5 v5).set 6 v6).set 7 v7
  simpa using this

theorem readD_le2 {ss : List (List Int)} {cs : List (Int × List Int)} {f : Bool} {bs : List Int} {n : Int} (hw : wtMem (ss, cs, f, bs) ≤ 2097152) : (readD ss cs f bs n).length ≤ 2097152 := by
  have hw0 : wtIntSS ss ≤ 2097152 := by unfold wtMem at hw; simp only at hw; omega
  have hw1 : wtWrS cs ≤ 2097152 := by unfold wtMem at hw; simp only at hw; omega
  unfold readD
  split
  · cases h : lastW cs n with
    | some zs => exact lastW_le hw1 h
    | none =>
      unfold secAt
      rw [Option.getD_none, List.getD_eq_getElem?_getD]
      cases h2 : ss[n.toNat]? with
      | none => simp
      | some x => exact Nat.le_trans (inner_le h2) hw0
  · simp

set_option maxHeartbeats 3200000 in
theorem superAt_any (w : World) (E : TypeId) (a0 a1 a3 : Option Addr) (n0 c0 n1 c1 n3 c3 : Nat) (ss : List (List Int)) (cs : List (Int × List Int)) (f : Bool) (bs : List Int) (id p : Int) (h0 : tIntSS.Rd w [.slice a0 n0 c0] ss) (h1 : (tWrS E).Rd w [.slice a1 n1 c1] cs) (h3 : tIntS.Rd w [.slice a3 n3 c3] bs) (hw : wtMem (ss, cs, f, bs) ≤ 2097152) :
    Calls Try.prog 112 #[.agg #[.slice a0 n0 c0, .slice a1 n1 c1, .bool f, .slice a3 n3 c3], .int .i64 p, .int .i64 id] w fun e w' => e = .returned (.tuple #[.agg #[.int .i64 (atD (readOk ss cs f bs p) (readD ss cs f bs p) id p).id, .int .i64 (atD (readOk ss cs f bs p) (readD ss cs f bs p) id p).gen, .int .i64 (atD (readOk ss cs f bs p) (readD ss cs f bs p) id p).role, .int .i64 (atD (readOk ss cs f bs p) (readD ss cs f bs p) id p).n, .int .i64 (atD (readOk ss cs f bs p) (readD ss cs f bs p) id p).s, .int .i64 (atD (readOk ss cs f bs p) (readD ss cs f bs p) id p).tail, .int .i64 (atD (readOk ss cs f bs p) (readD ss cs f bs p) id p).lost, .int .i64 (atD (readOk ss cs f bs p) (readD ss cs f bs p) id p).built], .bool (atOk (readOk ss cs f bs p) (readD ss cs f bs p) id p)]) ∧ Below w.heap.size w w' := by
  have hA := (new_below w (.cells #[.slice a0 n0 c0, .slice a1 n1 c1, .bool f, .slice a3 n3 c3] 73)).alloc (by simp) (.cells #[.int .i64 0, .int .i64 0, .int .i64 0, .int .i64 0, .int .i64 0, .int .i64 0, .int .i64 0, .int .i64 0] 80)
  have M0 := (Box.new w 73 #[.slice a0 n0 c0, .slice a1 n1 c1, .bool f, .slice a3 n3 c3]).alloc (.cells #[.int .i64 0, .int .i64 0, .int .i64 0, .int .i64 0, .int .i64 0, .int .i64 0, .int .i64 0, .int .i64 0] 80)
  have R0 := Box.new (w.alloc (.cells #[.slice a0 n0 c0, .slice a1 n1 c1, .bool f, .slice a3 n3 c3] 73)) 80 #[.int .i64 0, .int .i64 0, .int .i64 0, .int .i64 0, .int .i64 0, .int .i64 0, .int .i64 0, .int .i64 0]
  rw [World.size_alloc] at R0
  obtain ⟨q0, q1, q2, q3⟩ := M0.cells4
  go_enter Try.func112, Try.ntmps112
  go_wp2_with fail
  generalize (w.alloc (.cells #[.slice a0 n0 c0, .slice a1 n1 c1, .bool f, .slice a3 n3 c3] 73)).alloc (.cells #[.int .i64 0, .int .i64 0, .int .i64 0, .int .i64 0, .int .i64 0, .int .i64 0, .int .i64 0, .int .i64 0] 80) = W at hA M0 R0 q0 q1 q2 q3 ⊢
  refine (implReadSec_any _ E _ _ _ _ _ _ _ _ _ ss cs f bs p (h0.below hA) (h1.below hA) (h3.below hA) hw).mono ?_
  rintro e w1 ⟨al, ll, cl, rfl, o1, b1⟩
  have hlr := readD_le2 (n := p) hw
  generalize hP : readD ss cs f bs p = ps at o1 hlr ⊢
  generalize hK : readOk ss cs f bs p = rk
  have HP := hidden hP
  have HK := hidden hK
  clear hP hK
  obtain ⟨rr, rl, _, _⟩ := ints_rd o1.rd
  have R1 := R0.below b1 R0.lt
  have B1 := Below.andThen hA b1
  clear q0 q1 q2 q3 M0 R0 hA o1 b1
  go_wp2_with fail
  refine (implGetSuper_any _ _ _ _ ps rr rl (by omega)).mono ?_
  rintro e w2 ⟨rfl, b2⟩
  have R2 := R1.below b2 R1.lt
  have B2 := Below.andThen B1 b2
  clear R1 B1 b2 rr
  have R4 := R2.alloc (.cells #[.int .i64 (getD ps).id, .int .i64 (getD ps).gen, .int .i64 (getD ps).role, .int .i64 (getD ps).n, .int .i64 (getD ps).s, .int .i64 (getD ps).tail, .int .i64 (getD ps).lost, .int .i64 (getD ps).built] 80)
  have X4 := Box.new w2 80 #[.int .i64 (getD ps).id, .int .i64 (getD ps).gen, .int .i64 (getD ps).role, .int .i64 (getD ps).n, .int .i64 (getD ps).s, .int .i64 (getD ps).tail, .int .i64 (getD ps).lost, .int .i64 (getD ps).built]
  obtain ⟨r0, r1, r2, r3, r4, r5, r6, r7⟩ := R4.cells8
  obtain ⟨x0, x1, x2, x3, x4, x5, x6, x7⟩ := X4.cells8
  have fz := R4.frozen
  have FZ := hidden (Below.andBut (B2.alloc B2.size (.cells #[.int .i64 (getD ps).id, .int .i64 (getD ps).gen, .int .i64 (getD ps).role, .int .i64 (getD ps).n, .int .i64 (getD ps).s, .int .i64 (getD ps).tail, .int .i64 (getD ps).lost, .int .i64 (getD ps).built] 80)) (set8_but _ (w.heap.size + 1) (.int .i64 0) (.int .i64 0) (.int .i64 0) (.int .i64 0) (.int .i64 0) (.int .i64 0) (.int .i64 0) (.int .i64 0)) (by omega))
  have FS := hidden (Below.andBut (B2.alloc B2.size (.cells #[.int .i64 (getD ps).id, .int .i64 (getD ps).gen, .int .i64 (getD ps).role, .int .i64 (getD ps).n, .int .i64 (getD ps).s, .int .i64 (getD ps).tail, .int .i64 (getD ps).lost, .int .i64 (getD ps).built] 80)) (set8_but _ (w.heap.size + 1) (.int .i64 (getD ps).id) (.int .i64 (getD ps).gen) (.int .i64 (getD ps).role) (.int .i64 (getD ps).n) (.int .i64 (getD ps).s) (.int .i64 (getD ps).tail) (.int .i64 (getD ps).lost) (.int .i64 (getD ps).built)) (by omega))
  unfold set8 at FZ FS
  clear R2 R4 X4 B2
  by_cases hk : rk = true
  · subst hk
    by_cases hg : getB ps = true
    · obtain ⟨g0, g1⟩ := getB_gen hg
      by_cases hi : (getD ps).id = id
      · subst hi
        go_wp2_with fail
        refine (superPlace_any _ _ g0).mono ?_
        rintro e w3 ⟨rfl, rfl⟩
        by_cases hp : (getD ps).gen % 2 = p
        · subst hp
          have hok : atOk true ps (getD ps).id ((getD ps).gen % 2) = true := by unfold atOk; simp [hg]
          have HE := hidden (at_full hok)
          clear hok FZ
          go_wp2
          refine bodyPost_ret (v := .tuple #[.agg #[.int .i64 (getD ps).id, .int .i64 (getD ps).gen, .int .i64 (getD ps).role, .int .i64 (getD ps).n, .int .i64 (getD ps).s, .int .i64 (getD ps).tail, .int .i64 (getD ps).lost, .int .i64 (getD ps).built], .bool true]) (by simp [results, Try.results112, go_sem, r0, r1, r2, r3, r4, r5, r6, r7]) rfl ?_
          exact ⟨by rw [HP.out, HK.out]; exact HE.out, FS.out⟩
        · have hok : atOk true ps (getD ps).id p = false := by unfold atOk; simp [hp]
          have HE := hidden (at_zero hok)
          clear hok FS
          go_wp2
          refine bodyPost_ret (v := .tuple #[.agg #[.int .i64 0, .int .i64 0, .int .i64 0, .int .i64 0, .int .i64 0, .int .i64 0, .int .i64 0, .int .i64 0], .bool false]) (by simp [results, Try.results112, go_sem, r0, r1, r2, r3, r4, r5, r6, r7]) rfl ?_
          exact ⟨by rw [HP.out, HK.out]; exact HE.out, FZ.out⟩
      · have hok : atOk true ps id p = false := by unfold atOk; simp [hi]
        have HE := hidden (at_zero hok)
        clear hok FS
        go_wp2
        refine bodyPost_ret (v := .tuple #[.agg #[.int .i64 0, .int .i64 0, .int .i64 0, .int .i64 0, .int .i64 0, .int .i64 0, .int .i64 0, .int .i64 0], .bool false]) (by simp [results, Try.results112, go_sem, r0, r1, r2, r3, r4, r5, r6, r7]) rfl ?_
        exact ⟨by rw [HP.out, HK.out]; exact HE.out, FZ.out⟩
    · have hg' : getB ps = false := by simpa using hg
      have hok : atOk true ps id p = false := by unfold atOk; rw [hg']; rfl
      have HE := hidden (at_zero hok)
      clear hok FS
      go_wp2
      refine bodyPost_ret (v := .tuple #[.agg #[.int .i64 0, .int .i64 0, .int .i64 0, .int .i64 0, .int .i64 0, .int .i64 0, .int .i64 0, .int .i64 0], .bool false]) (by simp [results, Try.results112, go_sem, r0, r1, r2, r3, r4, r5, r6, r7]) rfl ?_
      exact ⟨by rw [HP.out, HK.out]; exact HE.out, FZ.out⟩
  · have hk' : rk = false := by simpa using hk
    subst hk'
    have hok : atOk false ps id p = false := rfl
    have HE := hidden (at_zero hok)
    clear hok FS
    go_wp2
    refine bodyPost_ret (v := .tuple #[.agg #[.int .i64 0, .int .i64 0, .int .i64 0, .int .i64 0, .int .i64 0, .int .i64 0, .int .i64 0, .int .i64 0], .bool false]) (by simp [results, Try.results112, go_sem, r0, r1, r2, r3, r4, r5, r6, r7]) rfl ?_
    exact ⟨by rw [HP.out, HK.out]; exact HE.out, FZ.out⟩

end Go.Proofs.Ytlcjfgmmjkandaa

/-
  An array's data in memory of its own, whatever order its blocks lie in; the walk of the laws' mark over it. Condition: it weighs at most 2097152.
-/
import Derived.Test.YtechckninoilhaaGreatWalkMarkArr
import Derived.Test.YtechckninoilhaaGreatArr7
namespace Go.Proofs.YtechckninoilhaaGreat
open Go.RowKit

/-- An array's disks and entries, in blocks lo .. hi of their own. -/
def ArrIn (w : World) (lo hi : Nat) (bm bd : Option Addr) (nm cm nd cd : Nat) (ms : List MemD) (ds : List (Int × List Int)) : Prop :=
  ∃ (fm fd : List Nat), (tMemS 109 51).Mine w [.slice bm nm cm] ms fm ∧ (tWrS 82).Mine w [.slice bd nd cd] ds fd ∧ (∀ b ∈ fm, b ∉ fd) ∧ (∀ b ∈ fm, lo ≤ b ∧ b < hi) ∧ ∀ b ∈ fd, lo ≤ b ∧ b < hi

theorem ArrIn.below {w w' : World} {lo hi : Nat} {bm bd : Option Addr} {nm cm nd cd : Nat} {ms : List MemD} {ds : List (Int × List Int)} (h : ArrIn w lo hi bm bd nm cm nd cd ms ds) (hb : Below w.heap.size w w') : ArrIn w' lo hi bm bd nm cm nd cd ms ds := by
  obtain ⟨fm, fd, h1, h2, h3⟩ := h
  exact ⟨fm, fd, h1.below hb, h2.below hb, h3⟩
theorem ArrIn.same {w w' : World} {lo hi : Nat} {bm bd : Option Addr} {nm cm nd cd : Nat} {ms : List MemD} {ds : List (Int × List Int)} (h : ArrIn w lo hi bm bd nm cm nd cd ms ds) (hs : Same w w') : ArrIn w' lo hi bm bd nm cm nd cd ms ds := h.below (hs.below _)
theorem ArrIn.but {w w' : World} {lo hi l u : Nat} {bm bd : Option Addr} {nm cm nd cd : Nat} {ms : List MemD} {ds : List (Int × List Int)} (h : ArrIn w lo hi bm bd nm cm nd cd ms ds) (hb : But l u w w') (hd : hi ≤ l ∨ u ≤ lo) : ArrIn w' lo hi bm bd nm cm nd cd ms ds := by
  obtain ⟨fm, fd, h1, h2, h3, h4, h5⟩ := h
  exact ⟨fm, fd, h1.but hb (fun b hb' => by have := h4 b hb'; omega), h2.but hb (fun b hb' => by have := h5 b hb'; omega), h3, h4, h5⟩
theorem ArrIn.rdm {w : World} {lo hi : Nat} {bm bd : Option Addr} {nm cm nd cd : Nat} {ms : List MemD} {ds : List (Int × List Int)} (h : ArrIn w lo hi bm bd nm cm nd cd ms ds) : (tMemS 109 51).Rd w [.slice bm nm cm] ms := by
  obtain ⟨fm, fd, h1, _⟩ := h
  exact h1.rd
theorem ArrIn.rdd {w : World} {lo hi : Nat} {bm bd : Option Addr} {nm cm nd cd : Nat} {ms : List MemD} {ds : List (Int × List Int)} (h : ArrIn w lo hi bm bd nm cm nd cd ms ds) : (tWrS 82).Rd w [.slice bd nd cd] ds := by
  obtain ⟨fm, fd, _, h2, _⟩ := h
  exact h2.rd
theorem ArrIn.widen {w : World} {lo hi lo' hi' : Nat} {bm bd : Option Addr} {nm cm nd cd : Nat} {ms : List MemD} {ds : List (Int × List Int)} (h : ArrIn w lo hi bm bd nm cm nd cd ms ds) (h1 : lo' ≤ lo) (h2 : hi ≤ hi') : ArrIn w lo' hi' bm bd nm cm nd cd ms ds := by
  obtain ⟨fm, fd, a1, a2, a3, a4, a5⟩ := h
  exact ⟨fm, fd, a1, a2, a3, fun b hb => by have := a4 b hb; omega, fun b hb => by have := a5 b hb; omega⟩
theorem ArrIn.of_own {w : World} {lo m hi : Nat} {bm bd : Option Addr} {nm cm nd cd : Nat} {ms : List MemD} {ds : List (Int × List Int)} (h0 : (tMemS 109 51).Own w lo m [.slice bm nm cm] ms) (h1 : (tWrS 82).Own w m hi [.slice bd nd cd] ds) (hlm : lo ≤ m) (hmh : m ≤ hi) : ArrIn w lo hi bm bd nm cm nd cd ms ds := by
  obtain ⟨fm, m0, r0⟩ := h0.mine
  obtain ⟨fd, m1, r1⟩ := h1.mine
  exact ⟨fm, fd, m0, m1, fun b hb hb' => by have h1 := r0 b hb; have h2 := r1 b hb'; omega, fun b hb => by have := r0 b hb; omega, fun b hb => by have := r1 b hb; omega⟩

set_option maxHeartbeats 1600000 in
theorem markArr_in (w : World) (lo hi : Nat) (x : ArrN) (bm bd : Option Addr) (nm cm nd cd : Nat) (ms : List MemD) (ds : List (Int × List Int)) (h : ArrIn w lo hi bm bd nm cm nd cd ms ds) (hhi : hi ≤ w.heap.size) (hw : wtArr ms ds ≤ 2097152) :
    Calls Tryz.prog 13 #[.agg #[.int .i64 x.id, .int .i64 x.n, .int .i64 x.s, .slice bm nm cm, .int .i64 x.lost, .int .i64 x.built, .int .i64 x.seq, .int .i64 x.tail, .int .i64 x.gen, .slice bd nd cd, .int .i64 x.fuse, .bool x.down, .bool x.broken], .int .i64 1] w fun e w' => e = .returned (.int .i64 (1 + (cntMS ms : Int) + (cntWS ds : Int))) ∧ ArrIn w' lo hi bm bd nm cm nd cd (markMS 1 ms) (markW (1 + (cntMS ms : Int)) ds) ∧ But lo hi w w' := by
  obtain ⟨f0, f1, h0, h1, hdis, r0, r1⟩ := h
  have hw0 : wtMemS ms ≤ 2097152 := by unfold wtArr at hw; omega
  have hw1 : wtWrS ds ≤ 2097152 := by unfold wtArr at hw; omega
  have hcm := cntMS_le ms
  have hA := new_below w (.cells #[.int .i64 x.id, .int .i64 x.n, .int .i64 x.s, .slice bm nm cm, .int .i64 x.lost, .int .i64 x.built, .int .i64 x.seq, .int .i64 x.tail, .int .i64 x.gen, .slice bd nd cd, .int .i64 x.fuse, .bool x.down, .bool x.broken] 33)
  have A := Box.new w 33 #[.int .i64 x.id, .int .i64 x.n, .int .i64 x.s, .slice bm nm cm, .int .i64 x.lost, .int .i64 x.built, .int .i64 x.seq, .int .i64 x.tail, .int .i64 x.gen, .slice bd nd cd, .int .i64 x.fuse, .bool x.down, .bool x.broken]
  obtain ⟨k0, k1, k2, k3, k4, k5, k6, k7, k8, k9, k10, k11, k12⟩ := A.cells13
  have m0 := h0.below hA
  have o1 := h1.below hA
  have zA := A.lt
  go_enter Tryz.func13, Tryz.ntmps13
  go_wp2_with fail
  generalize w.alloc (.cells #[.int .i64 x.id, .int .i64 x.n, .int .i64 x.s, .slice bm nm cm, .int .i64 x.lost, .int .i64 x.built, .int .i64 x.seq, .int .i64 x.tail, .int .i64 x.gen, .slice bd nd cd, .int .i64 x.fuse, .bool x.down, .bool x.broken] 33) = W at hA A m0 o1 zA k0 k1 k2 k3 k4 k5 k6 k7 k8 k9 k10 k11 k12 ⊢
  refine (markMemS_fp _ _ _ _ ms 1 f0 m0 hw0 (by omega) (by omega)).mono ?_
  rintro e w1 ⟨rfl, p0, t1⟩
  have hb1 := t1.but (lo := lo) (hi := hi) r0
  have m1 := o1.kept t1 (fun b hb hb' => hdis b hb' hb)
  have A1 := A.kept (hb1.block _ zA (by omega))
  have B1 := (But.of_below (lo := lo) (hi := hi) hA).trans hb1
  clear k0 k1 k2 k3 k4 k5 k6 k7 k8 k9 k10 k11 k12 A hb1 t1 m0 o1 hA
  obtain ⟨k0, k1, k2, k3, k4, k5, k6, k7, k8, k9, k10, k11, k12⟩ := A1.cells13
  have hwa : (wtMemS ms : Int) + (wtWrS ds : Int) ≤ 2097152 := by unfold wtArr at hw; omega
  go_wp2_with fail
  refine (markEntS_fp _ _ _ _ ds (1 + (cntMS ms : Int)) f1 m1 hw1 (by omega) (by omega)).mono ?_
  rintro e w2 ⟨rfl, p1, t2⟩
  have hb2 := t2.but (lo := lo) (hi := hi) r1
  have s0 := hidden (p0.kept t2 hdis)
  have s1 := hidden p1
  have B2 := hidden (B1.trans hb2)
  clear k0 k1 k2 k3 k4 k5 k6 k7 k8 k9 k10 k11 k12 A1 hb2 t2 p1 m1 p0 B1
  go_wp2
  go_ret
  exact ⟨rfl, ⟨f0, f1, s0.out, s1.out, hdis, r0, r1⟩, B2.out⟩

end Go.Proofs.YtechckninoilhaaGreat

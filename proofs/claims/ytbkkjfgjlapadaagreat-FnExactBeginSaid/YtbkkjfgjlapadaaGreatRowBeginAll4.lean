/-
  What it is that an array is right (arrB), and the walks of the specification's look for it: disk by disk, entry by entry. Condition: it weighs at most 2097152.
-/
import Derived.Test.YtbkkjfgjlapadaaGreatEngP15
import Derived.Test.YtbkkjfgjlapadaaGreatData
import Derived.Test.YtbkkjfgjlapadaaGreatWalkSecOk
import Derived.Test.YtbkkjfgjlapadaaGreatWalkArr
import Derived.Test.YtbkkjfgjlapadaaGreatHeld

/-
  An engine's cells in memory of its own, one of its slices another one now. No condition.
-/
namespace Go.Proofs.YtbkkjfgjlapadaaGreat
open Go.RowKit

theorem EngP.set2 {w w' : World} {lo hi : Nat} {e : EngD} {vm vd vw vj va vu vw' : Value} {f0 f1 f2 f3 f4 f5 fq ft : List Nat} {l : List CmdD} (h : EngP w lo hi e vm vd vw vj va vu f0 f1 f2 f3 f4 f5) (t : Turned ft w w') (ht : ∀ b ∈ ft, b ∉ f0 ∧ b ∉ f1 ∧ b ∉ f3 ∧ b ∉ f4 ∧ b ∉ f5) (hm : (tCmdS 38).Mine w' [vw'] l fq) (hq : ∀ b ∈ fq, lo ≤ b ∧ b ∉ f0 ∧ b ∉ f1 ∧ b ∉ f3 ∧ b ∉ f4 ∧ b ∉ f5) (hh : hi ≤ w'.heap.size) : EngP w' lo w'.heap.size { e with ws := l } vm vd vw' vj va vu f0 f1 fq f3 f4 f5 := by
  refine ⟨h.m0.kept t (fun b hb hb' => (ht b hb').1 hb), h.m1.kept t (fun b hb hb' => (ht b hb').2.1 hb), hm, h.m3.kept t (fun b hb hb' => (ht b hb').2.2.1 hb), h.m4.kept t (fun b hb hb' => (ht b hb').2.2.2.1 hb), h.m5.kept t (fun b hb hb' => (ht b hb').2.2.2.2 hb), ?_, ?_, ?_, ?_, ?_, ?_⟩
  · intro b hb
    rcases hb with k | k | k | k | k | k
    · have := h.r b (.inl k); omega
    · have := h.r b (.inr (.inl k)); omega
    · exact ⟨(hq b k).1, hm.lt b k⟩
    · have := h.r b (.inr (.inr (.inr (.inl k)))); omega
    · have := h.r b (.inr (.inr (.inr (.inr (.inl k))))); omega
    · have := h.r b (.inr (.inr (.inr (.inr (.inr (k)))))); omega
  · exact fun b hb => ⟨(h.d0 b hb).1, fun hb' => (hq b hb').2.1 hb, (h.d0 b hb).2.2.1, (h.d0 b hb).2.2.2.1, (h.d0 b hb).2.2.2.2⟩
  · exact fun b hb => ⟨fun hb' => (hq b hb').2.2.1 hb, (h.d1 b hb).2.1, (h.d1 b hb).2.2.1, (h.d1 b hb).2.2.2⟩
  · exact fun b hb => ⟨(hq b hb).2.2.2.1, (hq b hb).2.2.2.2.1, (hq b hb).2.2.2.2.2⟩
  · exact fun b hb => ⟨(h.d3 b hb).1, (h.d3 b hb).2⟩
  · exact fun b hb => (h.d4 b hb)

theorem EngP.set3 {w w' : World} {lo hi : Nat} {e : EngD} {vm vd vw vj va vu vj' : Value} {f0 f1 f2 f3 f4 f5 fq ft : List Nat} {l : List JobD} (h : EngP w lo hi e vm vd vw vj va vu f0 f1 f2 f3 f4 f5) (t : Turned ft w w') (ht : ∀ b ∈ ft, b ∉ f0 ∧ b ∉ f1 ∧ b ∉ f2 ∧ b ∉ f4 ∧ b ∉ f5) (hm : (tJobS 92).Mine w' [vj'] l fq) (hq : ∀ b ∈ fq, lo ≤ b ∧ b ∉ f0 ∧ b ∉ f1 ∧ b ∉ f2 ∧ b ∉ f4 ∧ b ∉ f5) (hh : hi ≤ w'.heap.size) : EngP w' lo w'.heap.size { e with js := l } vm vd vw vj' va vu f0 f1 f2 fq f4 f5 := by
  refine ⟨h.m0.kept t (fun b hb hb' => (ht b hb').1 hb), h.m1.kept t (fun b hb hb' => (ht b hb').2.1 hb), h.m2.kept t (fun b hb hb' => (ht b hb').2.2.1 hb), hm, h.m4.kept t (fun b hb hb' => (ht b hb').2.2.2.1 hb), h.m5.kept t (fun b hb hb' => (ht b hb').2.2.2.2 hb), ?_, ?_, ?_, ?_, ?_, ?_⟩
  · intro b hb
    rcases hb with k | k | k | k | k | k
    · have := h.r b (.inl k); omega
    · have := h.r b (.inr (.inl k)); omega
    · have := h.r b (.inr (.inr (.inl k))); omega
    · exact ⟨(hq b k).1, hm.lt b k⟩
    · have := h.r b (.inr (.inr (.inr (.inr (.inl k))))); omega
    · have := h.r b (.inr (.inr (.inr (.inr (.inr (k)))))); omega
  · exact fun b hb => ⟨(h.d0 b hb).1, (h.d0 b hb).2.1, fun hb' => (hq b hb').2.1 hb, (h.d0 b hb).2.2.2.1, (h.d0 b hb).2.2.2.2⟩
  · exact fun b hb => ⟨(h.d1 b hb).1, fun hb' => (hq b hb').2.2.1 hb, (h.d1 b hb).2.2.1, (h.d1 b hb).2.2.2⟩
  · exact fun b hb => ⟨fun hb' => (hq b hb').2.2.2.1 hb, (h.d2 b hb).2.1, (h.d2 b hb).2.2⟩
  · exact fun b hb => ⟨(hq b hb).2.2.2.2.1, (hq b hb).2.2.2.2.2⟩
  · exact fun b hb => (h.d4 b hb)

theorem EngP.set4 {w w' : World} {lo hi : Nat} {e : EngD} {vm vd vw vj va vu va' : Value} {f0 f1 f2 f3 f4 f5 fq ft : List Nat} {l : List AnsD} (h : EngP w lo hi e vm vd vw vj va vu f0 f1 f2 f3 f4 f5) (t : Turned ft w w') (ht : ∀ b ∈ ft, b ∉ f0 ∧ b ∉ f1 ∧ b ∉ f2 ∧ b ∉ f3 ∧ b ∉ f5) (hm : (tAnsS 55).Mine w' [va'] l fq) (hq : ∀ b ∈ fq, lo ≤ b ∧ b ∉ f0 ∧ b ∉ f1 ∧ b ∉ f2 ∧ b ∉ f3 ∧ b ∉ f5) (hh : hi ≤ w'.heap.size) : EngP w' lo w'.heap.size { e with an := l } vm vd vw vj va' vu f0 f1 f2 f3 fq f5 := by
  refine ⟨h.m0.kept t (fun b hb hb' => (ht b hb').1 hb), h.m1.kept t (fun b hb hb' => (ht b hb').2.1 hb), h.m2.kept t (fun b hb hb' => (ht b hb').2.2.1 hb), h.m3.kept t (fun b hb hb' => (ht b hb').2.2.2.1 hb), hm, h.m5.kept t (fun b hb hb' => (ht b hb').2.2.2.2 hb), ?_, ?_, ?_, ?_, ?_, ?_⟩
  · intro b hb
    rcases hb with k | k | k | k | k | k
    · have := h.r b (.inl k); omega
    · have := h.r b (.inr (.inl k)); omega
    · have := h.r b (.inr (.inr (.inl k))); omega
    · have := h.r b (.inr (.inr (.inr (.inl k)))); omega
    · exact ⟨(hq b k).1, hm.lt b k⟩
    · have := h.r b (.inr (.inr (.inr (.inr (.inr (k)))))); omega
  · exact fun b hb => ⟨(h.d0 b hb).1, (h.d0 b hb).2.1, (h.d0 b hb).2.2.1, fun hb' => (hq b hb').2.1 hb, (h.d0 b hb).2.2.2.2⟩
  · exact fun b hb => ⟨(h.d1 b hb).1, (h.d1 b hb).2.1, fun hb' => (hq b hb').2.2.1 hb, (h.d1 b hb).2.2.2⟩
  · exact fun b hb => ⟨(h.d2 b hb).1, fun hb' => (hq b hb').2.2.2.1 hb, (h.d2 b hb).2.2⟩
  · exact fun b hb => ⟨fun hb' => (hq b hb').2.2.2.2.1 hb, (h.d3 b hb).2⟩
  · exact fun b hb => (hq b hb).2.2.2.2.2

theorem EngP.set5 {w w' : World} {lo hi : Nat} {e : EngD} {vm vd vw vj va vu vu' : Value} {f0 f1 f2 f3 f4 f5 fq ft : List Nat} {l : List TurnD} (h : EngP w lo hi e vm vd vw vj va vu f0 f1 f2 f3 f4 f5) (t : Turned ft w w') (ht : ∀ b ∈ ft, b ∉ f0 ∧ b ∉ f1 ∧ b ∉ f2 ∧ b ∉ f3 ∧ b ∉ f4) (hm : (tTurnS 95).Mine w' [vu'] l fq) (hq : ∀ b ∈ fq, lo ≤ b ∧ b ∉ f0 ∧ b ∉ f1 ∧ b ∉ f2 ∧ b ∉ f3 ∧ b ∉ f4) (hh : hi ≤ w'.heap.size) : EngP w' lo w'.heap.size { e with ts := l } vm vd vw vj va vu' f0 f1 f2 f3 f4 fq := by
  refine ⟨h.m0.kept t (fun b hb hb' => (ht b hb').1 hb), h.m1.kept t (fun b hb hb' => (ht b hb').2.1 hb), h.m2.kept t (fun b hb hb' => (ht b hb').2.2.1 hb), h.m3.kept t (fun b hb hb' => (ht b hb').2.2.2.1 hb), h.m4.kept t (fun b hb hb' => (ht b hb').2.2.2.2 hb), hm, ?_, ?_, ?_, ?_, ?_, ?_⟩
  · intro b hb
    rcases hb with k | k | k | k | k | k
    · have := h.r b (.inl k); omega
    · have := h.r b (.inr (.inl k)); omega
    · have := h.r b (.inr (.inr (.inl k))); omega
    · have := h.r b (.inr (.inr (.inr (.inl k)))); omega
    · have := h.r b (.inr (.inr (.inr (.inr (.inl k))))); omega
    · exact ⟨(hq b k).1, hm.lt b k⟩
  · exact fun b hb => ⟨(h.d0 b hb).1, (h.d0 b hb).2.1, (h.d0 b hb).2.2.1, (h.d0 b hb).2.2.2.1, fun hb' => (hq b hb').2.1 hb⟩
  · exact fun b hb => ⟨(h.d1 b hb).1, (h.d1 b hb).2.1, (h.d1 b hb).2.2.1, fun hb' => (hq b hb').2.2.1 hb⟩
  · exact fun b hb => ⟨(h.d2 b hb).1, (h.d2 b hb).2.1, fun hb' => (hq b hb').2.2.2.1 hb⟩
  · exact fun b hb => ⟨(h.d3 b hb).1, fun hb' => (hq b hb').2.2.2.2.1 hb⟩
  · exact fun b hb => fun hb' => (hq b hb').2.2.2.2.2 hb

theorem EngP.own2 {w : World} {lo hi : Nat} {e : EngD} {vm vd vw vj va vu : Value} {f0 f1 f2 f3 f4 f5 : List Nat} (h : EngP w lo hi e vm vd vw vj va vu f0 f1 f2 f3 f4 f5) {b : Nat} (hb : b ∈ f2) : (lo ≤ b ∧ b < hi) ∧ b ∉ f0 ∧ b ∉ f1 ∧ b ∉ f3 ∧ b ∉ f4 ∧ b ∉ f5 :=
  ⟨h.r b (.inr (.inr (.inl hb))), fun x => (h.d0 b x).2.1 hb, fun x => (h.d1 b x).1 hb, (h.d2 b hb).1, (h.d2 b hb).2.1, (h.d2 b hb).2.2⟩
theorem EngP.own3 {w : World} {lo hi : Nat} {e : EngD} {vm vd vw vj va vu : Value} {f0 f1 f2 f3 f4 f5 : List Nat} (h : EngP w lo hi e vm vd vw vj va vu f0 f1 f2 f3 f4 f5) {b : Nat} (hb : b ∈ f3) : (lo ≤ b ∧ b < hi) ∧ b ∉ f0 ∧ b ∉ f1 ∧ b ∉ f2 ∧ b ∉ f4 ∧ b ∉ f5 :=
  ⟨h.r b (.inr (.inr (.inr (.inl hb)))), fun x => (h.d0 b x).2.2.1 hb, fun x => (h.d1 b x).2.1 hb, fun x => (h.d2 b x).1 hb, (h.d3 b hb).1, (h.d3 b hb).2⟩
theorem EngP.own4 {w : World} {lo hi : Nat} {e : EngD} {vm vd vw vj va vu : Value} {f0 f1 f2 f3 f4 f5 : List Nat} (h : EngP w lo hi e vm vd vw vj va vu f0 f1 f2 f3 f4 f5) {b : Nat} (hb : b ∈ f4) : (lo ≤ b ∧ b < hi) ∧ b ∉ f0 ∧ b ∉ f1 ∧ b ∉ f2 ∧ b ∉ f3 ∧ b ∉ f5 :=
  ⟨h.r b (.inr (.inr (.inr (.inr (.inl hb))))), fun x => (h.d0 b x).2.2.2.1 hb, fun x => (h.d1 b x).2.2.1 hb, fun x => (h.d2 b x).2.1 hb, fun x => (h.d3 b x).1 hb, (h.d4 b hb)⟩
theorem EngP.own5 {w : World} {lo hi : Nat} {e : EngD} {vm vd vw vj va vu : Value} {f0 f1 f2 f3 f4 f5 : List Nat} (h : EngP w lo hi e vm vd vw vj va vu f0 f1 f2 f3 f4 f5) {b : Nat} (hb : b ∈ f5) : (lo ≤ b ∧ b < hi) ∧ b ∉ f0 ∧ b ∉ f1 ∧ b ∉ f2 ∧ b ∉ f3 ∧ b ∉ f4 :=
  ⟨h.r b (.inr (.inr (.inr (.inr (.inr (hb)))))), fun x => (h.d0 b x).2.2.2.2 hb, fun x => (h.d1 b x).2.2.2 hb, fun x => (h.d2 b x).2.2 hb, fun x => (h.d3 b x).2 hb, fun x => (h.d4 b x) hb⟩
/-- A command that was taken out of those that wait: blocks of none of the others. -/
theorem EngP.apart2 {w : World} {lo hi : Nat} {e : EngD} {vm vd vw vj va vu : Value} {f0 f1 f2 f3 f4 f5 : List Nat} (h : EngP w lo hi e vm vd vw vj va vu f0 f1 f2 f3 f4 f5) {b : Nat} (hb : b ∈ f2) : lo ≤ b ∧ b < hi ∧ b ∉ f0 ∧ b ∉ f1 ∧ b ∉ f3 ∧ b ∉ f4 ∧ b ∉ f5 :=
  ⟨(h.r b (.inr (.inr (.inl hb)))).1, (h.r b (.inr (.inr (.inl hb)))).2, fun x => (h.d0 b x).2.1 hb, fun x => (h.d1 b x).1 hb, (h.d2 b hb).1, (h.d2 b hb).2.1, (h.d2 b hb).2.2⟩
/-- .. behind the last block of the engine. -/
theorem EngP.beyond {w : World} {lo hi : Nat} {e : EngD} {vm vd vw vj va vu : Value} {f0 f1 f2 f3 f4 f5 : List Nat} (h : EngP w lo hi e vm vd vw vj va vu f0 f1 f2 f3 f4 f5) {b : Nat} (hb : hi ≤ b ∨ b < lo) : b ∉ f0 ∧ b ∉ f1 ∧ b ∉ f2 ∧ b ∉ f3 ∧ b ∉ f4 ∧ b ∉ f5 :=
  ⟨fun x => by have := h.r b (.inl x); omega, fun x => by have := h.r b (.inr (.inl x)); omega, fun x => by have := h.r b (.inr (.inr (.inl x))); omega, fun x => by have := h.r b (.inr (.inr (.inr (.inl x)))); omega, fun x => by have := h.r b (.inr (.inr (.inr (.inr (.inl x))))); omega, fun x => by have := h.r b (.inr (.inr (.inr (.inr (.inr x))))); omega⟩

end Go.Proofs.YtbkkjfgjlapadaaGreat

/-
  The walk of the specification's MemOk: whether a disk is right. Condition: it weighs at most 2097152.
-/
namespace Go.Proofs.YtbkkjfgjlapadaaGreat
open Go.RowKit

/-- A write is right on a disk of n sectors. -/
def wrB (n : Int) (x : Int × List Int) : Bool := inB x.1 0 (n - 1) && secB x.2
/-- Bad sectors are there, and ascend. -/
def badAt (n : Int) (bs : List Int) (i : Nat) : Bool := inB (bs.getD i 0) 0 (n - 1) && (decide (i = 0) || decide (bs.getD (i - 1) 0 < bs.getD i 0))
def badB (n : Int) (bs : List Int) : Bool := (List.range bs.length).all (badAt n bs)
def memB (ss : List (List Int)) (cs : List (Int × List Int)) (bs : List Int) : Bool :=
  ss.all secB && (cs.all (wrB ss.length) && (badB ss.length bs && (inB ss.length 1 20 && decide (cs.length ≤ 60))))

theorem all_step {α : Type} {p : α → Bool} {l : List α} {j : Nat} {x : α} (h : l[j]? = some x) : (p x = true → (l.take j).all p = true → (l.take (j + 1)).all p = true) ∧ (p x = false → l.all p = false) := by
  have hj : j < l.length := (List.getElem?_eq_some_iff.1 h).1
  have e : l[j] = x := by rw [List.getElem?_eq_getElem hj] at h; simpa using h
  refine ⟨fun h1 h2 => ?_, fun h1 => ?_⟩
  · rw [List.take_succ_eq_append_getElem hj, List.all_append, h2, e]
    simp [h1]
  · rw [List.all_eq_false]
    exact ⟨x, by rw [← e]; exact List.getElem_mem hj, by simp [h1]⟩

set_option maxHeartbeats 3200000 in
theorem specMemOk_any (w : World) (E : TypeId) (a0 a1 a3 : Option Addr) (n0 c0 n1 c1 n3 c3 : Nat) (ss : List (List Int)) (cs : List (Int × List Int)) (f : Bool) (bs : List Int) (h0 : tIntSS.Rd w [.slice a0 n0 c0] ss) (h1 : (tWrS E).Rd w [.slice a1 n1 c1] cs) (h3 : tIntS.Rd w [.slice a3 n3 c3] bs) (hw : wtMem (ss, cs, f, bs) ≤ 2097152) :
    Calls Tryz.prog 224 #[.agg #[.slice a0 n0 c0, .slice a1 n1 c1, .bool f, .slice a3 n3 c3]] w fun e w' => e = .returned (.bool (memB ss cs bs)) ∧ Below w.heap.size w w' := by
  obtain ⟨hl0, _, hm0⟩ := row_length h0
  obtain ⟨hl1, _, hm1⟩ := row_length h1
  obtain ⟨hl3, _, hm3⟩ := row_length h3
  have hw0 : wtIntSS ss ≤ 2097152 := by unfold wtMem at hw; simp only at hw; omega
  have hw1 : wtWrS cs ≤ 2097152 := by unfold wtMem at hw; simp only at hw; omega
  have hw3 : n3 ≤ 2097152 := by unfold wtMem at hw; simp only at hw; omega
  have hn0 : n0 ≤ 2097152 := by unfold wtIntSS at hw0; omega
  have hn1 : n1 ≤ 2097152 := by unfold wtWrS at hw1; omega
  have hA : Below w.heap.size w (w.alloc (.cells #[.slice a0 n0 c0, .slice a1 n1 c1, .bool f, .slice a3 n3 c3] 147)) := (Below.refl _ _).alloc (Nat.le_refl _) _
  have hcell : ∀ j v, (#[Value.slice a0 n0 c0, .slice a1 n1 c1, .bool f, .slice a3 n3 c3])[j]? = some v → (w.alloc (.cells #[.slice a0 n0 c0, .slice a1 n1 c1, .bool f, .slice a3 n3 c3] 147)).cell? ⟨w.heap.size, j, none⟩ = some v := by
    intro j v hv
    rw [cell_of_row _ w.heap.size j _ _ (0, 0) (heap_alloc_new w _)]
    exact hv
  have k0 := hcell 0 _ rfl
  have k1 := hcell 1 _ rfl
  have k3 := hcell 3 _ rfl
  have g0 := h0.below hA
  have g1 := h1.below hA
  have g3 := h3.below hA
  have hz : w.heap.size < (w.alloc (.cells #[.slice a0 n0 c0, .slice a1 n1 c1, .bool f, .slice a3 n3 c3] 147)).heap.size := by simp
  go_enter Tryz.func224, Tryz.ntmps224
  go_wp2
  generalize hW : w.alloc (.cells #[.slice a0 n0 c0, .slice a1 n1 c1, .bool f, .slice a3 n3 c3] 147) = W at hA k0 k1 k3 g0 g1 g3 hz ⊢
  clear hW hcell h0 h1 h3
  go_loopw [4] (fun i wr => ∃ j : Nat, j ≤ n0 ∧ i = .int .i64 j ∧ (ss.take j).all secB = true ∧ Same W wr) (fun i _ => n0 - (intOf i).toNat)
  case atStart => exact ⟨0, Nat.zero_le _, rfl, rfl, Same.refl _⟩
  case round =>
    obtain ⟨j, hj, rfl, ht, hs⟩ := hrel
    have q0 := (hs.cell _).trans k0
    by_cases hjn : j < n0
    · rcases rows_at rfl g0 with h0' | ⟨b, off, rfl, hbl, hcs⟩
      · omega
      have hdj : ss[j]? = some (ss[j]'(by omega)) := List.getElem?_eq_getElem (by omega)
      generalize ss[j]'(by omega) = x at hdj
      have hal := all_step (p := secB) hdj
      have hil := inner_le hdj
      obtain ⟨v, hv, hrv⟩ := hcs j x hdj
      obtain ⟨av, cv, rfl⟩ := row_shape hrv
      have q1 := (hs.cell ⟨b, off + j, none⟩).trans hv
      obtain ⟨r1, _, _, _⟩ := ints_rd (hrv.same hs)
      have HT := hidden ht
      clear hcs hdj hv hrv ht
      by_cases hx : secB x = true
      · have HD := hidden (hal.1 hx HT.out)
        clear hal
        go_wp2_with fail
        refine (specSecOk_any _ _ _ _ x rfl r1 (by omega)).mono ?_
        rintro e w1 ⟨rfl, hs1⟩
        go_wp2
        go_roundw
        case rel => exact ⟨j + 1, by omega, by go_num, HD.out, hs.trans hs1⟩
        case measure => simp [intOf]; omega
      · have hx : secB x = false := by simpa using hx
        have HN := hidden (hal.2 hx)
        clear hal
        go_wp2_with fail
        refine (specSecOk_any _ _ _ _ x rfl r1 (by omega)).mono ?_
        rintro e w1 ⟨rfl, hs1⟩
        go_wp2
        go_ret
        exact ⟨ret_bool (by unfold memB; rw [HN.out]; rfl), Below.andSame (Below.andSame hA hs) hs1⟩
    · have e : j = n0 := by omega
      subst e
      rw [List.take_of_length_le (by omega)] at ht
      have HS0 := hidden ht
      have hss : ss.length = j := hl0
      clear ht hj hjn q0
      go_wp2
      go_loopw [5] (fun i wr => ∃ i2 : Nat, i2 ≤ n1 ∧ i = .int .i64 i2 ∧ (cs.take i2).all (wrB j) = true ∧ Same W wr) (fun i _ => n1 - (intOf i).toNat)
      case atStart => exact ⟨0, Nat.zero_le _, rfl, rfl, hs⟩
      case round =>
        clear hs
        obtain ⟨i2, hi2, rfl, ht, hs⟩ := hrel
        have q1 := (hs.cell _).trans k1
        by_cases hin : i2 < n1
        · rcases pairs_at rfl g1 with h0' | ⟨b, off, rfl, hbl, hcs⟩
          · omega
          have hdj : cs[i2]? = some (cs[i2]'(by omega)) := List.getElem?_eq_getElem (by omega)
          generalize cs[i2]'(by omega) = x at hdj
          have hal := all_step (p := wrB j) hdj
          have hil := inner_le' hdj
          obtain ⟨v0, v1, hv0, hv1, hrv⟩ := hcs i2 x hdj
          obtain ⟨rfl, hrv'⟩ := wr_rd hrv
          obtain ⟨av, cv, rfl⟩ := row_shape hrv'
          have p0 := (hs.cell ⟨b, off + i2 * 2, none⟩).trans hv0
          have p1 := (hs.cell ⟨b, off + i2 * 2 + 1, none⟩).trans hv1
          obtain ⟨r1, _, _, _⟩ := ints_rd (hrv'.same hs)
          obtain ⟨x0, x1⟩ := x
          simp only at p0 p1 r1 hil
          have HT := hidden ht
          clear hcs hdj hv0 hv1 hrv hrv' ht
          by_cases hI : inB x0 0 ((j : Int) - 1) = true
          · by_cases hx : secB x1 = true
            · have HD := hidden (hal.1 (by unfold wrB; simp only; rw [hI, hx]; rfl) HT.out)
              clear hal
              go_wp2_with fail
              refine (l1In_any _ _ _ _).mono ?_
              rintro e w1 ⟨rfl, hw1'⟩
              subst w1
              go_wp2_with fail
              refine (specSecOk_any _ _ _ _ x1 rfl r1 (by omega)).mono ?_
              rintro e w2 ⟨rfl, hs2⟩
              go_wp2
              go_roundw
              case rel => exact ⟨i2 + 1, by omega, by go_num, HD.out, hs.trans hs2⟩
              case measure => simp [intOf]; omega
            · have hx : secB x1 = false := by simpa using hx
              have HN := hidden (hal.2 (by unfold wrB; simp only; rw [hI, hx]; rfl))
              clear hal
              go_wp2_with fail
              refine (l1In_any _ _ _ _).mono ?_
              rintro e w1 ⟨rfl, hw1'⟩
              subst w1
              go_wp2_with fail
              refine (specSecOk_any _ _ _ _ x1 rfl r1 (by omega)).mono ?_
              rintro e w2 ⟨rfl, hs2⟩
              go_wp2
              go_ret
              exact ⟨ret_bool (by unfold memB; rw [hss, HN.out, HS0.out]; rfl), Below.andSame (Below.andSame hA hs) hs2⟩
          · have hI : inB x0 0 ((j : Int) - 1) = false := by simpa using hI
            have HN := hidden (hal.2 (by unfold wrB; simp only; rw [hI]; rfl))
            clear hal
            go_wp2_with fail
            refine (l1In_any _ _ _ _).mono ?_
            rintro e w1 ⟨rfl, hw1'⟩
            subst w1
            go_wp2
            go_ret
            exact ⟨ret_bool (by unfold memB; rw [hss, HN.out, HS0.out]; rfl), Below.andSame hA hs⟩
        · have e2 : i2 = n1 := by omega
          subst e2
          rw [List.take_of_length_le (by omega)] at ht
          have HS1 := hidden ht
          have hcsl : cs.length = i2 := hl1
          clear ht hi2 hin
          go_wp2
          go_loopw [6] (fun i wr => ∃ i3 : Nat, i3 ≤ n3 ∧ i = .int .i64 i3 ∧ (List.range i3).all (badAt j bs) = true ∧ Same W wr) (fun i _ => n3 - (intOf i).toNat)
          case atStart => exact ⟨0, Nat.zero_le _, rfl, rfl, hs⟩
          case round =>
            clear hs
            obtain ⟨i3, hi3, rfl, ht, hs⟩ := hrel
            have q3 := (hs.cell _).trans k3
            by_cases hi3n : i3 < n3
            · obtain ⟨R3, _, _, _⟩ := ints_rd g3
              rcases R3.cases with h0' | ⟨b, off, rfl, hbl, hcs⟩
              · omega
              have p0 := (hs.cell ⟨b, off + i3, none⟩).trans (hcs i3 (by omega))
              have HT := hidden ht
              have hrs : (List.range (i3 + 1)).all (badAt j bs) = ((List.range i3).all (badAt j bs) && badAt j bs i3) := by rw [List.range_succ, List.all_append]; simp
              have hrn : badAt j bs i3 = false → badB j bs = false := by
                intro h
                unfold badB
                rw [List.all_eq_false]
                exact ⟨i3, by simp; omega, by simp [h]⟩
              have hbd : badAt j bs i3 = (inB (bs.getD i3 0) 0 ((j : Int) - 1) && (decide (i3 = 0) || decide (bs.getD (i3 - 1) 0 < bs.getD i3 0))) := rfl
              have i1 : (0 : Int) ≤ (i3 : Int) := by omega
              have i2' : (i3 : Int) < (n3 : Int) := by omega
              have gw : IntKind.i64.wrap ((j : Int) - 1) = (j : Int) - 1 := IntWalk.i64_in _ (by omega)
              by_cases hI : inB (bs.getD i3 0) 0 ((j : Int) - 1) = true
              · by_cases hz3 : i3 = 0
                · have HD : Hid ((List.range (i3 + 1)).all (badAt j bs) = true) := by unfold Hid; rw [hrs, HT.out, hbd, hI, decide_eq_true hz3]; rfl
                  generalize bs.getD i3 0 = y at p0 hI
                  have d0 : decide ((0 : Int) < (i3 : Int)) = false := decide_eq_false (by omega)
                  have d0b : decide (0 < i3) = false := decide_eq_false (by omega)
                  have HZ := hidden hz3
                  clear hcs ht hrs hrn hbd hz3 R3
                  go_wp2_with fail
                  go_quiet ((go_at_call 71; exact Calls.quiet_of_same (l1In_any _ _ _ _)))
                  go_wp2
                  go_roundw
                  case rel => exact ⟨i3 + 1, by omega, by go_num, HD.out, hs.drewN _⟩
                  case measure => simp [intOf]; omega
                · have p1 := (hs.cell ⟨b, off + (i3 - 1), none⟩).trans (hcs (i3 - 1) (by omega))
                  have d0 : decide ((0 : Int) < (i3 : Int)) = true := decide_eq_true (by omega)
                  have d0b : decide (0 < i3) = true := decide_eq_true (by omega)
                  have gv : IntKind.i64.wrap ((i3 : Int) - 1) = (i3 : Int) - 1 := IntWalk.i64_in _ (by omega)
                  have gt : ((i3 : Int) - 1).toNat = i3 - 1 := by omega
                  have i3a : (0 : Int) ≤ (i3 : Int) - 1 := by omega
                  have i3b : (i3 : Int) - 1 < (n3 : Int) := by omega
                  by_cases hlt : bs.getD (i3 - 1) 0 < bs.getD i3 0
                  · have HD : Hid ((List.range (i3 + 1)).all (badAt j bs) = true) := by unfold Hid; rw [hrs, HT.out, hbd, hI, decide_eq_true hlt]; simp
                    generalize bs.getD i3 0 = y at p0 hI hlt
                    generalize bs.getD (i3 - 1) 0 = z at p1 hlt
                    have d1 : ¬ y ≤ z := by omega
                    clear hcs ht hrs hrn hbd hz3 R3
                    go_wp2_with fail
                    go_quiet ((go_at_call 71; exact Calls.quiet_of_same (l1In_any _ _ _ _)))
                    go_wp2
                    go_roundw
                    case rel => exact ⟨i3 + 1, by omega, by go_num, HD.out, hs.drewN _⟩
                    case measure => simp [intOf]; omega
                  · have HN := hidden (hrn (by rw [hbd, hI, decide_eq_false hz3, decide_eq_false hlt]; rfl))
                    generalize bs.getD i3 0 = y at p0 hI hlt
                    generalize bs.getD (i3 - 1) 0 = z at p1 hlt
                    have d1 : y ≤ z := by omega
                    clear hcs ht hrs hrn hbd hz3 R3
                    go_wp2_with fail
                    go_quiet ((go_at_call 71; exact Calls.quiet_of_same (l1In_any _ _ _ _)))
                    go_wp2
                    go_ret
                    exact ⟨ret_bool (by unfold memB; rw [hss, HN.out, HS1.out, HS0.out]; rfl), Below.andSame hA (hs.drewN _)⟩
              · have hI : inB (bs.getD i3 0) 0 ((j : Int) - 1) = false := by simpa using hI
                have HN := hidden (hrn (by rw [hbd, hI]; rfl))
                generalize bs.getD i3 0 = y at p0 hI
                clear hcs ht hrs hrn hbd R3
                go_wp2_with fail
                go_quiet ((go_at_call 71; exact Calls.quiet_of_same (l1In_any _ _ _ _)))
                go_wp2
                go_ret
                exact ⟨ret_bool (by unfold memB; rw [hss, HN.out, HS1.out, HS0.out]; rfl), Below.andSame hA (hs.drewN _)⟩
            · have e3 : i3 = n3 := by omega
              have HB : Hid (badB j bs = true) := by unfold Hid badB; rw [hl3, ← e3]; exact ht
              clear ht hi3
              have q1 := (hs.cell _).trans k1
              by_cases hI : inB (j : Int) 1 20 = true
              · by_cases h60 : (i2 : Int) ≤ 60
                · have h60' : i2 ≤ 60 := by omega
                  have H60 := hidden (decide_eq_true h60')
                  clear h60'
                  go_wp2_with fail
                  refine (l1In_any _ _ _ _).mono ?_
                  rintro e w1 ⟨rfl, hw1'⟩
                  subst w1
                  go_wp2
                  go_ret
                  exact ⟨ret_bool (by unfold memB; rw [hss, hcsl, HB.out, HS1.out, HS0.out, hI, H60.out]; rfl), Below.andSame hA hs⟩
                · have h60' : ¬ i2 ≤ 60 := by omega
                  have H60 := hidden (decide_eq_false h60')
                  clear h60'
                  go_wp2_with fail
                  refine (l1In_any _ _ _ _).mono ?_
                  rintro e w1 ⟨rfl, hw1'⟩
                  subst w1
                  go_wp2
                  go_ret
                  exact ⟨ret_bool (by unfold memB; rw [hss, hcsl, HB.out, HS1.out, HS0.out, hI, H60.out, decide_eq_false (by omega)]; rfl), Below.andSame hA hs⟩
              · have hI : inB (j : Int) 1 20 = false := by simpa using hI
                go_wp2_with fail
                refine (l1In_any _ _ _ _).mono ?_
                rintro e w1 ⟨rfl, hw1'⟩
                subst w1
                go_wp2
                go_ret
                exact ⟨ret_bool (by unfold memB; rw [hss, HB.out, HS1.out, HS0.out, hI]; rfl), Below.andSame hA hs⟩

end Go.Proofs.YtbkkjfgjlapadaaGreat

namespace Go.Proofs.YtbkkjfgjlapadaaGreat
open Go.RowKit

/-- Every element of a list, with its place. -/
def allIx {α : Type} (p : Nat → α → Bool) (l : List α) : Bool := (List.range l.length).all fun i => (l[i]?.map (p i)).getD true
theorem allIx_iff {α : Type} {p : Nat → α → Bool} {l : List α} : allIx p l = true ↔ ∀ (i : Nat) (x : α), l[i]? = some x → p i x = true := by
  unfold allIx
  rw [List.all_eq_true]
  constructor
  · intro h i x hx
    have := h i (by rw [List.mem_range]; exact (List.getElem?_eq_some_iff.1 hx).1)
    rw [hx] at this
    simpa using this
  · intro h i hi
    cases hx : l[i]? with
    | none => rfl
    | some x => simpa using h i x hx
theorem allIx_no {α : Type} {p : Nat → α → Bool} {l : List α} {i : Nat} {x : α} (hx : l[i]? = some x) (h : p i x = false) : allIx p l = false := by
  cases hb : allIx p l with
  | false => rfl
  | true => rw [allIx_iff.1 hb i x hx] at h; cases h

def memAt (x : ArrN) (i : Nat) (m : MemD) : Bool := memB m.1 m.2.1 m.2.2.2 && (decide ((m.1.length : Int) = 6 + x.s) && (!m.2.2.1 || (decide ((i : Int) = x.lost) || x.broken)))
def memsB (x : ArrN) (ms : List MemD) : Bool := allIx (memAt x) ms && decide ((ms.length : Int) = x.n)
def entAt (x : ArrN) (ds : List (Int × List Int)) (i : Nat) (e : Int × List Int) : Bool := inB e.1 0 (x.s - 1) && (decide ((e.2.length : Int) = x.n - 1) && (allW e.2 && (decide (i = 0) || decide ((ds.getD (i - 1) (0, [])).1 < e.1))))
def entsB (x : ArrN) (ds : List (Int × List Int)) : Bool := allIx (entAt x ds) ds
def lostB6 (x : ArrN) : Bool := inB x.lost (-1) (x.n - 1) && (inB x.built 0 x.s && (!decide (x.lost = -1) || decide (x.built = 0)))
def seqB6 (x : ArrN) : Bool := inB x.tail 0 60000 && (inB x.seq x.tail 60000 && (decide (x.seq ≤ x.tail + 4) && (inB x.gen 0 60000 && inB x.fuse (-1) 1000)))
def arrB (x : ArrN) (ms : List MemD) (ds : List (Int × List Int)) : Bool := geoB x.n x.s && (inB x.id 1 60000 && (memsB x ms && (entsB x ds && (lostB6 x && seqB6 x))))

theorem l6Secs_any (w : World) (n s : Int) (hs : 1 ≤ s ∧ s ≤ 8) : Calls Tryz.prog 138 #[.agg #[.int .i64 n, .int .i64 s]] w fun e w' => e = .returned (.int .i64 (6 + s)) ∧ Below w.heap.size w w' := by
  have hA := new_below w (.cells #[.int .i64 n, .int .i64 s] 25)
  obtain ⟨k0, k1⟩ := (Gbox.new w 25 n s).cells
  have hw : IntKind.i64.wrap (6 + s) = 6 + s := IntWalk.i64_in _ (by omega)
  go_enter Tryz.func138, Tryz.ntmps138
  go_wp2
  go_ret
  exact ⟨rfl, hA⟩

set_option linter.unusedSimpArgs false in
set_option maxHeartbeats 3200000 in
theorem l6Mems_any (w : World) (E F : TypeId) (x : ArrN) (am ad : Option Addr) (nm cm nd cd : Nat) (ms : List MemD) (h0 : (tMemS E F).Rd w [.slice am nm cm] ms) (hw : wtMemS ms ≤ 2097152) (hg : geoB x.n x.s = true) :
    Calls Tryz.prog 157 #[.agg #[.int .i64 x.id, .int .i64 x.n, .int .i64 x.s, .slice am nm cm, .int .i64 x.lost, .int .i64 x.built, .int .i64 x.seq, .int .i64 x.tail, .int .i64 x.gen, .slice ad nd cd, .int .i64 x.fuse, .bool x.down, .bool x.broken]] w fun e w' => e = .returned (.bool (memsB x ms)) ∧ Below w.heap.size w w' := by
  obtain ⟨hl, hc, hm⟩ := row_length h0
  obtain ⟨g1, g2, g3, g4⟩ := geoB_iff.1 hg
  have hA := new_below w (.cells #[.int .i64 x.id, .int .i64 x.n, .int .i64 x.s, .slice am nm cm, .int .i64 x.lost, .int .i64 x.built, .int .i64 x.seq, .int .i64 x.tail, .int .i64 x.gen, .slice ad nd cd, .int .i64 x.fuse, .bool x.down, .bool x.broken] 29)
  have X := Box.new w 29 #[.int .i64 x.id, .int .i64 x.n, .int .i64 x.s, .slice am nm cm, .int .i64 x.lost, .int .i64 x.built, .int .i64 x.seq, .int .i64 x.tail, .int .i64 x.gen, .slice ad nd cd, .int .i64 x.fuse, .bool x.down, .bool x.broken]
  have zA := X.lt
  have hnm : nm ≤ 2097152 := by unfold wtMemS at hw; omega
  have h1 := h0.below hA
  go_enter Tryz.func157, Tryz.ntmps157
  go_wp2
  generalize w.alloc (.cells #[.int .i64 x.id, .int .i64 x.n, .int .i64 x.s, .slice am nm cm, .int .i64 x.lost, .int .i64 x.built, .int .i64 x.seq, .int .i64 x.tail, .int .i64 x.gen, .slice ad nd cd, .int .i64 x.fuse, .bool x.down, .bool x.broken] 29) = W at hA X zA h1 ⊢
  go_loopw [3] (fun i wr => ∃ j : Nat, j ≤ nm ∧ i = .int .i64 j ∧ (∀ (q : Nat) (m : MemD), q < j → ms[q]? = some m → memAt x q m = true) ∧ Below W.heap.size W wr) (fun i _ => nm - (intOf i).toNat)
  case atStart => exact ⟨0, Nat.zero_le _, rfl, fun q m hq => by omega, Below.refl _ _⟩
  case round =>
    obtain ⟨j, hj, rfl, hall, hb⟩ := hrel
    have Xr := X.below hb zA
    obtain ⟨k0, k1, k2, k3, k4, k5, k6, k7, k8, k9, k10, k11, k12⟩ := Xr.cells13
    by_cases hjn : j < nm
    · rcases quads_at rfl h1 with h0' | ⟨b, off, rfl, hbl, hcs⟩
      · omega
      have hdj : ms[j]? = some (ms[j]'(by omega)) := List.getElem?_eq_getElem (by omega)
      generalize ms[j]'(by omega) = m at hdj
      obtain ⟨v0, v1, v2, v3, hv0, hv1, hv2, hv3, hrv⟩ := hcs j m hdj
      obtain ⟨a0, c0, a1, c1, a3, c3, ss, cs, f, bs, rfl, rfl, rfl, rfl, rfl, r0, r1, r3⟩ := mem_at hrv
      have u0 := (hb.cell (p := ⟨b, off + j * 4, none⟩) hbl).trans hv0
      have u1 := (hb.cell (p := ⟨b, off + j * 4 + 1, none⟩) hbl).trans hv1
      have u2 := (hb.cell (p := ⟨b, off + j * 4 + 2, none⟩) hbl).trans hv2
      have u3 := (hb.cell (p := ⟨b, off + j * 4 + 3, none⟩) hbl).trans hv3
      have i1 : (0 : Int) ≤ (j : Int) := by omega
      have i2 : (j : Int) < (nm : Int) := by omega
      have hwm := Nat.le_trans (inner_leM hdj) hw
      have HDJ := hidden hdj
      clear hcs hv0 hv1 hv2 hv3 hrv hdj
      have b1 := new_below wr (.cells #[.slice a0 ss.length c0, .slice a1 cs.length c1, .bool f, .slice a3 bs.length c3] 147)
      have Y1 := Box.new wr 147 #[.slice a0 ss.length c0, .slice a1 cs.length c1, .bool f, .slice a3 bs.length c3]
      have X1 := Xr.below b1 Xr.lt
      have R0 := (r0.below hb).below b1
      have R1 := (r1.below hb).below b1
      have R3 := (r3.below hb).below b1
      have B1 := hb.trans (b1.mono hb.size)
      clear r0 r1 r3 b1
      obtain ⟨y0, y1, y2, y3⟩ := Y1.cells4
      obtain ⟨e0, e1, e2, e3, e4, e5, e6, e7, e8, e9, e10, e11, e12⟩ := X1.cells13
      have zy := Y1.lt
      have zx := X1.lt
      clear e0 e3 e5 e6 e7 e8 e9 e10 e11
      cases hM : memB ss cs bs
      · skip
        go_wp2_with fail
        generalize wr.alloc (.cells #[.slice a0 ss.length c0, .slice a1 cs.length c1, .bool f, .slice a3 bs.length c3] 147) = w1 at X1 Y1 R0 R1 R3 B1 y0 y1 y2 y3 e1 e2 e4 e12 zy zx ⊢
        refine wp_region_held_drew (S := fun w' => w'.cell? ⟨wr.heap.size, 0, none⟩ = some (.slice a0 ss.length c0) ∧ w'.cell? ⟨wr.heap.size, 1, none⟩ = some (.slice a1 cs.length c1) ∧ w'.cell? ⟨wr.heap.size, 2, none⟩ = some (.bool f) ∧ w'.cell? ⟨wr.heap.size, 3, none⟩ = some (.slice a3 bs.length c3) ∧ w'.cell? ⟨w.heap.size, 1, none⟩ = some (.int .i64 x.n) ∧ w'.cell? ⟨w.heap.size, 2, none⟩ = some (.int .i64 x.s) ∧ w'.cell? ⟨w.heap.size, 4, none⟩ = some (.int .i64 x.lost) ∧ w'.cell? ⟨w.heap.size, 12, none⟩ = some (.bool x.broken)) (by kernel_rfl) ?_ (fun hHeld => ?_)
        · exact ⟨y0, y1, y2, y3, e1, e2, e4, e12⟩
        refine held_t 0 hHeld ?_
        refine held_one (i := 1) (by kernel_rfl) rfl (by kernel_rfl) (fun K hK => ?_)
        go_simp
        refine (specMemOk_any _ E _ _ _ _ _ _ _ _ _ ss cs f bs R0.drew R1.drew R3.drew hwm).mono ?_
        rintro e w2 ⟨rfl, b2⟩
        rw [hM]
        have b2' : Below w1.heap.size w1 w2 := (Below.refl w1.heap.size w1).drew.trans b2
        clear b2
        go_wp2_with fail
        clear hHeld
        refine hK.out _ _ ?_ (fun hHeld => ?_)
        · exact ⟨(b2'.cell (p := ⟨wr.heap.size, 0, none⟩) zy).trans y0, (b2'.cell (p := ⟨wr.heap.size, 1, none⟩) zy).trans y1, (b2'.cell (p := ⟨wr.heap.size, 2, none⟩) zy).trans y2, (b2'.cell (p := ⟨wr.heap.size, 3, none⟩) zy).trans y3, (b2'.cell (p := ⟨w.heap.size, 1, none⟩) zx).trans e1, (b2'.cell (p := ⟨w.heap.size, 2, none⟩) zx).trans e2, (b2'.cell (p := ⟨w.heap.size, 4, none⟩) zx).trans e4, (b2'.cell (p := ⟨w.heap.size, 12, none⟩) zx).trans e12⟩
        clear hK K
        refine held_t 2 hHeld ?_
        refine held_t 3 hHeld ?_
        refine held_p 4 hHeld ?_
        refine held_p 5 hHeld ?_
        refine held_p 6 hHeld ?_
        refine held_p 7 hHeld ?_
        refine held_p 8 hHeld ?_
        refine held_none (i := 9) (by kernel_rfl) rfl (by kernel_rfl) hHeld ?_
        simp only [Act.put, List.setIfInBounds_toArray, List.set_cons_zero, List.set_cons_succ]
        refine held_p 10 hHeld ?_
        refine held_t 11 hHeld ?_
        refine held_t 12 hHeld ?_
        refine held_p 13 hHeld ?_
        refine held_p 14 hHeld ?_
        refine held_p 15 hHeld ?_
        refine held_p 16 hHeld ?_
        refine held_p 17 hHeld ?_
        refine held_p 18 hHeld ?_
        refine held_p 19 hHeld ?_
        refine held_p 20 hHeld ?_
        refine held_p 21 hHeld ?_
        refine held_p 22 hHeld ?_
        refine held_p 23 hHeld ?_
        refine held_p 24 hHeld ?_
        refine held_p 25 hHeld ?_
        refine held_t 26 hHeld ?_
        refine wpAnyH_done (by kernel_rfl) ?_ _
        clear hHeld
        have HB := hidden (hA.trans ((B1.trans (b2'.mono B1.size)).mono hA.size))
        go_wp2
        go_ret
        exact ⟨ret_bool (by rw [show memsB x ms = false from (by unfold memsB; rw [allIx_no HDJ.out (by unfold memAt; simp [hM])]; rfl)]), HB.out⟩
      · by_cases hS : (ss.length : Int) = 6 + x.s
        · have hS1 : ((ss.length : Int) == 6 + x.s) = true := by simpa using hS
          have hS2 : ((ss.length : Int) != 6 + x.s) = false := by simpa using hS
          have HS := hidden hS
          clear hS
          cases f
          · skip
            go_wp2_with fail
            generalize wr.alloc (.cells #[.slice a0 ss.length c0, .slice a1 cs.length c1, .bool false, .slice a3 bs.length c3] 147) = w1 at X1 Y1 R0 R1 R3 B1 y0 y1 y2 y3 e1 e2 e4 e12 zy zx ⊢
            refine wp_region_held_drew (S := fun w' => w'.cell? ⟨wr.heap.size, 0, none⟩ = some (.slice a0 ss.length c0) ∧ w'.cell? ⟨wr.heap.size, 1, none⟩ = some (.slice a1 cs.length c1) ∧ w'.cell? ⟨wr.heap.size, 2, none⟩ = some (.bool false) ∧ w'.cell? ⟨wr.heap.size, 3, none⟩ = some (.slice a3 bs.length c3) ∧ w'.cell? ⟨w.heap.size, 1, none⟩ = some (.int .i64 x.n) ∧ w'.cell? ⟨w.heap.size, 2, none⟩ = some (.int .i64 x.s) ∧ w'.cell? ⟨w.heap.size, 4, none⟩ = some (.int .i64 x.lost) ∧ w'.cell? ⟨w.heap.size, 12, none⟩ = some (.bool x.broken)) (by kernel_rfl) ?_ (fun hHeld => ?_)
            · exact ⟨y0, y1, y2, y3, e1, e2, e4, e12⟩
            refine held_t 0 hHeld ?_
            refine held_one (i := 1) (by kernel_rfl) rfl (by kernel_rfl) (fun K hK => ?_)
            go_simp
            refine (specMemOk_any _ E _ _ _ _ _ _ _ _ _ ss cs false bs R0.drew R1.drew R3.drew hwm).mono ?_
            rintro e w2 ⟨rfl, b2⟩
            rw [hM]
            have b2' : Below w1.heap.size w1 w2 := (Below.refl w1.heap.size w1).drew.trans b2
            clear b2
            go_wp2_with fail
            clear hHeld
            refine hK.out _ _ ?_ (fun hHeld => ?_)
            · exact ⟨(b2'.cell (p := ⟨wr.heap.size, 0, none⟩) zy).trans y0, (b2'.cell (p := ⟨wr.heap.size, 1, none⟩) zy).trans y1, (b2'.cell (p := ⟨wr.heap.size, 2, none⟩) zy).trans y2, (b2'.cell (p := ⟨wr.heap.size, 3, none⟩) zy).trans y3, (b2'.cell (p := ⟨w.heap.size, 1, none⟩) zx).trans e1, (b2'.cell (p := ⟨w.heap.size, 2, none⟩) zx).trans e2, (b2'.cell (p := ⟨w.heap.size, 4, none⟩) zx).trans e4, (b2'.cell (p := ⟨w.heap.size, 12, none⟩) zx).trans e12⟩
            clear hK K
            refine held_t 2 hHeld ?_
            refine held_t 3 hHeld ?_
            refine held_t 4 hHeld ?_
            refine held_t 5 hHeld ?_
            refine held_t 6 hHeld ?_
            refine held_t 7 hHeld ?_
            refine held_t 8 hHeld ?_
            refine held_one (i := 9) (by kernel_rfl) rfl (by kernel_rfl) (fun K hK => ?_)
            go_simp
            refine (l6Secs_any _ x.n x.s ⟨g3, g4⟩).mono ?_
            rintro e w3 ⟨rfl, b3⟩
            have b3' : Below w1.heap.size w1 w3 := Below.andThen b2' b3
            clear b3
            go_wp2_with fail
            clear hHeld
            refine hK.out _ _ ?_ (fun hHeld => ?_)
            · exact ⟨(b3'.cell (p := ⟨wr.heap.size, 0, none⟩) zy).trans y0, (b3'.cell (p := ⟨wr.heap.size, 1, none⟩) zy).trans y1, (b3'.cell (p := ⟨wr.heap.size, 2, none⟩) zy).trans y2, (b3'.cell (p := ⟨wr.heap.size, 3, none⟩) zy).trans y3, (b3'.cell (p := ⟨w.heap.size, 1, none⟩) zx).trans e1, (b3'.cell (p := ⟨w.heap.size, 2, none⟩) zx).trans e2, (b3'.cell (p := ⟨w.heap.size, 4, none⟩) zx).trans e4, (b3'.cell (p := ⟨w.heap.size, 12, none⟩) zx).trans e12⟩
            clear hK K
            refine held_t 10 hHeld ?_
            refine held_t 11 hHeld ?_
            refine held_t 12 hHeld ?_
            refine held_t 13 hHeld ?_
            refine held_t 14 hHeld ?_
            refine held_t 15 hHeld ?_
            refine held_p 16 hHeld ?_
            refine held_p 17 hHeld ?_
            refine held_p 18 hHeld ?_
            refine held_p 19 hHeld ?_
            refine held_t 20 hHeld ?_
            refine held_t 21 hHeld ?_
            refine held_p 22 hHeld ?_
            refine held_p 23 hHeld ?_
            refine held_p 24 hHeld ?_
            refine held_t 25 hHeld ?_
            refine held_t 26 hHeld ?_
            refine wpAnyH_done (by kernel_rfl) ?_ _
            clear hHeld
            have HB := hidden (B1.trans (b3'.mono B1.size))
            have hat : memAt x j (ss, cs, false, bs) = true := (by unfold memAt; simp [hM, HS.out])
            go_wp2
            go_roundw
            case rel => exact ⟨j + 1, by omega, by go_num, fun q m hq hm' => by
                rcases Nat.lt_or_ge q j with h | h
                · exact hall q m h hm'
                · obtain rfl : q = j := by omega
                  rw [HDJ.out] at hm'
                  cases hm'
                  exact hat, HB.out⟩
            case measure => simp [intOf]; omega
          · by_cases hL : (j : Int) = x.lost
            · have hL1 : ((j : Int) == x.lost) = true := by simpa using hL
              have hL2 : ((j : Int) != x.lost) = false := by simpa using hL
              have HL := hidden hL
              clear hL
              go_wp2_with fail
              generalize wr.alloc (.cells #[.slice a0 ss.length c0, .slice a1 cs.length c1, .bool true, .slice a3 bs.length c3] 147) = w1 at X1 Y1 R0 R1 R3 B1 y0 y1 y2 y3 e1 e2 e4 e12 zy zx ⊢
              refine wp_region_held_drew (S := fun w' => w'.cell? ⟨wr.heap.size, 0, none⟩ = some (.slice a0 ss.length c0) ∧ w'.cell? ⟨wr.heap.size, 1, none⟩ = some (.slice a1 cs.length c1) ∧ w'.cell? ⟨wr.heap.size, 2, none⟩ = some (.bool true) ∧ w'.cell? ⟨wr.heap.size, 3, none⟩ = some (.slice a3 bs.length c3) ∧ w'.cell? ⟨w.heap.size, 1, none⟩ = some (.int .i64 x.n) ∧ w'.cell? ⟨w.heap.size, 2, none⟩ = some (.int .i64 x.s) ∧ w'.cell? ⟨w.heap.size, 4, none⟩ = some (.int .i64 x.lost) ∧ w'.cell? ⟨w.heap.size, 12, none⟩ = some (.bool x.broken)) (by kernel_rfl) ?_ (fun hHeld => ?_)
              · exact ⟨y0, y1, y2, y3, e1, e2, e4, e12⟩
              refine held_t 0 hHeld ?_
              refine held_one (i := 1) (by kernel_rfl) rfl (by kernel_rfl) (fun K hK => ?_)
              go_simp
              refine (specMemOk_any _ E _ _ _ _ _ _ _ _ _ ss cs true bs R0.drew R1.drew R3.drew hwm).mono ?_
              rintro e w2 ⟨rfl, b2⟩
              rw [hM]
              have b2' : Below w1.heap.size w1 w2 := (Below.refl w1.heap.size w1).drew.trans b2
              clear b2
              go_wp2_with fail
              clear hHeld
              refine hK.out _ _ ?_ (fun hHeld => ?_)
              · exact ⟨(b2'.cell (p := ⟨wr.heap.size, 0, none⟩) zy).trans y0, (b2'.cell (p := ⟨wr.heap.size, 1, none⟩) zy).trans y1, (b2'.cell (p := ⟨wr.heap.size, 2, none⟩) zy).trans y2, (b2'.cell (p := ⟨wr.heap.size, 3, none⟩) zy).trans y3, (b2'.cell (p := ⟨w.heap.size, 1, none⟩) zx).trans e1, (b2'.cell (p := ⟨w.heap.size, 2, none⟩) zx).trans e2, (b2'.cell (p := ⟨w.heap.size, 4, none⟩) zx).trans e4, (b2'.cell (p := ⟨w.heap.size, 12, none⟩) zx).trans e12⟩
              clear hK K
              refine held_t 2 hHeld ?_
              refine held_t 3 hHeld ?_
              refine held_t 4 hHeld ?_
              refine held_t 5 hHeld ?_
              refine held_t 6 hHeld ?_
              refine held_t 7 hHeld ?_
              refine held_t 8 hHeld ?_
              refine held_one (i := 9) (by kernel_rfl) rfl (by kernel_rfl) (fun K hK => ?_)
              go_simp
              refine (l6Secs_any _ x.n x.s ⟨g3, g4⟩).mono ?_
              rintro e w3 ⟨rfl, b3⟩
              have b3' : Below w1.heap.size w1 w3 := Below.andThen b2' b3
              clear b3
              go_wp2_with fail
              clear hHeld
              refine hK.out _ _ ?_ (fun hHeld => ?_)
              · exact ⟨(b3'.cell (p := ⟨wr.heap.size, 0, none⟩) zy).trans y0, (b3'.cell (p := ⟨wr.heap.size, 1, none⟩) zy).trans y1, (b3'.cell (p := ⟨wr.heap.size, 2, none⟩) zy).trans y2, (b3'.cell (p := ⟨wr.heap.size, 3, none⟩) zy).trans y3, (b3'.cell (p := ⟨w.heap.size, 1, none⟩) zx).trans e1, (b3'.cell (p := ⟨w.heap.size, 2, none⟩) zx).trans e2, (b3'.cell (p := ⟨w.heap.size, 4, none⟩) zx).trans e4, (b3'.cell (p := ⟨w.heap.size, 12, none⟩) zx).trans e12⟩
              clear hK K
              refine held_t 10 hHeld ?_
              refine held_t 11 hHeld ?_
              refine held_t 12 hHeld ?_
              refine held_t 13 hHeld ?_
              refine held_t 14 hHeld ?_
              refine held_t 15 hHeld ?_
              refine held_t 16 hHeld ?_
              refine held_t 17 hHeld ?_
              refine held_t 18 hHeld ?_
              refine held_t 19 hHeld ?_
              refine held_t 20 hHeld ?_
              refine held_t 21 hHeld ?_
              refine held_p 22 hHeld ?_
              refine held_p 23 hHeld ?_
              refine held_p 24 hHeld ?_
              refine held_t 25 hHeld ?_
              refine held_t 26 hHeld ?_
              refine wpAnyH_done (by kernel_rfl) ?_ _
              clear hHeld
              have HB := hidden (B1.trans (b3'.mono B1.size))
              have hat : memAt x j (ss, cs, true, bs) = true := (by unfold memAt; simp [hM, HS.out, HL.out])
              go_wp2
              go_roundw
              case rel => exact ⟨j + 1, by omega, by go_num, fun q m hq hm' => by
                  rcases Nat.lt_or_ge q j with h | h
                  · exact hall q m h hm'
                  · obtain rfl : q = j := by omega
                    rw [HDJ.out] at hm'
                    cases hm'
                    exact hat, HB.out⟩
              case measure => simp [intOf]; omega
            · have hL1 : ((j : Int) == x.lost) = false := by simpa using hL
              have hL2 : ((j : Int) != x.lost) = true := by simpa using hL
              have HL := hidden hL
              clear hL
              cases hBr : x.broken
              · rw [hBr] at e12
                go_wp2_with fail
                generalize wr.alloc (.cells #[.slice a0 ss.length c0, .slice a1 cs.length c1, .bool true, .slice a3 bs.length c3] 147) = w1 at X1 Y1 R0 R1 R3 B1 y0 y1 y2 y3 e1 e2 e4 e12 zy zx ⊢
                refine wp_region_held_drew (S := fun w' => w'.cell? ⟨wr.heap.size, 0, none⟩ = some (.slice a0 ss.length c0) ∧ w'.cell? ⟨wr.heap.size, 1, none⟩ = some (.slice a1 cs.length c1) ∧ w'.cell? ⟨wr.heap.size, 2, none⟩ = some (.bool true) ∧ w'.cell? ⟨wr.heap.size, 3, none⟩ = some (.slice a3 bs.length c3) ∧ w'.cell? ⟨w.heap.size, 1, none⟩ = some (.int .i64 x.n) ∧ w'.cell? ⟨w.heap.size, 2, none⟩ = some (.int .i64 x.s) ∧ w'.cell? ⟨w.heap.size, 4, none⟩ = some (.int .i64 x.lost) ∧ w'.cell? ⟨w.heap.size, 12, none⟩ = some (.bool false)) (by kernel_rfl) ?_ (fun hHeld => ?_)
                · exact ⟨y0, y1, y2, y3, e1, e2, e4, e12⟩
                refine held_t 0 hHeld ?_
                refine held_one (i := 1) (by kernel_rfl) rfl (by kernel_rfl) (fun K hK => ?_)
                go_simp
                refine (specMemOk_any _ E _ _ _ _ _ _ _ _ _ ss cs true bs R0.drew R1.drew R3.drew hwm).mono ?_
                rintro e w2 ⟨rfl, b2⟩
                rw [hM]
                have b2' : Below w1.heap.size w1 w2 := (Below.refl w1.heap.size w1).drew.trans b2
                clear b2
                go_wp2_with fail
                clear hHeld
                refine hK.out _ _ ?_ (fun hHeld => ?_)
                · exact ⟨(b2'.cell (p := ⟨wr.heap.size, 0, none⟩) zy).trans y0, (b2'.cell (p := ⟨wr.heap.size, 1, none⟩) zy).trans y1, (b2'.cell (p := ⟨wr.heap.size, 2, none⟩) zy).trans y2, (b2'.cell (p := ⟨wr.heap.size, 3, none⟩) zy).trans y3, (b2'.cell (p := ⟨w.heap.size, 1, none⟩) zx).trans e1, (b2'.cell (p := ⟨w.heap.size, 2, none⟩) zx).trans e2, (b2'.cell (p := ⟨w.heap.size, 4, none⟩) zx).trans e4, (b2'.cell (p := ⟨w.heap.size, 12, none⟩) zx).trans e12⟩
                clear hK K
                refine held_t 2 hHeld ?_
                refine held_t 3 hHeld ?_
                refine held_t 4 hHeld ?_
                refine held_t 5 hHeld ?_
                refine held_t 6 hHeld ?_
                refine held_t 7 hHeld ?_
                refine held_t 8 hHeld ?_
                refine held_one (i := 9) (by kernel_rfl) rfl (by kernel_rfl) (fun K hK => ?_)
                go_simp
                refine (l6Secs_any _ x.n x.s ⟨g3, g4⟩).mono ?_
                rintro e w3 ⟨rfl, b3⟩
                have b3' : Below w1.heap.size w1 w3 := Below.andThen b2' b3
                clear b3
                go_wp2_with fail
                clear hHeld
                refine hK.out _ _ ?_ (fun hHeld => ?_)
                · exact ⟨(b3'.cell (p := ⟨wr.heap.size, 0, none⟩) zy).trans y0, (b3'.cell (p := ⟨wr.heap.size, 1, none⟩) zy).trans y1, (b3'.cell (p := ⟨wr.heap.size, 2, none⟩) zy).trans y2, (b3'.cell (p := ⟨wr.heap.size, 3, none⟩) zy).trans y3, (b3'.cell (p := ⟨w.heap.size, 1, none⟩) zx).trans e1, (b3'.cell (p := ⟨w.heap.size, 2, none⟩) zx).trans e2, (b3'.cell (p := ⟨w.heap.size, 4, none⟩) zx).trans e4, (b3'.cell (p := ⟨w.heap.size, 12, none⟩) zx).trans e12⟩
                clear hK K
                refine held_t 10 hHeld ?_
                refine held_t 11 hHeld ?_
                refine held_t 12 hHeld ?_
                refine held_t 13 hHeld ?_
                refine held_t 14 hHeld ?_
                refine held_t 15 hHeld ?_
                refine held_t 16 hHeld ?_
                refine held_t 17 hHeld ?_
                refine held_t 18 hHeld ?_
                refine held_t 19 hHeld ?_
                refine held_t 20 hHeld ?_
                refine held_t 21 hHeld ?_
                refine held_t 22 hHeld ?_
                refine held_t 23 hHeld ?_
                refine held_t 24 hHeld ?_
                refine held_t 25 hHeld ?_
                refine held_t 26 hHeld ?_
                refine wpAnyH_done (by kernel_rfl) ?_ _
                clear hHeld
                have HB := hidden (hA.trans ((B1.trans (b3'.mono B1.size)).mono hA.size))
                go_wp2
                go_ret
                exact ⟨ret_bool (by rw [show memsB x ms = false from (by unfold memsB; rw [allIx_no HDJ.out (by unfold memAt; simp [HL.out, hBr])]; rfl)]), HB.out⟩
              · rw [hBr] at e12
                go_wp2_with fail
                generalize wr.alloc (.cells #[.slice a0 ss.length c0, .slice a1 cs.length c1, .bool true, .slice a3 bs.length c3] 147) = w1 at X1 Y1 R0 R1 R3 B1 y0 y1 y2 y3 e1 e2 e4 e12 zy zx ⊢
                refine wp_region_held_drew (S := fun w' => w'.cell? ⟨wr.heap.size, 0, none⟩ = some (.slice a0 ss.length c0) ∧ w'.cell? ⟨wr.heap.size, 1, none⟩ = some (.slice a1 cs.length c1) ∧ w'.cell? ⟨wr.heap.size, 2, none⟩ = some (.bool true) ∧ w'.cell? ⟨wr.heap.size, 3, none⟩ = some (.slice a3 bs.length c3) ∧ w'.cell? ⟨w.heap.size, 1, none⟩ = some (.int .i64 x.n) ∧ w'.cell? ⟨w.heap.size, 2, none⟩ = some (.int .i64 x.s) ∧ w'.cell? ⟨w.heap.size, 4, none⟩ = some (.int .i64 x.lost) ∧ w'.cell? ⟨w.heap.size, 12, none⟩ = some (.bool true)) (by kernel_rfl) ?_ (fun hHeld => ?_)
                · exact ⟨y0, y1, y2, y3, e1, e2, e4, e12⟩
                refine held_t 0 hHeld ?_
                refine held_one (i := 1) (by kernel_rfl) rfl (by kernel_rfl) (fun K hK => ?_)
                go_simp
                refine (specMemOk_any _ E _ _ _ _ _ _ _ _ _ ss cs true bs R0.drew R1.drew R3.drew hwm).mono ?_
                rintro e w2 ⟨rfl, b2⟩
                rw [hM]
                have b2' : Below w1.heap.size w1 w2 := (Below.refl w1.heap.size w1).drew.trans b2
                clear b2
                go_wp2_with fail
                clear hHeld
                refine hK.out _ _ ?_ (fun hHeld => ?_)
                · exact ⟨(b2'.cell (p := ⟨wr.heap.size, 0, none⟩) zy).trans y0, (b2'.cell (p := ⟨wr.heap.size, 1, none⟩) zy).trans y1, (b2'.cell (p := ⟨wr.heap.size, 2, none⟩) zy).trans y2, (b2'.cell (p := ⟨wr.heap.size, 3, none⟩) zy).trans y3, (b2'.cell (p := ⟨w.heap.size, 1, none⟩) zx).trans e1, (b2'.cell (p := ⟨w.heap.size, 2, none⟩) zx).trans e2, (b2'.cell (p := ⟨w.heap.size, 4, none⟩) zx).trans e4, (b2'.cell (p := ⟨w.heap.size, 12, none⟩) zx).trans e12⟩
                clear hK K
                refine held_t 2 hHeld ?_
                refine held_t 3 hHeld ?_
                refine held_t 4 hHeld ?_
                refine held_t 5 hHeld ?_
                refine held_t 6 hHeld ?_
                refine held_t 7 hHeld ?_
                refine held_t 8 hHeld ?_
                refine held_one (i := 9) (by kernel_rfl) rfl (by kernel_rfl) (fun K hK => ?_)
                go_simp
                refine (l6Secs_any _ x.n x.s ⟨g3, g4⟩).mono ?_
                rintro e w3 ⟨rfl, b3⟩
                have b3' : Below w1.heap.size w1 w3 := Below.andThen b2' b3
                clear b3
                go_wp2_with fail
                clear hHeld
                refine hK.out _ _ ?_ (fun hHeld => ?_)
                · exact ⟨(b3'.cell (p := ⟨wr.heap.size, 0, none⟩) zy).trans y0, (b3'.cell (p := ⟨wr.heap.size, 1, none⟩) zy).trans y1, (b3'.cell (p := ⟨wr.heap.size, 2, none⟩) zy).trans y2, (b3'.cell (p := ⟨wr.heap.size, 3, none⟩) zy).trans y3, (b3'.cell (p := ⟨w.heap.size, 1, none⟩) zx).trans e1, (b3'.cell (p := ⟨w.heap.size, 2, none⟩) zx).trans e2, (b3'.cell (p := ⟨w.heap.size, 4, none⟩) zx).trans e4, (b3'.cell (p := ⟨w.heap.size, 12, none⟩) zx).trans e12⟩
                clear hK K
                refine held_t 10 hHeld ?_
                refine held_t 11 hHeld ?_
                refine held_t 12 hHeld ?_
                refine held_t 13 hHeld ?_
                refine held_t 14 hHeld ?_
                refine held_t 15 hHeld ?_
                refine held_t 16 hHeld ?_
                refine held_t 17 hHeld ?_
                refine held_t 18 hHeld ?_
                refine held_t 19 hHeld ?_
                refine held_t 20 hHeld ?_
                refine held_t 21 hHeld ?_
                refine held_t 22 hHeld ?_
                refine held_t 23 hHeld ?_
                refine held_t 24 hHeld ?_
                refine held_t 25 hHeld ?_
                refine held_t 26 hHeld ?_
                refine wpAnyH_done (by kernel_rfl) ?_ _
                clear hHeld
                have HB := hidden (B1.trans (b3'.mono B1.size))
                have hat : memAt x j (ss, cs, true, bs) = true := (by unfold memAt; simp [hM, HS.out, hBr])
                go_wp2
                go_roundw
                case rel => exact ⟨j + 1, by omega, by go_num, fun q m hq hm' => by
                    rcases Nat.lt_or_ge q j with h | h
                    · exact hall q m h hm'
                    · obtain rfl : q = j := by omega
                      rw [HDJ.out] at hm'
                      cases hm'
                      exact hat, HB.out⟩
                case measure => simp [intOf]; omega
        · have hS1 : ((ss.length : Int) == 6 + x.s) = false := by simpa using hS
          have hS2 : ((ss.length : Int) != 6 + x.s) = true := by simpa using hS
          have HS := hidden hS
          clear hS
          go_wp2_with fail
          generalize wr.alloc (.cells #[.slice a0 ss.length c0, .slice a1 cs.length c1, .bool f, .slice a3 bs.length c3] 147) = w1 at X1 Y1 R0 R1 R3 B1 y0 y1 y2 y3 e1 e2 e4 e12 zy zx ⊢
          refine wp_region_held_drew (S := fun w' => w'.cell? ⟨wr.heap.size, 0, none⟩ = some (.slice a0 ss.length c0) ∧ w'.cell? ⟨wr.heap.size, 1, none⟩ = some (.slice a1 cs.length c1) ∧ w'.cell? ⟨wr.heap.size, 2, none⟩ = some (.bool f) ∧ w'.cell? ⟨wr.heap.size, 3, none⟩ = some (.slice a3 bs.length c3) ∧ w'.cell? ⟨w.heap.size, 1, none⟩ = some (.int .i64 x.n) ∧ w'.cell? ⟨w.heap.size, 2, none⟩ = some (.int .i64 x.s) ∧ w'.cell? ⟨w.heap.size, 4, none⟩ = some (.int .i64 x.lost) ∧ w'.cell? ⟨w.heap.size, 12, none⟩ = some (.bool x.broken)) (by kernel_rfl) ?_ (fun hHeld => ?_)
          · exact ⟨y0, y1, y2, y3, e1, e2, e4, e12⟩
          refine held_t 0 hHeld ?_
          refine held_one (i := 1) (by kernel_rfl) rfl (by kernel_rfl) (fun K hK => ?_)
          go_simp
          refine (specMemOk_any _ E _ _ _ _ _ _ _ _ _ ss cs f bs R0.drew R1.drew R3.drew hwm).mono ?_
          rintro e w2 ⟨rfl, b2⟩
          rw [hM]
          have b2' : Below w1.heap.size w1 w2 := (Below.refl w1.heap.size w1).drew.trans b2
          clear b2
          go_wp2_with fail
          clear hHeld
          refine hK.out _ _ ?_ (fun hHeld => ?_)
          · exact ⟨(b2'.cell (p := ⟨wr.heap.size, 0, none⟩) zy).trans y0, (b2'.cell (p := ⟨wr.heap.size, 1, none⟩) zy).trans y1, (b2'.cell (p := ⟨wr.heap.size, 2, none⟩) zy).trans y2, (b2'.cell (p := ⟨wr.heap.size, 3, none⟩) zy).trans y3, (b2'.cell (p := ⟨w.heap.size, 1, none⟩) zx).trans e1, (b2'.cell (p := ⟨w.heap.size, 2, none⟩) zx).trans e2, (b2'.cell (p := ⟨w.heap.size, 4, none⟩) zx).trans e4, (b2'.cell (p := ⟨w.heap.size, 12, none⟩) zx).trans e12⟩
          clear hK K
          refine held_t 2 hHeld ?_
          refine held_t 3 hHeld ?_
          refine held_t 4 hHeld ?_
          refine held_t 5 hHeld ?_
          refine held_t 6 hHeld ?_
          refine held_t 7 hHeld ?_
          refine held_t 8 hHeld ?_
          refine held_one (i := 9) (by kernel_rfl) rfl (by kernel_rfl) (fun K hK => ?_)
          go_simp
          refine (l6Secs_any _ x.n x.s ⟨g3, g4⟩).mono ?_
          rintro e w3 ⟨rfl, b3⟩
          have b3' : Below w1.heap.size w1 w3 := Below.andThen b2' b3
          clear b3
          go_wp2_with fail
          clear hHeld
          refine hK.out _ _ ?_ (fun hHeld => ?_)
          · exact ⟨(b3'.cell (p := ⟨wr.heap.size, 0, none⟩) zy).trans y0, (b3'.cell (p := ⟨wr.heap.size, 1, none⟩) zy).trans y1, (b3'.cell (p := ⟨wr.heap.size, 2, none⟩) zy).trans y2, (b3'.cell (p := ⟨wr.heap.size, 3, none⟩) zy).trans y3, (b3'.cell (p := ⟨w.heap.size, 1, none⟩) zx).trans e1, (b3'.cell (p := ⟨w.heap.size, 2, none⟩) zx).trans e2, (b3'.cell (p := ⟨w.heap.size, 4, none⟩) zx).trans e4, (b3'.cell (p := ⟨w.heap.size, 12, none⟩) zx).trans e12⟩
          clear hK K
          refine held_t 10 hHeld ?_
          refine held_t 11 hHeld ?_
          refine held_t 12 hHeld ?_
          refine held_p 13 hHeld ?_
          refine held_p 14 hHeld ?_
          refine held_p 15 hHeld ?_
          refine held_p 16 hHeld ?_
          refine held_p 17 hHeld ?_
          refine held_p 18 hHeld ?_
          refine held_p 19 hHeld ?_
          refine held_p 20 hHeld ?_
          refine held_p 21 hHeld ?_
          refine held_p 22 hHeld ?_
          refine held_p 23 hHeld ?_
          refine held_p 24 hHeld ?_
          refine held_p 25 hHeld ?_
          refine held_t 26 hHeld ?_
          refine wpAnyH_done (by kernel_rfl) ?_ _
          clear hHeld
          have HB := hidden (hA.trans ((B1.trans (b3'.mono B1.size)).mono hA.size))
          go_wp2
          go_ret
          exact ⟨ret_bool (by rw [show memsB x ms = false from (by unfold memsB; rw [allIx_no HDJ.out (by unfold memAt; simp [HS.out])]; rfl)]), HB.out⟩
    · have e : j = nm := by omega
      subst e
      have hAll : allIx (memAt x) ms = true := allIx_iff.2 (fun q m hq => hall q m (by have := (List.getElem?_eq_some_iff.1 hq).1; omega) hq)
      have HB := hidden (hA.trans (hb.mono hA.size))
      have hR : memsB x ms = ((j : Int) == x.n) := by unfold memsB; rw [hAll, hl]; simp [BEq.beq]
      go_wp2
      go_ret
      exact ⟨ret_bool hR.symm, HB.out⟩

end Go.Proofs.YtbkkjfgjlapadaaGreat

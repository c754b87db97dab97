/-
  An engine's cells in memory of a call's own, slice by slice; one of its slices is changed. No condition.
-/
import Derived.Test.YtbkkjfgjlapadaaGreatEng15
namespace Go.Proofs.YtbkkjfgjlapadaaGreat
open Go.RowKit

/-- An engine's slices, each in memory of its own, all of it in blocks lo .. hi. -/
structure EngP (w : World) (lo hi : Nat) (e : EngD) (vm vd vw vj va vu : Value) (f0 f1 f2 f3 f4 f5 : List Nat) : Prop where
  m0 : (tMemS 214 147).Mine w [vm] e.ms f0
  m1 : (tWrS 162).Mine w [vd] e.ds f1
  m2 : (tCmdS 38).Mine w [vw] e.ws f2
  m3 : (tJobS 92).Mine w [vj] e.js f3
  m4 : (tAnsS 55).Mine w [va] e.an f4
  m5 : (tTurnS 95).Mine w [vu] e.ts f5
  r : ∀ b, b ∈ f0 ∨ b ∈ f1 ∨ b ∈ f2 ∨ b ∈ f3 ∨ b ∈ f4 ∨ b ∈ f5 → lo ≤ b ∧ b < hi
  d0 : ∀ b ∈ f0, b ∉ f1 ∧ b ∉ f2 ∧ b ∉ f3 ∧ b ∉ f4 ∧ b ∉ f5
  d1 : ∀ b ∈ f1, b ∉ f2 ∧ b ∉ f3 ∧ b ∉ f4 ∧ b ∉ f5
  d2 : ∀ b ∈ f2, b ∉ f3 ∧ b ∉ f4 ∧ b ∉ f5
  d3 : ∀ b ∈ f3, b ∉ f4 ∧ b ∉ f5
  d4 : ∀ b ∈ f4, b ∉ f5
theorem EngOwn.split {w : World} {lo hi : Nat} {cs : Array Value} {e : EngD} (h : EngOwn w lo hi cs e) : ∃ vm vd vw vj va vu f0 f1 f2 f3 f4 f5, cs = engC e.x vm vd vw vj va vu ∧ EngP w lo hi e vm vd vw vj va vu f0 f1 f2 f3 f4 f5 := by
  obtain ⟨vm, vd, vw, vj, va, vu, rfl, h⟩ := h
  obtain ⟨fp, h, hr⟩ := h.mine
  obtain ⟨f0, g0, rfl, m0, h, d0⟩ := pair_mine (t := tMemS 214 147) (vs := [_]) rfl h
  obtain ⟨f1, g1, rfl, m1, h, d1⟩ := pair_mine (t := tWrS 162) (vs := [_]) rfl h
  obtain ⟨f2, g2, rfl, m2, h, d2⟩ := pair_mine (t := tCmdS 38) (vs := [_]) rfl h
  obtain ⟨f3, g3, rfl, m3, h, d3⟩ := pair_mine (t := tJobS 92) (vs := [_]) rfl h
  obtain ⟨f4, f5, rfl, m4, m5, d4⟩ := pair_mine (t := tAnsS 55) (vs := [_]) rfl h
  refine ⟨vm, vd, vw, vj, va, vu, f0, f1, f2, f3, f4, f5, rfl, m0, m1, m2, m3, m4, m5, ?_, ?_, ?_, ?_, ?_, d4⟩
  · intro b hb
    exact hr b (by simp only [List.mem_append]; exact hb)
  · intro b hb
    have := d0 b hb
    simpa only [List.mem_append, not_or] using this
  · intro b hb
    have := d1 b hb
    simpa only [List.mem_append, not_or] using this
  · intro b hb
    have := d2 b hb
    simpa only [List.mem_append, not_or] using this
  · intro b hb
    have := d3 b hb
    simpa only [List.mem_append, not_or] using this
theorem EngP.own {w : World} {lo hi : Nat} {e : EngD} {vm vd vw vj va vu : Value} {f0 f1 f2 f3 f4 f5 : List Nat} (h : EngP w lo hi e vm vd vw vj va vu f0 f1 f2 f3 f4 f5) : EngOwn w lo hi (engC e.x vm vd vw vj va vu) e := by
  refine ⟨vm, vd, vw, vj, va, vu, rfl, (pair_mine_of (vs := [_]) h.m0 (pair_mine_of (vs := [_]) h.m1 (pair_mine_of (vs := [_]) h.m2 (pair_mine_of (vs := [_]) h.m3 (pair_mine_of (vs := [_]) h.m4 h.m5 h.d4) ?_) ?_) ?_) ?_).own ?_⟩
  · intro b hb
    simpa only [List.mem_append, not_or] using h.d3 b hb
  · intro b hb
    simpa only [List.mem_append, not_or] using h.d2 b hb
  · intro b hb
    simpa only [List.mem_append, not_or] using h.d1 b hb
  · intro b hb
    simpa only [List.mem_append, not_or] using h.d0 b hb
  · intro b hb
    simp only [List.mem_append] at hb
    exact h.r b hb
theorem EngP.turned {w w' : World} {lo hi : Nat} {e : EngD} {vm vd vw vj va vu : Value} {f0 f1 f2 f3 f4 f5 fq : List Nat} (h : EngP w lo hi e vm vd vw vj va vu f0 f1 f2 f3 f4 f5) (t : Turned fq w w') (hq : ∀ b ∈ fq, b < lo ∨ hi ≤ b) : EngP w' lo hi e vm vd vw vj va vu f0 f1 f2 f3 f4 f5 := by
  have k : ∀ b, b ∈ f0 ∨ b ∈ f1 ∨ b ∈ f2 ∨ b ∈ f3 ∨ b ∈ f4 ∨ b ∈ f5 → b ∉ fq := fun b hb hb' => by have := h.r b hb; have := hq b hb'; omega
  exact ⟨h.m0.kept t (fun b hb => k b (.inl hb)), h.m1.kept t (fun b hb => k b (.inr (.inl hb))), h.m2.kept t (fun b hb => k b (.inr (.inr (.inl hb)))), h.m3.kept t (fun b hb => k b (.inr (.inr (.inr (.inl hb))))), h.m4.kept t (fun b hb => k b (.inr (.inr (.inr (.inr (.inl hb)))))), h.m5.kept t (fun b hb => k b (.inr (.inr (.inr (.inr (.inr hb)))))), h.r, h.d0, h.d1, h.d2, h.d3, h.d4⟩
theorem EngP.but {w w' : World} {lo hi l u : Nat} {e : EngD} {vm vd vw vj va vu : Value} {f0 f1 f2 f3 f4 f5 : List Nat} (h : EngP w lo hi e vm vd vw vj va vu f0 f1 f2 f3 f4 f5) (t : But l u w w') (k : ∀ b, b ∈ f0 ∨ b ∈ f1 ∨ b ∈ f2 ∨ b ∈ f3 ∨ b ∈ f4 ∨ b ∈ f5 → b < l ∨ u ≤ b) : EngP w' lo hi e vm vd vw vj va vu f0 f1 f2 f3 f4 f5 :=
  ⟨h.m0.but t (fun b hb => k b (.inl hb)), h.m1.but t (fun b hb => k b (.inr (.inl hb))), h.m2.but t (fun b hb => k b (.inr (.inr (.inl hb)))), h.m3.but t (fun b hb => k b (.inr (.inr (.inr (.inl hb))))), h.m4.but t (fun b hb => k b (.inr (.inr (.inr (.inr (.inl hb)))))), h.m5.but t (fun b hb => k b (.inr (.inr (.inr (.inr (.inr hb)))))), h.r, h.d0, h.d1, h.d2, h.d3, h.d4⟩
/-- The commands that wait are others now. -/
theorem EngP.wait {w w' : World} {lo hi : Nat} {e : EngD} {vm vd vw vj va vu vw' : Value} {f0 f1 f2 f3 f4 f5 fq : List Nat} {ws : List CmdD} (h : EngP w lo hi e vm vd vw vj va vu f0 f1 f2 f3 f4 f5) (t : Turned f2 w w') (hm : (tCmdS 38).Mine w' [vw'] ws fq) (hq : ∀ b ∈ fq, b ∈ f2 ∨ hi ≤ b) (hh : hi ≤ w'.heap.size) (hl : lo ≤ hi) : EngP w' lo w'.heap.size { e with ws := ws } vm vd vw' vj va vu f0 f1 fq f3 f4 f5 := by
  refine ⟨h.m0.kept t (fun b hb => (h.d0 b hb).2.1), h.m1.kept t (fun b hb => (h.d1 b hb).1), hm, h.m3.kept t (fun b hb hb' => (h.d2 b hb').1 hb), h.m4.kept t (fun b hb hb' => (h.d2 b hb').2.1 hb), h.m5.kept t (fun b hb hb' => (h.d2 b hb').2.2 hb), ?_, ?_, ?_, ?_, h.d3, h.d4⟩
  · intro b hb
    rcases hb with k | k | k | k | k | k
    · have := h.r b (.inl k); omega
    · have := h.r b (.inr (.inl k)); omega
    · have h1 := hm.lt b k
      rcases hq b k with x | x
      · have := h.r b (.inr (.inr (.inl x))); omega
      · omega
    · have := h.r b (.inr (.inr (.inr (.inl k)))); omega
    · have := h.r b (.inr (.inr (.inr (.inr (.inl k))))); omega
    · have := h.r b (.inr (.inr (.inr (.inr (.inr k))))); omega
  · intro b hb
    have := h.d0 b hb
    have hr := h.r b (.inl hb)
    exact ⟨this.1, fun hb' => by rcases hq b hb' with k | k; exact this.2.1 k; omega, this.2.2⟩
  · intro b hb
    have := h.d1 b hb
    have hr := h.r b (.inr (.inl hb))
    exact ⟨fun hb' => by rcases hq b hb' with k | k; exact this.1 k; omega, this.2⟩
  · intro b hb
    rcases hq b hb with k | k
    · exact h.d2 b k
    · refine ⟨fun x => ?_, fun x => ?_, fun x => ?_⟩
      · have := h.r b (by simp [x]); omega
      · have := h.r b (by simp [x]); omega
      · have := h.r b (by simp [x]); omega

end Go.Proofs.YtbkkjfgjlapadaaGreat

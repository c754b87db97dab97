/-
  What a command does to blocks, as plain definitions: the blocks behind it, its code and the words that it reads; lemmas on a row that is written from a place on. No condition; nothing of the program is named here but the specification's numbers.
-/
import Derived.Test.YtgjomldcnjjpaaaWalkCmd
namespace Go.Proofs.Ytgjomldcnjjpaaa
open Go.RowKit

/-- The numbers ls, with zs written over them from the place b on. -/
def over (ls : List Int) (b : Nat) (zs : List Int) : List Int := ls.take b ++ (zs ++ ls.drop (b + zs.length))
theorem over_nil (ls : List Int) (b : Nat) : over ls b [] = ls := by simp [over]
theorem over_len {ls zs : List Int} {b : Nat} (h : b + zs.length ≤ ls.length) : (over ls b zs).length = ls.length := by simp [over]; omega
theorem over_step {ls zs : List Int} {b j : Nat} {x : Int} (h : b + zs.length ≤ ls.length) (hj : zs[j]? = some x) : (over ls b (zs.take j)).set (b + j) x = over ls b (zs.take (j + 1)) := by
  have hl : j < zs.length := (List.getElem?_eq_some_iff.1 hj).1
  unfold over
  have e1 : (ls.take b).length = b := by simp; omega
  have e2 : (zs.take j).length = j := by simp; omega
  have e3 : (zs.take (j + 1)).length = j + 1 := by simp; omega
  rw [List.set_append, if_neg (by omega), e1, Nat.add_sub_cancel_left, List.set_append, if_neg (by omega), e2, Nat.sub_self, e3, List.drop_eq_getElem_cons (show b + j < ls.length by omega), List.set_cons_zero, List.take_succ_eq_append_getElem hl, List.append_assoc]
  rw [List.getElem?_eq_getElem hl] at hj
  simp at hj
  rw [hj]
  rfl
theorem over_all {ls zs : List Int} {b : Nat} : over ls b (zs.take zs.length) = over ls b zs := by rw [List.take_length]

/-- What a command that is not refused does. -/
def deedC (ls : List Int) (o b k : Int) (zs : List Int) : List Int × Int × List Int :=
  if o = 1 then (ls, 0, (ls.drop b.toNat).take k.toNat)
  else if o = 2 ∨ o = 3 then (over ls b.toNat zs, 0, [])
  else if o = 6 then (over ls b.toNat (List.replicate k.toNat 0), 0, [])
  else if o = 5 then (if ls.getD b.toNat 0 = zs.getD 0 0 then (ls.set b.toNat (zs.getD 1 0), 0, []) else (ls, 4, []))
  else (ls, 0, [])
/-- The first code that refuses it, on these blocks. -/
def denyC (gn gs : Int) (ls : List Int) (o d b k : Int) (zs : List Int) : Int := if (ls.length : Int) = blocksN gn gs then codeC gn gs o d b k zs else 1
/-- The blocks behind it, its code, and what it reads. -/
def doC (gn gs : Int) (ls : List Int) (o d b k : Int) (zs : List Int) : List Int × Int × List Int := if denyC gn gs ls o d b k zs = 0 then deedC ls o b k zs else (ls, denyC gn gs ls o d b k zs, [])

theorem doC_deny {gn gs : Int} {ls : List Int} {o d b k : Int} {zs : List Int} (h : ¬ denyC gn gs ls o d b k zs = 0) : doC gn gs ls o d b k zs = (ls, denyC gn gs ls o d b k zs, []) := by unfold doC; rw [if_neg h]
theorem doC_do {gn gs : Int} {ls : List Int} {o d b k : Int} {zs : List Int} (h : denyC gn gs ls o d b k zs = 0) : doC gn gs ls o d b k zs = deedC ls o b k zs := by unfold doC; rw [if_pos h]
theorem deny_len {gn gs : Int} {ls : List Int} {o d b k : Int} {zs : List Int} (h : ¬ (ls.length : Int) = blocksN gn gs) : denyC gn gs ls o d b k zs = 1 := by unfold denyC; rw [if_neg h]
theorem deny_code {gn gs : Int} {ls : List Int} {o d b k : Int} {zs : List Int} (h : (ls.length : Int) = blocksN gn gs) : denyC gn gs ls o d b k zs = codeC gn gs o d b k zs := by unfold denyC; rw [if_pos h]
theorem deny_not {gn gs : Int} {ls : List Int} {o d b k : Int} {zs : List Int} (h : denyC gn gs ls o d b k zs = 0) : (ls.length : Int) = blocksN gn gs ∧ codeC gn gs o d b k zs = 0 := by
  unfold denyC at h
  split at h
  · rename_i hl
    exact ⟨hl, h⟩
  · omega
theorem deny_range (gn gs : Int) (ls : List Int) (o d b k : Int) (zs : List Int) : 0 ≤ denyC gn gs ls o d b k zs ∧ denyC gn gs ls o d b k zs ≤ 3 := by
  have := code_range gn gs o d b k zs
  unfold denyC
  split <;> omega
theorem deed_read {ls : List Int} {b k : Int} {zs : List Int} : deedC ls 1 b k zs = (ls, 0, (ls.drop b.toNat).take k.toNat) := by unfold deedC; rw [if_pos rfl]
theorem deed_write {ls : List Int} {o b k : Int} {zs : List Int} (h : o = 2 ∨ o = 3) : deedC ls o b k zs = (over ls b.toNat zs, 0, []) := by unfold deedC; rw [if_neg (by omega), if_pos h]
theorem deed_zero {ls : List Int} {b k : Int} {zs : List Int} : deedC ls 6 b k zs = (over ls b.toNat (List.replicate k.toNat 0), 0, []) := by unfold deedC; rw [if_neg (by omega), if_neg (by omega), if_pos rfl]
theorem deed_hit {ls : List Int} {b k : Int} {zs : List Int} (h : ls.getD b.toNat 0 = zs.getD 0 0) : deedC ls 5 b k zs = (ls.set b.toNat (zs.getD 1 0), 0, []) := by unfold deedC; rw [if_neg (by omega), if_neg (by omega), if_neg (by omega), if_pos rfl, if_pos h]
theorem deed_miss {ls : List Int} {b k : Int} {zs : List Int} (h : ¬ ls.getD b.toNat 0 = zs.getD 0 0) : deedC ls 5 b k zs = (ls, 4, []) := by unfold deedC; rw [if_neg (by omega), if_neg (by omega), if_neg (by omega), if_pos rfl, if_neg h]
theorem deed_flush {ls : List Int} {b k : Int} {zs : List Int} : deedC ls 4 b k zs = (ls, 0, []) := by unfold deedC; rw [if_neg (by omega), if_neg (by omega), if_neg (by omega), if_neg (by omega)]
theorem code_op {gn gs o d b k : Int} {zs : List Int} (h : codeC gn gs o d b k zs = 0) : 1 ≤ o ∧ o ≤ 6 := by
  obtain ⟨hf, _, _⟩ := code_good h
  unfold formC at hf
  simp only [Bool.and_eq_true] at hf
  have := hf.1.2
  rw [inB_iff] at this
  omega
/-- Of a command that is right its blocks are there. -/
theorem code_room {gn gs o d b k : Int} {zs : List Int} (h : codeC gn gs o d b k zs = 0) (h4 : ¬ o = 4) : 0 ≤ b ∧ b + lenC o k zs ≤ blocksN gn gs ∧ 1 ≤ lenC o k zs ∧ lenC o k zs ≤ 6 := by
  obtain ⟨hf, hs, hr⟩ := code_good h
  obtain ⟨h0, h6, h1⟩ := size_len hs
  have ho := code_op h
  have := h1 h4 (by rw [inB_iff]; omega)
  have := hr.resolve_left h4
  omega
theorem code_two {gn gs d b k : Int} {zs : List Int} (h : codeC gn gs 5 d b k zs = 0) : zs.length = 2 := by
  obtain ⟨_, hs, _⟩ := code_good h
  rw [size5, Bool.and_eq_true] at hs
  simpa using hs.1
theorem deed_len {gn gs : Int} {ls : List Int} {o d b k : Int} {zs : List Int} (h : denyC gn gs ls o d b k zs = 0) : (deedC ls o b k zs).1.length = ls.length := by
  obtain ⟨hl, hc⟩ := deny_not h
  by_cases h4 : o = 4
  · subst h4
    rw [deed_flush]
  · obtain ⟨h0, h1, h2, h3⟩ := code_room hc h4
    have ho := code_op hc
    by_cases o1 : o = 1
    · subst o1
      rw [deed_read]
    · by_cases o2 : o = 2 ∨ o = 3
      · rw [len2 o2] at h1
        rw [deed_write o2]
        exact over_len (by omega)
      · by_cases o6 : o = 6
        · subst o6
          rw [len1 (.inr rfl)] at h1 h2
          rw [deed_zero]
          exact over_len (by simp; omega)
        · obtain rfl : o = 5 := by omega
          by_cases hh : ls.getD b.toNat 0 = zs.getD 0 0
          · rw [deed_hit hh]
            simp
          · rw [deed_miss hh]
theorem doC_len (gn gs : Int) (ls : List Int) (o d b k : Int) (zs : List Int) : (doC gn gs ls o d b k zs).1.length = ls.length := by
  by_cases h : denyC gn gs ls o d b k zs = 0
  · rw [doC_do h]
    exact deed_len h
  · rw [doC_deny h]
theorem doC_vals (gn gs : Int) (ls : List Int) (o d b k : Int) (zs : List Int) : (doC gn gs ls o d b k zs).2.2.length ≤ 6 := by
  by_cases h : denyC gn gs ls o d b k zs = 0
  · rw [doC_do h]
    obtain ⟨hl, hc⟩ := deny_not h
    unfold deedC
    split
    · rename_i h1
      subst h1
      have := (code_room hc (by omega)).2.2.2
      rw [len1 (.inl rfl)] at this
      simp
      omega
    · split
      · simp
      · split
        · simp
        · split
          · split <;> simp
          · simp
  · rw [doC_deny h]
    simp

end Go.Proofs.Ytgjomldcnjjpaaa

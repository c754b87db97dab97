/-
  What xor does: all numbers together as one number of 64 bits, a number that comes twice is gone, and all but one. No condition; nothing of the program is named here but the model's own word for xor.
-/
import Derived.Test.YtfimpohbpccjaaaKit
namespace Go.Proofs.Ytfimpohbpccjaaa
open Go.RowKit

/-- All together, from the left. -/
def xorL (l : List Int) : Int := l.foldl (fun n x => bits BinOp.xor IntKind.i64 n x) 0

theorem xorL_step {zs : List Int} {j : Nat} {x : Int} (h : j < zs.length) (hx : zs.getD j 0 = x) : bits BinOp.xor IntKind.i64 (xorL (zs.take j)) x = xorL (zs.take (j + 1)) := by
  have e : zs[j] = x := by rw [← hx]; simp [List.getElem?_eq_getElem h]
  unfold xorL
  rw [List.take_succ_eq_append_getElem h, List.foldl_append, e]
  rfl

/-- The number of 64 bits. -/
def bv (n : Int) : BitVec 64 := BitVec.ofInt 64 n
def ofBv (v : BitVec 64) : Int := IntKind.i64.wrap (v.toNat : Int)
theorem xor_bv (a b : Int) : bits BinOp.xor IntKind.i64 a b = ofBv (bv a ^^^ bv b) := rfl
theorem bv_ofBv (v : BitVec 64) : bv (ofBv v) = v := by
  apply BitVec.eq_of_toNat_eq
  have := v.isLt
  unfold bv ofBv
  rw [BitVec.toNat_ofInt, IntKind.wrap_i64]
  omega
theorem ofBv_bv {n : Int} (h1 : -9223372036854775808 ≤ n) (h2 : n ≤ 9223372036854775807) : ofBv (bv n) = n := by
  unfold bv ofBv
  rw [BitVec.toNat_ofInt, IntKind.wrap_i64]
  omega
def xorV (l : List Int) : BitVec 64 := l.foldl (fun v x => v ^^^ bv x) 0

theorem xor_fold (l : List Int) (v : BitVec 64) : l.foldl (fun n x => bits BinOp.xor IntKind.i64 n x) (ofBv v) = ofBv (l.foldl (fun v x => v ^^^ bv x) v) := by
  induction l generalizing v with
  | nil => rfl
  | cons x l ih => rw [List.foldl_cons, List.foldl_cons, xor_bv, bv_ofBv, ih]
theorem xorL_bv (l : List Int) : xorL l = ofBv (xorV l) := by
  have h : ofBv 0 = 0 := by decide
  unfold xorL xorV
  rw [← h, xor_fold]

/-- All but the k-th, of the first j. -/
def skipL (zs : List Int) (k : Int) (j : Nat) : Int := (List.range j).foldl (fun (n : Int) (i : Nat) => if (i : Int) = k then n else bits BinOp.xor IntKind.i64 n (zs.getD i 0)) 0
theorem skipL_succ (zs : List Int) (k : Int) (j : Nat) : skipL zs k (j + 1) = if (j : Int) = k then skipL zs k j else bits BinOp.xor IntKind.i64 (skipL zs k j) (zs.getD j 0) := by
  unfold skipL
  rw [List.range_succ, List.foldl_append]
  rfl

theorem skip_bv (zs : List Int) (k : Int) (j : Nat) (hj : j ≤ zs.length) : ∃ v, skipL zs k j = ofBv v ∧ xorV (zs.take j) = if 0 ≤ k ∧ k < j then v ^^^ bv (zs.getD k.toNat 0) else v := by
  induction j with
  | zero => exact ⟨0, (by decide : (0 : Int) = ofBv 0), by rw [if_neg (by omega)]; rfl⟩
  | succ j ih =>
    obtain ⟨v, hv, hx⟩ := ih (by omega)
    have hs : xorV (zs.take (j + 1)) = xorV (zs.take j) ^^^ bv (zs.getD j 0) := by
      unfold xorV
      rw [List.take_succ_eq_append_getElem (by omega), List.foldl_append]
      simp [List.getElem?_eq_getElem (show j < zs.length by omega)]
    rw [skipL_succ, hs, hx]
    by_cases hk : (j : Int) = k
    · subst hk
      refine ⟨v, by rw [if_pos rfl]; exact hv, ?_⟩
      rw [if_neg (by omega), if_pos (by omega), Int.toNat_natCast]
    · refine ⟨v ^^^ bv (zs.getD j 0), by rw [if_neg hk, hv, xor_bv, bv_ofBv], ?_⟩
      by_cases h1 : 0 ≤ k ∧ k < j
      · rw [if_pos h1, if_pos (by omega), BitVec.xor_assoc, BitVec.xor_comm (bv (zs.getD k.toNat 0)), BitVec.xor_assoc]
      · rw [if_neg h1, if_neg (by omega)]

theorem skip_all (zs : List Int) (k : Int) : skipL zs k zs.length = if 0 ≤ k ∧ k < zs.length then bits BinOp.xor IntKind.i64 (xorL zs) (zs.getD k.toNat 0) else xorL zs := by
  obtain ⟨v, hv, hx⟩ := skip_bv zs k zs.length (Nat.le_refl _)
  rw [List.take_length] at hx
  rw [hv, xorL_bv, hx]
  by_cases h : 0 ≤ k ∧ k < zs.length
  · rw [if_pos h, if_pos h, xor_bv, bv_ofBv, BitVec.xor_assoc, BitVec.xor_self, BitVec.xor_zero]
  · rw [if_neg h, if_neg h]

theorem skip_back (zs : List Int) (k : Nat) (h : k < zs.length) : bits BinOp.xor IntKind.i64 (skipL zs k zs.length) (zs.getD k 0) = xorL zs := by
  rw [skip_all, if_pos (by omega), Int.toNat_natCast, xor_bv, xor_bv, bv_ofBv, xorL_bv, bv_ofBv, BitVec.xor_assoc, BitVec.xor_self, BitVec.xor_zero]

theorem xor_twice (zs : List Int) (n : Int) : xorL (zs ++ [n, n]) = xorL zs := by
  rw [xorL_bv, xorL_bv]
  unfold xorV
  rw [List.foldl_append]
  simp only [List.foldl_cons, List.foldl_nil]
  rw [BitVec.xor_assoc, BitVec.xor_self, BitVec.xor_zero]
theorem xor_one {n : Int} (h1 : -9223372036854775808 ≤ n) (h2 : n ≤ 9223372036854775807) : xorL [n] = n := by
  rw [xorL_bv]
  unfold xorV
  simp only [List.foldl_cons, List.foldl_nil]
  have e : (0 : BitVec 64) ^^^ bv n = bv n := BitVec.zero_xor
  rw [e, ofBv_bv h1 h2]

end Go.Proofs.Ytfimpohbpccjaaa

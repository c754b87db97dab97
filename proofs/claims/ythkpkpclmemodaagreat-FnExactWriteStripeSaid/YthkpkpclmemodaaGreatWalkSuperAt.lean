/-
  What stands at one of the two places (the program's superAt): as the definitions here say. Condition: the disk weighs at most 2097152.
-/
import Derived.Test.YthkpkpclmemodaaGreatWalkGetSuper
import Derived.Test.YthkpkpclmemodaaGreatWalkRead2
namespace Go.Proofs.YthkpkpclmemodaaGreat
open Go.RowKit

/-- What was read counts: it could be read, is a Super, of this Id, at the place of its Gen. -/
def atOk (rk : Bool) (ps : List Int) (id p : Int) : Bool := rk && (getB ps && (decide ((getD ps).id = id) && decide ((getD ps).gen % 2 = p)))
def atD (rk : Bool) (ps : List Int) (id p : Int) : Sup := if atOk rk ps id p = true then getD ps else supZ
theorem at_zero {rk : Bool} {ps : List Int} {id p : Int} (h : atOk rk ps id p = false) : Ending.returned (.tuple #[.agg #[.int .i64 0, .int .i64 0, .int .i64 0, .int .i64 0, .int .i64 0, .int .i64 0, .int .i64 0, .int .i64 0], .bool false]) = .returned (.tuple #[.agg #[.int .i64 (atD rk ps id p).id, .int .i64 (atD rk ps id p).gen, .int .i64 (atD rk ps id p).role, .int .i64 (atD rk ps id p).n, .int .i64 (atD rk ps id p).s, .int .i64 (atD rk ps id p).tail, .int .i64 (atD rk ps id p).lost, .int .i64 (atD rk ps id p).built], .bool (atOk rk ps id p)]) := by
  have e : atD rk ps id p = supZ := by unfold atD; rw [if_neg (by simp [h])]
  rw [e, h]
  rfl
theorem at_full {rk : Bool} {ps : List Int} {id p : Int} (h : atOk rk ps id p = true) : Ending.returned (.tuple #[.agg #[.int .i64 (getD ps).id, .int .i64 (getD ps).gen, .int .i64 (getD ps).role, .int .i64 (getD ps).n, .int .i64 (getD ps).s, .int .i64 (getD ps).tail, .int .i64 (getD ps).lost, .int .i64 (getD ps).built], .bool true]) = .returned (.tuple #[.agg #[.int .i64 (atD rk ps id p).id, .int .i64 (atD rk ps id p).gen, .int .i64 (atD rk ps id p).role, .int .i64 (atD rk ps id p).n, .int .i64 (atD rk ps id p).s, .int .i64 (atD rk ps id p).tail, .int .i64 (atD rk ps id p).lost, .int .i64 (atD rk ps id p).built], .bool (atOk rk ps id p)]) := by
  have e : atD rk ps id p = getD ps := by unfold atD; rw [if_pos h]
  rw [e, h]
theorem getB_gen {ps : List Int} (h : getB ps = true) : 0 ≤ (getD ps).gen ∧ (getD ps).gen ≤ 60000 := by
  rw [getD_of h]
  unfold getB at h
  simp only [Bool.and_eq_true] at h
  have := (supB_iff.1 h.2.2).2.2.2.2.1
  exact this
/-- The eight cells are what they were set to. -/
theorem set8_box {w : World} {B : Nat} {T : TypeId} {x0 x1 x2 x3 x4 x5 x6 x7 : Value} (h : Box w B T #[x0, x1, x2, x3, x4, x5, x6, x7]) (v0 v1 v2 v3 v4 v5 v6 v7 : Value) : Box (set8 w B v0 v1 v2 v3 v4 v5 v6 v7) B T #[v0, v1, v2, v3, v4, v5, v6, v7] := by
  unfold set8
  have := (((((((h.set 0 v0).set 1 v1).set 2 v2).set 3 v3).set 4 v4).set 5 v5).set 6 v6).set 7 v7
  simpa using this

theorem superPlace_any (g : Int) (w : World) (h : 0 ≤ g) : Calls Tryz.prog 147 #[.int .i64 g] w fun e w' => e = .returned (.int .i64 (g % 2)) ∧ w' = w := by
  have e1 : g.tmod 2 = g % 2 := Int.tmod_eq_emod_of_nonneg h
  go_enter Tryz.func147, Tryz.ntmps147
  go_wp2
  go_ret
  exact ⟨ret_int (by first | rfl | exact e1), rfl⟩

theorem readD_le2 {ss : List (List Int)} {cs : List (Int × List Int)} {f : Bool} {bs : List Int} {n : Int} (hw : wtMem (ss, cs, f, bs) ≤ 2097152) : (readD ss cs f bs n).length ≤ 2097152 := by
  have hw0 : wtIntSS ss ≤ 2097152 := by unfold wtMem at hw; simp only at hw; omega
  have hw1 : wtWrS cs ≤ 2097152 := by unfold wtMem at hw; simp only at hw; omega
  unfold readD
  split
  · cases h : lastW cs n with
    | some zs => exact lastW_le hw1 h
    | none =>
      unfold secAt
      rw [Option.getD_none, List.getD_eq_getElem?_getD]
      cases h2 : ss[n.toNat]? with
      | none => simp
      | some x => exact Nat.le_trans (inner_le h2) hw0
  · simp

end Go.Proofs.YthkpkpclmemodaaGreat

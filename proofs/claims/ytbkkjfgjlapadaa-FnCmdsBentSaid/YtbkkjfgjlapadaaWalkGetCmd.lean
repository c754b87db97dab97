/-
  Both GetCmd (the program's and the specification's) answer as the definitions here say. Condition: at most 1500000 words.
-/
import Derived.Test.YtbkkjfgjlapadaaWalkPutCmd
import Derived.Test.YtbkkjfgjlapadaaWalkCopyWords
import Derived.Test.YtbkkjfgjlapadaaWalkSame
namespace Go.Proofs.Ytbkkjfgjlapadaa
open Go.RowKit

def getCB : List Int → Bool
  | z0 :: z1 :: z2 :: z3 :: z4 :: ds => decide (z4 = (ds.length : Int)) && putB z0 z1 z2 z3 ds
  | _ => false
def getCv (zs : List Int) : Int × Int × Int × Int × List Int := if getCB zs = true then (zs.getD 0 0, zs.getD 1 0, zs.getD 2 0, zs.getD 3 0, zs.drop 5) else (0, 0, 0, 0, [])
theorem getCv_not {zs : List Int} (h : getCB zs = false) : getCv zs = (0, 0, 0, 0, []) := by unfold getCv; rw [if_neg (by simp [h])]
theorem getCv_of {z0 z1 z2 z3 z4 : Int} {ds : List Int} (h : getCB (z0 :: z1 :: z2 :: z3 :: z4 :: ds) = true) : getCv (z0 :: z1 :: z2 :: z3 :: z4 :: ds) = (z0, z1, z2, z3, ds) := by unfold getCv; rw [if_pos h]; rfl
theorem getCB_short {zs : List Int} (h : zs.length < 5) : getCB zs = false := by
  match zs, h with
  | [], _ => rfl
  | [_], _ => rfl
  | [_, _], _ => rfl
  | [_, _, _], _ => rfl
  | [_, _, _, _], _ => rfl
theorem getCB_many {z0 z1 z2 z3 z4 : Int} {ds : List Int} (h : ¬ z4 = (ds.length : Int)) : getCB (z0 :: z1 :: z2 :: z3 :: z4 :: ds) = false := by simp [getCB, h]
theorem getCB_put {z0 z1 z2 z3 : Int} {ds : List Int} : getCB (z0 :: z1 :: z2 :: z3 :: (ds.length : Int) :: ds) = putB z0 z1 z2 z3 ds := by simp [getCB]
/-- The program's way to ask: what is put of it is just so. -/
theorem getCB_same {z0 z1 z2 z3 z4 : Int} {ds : List Int} : decide (putC z0 z1 z2 z3 ds = z0 :: z1 :: z2 :: z3 :: z4 :: ds) = getCB (z0 :: z1 :: z2 :: z3 :: z4 :: ds) := by
  cases hp : putB z0 z1 z2 z3 ds
  · rw [putC_not hp]
    simp [getCB, hp]
  · rw [putC_of hp]
    by_cases h4 : z4 = (ds.length : Int)
    · subst h4
      simp [getCB, hp, putL]
    · have : ¬ (ds.length : Int) = z4 := fun h => h4 h.symm
      simp [getCB, h4, putL, this]
theorem five_of {zs : List Int} (h : 5 ≤ zs.length) : ∃ z0 z1 z2 z3 z4 ds, zs = z0 :: z1 :: z2 :: z3 :: z4 :: ds := by
  match zs, h with
  | z0 :: z1 :: z2 :: z3 :: z4 :: ds, _ => exact ⟨z0, z1, z2, z3, z4, ds, rfl⟩
theorem Reads.drop5 {w : World} {b off : Nat} {z0 z1 z2 z3 z4 : Int} {ds : List Int} (h : Reads .i64 w (some ⟨b, off, none⟩) (z0 :: z1 :: z2 :: z3 :: z4 :: ds)) : Reads .i64 w (some ⟨b, off + 5, none⟩) ds := by
  rcases h with h | ⟨b', off', ha, hlt, hc⟩
  · simp at h
  · simp at ha
    obtain ⟨rfl, rfl⟩ := ha
    refine .inr ⟨b, off + 5, rfl, hlt, fun i hi => ?_⟩
    have := hc (i + 5) (by simp; omega)
    rw [show off + 5 + i = off + (i + 5) by omega, this]
    rfl
/-- A block's five cells set. -/
def set5 (w : World) (B : Nat) (v0 v1 v2 v3 v4 : Value) : World := ((((w.setCell ⟨B, 0, none⟩ v0).setCell ⟨B, 1, none⟩ v1).setCell ⟨B, 2, none⟩ v2).setCell ⟨B, 3, none⟩ v3).setCell ⟨B, 4, none⟩ v4
theorem set5_but (w : World) (B : Nat) (v0 v1 v2 v3 v4 : Value) : But B (B + 1) w (set5 w B v0 v1 v2 v3 v4) := by
  unfold set5
  exact ((((But.setCell (by omega) (by omega) _).trans (But.setCell (by omega) (by omega) _)).trans (But.setCell (by omega) (by omega) _)).trans (But.setCell (by omega) (by omega) _)).trans (But.setCell (by omega) (by omega) _)
theorem set5_box {w : World} {B : Nat} {T : TypeId} {u0 u1 u2 u3 u4 : Value} (h : Box w B T #[u0, u1, u2, u3, u4]) (v0 v1 v2 v3 v4 : Value) : Box (set5 w B v0 v1 v2 v3 v4) B T #[v0, v1, v2, v3, v4] := ((((h.set 0 v0).set 1 v1).set 2 v2).set 3 v3).set 4 v4
def cmdV (c : Int × Int × Int × Int × List Int) (v : Value) : Value := .agg #[.int .i64 c.1, .int .i64 c.2.1, .int .i64 c.2.2.1, .int .i64 c.2.2.2.1, v]
theorem ret_cnone {zs : List Int} (h : getCB zs = false) : Ending.returned (.tuple #[.agg #[.int .i64 0, .int .i64 0, .int .i64 0, .int .i64 0, .slice none 0 0], .bool false]) = .returned (.tuple #[cmdV (getCv zs) (.slice none 0 0), .bool (getCB zs)]) := by rw [getCv_not h, h]; rfl
theorem own_cnone {zs : List Int} (h : getCB zs = false) (w : World) (lo hi : Nat) : tIntS.Own w lo hi [.slice none 0 0] (getCv zs).2.2.2.2 := by rw [getCv_not h]; exact nil_own _ _ _
theorem ret_cmd {z0 z1 z2 z3 : Int} {ds : List Int} {v : Value} (h : putB z0 z1 z2 z3 ds = true) : Ending.returned (.tuple #[.agg #[.int .i64 z0, .int .i64 z1, .int .i64 z2, .int .i64 z3, v], .bool true]) = .returned (.tuple #[cmdV (getCv (z0 :: z1 :: z2 :: z3 :: (ds.length : Int) :: ds)) v, .bool (getCB (z0 :: z1 :: z2 :: z3 :: (ds.length : Int) :: ds))]) := by
  have hB := getCB_put.trans h
  rw [getCv_of hB, hB]
  rfl
theorem own_cmd {z0 z1 z2 z3 : Int} {ds : List Int} (h : putB z0 z1 z2 z3 ds = true) : (getCv (z0 :: z1 :: z2 :: z3 :: (ds.length : Int) :: ds)).2.2.2.2 = ds := by rw [getCv_of (getCB_put.trans h)]
theorem ret_cwell {z0 z1 z2 z3 z4 : Int} {ds : List Int} {v : Value} (h : getCB (z0 :: z1 :: z2 :: z3 :: z4 :: ds) = true) : Ending.returned (.tuple #[.agg #[.int .i64 z0, .int .i64 z1, .int .i64 z2, .int .i64 z3, v], .bool true]) = .returned (.tuple #[cmdV (getCv (z0 :: z1 :: z2 :: z3 :: z4 :: ds)) v, .bool (getCB (z0 :: z1 :: z2 :: z3 :: z4 :: ds))]) := by
  rw [getCv_of h, h]
  rfl
theorem own_cwell {z0 z1 z2 z3 z4 : Int} {ds : List Int} (h : getCB (z0 :: z1 :: z2 :: z3 :: z4 :: ds) = true) : (getCv (z0 :: z1 :: z2 :: z3 :: z4 :: ds)).2.2.2.2 = ds := by rw [getCv_of h]

end Go.Proofs.Ytbkkjfgjlapadaa

/-
  Both GetCmd (the program's and the specification's) answer as the definitions here say. Condition: at most 1500000 words.
-/
import Derived.Test.YtplieehocceplaaWalkPutCmd
import Derived.Test.YtplieehocceplaaWalkCopyWords
import Derived.Test.YtplieehocceplaaWalkSame
namespace Go.Proofs.Ytplieehocceplaa
open Go.RowKit

def getCB : List Int → Bool
  | z0 :: z1 :: z2 :: z3 :: z4 :: ds => decide (z4 = (ds.length : Int)) && putB z0 z1 z2 z3 ds
  | _ => false
def getCv (zs : List Int) : Int × Int × Int × Int × List Int := if getCB zs = true then (zs.getD 0 0, zs.getD 1 0, zs.getD 2 0, zs.getD 3 0, zs.drop 5) else (0, 0, 0, 0, [])
theorem getCv_not {zs : List Int} (h : getCB zs = false) : getCv zs = (0, 0, 0, 0, []) := by unfold getCv; rw [if_neg (by simp [h])]
theorem getCv_of {z0 z1 z2 z3 z4 : Int} {ds : List Int} (h : getCB (z0 :: z1 :: z2 :: z3 :: z4 :: ds) = true) : getCv (z0 :: z1 :: z2 :: z3 :: z4 :: ds) = (z0, z1, z2, z3, ds) := by unfold getCv; rw [if_pos h]; rfl
theorem getCB_short {zs : List Int} (h : zs.length < 5) : getCB zs = false := by
  match zs, h with
  | [], _ => rfl
  | [_], _ => rfl
  | [_, _], _ => rfl
  | [_, _, _], _ => rfl
  | [_, _, _, _], _ => rfl
theorem getCB_many {z0 z1 z2 z3 z4 : Int} {ds : List Int} (h : ¬ z4 = (ds.length : Int)) : getCB (z0 :: z1 :: z2 :: z3 :: z4 :: ds) = false := by simp [getCB, h]
theorem getCB_put {z0 z1 z2 z3 : Int} {ds : List Int} : getCB (z0 :: z1 :: z2 :: z3 :: (ds.length : Int) :: ds) = putB z0 z1 z2 z3 ds := by simp [getCB]
/-- The program's way to ask: what is put of it is just so. -/
theorem getCB_same {z0 z1 z2 z3 z4 : Int} {ds : List Int} : decide (putC z0 z1 z2 z3 ds = z0 :: z1 :: z2 :: z3 :: z4 :: ds) = getCB (z0 :: z1 :: z2 :: z3 :: z4 :: ds) := by
  cases hp : putB z0 z1 z2 z3 ds
  · rw [putC_not hp]
    simp [getCB, hp]
  · rw [putC_of hp]
    by_cases h4 : z4 = (ds.length : Int)
    · subst h4
      simp [getCB, hp, putL]
    · have : ¬ (ds.length : Int) = z4 := fun h => h4 h.symm
      simp [getCB, h4, putL, this]
theorem five_of {zs : List Int} (h : 5 ≤ zs.length) : ∃ z0 z1 z2 z3 z4 ds, zs = z0 :: z1 :: z2 :: z3 :: z4 :: ds := by
  match zs, h with
  | z0 :: z1 :: z2 :: z3 :: z4 :: ds, _ => exact ⟨z0, z1, z2, z3, z4, ds, rfl⟩
theorem Reads.drop5 {w : World} {b off : Nat} {z0 z1 z2 z3 z4 : Int} {ds : List Int} (h : Reads .i64 w (some ⟨b, off, none⟩) (z0 :: z1 :: z2 :: z3 :: z4 :: ds)) : Reads .i64 w (some ⟨b, off + 5, none⟩) ds := by
  rcases h with h | ⟨b', off', ha, hlt, hc⟩
  · simp at h
  · simp at ha
    obtain ⟨rfl, rfl⟩ := ha
    refine .inr ⟨b, off + 5, rfl, hlt, fun i hi => ?_⟩
    have := hc (i + 5) (by simp; omega)
    rw [show off + 5 + i = off + (i + 5) by omega, this]
    rfl
/-- A block's five cells set. -/
def set5 (w : World) (B : Nat) (v0 v1 v2 v3 v4 : Value) : World := ((((w.setCell ⟨B, 0, none⟩ v0).setCell ⟨B, 1, none⟩ v1).setCell ⟨B, 2, none⟩ v2).setCell ⟨B, 3, none⟩ v3).setCell ⟨B, 4, none⟩ v4
theorem set5_but (w : World) (B : Nat) (v0 v1 v2 v3 v4 : Value) : But B (B + 1) w (set5 w B v0 v1 v2 v3 v4) := by
  unfold set5
  exact ((((But.setCell (by omega) (by omega) _).trans (But.setCell (by omega) (by omega) _)).trans (But.setCell (by omega) (by omega) _)).trans (But.setCell (by omega) (by omega) _)).trans (But.setCell (by omega) (by omega) _)
theorem set5_box {w : World} {B : Nat} {T : TypeId} {u0 u1 u2 u3 u4 : Value} (h : Box w B T #[u0, u1, u2, u3, u4]) (v0 v1 v2 v3 v4 : Value) : Box (set5 w B v0 v1 v2 v3 v4) B T #[v0, v1, v2, v3, v4] := ((((h.set 0 v0).set 1 v1).set 2 v2).set 3 v3).set 4 v4
def cmdV (c : Int × Int × Int × Int × List Int) (v : Value) : Value := .agg #[.int .i64 c.1, .int .i64 c.2.1, .int .i64 c.2.2.1, .int .i64 c.2.2.2.1, v]
theorem ret_cnone {zs : List Int} (h : getCB zs = false) : Ending.returned (.tuple #[.agg #[.int .i64 0, .int .i64 0, .int .i64 0, .int .i64 0, .slice none 0 0], .bool false]) = .returned (.tuple #[cmdV (getCv zs) (.slice none 0 0), .bool (getCB zs)]) := by rw [getCv_not h, h]; rfl
theorem own_cnone {zs : List Int} (h : getCB zs = false) (w : World) (lo hi : Nat) : tIntS.Own w lo hi [.slice none 0 0] (getCv zs).2.2.2.2 := by rw [getCv_not h]; exact nil_own _ _ _
theorem ret_cmd {z0 z1 z2 z3 : Int} {ds : List Int} {v : Value} (h : putB z0 z1 z2 z3 ds = true) : Ending.returned (.tuple #[.agg #[.int .i64 z0, .int .i64 z1, .int .i64 z2, .int .i64 z3, v], .bool true]) = .returned (.tuple #[cmdV (getCv (z0 :: z1 :: z2 :: z3 :: (ds.length : Int) :: ds)) v, .bool (getCB (z0 :: z1 :: z2 :: z3 :: (ds.length : Int) :: ds))]) := by
  have hB := getCB_put.trans h
  rw [getCv_of hB, hB]
  rfl
theorem own_cmd {z0 z1 z2 z3 : Int} {ds : List Int} (h : putB z0 z1 z2 z3 ds = true) : (getCv (z0 :: z1 :: z2 :: z3 :: (ds.length : Int) :: ds)).2.2.2.2 = ds := by rw [getCv_of (getCB_put.trans h)]
theorem ret_cwell {z0 z1 z2 z3 z4 : Int} {ds : List Int} {v : Value} (h : getCB (z0 :: z1 :: z2 :: z3 :: z4 :: ds) = true) : Ending.returned (.tuple #[.agg #[.int .i64 z0, .int .i64 z1, .int .i64 z2, .int .i64 z3, v], .bool true]) = .returned (.tuple #[cmdV (getCv (z0 :: z1 :: z2 :: z3 :: z4 :: ds)) v, .bool (getCB (z0 :: z1 :: z2 :: z3 :: z4 :: ds))]) := by
  rw [getCv_of h, h]
  rfl
theorem own_cwell {z0 z1 z2 z3 z4 : Int} {ds : List Int} (h : getCB (z0 :: z1 :: z2 :: z3 :: z4 :: ds) = true) : (getCv (z0 :: z1 :: z2 :: z3 :: z4 :: ds)).2.2.2.2 = ds := by rw [getCv_of h]

set_option maxRecDepth 20000 in
set_option maxHeartbeats 8000000 in
theorem specGetCmd_any (w : World) (a : Option Addr) (n cap : Nat) (zs : List Int) (h : tIntS.Rd w [.slice a n cap] zs) (hn : n ≤ 1500000) :
    Calls Try.prog 14 #[.slice a n cap] w fun e w' => ∃ a' l' c', e = .returned (.tuple #[cmdV (getCv zs) (.slice a' l' c'), .bool (getCB zs)]) ∧ tIntS.Own w' w.heap.size w'.heap.size [.slice a' l' c'] (getCv zs).2.2.2.2 ∧ Below w.heap.size w w' := by
  obtain ⟨hr, hl, hnc, hcm⟩ := ints_rd h
  have hA := new_below w (.cells #[.int .i64 0, .int .i64 0, .int .i64 0, .int .i64 0, .slice none 0 0] 26)
  have xr := Box.new w 26 #[.int .i64 0, .int .i64 0, .int .i64 0, .int .i64 0, .slice none 0 0]
  have zA : (w.alloc (.cells #[.int .i64 0, .int .i64 0, .int .i64 0, .int .i64 0, .slice none 0 0] 26)).heap.size = w.heap.size + 1 := by simp
  have ZA := hidden zA
  clear zA
  have XR := hidden xr
  clear h
  by_cases h4 : 5 ≤ n
  · obtain ⟨z0, z1, z2, z3, z4, ds, rfl⟩ := five_of (zs := zs) (by omega)
    have hl' : ds.length + 5 = n := by simpa using hl
    rcases hr.cases with hx | ⟨b, off, rfl, hb, hc⟩
    · simp at hx
    have q0 : (w.alloc (.cells #[.int .i64 0, .int .i64 0, .int .i64 0, .int .i64 0, .slice none 0 0] 26)).cell? ⟨b, off, none⟩ = some (.int .i64 z0) := (hA.cell (p := ⟨b, off, none⟩) hb).trans (hc 0 (by simp))
    have q1 : (w.alloc (.cells #[.int .i64 0, .int .i64 0, .int .i64 0, .int .i64 0, .slice none 0 0] 26)).cell? ⟨b, off + 1, none⟩ = some (.int .i64 z1) := (hA.cell (p := ⟨b, off + 1, none⟩) hb).trans (hc 1 (by simp))
    have q2 : (w.alloc (.cells #[.int .i64 0, .int .i64 0, .int .i64 0, .int .i64 0, .slice none 0 0] 26)).cell? ⟨b, off + 2, none⟩ = some (.int .i64 z2) := (hA.cell (p := ⟨b, off + 2, none⟩) hb).trans (hc 2 (by simp))
    have q3 : (w.alloc (.cells #[.int .i64 0, .int .i64 0, .int .i64 0, .int .i64 0, .slice none 0 0] 26)).cell? ⟨b, off + 3, none⟩ = some (.int .i64 z3) := (hA.cell (p := ⟨b, off + 3, none⟩) hb).trans (hc 3 (by simp))
    have q4 : (w.alloc (.cells #[.int .i64 0, .int .i64 0, .int .i64 0, .int .i64 0, .slice none 0 0] 26)).cell? ⟨b, off + 4, none⟩ = some (.int .i64 z4) := (hA.cell (p := ⟨b, off + 4, none⟩) hb).trans (hc 4 (by simp))
    have hw : IntKind.i64.wrap ((n : Int) - 5) = (ds.length : Int) := by rw [IntWalk.i64_in _ (by omega)]; omega
    clear hc
    by_cases h3 : z4 = (ds.length : Int)
    · subst h3
      by_cases hc4 : cap = 5
      · subst hc4
        have hds : ds = [] := List.eq_nil_of_length_eq_zero (by omega)
        subst hds
        obtain rfl : n = 5 := by simpa using hl'.symm
        have hrd : tIntS.Rd (w.alloc (.cells #[.int .i64 0, .int .i64 0, .int .i64 0, .int .i64 0, .slice none 0 0] 26)) [.slice (some ⟨b, off, none⟩) 0 0] [] := ints_rd_of (zs := []) (.inl rfl) (by simp) (by omega) (by simp)
        obtain ⟨i3, hi3, hx0, hx1, hx2⟩ := info_parts Try.info3
        go_enter Try.func14, Try.ntmps14
        go_wp2_with fail
        generalize w.alloc (.cells #[.int .i64 0, .int .i64 0, .int .i64 0, .int .i64 0, .slice none 0 0] 26) = W at hA xr q0 q1 q2 q3 q4 hrd ZA XR ⊢
        have BO0 := hidden hA
        have HRD := hidden hrd
        have Q0 := hidden q0
        have Q1 := hidden q1
        have Q2 := hidden q2
        have Q3 := hidden q3
        clear hA hrd q0 q1 q2 q3 q4 xr
        refine' with_key (G := _) (A := fun BO g w6 a5 c5 fp3 => Box w6 w.heap.size 26 #[.int .i64 0, .int .i64 0, .int .i64 0, .int .i64 0, .slice none 0 0] ∧ Box w6 BO 26 #[.int .i64 z0, .int .i64 z1, .int .i64 z2, .int .i64 z3, .slice a5 0 c5] ∧ tIntS.Mine w6 [.slice a5 0 c5] [] fp3 ∧ Below w.heap.size w w6 ∧ (w.heap.size + 1 ≤ BO ∧ BO < w6.heap.size ∧ ∀ b ∈ fp3, w.heap.size + 1 ≤ b ∧ b < w6.heap.size ∧ b ≠ BO)) ?mainpos (fun key => ?usepos)
        case usepos =>
          have sW : w.heap.size + 1 ≤ W.heap.size := by have := ZA.out; omega
          have hA := BO0.out
          have hrd := HRD.out
          have q0 := Q0.out
          have q1 := Q1.out
          have q2 := Q2.out
          have q3 := Q3.out
          have hgA : Box (W.alloc (.cells #[] 3)) W.heap.size 3 #[] := Box.new W 3 #[]
          have hgB : Box ((W.alloc (.cells #[] 3)).alloc (.cells #[.int .i64 0, .int .i64 0, .int .i64 0, .int .i64 0, .slice none 0 0] 26)) W.heap.size 3 #[] := hgA.alloc _
          have hgC : Box ((W.alloc (.cells #[.int .i64 0, .int .i64 0, .int .i64 0, .int .i64 0, .slice none 0 0] 26)).alloc (.cells #[] 3)) (W.heap.size + 1) 3 #[] := by
            have := Box.new (W.alloc (.cells #[.int .i64 0, .int .i64 0, .int .i64 0, .int .i64 0, .slice none 0 0] 26)) 3 #[]
            rw [show (W.alloc (.cells #[.int .i64 0, .int .i64 0, .int .i64 0, .int .i64 0, .slice none 0 0] 26)).heap.size = W.heap.size + 1 by simp] at this
            exact this
          have xoB : Box ((W.alloc (.cells #[] 3)).alloc (.cells #[.int .i64 0, .int .i64 0, .int .i64 0, .int .i64 0, .slice none 0 0] 26)) (W.heap.size + 1) 26 #[.int .i64 0, .int .i64 0, .int .i64 0, .int .i64 0, .slice none 0 0] := by
            have := Box.new (W.alloc (.cells #[] 3)) 26 #[.int .i64 0, .int .i64 0, .int .i64 0, .int .i64 0, .slice none 0 0]
            rw [show (W.alloc (.cells #[] 3)).heap.size = W.heap.size + 1 by simp] at this
            exact this
          have xoC : Box ((W.alloc (.cells #[.int .i64 0, .int .i64 0, .int .i64 0, .int .i64 0, .slice none 0 0] 26)).alloc (.cells #[] 3)) W.heap.size 26 #[.int .i64 0, .int .i64 0, .int .i64 0, .int .i64 0, .slice none 0 0] := (Box.new W _ _).alloc _
          have bA : Below w.heap.size w (W.alloc (.cells #[] 3)) := hA.alloc hA.size _
          have bZ : Below w.heap.size w (W.alloc (.cells #[.int .i64 0, .int .i64 0, .int .i64 0, .int .i64 0, .slice none 0 0] 26)) := hA.alloc hA.size _
          have bB : Below w.heap.size w ((W.alloc (.cells #[] 3)).alloc (.cells #[.int .i64 0, .int .i64 0, .int .i64 0, .int .i64 0, .slice none 0 0] 26)) := bA.alloc bA.size _
          have bC : Below w.heap.size w ((W.alloc (.cells #[.int .i64 0, .int .i64 0, .int .i64 0, .int .i64 0, .slice none 0 0] 26)).alloc (.cells #[] 3)) := bZ.alloc bZ.size _
          have ZAA : Hid ((W.alloc (.cells #[] 3)).heap.size = W.heap.size + 1) := by unfold Hid; simp
          have ZBB : Hid (((W.alloc (.cells #[] 3)).alloc (.cells #[.int .i64 0, .int .i64 0, .int .i64 0, .int .i64 0, .slice none 0 0] 26)).heap.size = W.heap.size + 2) := by unfold Hid; simp
          have ZCC : Hid (((W.alloc (.cells #[.int .i64 0, .int .i64 0, .int .i64 0, .int .i64 0, .slice none 0 0] 26)).alloc (.cells #[] 3)).heap.size = W.heap.size + 2) := by unfold Hid; simp
          have HGA : Hid ((W.alloc (.cells #[] 3)).drew.heap[W.heap.size]? = some (.cells #[] 3 (0, 0))) := hgA
          have RDA : Hid (tIntS.Rd (W.alloc (.cells #[] 3)).drew [.slice (some ⟨b, off, none⟩) 0 0] []) := (hrd.below ((Below.refl _ _).alloc (Nat.le_refl _) _)).drew
          have HGB : Hid (((W.alloc (.cells #[] 3)).alloc (.cells #[.int .i64 0, .int .i64 0, .int .i64 0, .int .i64 0, .slice none 0 0] 26)).drew.heap[W.heap.size]? = some (.cells #[] 3 (0, 0))) := hgB
          have RDB : Hid (tIntS.Rd ((W.alloc (.cells #[] 3)).alloc (.cells #[.int .i64 0, .int .i64 0, .int .i64 0, .int .i64 0, .slice none 0 0] 26)).drew [.slice (some ⟨b, off, none⟩) 0 0] []) := (hrd.below (((Below.refl _ _).alloc (Nat.le_refl _) _).alloc (by simp) _)).drew
          have HGC : Hid (((W.alloc (.cells #[.int .i64 0, .int .i64 0, .int .i64 0, .int .i64 0, .slice none 0 0] 26)).alloc (.cells #[] 3)).drew.heap[W.heap.size + 1]? = some (.cells #[] 3 (0, 0))) := hgC
          have RDC : Hid (tIntS.Rd ((W.alloc (.cells #[.int .i64 0, .int .i64 0, .int .i64 0, .int .i64 0, .slice none 0 0] 26)).alloc (.cells #[] 3)).drew [.slice (some ⟨b, off, none⟩) 0 0] []) := (hrd.below (((Below.refl _ _).alloc (Nat.le_refl _) _).alloc (by simp) _)).drew
          have hq0 : w.cell? ⟨b, off, none⟩ = some (.int .i64 z0) := (hA.cell (p := ⟨b, off, none⟩) hb).symm.trans q0
          have hq1 : w.cell? ⟨b, off + 1, none⟩ = some (.int .i64 z1) := (hA.cell (p := ⟨b, off + 1, none⟩) hb).symm.trans q1
          have hq2 : w.cell? ⟨b, off + 2, none⟩ = some (.int .i64 z2) := (hA.cell (p := ⟨b, off + 2, none⟩) hb).symm.trans q2
          have hq3 : w.cell? ⟨b, off + 3, none⟩ = some (.int .i64 z3) := (hA.cell (p := ⟨b, off + 3, none⟩) hb).symm.trans q3
          have hS : ∀ w', Below w.heap.size w w' → w'.cell? ⟨b, off, none⟩ = some (.int .i64 z0) ∧ w'.cell? ⟨b, off + 1, none⟩ = some (.int .i64 z1) ∧ w'.cell? ⟨b, off + 2, none⟩ = some (.int .i64 z2) ∧ w'.cell? ⟨b, off + 3, none⟩ = some (.int .i64 z3) := fun w' hb' => ⟨(hb'.cell (p := ⟨b, off, none⟩) hb).trans hq0, (hb'.cell (p := ⟨b, off + 1, none⟩) hb).trans hq1, (hb'.cell (p := ⟨b, off + 2, none⟩) hb).trans hq2, (hb'.cell (p := ⟨b, off + 3, none⟩) hb).trans hq3⟩
          have hD : ∀ w', Below w.heap.size w w' → w'.drew.cell? ⟨b, off, none⟩ = some (.int .i64 z0) ∧ w'.drew.cell? ⟨b, off + 1, none⟩ = some (.int .i64 z1) ∧ w'.drew.cell? ⟨b, off + 2, none⟩ = some (.int .i64 z2) ∧ w'.drew.cell? ⟨b, off + 3, none⟩ = some (.int .i64 z3) := hS
          have HQ := hidden hS
          have HD := hidden hD
          have BAH := hidden bA
          have BZH := hidden bZ
          have BBH := hidden bB
          have BCH := hidden bC
          have XOBH := hidden xoB
          have XOCH := hidden xoC
          clear hq0 hq1 hq2 hq3 hS hD bA bZ bB bC xoB xoC hgA hgB hgC hrd hA q0 q1 q2 q3
          go_region_held3 (fun w' => w'.cell? ⟨b, off, none⟩ = some (.int .i64 z0) ∧ w'.cell? ⟨b, off + 1, none⟩ = some (.int .i64 z1) ∧ w'.cell? ⟨b, off + 2, none⟩ = some (.int .i64 z2) ∧ w'.cell? ⟨b, off + 3, none⟩ = some (.int .i64 z3))
            (first | (with_reducible exact HQ.out _ B6.out) | (with_reducible exact HQ.out _ B5.out) | (with_reducible exact HQ.out _ (B5.out.alloc B5.out.size _)) | (with_reducible exact HD.out _ BO0.out) | (with_reducible exact HD.out _ BAH.out) | (with_reducible exact HD.out _ BZH.out) | (with_reducible exact HD.out _ BBH.out) | (with_reducible exact HD.out _ BCH.out) | go_keep)
            (first
              | (refine step_copy (by rfl) _ _ 24 (by rfl) i3 Try.underlying24 hi3 hx0 hx1 hx2 W.heap.size (by rfl) (by with_reducible exact HGA.out) (some ⟨b, off, none⟩) 0 0 [] (by rfl) (by with_reducible exact RDA.out) (by omega) ?_; intro a5 c5 w5 fp3 m3 r3 t3; have t3' : Turned [W.heap.size] (W.alloc (.cells #[] 3)) w5 := Turned.undrew t3; have b5 : Below w.heap.size w w5 := BAH.out.trans (t3'.below (N := w.heap.size) BAH.out.size (by simp; omega)); have XR5 := hidden ((XR.out.alloc (.cells #[] 3)).turned t3' (by simp; omega)); have T3 := hidden t3'; have M3 := hidden m3; have R3 := hidden r3; have B5 := hidden b5; clear t3 t3' m3 r3 b5)
              | (refine step_copy (by rfl) _ _ 24 (by rfl) i3 Try.underlying24 hi3 hx0 hx1 hx2 W.heap.size (by rfl) (by with_reducible exact HGB.out) (some ⟨b, off, none⟩) 0 0 [] (by rfl) (by with_reducible exact RDB.out) (by omega) ?_; intro a5 c5 w5 fp3 m3 r3 t3; have t3' : Turned [W.heap.size] ((W.alloc (.cells #[] 3)).alloc (.cells #[.int .i64 0, .int .i64 0, .int .i64 0, .int .i64 0, .slice none 0 0] 26)) w5 := Turned.undrew t3; have b5 : Below w.heap.size w w5 := BBH.out.trans (t3'.below (N := w.heap.size) BBH.out.size (by simp; omega)); have XR5 := hidden (((XR.out.alloc (.cells #[] 3)).alloc (.cells #[.int .i64 0, .int .i64 0, .int .i64 0, .int .i64 0, .slice none 0 0] 26)).turned t3' (by simp; omega)); have xo5 := XOBH.out.turned t3' (by simp); obtain ⟨s0, s1, s2, s3, s4⟩ := xo5.cells5; have u0 := xo5.frozen 0; have u1 := xo5.frozen 1; have u2 := xo5.frozen 2; have u3 := xo5.frozen 3; have u4 := xo5.frozen 4; have XO5 := hidden xo5; clear xo5; have b6 : Below w.heap.size w (set5 w5 (W.heap.size + 1) (.int .i64 z0) (.int .i64 z1) (.int .i64 z2) (.int .i64 z3) (.slice a5 0 c5)) := b5.trans ((set5_but _ _ _ _ _ _ _).below (by omega) b5.size); unfold set5 at b6; have B6 := hidden b6; clear b6; have T3 := hidden t3'; have M3 := hidden m3; have R3 := hidden r3; have B5 := hidden b5; clear t3 t3' m3 r3 b5)
              | (refine step_copy (by rfl) _ _ 24 (by rfl) i3 Try.underlying24 hi3 hx0 hx1 hx2 (W.heap.size + 1) (by rfl) (by with_reducible exact HGC.out) (some ⟨b, off, none⟩) 0 0 [] (by rfl) (by with_reducible exact RDC.out) (by omega) ?_; intro a5 c5 w5 fp3 m3 r3 t3; have t3' : Turned [W.heap.size + 1] ((W.alloc (.cells #[.int .i64 0, .int .i64 0, .int .i64 0, .int .i64 0, .slice none 0 0] 26)).alloc (.cells #[] 3)) w5 := Turned.undrew t3; have b5 : Below w.heap.size w w5 := BCH.out.trans (t3'.below (N := w.heap.size) BCH.out.size (by simp; omega)); have XR5 := hidden (((XR.out.alloc (.cells #[.int .i64 0, .int .i64 0, .int .i64 0, .int .i64 0, .slice none 0 0] 26)).alloc (.cells #[] 3)).turned t3' (by simp; omega)); have xo5 := XOCH.out.turned t3' (by simp); obtain ⟨s0, s1, s2, s3, s4⟩ := xo5.cells5; have u0 := xo5.frozen 0; have u1 := xo5.frozen 1; have u2 := xo5.frozen 2; have u3 := xo5.frozen 3; have u4 := xo5.frozen 4; have XO5 := hidden xo5; clear xo5; have b6 : Below w.heap.size w (set5 w5 (W.heap.size) (.int .i64 z0) (.int .i64 z1) (.int .i64 z2) (.int .i64 z3) (.slice a5 0 c5)) := b5.trans ((set5_but _ _ _ _ _ _ _).below (by omega) b5.size); unfold set5 at b6; have B6 := hidden b6; clear b6; have T3 := hidden t3'; have M3 := hidden m3; have R3 := hidden r3; have B5 := hidden b5; clear t3 t3' m3 r3 b5)
            )
          · have hT := T3.out
            have zA := ZAA.out
            have zT := hT.size
            have rr : ∀ b ∈ fp3, w.heap.size + 1 ≤ b ∧ b < w5.heap.size := fun b hb => by
              obtain ⟨h1, h2⟩ := R3.out b hb
              have h3 : (W.alloc (.cells #[] 3)).drew.heap.size = (W.alloc (.cells #[] 3)).heap.size := rfl
              omega
            have z6 : (w5.alloc (.cells #[.int .i64 z0, .int .i64 z1, .int .i64 z2, .int .i64 z3, .slice a5 0 c5] 26)).heap.size = w5.heap.size + 1 := by simp
            have FR := XR5.out.alloc (.cells #[.int .i64 z0, .int .i64 z1, .int .i64 z2, .int .i64 z3, .slice a5 0 c5] 26)
            have FO := Box.new w5 26 #[.int .i64 z0, .int .i64 z1, .int .i64 z2, .int .i64 z3, .slice a5 0 c5]
            have F3 := M3.out.alloc (.cells #[.int .i64 z0, .int .i64 z1, .int .i64 z2, .int .i64 z3, .slice a5 0 c5] 26)
            have FB := B5.out.alloc B5.out.size (.cells #[.int .i64 z0, .int .i64 z1, .int .i64 z2, .int .i64 z3, .slice a5 0 c5] 26)
            have FS : w.heap.size + 1 ≤ w5.heap.size ∧ w5.heap.size < (w5.alloc (.cells #[.int .i64 z0, .int .i64 z1, .int .i64 z2, .int .i64 z3, .slice a5 0 c5] 26)).heap.size ∧ ∀ b ∈ fp3, w.heap.size + 1 ≤ b ∧ b < (w5.alloc (.cells #[.int .i64 z0, .int .i64 z1, .int .i64 z2, .int .i64 z3, .slice a5 0 c5] 26)).heap.size ∧ b ≠ w5.heap.size := ⟨by omega, by omega, fun b hb => by have := rr b hb; omega⟩
            have ALL := hidden (And.intro FR (And.intro FO (And.intro F3 (And.intro FB FS))))
            clear FR FO F3 FB FS hT zA zT z6 rr
            generalize w5.alloc (.cells #[.int .i64 z0, .int .i64 z1, .int .i64 z2, .int .i64 z3, .slice a5 0 c5] 26) = w6 at ALL ⊢
            generalize w5.heap.size = BO at ALL ⊢
            generalize W.heap.size = g
            exact key.out BO g w6 a5 c5 fp3 ALL.out
          · have hT := T3.out
            have zA := ZBB.out
            have zT := hT.size
            have rr : ∀ b ∈ fp3, w.heap.size + 1 ≤ b ∧ b < w5.heap.size ∧ b ≠ W.heap.size + 1 := fun b hb => by
              obtain ⟨h1, h2⟩ := R3.out b hb
              have h3 : ((W.alloc (.cells #[] 3)).alloc (.cells #[.int .i64 0, .int .i64 0, .int .i64 0, .int .i64 0, .slice none 0 0] 26)).drew.heap.size = ((W.alloc (.cells #[] 3)).alloc (.cells #[.int .i64 0, .int .i64 0, .int .i64 0, .int .i64 0, .slice none 0 0] 26)).heap.size := rfl
              omega
            have hbt := set5_but w5 (W.heap.size + 1) (.int .i64 z0) (.int .i64 z1) (.int .i64 z2) (.int .i64 z3) (.slice a5 0 c5)
            have FO := set5_box XO5.out (.int .i64 z0) (.int .i64 z1) (.int .i64 z2) (.int .i64 z3) (.slice a5 0 c5)
            have zO := XO5.out.lt
            unfold set5 at hbt FO
            have z6 := hbt.size
            have FR := XR5.out.kept (hbt.block _ (by omega) (by omega))
            have F3 := M3.out.but hbt (fun b hb => by have := rr b hb; omega)
            have FB := B6.out
            have FS : w.heap.size + 1 ≤ W.heap.size + 1 ∧ W.heap.size + 1 < (((((w5.setCell ⟨W.heap.size + 1, 0, none⟩ (.int .i64 z0)).setCell ⟨W.heap.size + 1, 1, none⟩ (.int .i64 z1)).setCell ⟨W.heap.size + 1, 2, none⟩ (.int .i64 z2)).setCell ⟨W.heap.size + 1, 3, none⟩ (.int .i64 z3)).setCell ⟨W.heap.size + 1, 4, none⟩ (.slice a5 0 c5)).heap.size ∧ ∀ b ∈ fp3, w.heap.size + 1 ≤ b ∧ b < (((((w5.setCell ⟨W.heap.size + 1, 0, none⟩ (.int .i64 z0)).setCell ⟨W.heap.size + 1, 1, none⟩ (.int .i64 z1)).setCell ⟨W.heap.size + 1, 2, none⟩ (.int .i64 z2)).setCell ⟨W.heap.size + 1, 3, none⟩ (.int .i64 z3)).setCell ⟨W.heap.size + 1, 4, none⟩ (.slice a5 0 c5)).heap.size ∧ b ≠ W.heap.size + 1 := ⟨by omega, by omega, fun b hb => by have := rr b hb; omega⟩
            have ALL := hidden (And.intro FR (And.intro FO (And.intro F3 (And.intro FB FS))))
            clear FR FO F3 FB FS hT zA zT z6 rr hbt zO
            generalize ((((w5.setCell ⟨W.heap.size + 1, 0, none⟩ (.int .i64 z0)).setCell ⟨W.heap.size + 1, 1, none⟩ (.int .i64 z1)).setCell ⟨W.heap.size + 1, 2, none⟩ (.int .i64 z2)).setCell ⟨W.heap.size + 1, 3, none⟩ (.int .i64 z3)).setCell ⟨W.heap.size + 1, 4, none⟩ (.slice a5 0 c5) = w6 at ALL ⊢
            generalize W.heap.size + 1 = BO at ALL ⊢
            generalize W.heap.size = g
            exact key.out BO g w6 a5 c5 fp3 ALL.out
          · have hT := T3.out
            have zA := ZCC.out
            have zT := hT.size
            have rr : ∀ b ∈ fp3, w.heap.size + 1 ≤ b ∧ b < w5.heap.size ∧ b ≠ W.heap.size := fun b hb => by
              obtain ⟨h1, h2⟩ := R3.out b hb
              have h3 : ((W.alloc (.cells #[.int .i64 0, .int .i64 0, .int .i64 0, .int .i64 0, .slice none 0 0] 26)).alloc (.cells #[] 3)).drew.heap.size = ((W.alloc (.cells #[.int .i64 0, .int .i64 0, .int .i64 0, .int .i64 0, .slice none 0 0] 26)).alloc (.cells #[] 3)).heap.size := rfl
              omega
            have hbt := set5_but w5 (W.heap.size) (.int .i64 z0) (.int .i64 z1) (.int .i64 z2) (.int .i64 z3) (.slice a5 0 c5)
            have FO := set5_box XO5.out (.int .i64 z0) (.int .i64 z1) (.int .i64 z2) (.int .i64 z3) (.slice a5 0 c5)
            have zO := XO5.out.lt
            unfold set5 at hbt FO
            have z6 := hbt.size
            have FR := XR5.out.kept (hbt.block _ (by omega) (by omega))
            have F3 := M3.out.but hbt (fun b hb => by have := rr b hb; omega)
            have FB := B6.out
            have FS : w.heap.size + 1 ≤ W.heap.size ∧ W.heap.size < (((((w5.setCell ⟨W.heap.size, 0, none⟩ (.int .i64 z0)).setCell ⟨W.heap.size, 1, none⟩ (.int .i64 z1)).setCell ⟨W.heap.size, 2, none⟩ (.int .i64 z2)).setCell ⟨W.heap.size, 3, none⟩ (.int .i64 z3)).setCell ⟨W.heap.size, 4, none⟩ (.slice a5 0 c5)).heap.size ∧ ∀ b ∈ fp3, w.heap.size + 1 ≤ b ∧ b < (((((w5.setCell ⟨W.heap.size, 0, none⟩ (.int .i64 z0)).setCell ⟨W.heap.size, 1, none⟩ (.int .i64 z1)).setCell ⟨W.heap.size, 2, none⟩ (.int .i64 z2)).setCell ⟨W.heap.size, 3, none⟩ (.int .i64 z3)).setCell ⟨W.heap.size, 4, none⟩ (.slice a5 0 c5)).heap.size ∧ b ≠ W.heap.size := ⟨by omega, by omega, fun b hb => by have := rr b hb; omega⟩
            have ALL := hidden (And.intro FR (And.intro FO (And.intro F3 (And.intro FB FS))))
            clear FR FO F3 FB FS hT zA zT z6 rr hbt zO
            generalize ((((w5.setCell ⟨W.heap.size, 0, none⟩ (.int .i64 z0)).setCell ⟨W.heap.size, 1, none⟩ (.int .i64 z1)).setCell ⟨W.heap.size, 2, none⟩ (.int .i64 z2)).setCell ⟨W.heap.size, 3, none⟩ (.int .i64 z3)).setCell ⟨W.heap.size, 4, none⟩ (.slice a5 0 c5) = w6 at ALL ⊢
            generalize W.heap.size + 1 = g
            generalize W.heap.size = BO at ALL ⊢
            exact key.out BO g w6 a5 c5 fp3 ALL.out
        case mainpos =>
          rintro BO g w6 a5 c5 fp3 ⟨fr0, fo, f3, fb, fs⟩
          have FR := hidden fr0
          have F3 := hidden f3
          have FB := hidden fb
          have FO := hidden fo
          obtain ⟨fs1, fs2, fs3⟩ := fs
          have FS3 := hidden fs3
          clear fr0 f3 fb fs3
          obtain ⟨y0, y1, y2, y3, y4⟩ := fo.cells5
          clear fo
          go_wp2_with fail
          refine (specPutCmd_any _ z0 z1 z2 z3 _ _ _ [] F3.out.rd (by omega)).mono ?_
          rintro e w7 ⟨a7, l7, c7, rfl, o7, b7⟩
          have R7 := FR.out.below b7 (by omega)
          have O7 := FO.out.below b7 (by omega)
          have M7 := hidden (F3.out.below b7)
          have B7 := hidden (FB.out.trans (b7.mono FB.out.size))
          have z7 := b7.size
          obtain ⟨_, hl7, _, _⟩ := ints_rd o7.rd
          clear y0 y1 y2 y3 y4 b7 o7
          obtain ⟨p0, p1, p2, p3, p4⟩ := R7.cells5
          obtain ⟨y0, y1, y2, y3, y4⟩ := O7.cells5
          have fz := R7.frozen
          by_cases hput : putB z0 z1 z2 z3 [] = true
          · have HRET := hidden (ret_cmd (v := .slice a5 0 c5) hput)
            have HOWN := hidden (own_cmd hput)
            rw [putC_of hput, putL_len] at hl7
            have hl0 : ¬ (l7 : Int) = 0 := by omega
            have hl1 : ((l7 : Int) == 0) = false := by simpa using hl0
            clear hl7
            have hbt := set5_but w7 w.heap.size (.int .i64 z0) (.int .i64 z1) (.int .i64 z2) (.int .i64 z3) (.slice a5 0 c5)
            have FBB := hidden (B7.out.trans (hbt.below (B := w.heap.size) (Nat.le_refl _) B7.out.size))
            have FM := hidden ((M7.out.but hbt (fun b hb => by have := FS3.out b hb; omega)).own (lo := w.heap.size) (hi := (set5 w7 w.heap.size (.int .i64 z0) (.int .i64 z1) (.int .i64 z2) (.int .i64 z3) (.slice a5 0 c5)).heap.size) (fun b hb => by have := FS3.out b hb; have := hbt.size; omega))
            unfold set5 at FBB FM
            clear hbt M7 B7
            go_wp2
            refine bodyPost_ret (v := .tuple #[.agg #[.int .i64 z0, .int .i64 z1, .int .i64 z2, .int .i64 z3, .slice a5 0 c5], .bool true]) (by simp [results, Try.results14, go_sem, p0, p1, p2, p3, p4]) rfl ?_
            refine ⟨_, _, _, HRET.out, ?_, FBB.out⟩
            first | (rw [HOWN.out]; exact FM.out) | (have hh := HOWN.out; simp only [List.length_nil] at hh; rw [hh]; exact FM.out)
          · have hput' : putB z0 z1 z2 z3 [] = false := by simpa using hput
            rw [putC_not hput'] at hl7
            obtain rfl : l7 = 0 := by simpa using hl7.symm
            clear hl7
            have hB : getCB (z0 :: z1 :: z2 :: z3 :: (([] : List Int).length : Int) :: []) = false := getCB_put.trans hput'
            have HRET := hidden (ret_cnone hB)
            have HOWN := hidden (own_cnone hB)
            have hbt := set5_but w7 w.heap.size (.int .i64 0) (.int .i64 0) (.int .i64 0) (.int .i64 0) (.slice none 0 0)
            have FBB := hidden (B7.out.trans (hbt.below (B := w.heap.size) (Nat.le_refl _) B7.out.size))
            unfold set5 at FBB
            clear hbt M7 B7 hB
            go_wp2
            refine bodyPost_ret (v := .tuple #[.agg #[.int .i64 0, .int .i64 0, .int .i64 0, .int .i64 0, .slice none 0 0], .bool false]) (by simp [results, Try.results14, go_sem, p0, p1, p2, p3, p4]) rfl ?_
            exact ⟨_, _, _, HRET.out, HOWN.out _ _ _, FBB.out⟩
      · skip
        have hln : n - 5 = ds.length := by omega
        have ii0 : (0 : Int) < (n : Int) := by omega
        have ii1 : (1 : Int) < (n : Int) := by omega
        have ii2 : (2 : Int) < (n : Int) := by omega
        have ii3 : (3 : Int) < (n : Int) := by omega
        have ii4 : (4 : Int) < (n : Int) := by omega
        have jj0 : 0 < n := by omega
        have ii5 : (5 : Int) ≤ (n : Int) := by omega
        have ii6 : (n : Int) ≤ (cap : Int) := by omega
        have ii7 : (5 : Int) ≤ (cap : Int) := by omega
        have ii8 : 5 ≤ cap := by omega
        have hrd : tIntS.Rd (w.alloc (.cells #[.int .i64 0, .int .i64 0, .int .i64 0, .int .i64 0, .slice none 0 0] 26)) [.slice (some ⟨b, off + 5, none⟩) ds.length (cap - 5)] ds := ints_rd_of (hr.below hA).drop5 (by omega) (by omega) (by simp)
        obtain ⟨i3, hi3, hx0, hx1, hx2⟩ := info_parts Try.info3
        go_enter Try.func14, Try.ntmps14
        go_wp2_with fail
        generalize w.alloc (.cells #[.int .i64 0, .int .i64 0, .int .i64 0, .int .i64 0, .slice none 0 0] 26) = W at hA xr q0 q1 q2 q3 q4 hrd ZA XR ⊢
        have BO0 := hidden hA
        have HRD := hidden hrd
        have Q0 := hidden q0
        have Q1 := hidden q1
        have Q2 := hidden q2
        have Q3 := hidden q3
        clear hA hrd q0 q1 q2 q3 q4 xr
        refine' with_key (G := _) (A := fun BO g w6 a5 c5 fp3 => Box w6 w.heap.size 26 #[.int .i64 0, .int .i64 0, .int .i64 0, .int .i64 0, .slice none 0 0] ∧ Box w6 BO 26 #[.int .i64 z0, .int .i64 z1, .int .i64 z2, .int .i64 z3, .slice a5 ds.length c5] ∧ tIntS.Mine w6 [.slice a5 ds.length c5] ds fp3 ∧ Below w.heap.size w w6 ∧ (w.heap.size + 1 ≤ BO ∧ BO < w6.heap.size ∧ ∀ b ∈ fp3, w.heap.size + 1 ≤ b ∧ b < w6.heap.size ∧ b ≠ BO)) ?mainneg (fun key => ?useneg)
        case useneg =>
          have sW : w.heap.size + 1 ≤ W.heap.size := by have := ZA.out; omega
          have hA := BO0.out
          have hrd := HRD.out
          have q0 := Q0.out
          have q1 := Q1.out
          have q2 := Q2.out
          have q3 := Q3.out
          have hgA : Box (W.alloc (.cells #[] 3)) W.heap.size 3 #[] := Box.new W 3 #[]
          have hgB : Box ((W.alloc (.cells #[] 3)).alloc (.cells #[.int .i64 0, .int .i64 0, .int .i64 0, .int .i64 0, .slice none 0 0] 26)) W.heap.size 3 #[] := hgA.alloc _
          have hgC : Box ((W.alloc (.cells #[.int .i64 0, .int .i64 0, .int .i64 0, .int .i64 0, .slice none 0 0] 26)).alloc (.cells #[] 3)) (W.heap.size + 1) 3 #[] := by
            have := Box.new (W.alloc (.cells #[.int .i64 0, .int .i64 0, .int .i64 0, .int .i64 0, .slice none 0 0] 26)) 3 #[]
            rw [show (W.alloc (.cells #[.int .i64 0, .int .i64 0, .int .i64 0, .int .i64 0, .slice none 0 0] 26)).heap.size = W.heap.size + 1 by simp] at this
            exact this
          have xoB : Box ((W.alloc (.cells #[] 3)).alloc (.cells #[.int .i64 0, .int .i64 0, .int .i64 0, .int .i64 0, .slice none 0 0] 26)) (W.heap.size + 1) 26 #[.int .i64 0, .int .i64 0, .int .i64 0, .int .i64 0, .slice none 0 0] := by
            have := Box.new (W.alloc (.cells #[] 3)) 26 #[.int .i64 0, .int .i64 0, .int .i64 0, .int .i64 0, .slice none 0 0]
            rw [show (W.alloc (.cells #[] 3)).heap.size = W.heap.size + 1 by simp] at this
            exact this
          have xoC : Box ((W.alloc (.cells #[.int .i64 0, .int .i64 0, .int .i64 0, .int .i64 0, .slice none 0 0] 26)).alloc (.cells #[] 3)) W.heap.size 26 #[.int .i64 0, .int .i64 0, .int .i64 0, .int .i64 0, .slice none 0 0] := (Box.new W _ _).alloc _
          have bA : Below w.heap.size w (W.alloc (.cells #[] 3)) := hA.alloc hA.size _
          have bZ : Below w.heap.size w (W.alloc (.cells #[.int .i64 0, .int .i64 0, .int .i64 0, .int .i64 0, .slice none 0 0] 26)) := hA.alloc hA.size _
          have bB : Below w.heap.size w ((W.alloc (.cells #[] 3)).alloc (.cells #[.int .i64 0, .int .i64 0, .int .i64 0, .int .i64 0, .slice none 0 0] 26)) := bA.alloc bA.size _
          have bC : Below w.heap.size w ((W.alloc (.cells #[.int .i64 0, .int .i64 0, .int .i64 0, .int .i64 0, .slice none 0 0] 26)).alloc (.cells #[] 3)) := bZ.alloc bZ.size _
          have ZAA : Hid ((W.alloc (.cells #[] 3)).heap.size = W.heap.size + 1) := by unfold Hid; simp
          have ZBB : Hid (((W.alloc (.cells #[] 3)).alloc (.cells #[.int .i64 0, .int .i64 0, .int .i64 0, .int .i64 0, .slice none 0 0] 26)).heap.size = W.heap.size + 2) := by unfold Hid; simp
          have ZCC : Hid (((W.alloc (.cells #[.int .i64 0, .int .i64 0, .int .i64 0, .int .i64 0, .slice none 0 0] 26)).alloc (.cells #[] 3)).heap.size = W.heap.size + 2) := by unfold Hid; simp
          have HGA : Hid ((W.alloc (.cells #[] 3)).drew.heap[W.heap.size]? = some (.cells #[] 3 (0, 0))) := hgA
          have RDA : Hid (tIntS.Rd (W.alloc (.cells #[] 3)).drew [.slice (some ⟨b, off + 5, none⟩) ds.length (cap - 5)] ds) := (hrd.below ((Below.refl _ _).alloc (Nat.le_refl _) _)).drew
          have HGB : Hid (((W.alloc (.cells #[] 3)).alloc (.cells #[.int .i64 0, .int .i64 0, .int .i64 0, .int .i64 0, .slice none 0 0] 26)).drew.heap[W.heap.size]? = some (.cells #[] 3 (0, 0))) := hgB
          have RDB : Hid (tIntS.Rd ((W.alloc (.cells #[] 3)).alloc (.cells #[.int .i64 0, .int .i64 0, .int .i64 0, .int .i64 0, .slice none 0 0] 26)).drew [.slice (some ⟨b, off + 5, none⟩) ds.length (cap - 5)] ds) := (hrd.below (((Below.refl _ _).alloc (Nat.le_refl _) _).alloc (by simp) _)).drew
          have HGC : Hid (((W.alloc (.cells #[.int .i64 0, .int .i64 0, .int .i64 0, .int .i64 0, .slice none 0 0] 26)).alloc (.cells #[] 3)).drew.heap[W.heap.size + 1]? = some (.cells #[] 3 (0, 0))) := hgC
          have RDC : Hid (tIntS.Rd ((W.alloc (.cells #[.int .i64 0, .int .i64 0, .int .i64 0, .int .i64 0, .slice none 0 0] 26)).alloc (.cells #[] 3)).drew [.slice (some ⟨b, off + 5, none⟩) ds.length (cap - 5)] ds) := (hrd.below (((Below.refl _ _).alloc (Nat.le_refl _) _).alloc (by simp) _)).drew
          have hq0 : w.cell? ⟨b, off, none⟩ = some (.int .i64 z0) := (hA.cell (p := ⟨b, off, none⟩) hb).symm.trans q0
          have hq1 : w.cell? ⟨b, off + 1, none⟩ = some (.int .i64 z1) := (hA.cell (p := ⟨b, off + 1, none⟩) hb).symm.trans q1
          have hq2 : w.cell? ⟨b, off + 2, none⟩ = some (.int .i64 z2) := (hA.cell (p := ⟨b, off + 2, none⟩) hb).symm.trans q2
          have hq3 : w.cell? ⟨b, off + 3, none⟩ = some (.int .i64 z3) := (hA.cell (p := ⟨b, off + 3, none⟩) hb).symm.trans q3
          have hS : ∀ w', Below w.heap.size w w' → w'.cell? ⟨b, off, none⟩ = some (.int .i64 z0) ∧ w'.cell? ⟨b, off + 1, none⟩ = some (.int .i64 z1) ∧ w'.cell? ⟨b, off + 2, none⟩ = some (.int .i64 z2) ∧ w'.cell? ⟨b, off + 3, none⟩ = some (.int .i64 z3) := fun w' hb' => ⟨(hb'.cell (p := ⟨b, off, none⟩) hb).trans hq0, (hb'.cell (p := ⟨b, off + 1, none⟩) hb).trans hq1, (hb'.cell (p := ⟨b, off + 2, none⟩) hb).trans hq2, (hb'.cell (p := ⟨b, off + 3, none⟩) hb).trans hq3⟩
          have hD : ∀ w', Below w.heap.size w w' → w'.drew.cell? ⟨b, off, none⟩ = some (.int .i64 z0) ∧ w'.drew.cell? ⟨b, off + 1, none⟩ = some (.int .i64 z1) ∧ w'.drew.cell? ⟨b, off + 2, none⟩ = some (.int .i64 z2) ∧ w'.drew.cell? ⟨b, off + 3, none⟩ = some (.int .i64 z3) := hS
          have HQ := hidden hS
          have HD := hidden hD
          have BAH := hidden bA
          have BZH := hidden bZ
          have BBH := hidden bB
          have BCH := hidden bC
          have XOBH := hidden xoB
          have XOCH := hidden xoC
          clear hq0 hq1 hq2 hq3 hS hD bA bZ bB bC xoB xoC hgA hgB hgC hrd hA q0 q1 q2 q3
          go_region_held3 (fun w' => w'.cell? ⟨b, off, none⟩ = some (.int .i64 z0) ∧ w'.cell? ⟨b, off + 1, none⟩ = some (.int .i64 z1) ∧ w'.cell? ⟨b, off + 2, none⟩ = some (.int .i64 z2) ∧ w'.cell? ⟨b, off + 3, none⟩ = some (.int .i64 z3))
            (first | (with_reducible exact HQ.out _ B6.out) | (with_reducible exact HQ.out _ B5.out) | (with_reducible exact HQ.out _ (B5.out.alloc B5.out.size _)) | (with_reducible exact HD.out _ BO0.out) | (with_reducible exact HD.out _ BAH.out) | (with_reducible exact HD.out _ BZH.out) | (with_reducible exact HD.out _ BBH.out) | (with_reducible exact HD.out _ BCH.out) | go_keep)
            (first
              | (refine step_copy (by rfl) _ _ 24 (by rfl) i3 Try.underlying24 hi3 hx0 hx1 hx2 W.heap.size (by rfl) (by with_reducible exact HGA.out) (some ⟨b, off + 5, none⟩) ds.length (cap - 5) ds (by rfl) (by with_reducible exact RDA.out) (by omega) ?_; intro a5 c5 w5 fp3 m3 r3 t3; have t3' : Turned [W.heap.size] (W.alloc (.cells #[] 3)) w5 := Turned.undrew t3; have b5 : Below w.heap.size w w5 := BAH.out.trans (t3'.below (N := w.heap.size) BAH.out.size (by simp; omega)); have XR5 := hidden ((XR.out.alloc (.cells #[] 3)).turned t3' (by simp; omega)); have T3 := hidden t3'; have M3 := hidden m3; have R3 := hidden r3; have B5 := hidden b5; clear t3 t3' m3 r3 b5)
              | (refine step_copy (by rfl) _ _ 24 (by rfl) i3 Try.underlying24 hi3 hx0 hx1 hx2 W.heap.size (by rfl) (by with_reducible exact HGB.out) (some ⟨b, off + 5, none⟩) ds.length (cap - 5) ds (by rfl) (by with_reducible exact RDB.out) (by omega) ?_; intro a5 c5 w5 fp3 m3 r3 t3; have t3' : Turned [W.heap.size] ((W.alloc (.cells #[] 3)).alloc (.cells #[.int .i64 0, .int .i64 0, .int .i64 0, .int .i64 0, .slice none 0 0] 26)) w5 := Turned.undrew t3; have b5 : Below w.heap.size w w5 := BBH.out.trans (t3'.below (N := w.heap.size) BBH.out.size (by simp; omega)); have XR5 := hidden (((XR.out.alloc (.cells #[] 3)).alloc (.cells #[.int .i64 0, .int .i64 0, .int .i64 0, .int .i64 0, .slice none 0 0] 26)).turned t3' (by simp; omega)); have xo5 := XOBH.out.turned t3' (by simp); obtain ⟨s0, s1, s2, s3, s4⟩ := xo5.cells5; have u0 := xo5.frozen 0; have u1 := xo5.frozen 1; have u2 := xo5.frozen 2; have u3 := xo5.frozen 3; have u4 := xo5.frozen 4; have XO5 := hidden xo5; clear xo5; have b6 : Below w.heap.size w (set5 w5 (W.heap.size + 1) (.int .i64 z0) (.int .i64 z1) (.int .i64 z2) (.int .i64 z3) (.slice a5 ds.length c5)) := b5.trans ((set5_but _ _ _ _ _ _ _).below (by omega) b5.size); unfold set5 at b6; have B6 := hidden b6; clear b6; have T3 := hidden t3'; have M3 := hidden m3; have R3 := hidden r3; have B5 := hidden b5; clear t3 t3' m3 r3 b5)
              | (refine step_copy (by rfl) _ _ 24 (by rfl) i3 Try.underlying24 hi3 hx0 hx1 hx2 (W.heap.size + 1) (by rfl) (by with_reducible exact HGC.out) (some ⟨b, off + 5, none⟩) ds.length (cap - 5) ds (by rfl) (by with_reducible exact RDC.out) (by omega) ?_; intro a5 c5 w5 fp3 m3 r3 t3; have t3' : Turned [W.heap.size + 1] ((W.alloc (.cells #[.int .i64 0, .int .i64 0, .int .i64 0, .int .i64 0, .slice none 0 0] 26)).alloc (.cells #[] 3)) w5 := Turned.undrew t3; have b5 : Below w.heap.size w w5 := BCH.out.trans (t3'.below (N := w.heap.size) BCH.out.size (by simp; omega)); have XR5 := hidden (((XR.out.alloc (.cells #[.int .i64 0, .int .i64 0, .int .i64 0, .int .i64 0, .slice none 0 0] 26)).alloc (.cells #[] 3)).turned t3' (by simp; omega)); have xo5 := XOCH.out.turned t3' (by simp); obtain ⟨s0, s1, s2, s3, s4⟩ := xo5.cells5; have u0 := xo5.frozen 0; have u1 := xo5.frozen 1; have u2 := xo5.frozen 2; have u3 := xo5.frozen 3; have u4 := xo5.frozen 4; have XO5 := hidden xo5; clear xo5; have b6 : Below w.heap.size w (set5 w5 (W.heap.size) (.int .i64 z0) (.int .i64 z1) (.int .i64 z2) (.int .i64 z3) (.slice a5 ds.length c5)) := b5.trans ((set5_but _ _ _ _ _ _ _).below (by omega) b5.size); unfold set5 at b6; have B6 := hidden b6; clear b6; have T3 := hidden t3'; have M3 := hidden m3; have R3 := hidden r3; have B5 := hidden b5; clear t3 t3' m3 r3 b5)
            )
          · have hT := T3.out
            have zA := ZAA.out
            have zT := hT.size
            have rr : ∀ b ∈ fp3, w.heap.size + 1 ≤ b ∧ b < w5.heap.size := fun b hb => by
              obtain ⟨h1, h2⟩ := R3.out b hb
              have h3 : (W.alloc (.cells #[] 3)).drew.heap.size = (W.alloc (.cells #[] 3)).heap.size := rfl
              omega
            have z6 : (w5.alloc (.cells #[.int .i64 z0, .int .i64 z1, .int .i64 z2, .int .i64 z3, .slice a5 ds.length c5] 26)).heap.size = w5.heap.size + 1 := by simp
            have FR := XR5.out.alloc (.cells #[.int .i64 z0, .int .i64 z1, .int .i64 z2, .int .i64 z3, .slice a5 ds.length c5] 26)
            have FO := Box.new w5 26 #[.int .i64 z0, .int .i64 z1, .int .i64 z2, .int .i64 z3, .slice a5 ds.length c5]
            have F3 := M3.out.alloc (.cells #[.int .i64 z0, .int .i64 z1, .int .i64 z2, .int .i64 z3, .slice a5 ds.length c5] 26)
            have FB := B5.out.alloc B5.out.size (.cells #[.int .i64 z0, .int .i64 z1, .int .i64 z2, .int .i64 z3, .slice a5 ds.length c5] 26)
            have FS : w.heap.size + 1 ≤ w5.heap.size ∧ w5.heap.size < (w5.alloc (.cells #[.int .i64 z0, .int .i64 z1, .int .i64 z2, .int .i64 z3, .slice a5 ds.length c5] 26)).heap.size ∧ ∀ b ∈ fp3, w.heap.size + 1 ≤ b ∧ b < (w5.alloc (.cells #[.int .i64 z0, .int .i64 z1, .int .i64 z2, .int .i64 z3, .slice a5 ds.length c5] 26)).heap.size ∧ b ≠ w5.heap.size := ⟨by omega, by omega, fun b hb => by have := rr b hb; omega⟩
            have ALL := hidden (And.intro FR (And.intro FO (And.intro F3 (And.intro FB FS))))
            clear FR FO F3 FB FS hT zA zT z6 rr
            generalize w5.alloc (.cells #[.int .i64 z0, .int .i64 z1, .int .i64 z2, .int .i64 z3, .slice a5 ds.length c5] 26) = w6 at ALL ⊢
            generalize w5.heap.size = BO at ALL ⊢
            generalize W.heap.size = g
            exact key.out BO g w6 a5 c5 fp3 ALL.out
          · have hT := T3.out
            have zA := ZBB.out
            have zT := hT.size
            have rr : ∀ b ∈ fp3, w.heap.size + 1 ≤ b ∧ b < w5.heap.size ∧ b ≠ W.heap.size + 1 := fun b hb => by
              obtain ⟨h1, h2⟩ := R3.out b hb
              have h3 : ((W.alloc (.cells #[] 3)).alloc (.cells #[.int .i64 0, .int .i64 0, .int .i64 0, .int .i64 0, .slice none 0 0] 26)).drew.heap.size = ((W.alloc (.cells #[] 3)).alloc (.cells #[.int .i64 0, .int .i64 0, .int .i64 0, .int .i64 0, .slice none 0 0] 26)).heap.size := rfl
              omega
            have hbt := set5_but w5 (W.heap.size + 1) (.int .i64 z0) (.int .i64 z1) (.int .i64 z2) (.int .i64 z3) (.slice a5 ds.length c5)
            have FO := set5_box XO5.out (.int .i64 z0) (.int .i64 z1) (.int .i64 z2) (.int .i64 z3) (.slice a5 ds.length c5)
            have zO := XO5.out.lt
            unfold set5 at hbt FO
            have z6 := hbt.size
            have FR := XR5.out.kept (hbt.block _ (by omega) (by omega))
            have F3 := M3.out.but hbt (fun b hb => by have := rr b hb; omega)
            have FB := B6.out
            have FS : w.heap.size + 1 ≤ W.heap.size + 1 ∧ W.heap.size + 1 < (((((w5.setCell ⟨W.heap.size + 1, 0, none⟩ (.int .i64 z0)).setCell ⟨W.heap.size + 1, 1, none⟩ (.int .i64 z1)).setCell ⟨W.heap.size + 1, 2, none⟩ (.int .i64 z2)).setCell ⟨W.heap.size + 1, 3, none⟩ (.int .i64 z3)).setCell ⟨W.heap.size + 1, 4, none⟩ (.slice a5 ds.length c5)).heap.size ∧ ∀ b ∈ fp3, w.heap.size + 1 ≤ b ∧ b < (((((w5.setCell ⟨W.heap.size + 1, 0, none⟩ (.int .i64 z0)).setCell ⟨W.heap.size + 1, 1, none⟩ (.int .i64 z1)).setCell ⟨W.heap.size + 1, 2, none⟩ (.int .i64 z2)).setCell ⟨W.heap.size + 1, 3, none⟩ (.int .i64 z3)).setCell ⟨W.heap.size + 1, 4, none⟩ (.slice a5 ds.length c5)).heap.size ∧ b ≠ W.heap.size + 1 := ⟨by omega, by omega, fun b hb => by have := rr b hb; omega⟩
            have ALL := hidden (And.intro FR (And.intro FO (And.intro F3 (And.intro FB FS))))
            clear FR FO F3 FB FS hT zA zT z6 rr hbt zO
            generalize ((((w5.setCell ⟨W.heap.size + 1, 0, none⟩ (.int .i64 z0)).setCell ⟨W.heap.size + 1, 1, none⟩ (.int .i64 z1)).setCell ⟨W.heap.size + 1, 2, none⟩ (.int .i64 z2)).setCell ⟨W.heap.size + 1, 3, none⟩ (.int .i64 z3)).setCell ⟨W.heap.size + 1, 4, none⟩ (.slice a5 ds.length c5) = w6 at ALL ⊢
            generalize W.heap.size + 1 = BO at ALL ⊢
            generalize W.heap.size = g
            exact key.out BO g w6 a5 c5 fp3 ALL.out
          · have hT := T3.out
            have zA := ZCC.out
            have zT := hT.size
            have rr : ∀ b ∈ fp3, w.heap.size + 1 ≤ b ∧ b < w5.heap.size ∧ b ≠ W.heap.size := fun b hb => by
              obtain ⟨h1, h2⟩ := R3.out b hb
              have h3 : ((W.alloc (.cells #[.int .i64 0, .int .i64 0, .int .i64 0, .int .i64 0, .slice none 0 0] 26)).alloc (.cells #[] 3)).drew.heap.size = ((W.alloc (.cells #[.int .i64 0, .int .i64 0, .int .i64 0, .int .i64 0, .slice none 0 0] 26)).alloc (.cells #[] 3)).heap.size := rfl
              omega
            have hbt := set5_but w5 (W.heap.size) (.int .i64 z0) (.int .i64 z1) (.int .i64 z2) (.int .i64 z3) (.slice a5 ds.length c5)
            have FO := set5_box XO5.out (.int .i64 z0) (.int .i64 z1) (.int .i64 z2) (.int .i64 z3) (.slice a5 ds.length c5)
            have zO := XO5.out.lt
            unfold set5 at hbt FO
            have z6 := hbt.size
            have FR := XR5.out.kept (hbt.block _ (by omega) (by omega))
            have F3 := M3.out.but hbt (fun b hb => by have := rr b hb; omega)
            have FB := B6.out
            have FS : w.heap.size + 1 ≤ W.heap.size ∧ W.heap.size < (((((w5.setCell ⟨W.heap.size, 0, none⟩ (.int .i64 z0)).setCell ⟨W.heap.size, 1, none⟩ (.int .i64 z1)).setCell ⟨W.heap.size, 2, none⟩ (.int .i64 z2)).setCell ⟨W.heap.size, 3, none⟩ (.int .i64 z3)).setCell ⟨W.heap.size, 4, none⟩ (.slice a5 ds.length c5)).heap.size ∧ ∀ b ∈ fp3, w.heap.size + 1 ≤ b ∧ b < (((((w5.setCell ⟨W.heap.size, 0, none⟩ (.int .i64 z0)).setCell ⟨W.heap.size, 1, none⟩ (.int .i64 z1)).setCell ⟨W.heap.size, 2, none⟩ (.int .i64 z2)).setCell ⟨W.heap.size, 3, none⟩ (.int .i64 z3)).setCell ⟨W.heap.size, 4, none⟩ (.slice a5 ds.length c5)).heap.size ∧ b ≠ W.heap.size := ⟨by omega, by omega, fun b hb => by have := rr b hb; omega⟩
            have ALL := hidden (And.intro FR (And.intro FO (And.intro F3 (And.intro FB FS))))
            clear FR FO F3 FB FS hT zA zT z6 rr hbt zO
            generalize ((((w5.setCell ⟨W.heap.size, 0, none⟩ (.int .i64 z0)).setCell ⟨W.heap.size, 1, none⟩ (.int .i64 z1)).setCell ⟨W.heap.size, 2, none⟩ (.int .i64 z2)).setCell ⟨W.heap.size, 3, none⟩ (.int .i64 z3)).setCell ⟨W.heap.size, 4, none⟩ (.slice a5 ds.length c5) = w6 at ALL ⊢
            generalize W.heap.size + 1 = g
            generalize W.heap.size = BO at ALL ⊢
            exact key.out BO g w6 a5 c5 fp3 ALL.out
        case mainneg =>
          rintro BO g w6 a5 c5 fp3 ⟨fr0, fo, f3, fb, fs⟩
          have FR := hidden fr0
          have F3 := hidden f3
          have FB := hidden fb
          have FO := hidden fo
          obtain ⟨fs1, fs2, fs3⟩ := fs
          have FS3 := hidden fs3
          clear fr0 f3 fb fs3
          obtain ⟨y0, y1, y2, y3, y4⟩ := fo.cells5
          clear fo
          go_wp2_with fail
          refine (specPutCmd_any _ z0 z1 z2 z3 _ _ _ ds F3.out.rd (by omega)).mono ?_
          rintro e w7 ⟨a7, l7, c7, rfl, o7, b7⟩
          have R7 := FR.out.below b7 (by omega)
          have O7 := FO.out.below b7 (by omega)
          have M7 := hidden (F3.out.below b7)
          have B7 := hidden (FB.out.trans (b7.mono FB.out.size))
          have z7 := b7.size
          obtain ⟨_, hl7, _, _⟩ := ints_rd o7.rd
          clear y0 y1 y2 y3 y4 b7 o7
          obtain ⟨p0, p1, p2, p3, p4⟩ := R7.cells5
          obtain ⟨y0, y1, y2, y3, y4⟩ := O7.cells5
          have fz := R7.frozen
          by_cases hput : putB z0 z1 z2 z3 ds = true
          · have HRET := hidden (ret_cmd (v := .slice a5 ds.length c5) hput)
            have HOWN := hidden (own_cmd hput)
            rw [putC_of hput, putL_len] at hl7
            have hl0 : ¬ (l7 : Int) = 0 := by omega
            have hl1 : ((l7 : Int) == 0) = false := by simpa using hl0
            clear hl7
            have hbt := set5_but w7 w.heap.size (.int .i64 z0) (.int .i64 z1) (.int .i64 z2) (.int .i64 z3) (.slice a5 ds.length c5)
            have FBB := hidden (B7.out.trans (hbt.below (B := w.heap.size) (Nat.le_refl _) B7.out.size))
            have FM := hidden ((M7.out.but hbt (fun b hb => by have := FS3.out b hb; omega)).own (lo := w.heap.size) (hi := (set5 w7 w.heap.size (.int .i64 z0) (.int .i64 z1) (.int .i64 z2) (.int .i64 z3) (.slice a5 ds.length c5)).heap.size) (fun b hb => by have := FS3.out b hb; have := hbt.size; omega))
            unfold set5 at FBB FM
            clear hbt M7 B7
            go_wp2
            refine bodyPost_ret (v := .tuple #[.agg #[.int .i64 z0, .int .i64 z1, .int .i64 z2, .int .i64 z3, .slice a5 ds.length c5], .bool true]) (by simp [results, Try.results14, go_sem, p0, p1, p2, p3, p4]) rfl ?_
            refine ⟨_, _, _, HRET.out, ?_, FBB.out⟩
            first | (rw [HOWN.out]; exact FM.out) | (have hh := HOWN.out; simp only [List.length_nil] at hh; rw [hh]; exact FM.out)
          · have hput' : putB z0 z1 z2 z3 ds = false := by simpa using hput
            rw [putC_not hput'] at hl7
            obtain rfl : l7 = 0 := by simpa using hl7.symm
            clear hl7
            have hB : getCB (z0 :: z1 :: z2 :: z3 :: ((ds : List Int).length : Int) :: ds) = false := getCB_put.trans hput'
            have HRET := hidden (ret_cnone hB)
            have HOWN := hidden (own_cnone hB)
            have hbt := set5_but w7 w.heap.size (.int .i64 0) (.int .i64 0) (.int .i64 0) (.int .i64 0) (.slice none 0 0)
            have FBB := hidden (B7.out.trans (hbt.below (B := w.heap.size) (Nat.le_refl _) B7.out.size))
            unfold set5 at FBB
            clear hbt M7 B7 hB
            go_wp2
            refine bodyPost_ret (v := .tuple #[.agg #[.int .i64 0, .int .i64 0, .int .i64 0, .int .i64 0, .slice none 0 0], .bool false]) (by simp [results, Try.results14, go_sem, p0, p1, p2, p3, p4]) rfl ?_
            exact ⟨_, _, _, HRET.out, HOWN.out _ _ _, FBB.out⟩
    · skip
      have hne : (z4 == (ds.length : Int)) = false := by simpa using h3
      have hne' : (z4 != (ds.length : Int)) = true := by simpa using h3
      have ii4 : (4 : Int) < (n : Int) := by omega
      have hB := getCB_many (z0 := z0) (z1 := z1) (z2 := z2) (z3 := z3) h3
      have HRET := hidden (ret_cnone hB)
      have HOWN := hidden (own_cnone hB)
      clear hB
      go_enter Try.func14, Try.ntmps14
      go_wp2
      refine bodyPost_ret (v := .tuple #[.agg #[.int .i64 0, .int .i64 0, .int .i64 0, .int .i64 0, .slice none 0 0], .bool false]) (by simp [results, Try.results14, go_sem]) rfl ?_
      exact ⟨_, _, _, HRET.out, HOWN.out _ _ _, hA⟩
  · skip
    have hB := getCB_short (zs := zs) (by omega)
    have HRET := hidden (ret_cnone hB)
    have HOWN := hidden (own_cnone hB)
    clear hB
    go_enter Try.func14, Try.ntmps14
    go_wp2
    refine bodyPost_ret (v := .tuple #[.agg #[.int .i64 0, .int .i64 0, .int .i64 0, .int .i64 0, .slice none 0 0], .bool false]) (by simp [results, Try.results14, go_sem]) rfl ?_
    exact ⟨_, _, _, HRET.out, HOWN.out _ _ _, hA⟩

end Go.Proofs.Ytplieehocceplaa

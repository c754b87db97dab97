/-
  What the functions of chapter 8 answer. No condition; nothing of the program is named here.
-/
import Derived.Test.YtjmjianlcoleaaaGreatWalk8d
import Derived.Test.YtjmjianlcoleaaaGreatWalkFind
namespace Go.Proofs.YtjmjianlcoleaaaGreat
open Go.RowKit

/-- Why nothing can be asked. -/
def ask8 (x : ArrN) (ms : List MemD) (ds : List (Int × List Int)) : Int := if arrB x ms ds = true then (if x.down = true then 6 else 0) else 1
/-- .. of a stripe, of a block. -/
def scode8 (x : ArrN) (ms : List MemD) (ds : List (Int × List Int)) (s : Int) : Int := if ask8 x ms ds = 0 then (if stripeB x.n x.s s = true then 0 else 2) else ask8 x ms ds
def code8 (x : ArrN) (ms : List MemD) (ds : List (Int × List Int)) (b : Int) : Int := if ask8 x ms ds = 0 then (if blockB x.n x.s b = true then 0 else 2) else ask8 x ms ds
theorem ask_good {x : ArrN} {ms : List MemD} {ds : List (Int × List Int)} (h : ask8 x ms ds = 0) : arrB x ms ds = true ∧ x.down = false := by
  unfold ask8 at h
  by_cases ha : arrB x ms ds = true
  · rw [if_pos ha] at h
    by_cases hd : x.down = true
    · rw [if_pos hd] at h
      omega
    · exact ⟨ha, by simpa using hd⟩
  · rw [if_neg ha] at h
    omega
theorem arr_geo {x : ArrN} {ms : List MemD} {ds : List (Int × List Int)} (ha : arrB x ms ds = true) : geoB x.n x.s = true := by
  unfold arrB at ha
  simp only [Bool.and_eq_true] at ha
  exact ha.1
theorem code_same {x : ArrN} {ms : List MemD} {ds : List (Int × List Int)} (b : Int) : scode8 x ms ds (stripeN x.n x.s b) = code8 x ms ds b := by
  unfold scode8 code8
  by_cases h : ask8 x ms ds = 0
  · rw [if_pos h, if_pos h]
    have hg := arr_geo (ask_good h).1
    by_cases hb : blockB x.n x.s b = true
    · obtain ⟨h1, h2, _⟩ := block_in hg hb
      rw [if_pos hb, if_pos]
      unfold stripeB
      rw [hg, inB_iff.2 ⟨h1, h2⟩]
      rfl
    · rw [if_neg hb, if_neg]
      unfold stripeB stripeN
      rw [if_neg hb, hg, Bool.true_and, inB_iff]
      omega
  · rw [if_neg h, if_neg h]
theorem code_gb {x : ArrN} {ms : List MemD} {ds : List (Int × List Int)} {b : Int} (h : code8 x ms ds b = 0) : ask8 x ms ds = 0 ∧ arrB x ms ds = true ∧ x.down = false ∧ blockB x.n x.s b = true := by
  unfold code8 at h
  by_cases ha : ask8 x ms ds = 0
  · rw [if_pos ha] at h
    by_cases hb : blockB x.n x.s b = true
    · exact ⟨ha, (ask_good ha).1, (ask_good ha).2, hb⟩
    · rw [if_neg hb] at h
      omega
  · rw [if_neg ha] at h
    exact absurd h ha
theorem scode_gs {x : ArrN} {ms : List MemD} {ds : List (Int × List Int)} {s : Int} (h : scode8 x ms ds s = 0) : ask8 x ms ds = 0 ∧ arrB x ms ds = true ∧ x.down = false ∧ inB s 0 (x.s - 1) = true := by
  unfold scode8 at h
  by_cases ha : ask8 x ms ds = 0
  · rw [if_pos ha] at h
    by_cases hb : stripeB x.n x.s s = true
    · refine ⟨ha, (ask_good ha).1, (ask_good ha).2, ?_⟩
      unfold stripeB at hb
      simp only [Bool.and_eq_true] at hb
      exact hb.2
    · rw [if_neg hb] at h
      omega
  · rw [if_neg ha] at h
    exact absurd h ha
/-- A right array's entries ascend. -/
theorem arr_asc {x : ArrN} {ms : List MemD} {ds : List (Int × List Int)} (ha : arrB x ms ds = true) : Asc8 ds := by
  have hg := arr_geo ha
  obtain ⟨_, _, _, g4⟩ := geoB_iff.1 hg
  unfold arrB entsB at ha
  simp only [Bool.and_eq_true] at ha
  have he := allIx_iff.1 ha.2.2.2.1
  have h1 : ∀ (i : Nat) (e e' : Int × List Int), ds[i]? = some e → ds[i + 1]? = some e' → e.1 < e'.1 := fun i e e' h h' => by
    have := he (i + 1) e' h'
    unfold entAt at this
    simp only [Bool.and_eq_true, Bool.or_eq_true, decide_eq_true_eq, Nat.add_sub_cancel] at this
    rcases this.2.2.2 with h0 | h0
    · omega
    · rw [List.getD_eq_getElem?_getD, h] at h0
      exact h0
  refine ⟨fun i j => ?_, fun i e h => ?_⟩
  · induction j with
    | zero => intro e e' h; omega
    | succ j ih =>
      intro e e' hij h h'
      by_cases hj : i = j
      · subst hj
        exact h1 i e e' h h'
      · have hjl := (List.getElem?_eq_some_iff.1 h').1
        have hjj := List.getElem?_eq_getElem (show j < ds.length by omega)
        have a1 := ih e _ (by omega) h hjj
        have a2 := h1 j _ e' hjj h'
        omega
  · have := he i e h
    unfold entAt at this
    simp only [Bool.and_eq_true] at this
    have := inB_iff.1 this.1
    omega
/-- What GetBlock answers. -/
def get8C (x : ArrN) (ms : List MemD) (ds : List (Int × List Int)) (b : Int) : Int := if code8 x ms ds b = 0 then (if ok8 x ms ds (stripeN x.n x.s b) = true then 0 else 5) else code8 x ms ds b
def get8 (x : ArrN) (ms : List MemD) (ds : List (Int × List Int)) (b : Int) : Int := if code8 x ms ds b = 0 ∧ ok8 x ms ds (stripeN x.n x.s b) = true then (dat8 x ms ds (stripeN x.n x.s b)).getD (indexN x.n x.s b).toNat 0 else 0

end Go.Proofs.YtjmjianlcoleaaaGreat

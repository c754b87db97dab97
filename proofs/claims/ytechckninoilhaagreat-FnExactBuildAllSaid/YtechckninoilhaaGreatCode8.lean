/-
  Why nothing can be asked of an array in chapter 8: plain definitions and lemmas. No condition; nothing of the program is named here.
-/
import Derived.Test.YtechckninoilhaaGreatSpot8
import Derived.Test.YtechckninoilhaaGreatWalkGeo
import Derived.Test.YtechckninoilhaaGreatWalkArrOk3
import Derived.Test.YtechckninoilhaaGreatPut8
namespace Go.Proofs.YtechckninoilhaaGreat
open Go.RowKit

def ask8 (x : ArrN) (ms : List MemD) (ds : List (Int × List Int)) : Int := if arrB x ms ds = true then (if x.down = true then 6 else 0) else 1
def scode8 (x : ArrN) (ms : List MemD) (ds : List (Int × List Int)) (s : Int) : Int := if ask8 x ms ds = 0 then (if stripeB x.n x.s s = true then 0 else 2) else ask8 x ms ds
theorem ask_good {x : ArrN} {ms : List MemD} {ds : List (Int × List Int)} (h : ask8 x ms ds = 0) : arrB x ms ds = true ∧ x.down = false := by
  unfold ask8 at h
  by_cases ha : arrB x ms ds = true
  · rw [if_pos ha] at h
    by_cases hd : x.down = true
    · rw [if_pos hd] at h
      omega
    · exact ⟨ha, by simpa using hd⟩
  · rw [if_neg ha] at h
    omega
theorem arr_geo {x : ArrN} {ms : List MemD} {ds : List (Int × List Int)} (ha : arrB x ms ds = true) : geoB x.n x.s = true := by
  unfold arrB at ha
  simp only [Bool.and_eq_true] at ha
  exact ha.1
theorem scode_gs {x : ArrN} {ms : List MemD} {ds : List (Int × List Int)} {s : Int} (h : scode8 x ms ds s = 0) : ask8 x ms ds = 0 ∧ arrB x ms ds = true ∧ x.down = false ∧ inB s 0 (x.s - 1) = true := by
  unfold scode8 at h
  by_cases ha : ask8 x ms ds = 0
  · rw [if_pos ha] at h
    by_cases hb : stripeB x.n x.s s = true
    · refine ⟨ha, (ask_good ha).1, (ask_good ha).2, ?_⟩
      unfold stripeB at hb
      simp only [Bool.and_eq_true] at hb
      exact hb.2
    · rw [if_neg hb] at h
      omega
  · rw [if_neg ha] at h
    exact absurd h ha
theorem arr_asc {x : ArrN} {ms : List MemD} {ds : List (Int × List Int)} (ha : arrB x ms ds = true) : Asc8 ds := by
  have hg := arr_geo ha
  obtain ⟨_, _, _, g4⟩ := geoB_iff.1 hg
  unfold arrB entsB at ha
  simp only [Bool.and_eq_true] at ha
  have he := allIx_iff.1 ha.2.2.2.1
  have h1 : ∀ (i : Nat) (e e' : Int × List Int), ds[i]? = some e → ds[i + 1]? = some e' → e.1 < e'.1 := fun i e e' h h' => by
    have := he (i + 1) e' h'
    unfold entAt at this
    simp only [Bool.and_eq_true, Bool.or_eq_true, decide_eq_true_eq, Nat.add_sub_cancel] at this
    rcases this.2.2.2 with h0 | h0
    · omega
    · rw [List.getD_eq_getElem?_getD, h] at h0
      exact h0
  refine ⟨fun i j => ?_, fun i e h => ?_⟩
  · induction j with
    | zero => intro e e' h; omega
    | succ j ih =>
      intro e e' hij h h'
      by_cases hj : i = j
      · subst hj
        exact h1 i e e' h h'
      · have hjl := (List.getElem?_eq_some_iff.1 h').1
        have hjj := List.getElem?_eq_getElem (show j < ds.length by omega)
        have a1 := ih e _ (by omega) h hjj
        have a2 := h1 j _ e' hjj h'
        omega
  · have := he i e h
    unfold entAt at this
    simp only [Bool.and_eq_true] at this
    have := inB_iff.1 this.1
    omega
theorem asc_len {ds : List EntD} (h : Asc8 ds) : ds.length ≤ 101 := by
  have h1 : ∀ (i : Nat) (e : EntD), ds[i]? = some e → (i : Int) ≤ e.1 := by
    intro i
    induction i with
    | zero => intro e he; have := h.2 0 e he; omega
    | succ i ih =>
      intro e he
      have hl := (List.getElem?_eq_some_iff.1 he).1
      have hi := List.getElem?_eq_getElem (show i < ds.length by omega)
      have a1 := ih _ hi
      have a2 := h.1 i (i + 1) _ e (by omega) hi he
      omega
  by_cases h0 : ds.length = 0
  · omega
  · have hi := List.getElem?_eq_getElem (show ds.length - 1 < ds.length by omega)
    have a1 := h1 _ _ hi
    have a2 := h.2 _ _ hi
    omega

end Go.Proofs.YtechckninoilhaaGreat

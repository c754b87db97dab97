/-
  The walk of the specification's DrawMem, and what falls do to a disk that is right: kept, all of it, none. Condition: at most 2097152 bytes are drawn from.
-/
import Derived.Test.YtmkiljflkndmoaaWalkL2Draw
import Derived.Test.YtmkiljflkndmoaaWalkFallSpec
namespace Go.Proofs.Ytmkiljflkndmoaa
open Go.RowKit

set_option maxHeartbeats 1600000 in
theorem drawMem_any (w : World) (a : Option Addr) (lb cb : Nat) (zs : List Int) (hz : zs.length = lb) (hr : Reads .u8 w a zs) (hby : ∀ n ∈ zs, 0 ≤ n ∧ n ≤ 255) (hlb : lb ≤ 2097152) :
    Calls Try.prog 32 #[.slice a lb cb] w fun e w' => ∃ v0 v1 v3 ss cs bs, e = .returned (.agg #[v0, v1, .bool false, v3]) ∧ (tMem 57).Own w' w.heap.size w'.heap.size [v0, v1, .bool false, v3] (ss, cs, false, bs) ∧ memB ss cs bs = true ∧ cs.length ≤ 7 ∧ bs.length ≤ 7 ∧ 3 ≤ ss.length ∧ ss.length ≤ 7 ∧ Below w.heap.size w w' := by
  have hA : Below w.heap.size w (w.alloc (.cells #[.slice none 0 0, .slice none 0 0, .bool false, .slice none 0 0] 44)) := (Below.refl _ _).alloc (Nat.le_refl _) _
  have xr := Box.new w 44 #[.slice none 0 0, .slice none 0 0, .bool false, .slice none 0 0]
  have zr := xr.lt
  go_enter Try.func32, Try.ntmps32
  go_wp2_with fail
  generalize w.alloc (.cells #[.slice none 0 0, .slice none 0 0, .bool false, .slice none 0 0] 44) = W at hA xr zr ⊢
  refine (l1New_any _ _ _ _ zs hz (hr.below hA) hlb).mono ?_
  rintro e w1 ⟨rfl, hc1, hb1⟩
  have hd1 : Draws w1 W.heap.size a lb cb zs := ⟨hc1, hz, (hr.below hA).below hb1, hby, hlb, (hr.below hA).ahead hz⟩
  have s1 := hd1.lt
  have HA := hidden (Below.andThen hA hb1)
  have XR := hidden (xr.below hb1 zr)
  have HD := hidden hd1
  clear hc1 hd1 hA xr hb1
  go_wp2_with fail
  refine (l2Draw_any HD.out).mono ?_
  rintro e w2 ⟨v0, v1, v3, ss, cs, bs, rfl, o2, hM, hc7, hb7, hs3, hs7, hd2, hb2⟩
  obtain ⟨a0, l0, c0, a1, l1, c1, a3, l3, c3, hv0, hv1, hv3⟩ := mem_slices o2
  subst hv0 hv1 hv3
  have xr2 : Box w2 w.heap.size 44 _ := XR.out.kept (hb2.block _ (by omega) (by omega))
  obtain ⟨p0, p1, p2, p3⟩ := xr2.cells4
  have fz := xr2.frozen
  have hbt : But w.heap.size (w.heap.size + 1) w2 ((((w2.setCell ⟨w.heap.size, 0, none⟩ (.slice a0 l0 c0)).setCell ⟨w.heap.size, 1, none⟩ (.slice a1 l1 c1)).setCell ⟨w.heap.size, 2, none⟩ (.bool false)).setCell ⟨w.heap.size, 3, none⟩ (.slice a3 l3 c3)) :=
    (((But.setCell (by omega) (by omega) _).trans (But.setCell (by omega) (by omega) _)).trans (But.setCell (by omega) (by omega) _)).trans (But.setCell (by omega) (by omega) _)
  have z2 := hb2.size
  have FO := hidden ((o2.but hbt (by omega)).widen (lo' := w.heap.size) (by omega) hbt.size)
  have FB := hidden (Below.andBut (Below.andBut HA.out hb2 (by omega)) hbt (by omega))
  clear hbt o2 hd2 hb2 xr2 HD XR HA
  go_wp2
  refine bodyPost_ret (v := .agg #[.slice a0 l0 c0, .slice a1 l1 c1, .bool false, .slice a3 l3 c3]) (by simp [results, Try.results32, go_sem, p0, p1, p2, p3]) rfl ?_
  exact ⟨_, _, _, ss, cs, bs, rfl, FO.out, hM, hc7, hb7, hs3, hs7, FB.out⟩

theorem keptD_none (cs : List (Int × List Int)) : ∀ j, keptD 0 cs j = []
  | 0 => rfl
  | j + 1 => by rw [keptD_not (by unfold bitB; rw [Int.zero_ediv]; decide), keptD_none cs j]
theorem bits_all : ∀ i, i < 20 → bitB 1048575 i = true := by decide
theorem keptD_full (cs : List (Int × List Int)) : ∀ j, j ≤ cs.length → j ≤ 20 → keptD 1048575 cs j = cs.take j
  | 0, _, _ => rfl
  | j + 1, h1, h2 => by rw [keptD_set (bits_all j (by omega)) (List.getElem?_eq_getElem (by omega)), keptD_full cs j (by omega) (by omega), List.take_succ_eq_append_getElem (by omega)]
theorem flushD_none (ss : List (List Int)) : flushD ss [] = ss := by
  apply List.ext_getElem?
  intro i
  by_cases hi : i < ss.length
  · rw [flushD_get hi, show lastW [] (i : Int) = none from rfl, Option.getD_none, List.getD_eq_getElem?_getD, List.getElem?_eq_getElem hi]
    rfl
  · rw [List.getElem?_eq_none (by rw [flushD_length]; omega), List.getElem?_eq_none (by omega)]

/-- With nothing kept a disk is as it was, with all kept as flushed; each sector is what it was or what was written to it. -/
theorem fall_none {ss : List (List Int)} {cs : List (Int × List Int)} {bs : List Int} (hM : memB ss cs bs = true) : faSS ss cs bs 0 = ss := by
  unfold faSS
  rw [if_pos hM, show keepN 0 = 0 from rfl, keptD_none, flushD_none]
theorem fall_all {ss : List (List Int)} {cs : List (Int × List Int)} {bs : List Int} (hM : memB ss cs bs = true) (hc : cs.length ≤ 20) : faSS ss cs bs 1048575 = flSS ss cs false bs := by
  unfold faSS flSS
  rw [if_pos hM, show keepN 1048575 = 1048575 from rfl, Nat.min_eq_left hc, keptD_full _ _ (Nat.le_refl _) hc, List.take_of_length_le (Nat.le_refl _), hM]
  rfl
theorem fall_may {ss : List (List Int)} {cs : List (Int × List Int)} {bs : List Int} {k : Int} (hM : memB ss cs bs = true) {i : Nat} (hi : i < ss.length) : (faSS ss cs bs k)[i]? = ss[i]? ∨ ∃ (q : Nat) (s : List Int), cs[q]? = some ((i : Int), s) ∧ (faSS ss cs bs k)[i]? = some s := by
  unfold faSS
  rw [if_pos hM, flushD_get hi]
  cases h : lastW (keptD (keepN k) cs (min cs.length 20)) (i : Int) with
  | none =>
    left
    rw [Option.getD_none, List.getD_eq_getElem?_getD, List.getElem?_eq_getElem hi]
    rfl
  | some s =>
    right
    obtain ⟨q, hq⟩ := List.mem_iff_getElem?.1 (keptD_mem (Nat.min_le_left _ _) _ (lastW_mem h))
    exact ⟨q, s, hq, rfl⟩

end Go.Proofs.Ytmkiljflkndmoaa

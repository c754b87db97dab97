/-
  The walks of the specification's l8At and l8Stripe: where a stripe's entry is, a stripe as it is asked. Conditions: the array weighs at most 2097152; l8Stripe: a right Geo, such a stripe.
-/
import Derived.Test.YtialakmmifhliaaGreatWalkArr
import Derived.Test.YtialakmmifhliaaGreatFrame
namespace Go.Proofs.YtialakmmifhliaaGreat
open Go.RowKit

/-- The place of a stripe's entry; -1: there is none. -/
def at8 (ds : List (Int × List Int)) (s : Int) : Int :=
  match ds.findIdx? (fun e => decide (e.1 = s)) with
  | some i => (i : Int)
  | none => -1
theorem at8_hit {ds : List (Int × List Int)} {s : Int} {j : Nat} {e : Int × List Int} (hj : ds[j]? = some e) (he : e.1 = s) (hb : ∀ i e', i < j → ds[i]? = some e' → ¬ e'.1 = s) : at8 ds s = (j : Int) := by
  have hl := (List.getElem?_eq_some_iff.1 hj).1
  have : ds.findIdx? (fun e => decide (e.1 = s)) = some j := by
    rw [List.findIdx?_eq_some_iff_getElem]
    refine ⟨hl, ?_, fun i hi => ?_⟩
    · have : ds[j] = e := by rw [List.getElem?_eq_getElem hl] at hj; simpa using hj
      rw [this]; simpa using he
    · have := hb i ds[i] hi (List.getElem?_eq_getElem (by omega))
      simpa using this
  unfold at8
  rw [this]
theorem at8_none {ds : List (Int × List Int)} {s : Int} (hb : ∀ i e', i < ds.length → ds[i]? = some e' → ¬ e'.1 = s) : at8 ds s = -1 := by
  have : ds.findIdx? (fun e => decide (e.1 = s)) = none := by
    rw [List.findIdx?_eq_none_iff]
    intro e he
    obtain ⟨i, hi⟩ := List.mem_iff_getElem?.1 he
    have := hb i e (List.getElem?_eq_some_iff.1 hi).1 hi
    simpa using this
  unfold at8
  rw [this]
theorem at8_cases (ds : List (Int × List Int)) (s : Int) : at8 ds s = -1 ∨ ∃ (j : Nat) (e : Int × List Int), at8 ds s = (j : Int) ∧ ds[j]? = some e ∧ e.1 = s := by
  unfold at8
  cases h : ds.findIdx? (fun e => decide (e.1 = s)) with
  | none => exact .inl rfl
  | some i =>
    rw [List.findIdx?_eq_some_iff_getElem] at h
    obtain ⟨hl, hp, _⟩ := h
    exact .inr ⟨i, ds[i], rfl, List.getElem?_eq_getElem hl, by simpa using hp⟩

set_option linter.unusedSimpArgs false in
set_option maxRecDepth 20000 in
set_option maxHeartbeats 1600000 in
theorem l8At_any (w : World) (G : TypeId) (x : ArrN) (am ad : Option Addr) (nm cm nd cd : Nat) (ds : List (Int × List Int)) (s : Int) (h1 : (tWrS G).Rd w [.slice ad nd cd] ds) (hn : nd ≤ 2097152) :
    Calls Tryz.prog 51 #[.agg #[.int .i64 x.id, .int .i64 x.n, .int .i64 x.s, .slice am nm cm, .int .i64 x.lost, .int .i64 x.built, .int .i64 x.seq, .int .i64 x.tail, .int .i64 x.gen, .slice ad nd cd, .int .i64 x.fuse, .bool x.down, .bool x.broken], .int .i64 s] w fun e w' => e = .returned (.int .i64 (at8 ds s)) ∧ Below w.heap.size w w' := by
  obtain ⟨hl, _, _⟩ := row_length h1
  have hA := new_below w (.cells #[.int .i64 x.id, .int .i64 x.n, .int .i64 x.s, .slice am nm cm, .int .i64 x.lost, .int .i64 x.built, .int .i64 x.seq, .int .i64 x.tail, .int .i64 x.gen, .slice ad nd cd, .int .i64 x.fuse, .bool x.down, .bool x.broken] 35)
  have X := Box.new w 35 #[.int .i64 x.id, .int .i64 x.n, .int .i64 x.s, .slice am nm cm, .int .i64 x.lost, .int .i64 x.built, .int .i64 x.seq, .int .i64 x.tail, .int .i64 x.gen, .slice ad nd cd, .int .i64 x.fuse, .bool x.down, .bool x.broken]
  have zX := X.lt
  have c9 : (w.alloc (.cells #[.int .i64 x.id, .int .i64 x.n, .int .i64 x.s, .slice am nm cm, .int .i64 x.lost, .int .i64 x.built, .int .i64 x.seq, .int .i64 x.tail, .int .i64 x.gen, .slice ad nd cd, .int .i64 x.fuse, .bool x.down, .bool x.broken] 35)).cell? ⟨w.heap.size, 9, none⟩ = some (.slice ad nd cd) := X.cell 9
  have HA := hidden hA
  go_enter Tryz.func51, Tryz.ntmps51
  go_wp2
  generalize w.alloc (.cells #[.int .i64 x.id, .int .i64 x.n, .int .i64 x.s, .slice am nm cm, .int .i64 x.lost, .int .i64 x.built, .int .i64 x.seq, .int .i64 x.tail, .int .i64 x.gen, .slice ad nd cd, .int .i64 x.fuse, .bool x.down, .bool x.broken] 35) = W at hA X zX c9 HA ⊢
  go_loopw [5] (fun i wr => ∃ j : Nat, j ≤ nd ∧ i = .int .i64 j ∧ (∀ i e', i < j → ds[i]? = some e' → ¬ e'.1 = s) ∧ wr = W) (fun i _ => nd - (intOf i).toNat)
  case atStart => exact ⟨0, Nat.zero_le _, rfl, fun i _ h => absurd h (by omega), rfl⟩
  case round =>
    obtain ⟨j, hj, rfl, hb, hw⟩ := hrel
    subst hw
    by_cases hjn : j < nd
    · rcases pairs_at rfl (h1.below hA) with h0 | ⟨b, off, rfl, hbl, hcs⟩
      · omega
      have hdj : ds[j]? = some (ds[j]'(by omega)) := List.getElem?_eq_getElem (by omega)
      generalize ds[j]'(by omega) = d at hdj
      obtain ⟨u0, u1, hv0, hv1, hrv⟩ := hcs j d hdj
      obtain ⟨rfl, _⟩ := wr_rd hrv
      have k1 : (0 : Int) ≤ (j : Int) := by omega
      have k2 : (j : Int) < (nd : Int) := by omega
      have HBB := hidden hb
      have HDJ := hidden hdj
      obtain ⟨y, ys⟩ := d
      simp only at hv0
      clear hcs hrv hv1 hb hdj
      by_cases he : y = s
      · have HV := hidden (at8_hit (s := s) HDJ.out he HBB.out)
        have e1 : (y == s) = true := by simpa using he
        clear he
        go_wp2
        go_ret
        exact ⟨ret_int HV.out.symm, HA.out⟩
      · have e1 : (y == s) = false := by simpa using he
        have HN : Hid (∀ i e', i < j + 1 → ds[i]? = some e' → ¬ e'.1 = s) := fun i e' hi h' => by
          by_cases hij : i = j
          · subst hij
            rw [HDJ.out] at h'
            simp at h'
            rw [← h']
            exact he
          · exact HBB.out i e' (by omega) h'
        clear he
        go_wp2
        go_roundw
        case rel => exact ⟨j + 1, by omega, by go_num, HN.out, by first | rfl | trivial⟩
        case measure => simp [intOf]; omega
    · have ej : j = nd := by omega
      subst ej
      have HV := hidden (at8_none (s := s) (fun i e' h h' => hb i e' (by omega) h'))
      have k2 : ¬ (j : Int) < (j : Int) := by omega
      go_wp2
      go_ret
      exact ⟨ret_int HV.out.symm, HA.out⟩

end Go.Proofs.YtialakmmifhliaaGreat

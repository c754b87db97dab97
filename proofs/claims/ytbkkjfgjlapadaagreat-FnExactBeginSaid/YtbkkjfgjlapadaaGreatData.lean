/-
  The data of the laws and of the program as kinds: slices of numbers, slices of such, writes, disks; what they weigh; plain lemmas on them. No condition.
-/
import Derived.Test.YtbkkjfgjlapadaaGreatDeep
import Derived.Test.YtbkkjfgjlapadaaGreatWalkInts
namespace Go.Proofs.YtbkkjfgjlapadaaGreat
open Go.RowKit

/-- A slice of numbers; a slice of such. -/
abbrev tIntS : Ty := rowTy intTy 3
abbrev tIntSS : Ty := rowTy tIntS 36
def wtIntSS (d : List (List Int)) : Nat := d.length + sumL (d.map List.length)

/-- A number and a slice of numbers; a slice of such. -/
abbrev tWr : Ty := pairTy intTy tIntS
abbrev tWrS (E : TypeId) : Ty := rowTy tWr E
def wtWrS (d : List (Int × List Int)) : Nat := d.length + sumL (d.map fun x => x.2.length)

theorem wr_rd {w : World} {v0 v1 : Value} {d : Int × List Int} (h : tWr.Rd w [v0, v1] d) : v0 = .int .i64 d.1 ∧ tIntS.Rd w [v1] d.2 := by
  obtain ⟨⟨_, h1, _⟩, h2⟩ := pair_rd (t := intTy) (u := tIntS) (vs := [v0]) (us := [v1]) rfl h
  exact ⟨by simpa using h1, h2⟩

/-- A disk. -/
abbrev tMem (E : TypeId) : Ty := pairTy tIntSS (pairTy (tWrS E) (pairTy boolTy tIntS))
def wtMem (d : List (List Int) × List (Int × List Int) × Bool × List Int) : Nat := wtIntSS d.1 + wtWrS d.2.1 + d.2.2.2.length

theorem mem_rd {w : World} {E : TypeId} {v0 v1 v2 v3 : Value} {d : (tMem E).D} (h : (tMem E).Rd w [v0, v1, v2, v3] d) :
    ∃ a0 c0 a1 c1 a3 c3, v0 = .slice a0 d.1.length c0 ∧ v1 = .slice a1 d.2.1.length c1 ∧ v2 = .bool d.2.2.1 ∧ v3 = .slice a3 d.2.2.2.length c3 ∧
      tIntSS.Rd w [.slice a0 d.1.length c0] d.1 ∧ (tWrS E).Rd w [.slice a1 d.2.1.length c1] d.2.1 ∧ tIntS.Rd w [.slice a3 d.2.2.2.length c3] d.2.2.2 := by
  obtain ⟨h0, h⟩ := pair_rd (t := tIntSS) (vs := [v0]) (us := [v1, v2, v3]) rfl h
  obtain ⟨h1, h⟩ := pair_rd (t := tWrS E) (vs := [v1]) (us := [v2, v3]) rfl h
  obtain ⟨⟨_, h2, _⟩, h3⟩ := pair_rd (t := boolTy) (vs := [v2]) (us := [v3]) rfl h
  obtain ⟨a0, c0, rfl⟩ := row_shape h0
  obtain ⟨a1, c1, rfl⟩ := row_shape h1
  obtain ⟨a3, c3, rfl⟩ := row_shape h3
  exact ⟨a0, c0, a1, c1, a3, c3, rfl, rfl, by simpa using h2, rfl, h0, h1, h3⟩

theorem mem_parts {w : World} {E : TypeId} {lo hi : Nat} {v0 v1 v3 : Value} {f : Bool} {ss : List (List Int)} {cs : List (Int × List Int)} {bs : List Int} (h : (tMem E).Own w lo hi [v0, v1, .bool f, v3] (ss, cs, f, bs)) :
    tIntSS.Rd w [v0] ss ∧ (tWrS E).Rd w [v1] cs ∧ tIntS.Rd w [v3] bs := by
  obtain ⟨a0, c0, a1, c1, a3, c3, rfl, rfl, _, rfl, h0, h1, h3⟩ := mem_rd h.rd
  exact ⟨h0, h1, h3⟩

theorem own_ints {w : World} {lo : Nat} {v : Value} {zs : List Int} (h : Owns .i64 3 w lo v zs) : tIntS.Own w lo w.heap.size [v] zs := by
  have hlt := h.own
  rcases h.2 with ⟨hv, hn⟩ | ⟨g, cap, cur, hv, hb, hg, hnc, hcm, hcs, ht⟩
  · exact ⟨[], .inl ⟨by rw [hv], List.eq_nil_of_length_eq_zero hn, rfl⟩, by simp, by simp⟩
  · have hgl : g < w.heap.size := (Array.getElem?_eq_some_iff.1 hg).1
    refine ⟨[g], .inr ⟨g, cap, cur, zs.map fun _ => [], by rw [hv], hnc, hcm, hg, hcs, by simp, by simp, fun i x hx => ?_⟩, by simp, by simp; omega⟩
    have hi : i < zs.length := (List.getElem?_eq_some_iff.1 hx).1
    refine ⟨[], by rw [List.getElem?_map, hx]; rfl, ?_, rfl⟩
    have e : cur.toList[i]? = some (.int .i64 x) := by
      have : (cur.toList.take (zs.length * 1))[i]? = (zs.map (Value.int .i64))[i]? := by rw [ht]
      rw [List.getElem?_take, if_pos (by omega), List.getElem?_map, hx] at this
      exact this
    have hic : i < cur.toList.length := (List.getElem?_eq_some_iff.1 e).1
    show (cur.toList.drop (i * 1)).take 1 = _
    rw [Nat.mul_one, List.drop_eq_getElem_cons hic, List.take_succ_cons, List.take_zero]
    rw [List.getElem?_eq_getElem hic] at e
    simp at e
    rw [Array.getElem_toList, e]

theorem Tryz.infoIntS : (Tryz.prog.info? 36).map (fun i => (i.zero, i.size, i.bytes)) = some (some (.slice none 0 0), 1, 24) := by kernel_rfl

theorem copied_step' {α : Type} (zs : List α) (z x : α) (j : Nat) (h : zs[j]? = some x) :
    (zs.take j ++ List.replicate (zs.length - j) z).set j x = zs.take (j + 1) ++ List.replicate (zs.length - (j + 1)) z := by
  have hj : j < zs.length := (List.getElem?_eq_some_iff.1 h).1
  have e : zs.length - j = (zs.length - (j + 1)) + 1 := by omega
  rw [e, List.replicate_succ]
  have hl : (zs.take j).length = j := by simp; omega
  rw [List.set_append, if_neg (by omega), hl, Nat.sub_self, List.set_cons_zero, List.take_succ_eq_append_getElem hj, List.append_assoc]
  rw [List.getElem?_eq_getElem hj] at h
  simp at h
  rw [h]
  rfl

theorem Tryz.infoWr : (Tryz.prog.info? 214).map (fun i => (i.zero, i.size, i.bytes)) = some (some (.agg #[.int .i64 0, .slice none 0 0]), 2, 32) := by kernel_rfl

theorem heads_alike' {α : Type} {xs ys : List α} {j : Nat} {x y : α} (h1 : xs[j]? = some x) (h2 : ys[j]? = some y) :
    (x = y → xs.take j = ys.take j → xs.take (j + 1) = ys.take (j + 1)) ∧ (x ≠ y → xs ≠ ys) := by
  have l1 : j < xs.length := (List.getElem?_eq_some_iff.1 h1).1
  have l2 : j < ys.length := (List.getElem?_eq_some_iff.1 h2).1
  rw [List.getElem?_eq_getElem l1] at h1
  rw [List.getElem?_eq_getElem l2] at h2
  simp at h1 h2
  refine ⟨fun h ht => ?_, fun h he => ?_⟩
  · rw [List.take_succ_eq_append_getElem l1, List.take_succ_eq_append_getElem l2, ht, h1, h2, h]
  · subst he
    exact h (h1.symm.trans h2)

theorem inner_le {d : List (List Int)} {j : Nat} {x : List Int} (h : d[j]? = some x) : x.length ≤ wtIntSS d := by
  have h1 := sumL_take (l := d.map List.length) (j := j) (x := x.length) (by rw [List.getElem?_map, h]; rfl)
  have h2 := sumL_le (l := d.map List.length) (j + 1)
  unfold wtIntSS
  omega
theorem inner_le' {d : List (Int × List Int)} {j : Nat} {x : Int × List Int} (h : d[j]? = some x) : x.2.length ≤ wtWrS d := by
  have h1 := sumL_take (l := d.map fun x => x.2.length) (j := j) (x := x.2.length) (by rw [List.getElem?_map, h]; rfl)
  have h2 := sumL_le (l := d.map fun x => x.2.length) (j + 1)
  unfold wtWrS
  omega

theorem nil_own {t : Ty} {E : TypeId} (w : World) (lo hi : Nat) : (rowTy t E).Own w lo hi [.slice none 0 0] [] := ⟨[], .inl ⟨rfl, rfl, rfl⟩, by simp, by simp⟩

/-- A disk by its parts. -/
theorem mem_own_of {w : World} {lo m1 m2 hi : Nat} {v0 v1 v3 : Value} {f : Bool} {ss : List (List Int)} {cs : List (Int × List Int)} {bs : List Int} {E : TypeId} (h0 : tIntSS.Own w lo m1 [v0] ss) (h1 : (tWrS E).Own w m1 m2 [v1] cs) (h3 : tIntS.Own w m2 hi [v3] bs) (l1 : lo ≤ m1) (l2 : m1 ≤ m2) (l3 : m2 ≤ hi) :
    (tMem E).Own w lo hi [v0, v1, .bool f, v3] (ss, cs, f, bs) :=
  pair_own_of (t := tIntSS) (vs := [_]) h0 (pair_own_of (t := tWrS E) (vs := [_]) h1 (pair_own_of (t := boolTy) (vs := [_]) (bool_own w m2 m2 f) h3 (Nat.le_refl _) l3) l2 l3) l1 (by omega)

end Go.Proofs.YtbkkjfgjlapadaaGreat

/-
  slices.Insert of one number into a slice of int of one's own, by the library's contracts: in place where there is room, else in a new row. Condition: at most 2097152 elements.
-/
import Derived.Test.YtmkiljflkndmoaaLayInsert
import Derived.Test.YtmkiljflkndmoaaBox
namespace Go.Proofs.Ytmkiljflkndmoaa
open Go.RowKit Go.Shelf

theorem Box.sets {B : Nat} {T : TypeId} : ∀ (vs : List Value) (o : Nat) (w : World) (cs : Array Value), Box w B T cs → o + vs.length ≤ cs.size → ∃ cs', Box (w.setCells B o vs) B T cs' ∧ cs'.toList = cs.toList.take o ++ (vs ++ cs.toList.drop (o + vs.length)) ∧ Turned [B] w (w.setCells B o vs)
  | [], o, w, cs, h, ho => ⟨cs, h, by simp, Turned.refl _ _⟩
  | v :: r, o, w, cs, h, ho => by
    have ho' : o + (r.length + 1) ≤ cs.size := ho
    obtain ⟨cs', h1, h2, h3⟩ := Box.sets r (o + 1) _ _ (h.set o v) (by simp; omega)
    refine ⟨cs', h1, ?_, (Turned.setCell v (by simp)).trans h3⟩
    have hlt : o < cs.toList.length := by simp; omega
    rw [h2, Array.toList_setIfInBounds, List.drop_set_of_lt (by omega), List.set_eq_take_append_cons_drop, if_pos hlt, List.take_append, List.length_take, Nat.min_eq_left (by omega), List.take_of_length_le (by simp; omega), show o + 1 - o = 1 by omega, show o + 1 + r.length = o + (v :: r).length by simp; omega]
    simp

theorem row_of_box {w : World} {g n cap : Nat} {zs : List Int} {cs : Array Value} (h : Box w g 3 cs) (hs : cs.size = cap) (hc : cap ≤ 9223372036854775807) (hn : zs.length = n) (hl : n ≤ cap) (ht : cs.toList.take n = zs.map (Value.int .i64)) : tIntS.Own w g (g + 1) [.slice (some ⟨g, 0, none⟩) n cap] zs := by
  subst hn
  exact mine_of_own ⟨⟨by simp, .inr ⟨g, cap, cs, rfl, Nat.le_refl _, h, hl, by unfold maxLen; exact hc, by rw [Nat.mul_one]; exact hs, by rw [Nat.mul_one]; exact ht⟩⟩, fun b hb => by simp [Value.ownBlock] at hb; omega⟩

theorem one_cells (zs : List Int) : ∀ v ∈ zs.map (Value.int .i64), v.oneCell' = true := fun v hv => by
  obtain ⟨x, _, rfl⟩ := List.mem_map.1 hv
  rfl

set_option maxHeartbeats 1600000 in
theorem insert_any (w : World) (lo hi : Nat) (a : Option Addr) (len cap : Nat) (zs : List Int) (i : Nat) (n : Int) (vb : Nat) (T : TypeId) (h : tIntS.Own w lo hi [.slice a len cap] zs) (hv : Box w vb T #[.int .i64 n]) (hvb : vb < lo ∨ hi ≤ vb) (hik : i ≤ len) (hlen : len ≤ 2097152) :
    Calls Try.prog 80 #[.slice a len cap, .int .i64 i, .slice (some ⟨vb, 0, none⟩) 1 1] w fun e w' => ∃ a' c' l' h', e = .returned (.slice a' (len + 1) c') ∧ tIntS.Own w' l' h' [.slice a' (len + 1) c'] (zs.take i ++ n :: zs.drop i) ∧ ((l' = lo ∧ h' = hi) ∨ (w.heap.size ≤ l' ∧ h' ≤ w'.heap.size)) ∧ But lo hi w w' := by
  have hvc : ∀ j v, [Value.int .i64 n][j]? = some v → w.cell? ⟨vb, 0 + j, none⟩ = some v := fun j v hj => by
    rw [Nat.zero_add, hv.cell, ← hj]
    simp
  have h1v : ∀ v ∈ [Value.int .i64 n], v.oneCell' = true := one_cells [n]
  obtain ⟨fp, hm, hfr⟩ := h.mine
  rcases ints_row hm.1 with ⟨hva, rfl, rfl⟩ | ⟨g, cap', hva, rfl, ho⟩
  · simp only [Value.slice.injEq] at hva
    obtain ⟨rfl, rfl, rfl⟩ := hva
    have e0 : i = 0 := by omega
    subst e0
    refine (Any2.slices_Insert_int_end_grow insLays none 0 0 vb 0 1 1 [] [.int .i64 n] w (by omega) (by omega) (by omega) (by omega) rfl rfl (fun _ => rfl) (by simp) hvc h1v).mono ?_
    rintro e w' ⟨rfl, rfl⟩
    have hG1 := grownCap_ge w (0 + 1) 0 (insRen.t 3)
    have hG2 := grownCap_le_maxLen w (0 + 1) 0 (insRen.t 3) (by unfold maxLen; omega)
    generalize grownCap w (0 + 1) 0 (insRen.t 3) = G at hG1 hG2 ⊢
    refine ⟨_, G, w.heap.size, w.heap.size + 1, rfl, row_of_box (Box.new w.drew 3 _) ?_ (by unfold maxLen at hG2; omega) (by simp) (by omega) ?_, .inr ⟨Nat.le_refl _, by simp⟩, ?_⟩
    · simp [Builtin.zeroCells, Value.cells]; omega
    · simp
    · exact But.of_below ((Below.refl _ _).drew.alloc (by simp) _)
  · have hzl := (ints_rd h.rd).2.1
    simp only [Value.slice.injEq] at hva
    obtain ⟨rfl, _, rfl⟩ := hva
    have hg := hfr g (by simp)
    have hgn : vb ≠ g := by omega
    obtain ⟨cur, hcur, hcs, hct, hcap, hlc⟩ : ∃ cur : Array Value, Box w g 3 cur ∧ cur.size = cap ∧ cur.toList.take len = zs.map (Value.int .i64) ∧ cap ≤ 9223372036854775807 ∧ len ≤ cap := by
      rcases ho.1.2 with ⟨hv, _⟩ | ⟨g', cap', cur, hv, hb, hg, hnc, hcm, hcs, ht⟩
      · simp at hv
      · simp only [Value.slice.injEq, Option.some.injEq, Addr.mk.injEq, and_true] at hv
        obtain ⟨rfl, _, rfl⟩ := hv
        refine ⟨cur, hg, by rw [Nat.mul_one] at hcs; exact hcs, by rw [Nat.mul_one, hzl] at ht; exact ht, by unfold maxLen at hcm; exact hcm, by omega⟩
    have hml : (zs.map (Value.int .i64)).length = len := by rw [List.length_map, hzl]
    have hcc : ∀ j v, (zs.map (Value.int .i64))[j]? = some v → w.cell? ⟨g, 0 + j, none⟩ = some v := fun j v hj => by
      rw [Nat.zero_add, hcur.cell, ← Array.getElem?_toList]
      rw [← hct, List.getElem?_take] at hj
      split at hj
      · exact hj
      · cases hj
    have hsm : ∀ j, j < cap → (w.cell? ⟨g, j, none⟩).isSome = true := fun j hj => by
      rw [hcur.cell, Array.getElem?_eq_getElem (by omega)]; rfl
    by_cases hil : i = len
    · subst hil
      have hz : zs.take i ++ n :: zs.drop i = zs ++ [n] := by rw [List.take_of_length_le (by omega), List.drop_eq_nil_of_le (by omega)]
      rw [hz]
      by_cases hroom : i + 1 ≤ cap
      · refine (Any2.slices_Insert_int_end_room insLays g 0 i cap vb 0 1 1 [.int .i64 n] w (by omega) hroom hcap rfl (fun j hj => hsm _ (by omega)) (fun j hj => hcur.frozen _) hvc h1v).mono ?_
        rintro e w' ⟨rfl, rfl⟩
        obtain ⟨cs', k1, k2, k3⟩ := Box.sets [.int .i64 n] (0 + i) w cur hcur (by simp; omega)
        refine ⟨_, cap, lo, hi, rfl, (row_of_box k1 ?_ hcap (by simp; omega) hroom ?_).widen hg.1 (by omega), .inl ⟨rfl, rfl⟩, k3.but (by simp; omega)⟩
        · rw [← Array.length_toList, k2]; simp; omega
        · rw [k2, Nat.zero_add, hct, List.map_append, ← List.append_assoc]
          exact List.take_left' (by simp; omega)
      · refine (Any2.slices_Insert_int_end_grow insLays (some ⟨g, 0, none⟩) i cap vb 0 1 1 (zs.map (Value.int .i64)) [.int .i64 n] w (by omega) hlc (by omega) (by omega) hml rfl (by simp) (fun a ha j v hj => by
          simp only [Option.some.injEq] at ha
          subst ha
          rw [Addr.add_lit]
          exact hcc j v hj) hvc h1v).mono ?_
        rintro e w' ⟨rfl, rfl⟩
        have hG1 := grownCap_ge w (i + 1) cap (insRen.t 3)
        have hG2 := grownCap_le_maxLen w (i + 1) cap (insRen.t 3) (by unfold maxLen; omega)
        generalize grownCap w (i + 1) cap (insRen.t 3) = G at hG1 hG2 ⊢
        refine ⟨_, G, w.heap.size, w.heap.size + 1, rfl, row_of_box (Box.new w.drew 3 _) ?_ (by unfold maxLen at hG2; omega) (by simp; omega) (by omega) ?_, .inr ⟨Nat.le_refl _, by simp⟩, ?_⟩
        · simp [Builtin.zeroCells, Value.cells]; omega
        · rw [Array.toList_append, List.take_left' (by simp; omega)]
          simp
        · exact But.of_below ((Below.refl _ _).drew.alloc (by simp) _)
    · have hi' : i < len := by omega
      have hdl : ((zs.map (Value.int .i64)).drop i).length = len - i := by rw [List.length_drop, hml]
      have hfin : zs.take i ++ n :: zs.drop i = zs.take i ++ ([n] ++ zs.drop i) := rfl
      by_cases hroom : len + 1 ≤ cap
      · refine (Any2.slices_Insert_int_shift insLays g 0 len cap i vb 0 1 1 (zs.map (Value.int .i64)) [.int .i64 n] w hi' (by omega) hroom hcap hgn hml rfl hcc (fun j hj => hsm _ (by omega)) (fun j hj => hcur.frozen _) hvc (one_cells zs) h1v T 3 1 cap (by unfold World.shape?; rw [show w.heap[vb]? = _ from hv]; rfl) (by unfold World.shape?; rw [show w.heap[g]? = _ from hcur]; simp [hcs]) (by omega) (hv.frozen _) (hv.frozen _)).mono ?_
        rintro e w' ⟨rfl, rfl⟩
        obtain ⟨c1, k1, k2, k3⟩ := Box.sets ((zs.map (Value.int .i64)).drop i) (0 + (i + 1)) w.drew cur hcur (by rw [hdl]; omega)
        have hc1 : c1.size = cap := by rw [← Array.length_toList, k2]; simp only [List.length_append, List.length_take, List.length_drop, Array.length_toList, hdl]; omega
        obtain ⟨c2, j1, j2, j3⟩ := Box.sets [.int .i64 n] (0 + i) _ c1 k1 (by simp; omega)
        refine ⟨_, cap, lo, hi, rfl, (row_of_box j1 ?_ hcap (by simp; omega) hroom ?_).widen hg.1 (by omega), .inl ⟨rfl, rfl⟩, (k3.undrew.trans j3).but (by simp; omega)⟩
        · rw [← Array.length_toList, j2]; simp; omega
        · have e1 : c1.toList.take i = (zs.map (Value.int .i64)).take i := by
            rw [k2, Nat.zero_add, List.take_append_of_le_length (by simp; omega), List.take_take, Nat.min_eq_left (by omega), ← hct, List.take_take, Nat.min_eq_left (by omega)]
          have e2 : c1.toList.drop (i + 1) = (zs.map (Value.int .i64)).drop i ++ cur.toList.drop (i + 1 + ((zs.map (Value.int .i64)).drop i).length) := by
            rw [k2, Nat.zero_add]
            exact List.drop_left' (by simp; omega)
          rw [j2, Nat.zero_add, e1, show i + [Value.int .i64 n].length = i + 1 from rfl, e2, ← List.append_assoc [Value.int .i64 n], ← List.append_assoc, List.take_left' (by simp; omega)]
          simp
      · refine (Any2.slices_Insert_int_grow insLays g 0 len cap i vb 0 1 1 (zs.map (Value.int .i64)) [.int .i64 n] w hi' (by omega) hlc (by omega) (by omega) hml rfl hcc hvc (one_cells zs) h1v).mono ?_
        rintro e w' ⟨rfl, rfl⟩
        have hG1 := grownCap_ge w (len + 1) cap (insRen.t 3)
        have hG2 := grownCap_le_maxLen w (len + 1) cap (insRen.t 3) (by unfold maxLen; omega)
        generalize grownCap w (len + 1) cap (insRen.t 3) = G at hG1 hG2 ⊢
        obtain ⟨ROW, hROW⟩ : ∃ ROW : Array Value, ROW = ((zs.map (Value.int .i64)).take i).toArray ++ Builtin.zeroCells (Value.int .i64 0).cells (len + 1 - i) ++ Builtin.zeroCells (Value.int .i64 0).cells (G - (len + 1)) := ⟨_, rfl⟩
        rw [← hROW]
        have hRs : ROW.size = G := by rw [hROW]; simp [Builtin.zeroCells, Value.cells]; omega
        have hRt : ROW.toList.take i = (zs.map (Value.int .i64)).take i := by
          rw [hROW, Array.toList_append, Array.toList_append, List.append_assoc]
          exact List.take_left' (by simp; omega)
        have bN : Below w.heap.size w (w.alloc (.cells ROW 3)) := (Below.refl _ _).alloc (Nat.le_refl _) _
        obtain ⟨c1, k1, k2, k3⟩ := Box.sets [.int .i64 n] i (w.alloc (.cells ROW 3)).drew ROW (Box.new w 3 ROW) (by simp; omega)
        have hc1 : c1.size = G := by rw [← Array.length_toList, k2]; simp; omega
        obtain ⟨c2, j1, j2, j3⟩ := Box.sets ((zs.map (Value.int .i64)).drop i) (i + 1) ((w.alloc (.cells ROW 3)).drew.setCells w.heap.size i [.int .i64 n]).drew c1 k1 (by rw [hdl]; omega)
        have hT := k3.undrew.trans j3.undrew
        refine ⟨_, G, w.heap.size, w.heap.size + 1, rfl, row_of_box j1 ?_ (by unfold maxLen at hG2; omega) (by simp; omega) (by omega) ?_, .inr ⟨Nat.le_refl _, ?_⟩, ?_⟩
        · rw [← Array.length_toList, j2]; simp only [List.length_append, List.length_take, List.length_drop, Array.length_toList, hdl]; omega
        · have e1 : c1.toList.take (i + 1) = (zs.map (Value.int .i64)).take i ++ [.int .i64 n] := by
            rw [k2, hRt, ← List.append_assoc]
            exact List.take_left' (by simp; omega)
          rw [j2, e1, ← List.append_assoc, List.take_left' (by simp; omega)]
          simp
        · have := hT.size
          simp at this
          exact this
        · exact ⟨hT.os, hT.tape, hT.output, Nat.le_trans bN.size hT.size, fun k hk _ => (hT.block k (by simp; omega) (by simp; omega)).trans (bN.block k hk)⟩
end Go.Proofs.Ytmkiljflkndmoaa

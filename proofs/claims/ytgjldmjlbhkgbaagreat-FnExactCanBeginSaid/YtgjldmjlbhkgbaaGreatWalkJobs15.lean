/-
  The program's pointers to where an engine's jobs stand, whether each job is right, whether there are too many of all. Condition: the jobs weigh at most 2097152.
-/
import Derived.Test.YtgjldmjlbhkgbaaGreatWalkClash15
import Derived.Test.YtgjldmjlbhkgbaaGreatVal12
namespace Go.Proofs.YtgjldmjlbhkgbaaGreat
open Go.RowKit

theorem Tryz.infoPtr15 : (Tryz.prog.info? 144).map (fun i => (i.zero, i.size, i.bytes)) = some (some (.pointer none), 1, 8) := by kernel_rfl
def ptrL (b off n : Nat) : List Value := (List.range n).map fun i => .pointer (some ⟨b, off + i * 8, none⟩)
theorem ptrL_len {b off n : Nat} : (ptrL b off n).length = n := by simp [ptrL]
theorem ptrL_at {b off n i : Nat} (h : i < n) : (ptrL b off n)[i]? = some (.pointer (some ⟨b, off + i * 8, none⟩)) := by simp [ptrL, h]
theorem ptrL_step {b off n : Nat} : ptrL b off n ++ [.pointer (some ⟨b, off + n * 8, none⟩)] = ptrL b off (n + 1) := by simp [ptrL, List.range_succ]
theorem ptrs_of {w : World} {E : TypeId} {pb b off n c : Nat} {fp : List Nat} (h : (rowTy valTy E).Mine w [.slice (some ⟨pb, 0, none⟩) n c] (ptrL b off n) fp) : Ptrs w pb b off n := ⟨h.lt _ (row_mem12 h), fun _ hi => (val_at h (ptrL_at hi)).1⟩

set_option maxRecDepth 20000 in
set_option maxHeartbeats 1600000 in
theorem jobs_any (w : World) (B : Nat) (T : TypeId) (l : List Value) (aj : Option Addr) (n c b off : Nat) (X : Box w B T l.toArray) (h14 : l[14]? = some (.slice aj n c)) (hj : aj = some ⟨b, off, none⟩ ∨ n = 0) (hn : n ≤ 1048576) (hc : n ≤ c) :
    Calls Tryz.prog 117 #[.pointer (some ⟨B, 0, none⟩)] w fun e w' => ∃ pb pc, e = .returned (.slice (some ⟨pb, 0, none⟩) n pc) ∧ Ptrs w' pb b off n ∧ n ≤ pc ∧ Below w.heap.size w w' := by
  have x14 : w.cell? ⟨B, 14, none⟩ = some (.slice aj n c) := by rw [X.cell 14]; simpa using h14
  have hBl := X.lt
  obtain ⟨i4, hi4, hz0, hz1, hz2⟩ := info_parts Tryz.infoPtr15
  go_enter Tryz.func117, Tryz.ntmps117
  go_wp2
  have hO : (rowTy valTy 144).Mine (w.alloc (.cells #[] 144)) [.slice (some ⟨w.heap.size, 0, none⟩) 0 0] (ptrL b off 0) [w.heap.size] := lit0_mine w
  have hB0 := new_below w (.cells #[] 144)
  go_loopw [3, 11] (fun pv iv wr => ∃ (j g cap : Nat) (fp : List Nat), j ≤ n ∧ iv = .int .i64 j ∧ pv = .slice (some ⟨g, 0, none⟩) j cap ∧ (rowTy valTy 144).Mine wr [.slice (some ⟨g, 0, none⟩) j cap] (ptrL b off j) fp ∧ (∀ q ∈ fp, w.heap.size ≤ q) ∧ Below w.heap.size w wr) (fun _ iv _ => n - (intOf iv).toNat)
  case atStart => exact ⟨0, _, _, _, Nat.zero_le _, rfl, rfl, hO, by simp, hB0⟩
  case round =>
    clear hO hB0
    obtain ⟨j, g, cap, fp, hjn, rfl, rfl, hM, hfp, hb⟩ := hrel
    by_cases hlt : j < n
    · have x14' := (hb.cell (p := ⟨B, 14, none⟩) hBl).trans x14
      rcases hj with rfl | h0
      · have hA := hM.alloc (.cells #[.pointer (some ⟨b, off + j * 8, none⟩)] 144)
        have hS : (ptrL b off j).length + 1 ≤ maxLen := by rw [ptrL_len]; unfold maxLen; omega
        have hS2 : ((ptrL b off j).length + 1) * 8 ≤ 140737488355328 := by rw [ptrL_len]; omega
        have hv1 : ∀ u ∈ [Value.pointer (some ⟨b, off + j * 8, none⟩)], u.oneCell' = true := by simp [Value.oneCell']
        have hmv : valTy.Mine (wr.alloc (.cells #[.pointer (some ⟨b, off + j * 8, none⟩)] 144)) [.pointer (some ⟨b, off + j * 8, none⟩)] (.pointer (some ⟨b, off + j * 8, none⟩)) [] := ⟨⟨rfl, rfl⟩, by simp⟩
        have hln : (ptrL b off j).length = j := ptrL_len
        have NW := news_new wr #[.pointer (some ⟨b, off + j * 8, none⟩)] 144
        have i1 : (0 : Int) ≤ (j : Int) := by omega
        have i2 : (j : Int) < (n : Int) := by omega
        go_wp2_with (at_builtin; refine wpList_appT valTy rfl _ _ 142 rfl 144 i4 (.pointer none) 8 Tryz.underlying142 hi4 hz0 hz1 hz2 rfl Nat.zero_lt_one _ (ptrL b off j) fp rfl hA _ _ [.pointer (some ⟨b, off + j * 8, none⟩)] _ [] rfl hmv (by simp) NW hv1 hS hS2 ?_; intro v' w' fp' m1 m2 m3)
        rw [ptrL_step] at m1
        obtain ⟨a', c', rfl⟩ := row_shape m1.rd
        rw [ptrL_len] at m1
        obtain ⟨g', rfl⟩ : ∃ g', a' = some ⟨g', 0, none⟩ := (row_ow_shape m1).resolve_left (by omega)
        have HM := hidden m1
        have hT := m3.below (N := w.heap.size) (by have := hb.size; simp; omega) hfp
        have HB := hidden ((hb.alloc hb.size (.cells #[.pointer (some ⟨b, off + j * 8, none⟩)] 144)).trans hT)
        have HF : Hid (∀ q ∈ fp', w.heap.size ≤ q) := fun q hq => by
          have := hb.size
          rcases m2 q hq with h | h | h
          · exact hfp q h
          · simp at h
          · have := h.1; simp at this; omega
        rw [ptrL_len]
        clear m1 m2 m3 hA hmv hM hfp hT hb NW
        go_wp2
        go_roundw
        case rel => exact ⟨j + 1, g', c', fp', by omega, by go_num, rfl, HM.out, HF.out, HB.out⟩
        case measure => simp [intOf]; omega
      · omega
    · obtain rfl : j = n := by omega
      have hle := (row_length hM.rd).2.1
      have HP := hidden (ptrs_of hM)
      clear hM
      go_wp2
      go_ret
      exact ⟨_, _, rfl, HP.out, hle, hb⟩

end Go.Proofs.YtgjldmjlbhkgbaaGreat

/-
  The walk of the program's keptOf: the writes among the first 20 whose bit is set, each as it lies in the cache. Condition: at most 60 writes.
-/
import Derived.Test.YtlcjfgmmjkandaaWalkFlush
namespace Go.Proofs.Ytlcjfgmmjkandaa
open Go.RowKit

/-- Data that is on loan: it is read in an elder world. -/
abbrev loanTy (w0 : World) (t : Ty) : Ty where
  n := t.n
  D := t.D
  rd := fun _ vs d fp => t.Rd w0 vs d ∧ fp = []
  ow := fun _ vs d fp => t.Rd w0 vs d ∧ fp = []
  owRd := fun h => h
  rdLen := fun h => by obtain ⟨⟨fp, h1⟩, _⟩ := h; exact t.rdLen h1
  rdLt := fun h => by rw [h.2]; simp
  rdKept := fun h _ _ => h
  owKept := fun h _ _ => h
theorem row_unloan {t : Ty} {E : TypeId} {w0 w : World} {v : Value} {d : List t.D} {fp : List Nat} (hb : Below w0.heap.size w0 w) (h : (rowTy (loanTy w0 t) E).Mine w [v] d fp) : (rowTy t E).Rd w [v] d := by
  obtain ⟨h, _⟩ := h
  rcases h with ⟨h1, h2, h3⟩ | ⟨b, cap, cur, fps, h1, h2, h3, h4, h5, h6, h7, h8⟩
  · subst h2
    exact ⟨[], none, 0, h1, Nat.le_refl _, by omega, .inl ⟨rfl, rfl, fun _ => rfl⟩⟩
  · have hex : ∀ (i : Nat) (hi : i < d.length), ∃ f, t.rd w ((cur.toList.drop (i * t.n)).take t.n) (d[i]'hi) f := by
      intro i hi
      obtain ⟨f, _, ⟨f', hr⟩, _⟩ := h8 i _ (List.getElem?_eq_getElem hi)
      exact ⟨f', t.rdKept hr (fun b hb' => hb.block b (t.rdLt hr b hb')) hb.size⟩
    have hsel : ∃ gs : List (List Nat), gs.length = d.length ∧ ∀ i x, d[i]? = some x → ∃ f, gs[i]? = some f ∧ t.rd w ((cur.toList.drop (i * t.n)).take t.n) x f := by
      refine ⟨(List.range d.length).map fun i => if hi : i < d.length then Classical.choose (hex i hi) else [], by simp, fun i x hx => ?_⟩
      have hi : i < d.length := (List.getElem?_eq_some_iff.1 hx).1
      refine ⟨Classical.choose (hex i hi), by rw [List.getElem?_map, List.getElem?_range hi]; simp [hi], ?_⟩
      have := Classical.choose_spec (hex i hi)
      rw [List.getElem?_eq_getElem hi] at hx
      simp at hx
      subst hx
      exact this
    obtain ⟨gs, hg1, hg2⟩ := hsel
    refine ⟨b :: gs.flatten, some ⟨b, 0, none⟩, cap, h1, h2, h3, .inr ⟨b, 0, gs, rfl, (Array.getElem?_eq_some_iff.1 h4).1, rfl, hg1, fun i x hx => ?_⟩⟩
    obtain ⟨f, hf, hr⟩ := hg2 i x hx
    refine ⟨f, _, hf, hr, fun j hj => ?_⟩
    rw [cell_of_row w b _ cur E (0, 0) h4, List.getElem?_take, if_pos hj, List.getElem?_drop]
    simp

/-- Whether a number's bit is set, as the machine reckons it. -/
def bitB (k : Int) (j : Nat) : Bool := (bits BinOp.and IntKind.i64 (k / 2 ^ j) 1 == 1)
/-- The writes among the first j whose bit is set. -/
def keptD (k : Int) (cs : List (Int × List Int)) (j : Nat) : List (Int × List Int) := ((List.range j).filter fun i => bitB k i).map fun i => cs.getD i (0, [])
theorem keptD_zero (k : Int) (cs : List (Int × List Int)) : keptD k cs 0 = [] := rfl
theorem keptD_set {k : Int} {cs : List (Int × List Int)} {j : Nat} {x : Int × List Int} (h : bitB k j = true) (hx : cs[j]? = some x) : keptD k cs (j + 1) = keptD k cs j ++ [x] := by
  unfold keptD
  rw [List.range_succ, List.filter_append, List.map_append]
  simp [h, hx]
theorem keptD_not {k : Int} {cs : List (Int × List Int)} {j : Nat} (h : bitB k j = false) : keptD k cs (j + 1) = keptD k cs j := by
  unfold keptD
  rw [List.range_succ, List.filter_append, List.map_append]
  simp [h]
theorem keptD_length (k : Int) (cs : List (Int × List Int)) (j : Nat) : (keptD k cs j).length ≤ j := by
  unfold keptD
  rw [List.length_map]
  exact Nat.le_trans (List.length_filter_le _ _) (by simp)
theorem keptD_mem {k : Int} {cs : List (Int × List Int)} {j : Nat} (hj : j ≤ cs.length) : ∀ x ∈ keptD k cs j, x ∈ cs := by
  intro x hx
  unfold keptD at hx
  obtain ⟨i, hi, rfl⟩ := List.mem_map.1 hx
  have h1 := List.mem_range.1 (List.mem_filter.1 hi).1
  have h2 : cs[i]? = some (cs.getD i (0, [])) := by rw [List.getD_eq_getElem?_getD, List.getElem?_eq_getElem (by omega)]; rfl
  exact List.mem_of_getElem? h2

theorem bit_zero (j : Nat) : bitB 0 j = false := by
  unfold bitB
  rw [Int.zero_ediv]
  decide
def keepN (k : Int) : Int := if 0 ≤ k ∧ k ≤ 1048575 then k else 0

set_option maxRecDepth 20000 in
set_option maxHeartbeats 3200000 in
theorem keptOf_any (w : World) (E : TypeId) (a : Option Addr) (n cap : Nat) (cs : List (Int × List Int)) (k : Int) (h : (tWrS E).Rd w [.slice a n cap] cs) (hn : n ≤ 60) :
    Calls Try.prog 88 #[.slice a n cap, .int .i64 k] w fun e w' => ∃ v, e = .returned v ∧ (tWrS 108).Rd w' [v] (keptD (keepN k) cs (min n 20)) ∧ Below w.heap.size w w' := by
  obtain ⟨hl, hc, hm⟩ := row_length h
  by_cases hv : 0 ≤ k ∧ k ≤ 1048575
  · have hkk : keepN k = k := by unfold keepN; rw [if_pos hv]
    rw [hkk]
    clear hkk
    have hv0 : 0 ≤ k := hv.1
    have hv1 : k < 1048576 := by omega
    by_cases h20 : n ≤ 20
    · rw [Nat.min_eq_left h20]
      go_enter Try.func88, Try.ntmps88
      obtain ⟨i1, hi1, hy0, hy1, hy2⟩ := info_parts Try.infoWr
      go_wp2
      go_loopw [5, 21] (fun kv i wr => ∃ (j : Nat) (fp : List Nat), j ≤ n ∧ i = .int .i64 j ∧ (rowTy (loanTy w tWr) 108).Mine wr [kv] (keptD k cs j) fp ∧ (∀ b ∈ fp, w.heap.size ≤ b) ∧ Below w.heap.size w wr) (fun _ i _ => n - (intOf i).toNat)
      case atStart => exact ⟨0, [w.heap.size], Nat.zero_le _, rfl, lit0_mine _, by simp, (Below.refl _ _).alloc (Nat.le_refl _) _⟩
      case round =>
        obtain ⟨j, fp, hj, rfl, hK, hfp, hb⟩ := hrel
        have hs := hb.size
        by_cases hjn : j < n
        · have k1 : (0 : Int) ≤ (j : Int) := by omega
          have k2 : (j : Int) < (n : Int) := by omega
          rcases pairs_at rfl h with h0' | ⟨b, off, rfl, hbl, hcs⟩
          · omega
          have hdj : cs[j]? = some (cs[j]'(by omega)) := List.getElem?_eq_getElem (by omega)
          generalize cs[j]'(by omega) = x at hdj
          obtain ⟨u0, u1, hv0, hv1, hrv⟩ := hcs j x hdj
          obtain ⟨rfl, hrv'⟩ := wr_rd hrv
          obtain ⟨av, cv, rfl⟩ := row_shape hrv'
          have p0 := (hb.cell (p := ⟨b, off + j * 2, none⟩) hbl).trans hv0
          have p1 := (hb.cell (p := ⟨b, off + j * 2 + 1, none⟩) hbl).trans hv1
          obtain ⟨x0, x1⟩ := x
          simp only at p0 p1 hrv hrv'
          have hlt := hK.lt
          have bA : Below w.heap.size w (wr.alloc (.cells #[.int .i64 x0, .slice av x1.length cv] 108)) := hb.alloc hs _
          have bB : Below w.heap.size w ((wr.alloc (.cells #[.int .i64 x0, .slice av x1.length cv] 108)).alloc (.cells #[.int .i64 x0, .slice av x1.length cv] 108)) := bA.alloc bA.size _
          have zA : (wr.alloc (.cells #[.int .i64 x0, .slice av x1.length cv] 108)).heap.size = wr.heap.size + 1 := by simp
          have zB : ((wr.alloc (.cells #[.int .i64 x0, .slice av x1.length cv] 108)).alloc (.cells #[.int .i64 x0, .slice av x1.length cv] 108)).heap.size = wr.heap.size + 2 := by simp
          have KA := hidden (hK.alloc (.cells #[.int .i64 x0, .slice av x1.length cv] 108))
          have KB := hidden ((hK.alloc (.cells #[.int .i64 x0, .slice av x1.length cv] 108)).alloc (.cells #[.int .i64 x0, .slice av x1.length cv] 108))
          have BA := hidden bA
          have BB := hidden bB
          have ZA := hidden zA
          have ZB := hidden zB
          have HFP := hidden hfp
          have nn := news_new (wr.alloc (.cells #[.int .i64 x0, .slice av x1.length cv] 108)) #[.int .i64 x0, .slice av x1.length cv] 108
          rw [zA] at nn
          have NN := hidden nn
          have LN : Hid ((loanTy w tWr).Mine ((wr.alloc (.cells #[.int .i64 x0, .slice av x1.length cv] 108)).alloc (.cells #[.int .i64 x0, .slice av x1.length cv] 108)) [.int .i64 x0, .slice av x1.length cv] (x0, x1) []) := ⟨⟨hrv, rfl⟩, by simp⟩
          have hkl := keptD_length k cs j
          have L1 : Hid ((keptD k cs j).length + 1 ≤ maxLen) := by unfold Hid maxLen; omega
          have L2 : Hid (((keptD k cs j).length + 1) * 32 ≤ 140737488355328) := by unfold Hid; omega
          clear hK hfp hb hcs hv0 hv1 hrv' bA bB zA zB nn hlt hkl
          by_cases hbit : bitB k j = true
          · have HS := hidden (keptD_set hbit hdj)
            have hbw : (bits BinOp.and IntKind.i64 (k / 2 ^ j) 1 == 1) = true := hbit
            clear hbit hdj
            go_wp2_with (at_builtin; refine wpList_appT (loanTy w tWr) rfl (.tmp 31) (.tmp 33) 71 rfl 108 i1 (.agg #[.int .i64 0, .slice none 0 0]) 32 Try.underlying71 hi1 hy0 hy1 hy2 rfl Nat.zero_lt_two u5 (keptD k cs j) fp rfl ?_ ⟨wr.heap.size + 1, 0, none⟩ 1 [.int .i64 x0, .slice av x1.length cv] (x0, x1) [] rfl ?_ ?_ ?_ ?_ ?_ ?_ ?_; exact KB.out; exact LN.out; simp; exact NN.out; (intro u hu; simp at hu; rcases hu with hu | hu <;> (rw [hu]; rfl)); exact L1.out; exact L2.out; intro v2 w2 fp2 m1 m2 m3; rw [← HS.out] at m1; have M1 := hidden m1; have M2 := hidden m2; have M3 := hidden m3; clear m1 m2 m3)
            have hf2 : ∀ b ∈ fp2, w.heap.size ≤ b := fun b hb => by
              rcases M2.out b hb with h | h | h
              · exact HFP.out b h
              · simp at h
              · have h1 := h.1
                have h2 := ZB.out
                omega
            have HB := hidden (BB.out.trans (M3.out.below (N := w.heap.size) (by have := ZB.out; omega) (fun b hb => HFP.out b hb)))
            have HF2 := hidden hf2
            clear hf2 hbw
            go_roundw
            case rel => exact ⟨j + 1, fp2, by omega, by go_num, M1.out, HF2.out, HB.out⟩
            case measure => simp [intOf]; omega
          · have hbit : bitB k j = false := by simpa using hbit
            have HS := hidden (keptD_not (cs := cs) hbit)
            have hbw : (bits BinOp.and IntKind.i64 (k / 2 ^ j) 1 == 1) = false := hbit
            clear hbit hdj
            go_wp2
            go_roundw
            case rel => exact ⟨j + 1, fp, by omega, by go_num, by rw [HS.out]; exact KA.out, HFP.out, BA.out⟩
            case measure => simp [intOf]; omega
        · have e : j = n := by omega
          have HE := hidden e
          go_wp2
          go_ret
          exact ⟨_, rfl, by rw [← HE.out]; exact row_unloan hb hK, hb⟩
    · rw [Nat.min_eq_right (by omega)]
      have h21 : (20 : Int) < (n : Int) := by omega
      go_enter Try.func88, Try.ntmps88
      obtain ⟨i1, hi1, hy0, hy1, hy2⟩ := info_parts Try.infoWr
      go_wp2
      go_loopw [5, 21] (fun kv i wr => ∃ (j : Nat) (fp : List Nat), j ≤ 20 ∧ i = .int .i64 j ∧ (rowTy (loanTy w tWr) 108).Mine wr [kv] (keptD k cs j) fp ∧ (∀ b ∈ fp, w.heap.size ≤ b) ∧ Below w.heap.size w wr) (fun _ i _ => 20 - (intOf i).toNat)
      case atStart => exact ⟨0, [w.heap.size], Nat.zero_le _, rfl, lit0_mine _, by simp, (Below.refl _ _).alloc (Nat.le_refl _) _⟩
      case round =>
        obtain ⟨j, fp, hj, rfl, hK, hfp, hb⟩ := hrel
        have hs := hb.size
        by_cases hjn : j < 20
        · have k1 : (0 : Int) ≤ (j : Int) := by omega
          have k2 : (j : Int) < (20 : Int) := by omega
          rcases pairs_at rfl h with h0' | ⟨b, off, rfl, hbl, hcs⟩
          · omega
          have hdj : cs[j]? = some (cs[j]'(by omega)) := List.getElem?_eq_getElem (by omega)
          generalize cs[j]'(by omega) = x at hdj
          obtain ⟨u0, u1, hv0, hv1, hrv⟩ := hcs j x hdj
          obtain ⟨rfl, hrv'⟩ := wr_rd hrv
          obtain ⟨av, cv, rfl⟩ := row_shape hrv'
          have p0 := (hb.cell (p := ⟨b, off + j * 2, none⟩) hbl).trans hv0
          have p1 := (hb.cell (p := ⟨b, off + j * 2 + 1, none⟩) hbl).trans hv1
          obtain ⟨x0, x1⟩ := x
          simp only at p0 p1 hrv hrv'
          have hlt := hK.lt
          have bA : Below w.heap.size w (wr.alloc (.cells #[.int .i64 x0, .slice av x1.length cv] 108)) := hb.alloc hs _
          have bB : Below w.heap.size w ((wr.alloc (.cells #[.int .i64 x0, .slice av x1.length cv] 108)).alloc (.cells #[.int .i64 x0, .slice av x1.length cv] 108)) := bA.alloc bA.size _
          have zA : (wr.alloc (.cells #[.int .i64 x0, .slice av x1.length cv] 108)).heap.size = wr.heap.size + 1 := by simp
          have zB : ((wr.alloc (.cells #[.int .i64 x0, .slice av x1.length cv] 108)).alloc (.cells #[.int .i64 x0, .slice av x1.length cv] 108)).heap.size = wr.heap.size + 2 := by simp
          have KA := hidden (hK.alloc (.cells #[.int .i64 x0, .slice av x1.length cv] 108))
          have KB := hidden ((hK.alloc (.cells #[.int .i64 x0, .slice av x1.length cv] 108)).alloc (.cells #[.int .i64 x0, .slice av x1.length cv] 108))
          have BA := hidden bA
          have BB := hidden bB
          have ZA := hidden zA
          have ZB := hidden zB
          have HFP := hidden hfp
          have nn := news_new (wr.alloc (.cells #[.int .i64 x0, .slice av x1.length cv] 108)) #[.int .i64 x0, .slice av x1.length cv] 108
          rw [zA] at nn
          have NN := hidden nn
          have LN : Hid ((loanTy w tWr).Mine ((wr.alloc (.cells #[.int .i64 x0, .slice av x1.length cv] 108)).alloc (.cells #[.int .i64 x0, .slice av x1.length cv] 108)) [.int .i64 x0, .slice av x1.length cv] (x0, x1) []) := ⟨⟨hrv, rfl⟩, by simp⟩
          have hkl := keptD_length k cs j
          have L1 : Hid ((keptD k cs j).length + 1 ≤ maxLen) := by unfold Hid maxLen; omega
          have L2 : Hid (((keptD k cs j).length + 1) * 32 ≤ 140737488355328) := by unfold Hid; omega
          clear hK hfp hb hcs hv0 hv1 hrv' bA bB zA zB nn hlt hkl
          by_cases hbit : bitB k j = true
          · have HS := hidden (keptD_set hbit hdj)
            have hbw : (bits BinOp.and IntKind.i64 (k / 2 ^ j) 1 == 1) = true := hbit
            clear hbit hdj
            go_wp2_with (at_builtin; refine wpList_appT (loanTy w tWr) rfl (.tmp 31) (.tmp 33) 71 rfl 108 i1 (.agg #[.int .i64 0, .slice none 0 0]) 32 Try.underlying71 hi1 hy0 hy1 hy2 rfl Nat.zero_lt_two u5 (keptD k cs j) fp rfl ?_ ⟨wr.heap.size + 1, 0, none⟩ 1 [.int .i64 x0, .slice av x1.length cv] (x0, x1) [] rfl ?_ ?_ ?_ ?_ ?_ ?_ ?_; exact KB.out; exact LN.out; simp; exact NN.out; (intro u hu; simp at hu; rcases hu with hu | hu <;> (rw [hu]; rfl)); exact L1.out; exact L2.out; intro v2 w2 fp2 m1 m2 m3; rw [← HS.out] at m1; have M1 := hidden m1; have M2 := hidden m2; have M3 := hidden m3; clear m1 m2 m3)
            have hf2 : ∀ b ∈ fp2, w.heap.size ≤ b := fun b hb => by
              rcases M2.out b hb with h | h | h
              · exact HFP.out b h
              · simp at h
              · have h1 := h.1
                have h2 := ZB.out
                omega
            have HB := hidden (BB.out.trans (M3.out.below (N := w.heap.size) (by have := ZB.out; omega) (fun b hb => HFP.out b hb)))
            have HF2 := hidden hf2
            clear hf2 hbw
            go_roundw
            case rel => exact ⟨j + 1, fp2, by omega, by go_num, M1.out, HF2.out, HB.out⟩
            case measure => simp [intOf]; omega
          · have hbit : bitB k j = false := by simpa using hbit
            have HS := hidden (keptD_not (cs := cs) hbit)
            have hbw : (bits BinOp.and IntKind.i64 (k / 2 ^ j) 1 == 1) = false := hbit
            clear hbit hdj
            go_wp2
            go_roundw
            case rel => exact ⟨j + 1, fp, by omega, by go_num, by rw [HS.out]; exact KA.out, HFP.out, BA.out⟩
            case measure => simp [intOf]; omega
        · have e : j = 20 := by omega
          have HE := hidden e
          go_wp2
          go_ret
          exact ⟨_, rfl, by rw [← HE.out]; exact row_unloan hb hK, hb⟩
  · have hkk : keepN k = 0 := by unfold keepN; rw [if_neg hv]
    rw [hkk]
    clear hkk
    have hc2 : k < 0 ∨ (0 ≤ k ∧ 1048576 ≤ k) := by omega
    clear hv
    rcases hc2 with hv0 | ⟨hv0, hv1⟩
    · by_cases h20 : n ≤ 20
      · rw [Nat.min_eq_left h20]
        go_enter Try.func88, Try.ntmps88
        obtain ⟨i1, hi1, hy0, hy1, hy2⟩ := info_parts Try.infoWr
        go_wp2
        go_loopw [5, 21] (fun kv i wr => ∃ (j : Nat) (fp : List Nat), j ≤ n ∧ i = .int .i64 j ∧ (rowTy (loanTy w tWr) 108).Mine wr [kv] (keptD 0 cs j) fp ∧ (∀ b ∈ fp, w.heap.size ≤ b) ∧ Below w.heap.size w wr) (fun _ i _ => n - (intOf i).toNat)
        case atStart => exact ⟨0, [w.heap.size], Nat.zero_le _, rfl, lit0_mine _, by simp, (Below.refl _ _).alloc (Nat.le_refl _) _⟩
        case round =>
          obtain ⟨j, fp, hj, rfl, hK, hfp, hb⟩ := hrel
          have hs := hb.size
          by_cases hjn : j < n
          · have k1 : (0 : Int) ≤ (j : Int) := by omega
            have k2 : (j : Int) < (n : Int) := by omega
            rcases pairs_at rfl h with h0' | ⟨b, off, rfl, hbl, hcs⟩
            · omega
            have hdj : cs[j]? = some (cs[j]'(by omega)) := List.getElem?_eq_getElem (by omega)
            generalize cs[j]'(by omega) = x at hdj
            obtain ⟨u0, u1, hv0, hv1, hrv⟩ := hcs j x hdj
            obtain ⟨rfl, hrv'⟩ := wr_rd hrv
            obtain ⟨av, cv, rfl⟩ := row_shape hrv'
            have p0 := (hb.cell (p := ⟨b, off + j * 2, none⟩) hbl).trans hv0
            have p1 := (hb.cell (p := ⟨b, off + j * 2 + 1, none⟩) hbl).trans hv1
            obtain ⟨x0, x1⟩ := x
            simp only at p0 p1 hrv hrv'
            have hlt := hK.lt
            have bA : Below w.heap.size w (wr.alloc (.cells #[.int .i64 x0, .slice av x1.length cv] 108)) := hb.alloc hs _
            have bB : Below w.heap.size w ((wr.alloc (.cells #[.int .i64 x0, .slice av x1.length cv] 108)).alloc (.cells #[.int .i64 x0, .slice av x1.length cv] 108)) := bA.alloc bA.size _
            have zA : (wr.alloc (.cells #[.int .i64 x0, .slice av x1.length cv] 108)).heap.size = wr.heap.size + 1 := by simp
            have zB : ((wr.alloc (.cells #[.int .i64 x0, .slice av x1.length cv] 108)).alloc (.cells #[.int .i64 x0, .slice av x1.length cv] 108)).heap.size = wr.heap.size + 2 := by simp
            have KA := hidden (hK.alloc (.cells #[.int .i64 x0, .slice av x1.length cv] 108))
            have KB := hidden ((hK.alloc (.cells #[.int .i64 x0, .slice av x1.length cv] 108)).alloc (.cells #[.int .i64 x0, .slice av x1.length cv] 108))
            have BA := hidden bA
            have BB := hidden bB
            have ZA := hidden zA
            have ZB := hidden zB
            have HFP := hidden hfp
            have nn := news_new (wr.alloc (.cells #[.int .i64 x0, .slice av x1.length cv] 108)) #[.int .i64 x0, .slice av x1.length cv] 108
            rw [zA] at nn
            have NN := hidden nn
            have LN : Hid ((loanTy w tWr).Mine ((wr.alloc (.cells #[.int .i64 x0, .slice av x1.length cv] 108)).alloc (.cells #[.int .i64 x0, .slice av x1.length cv] 108)) [.int .i64 x0, .slice av x1.length cv] (x0, x1) []) := ⟨⟨hrv, rfl⟩, by simp⟩
            have hkl := keptD_length 0 cs j
            have L1 : Hid ((keptD 0 cs j).length + 1 ≤ maxLen) := by unfold Hid maxLen; omega
            have L2 : Hid (((keptD 0 cs j).length + 1) * 32 ≤ 140737488355328) := by unfold Hid; omega
            clear hK hfp hb hcs hv0 hv1 hrv' bA bB zA zB nn hlt hkl
            have hbit := bit_zero j
            have HS := hidden (keptD_not (cs := cs) hbit)
            have hbw : (bits BinOp.and IntKind.i64 0 1 == 1) = false := by decide
            clear hbit hdj
            go_wp2
            go_roundw
            case rel => exact ⟨j + 1, fp, by omega, by go_num, by rw [HS.out]; exact KA.out, HFP.out, BA.out⟩
            case measure => simp [intOf]; omega
          · have e : j = n := by omega
            have HE := hidden e
            go_wp2
            go_ret
            exact ⟨_, rfl, by rw [← HE.out]; exact row_unloan hb hK, hb⟩
      · rw [Nat.min_eq_right (by omega)]
        have h21 : (20 : Int) < (n : Int) := by omega
        go_enter Try.func88, Try.ntmps88
        obtain ⟨i1, hi1, hy0, hy1, hy2⟩ := info_parts Try.infoWr
        go_wp2
        go_loopw [5, 21] (fun kv i wr => ∃ (j : Nat) (fp : List Nat), j ≤ 20 ∧ i = .int .i64 j ∧ (rowTy (loanTy w tWr) 108).Mine wr [kv] (keptD 0 cs j) fp ∧ (∀ b ∈ fp, w.heap.size ≤ b) ∧ Below w.heap.size w wr) (fun _ i _ => 20 - (intOf i).toNat)
        case atStart => exact ⟨0, [w.heap.size], Nat.zero_le _, rfl, lit0_mine _, by simp, (Below.refl _ _).alloc (Nat.le_refl _) _⟩
        case round =>
          obtain ⟨j, fp, hj, rfl, hK, hfp, hb⟩ := hrel
          have hs := hb.size
          by_cases hjn : j < 20
          · have k1 : (0 : Int) ≤ (j : Int) := by omega
            have k2 : (j : Int) < (20 : Int) := by omega
            rcases pairs_at rfl h with h0' | ⟨b, off, rfl, hbl, hcs⟩
            · omega
            have hdj : cs[j]? = some (cs[j]'(by omega)) := List.getElem?_eq_getElem (by omega)
            generalize cs[j]'(by omega) = x at hdj
            obtain ⟨u0, u1, hv0, hv1, hrv⟩ := hcs j x hdj
            obtain ⟨rfl, hrv'⟩ := wr_rd hrv
            obtain ⟨av, cv, rfl⟩ := row_shape hrv'
            have p0 := (hb.cell (p := ⟨b, off + j * 2, none⟩) hbl).trans hv0
            have p1 := (hb.cell (p := ⟨b, off + j * 2 + 1, none⟩) hbl).trans hv1
            obtain ⟨x0, x1⟩ := x
            simp only at p0 p1 hrv hrv'
            have hlt := hK.lt
            have bA : Below w.heap.size w (wr.alloc (.cells #[.int .i64 x0, .slice av x1.length cv] 108)) := hb.alloc hs _
            have bB : Below w.heap.size w ((wr.alloc (.cells #[.int .i64 x0, .slice av x1.length cv] 108)).alloc (.cells #[.int .i64 x0, .slice av x1.length cv] 108)) := bA.alloc bA.size _
            have zA : (wr.alloc (.cells #[.int .i64 x0, .slice av x1.length cv] 108)).heap.size = wr.heap.size + 1 := by simp
            have zB : ((wr.alloc (.cells #[.int .i64 x0, .slice av x1.length cv] 108)).alloc (.cells #[.int .i64 x0, .slice av x1.length cv] 108)).heap.size = wr.heap.size + 2 := by simp
            have KA := hidden (hK.alloc (.cells #[.int .i64 x0, .slice av x1.length cv] 108))
            have KB := hidden ((hK.alloc (.cells #[.int .i64 x0, .slice av x1.length cv] 108)).alloc (.cells #[.int .i64 x0, .slice av x1.length cv] 108))
            have BA := hidden bA
            have BB := hidden bB
            have ZA := hidden zA
            have ZB := hidden zB
            have HFP := hidden hfp
            have nn := news_new (wr.alloc (.cells #[.int .i64 x0, .slice av x1.length cv] 108)) #[.int .i64 x0, .slice av x1.length cv] 108
            rw [zA] at nn
            have NN := hidden nn
            have LN : Hid ((loanTy w tWr).Mine ((wr.alloc (.cells #[.int .i64 x0, .slice av x1.length cv] 108)).alloc (.cells #[.int .i64 x0, .slice av x1.length cv] 108)) [.int .i64 x0, .slice av x1.length cv] (x0, x1) []) := ⟨⟨hrv, rfl⟩, by simp⟩
            have hkl := keptD_length 0 cs j
            have L1 : Hid ((keptD 0 cs j).length + 1 ≤ maxLen) := by unfold Hid maxLen; omega
            have L2 : Hid (((keptD 0 cs j).length + 1) * 32 ≤ 140737488355328) := by unfold Hid; omega
            clear hK hfp hb hcs hv0 hv1 hrv' bA bB zA zB nn hlt hkl
            have hbit := bit_zero j
            have HS := hidden (keptD_not (cs := cs) hbit)
            have hbw : (bits BinOp.and IntKind.i64 0 1 == 1) = false := by decide
            clear hbit hdj
            go_wp2
            go_roundw
            case rel => exact ⟨j + 1, fp, by omega, by go_num, by rw [HS.out]; exact KA.out, HFP.out, BA.out⟩
            case measure => simp [intOf]; omega
          · have e : j = 20 := by omega
            have HE := hidden e
            go_wp2
            go_ret
            exact ⟨_, rfl, by rw [← HE.out]; exact row_unloan hb hK, hb⟩
    · by_cases h20 : n ≤ 20
      · rw [Nat.min_eq_left h20]
        go_enter Try.func88, Try.ntmps88
        obtain ⟨i1, hi1, hy0, hy1, hy2⟩ := info_parts Try.infoWr
        go_wp2
        go_loopw [5, 21] (fun kv i wr => ∃ (j : Nat) (fp : List Nat), j ≤ n ∧ i = .int .i64 j ∧ (rowTy (loanTy w tWr) 108).Mine wr [kv] (keptD 0 cs j) fp ∧ (∀ b ∈ fp, w.heap.size ≤ b) ∧ Below w.heap.size w wr) (fun _ i _ => n - (intOf i).toNat)
        case atStart => exact ⟨0, [w.heap.size], Nat.zero_le _, rfl, lit0_mine _, by simp, (Below.refl _ _).alloc (Nat.le_refl _) _⟩
        case round =>
          obtain ⟨j, fp, hj, rfl, hK, hfp, hb⟩ := hrel
          have hs := hb.size
          by_cases hjn : j < n
          · have k1 : (0 : Int) ≤ (j : Int) := by omega
            have k2 : (j : Int) < (n : Int) := by omega
            rcases pairs_at rfl h with h0' | ⟨b, off, rfl, hbl, hcs⟩
            · omega
            have hdj : cs[j]? = some (cs[j]'(by omega)) := List.getElem?_eq_getElem (by omega)
            generalize cs[j]'(by omega) = x at hdj
            obtain ⟨u0, u1, hv0, hv1, hrv⟩ := hcs j x hdj
            obtain ⟨rfl, hrv'⟩ := wr_rd hrv
            obtain ⟨av, cv, rfl⟩ := row_shape hrv'
            have p0 := (hb.cell (p := ⟨b, off + j * 2, none⟩) hbl).trans hv0
            have p1 := (hb.cell (p := ⟨b, off + j * 2 + 1, none⟩) hbl).trans hv1
            obtain ⟨x0, x1⟩ := x
            simp only at p0 p1 hrv hrv'
            have hlt := hK.lt
            have bA : Below w.heap.size w (wr.alloc (.cells #[.int .i64 x0, .slice av x1.length cv] 108)) := hb.alloc hs _
            have bB : Below w.heap.size w ((wr.alloc (.cells #[.int .i64 x0, .slice av x1.length cv] 108)).alloc (.cells #[.int .i64 x0, .slice av x1.length cv] 108)) := bA.alloc bA.size _
            have zA : (wr.alloc (.cells #[.int .i64 x0, .slice av x1.length cv] 108)).heap.size = wr.heap.size + 1 := by simp
            have zB : ((wr.alloc (.cells #[.int .i64 x0, .slice av x1.length cv] 108)).alloc (.cells #[.int .i64 x0, .slice av x1.length cv] 108)).heap.size = wr.heap.size + 2 := by simp
            have KA := hidden (hK.alloc (.cells #[.int .i64 x0, .slice av x1.length cv] 108))
            have KB := hidden ((hK.alloc (.cells #[.int .i64 x0, .slice av x1.length cv] 108)).alloc (.cells #[.int .i64 x0, .slice av x1.length cv] 108))
            have BA := hidden bA
            have BB := hidden bB
            have ZA := hidden zA
            have ZB := hidden zB
            have HFP := hidden hfp
            have nn := news_new (wr.alloc (.cells #[.int .i64 x0, .slice av x1.length cv] 108)) #[.int .i64 x0, .slice av x1.length cv] 108
            rw [zA] at nn
            have NN := hidden nn
            have LN : Hid ((loanTy w tWr).Mine ((wr.alloc (.cells #[.int .i64 x0, .slice av x1.length cv] 108)).alloc (.cells #[.int .i64 x0, .slice av x1.length cv] 108)) [.int .i64 x0, .slice av x1.length cv] (x0, x1) []) := ⟨⟨hrv, rfl⟩, by simp⟩
            have hkl := keptD_length 0 cs j
            have L1 : Hid ((keptD 0 cs j).length + 1 ≤ maxLen) := by unfold Hid maxLen; omega
            have L2 : Hid (((keptD 0 cs j).length + 1) * 32 ≤ 140737488355328) := by unfold Hid; omega
            clear hK hfp hb hcs hv0 hv1 hrv' bA bB zA zB nn hlt hkl
            have hbit := bit_zero j
            have HS := hidden (keptD_not (cs := cs) hbit)
            have hbw : (bits BinOp.and IntKind.i64 0 1 == 1) = false := by decide
            clear hbit hdj
            go_wp2
            go_roundw
            case rel => exact ⟨j + 1, fp, by omega, by go_num, by rw [HS.out]; exact KA.out, HFP.out, BA.out⟩
            case measure => simp [intOf]; omega
          · have e : j = n := by omega
            have HE := hidden e
            go_wp2
            go_ret
            exact ⟨_, rfl, by rw [← HE.out]; exact row_unloan hb hK, hb⟩
      · rw [Nat.min_eq_right (by omega)]
        have h21 : (20 : Int) < (n : Int) := by omega
        go_enter Try.func88, Try.ntmps88
        obtain ⟨i1, hi1, hy0, hy1, hy2⟩ := info_parts Try.infoWr
        go_wp2
        go_loopw [5, 21] (fun kv i wr => ∃ (j : Nat) (fp : List Nat), j ≤ 20 ∧ i = .int .i64 j ∧ (rowTy (loanTy w tWr) 108).Mine wr [kv] (keptD 0 cs j) fp ∧ (∀ b ∈ fp, w.heap.size ≤ b) ∧ Below w.heap.size w wr) (fun _ i _ => 20 - (intOf i).toNat)
        case atStart => exact ⟨0, [w.heap.size], Nat.zero_le _, rfl, lit0_mine _, by simp, (Below.refl _ _).alloc (Nat.le_refl _) _⟩
        case round =>
          obtain ⟨j, fp, hj, rfl, hK, hfp, hb⟩ := hrel
          have hs := hb.size
          by_cases hjn : j < 20
          · have k1 : (0 : Int) ≤ (j : Int) := by omega
            have k2 : (j : Int) < (20 : Int) := by omega
            rcases pairs_at rfl h with h0' | ⟨b, off, rfl, hbl, hcs⟩
            · omega
            have hdj : cs[j]? = some (cs[j]'(by omega)) := List.getElem?_eq_getElem (by omega)
            generalize cs[j]'(by omega) = x at hdj
            obtain ⟨u0, u1, hv0, hv1, hrv⟩ := hcs j x hdj
            obtain ⟨rfl, hrv'⟩ := wr_rd hrv
            obtain ⟨av, cv, rfl⟩ := row_shape hrv'
            have p0 := (hb.cell (p := ⟨b, off + j * 2, none⟩) hbl).trans hv0
            have p1 := (hb.cell (p := ⟨b, off + j * 2 + 1, none⟩) hbl).trans hv1
            obtain ⟨x0, x1⟩ := x
            simp only at p0 p1 hrv hrv'
            have hlt := hK.lt
            have bA : Below w.heap.size w (wr.alloc (.cells #[.int .i64 x0, .slice av x1.length cv] 108)) := hb.alloc hs _
            have bB : Below w.heap.size w ((wr.alloc (.cells #[.int .i64 x0, .slice av x1.length cv] 108)).alloc (.cells #[.int .i64 x0, .slice av x1.length cv] 108)) := bA.alloc bA.size _
            have zA : (wr.alloc (.cells #[.int .i64 x0, .slice av x1.length cv] 108)).heap.size = wr.heap.size + 1 := by simp
            have zB : ((wr.alloc (.cells #[.int .i64 x0, .slice av x1.length cv] 108)).alloc (.cells #[.int .i64 x0, .slice av x1.length cv] 108)).heap.size = wr.heap.size + 2 := by simp
            have KA := hidden (hK.alloc (.cells #[.int .i64 x0, .slice av x1.length cv] 108))
            have KB := hidden ((hK.alloc (.cells #[.int .i64 x0, .slice av x1.length cv] 108)).alloc (.cells #[.int .i64 x0, .slice av x1.length cv] 108))
            have BA := hidden bA
            have BB := hidden bB
            have ZA := hidden zA
            have ZB := hidden zB
            have HFP := hidden hfp
            have nn := news_new (wr.alloc (.cells #[.int .i64 x0, .slice av x1.length cv] 108)) #[.int .i64 x0, .slice av x1.length cv] 108
            rw [zA] at nn
            have NN := hidden nn
            have LN : Hid ((loanTy w tWr).Mine ((wr.alloc (.cells #[.int .i64 x0, .slice av x1.length cv] 108)).alloc (.cells #[.int .i64 x0, .slice av x1.length cv] 108)) [.int .i64 x0, .slice av x1.length cv] (x0, x1) []) := ⟨⟨hrv, rfl⟩, by simp⟩
            have hkl := keptD_length 0 cs j
            have L1 : Hid ((keptD 0 cs j).length + 1 ≤ maxLen) := by unfold Hid maxLen; omega
            have L2 : Hid (((keptD 0 cs j).length + 1) * 32 ≤ 140737488355328) := by unfold Hid; omega
            clear hK hfp hb hcs hv0 hv1 hrv' bA bB zA zB nn hlt hkl
            have hbit := bit_zero j
            have HS := hidden (keptD_not (cs := cs) hbit)
            have hbw : (bits BinOp.and IntKind.i64 0 1 == 1) = false := by decide
            clear hbit hdj
            go_wp2
            go_roundw
            case rel => exact ⟨j + 1, fp, by omega, by go_num, by rw [HS.out]; exact KA.out, HFP.out, BA.out⟩
            case measure => simp [intOf]; omega
          · have e : j = 20 := by omega
            have HE := hidden e
            go_wp2
            go_ret
            exact ⟨_, rfl, by rw [← HE.out]; exact row_unloan hb hK, hb⟩


end Go.Proofs.Ytlcjfgmmjkandaa

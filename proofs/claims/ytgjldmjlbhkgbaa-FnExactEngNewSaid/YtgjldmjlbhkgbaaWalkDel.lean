/-
  The walks of slices.DeleteFunc and slices.IndexFunc over a slice of int with WriteSec's closure (is it this number?): what is left without that number, in place. Condition: at most 2097152 elements.
-/
import Derived.Test.YtgjldmjlbhkgbaaStore
import Derived.Lib.SliceRun
namespace Go.Proofs.Ytgjldmjlbhkgbaa
open Go.RowKit

/-- A slice of numbers of one's own, by its one block. -/
theorem ints_row {w : World} {v : Value} {zs : List Int} {f : List Nat} (h : tIntS.ow w [v] zs f) : (v = .slice none 0 0 ∧ zs = [] ∧ f = []) ∨ ∃ g cap, v = .slice (some ⟨g, 0, none⟩) zs.length cap ∧ f = [g] ∧ Go.Proofs.Ytgjldmjlbhkgbaa.Own .i64 3 w g (g + 1) v zs := by
  rcases h with ⟨h1, h2, h3⟩ | ⟨b, cap, cur, fps, h1, h2, h3, h4, h5, h6, h7, h8⟩
  · exact .inl ⟨by simpa using h1, h2, h3⟩
  · have hv : v = .slice (some ⟨b, 0, none⟩) zs.length cap := by simpa using h1
    have hfl : fps.flatten = [] := by
      rw [List.flatten_eq_nil_iff]
      intro f' hf'
      obtain ⟨i, hi⟩ := List.mem_iff_getElem?.1 hf'
      have hil : i < zs.length := by rw [← h7]; exact (List.getElem?_eq_some_iff.1 hi).1
      obtain ⟨f2, hf2, _, h10⟩ := h8 i _ (List.getElem?_eq_getElem hil)
      rw [hi] at hf2
      simp at hf2
      rw [hf2]
      exact h10
    have h5' : cur.size = cap * 1 := h5
    refine .inr ⟨b, cap, hv, by rw [h6, hfl], ⟨by simp, .inr ⟨b, cap, cur, hv, Nat.le_refl _, h4, h2, by unfold maxLen; exact h3, h5', ?_⟩⟩, fun g hg => by rw [hv] at hg; simp [Value.ownBlock] at hg; omega⟩
    apply List.ext_getElem?
    intro i
    rw [List.getElem?_take, List.getElem?_map]
    by_cases hi : i < zs.length
    · obtain ⟨f2, _, h9, _⟩ := h8 i _ (List.getElem?_eq_getElem hi)
      have h9' : (cur.toList.drop (i * 1)).take 1 = [.int .i64 zs[i]] := h9
      have : ((cur.toList.drop (i * 1)).take 1)[0]? = some (.int .i64 zs[i]) := by rw [h9']; rfl
      rw [List.getElem?_take, if_pos (by omega), List.getElem?_drop] at this
      rw [if_pos (by omega), List.getElem?_eq_getElem hi]
      simpa using this
    · rw [if_neg (by omega), List.getElem?_eq_none (by omega)]
      rfl

/-- The numbers without one. -/
def filt (zs : List Int) (n : Int) : List Int := zs.filter fun x => decide (x ≠ n)
theorem filt_none {zs : List Int} {n : Int} (h : ∀ x ∈ zs, x ≠ n) : filt zs n = zs := by
  unfold filt
  rw [List.filter_eq_self]
  intro x hx
  simp [h x hx]
theorem filt_snoc (zs : List Int) (x n : Int) : filt (zs ++ [x]) n = if x = n then filt zs n else filt zs n ++ [x] := by
  unfold filt
  rw [List.filter_append]
  by_cases h : x = n <;> simp [h]
theorem filt_length (zs : List Int) (n : Int) : (filt zs n).length ≤ zs.length := List.length_filter_le _ _

theorem mine_of_own {w : World} {g n cap : Nat} {zs : List Int} (h : Own .i64 3 w g (g + 1) (.slice (some ⟨g, 0, none⟩) n cap) zs) : tIntS.Own w g (g + 1) [.slice (some ⟨g, 0, none⟩) n cap] zs := by
  obtain ⟨fp, m1, m2⟩ := mine_ints h.1
  exact m1.own (fun b hb => by
    have := (m2 b hb).1
    simp [Value.ownBlock] at this
    omega)

/-- A row's tail is cleared. -/
theorem Own.zeros {g n cap : Nat} : ∀ (k i : Nat) (w : World) (L : List Int), Own .i64 3 w g (g + 1) (.slice (some ⟨g, 0, none⟩) n cap) L → i + k ≤ n → ∃ L', Own .i64 3 (w.setCells g i (List.replicate k (.int .i64 0))) g (g + 1) (.slice (some ⟨g, 0, none⟩) n cap) L' ∧ L'.take i = L.take i ∧ But g (g + 1) w (w.setCells g i (List.replicate k (.int .i64 0)))
  | 0, i, w, L, h, _ => ⟨L, h, rfl, But.refl _ _ _⟩
  | k + 1, i, w, L, h, hk => by
    obtain ⟨_, _, h1, h2⟩ := h.store i (by omega) 0
    obtain ⟨L', h3, h4, h5⟩ := Own.zeros k (i + 1) _ _ h1 (by omega)
    refine ⟨L', h3, ?_, h2.trans h5⟩
    have := congrArg (List.take i) h4
    rw [List.take_take, List.take_take, Nat.min_eq_left (by omega)] at this
    rw [this]
    apply List.ext_getElem?
    intro m
    rw [List.getElem?_take, List.getElem?_take]
    by_cases hm : m < i
    · rw [if_pos hm, if_pos hm, List.getElem?_set_ne (by omega)]
    · rw [if_neg hm, if_neg hm]
/-- .. and cut off. -/
theorem Own.cut {w : World} {g n cap i : Nat} {L : List Int} (h : Own .i64 3 w g (g + 1) (.slice (some ⟨g, 0, none⟩) n cap) L) (hi : i ≤ n) : Own .i64 3 w g (g + 1) (.slice (some ⟨g, 0, none⟩) i cap) (L.take i) := by
  have hl := h.length
  obtain ⟨h1, h2⟩ := h
  refine ⟨⟨by simp, ?_⟩, fun b hb => by simp [Value.ownBlock] at hb; omega⟩
  rcases h1.2 with ⟨hv, _⟩ | ⟨g', cap', cur, hv, hb, hg, hnc, hcm, hcs, ht⟩
  · simp at hv
  · simp only [Value.slice.injEq, Option.some.injEq, Addr.mk.injEq, and_true] at hv
    obtain ⟨rfl, hv2, rfl⟩ := hv
    refine .inr ⟨g, cap, cur, by rw [List.length_take, Nat.min_eq_left (by omega)], hb, hg, by rw [List.length_take]; omega, hcm, hcs, ?_⟩
    rw [List.length_take, Nat.min_eq_left (by omega), List.map_take, ← ht, List.take_take, hl]
    congr 1
    omega

theorem del_any (w : World) (b n : Int) (B : Nat) (hc : w.cell? ⟨B, 0, none⟩ = some (.int .i64 n)) :
    Calls Try.prog 72 #[.int .i64 b, .pointer (some ⟨B, 0, none⟩)] w fun e w' => e = .returned (.bool (decide (b = n))) ∧ Same w w' := by
  go_enter Try.func72, Try.ntmps72
  go_wp2
  go_ret
  exact ⟨ret_bool (by by_cases h : b = n <;> simp [h]), Same.refl _⟩

set_option maxHeartbeats 400000 in
theorem indexFunc_any (w : World) (a : Option Addr) (len cap : Nat) (zs : List Int) (n : Int) (B : Nat) (hc : w.cell? ⟨B, 0, none⟩ = some (.int .i64 n)) (hz : zs.length = len) (hr : Reads .i64 w a zs) (hlen : len ≤ 2097152) :
    Calls Try.prog 80 #[.slice a len cap, .func (Fn.func 72) #[] #[.pointer (some ⟨B, 0, none⟩)]] w fun e w' => ((e = .returned (.int .i64 (-1)) ∧ ∀ x ∈ zs, x ≠ n) ∨ ∃ j, j < len ∧ e = .returned (.int .i64 j) ∧ zs[j]? = some n ∧ ∀ x ∈ zs.take j, x ≠ n) ∧ Same w w' := by
  go_enter Try.func80, Try.ntmps80
  go_wp2
  go_loopw [8] (fun i wr => ∃ j : Nat, j ≤ len ∧ i = .int .i64 j ∧ (∀ x ∈ zs.take j, x ≠ n) ∧ Same w wr) (fun i _ => len - (intOf i).toNat)
  case atStart => exact ⟨0, Nat.zero_le _, rfl, by simp, Same.refl _⟩
  case round =>
    obtain ⟨j, hj, rfl, ht, hs⟩ := hrel
    by_cases hlt : j < len
    · rcases hr.cases with h0 | ⟨b, off, rfl, hbl, hcz⟩
      · omega
      have hc1 := (hs.cell _).trans (hcz j (by omega))
      have hx : zs[j]? = some (zs.getD j 0) := by rw [List.getD_eq_getElem?_getD, List.getElem?_eq_getElem (by omega)]; rfl
      have htk : zs.take (j + 1) = zs.take j ++ [zs.getD j 0] := by rw [List.take_add_one, hx]; rfl
      generalize zs.getD j 0 = x at hc1 hx htk
      have hcc := (hs.cell ⟨B, 0, none⟩).trans hc
      have HT := hidden ht
      have HTK := hidden htk
      have HX := hidden hx
      clear hcz ht htk hx
      go_wp2_with fail
      refine (del_any _ _ n B hcc).mono ?_
      rintro e w1 ⟨rfl, hs1⟩
      by_cases hxn : x = n
      · subst hxn
        have hd : decide (x = x) = true := by simp
        go_wp2
        go_ret
        exact ⟨.inr ⟨j, hlt, rfl, HX.out, HT.out⟩, hs.trans hs1⟩
      · have hd : decide (x = n) = false := by simp [hxn]
        go_wp2
        go_roundw
        case rel => exact ⟨j + 1, by omega, by go_num, by
          rw [HTK.out]
          intro y hy
          rcases List.mem_append.1 hy with hy | hy
          · exact HT.out y hy
          · simp at hy
            rw [hy]
            exact hxn, hs.trans hs1⟩
        case measure => simp [intOf]; omega
    · go_wp2
      go_ret
      have e : j = len := by omega
      subst e
      rw [List.take_of_length_le (by omega)] at ht
      exact ⟨.inl ⟨rfl, ht⟩, hs⟩

set_option maxHeartbeats 800000 in
theorem deleteFunc_any (w : World) (lo hi : Nat) (a : Option Addr) (len cap : Nat) (zs : List Int) (n : Int) (B : Nat) (h : tIntS.Own w lo hi [.slice a len cap] zs) (hc : w.cell? ⟨B, 0, none⟩ = some (.int .i64 n)) (hB : B < lo ∨ hi ≤ B) (hlen : len ≤ 2097152) :
    Calls Try.prog 71 #[.slice a len cap, .func (Fn.func 72) #[] #[.pointer (some ⟨B, 0, none⟩)]] w fun e w' => ∃ a' c', e = .returned (.slice a' (filt zs n).length c') ∧ tIntS.Own w' lo hi [.slice a' (filt zs n).length c'] (filt zs n) ∧ But lo hi w w' := by
  obtain ⟨hr, hl, _, _⟩ := ints_rd h.rd
  go_enter Try.func71, Try.ntmps71
  go_wp2_with fail
  refine (indexFunc_any _ _ _ _ zs n B hc hl hr hlen).mono ?_
  rintro e w1 ⟨hcase, hs1⟩
  rcases hcase with ⟨rfl, hnone⟩ | ⟨i, hi1, rfl, hxi, hpre⟩
  · have HF := hidden (filt_none hnone)
    have H1 := hidden (h.same hs1)
    have HB := hidden (But.of_below (lo := lo) (hi := hi) (hs1.below _))
    clear hnone
    go_wp2
    go_ret
    exact ⟨a, cap, by rw [HF.out, hl]; rfl, by rw [HF.out, hl]; exact H1.out, HB.out⟩
  · obtain ⟨g, hgl, hgh, rfl, ho⟩ : ∃ g, lo ≤ g ∧ g < hi ∧ a = some ⟨g, 0, none⟩ ∧ Own .i64 3 w g (g + 1) (.slice (some ⟨g, 0, none⟩) len cap) zs := by
      obtain ⟨fp, hm, hfr⟩ := h.mine
      rcases ints_row hm.1 with ⟨hv, _, _⟩ | ⟨g, cap', hv, hf, ho⟩
      · simp at hv
        omega
      · simp only [Value.slice.injEq] at hv
        obtain ⟨rfl, rfl, rfl⟩ := hv
        have := hfr g (by rw [hf]; simp)
        exact ⟨g, this.1, this.2, rfl, ho⟩
    have hcap : len ≤ cap := (row_length h.rd).2.1
    have hcm : cap ≤ 9223372036854775807 := (row_length h.rd).2.2
    have hBs : B < w.heap.size := by
      rcases Nat.lt_or_ge B w.heap.size with h' | h'
      · exact h'
      · simp [World.cell?, Array.getElem?_eq_none h'] at hc
    have hBg : B ≠ g := by omega
    have HST : Hid (zs.take i = filt (zs.take (i + 1)) n) := by
      unfold Hid
      rw [List.take_add_one, hxi]
      show _ = filt (zs.take i ++ [n]) n
      rw [filt_snoc, if_pos rfl, filt_none hpre]
    have O1 := hidden (ho.same hs1)
    have HB1 := hidden (But.of_below (lo := g) (hi := g + 1) (hs1.below _))
    clear hxi hpre ho hr
    have hne : ((i : Int) == -1) = false := by simp
    have zr : ∀ w, (zeroValue 3).run Try.prog w = .ok (.int .i64 0) w := fun w => by kernel_rfl
    go_wp2
    go_loopw [5, 6] (fun iv jv wr => ∃ (j i : Nat) (L : List Int), j ≤ len ∧ jv = .int .i64 j ∧ iv = .int .i64 i ∧ i < j ∧ Own .i64 3 wr g (g + 1) (.slice (some ⟨g, 0, none⟩) len cap) L ∧ L.take i = filt (zs.take j) n ∧ L.drop j = zs.drop j ∧ But g (g + 1) w wr) (fun _ jv _ => len - (intOf jv).toNat)
    case atStart => exact ⟨i + 1, i, zs, by omega, by go_num, rfl, by omega, O1.out, HST.out, rfl, HB1.out⟩
    case round =>
      obtain ⟨j, i, L, hj, rfl, rfl, hij, ho, ht, hd, hb⟩ := hrel
      have hLl := ho.length
      by_cases hlt : j < len
      · have hx : zs[j]? = some (L.getD j 0) := by
          have h1 : (L.drop j)[0]? = (zs.drop j)[0]? := by rw [hd]
          rw [List.getElem?_drop, List.getElem?_drop, Nat.add_zero] at h1
          rw [← h1, List.getD_eq_getElem?_getD, List.getElem?_eq_getElem (by omega)]
          rfl
        have htk : zs.take (j + 1) = zs.take j ++ [L.getD j 0] := by rw [List.take_add_one, hx]; rfl
        have hcj := (ho.store j hlt 0).1
        have hdd : L.drop (j + 1) = zs.drop (j + 1) := by
          have := congrArg (List.drop 1) hd
          rw [List.drop_drop, List.drop_drop] at this
          exact this
        have hLj : L[j]? = some (L.getD j 0) := by rw [List.getD_eq_getElem?_getD, List.getElem?_eq_getElem (by omega)]; rfl
        generalize L.getD j 0 = x at hx htk hcj hLj
        have hcB := (cell_kept (hb.block B hBs (by omega)) 0).trans hc
        obtain ⟨hci, hfi, hst, hbt⟩ := ho.store i (by omega) x
        have hti : (L.set i x).take (i + 1) = L.take i ++ [x] := by
          rw [List.take_add_one, List.getElem?_set_self (by omega)]
          congr 1
          apply List.ext_getElem?
          intro m
          rw [List.getElem?_take, List.getElem?_take]
          by_cases hm : m < i
          · rw [if_pos hm, if_pos hm, List.getElem?_set_ne (by omega)]
          · rw [if_neg hm, if_neg hm]
        have hdi : (L.set i x).drop (j + 1) = L.drop (j + 1) := by
          apply List.ext_getElem?
          intro m
          rw [List.getElem?_drop, List.getElem?_drop, List.getElem?_set_ne (by omega)]
        generalize L.getD i 0 = y at hci
        have HO := hidden ho
        have HT := hidden ht
        have HD := hidden hdd
        have HTK := hidden htk
        have HST2 := hidden hst
        have HBT := hidden hbt
        have HTI := hidden hti
        have HDI := hidden hdi
        have HB := hidden hb
        clear ho ht hd hdd htk hst hbt hti hdi hb hx hLj
        go_wp2_with fail
        refine (del_any _ _ n B hcB).mono ?_
        rintro e w2 ⟨rfl, hs2⟩
        have hci2 := (hs2.cell _).trans hci
        have hfi2 : w2.frozen? ⟨g, i, none⟩ = false := by rw [← hfi]; exact World.frozen?_of_block (by rw [hs2.heap])
        by_cases hxn : x = n
        · subst hxn
          have hdc : decide (x = x) = true := by simp
          go_wp2
          go_roundw
          case rel => exact ⟨j + 1, i, L, by omega, by go_num, rfl, by omega, HO.out.same hs2, by rw [HTK.out, filt_snoc, if_pos rfl]; exact HT.out, HD.out, HB.out.trans (But.of_below (hs2.below _))⟩
          case measure => simp [intOf]; omega
        · have hdc : decide (x = n) = false := by simp [hxn]
          have OS := hidden ((HO.out.same hs2).store i (by omega) x)
          go_wp2
          go_roundw
          case rel => exact ⟨j + 1, i + 1, L.set i x, by omega, by go_num, by go_num, by omega, OS.out.2.2.1, by rw [HTI.out, HTK.out, filt_snoc, if_neg hxn, HT.out], by rw [HDI.out]; exact HD.out, (HB.out.trans (But.of_below (hs2.below _))).trans OS.out.2.2.2⟩
          case measure => simp [intOf]; omega
      · have e : len = j := by omega
        subst e
        rw [List.take_of_length_le (l := zs) (by omega)] at ht
        have hil : i = (filt zs n).length := by rw [← ht, List.length_take]; omega
        have hclr : ∀ ty, (Builtin.clear_ #[55] ty #[.slice (some ⟨g, i, none⟩) (len - i) (cap - i)]).run Try.prog wr = .ok (.tuple #[]) (wr.setCells g i (List.replicate (len - i) (.int .i64 0))) := fun ty =>
          Go.Lib.run_clear_slice wr 55 3 ty (.int .i64 0) Try.underlying55 zr rfl rfl g i (len - i) (cap - i) (by omega) (fun m hm => by rw [(ho.store (i + m) (by omega) 0).1]; rfl) (fun m hm => (ho.store (i + m) (by omega) 0).2.1)
        obtain ⟨L', o1, t1, b1⟩ := Own.zeros (len - i) i wr L ho (by omega)
        have o2 := o1.cut (i := i) (by omega)
        rw [t1, ht] at o2
        have HF := hidden ((mine_of_own o2).widen (lo' := lo) (hi' := hi) (by omega) (by omega))
        have HBF := hidden (hb.trans b1)
        have HIL := hidden hil
        have k1 : (0 : Int) ≤ (i : Int) := by omega
        have k2 : (i : Int) ≤ (len : Int) := by omega
        have k3 : (len : Int) ≤ (cap : Int) := by omega
        clear o1 o2 t1 b1 ho ht hd hb hil
        go_wp2
        go_ret
        exact ⟨some ⟨g, 0, none⟩, cap, by rw [← HIL.out]; rfl, by rw [← HIL.out]; exact HF.out, ⟨HBF.out.os, HBF.out.tape, HBF.out.output, HBF.out.size, fun k hk ho => HBF.out.block k hk (by omega)⟩⟩

end Go.Proofs.Ytgjldmjlbhkgbaa

/-
  A Super is eight numbers; both looks whether it is right (the program's and the specification's) answer as the definition here says. No condition.
-/
import Derived.Test.YtjmjianlcoleaaaGreatWalk8a
import Derived.Test.YtjmjianlcoleaaaGreatWalk8d
import Derived.Test.YtjmjianlcoleaaaGreatWalkMems
import Derived.Test.YtjmjianlcoleaaaGreatWalkArr
import Derived.Test.YtjmjianlcoleaaaGreatArr7
import Derived.Test.YtjmjianlcoleaaaGreatPut8
import Derived.Test.YtjmjianlcoleaaaGreatWalkRead
import Derived.Test.YtjmjianlcoleaaaGreatWalkL2Has
import Derived.Test.YtjmjianlcoleaaaGreatWalkNewest
import Derived.Test.YtjmjianlcoleaaaGreatWalkCopyWords
import Derived.Test.YtjmjianlcoleaaaGreatWalkArrOk3
import Derived.BigQuiet
import Derived.WalkSmall
import Derived.Handy
import Derived.Test.YtjmjianlcoleaaaGreatWalkWords
import Derived.Test.YtjmjianlcoleaaaGreatHeld
import Derived.Test.YtjmjianlcoleaaaGreatWalkGeo
import Derived.Test.YtjmjianlcoleaaaGreatBox

/-
  The program's list of entries in order: what tells an entry's stripe, and the search by it (slices.BinarySearchFunc): where a stripe's entry stands or would stand, and whether it is there. Conditions: at most 2097152 entries, ascending by stripe; stripes and what is sought lie in 0 .. 100.
-/
namespace Go.Proofs.YtjmjianlcoleaaaGreat
open Go.RowKit

/-- Ascending by stripe, in 0 .. 100. -/
def Asc8 (ds : List (Int × List Int)) : Prop := (∀ (i j : Nat) (e e' : Int × List Int), i < j → ds[i]? = some e → ds[j]? = some e' → e.1 < e'.1) ∧ ∀ (i : Nat) (e : Int × List Int), ds[i]? = some e → 0 ≤ e.1 ∧ e.1 ≤ 100
/-- The place of a stripe, and whether its entry stands there. -/
def Spot (ds : List (Int × List Int)) (t : Int) (k : Nat) (b : Bool) : Prop :=
  k ≤ ds.length ∧ (∀ (i : Nat) (e : Int × List Int), i < k → ds[i]? = some e → e.1 < t) ∧ (∀ (i : Nat) (e : Int × List Int), k ≤ i → ds[i]? = some e → t ≤ e.1) ∧ ((b = true ∧ ∃ e, ds[k]? = some e ∧ e.1 = t) ∨ (b = false ∧ ∀ e, ds[k]? = some e → ¬ e.1 = t))
theorem Spot.hit {ds : List (Int × List Int)} {t : Int} {k : Nat} (h : Spot ds t k true) : at8 ds t = (k : Int) ∧ ∃ e, ds[k]? = some e ∧ e.1 = t := by
  obtain ⟨h1, h2, h3, h4⟩ := h
  rcases h4 with ⟨_, e, he, ht⟩ | ⟨h4, _⟩
  · exact ⟨at8_hit he ht (fun i e' hi he' h' => by have := h2 i e' hi he'; omega), e, he, ht⟩
  · cases h4
theorem Spot.miss {ds : List (Int × List Int)} {t : Int} {k : Nat} (ha : Asc8 ds) (h : Spot ds t k false) : at8 ds t = -1 := by
  obtain ⟨h1, h2, h3, h4⟩ := h
  rcases h4 with ⟨h4, _⟩ | ⟨_, h4⟩
  · cases h4
  · refine at8_none (fun i e hi he h' => ?_)
    rcases Nat.lt_trichotomy i k with h | h | h
    · have := h2 i e h he; omega
    · subst h; exact h4 e he h'
    · have hk : k < ds.length := by omega
      have hkk := List.getElem?_eq_getElem hk
      have h5 := h3 k _ (Nat.le_refl _) hkk
      have h6 := ha.1 k i _ e h hkk he
      omega

/-- What a search answers. -/
def Found (ds : List (Int × List Int)) (t : Int) (w : World) (e : Ending) (w' : World) : Prop := ∃ (k : Nat) (r : Bool), e = .returned (.tuple #[.int .i64 k, .bool r]) ∧ Spot ds t k r ∧ Below w.heap.size w w'

theorem stripe_any (w : World) (y : Int) (a : Option Addr) (n c : Nat) : Calls Tryz.prog 219 #[.agg #[.int .i64 y, .slice a n c]] w fun e w' => e = .returned (.int .i64 y) ∧ Below w.heap.size w w' := by
  have hA := new_below w (.cells #[.int .i64 y, .slice a n c] 65)
  have xm := Box.new w 65 #[.int .i64 y, .slice a n c]
  have c0 : (w.alloc (.cells #[.int .i64 y, .slice a n c] 65)).cell? ⟨w.heap.size, 0, none⟩ = some (.int .i64 y) := xm.cell 0
  have HA := hidden hA
  clear hA xm
  go_enter Tryz.func219, Tryz.ntmps219
  go_wp2
  go_ret
  exact ⟨rfl, HA.out⟩

theorem find1_any (w : World) (y t : Int) (a : Option Addr) (n c : Nat) (hy : 0 ≤ y ∧ y ≤ 100) (ht : 0 ≤ t ∧ t ≤ 100) : Calls Tryz.prog 109 #[.agg #[.int .i64 y, .slice a n c], .int .i64 t] w fun e w' => e = .returned (.int .i64 (y - t)) ∧ Below w.heap.size w w' := by
  have hA := new_below w (.cells #[.int .i64 y, .slice a n c] 65)
  have xm := Box.new w 65 #[.int .i64 y, .slice a n c]
  have c0 : (w.alloc (.cells #[.int .i64 y, .slice a n c] 65)).cell? ⟨w.heap.size, 0, none⟩ = some (.int .i64 y) := xm.cell 0
  have c1 : (w.alloc (.cells #[.int .i64 y, .slice a n c] 65)).cell? ⟨w.heap.size, 1, none⟩ = some (.slice a n c) := xm.cell 1
  have HA := hidden hA
  have gw : IntKind.i64.wrap (y - t) = y - t := IntWalk.i64_in _ (by omega)
  have na : ∀ w, Sem.run Tryz.prog (nilAhead (311 + 1) 65 (.agg #[.int .i64 y, .slice a n c]) "loop.example/g00398/impl.stripe") w = .ok (some false) w := fun w => by kernel_rfl
  clear hA xm
  go_enter Tryz.func109, Tryz.ntmps109
  go_wp2_with fail
  refine (stripe_any _ _ _ _ _).mono ?_
  rintro e w1 ⟨rfl, b1⟩
  have HB := hidden (Below.andThen HA.out b1)
  clear b1 HA c0 c1
  go_wp2
  go_ret
  exact ⟨rfl, HB.out⟩

set_option maxHeartbeats 800000 in
theorem bsearch_any (w : World) (G : TypeId) (a : Option Addr) (len cap : Nat) (ds : List (Int × List Int)) (t : Int) (h1 : (tWrS G).Rd w [.slice a len cap] ds) (hlen : len ≤ 2097152) (ha : Asc8 ds) (ht : 0 ≤ t ∧ t ≤ 100) :
    Calls Tryz.prog 108 #[.slice a len cap, .int .i64 t, .func (Fn.func 109) #[] #[]] w fun e w' => Found ds t w e w' := by
  obtain ⟨hz, _, _⟩ := row_length h1
  have HT := hidden ht
  have HASC := hidden ha
  clear ht ha
  go_enter Tryz.func108, Tryz.ntmps108
  go_wp2
  go_loopw [9, 10] (fun iv jv wr => ∃ (i j : Nat), i ≤ j ∧ j ≤ len ∧ iv = .int .i64 i ∧ jv = .int .i64 j ∧ (∀ q e, q < i → ds[q]? = some e → e.1 < t) ∧ (∀ q e, j ≤ q → ds[q]? = some e → t ≤ e.1) ∧ Below w.heap.size w wr) (fun iv jv _ => (intOf jv).toNat - (intOf iv).toNat)
  case atStart => exact ⟨0, len, Nat.zero_le _, Nat.le_refl _, rfl, rfl, fun q e h => absurd h (by omega), fun q e h he => absurd (List.getElem?_eq_some_iff.1 he).1 (by omega), Below.refl _ _⟩
  case round =>
    obtain ⟨i, j, hij, hj, rfl, rfl, hlo, hhi, hs⟩ := hrel
    by_cases hlt : i < j
    · have k1 : (i : Int) < (j : Int) := by omega
      rcases pairs_at rfl h1 with h0 | ⟨b, off, rfl, hbl, hcs⟩
      · omega
      obtain ⟨m, hm⟩ : ∃ m : Nat, ((i : Int) + (j : Int)) / 2 = (m : Int) := ⟨(i + j) / 2, by omega⟩
      have hm1 : i ≤ m := by omega
      have hm2 : m < j := by omega
      have hdj : ds[m]? = some (ds[m]'(by omega)) := List.getElem?_eq_getElem (by omega)
      generalize ds[m]'(by omega) = d at hdj
      obtain ⟨u0, u1, hv0, hv1, hrv⟩ := hcs m d hdj
      obtain ⟨rfl, hr1⟩ := wr_rd hrv
      obtain ⟨y, ys⟩ := d
      simp only at hv0 hr1
      obtain ⟨a1, c1, rfl⟩ := row_shape hr1
      have hc0 := (hs.cell (p := ⟨b, off + m * 2, none⟩) hbl).trans hv0
      have hc1 := (hs.cell (p := ⟨b, off + m * 2 + 1, none⟩) hbl).trans hv1
      have gw1 : IntKind.i64.wrap ((i : Int) + (j : Int)) = (i : Int) + (j : Int) := IntWalk.i64_in _ (by omega)
      have gw3 : IntKind.i64.wrap (m : Int) = (m : Int) := IntWalk.i64_in _ (by omega)
      have k2 : (0 : Int) ≤ (m : Int) := by omega
      have k3 : (m : Int) < (len : Int) := by omega
      have HLO := hidden hlo
      have HHI := hidden hhi
      have HDJ := hidden hdj
      have HS := hidden hs
      have HY : Hid (0 ≤ y ∧ y ≤ 100) := HASC.out.2 m _ hdj
      clear hlo hhi hcs hv0 hv1 hrv hr1 hdj hs
      go_wp2_with fail
      refine (find1_any _ _ _ _ _ _ HY.out HT.out).mono ?_
      rintro e w1 ⟨rfl, b1⟩
      have HB := hidden (Below.andThen HS.out b1)
      clear b1 HS hc0 hc1
      by_cases hx : y - t < 0
      · go_wp2
        go_roundw
        case rel => exact ⟨m + 1, j, by omega, hj, by go_num, rfl, fun q e hq he => by
          by_cases hqm : q = m
          · subst hqm
            rw [HDJ.out] at he
            simp at he
            subst he
            show y < t
            omega
          · have := HASC.out.1 q m e _ (by omega) he HDJ.out
            have : e.1 < y := this
            omega, HHI.out, HB.out⟩
        case measure => simp [intOf]; omega
      · go_wp2
        go_roundw
        case rel => exact ⟨i, m, hm1, by omega, rfl, rfl, HLO.out, fun q e hq he => by
          by_cases hqm : q = m
          · subst hqm
            rw [HDJ.out] at he
            simp at he
            subst he
            show t ≤ y
            omega
          · have := HASC.out.1 m q _ e (by omega) HDJ.out he
            have : y < e.1 := this
            omega, HB.out⟩
        case measure => simp [intOf]; omega
    · have e : i = j := by omega
      subst e
      by_cases hil : i < len
      · rcases pairs_at rfl h1 with h0 | ⟨b, off, rfl, hbl, hcs⟩
        · omega
        have hdj : ds[i]? = some (ds[i]'(by omega)) := List.getElem?_eq_getElem (by omega)
        generalize ds[i]'(by omega) = d at hdj
        obtain ⟨u0, u1, hv0, hv1, hrv⟩ := hcs i d hdj
        obtain ⟨rfl, hr1⟩ := wr_rd hrv
        obtain ⟨y, ys⟩ := d
        simp only at hv0 hr1
        obtain ⟨a1, c1, rfl⟩ := row_shape hr1
        have hc0 := (hs.cell (p := ⟨b, off + i * 2, none⟩) hbl).trans hv0
        have hc1 := (hs.cell (p := ⟨b, off + i * 2 + 1, none⟩) hbl).trans hv1
        have k2 : (0 : Int) ≤ (i : Int) := by omega
        have k3 : (i : Int) < (len : Int) := by omega
        have HLO := hidden hlo
        have HHI := hidden hhi
        have HDJ := hidden hdj
        have HS := hidden hs
        have HY : Hid (0 ≤ y ∧ y ≤ 100) := HASC.out.2 i _ hdj
        clear hlo hhi hcs hv0 hv1 hrv hr1 hdj hs
        go_wp2_with fail
        refine (find1_any _ _ _ _ _ _ HY.out HT.out).mono ?_
        rintro e w1 ⟨rfl, b1⟩
        have HB := hidden (Below.andThen HS.out b1)
        clear b1 HS hc0 hc1
        by_cases hx : y - t = 0
        · have HP : Hid (Spot ds t i true) := ⟨by omega, HLO.out, HHI.out, .inl ⟨rfl, _, HDJ.out, by show y = t; omega⟩⟩
          go_wp2
          go_ret2
          exact ⟨i, true, by first | rfl | simp [hx], HP.out, HB.out⟩
        · have HP : Hid (Spot ds t i false) := ⟨by omega, HLO.out, HHI.out, .inr ⟨rfl, fun e he h' => by
            rw [HDJ.out] at he
            simp at he
            subst he
            have : y = t := h'
            omega⟩⟩
          have e1 : (y - t == 0) = false := by simpa using hx
          go_wp2
          go_ret2
          exact ⟨i, false, by first | rfl | simp [hx], HP.out, HB.out⟩
      · have HP : Hid (Spot ds t i false) := ⟨by omega, hlo, hhi, .inr ⟨rfl, fun e he => by have := (List.getElem?_eq_some_iff.1 he).1; omega⟩⟩
        have k3 : ¬ (i : Int) < (len : Int) := by omega
        have HS := hidden hs
        clear hlo hhi hs
        go_wp2
        go_ret2
        exact ⟨i, false, by first | rfl | simp, HP.out, HS.out⟩

theorem find_any (w : World) (G : TypeId) (a : Option Addr) (len cap : Nat) (ds : List (Int × List Int)) (t : Int) (h1 : (tWrS G).Rd w [.slice a len cap] ds) (hlen : len ≤ 2097152) (ha : Asc8 ds) (ht : 0 ≤ t ∧ t ≤ 100) :
    Calls Tryz.prog 71 #[.slice a len cap, .int .i64 t] w fun e w' => Found ds t w e w' := by
  go_enter Tryz.func71, Tryz.ntmps71
  go_wp2_with fail
  refine (bsearch_any _ G _ _ _ ds t h1 hlen ha ht).mono ?_
  rintro e w1 ⟨k, r, rfl, hp, b1⟩
  have HP := hidden hp
  have HB := hidden b1
  clear hp b1 h1 ha ht
  go_wp2
  go_ret2
  exact ⟨k, r, rfl, HP.out, HB.out⟩

/-- What asking for an entry answers. -/
def Asked (ds : List (Int × List Int)) (t : Int) (Q : Nat → List Int → Option Addr → Nat → Prop) (w : World) (e : Ending) (w' : World) : Prop :=
  ((at8 ds t = -1 ∧ e = .returned (.tuple #[.agg #[.int .i64 0, .slice none 0 0], .bool false])) ∨ ∃ (k : Nat) (ys : List Int) (a' : Option Addr) (c' : Nat), at8 ds t = (k : Int) ∧ ds[k]? = some (t, ys) ∧ e = .returned (.tuple #[.agg #[.int .i64 t, .slice a' ys.length c'], .bool true]) ∧ Q k ys a' c') ∧ Below w.heap.size w w'
/-- A row of entries, entry by entry: its cells, and what is known of each. -/
def EntsSo (w : World) (a : Option Addr) (ds : List (Int × List Int)) (Q : Nat → List Int → Option Addr → Nat → Prop) : Prop :=
  ∀ (i : Nat) (d : Int × List Int), ds[i]? = some d → ∃ (b off : Nat) (a' : Option Addr) (c' : Nat), a = some ⟨b, off, none⟩ ∧ b < w.heap.size ∧ w.cell? ⟨b, off + i * 2, none⟩ = some (.int .i64 d.1) ∧ w.cell? ⟨b, off + i * 2 + 1, none⟩ = some (.slice a' d.2.length c') ∧ Q i d.2 a' c'
theorem ents_so {w : World} {G : TypeId} {a : Option Addr} {n cap : Nat} {ds : List (Int × List Int)} (h : (tWrS G).Rd w [.slice a n cap] ds) : EntsSo w a ds fun _ ys a' c' => tIntS.Rd w [.slice a' ys.length c'] ys := fun i d hd => by
  have hl := (row_length h).1
  have hi := (List.getElem?_eq_some_iff.1 hd).1
  rcases pairs_at rfl h with h0 | ⟨b, off, rfl, hbl, hcs⟩
  · omega
  obtain ⟨u0, u1, hv0, hv1, hrv⟩ := hcs i d hd
  obtain ⟨rfl, hr1⟩ := wr_rd hrv
  obtain ⟨a1, c1, rfl⟩ := row_shape hr1
  exact ⟨b, off, a1, c1, rfl, hbl, hv0, hv1, hr1⟩

theorem of_any (w : World) (G : TypeId) (a : Option Addr) (len cap : Nat) (ds : List (Int × List Int)) (t : Int) (h1 : (tWrS G).Rd w [.slice a len cap] ds) (hlen : len ≤ 2097152) (ha : Asc8 ds) (ht : 0 ≤ t ∧ t ≤ 100) (Q : Nat → List Int → Option Addr → Nat → Prop) (hQ : EntsSo w a ds Q) :
    Calls Tryz.prog 49 #[.slice a len cap, .int .i64 t] w fun e w' => Asked ds t Q w e w' := by
  have hA := new_below w (.cells #[.int .i64 0, .slice none 0 0] 65)
  have R0 := Box.new w 65 #[.int .i64 0, .slice none 0 0]
  have zR := R0.lt
  have r1 := h1.below hA
  have HA := hidden hA
  have hl := (row_length h1).1
  clear h1
  go_enter Tryz.func49, Tryz.ntmps49
  go_wp2_with fail
  generalize w.alloc (.cells #[.int .i64 0, .slice none 0 0] 65) = W at hA R0 zR r1 HA ⊢
  refine (find_any _ G _ _ _ ds t r1 hlen ha ht).mono ?_
  rintro e w1 ⟨k, r, rfl, hp, b1⟩
  have R1 := R0.below b1 zR
  have B1 := Below.andThen hA b1
  have z1 := b1.size
  clear R0 r1 b1 hA HA
  cases r
  · have HM := hidden (hp.miss ha)
    have BN := new_below w1 (.cells #[.int .i64 0, .slice none 0 0] 65)
    have N1 := Box.new w1 65 #[.int .i64 0, .slice none 0 0]
    have R2 := R1.below BN R1.lt
    have B2 := Below.andThen B1 BN
    have n0 := N1.cell 0
    have n1 := N1.cell 1
    have s0 := R2.cell 0
    have s1 := R2.cell 1
    have fz := R2.frozen
    have HB : Hid (Below w.heap.size w (((w1.alloc (.cells #[.int .i64 0, .slice none 0 0] 65)).setCell ⟨w.heap.size, 0, none⟩ (.int .i64 0)).setCell ⟨w.heap.size, 1, none⟩ (.slice none 0 0))) := (B2.setCell (Nat.le_refl _) _).setCell (Nat.le_refl _) _
    clear R1 B1 BN N1 R2 B2 hp hQ ha ht
    go_wp2
    refine bodyPost_ret (v := .tuple #[.agg #[.int .i64 0, .slice none 0 0], .bool false]) (by simp [results, Tryz.results49, go_sem, s0, s1]) rfl ?_
    exact ⟨.inl ⟨HM.out, rfl⟩, HB.out⟩
  · obtain ⟨hat, d, hdk, hdt⟩ := hp.hit
    obtain ⟨y, ys⟩ := d
    simp only at hdt
    subst hdt
    obtain ⟨b, off, a1, c1, rfl, hbl, hv0, hv1, hq⟩ := hQ k _ hdk
    have hc0 := (B1.cell (p := ⟨b, off + k * 2, none⟩) hbl).trans hv0
    have hc1 := (B1.cell (p := ⟨b, off + k * 2 + 1, none⟩) hbl).trans hv1
    have hkl := (List.getElem?_eq_some_iff.1 hdk).1
    have k2 : (0 : Int) ≤ (k : Int) := by omega
    have k3 : (k : Int) < (len : Int) := by omega
    have s0 := R1.cell 0
    have s1 := R1.cell 1
    have fz := R1.frozen
    have HH := hidden hat
    have HK := hidden hdk
    have HQ := hidden hq
    have HB : Hid (Below w.heap.size w ((w1.setCell ⟨w.heap.size, 0, none⟩ (.int .i64 y)).setCell ⟨w.heap.size, 1, none⟩ (.slice a1 ys.length c1))) := (B1.setCell (Nat.le_refl _) _).setCell (Nat.le_refl _) _
    clear R1 B1 hp hQ ha ht hat hdk hq hv0 hv1
    go_wp2
    refine bodyPost_ret (v := .tuple #[.agg #[.int .i64 y, .slice a1 ys.length c1], .bool true]) (by simp [results, Tryz.results49, go_sem, s0, s1]) rfl ?_
    exact ⟨.inr ⟨k, ys, a1, c1, HH.out, HK.out, rfl, HQ.out⟩, HB.out⟩

end Go.Proofs.YtjmjianlcoleaaaGreat

/-
  What the functions of chapter 8 answer. No condition; nothing of the program is named here.
-/
namespace Go.Proofs.YtjmjianlcoleaaaGreat
open Go.RowKit

/-- Why nothing can be asked. -/
def ask8 (x : ArrN) (ms : List MemD) (ds : List (Int × List Int)) : Int := if arrB x ms ds = true then (if x.down = true then 6 else 0) else 1
/-- .. of a stripe, of a block. -/
def scode8 (x : ArrN) (ms : List MemD) (ds : List (Int × List Int)) (s : Int) : Int := if ask8 x ms ds = 0 then (if stripeB x.n x.s s = true then 0 else 2) else ask8 x ms ds
def code8 (x : ArrN) (ms : List MemD) (ds : List (Int × List Int)) (b : Int) : Int := if ask8 x ms ds = 0 then (if blockB x.n x.s b = true then 0 else 2) else ask8 x ms ds
theorem ask_good {x : ArrN} {ms : List MemD} {ds : List (Int × List Int)} (h : ask8 x ms ds = 0) : arrB x ms ds = true ∧ x.down = false := by
  unfold ask8 at h
  by_cases ha : arrB x ms ds = true
  · rw [if_pos ha] at h
    by_cases hd : x.down = true
    · rw [if_pos hd] at h
      omega
    · exact ⟨ha, by simpa using hd⟩
  · rw [if_neg ha] at h
    omega
theorem arr_geo {x : ArrN} {ms : List MemD} {ds : List (Int × List Int)} (ha : arrB x ms ds = true) : geoB x.n x.s = true := by
  unfold arrB at ha
  simp only [Bool.and_eq_true] at ha
  exact ha.1
theorem code_same {x : ArrN} {ms : List MemD} {ds : List (Int × List Int)} (b : Int) : scode8 x ms ds (stripeN x.n x.s b) = code8 x ms ds b := by
  unfold scode8 code8
  by_cases h : ask8 x ms ds = 0
  · rw [if_pos h, if_pos h]
    have hg := arr_geo (ask_good h).1
    by_cases hb : blockB x.n x.s b = true
    · obtain ⟨h1, h2, _⟩ := block_in hg hb
      rw [if_pos hb, if_pos]
      unfold stripeB
      rw [hg, inB_iff.2 ⟨h1, h2⟩]
      rfl
    · rw [if_neg hb, if_neg]
      unfold stripeB stripeN
      rw [if_neg hb, hg, Bool.true_and, inB_iff]
      omega
  · rw [if_neg h, if_neg h]
theorem code_gb {x : ArrN} {ms : List MemD} {ds : List (Int × List Int)} {b : Int} (h : code8 x ms ds b = 0) : ask8 x ms ds = 0 ∧ arrB x ms ds = true ∧ x.down = false ∧ blockB x.n x.s b = true := by
  unfold code8 at h
  by_cases ha : ask8 x ms ds = 0
  · rw [if_pos ha] at h
    by_cases hb : blockB x.n x.s b = true
    · exact ⟨ha, (ask_good ha).1, (ask_good ha).2, hb⟩
    · rw [if_neg hb] at h
      omega
  · rw [if_neg ha] at h
    exact absurd h ha
theorem scode_gs {x : ArrN} {ms : List MemD} {ds : List (Int × List Int)} {s : Int} (h : scode8 x ms ds s = 0) : ask8 x ms ds = 0 ∧ arrB x ms ds = true ∧ x.down = false ∧ inB s 0 (x.s - 1) = true := by
  unfold scode8 at h
  by_cases ha : ask8 x ms ds = 0
  · rw [if_pos ha] at h
    by_cases hb : stripeB x.n x.s s = true
    · refine ⟨ha, (ask_good ha).1, (ask_good ha).2, ?_⟩
      unfold stripeB at hb
      simp only [Bool.and_eq_true] at hb
      exact hb.2
    · rw [if_neg hb] at h
      omega
  · rw [if_neg ha] at h
    exact absurd h ha
/-- A right array's entries ascend. -/
theorem arr_asc {x : ArrN} {ms : List MemD} {ds : List (Int × List Int)} (ha : arrB x ms ds = true) : Asc8 ds := by
  have hg := arr_geo ha
  obtain ⟨_, _, _, g4⟩ := geoB_iff.1 hg
  unfold arrB entsB at ha
  simp only [Bool.and_eq_true] at ha
  have he := allIx_iff.1 ha.2.2.2.1
  have h1 : ∀ (i : Nat) (e e' : Int × List Int), ds[i]? = some e → ds[i + 1]? = some e' → e.1 < e'.1 := fun i e e' h h' => by
    have := he (i + 1) e' h'
    unfold entAt at this
    simp only [Bool.and_eq_true, Bool.or_eq_true, decide_eq_true_eq, Nat.add_sub_cancel] at this
    rcases this.2.2.2 with h0 | h0
    · omega
    · rw [List.getD_eq_getElem?_getD, h] at h0
      exact h0
  refine ⟨fun i j => ?_, fun i e h => ?_⟩
  · induction j with
    | zero => intro e e' h; omega
    | succ j ih =>
      intro e e' hij h h'
      by_cases hj : i = j
      · subst hj
        exact h1 i e e' h h'
      · have hjl := (List.getElem?_eq_some_iff.1 h').1
        have hjj := List.getElem?_eq_getElem (show j < ds.length by omega)
        have a1 := ih e _ (by omega) h hjj
        have a2 := h1 j _ e' hjj h'
        omega
  · have := he i e h
    unfold entAt at this
    simp only [Bool.and_eq_true] at this
    have := inB_iff.1 this.1
    omega
/-- What GetBlock answers. -/
def get8C (x : ArrN) (ms : List MemD) (ds : List (Int × List Int)) (b : Int) : Int := if code8 x ms ds b = 0 then (if ok8 x ms ds (stripeN x.n x.s b) = true then 0 else 5) else code8 x ms ds b
def get8 (x : ArrN) (ms : List MemD) (ds : List (Int × List Int)) (b : Int) : Int := if code8 x ms ds b = 0 ∧ ok8 x ms ds (stripeN x.n x.s b) = true then (dat8 x ms ds (stripeN x.n x.s b)).getD (indexN x.n x.s b).toNat 0 else 0

end Go.Proofs.YtjmjianlcoleaaaGreat

/-
  What SetBlock answers: plain definitions and lemmas. No condition.
-/
namespace Go.Proofs.YtjmjianlcoleaaaGreat
open Go.RowKit

/-- What SetBlock answers. -/
def set8K (x : ArrN) (ms : List MemD) (ds : List EntD) (b n : Int) : Int := if code8 x ms ds b = 0 then (if isW n = true then set8C x ms ds b else 3) else code8 x ms ds b
def set8O (x : ArrN) (ms : List MemD) (ds : List EntD) (b n : Int) : List EntD := if code8 x ms ds b = 0 ∧ isW n = true then setB8 x ms ds b n else ds
theorem asc_len {ds : List EntD} (h : Asc8 ds) : ds.length ≤ 101 := by
  have h1 : ∀ (i : Nat) (e : EntD), ds[i]? = some e → (i : Int) ≤ e.1 := by
    intro i
    induction i with
    | zero => intro e he; have := h.2 0 e he; omega
    | succ i ih =>
      intro e he
      have hl := (List.getElem?_eq_some_iff.1 he).1
      have hi := List.getElem?_eq_getElem (show i < ds.length by omega)
      have a1 := ih _ hi
      have a2 := h.1 i (i + 1) _ e (by omega) hi he
      omega
  by_cases h0 : ds.length = 0
  · omega
  · have hi := List.getElem?_eq_getElem (show ds.length - 1 < ds.length by omega)
    have a1 := h1 _ _ hi
    have a2 := h.2 _ _ hi
    omega

end Go.Proofs.YtjmjianlcoleaaaGreat

/-
  The walk of the laws' mark over slices of disks: every number, flag and word is marked in place, one behind the other. Condition: they weigh at most 2097152, and the first mark and the weight together at most 2097153.
-/
namespace Go.Proofs.YtjmjianlcoleaaaGreat
open Go.RowKit

def cntMD (x : MemD) : Nat := cntSS x.1 + cntWS x.2.1 + 1 + x.2.2.2.length
def markMD (k : Int) (x : MemD) : MemD := (markSS k x.1, markW (k + (cntSS x.1 : Int)) x.2.1, decide ((k + (cntSS x.1 : Int) + (cntWS x.2.1 : Int)) % 3 = 0), marks id (k + (cntSS x.1 : Int) + (cntWS x.2.1 : Int) + 1) x.2.2.2.length)
def markMS (k0 : Int) (d : List MemD) : List MemD := markL cntMD markMD k0 d
def cntMS (d : List MemD) : Nat := sumL (d.map cntMD)
theorem cntMS_le (d : List MemD) : cntMS d ≤ wtMemS d := by
  unfold cntMS wtMemS
  induction d with
  | nil => simp [sumL]
  | cons x d ih =>
    have h1 : cntMD x ≤ wtMem x + 1 := by
      have := Nat.le_of_eq (cntWS_wt x.2.1)
      unfold cntMD wtMem wtIntSS cntSS
      omega
    have e1 : sumL ((x :: d).map cntMD) = cntMD x + sumL (d.map cntMD) := by simp [sumL]
    have e2 : sumL ((x :: d).map wtMem) = wtMem x + sumL (d.map wtMem) := by simp [sumL]
    rw [e1, e2, List.length_cons]
    omega

set_option maxHeartbeats 6400000 in
theorem markMemS_fp (w : World) (a : Option Addr) (n cap : Nat) (d : List MemD) (k0 : Int) (fp : List Nat) (h : (tMemS 123 87).Mine w [.slice a n cap] d fp) (hw : wtMemS d ≤ 2097152) (hk : 0 ≤ k0) (hk' : k0 + (wtMemS d : Int) ≤ 2097153) :
    Calls Tryz.prog 42 #[.slice a n cap, .int .i64 k0] w fun e w' => e = .returned (.int .i64 (k0 + (cntMS d : Int))) ∧ (tMemS 123 87).Mine w' [.slice a n cap] (markMS k0 d) fp ∧ Turned fp w w' := by
  obtain ⟨hl, hc, hm⟩ := row_length h.rd
  have hmL : (markMS k0 d).length = d.length := markL_length _ _ _ _
  have hnn : n ≤ 2097152 := by unfold wtMemS at hw; omega
  have hwt := cntMS_le d
  go_enter Tryz.func42, Tryz.ntmps42
  go_wp2
  go_loopw [1, 5] (fun kk i wr => ∃ j : Nat, j ≤ n ∧ i = .int .i64 j ∧ kk = .int .i64 (k0 + (sumL ((d.map cntMD).take j) : Int)) ∧ (tMemS 123 87).Mine wr [.slice a n cap] ((markMS k0 d).take j ++ d.drop j) fp ∧ Turned fp w wr) (fun _ i _ => n - (intOf i).toNat)
  case atStart => exact ⟨0, Nat.zero_le _, rfl, by simp [sumL], by simpa using h, Turned.refl _ _⟩
  case round =>
    obtain ⟨j, hj, rfl, rfl, ho, hb⟩ := hrel
    by_cases hjn : j < n
    · have hdj : d[j]? = some (d[j]'(by omega)) := List.getElem?_eq_getElem (by omega)
      generalize d[j]'(by omega) = x at hdj
      have hst := sumL_take (l := d.map cntMD) (j := j) (x := cntMD x) (by rw [List.getElem?_map, hdj]; rfl)
      have hle := sumL_le (l := d.map cntMD) (j + 1)
      have hin := Nat.le_trans (inner_leM hdj) hw
      unfold cntMS at hwt
      have HM := hidden (turn_step hmL (markL_at (c := cntMD) (mk := markMD) (k := k0) hdj))
      have hat := turn_at (m := markMS k0 d) hmL hdj
      have HW := hidden hst
      generalize sumL ((d.map cntMD).take j) = S at hst HM HW
      obtain ⟨ss, cs, f, bs⟩ := x
      have hcx : cntMD (ss, cs, f, bs) = cntSS ss + cntWS cs + 1 + bs.length := rfl
      have hin0 : wtIntSS ss ≤ 2097152 := by unfold wtMem at hin; simp only at hin; omega
      have hin1 : wtWrS cs ≤ 2097152 := by unfold wtMem at hin; simp only at hin; omega
      have hin3 : bs.length ≤ 2097152 := by unfold wtMem at hin; simp only at hin; omega
      have hcw := Nat.le_of_eq (cntWS_wt cs)
      have hcw' := Nat.le_of_eq (cntWS_wt cs).symm
      have hS : k0 + (S : Int) + (cntSS ss : Int) + (cntWS cs : Int) + 1 + (bs.length : Int) ≤ 2097153 := by omega
      rcases row_ow_shape ho with h0' | ⟨g, rfl⟩
      · omega
      obtain ⟨cs1, f1, ow1, hgf, hgp, hf1, hcc, hfz, _, back⟩ := row_open ho hat
      have hcl := (tMem 123).rdLen ((tMem 123).owRd ow1.1)
      obtain ⟨v0, v1, v2, v3, rfl⟩ : ∃ v0 v1 v2 v3, cs1 = [v0, v1, v2, v3] := by
        match cs1, hcl with
        | [v0, v1, v2, v3], _ => exact ⟨v0, v1, v2, v3, rfl⟩
      obtain ⟨f0, g1, rfl, m0, ow2, d0⟩ := pair_mine (t := tIntSS) (u := pairTy (tWrS 123) (pairTy boolTy tIntS)) (vs := [v0]) (us := [v1, v2, v3]) rfl ow1
      obtain ⟨fc, g2, rfl, m1, ow3, d1⟩ := pair_mine (t := tWrS 123) (u := pairTy boolTy tIntS) (vs := [v1]) (us := [v2, v3]) rfl ow2
      obtain ⟨fb, f3, rfl, ⟨⟨hv2, hfb⟩, _⟩, m3, _⟩ := pair_mine (t := boolTy) (u := tIntS) (vs := [v2]) (us := [v3]) rfl ow3
      simp at hv2
      subst hv2
      subst hfb
      rw [List.nil_append] at *
      have hc0 : wr.cell? ⟨g, j * 4, none⟩ = some v0 := hcc 0 (by show 0 < 4; omega)
      have hc1 : wr.cell? ⟨g, j * 4 + 1, none⟩ = some v1 := hcc 1 (by show 1 < 4; omega)
      have hc2 : wr.cell? ⟨g, j * 4 + 2, none⟩ = some (.bool f) := hcc 2 (by show 2 < 4; omega)
      have hc3 : wr.cell? ⟨g, j * 4 + 3, none⟩ = some v3 := hcc 3 (by show 3 < 4; omega)
      obtain ⟨a0, e0, rfl⟩ := row_shape m0.rd
      obtain ⟨a1, e1', rfl⟩ := row_shape m1.rd
      obtain ⟨a3, e3, rfl⟩ := row_shape m3.rd
      have hlt := ho.lt
      have ng0 : g ∉ f0 := fun hm => hgf (List.mem_append_left _ hm)
      have ngc : g ∉ fc := fun hm => hgf (List.mem_append_right _ (List.mem_append_left _ hm))
      have ng3 : g ∉ f3 := fun hm => hgf (List.mem_append_right _ (List.mem_append_right _ hm))
      have d0c : ∀ b ∈ fc, b ∉ f0 := fun b hb hb' => d0 b hb' (List.mem_append_left _ hb)
      have d03 : ∀ b ∈ f3, b ∉ f0 := fun b hb hb' => d0 b hb' (List.mem_append_right _ hb)
      have dc3 : ∀ b ∈ f3, b ∉ fc := fun b hb hb' => d1 b hb' hb
      have hgl : g < wr.heap.size := hlt g hgp
      obtain ⟨cur, hcur, hcsz, hncap, _⟩ := row_block (ho.own (lo := 0) (hi := wr.heap.size) (fun b hb => ⟨Nat.zero_le _, ho.lt b hb⟩))
      have XB : Box wr g 87 cur := hcur
      have HBK := hidden back
      have HLT := hidden hlt
      have HF1 := hidden hf1
      have HFZ := hidden hfz
      have M0 := hidden m0
      have M1 := hidden m1
      have M3 := hidden m3
      have DD := hidden (And.intro d0 d1)
      have HG := hidden hgf
      have i1 : (0 : Int) ≤ (j : Int) := by omega
      have i2 : (j : Int) < (n : Int) := by omega
      clear hcc back hcl ow1 ow2 ow3 hat hdj ho hst hlt hfz hf1 m0 m1 m3 d0 d1 hgf
      have e1 : (k0 + (S : Int) + (cntSS ss : Int) + (cntWS cs : Int)).tmod 3 = (k0 + (S : Int) + (cntSS ss : Int) + (cntWS cs : Int)) % 3 := Int.tmod_eq_emod_of_nonneg (by omega)
      have HXB := hidden XB
      have HC := hidden (And.intro hc0 (And.intro hc1 hc3))
      clear XB hcur
      go_wp2_with fail
      refine (markIntSS_fp _ _ _ _ ss _ f0 M0.out hin0 (by omega) (by omega)).mono ?_
      rintro e w1 ⟨rfl, o1, t1⟩
      have b1 := t1.block g hgl ng0
      have kc1 := (cell_kept b1 (j * 4 + 1)).trans hc1
      have kc2 := (cell_kept b1 (j * 4 + 2)).trans hc2
      have kc3 := (cell_kept b1 (j * 4 + 3)).trans hc3
      have X1 := hidden (HXB.out.kept b1)
      have z1 := t1.size
      have M1' := hidden (M1.out.kept t1 d0c)
      have M3' := hidden (M3.out.kept t1 d03)
      have O1 := hidden o1
      have T1 := hidden t1
      clear hc0 hc1 hc2 hc3 b1 o1 t1 M0 M1 M3 HXB
      have hg1 : g < w1.heap.size := Nat.lt_of_lt_of_le hgl z1
      go_wp2_with fail
      refine (markWrS_fp _ _ _ _ cs _ fc M1'.out hin1 (by omega) (by omega)).mono ?_
      rintro e w2 ⟨rfl, o2, t2⟩
      have b2 := t2.block g hg1 ngc
      have lc2 := (cell_kept b2 (j * 4 + 2)).trans kc2
      have lc3 := (cell_kept b2 (j * 4 + 3)).trans kc3
      have x2 := X1.out.kept b2
      have X2 := hidden x2
      have ff := x2.frozen (j * 4 + 2)
      have z2 := t2.size
      have M3'' := hidden (M3'.out.kept t2 dc3)
      have O1' := hidden (O1.out.kept t2 (fun b hb hb' => d0c b hb' hb))
      have O2 := hidden o2
      have T2 := hidden t2
      have T3 : Hid (Turned [g] w2 (w2.setCell ⟨g, j * 4 + 2, none⟩ (.bool (decide ((k0 + (S : Int) + (cntSS ss : Int) + (cntWS cs : Int)) % 3 = 0))))) := Turned.setCell _ (by simp)
      have M3t := hidden (M3''.out.kept T3.out (fun b hb hb' => ng3 (by simp at hb'; exact hb' ▸ hb)))
      have O1t := hidden (O1'.out.kept T3.out (fun b hb hb' => ng0 (by simp at hb'; exact hb' ▸ hb)))
      have O2t := hidden (O2.out.kept T3.out (fun b hb hb' => ngc (by simp at hb'; exact hb' ▸ hb)))
      have X3 := hidden (x2.set (j * 4 + 2) (.bool (decide ((k0 + (S : Int) + (cntSS ss : Int) + (cntWS cs : Int)) % 3 = 0))))
      clear kc1 kc2 kc3 b2 o2 t2 X1 M1' M3' M3'' O1 O1' O2 x2
      have hg2 : g < w2.heap.size := Nat.lt_of_lt_of_le hg1 z2
      go_wp2_with fail
      generalize hw3 : w2.setCell ⟨g, j * 4 + 2, none⟩ (.bool (decide ((k0 + (S : Int) + (cntSS ss : Int) + (cntWS cs : Int)) % 3 = 0))) = w3 at T3 M3t O1t O2t X3 ⊢
      clear hw3
      refine (markIntS_fp _ _ _ _ bs _ f3 M3t.out (by omega) (by omega) (by omega)).mono ?_
      rintro e w4 ⟨rfl, o3, t4⟩
      have z3 := T3.out.size
      have z4 := t4.size
      have hg3 : g < w3.heap.size := Nat.lt_of_lt_of_le hg2 z3
      have hO := HBK.out w4 [.slice a0 ss.length e0, .slice a1 cs.length e1', .bool (decide ((k0 + (S : Int) + (cntSS ss : Int) + (cntWS cs : Int)) % 3 = 0)), .slice a3 bs.length e3] (markMD (k0 + (S : Int)) (ss, cs, f, bs))
        (pair_mine_of (t := tIntSS) (vs := [_]) (us := [_, _, _]) (O1t.out.kept t4 (fun b hb hb' => d03 b hb' hb)) (pair_mine_of (t := tWrS 123) (vs := [_]) (us := [_, _]) (O2t.out.kept t4 (fun b hb hb' => dc3 b hb' hb)) (pair_mine_of (t := boolTy) (u := tIntS) (vs := [_]) (us := [_]) (f1 := []) ⟨⟨rfl, rfl⟩, by simp⟩ o3 (by simp)) DD.out.2) DD.out.1)
        (fun b hb hbf hbg => by
          have n0 : b ∉ f0 := fun hm => hbf (List.mem_append_left _ hm)
          have nc : b ∉ fc := fun hm => hbf (List.mem_append_right _ (List.mem_append_left _ hm))
          have n3 : b ∉ f3 := fun hm => hbf (List.mem_append_right _ (List.mem_append_right _ hm))
          have l0 := HLT.out b hb
          rw [t4.block b (by omega) n3, T3.out.block b (by omega) (by simpa using hbg), T2.out.block b (by omega) nc, T1.out.block b l0 n0])
        (by omega)
        (fun cur2 hcur2 hcs2 hnc2 => by
          have hX := X3.out
          have e2 : cur2 = cur := by
            have h1 := X2.out
            have h2 : w2.heap[g]? = wr.heap[g]? := by rw [T2.out.block g hg1 ngc, T1.out.block g hgl ng0]
            unfold Box at h1
            rw [h2, hcur2] at h1
            simpa using h1
          subst e2
          refine ⟨_, (t4.block g hg3 ng3).trans hX, by simp, fun k => ?_⟩
          have hcs' : cur2.size = cap * 4 := hcs2
          rw [Array.toList_setIfInBounds]
          obtain ⟨p0, p1, p3⟩ := HC.out
          rw [cell_of_row wr g _ cur2 _ (0, 0) hcur2] at p0 p1 p3
          simp only [show (1 + (1 + (1 + 1)) : Nat) = 4 from rfl]
          by_cases k0' : k = j * 4
          · subst k0'
            rw [List.getElem?_set_ne (by omega), if_pos (by omega), Nat.sub_self, Array.getElem?_toList, p0]
            rfl
          · by_cases k1 : k = j * 4 + 1
            · subst k1
              rw [List.getElem?_set_ne (by omega), if_pos (by omega), Nat.add_sub_cancel_left, Array.getElem?_toList, p1]
              rfl
            · by_cases k2 : k = j * 4 + 2
              · subst k2
                rw [List.getElem?_set_self (by simp; omega), if_pos (by omega), Nat.add_sub_cancel_left]
                rfl
              · by_cases k3 : k = j * 4 + 3
                · subst k3
                  rw [List.getElem?_set_ne (by omega), if_pos (by omega), Nat.add_sub_cancel_left, Array.getElem?_toList, p3]
                  rfl
                · rw [List.getElem?_set_ne (by omega), if_neg (by omega)])
      rw [HM.out] at hO
      have HO := hidden hO
      have HB := hidden ((((hb.trans (T1.out.mono (fun b hm => HF1.out b (List.mem_append_left _ hm)))).trans (T2.out.mono (fun b hm => HF1.out b (List.mem_append_right _ (List.mem_append_left _ hm))))).trans (T3.out.mono (by simpa using hgp))).trans (t4.mono (fun b hm => HF1.out b (List.mem_append_right _ (List.mem_append_right _ hm)))))
      clear hO o3 t4 HBK hb T1 T2 T3 X2 X3 O1t O2t M3t HLT HC
      go_wp2
      go_roundw
      case rel => exact ⟨j + 1, by omega, by go_num, by rw [HW.out, hcx]; go_num, HO.out, HB.out⟩
      case measure => simp [intOf]; omega
    · go_wp2
      go_ret
      have e : j = n := by omega
      subst e
      have ht : (d.map cntMD).take j = d.map cntMD := List.take_of_length_le (by simp; omega)
      rw [List.take_of_length_le (by omega), List.drop_of_length_le (by omega), List.append_nil] at ho
      exact ⟨ret_int (by rw [ht]; rfl), ho, hb⟩

end Go.Proofs.YtjmjianlcoleaaaGreat

/-
  The walk of the laws' mark over an array: its disks and stripes are marked in place. Condition: it weighs at most 2097152.
-/
namespace Go.Proofs.YtjmjianlcoleaaaGreat
open Go.RowKit

set_option maxHeartbeats 1600000 in
theorem markArr_own (w : World) (lo m hi : Nat) (x : ArrN) (bm bd : Option Addr) (nm cm nd cd : Nat) (ms : List MemD) (ds : List (Int × List Int)) (h0 : (tMemS 123 87).Own w lo m [.slice bm nm cm] ms) (h1 : (tWrS 65).Own w m hi [.slice bd nd cd] ds) (hlm : lo ≤ m) (hmh : m ≤ hi) (hhi : hi ≤ w.heap.size) (hw : wtArr ms ds ≤ 2097152) :
    Calls Tryz.prog 14 #[.agg #[.int .i64 x.id, .int .i64 x.n, .int .i64 x.s, .slice bm nm cm, .int .i64 x.lost, .int .i64 x.built, .int .i64 x.seq, .int .i64 x.tail, .int .i64 x.gen, .slice bd nd cd, .int .i64 x.fuse, .bool x.down, .bool x.broken], .int .i64 1] w fun e w' => e = .returned (.int .i64 (1 + (cntMS ms : Int) + (cntWS ds : Int))) ∧ (tMemS 123 87).Own w' lo m [.slice bm nm cm] (markMS 1 ms) ∧ (tWrS 65).Own w' m hi [.slice bd nd cd] (markW (1 + (cntMS ms : Int)) ds) ∧ But lo hi w w' := by
  have hw0 : wtMemS ms ≤ 2097152 := by unfold wtArr at hw; omega
  have hw1 : wtWrS ds ≤ 2097152 := by unfold wtArr at hw; omega
  have hcm := cntMS_le ms
  have hA := new_below w (.cells #[.int .i64 x.id, .int .i64 x.n, .int .i64 x.s, .slice bm nm cm, .int .i64 x.lost, .int .i64 x.built, .int .i64 x.seq, .int .i64 x.tail, .int .i64 x.gen, .slice bd nd cd, .int .i64 x.fuse, .bool x.down, .bool x.broken] 35)
  have A := Box.new w 35 #[.int .i64 x.id, .int .i64 x.n, .int .i64 x.s, .slice bm nm cm, .int .i64 x.lost, .int .i64 x.built, .int .i64 x.seq, .int .i64 x.tail, .int .i64 x.gen, .slice bd nd cd, .int .i64 x.fuse, .bool x.down, .bool x.broken]
  obtain ⟨k0, k1, k2, k3, k4, k5, k6, k7, k8, k9, k10, k11, k12⟩ := A.cells13
  have o0 := h0.below hA
  have o1 := h1.below hA
  have zA := A.lt
  go_enter Tryz.func14, Tryz.ntmps14
  go_wp2_with fail
  generalize w.alloc (.cells #[.int .i64 x.id, .int .i64 x.n, .int .i64 x.s, .slice bm nm cm, .int .i64 x.lost, .int .i64 x.built, .int .i64 x.seq, .int .i64 x.tail, .int .i64 x.gen, .slice bd nd cd, .int .i64 x.fuse, .bool x.down, .bool x.broken] 35) = W at hA A o0 o1 zA k0 k1 k2 k3 k4 k5 k6 k7 k8 k9 k10 k11 k12 ⊢
  obtain ⟨f0, m0, r0⟩ := o0.mine
  refine (markMemS_fp _ _ _ _ ms 1 f0 m0 hw0 (by omega) (by omega)).mono ?_
  rintro e w1 ⟨rfl, p0, t1⟩
  have hb1 := t1.but (lo := lo) (hi := m) r0
  have q0 := p0.own r0
  have q1 := o1.but hb1 (.inr (Nat.le_refl _))
  have A1 := A.kept (hb1.block _ zA (by omega))
  have B1 := (But.of_below (lo := lo) (hi := hi) hA).trans ⟨hb1.os, hb1.tape, hb1.output, hb1.size, fun k hk ho => hb1.block k hk (by omega)⟩
  clear k0 k1 k2 k3 k4 k5 k6 k7 k8 k9 k10 k11 k12 A hb1 t1 p0 m0 o0 o1 hA
  obtain ⟨k0, k1, k2, k3, k4, k5, k6, k7, k8, k9, k10, k11, k12⟩ := A1.cells13
  obtain ⟨f1, m1, r1⟩ := q1.mine
  have hwa : (wtMemS ms : Int) + (wtWrS ds : Int) ≤ 2097152 := by unfold wtArr at hw; omega
  go_wp2_with fail
  refine (markEntS_fp _ _ _ _ ds (1 + (cntMS ms : Int)) f1 m1 hw1 (by omega) (by omega)).mono ?_
  rintro e w2 ⟨rfl, p1, t2⟩
  have hb2 := t2.but (lo := m) (hi := hi) r1
  have s1 := hidden (p1.own r1)
  have s0 := hidden (q0.but hb2 (.inl (Nat.le_refl _)))
  have B2 := hidden (B1.trans ⟨hb2.os, hb2.tape, hb2.output, hb2.size, fun k hk ho => hb2.block k hk (by omega)⟩)
  clear k0 k1 k2 k3 k4 k5 k6 k7 k8 k9 k10 k11 k12 A1 hb2 t2 p1 m1 q0 q1 B1
  go_wp2
  go_ret
  exact ⟨rfl, s0.out, s1.out, B2.out⟩

end Go.Proofs.YtjmjianlcoleaaaGreat

/-
  An array's data in memory of its own, whatever order its blocks lie in; the walk of the laws' mark over it. Condition: it weighs at most 2097152.
-/
namespace Go.Proofs.YtjmjianlcoleaaaGreat
open Go.RowKit

/-- An array's disks and entries, in blocks lo .. hi of their own. -/
def ArrIn (w : World) (lo hi : Nat) (bm bd : Option Addr) (nm cm nd cd : Nat) (ms : List MemD) (ds : List (Int × List Int)) : Prop :=
  ∃ (fm fd : List Nat), (tMemS 123 87).Mine w [.slice bm nm cm] ms fm ∧ (tWrS 65).Mine w [.slice bd nd cd] ds fd ∧ (∀ b ∈ fm, b ∉ fd) ∧ (∀ b ∈ fm, lo ≤ b ∧ b < hi) ∧ ∀ b ∈ fd, lo ≤ b ∧ b < hi

theorem ArrIn.below {w w' : World} {lo hi : Nat} {bm bd : Option Addr} {nm cm nd cd : Nat} {ms : List MemD} {ds : List (Int × List Int)} (h : ArrIn w lo hi bm bd nm cm nd cd ms ds) (hb : Below w.heap.size w w') : ArrIn w' lo hi bm bd nm cm nd cd ms ds := by
  obtain ⟨fm, fd, h1, h2, h3⟩ := h
  exact ⟨fm, fd, h1.below hb, h2.below hb, h3⟩
theorem ArrIn.same {w w' : World} {lo hi : Nat} {bm bd : Option Addr} {nm cm nd cd : Nat} {ms : List MemD} {ds : List (Int × List Int)} (h : ArrIn w lo hi bm bd nm cm nd cd ms ds) (hs : Same w w') : ArrIn w' lo hi bm bd nm cm nd cd ms ds := h.below (hs.below _)
theorem ArrIn.but {w w' : World} {lo hi l u : Nat} {bm bd : Option Addr} {nm cm nd cd : Nat} {ms : List MemD} {ds : List (Int × List Int)} (h : ArrIn w lo hi bm bd nm cm nd cd ms ds) (hb : But l u w w') (hd : hi ≤ l ∨ u ≤ lo) : ArrIn w' lo hi bm bd nm cm nd cd ms ds := by
  obtain ⟨fm, fd, h1, h2, h3, h4, h5⟩ := h
  exact ⟨fm, fd, h1.but hb (fun b hb' => by have := h4 b hb'; omega), h2.but hb (fun b hb' => by have := h5 b hb'; omega), h3, h4, h5⟩
theorem ArrIn.rdm {w : World} {lo hi : Nat} {bm bd : Option Addr} {nm cm nd cd : Nat} {ms : List MemD} {ds : List (Int × List Int)} (h : ArrIn w lo hi bm bd nm cm nd cd ms ds) : (tMemS 123 87).Rd w [.slice bm nm cm] ms := by
  obtain ⟨fm, fd, h1, _⟩ := h
  exact h1.rd
theorem ArrIn.rdd {w : World} {lo hi : Nat} {bm bd : Option Addr} {nm cm nd cd : Nat} {ms : List MemD} {ds : List (Int × List Int)} (h : ArrIn w lo hi bm bd nm cm nd cd ms ds) : (tWrS 65).Rd w [.slice bd nd cd] ds := by
  obtain ⟨fm, fd, _, h2, _⟩ := h
  exact h2.rd
theorem ArrIn.widen {w : World} {lo hi lo' hi' : Nat} {bm bd : Option Addr} {nm cm nd cd : Nat} {ms : List MemD} {ds : List (Int × List Int)} (h : ArrIn w lo hi bm bd nm cm nd cd ms ds) (h1 : lo' ≤ lo) (h2 : hi ≤ hi') : ArrIn w lo' hi' bm bd nm cm nd cd ms ds := by
  obtain ⟨fm, fd, a1, a2, a3, a4, a5⟩ := h
  exact ⟨fm, fd, a1, a2, a3, fun b hb => by have := a4 b hb; omega, fun b hb => by have := a5 b hb; omega⟩
theorem ArrIn.of_own {w : World} {lo m hi : Nat} {bm bd : Option Addr} {nm cm nd cd : Nat} {ms : List MemD} {ds : List (Int × List Int)} (h0 : (tMemS 123 87).Own w lo m [.slice bm nm cm] ms) (h1 : (tWrS 65).Own w m hi [.slice bd nd cd] ds) (hlm : lo ≤ m) (hmh : m ≤ hi) : ArrIn w lo hi bm bd nm cm nd cd ms ds := by
  obtain ⟨fm, m0, r0⟩ := h0.mine
  obtain ⟨fd, m1, r1⟩ := h1.mine
  exact ⟨fm, fd, m0, m1, fun b hb hb' => by have h1 := r0 b hb; have h2 := r1 b hb'; omega, fun b hb => by have := r0 b hb; omega, fun b hb => by have := r1 b hb; omega⟩

set_option maxHeartbeats 1600000 in
theorem markArr_in (w : World) (lo hi : Nat) (x : ArrN) (bm bd : Option Addr) (nm cm nd cd : Nat) (ms : List MemD) (ds : List (Int × List Int)) (h : ArrIn w lo hi bm bd nm cm nd cd ms ds) (hhi : hi ≤ w.heap.size) (hw : wtArr ms ds ≤ 2097152) :
    Calls Tryz.prog 14 #[.agg #[.int .i64 x.id, .int .i64 x.n, .int .i64 x.s, .slice bm nm cm, .int .i64 x.lost, .int .i64 x.built, .int .i64 x.seq, .int .i64 x.tail, .int .i64 x.gen, .slice bd nd cd, .int .i64 x.fuse, .bool x.down, .bool x.broken], .int .i64 1] w fun e w' => e = .returned (.int .i64 (1 + (cntMS ms : Int) + (cntWS ds : Int))) ∧ ArrIn w' lo hi bm bd nm cm nd cd (markMS 1 ms) (markW (1 + (cntMS ms : Int)) ds) ∧ But lo hi w w' := by
  obtain ⟨f0, f1, h0, h1, hdis, r0, r1⟩ := h
  have hw0 : wtMemS ms ≤ 2097152 := by unfold wtArr at hw; omega
  have hw1 : wtWrS ds ≤ 2097152 := by unfold wtArr at hw; omega
  have hcm := cntMS_le ms
  have hA := new_below w (.cells #[.int .i64 x.id, .int .i64 x.n, .int .i64 x.s, .slice bm nm cm, .int .i64 x.lost, .int .i64 x.built, .int .i64 x.seq, .int .i64 x.tail, .int .i64 x.gen, .slice bd nd cd, .int .i64 x.fuse, .bool x.down, .bool x.broken] 35)
  have A := Box.new w 35 #[.int .i64 x.id, .int .i64 x.n, .int .i64 x.s, .slice bm nm cm, .int .i64 x.lost, .int .i64 x.built, .int .i64 x.seq, .int .i64 x.tail, .int .i64 x.gen, .slice bd nd cd, .int .i64 x.fuse, .bool x.down, .bool x.broken]
  obtain ⟨k0, k1, k2, k3, k4, k5, k6, k7, k8, k9, k10, k11, k12⟩ := A.cells13
  have m0 := h0.below hA
  have o1 := h1.below hA
  have zA := A.lt
  go_enter Tryz.func14, Tryz.ntmps14
  go_wp2_with fail
  generalize w.alloc (.cells #[.int .i64 x.id, .int .i64 x.n, .int .i64 x.s, .slice bm nm cm, .int .i64 x.lost, .int .i64 x.built, .int .i64 x.seq, .int .i64 x.tail, .int .i64 x.gen, .slice bd nd cd, .int .i64 x.fuse, .bool x.down, .bool x.broken] 35) = W at hA A m0 o1 zA k0 k1 k2 k3 k4 k5 k6 k7 k8 k9 k10 k11 k12 ⊢
  refine (markMemS_fp _ _ _ _ ms 1 f0 m0 hw0 (by omega) (by omega)).mono ?_
  rintro e w1 ⟨rfl, p0, t1⟩
  have hb1 := t1.but (lo := lo) (hi := hi) r0
  have m1 := o1.kept t1 (fun b hb hb' => hdis b hb' hb)
  have A1 := A.kept (hb1.block _ zA (by omega))
  have B1 := (But.of_below (lo := lo) (hi := hi) hA).trans hb1
  clear k0 k1 k2 k3 k4 k5 k6 k7 k8 k9 k10 k11 k12 A hb1 t1 m0 o1 hA
  obtain ⟨k0, k1, k2, k3, k4, k5, k6, k7, k8, k9, k10, k11, k12⟩ := A1.cells13
  have hwa : (wtMemS ms : Int) + (wtWrS ds : Int) ≤ 2097152 := by unfold wtArr at hw; omega
  go_wp2_with fail
  refine (markEntS_fp _ _ _ _ ds (1 + (cntMS ms : Int)) f1 m1 hw1 (by omega) (by omega)).mono ?_
  rintro e w2 ⟨rfl, p1, t2⟩
  have hb2 := t2.but (lo := lo) (hi := hi) r1
  have s0 := hidden (p0.kept t2 hdis)
  have s1 := hidden p1
  have B2 := hidden (B1.trans hb2)
  clear k0 k1 k2 k3 k4 k5 k6 k7 k8 k9 k10 k11 k12 A1 hb2 t2 p1 m1 p0 B1
  go_wp2
  go_ret
  exact ⟨rfl, ⟨f0, f1, s0.out, s1.out, hdis, r0, r1⟩, B2.out⟩

end Go.Proofs.YtjmjianlcoleaaaGreat

/-
  An array and a code that a function hands back: plain lemmas. No condition.
-/
namespace Go.Proofs.YtjmjianlcoleaaaGreat
open Go.RowKit

/-- What an array was made into, in memory of its own, and a code. -/
def ArrOutC (w w' : World) (e : Ending) (q : ArrN × List MemD) (code : Int) (ds : List (Int × List Int)) : Prop :=
  ∃ (bm bd : Option Addr) (cm cd : Nat), e = .returned (.tuple #[.agg (arrC q.1 (.slice bm q.2.length cm) (.slice bd ds.length cd)), .int .i64 code]) ∧ ArrIn w' w.heap.size w'.heap.size bm bd q.2.length cm ds.length cd q.2 ds ∧ Below w.heap.size w w'
theorem arr_outC {w w4 : World} {R lo : Nat} {y : ArrN} {ns : List MemD} {ds : List (Int × List Int)} {vm vd : Option Addr} {cvm cvd : Nat} {fm fd : List Nat} {e : Ending} {T : TypeId} {cs : Array Value} {code : Int} (hb : Below w.heap.size w w4) (_ : Box w4 R T cs) (he : e = .returned (.tuple #[.agg (arrC y (.slice vm ns.length cvm) (.slice vd ds.length cvd)), .int .i64 code])) (hm : (tMemS 123 87).Mine w4 [.slice vm ns.length cvm] ns fm) (hd : (tWrS 65).Mine w4 [.slice vd ds.length cvd] ds fd) (hr : ∀ b ∈ fm, b ∉ fd) (rm : ∀ b ∈ fm, lo ≤ b) (rd : ∀ b ∈ fd, lo ≤ b) (h1 : w.heap.size ≤ R) (h2 : R < lo) :
    ArrOutC w (puts w4 R [(0, .int .i64 y.id), (1, .int .i64 y.n), (2, .int .i64 y.s), (3, .slice vm ns.length cvm), (4, .int .i64 y.lost), (5, .int .i64 y.built), (6, .int .i64 y.seq), (7, .int .i64 y.tail), (8, .int .i64 y.gen), (9, .slice vd ds.length cvd), (10, .int .i64 y.fuse), (11, .bool y.down), (12, .bool y.broken)]) e (y, ns) code ds := by
  have hbt := puts_but R [(0, .int .i64 y.id), (1, .int .i64 y.n), (2, .int .i64 y.s), (3, .slice vm ns.length cvm), (4, .int .i64 y.lost), (5, .int .i64 y.built), (6, .int .i64 y.seq), (7, .int .i64 y.tail), (8, .int .i64 y.gen), (9, .slice vd ds.length cvd), (10, .int .i64 y.fuse), (11, .bool y.down), (12, .bool y.broken)] w4
  have hz := hbt.size
  have hlm := hm.lt
  have hld := hd.lt
  refine ⟨vm, vd, cvm, cvd, he, ⟨fm, fd, hm.but hbt (fun b hb => by have := rm b hb; omega), hd.but hbt (fun b hb => by have := rd b hb; omega), hr, fun b hb => ?_, fun b hb => ?_⟩, Below.andBut hb hbt h1⟩
  · have h3 := rm b hb
    have h4 := hlm b hb
    omega
  · have h3 := rd b hb
    have h4 := hld b hb
    omega

end Go.Proofs.YtjmjianlcoleaaaGreat

/-
  A struct of thirteen cells that is stored whole: a plain lemma. No condition.
-/
namespace Go.Proofs.YtjmjianlcoleaaaGreat
open Go.RowKit

theorem puts_arr {w : World} {B : Nat} {T : TypeId} {z0 z1 z2 z3 z4 z5 z6 z7 z8 z9 z10 z11 z12 : Value} (h : Box w B T #[z0, z1, z2, z3, z4, z5, z6, z7, z8, z9, z10, z11, z12]) (c0 c1 c2 c3 c4 c5 c6 c7 c8 c9 c10 c11 c12 : Value) : Box (puts w B [(0, c0), (1, c1), (2, c2), (3, c3), (4, c4), (5, c5), (6, c6), (7, c7), (8, c8), (9, c9), (10, c10), (11, c11), (12, c12)]) B T #[c0, c1, c2, c3, c4, c5, c6, c7, c8, c9, c10, c11, c12] := by
  simp only [puts]
  have := (((((((((((((h.set 0 c0).set 1 c1).set 2 c2).set 3 c3).set 4 c4).set 5 c5).set 6 c6).set 7 c7).set 8 c8).set 9 c9).set 10 c10).set 11 c11).set 12 c12)
  simpa using this

end Go.Proofs.YtjmjianlcoleaaaGreat

/-
  A copy of an array in a box of its own, however its making is ordered: plain lemmas. No condition.
-/
namespace Go.Proofs.YtjmjianlcoleaaaGreat
open Go.RowKit

/-- What stands behind 'out, v := copyArr(a), ..': out in its box, in memory of its own. -/
def Outed (W : World) (x : ArrN) (ms : List MemD) (ds : List EntD) (B : Nat) (WF : World) (bm : Option Addr) (cm : Nat) (bd : Option Addr) (cd : Nat) : Prop :=
  Below W.heap.size W WF ∧ W.heap.size ≤ B ∧ Box WF B 35 (arrC x (.slice bm ms.length cm) (.slice bd ds.length cd)) ∧ ∃ fm fd, (tMemS 123 87).Mine WF [.slice bm ms.length cm] ms fm ∧ (tWrS 65).Mine WF [.slice bd ds.length cd] ds fd ∧ (∀ b ∈ fm, b ∉ fd) ∧ (∀ b ∈ fm, W.heap.size ≤ b ∧ ¬ b = B) ∧ (∀ b ∈ fd, W.heap.size ≤ b ∧ ¬ b = B)
theorem with_keyO {C : Prop} {A G : Nat → World → Option Addr → Nat → Option Addr → Nat → Prop} (main : ∀ B WF bm cm bd cd, A B WF bm cm bd cd → G B WF bm cm bd cd) (use : Hid (∀ B WF bm cm bd cd, A B WF bm cm bd cd → G B WF bm cm bd cd) → C) : C := use main
/-- The store: the box is written whole. -/
theorem outed_store {W w1 : World} {x : ArrN} {ms : List MemD} {ds : List EntD} {B : Nat} {bm bd : Option Addr} {cm cd lo m hi : Nat} (hb : Below W.heap.size W w1) (hB : W.heap.size ≤ B) (X : Box w1 B 35 #[.int .i64 0, .int .i64 0, .int .i64 0, .slice none 0 0, .int .i64 0, .int .i64 0, .int .i64 0, .int .i64 0, .int .i64 0, .slice none 0 0, .int .i64 0, .bool false, .bool false]) (om : (tMemS 123 87).Own w1 lo m [.slice bm ms.length cm] ms) (od : (tWrS 65).Own w1 m hi [.slice bd ds.length cd] ds) (hlo : W.heap.size ≤ lo) (hlm : lo ≤ m) (hm : m ≤ hi) (hBB : B < lo ∨ hi ≤ B) :
    Outed W x ms ds B (puts w1 B [(0, .int .i64 x.id), (1, .int .i64 x.n), (2, .int .i64 x.s), (3, .slice bm ms.length cm), (4, .int .i64 x.lost), (5, .int .i64 x.built), (6, .int .i64 x.seq), (7, .int .i64 x.tail), (8, .int .i64 x.gen), (9, .slice bd ds.length cd), (10, .int .i64 x.fuse), (11, .bool x.down), (12, .bool x.broken)]) bm cm bd cd := by
  have hbt := puts_but B [(0, .int .i64 x.id), (1, .int .i64 x.n), (2, .int .i64 x.s), (3, .slice bm ms.length cm), (4, .int .i64 x.lost), (5, .int .i64 x.built), (6, .int .i64 x.seq), (7, .int .i64 x.tail), (8, .int .i64 x.gen), (9, .slice bd ds.length cd), (10, .int .i64 x.fuse), (11, .bool x.down), (12, .bool x.broken)] w1
  obtain ⟨fm, mm, rm⟩ := om.mine
  obtain ⟨fd, md, rd⟩ := od.mine
  have hmh : ∀ b ∈ fd, m ≤ b ∧ b < hi := rd
  refine ⟨Below.andBut hb hbt hB, hB, by unfold arrC; exact puts_arr X _ _ _ _ _ _ _ _ _ _ _ _ _, fm, fd, mm.but hbt (fun b hb => ?_), md.but hbt (fun b hb => ?_), fun b hb hb' => ?_, fun b hb => ?_, fun b hb => ?_⟩
  · have := rm b hb
    omega
  · have := rd b hb
    omega
  · have h1 := rm b hb
    have h2 := rd b hb'
    omega
  · have := rm b hb
    omega
  · have := rd b hb
    omega
theorem outed_new {W w1 : World} {x : ArrN} {ms : List MemD} {ds : List EntD} {bm bd : Option Addr} {cm cd lo m : Nat} (hb : Below W.heap.size W w1) (om : (tMemS 123 87).Own w1 lo m [.slice bm ms.length cm] ms) (od : (tWrS 65).Own w1 m w1.heap.size [.slice bd ds.length cd] ds) (hlo : W.heap.size ≤ lo) (hlm : lo ≤ m) (hm : m ≤ w1.heap.size) :
    Outed W x ms ds w1.heap.size (w1.alloc (.cells #[.int .i64 x.id, .int .i64 x.n, .int .i64 x.s, .slice bm ms.length cm, .int .i64 x.lost, .int .i64 x.built, .int .i64 x.seq, .int .i64 x.tail, .int .i64 x.gen, .slice bd ds.length cd, .int .i64 x.fuse, .bool x.down, .bool x.broken] 35)) bm cm bd cd := by
  obtain ⟨fm, mm, rm⟩ := (om.below (new_below w1 (.cells #[.int .i64 x.id, .int .i64 x.n, .int .i64 x.s, .slice bm ms.length cm, .int .i64 x.lost, .int .i64 x.built, .int .i64 x.seq, .int .i64 x.tail, .int .i64 x.gen, .slice bd ds.length cd, .int .i64 x.fuse, .bool x.down, .bool x.broken] 35))).mine
  obtain ⟨fd, md, rd⟩ := (od.below (new_below w1 (.cells #[.int .i64 x.id, .int .i64 x.n, .int .i64 x.s, .slice bm ms.length cm, .int .i64 x.lost, .int .i64 x.built, .int .i64 x.seq, .int .i64 x.tail, .int .i64 x.gen, .slice bd ds.length cd, .int .i64 x.fuse, .bool x.down, .bool x.broken] 35))).mine
  refine ⟨Below.andThen hb (new_below _ _), hb.size, Box.new _ _ _, fm, fd, mm, md, fun b hb hb' => ?_, fun b hb => ?_, fun b hb => ?_⟩
  · have h1 := rm b hb
    have h2 := rd b hb'
    omega
  · have := rm b hb
    omega
  · have := rd b hb
    omega

end Go.Proofs.YtjmjianlcoleaaaGreat

/-
  The walks of both ReadSec (the program's and the specification's): what a sector reads as, in memory of its own. Condition: the disk weighs at most 2097152.
-/
namespace Go.Proofs.YtjmjianlcoleaaaGreat
open Go.RowKit

theorem slicesIndex_any (w : World) (a : Option Addr) (len cap : Nat) (zs : List Int) (n : Int) (hz : zs.length = len) (hr : Reads .i64 w a zs) (hlen : len ≤ 2097152) :
    Calls Tryz.prog 224 #[.slice a len cap, .int .i64 n] w fun e w' => ∃ r : Int, e = .returned (.int .i64 r) ∧ decide (0 ≤ r) = inL zs n ∧ Same w w' := by
  go_enter Tryz.func224, Tryz.ntmps224
  go_wp2
  go_loop [8] (fun i => ∃ j : Nat, j ≤ len ∧ i = .int .i64 j ∧ inL (zs.take j) n = false) (fun i => len - (intOf i).toNat)
  case atStart => exact ⟨0, Nat.zero_le _, rfl, rfl⟩
  case round =>
    obtain ⟨j, hj, rfl, ht⟩ := hrel
    by_cases hlt : j < len
    · rcases hr.cases with h0 | ⟨b, off, rfl, hbl, hc⟩
      · omega
      have hc1 := hc j (by omega)
      have hd := inL_step (zs := zs) (n := n) (j := j) (by omega) rfl
      generalize zs.getD j 0 = x at hc1 hd
      have HT := hidden ht
      clear hc ht
      by_cases hx : x = n
      · have HD := hidden (hd.1 hx)
        subst hx
        clear hd
        go_wp2
        go_ret
        exact ⟨_, rfl, by rw [HD.out]; simp, Same.refl _⟩
      · have HD := hidden (hd.2 hx HT.out)
        have hx' : ¬ n = x := fun e => hx e.symm
        clear hd
        go_wp2
        go_round
        case rel => exact ⟨j + 1, by omega, by go_num, HD.out⟩
        case measure => simp [intOf]; omega
    · go_wp2
      go_ret
      have e : j = len := by omega
      subst e
      rw [List.take_of_length_le (by omega)] at ht
      exact ⟨_, rfl, by rw [ht]; rfl, Same.refl _⟩

theorem slicesContains_any (w : World) (a : Option Addr) (len cap : Nat) (zs : List Int) (n : Int) (hz : zs.length = len) (hr : Reads .i64 w a zs) (hlen : len ≤ 2097152) :
    Calls Tryz.prog 223 #[.slice a len cap, .int .i64 n] w fun e w' => e = .returned (.bool (inL zs n)) ∧ Same w w' := by
  go_enter Tryz.func223, Tryz.ntmps223
  go_wp2_with fail
  refine (slicesIndex_any _ _ _ _ zs n hz hr hlen).mono ?_
  rintro e w1 ⟨r, rfl, hr1, hs1⟩
  go_wp2
  go_ret
  exact ⟨ret_bool (by rw [← hr1]), hs1⟩

set_option maxHeartbeats 3200000 in
theorem implReadSec_any (w : World) (E : TypeId) (a0 a1 a3 : Option Addr) (n0 c0 n1 c1 n3 c3 : Nat) (ss : List (List Int)) (cs : List (Int × List Int)) (f : Bool) (bs : List Int) (n : Int) (h0 : tIntSS.Rd w [.slice a0 n0 c0] ss) (h1 : (tWrS E).Rd w [.slice a1 n1 c1] cs) (h3 : tIntS.Rd w [.slice a3 n3 c3] bs) (hw : wtMem (ss, cs, f, bs) ≤ 2097152) :
    Calls Tryz.prog 222 #[.agg #[.slice a0 n0 c0, .slice a1 n1 c1, .bool f, .slice a3 n3 c3], .int .i64 n] w fun e w' => ∃ a' l c', e = .returned (.tuple #[.slice a' l c', .bool (readOk ss cs f bs n)]) ∧ tIntS.Own w' w.heap.size w'.heap.size [.slice a' l c'] (readD ss cs f bs n) ∧ Below w.heap.size w w' := by
  obtain ⟨hl0, _, hm0⟩ := row_length h0
  obtain ⟨hl1, _, hm1⟩ := row_length h1
  obtain ⟨hl3, _, hm3⟩ := row_length h3
  have hw3 : n3 ≤ 2097152 := by unfold wtMem at hw; simp only at hw; omega
  have hw0 : wtIntSS ss ≤ 2097152 := by unfold wtMem at hw; simp only at hw; omega
  have hw1 : wtWrS cs ≤ 2097152 := by unfold wtMem at hw; simp only at hw; omega
  have hn0 : n0 ≤ 2097152 := by unfold wtIntSS at hw0; omega
  have hn1 : n1 ≤ 2097152 := by unfold wtWrS at hw1; omega
  have hA : Below w.heap.size w (w.alloc (.cells #[.slice a0 n0 c0, .slice a1 n1 c1, .bool f, .slice a3 n3 c3] 87)) := (Below.refl _ _).alloc (Nat.le_refl _) _
  have xm := Box.new w 87 #[.slice a0 n0 c0, .slice a1 n1 c1, .bool f, .slice a3 n3 c3]
  have g0 := h0.below hA
  have g1 := h1.below hA
  have g3 := h3.below hA
  obtain ⟨q0, q1, q2, q3⟩ := xm.cells4
  have zm := xm.lt
  have fin : ∀ w1, Below w.heap.size w w1 → tIntS.Own (w1.alloc (.cells #[] 3)) w.heap.size (w1.alloc (.cells #[] 3)).heap.size [.slice (some ⟨w1.heap.size, 0, none⟩) 0 0] [] ∧ Below w.heap.size w (w1.alloc (.cells #[] 3)) := by
    intro w1 hb
    have hs := hb.size
    exact ⟨(own_ints (Owns.lit .i64 3 w1 [] 0 #[] rfl rfl (by unfold maxLen; omega))).widen hs (Nat.le_refl _), hb.alloc hb.size _⟩
  by_cases hM : memB ss cs bs = true
  · by_cases hf : f = true
    · subst hf
      have hro : readOk ss cs true bs n = false := by unfold readOk; rw [hM]; rfl
      have hrd : readD ss cs true bs n = [] := by unfold readD; rw [hro]; rfl
      rw [hro, hrd]
      clear hro hrd
      go_enter Tryz.func222, Tryz.ntmps222
      go_wp2_with fail
      generalize hW : w.alloc (.cells #[.slice a0 n0 c0, .slice a1 n1 c1, .bool true, .slice a3 n3 c3] 87) = W at hA g0 g1 g3 q0 q1 q2 q3 zm ⊢
      clear hW xm
      refine (implMemOk_any _ E _ _ _ _ _ _ _ _ _ ss cs true bs g0 g1 g3 hw).mono ?_
      rintro e w1 ⟨rfl, b1⟩
      have r0 := (b1.cell (p := ⟨w.heap.size, 0, none⟩) zm).trans q0
      have r1 := (b1.cell (p := ⟨w.heap.size, 1, none⟩) zm).trans q1
      have r2 := (b1.cell (p := ⟨w.heap.size, 2, none⟩) zm).trans q2
      have r3 := (b1.cell (p := ⟨w.heap.size, 3, none⟩) zm).trans q3
      have B1 := Below.andThen hA b1
      have z1 := Nat.lt_of_lt_of_le zm b1.size
      clear q0 q1 q2 q3
      go_wp2
      go_ret2
      exact ⟨_, _, _, rfl, (fin _ B1).1, (fin _ B1).2⟩
    · have hf : f = false := by simpa using hf
      subst hf
      by_cases hI : inB n 0 ((n0 : Int) - 1) = true
      · by_cases hB : inL bs n = true
        · have hro : readOk ss cs false bs n = false := by unfold readOk; rw [hM, hl0, hI, hB]; rfl
          have hrd : readD ss cs false bs n = [] := by unfold readD; rw [hro]; rfl
          rw [hro, hrd]
          clear hro hrd
          go_enter Tryz.func222, Tryz.ntmps222
          go_wp2_with fail
          generalize hW : w.alloc (.cells #[.slice a0 n0 c0, .slice a1 n1 c1, .bool false, .slice a3 n3 c3] 87) = W at hA g0 g1 g3 q0 q1 q2 q3 zm ⊢
          clear hW xm
          refine (implMemOk_any _ E _ _ _ _ _ _ _ _ _ ss cs false bs g0 g1 g3 hw).mono ?_
          rintro e w1 ⟨rfl, b1⟩
          have r0 := (b1.cell (p := ⟨w.heap.size, 0, none⟩) zm).trans q0
          have r1 := (b1.cell (p := ⟨w.heap.size, 1, none⟩) zm).trans q1
          have r2 := (b1.cell (p := ⟨w.heap.size, 2, none⟩) zm).trans q2
          have r3 := (b1.cell (p := ⟨w.heap.size, 3, none⟩) zm).trans q3
          have B1 := Below.andThen hA b1
          have z1 := Nat.lt_of_lt_of_le zm b1.size
          clear q0 q1 q2 q3
          go_wp2_with fail
          refine (hasSec_any _ _ _ _ _ _ _ _).mono ?_
          rintro e w2 ⟨rfl, b2⟩
          have t0 := (b2.cell (p := ⟨w.heap.size, 0, none⟩) z1).trans r0
          have t1 := (b2.cell (p := ⟨w.heap.size, 1, none⟩) z1).trans r1
          have t3 := (b2.cell (p := ⟨w.heap.size, 3, none⟩) z1).trans r3
          have B2 := Below.andThen B1 b2
          have z2 := Nat.lt_of_lt_of_le z1 b2.size
          have k3 := g3.below (Below.andThen b1 b2)
          clear r0 r1 r2 r3
          go_wp2_with fail
          refine (slicesContains_any _ _ _ _ bs _ hl3 (ints_rd k3).1 hw3).mono ?_
          rintro e w3 ⟨rfl, s3⟩
          have B3 := Below.andSame B2 s3
          go_wp2
          go_ret2
          exact ⟨_, _, _, rfl, (fin _ B3).1, (fin _ B3).2⟩
        · have hB : inL bs n = false := by simpa using hB
          have hro : readOk ss cs false bs n = true := by unfold readOk; rw [hM, hl0, hI, hB]; rfl
          have hrd : readD ss cs false bs n = (lastW cs n).getD (secAt ss n) := by unfold readD; rw [hro]; rfl
          rw [hro, hrd]
          clear hro hrd
          have hI' : 0 ≤ n ∧ n ≤ (n0 : Int) - 1 := by unfold inB at hI; simpa using hI
          obtain ⟨k, rfl⟩ : ∃ k : Nat, n = (k : Int) := ⟨n.toNat, by omega⟩
          have hk : k < n0 := by omega
          go_enter Tryz.func222, Tryz.ntmps222
          go_wp2_with fail
          generalize hW : w.alloc (.cells #[.slice a0 n0 c0, .slice a1 n1 c1, .bool false, .slice a3 n3 c3] 87) = W at hA g0 g1 g3 q0 q1 q2 q3 zm ⊢
          clear hW xm
          refine (implMemOk_any _ E _ _ _ _ _ _ _ _ _ ss cs false bs g0 g1 g3 hw).mono ?_
          rintro e w1 ⟨rfl, b1⟩
          have r0 := (b1.cell (p := ⟨w.heap.size, 0, none⟩) zm).trans q0
          have r1 := (b1.cell (p := ⟨w.heap.size, 1, none⟩) zm).trans q1
          have r2 := (b1.cell (p := ⟨w.heap.size, 2, none⟩) zm).trans q2
          have r3 := (b1.cell (p := ⟨w.heap.size, 3, none⟩) zm).trans q3
          have B1 := Below.andThen hA b1
          have z1 := Nat.lt_of_lt_of_le zm b1.size
          clear q0 q1 q2 q3
          go_wp2_with fail
          refine (hasSec_any _ _ _ _ _ _ _ _).mono ?_
          rintro e w2 ⟨rfl, b2⟩
          have t0 := (b2.cell (p := ⟨w.heap.size, 0, none⟩) z1).trans r0
          have t1 := (b2.cell (p := ⟨w.heap.size, 1, none⟩) z1).trans r1
          have t3 := (b2.cell (p := ⟨w.heap.size, 3, none⟩) z1).trans r3
          have B2 := Below.andThen B1 b2
          have z2 := Nat.lt_of_lt_of_le z1 b2.size
          have k3 := g3.below (Below.andThen b1 b2)
          clear r0 r1 r2 r3
          go_wp2_with fail
          refine (slicesContains_any _ _ _ _ bs _ hl3 (ints_rd k3).1 hw3).mono ?_
          rintro e w3 ⟨rfl, s3⟩
          have B3 := Below.andSame B2 s3
          have m0 := (s3.cell _).trans t0
          have m1 := (s3.cell _).trans t1
          have b3 := Below.andSame (Below.andThen b1 b2) s3
          have y1 := g1.below b3
          rcases rows_at rfl g0 with h0' | ⟨b, off, rfl, hbl, hcs⟩
          · omega
          have hdj : ss[k]? = some (ss[k]'(by omega)) := List.getElem?_eq_getElem (by omega)
          generalize ss[k]'(by omega) = x at hdj
          have hil := inner_le hdj
          obtain ⟨v, hv, hrv⟩ := hcs k x hdj
          obtain ⟨av, cv, rfl⟩ := row_shape hrv
          have mv := (b3.cell (p := ⟨b, off + k, none⟩) hbl).trans hv
          have hrx := hrv.below b3
          have hgx : secAt ss (k : Int) = x := by unfold secAt; rw [Int.toNat_natCast, List.getD_eq_getElem?_getD, hdj]; rfl
          have HGX := hidden hgx
          have HX := hidden hrx
          have HB3 := hidden B3
          have i1 : (0 : Int) ≤ (k : Int) := by omega
          have i2 : (k : Int) < (n0 : Int) := by omega
          have zb3 : b < w3.heap.size := Nat.lt_of_lt_of_le hbl b3.size
          have z3 : w.heap.size < w3.heap.size := Nat.lt_of_lt_of_le zm b3.size
          have hwr := mem_writes hM
          have hk20 := mem_secs hM
          clear hcs hdj hv hrv hgx hrx B3 b3 t0 t1 t3 g0 g1 g3 k3 B1 B2 b1 b2 s3 hA fin hB hI hI' hM
          go_wp2_with fail
          refine (newest_any _ E _ _ _ cs y1 hn1 hwr).mono ?_
          rintro e w4 ⟨rfl, b4, D, hown, hL⟩
          have n0' := (b4.cell (p := ⟨w.heap.size, 0, none⟩) z3).trans m0
          have nv := (b4.cell (p := ⟨b, off + k, none⟩) zb3).trans mv
          have HB4 := hidden (Below.andThen HB3.out b4)
          have HX4 := hidden (HX.out.below b4)
          have HOW := hidden hown
          have HL := hidden hL
          have HKEY := hidden (key_int (q := (k : Int)) (by omega) (by omega))
          have B4L := hidden b4
          clear m0 m1 mv b4 hown hL y1 HB3 HX
          cases hlw : lastW cs (k : Int) with
          | none =>
            have HZ : Hid ((lastW cs (k : Int)).getD (secAt ss (k : Int)) = x) := by unfold Hid; rw [hlw, HGX.out]; rfl
            have HLW := hidden hlw
            clear hlw
            have hX : Below w4.heap.size w4 (w4.alloc (.cells #[.int .i64 0, .slice none 0 0] 123)) := (Below.refl _ _).alloc (Nat.le_refl _) _
            have z4 := HB4.out.size
            have z34 := B4L.out.size
            have p0 := (hX.cell (p := ⟨w.heap.size, 0, none⟩) (by simp only; omega)).trans n0'
            have pv := (hX.cell (p := ⟨b, off + k, none⟩) (by simp only; omega)).trans nv
            have HX5 := hidden (HX4.out.below hX)
            have HB5 := hidden (Below.andThen HB4.out hX)
            clear hX
            go_wp2_with (at_lookup; refine look_none rfl _ _ rfl w3.heap.size n1 D w3 cs (k : Int) rfl HOW.out rfl HKEY.out HL.out HLW.out ?_)
            refine (copyWords_any _ _ _ _ x HX5.out (by omega)).mono ?_
            rintro e w5 ⟨a5, c5, rfl, o5, b5⟩
            have hsz := HB5.out.size
            go_wp2
            go_ret2
            exact ⟨_, _, _, rfl, by rw [HZ.out]; exact o5.widen hsz (Nat.le_refl _), Below.andThen HB5.out b5⟩
          | some zs =>
            have HZ : Hid ((lastW cs (k : Int)).getD (secAt ss (k : Int)) = zs) := by unfold Hid; rw [hlw]; rfl
            have HLW := hidden hlw
            have hzl : zs.length ≤ 2097152 := lastW_le hw1 hlw
            clear hlw
            go_wp2_with (at_lookup; refine look_some rfl _ _ rfl w3.heap.size n1 D w3 cs (k : Int) zs rfl HOW.out rfl HKEY.out HL.out HLW.out ?_; intro a9 c9 h9; have H9 := hidden (h9.below B4L.out); clear h9)
            have hX : Below w4.heap.size w4 (w4.alloc (.cells #[.int .i64 (k : Int), .slice a9 zs.length c9] 123)) := (Below.refl _ _).alloc (Nat.le_refl _) _
            have HB5 := hidden (Below.andThen HB4.out hX)
            refine (copyWords_any _ _ _ _ zs (H9.out.below hX) (by omega)).mono ?_
            rintro e w5 ⟨a5, c5, rfl, o5, b5⟩
            have hsz := HB5.out.size
            go_wp2
            go_ret2
            exact ⟨_, _, _, rfl, by rw [HZ.out]; exact o5.widen hsz (Nat.le_refl _), Below.andThen HB5.out b5⟩
      · have hI : inB n 0 ((n0 : Int) - 1) = false := by simpa using hI
        have hro : readOk ss cs false bs n = false := by unfold readOk; rw [hM, hl0, hI]; rfl
        have hrd : readD ss cs false bs n = [] := by unfold readD; rw [hro]; rfl
        rw [hro, hrd]
        clear hro hrd
        go_enter Tryz.func222, Tryz.ntmps222
        go_wp2_with fail
        generalize hW : w.alloc (.cells #[.slice a0 n0 c0, .slice a1 n1 c1, .bool false, .slice a3 n3 c3] 87) = W at hA g0 g1 g3 q0 q1 q2 q3 zm ⊢
        clear hW xm
        refine (implMemOk_any _ E _ _ _ _ _ _ _ _ _ ss cs false bs g0 g1 g3 hw).mono ?_
        rintro e w1 ⟨rfl, b1⟩
        have r0 := (b1.cell (p := ⟨w.heap.size, 0, none⟩) zm).trans q0
        have r1 := (b1.cell (p := ⟨w.heap.size, 1, none⟩) zm).trans q1
        have r2 := (b1.cell (p := ⟨w.heap.size, 2, none⟩) zm).trans q2
        have r3 := (b1.cell (p := ⟨w.heap.size, 3, none⟩) zm).trans q3
        have B1 := Below.andThen hA b1
        have z1 := Nat.lt_of_lt_of_le zm b1.size
        clear q0 q1 q2 q3
        go_wp2_with fail
        refine (hasSec_any _ _ _ _ _ _ _ _).mono ?_
        rintro e w2 ⟨rfl, b2⟩
        have t0 := (b2.cell (p := ⟨w.heap.size, 0, none⟩) z1).trans r0
        have t1 := (b2.cell (p := ⟨w.heap.size, 1, none⟩) z1).trans r1
        have t3 := (b2.cell (p := ⟨w.heap.size, 3, none⟩) z1).trans r3
        have B2 := Below.andThen B1 b2
        have z2 := Nat.lt_of_lt_of_le z1 b2.size
        have k3 := g3.below (Below.andThen b1 b2)
        clear r0 r1 r2 r3
        go_wp2
        go_ret2
        exact ⟨_, _, _, rfl, (fin _ B2).1, (fin _ B2).2⟩
  · have hM : memB ss cs bs = false := by simpa using hM
    have hro : readOk ss cs f bs n = false := by unfold readOk; rw [hM]; rfl
    have hrd : readD ss cs f bs n = [] := by unfold readD; rw [hro]; rfl
    rw [hro, hrd]
    clear hro hrd
    go_enter Tryz.func222, Tryz.ntmps222
    go_wp2_with fail
    generalize hW : w.alloc (.cells #[.slice a0 n0 c0, .slice a1 n1 c1, .bool f, .slice a3 n3 c3] 87) = W at hA g0 g1 g3 q0 q1 q2 q3 zm ⊢
    clear hW xm
    refine (implMemOk_any _ E _ _ _ _ _ _ _ _ _ ss cs f bs g0 g1 g3 hw).mono ?_
    rintro e w1 ⟨rfl, b1⟩
    have r0 := (b1.cell (p := ⟨w.heap.size, 0, none⟩) zm).trans q0
    have r1 := (b1.cell (p := ⟨w.heap.size, 1, none⟩) zm).trans q1
    have r2 := (b1.cell (p := ⟨w.heap.size, 2, none⟩) zm).trans q2
    have r3 := (b1.cell (p := ⟨w.heap.size, 3, none⟩) zm).trans q3
    have B1 := Below.andThen hA b1
    have z1 := Nat.lt_of_lt_of_le zm b1.size
    clear q0 q1 q2 q3
    go_wp2
    go_ret2
    exact ⟨_, _, _, rfl, (fin _ B1).1, (fin _ B1).2⟩

end Go.Proofs.YtjmjianlcoleaaaGreat

/-
  The walks of the program's states of a disk: which one it is in, whether it bears a stripe, and what it reads. Condition: the array weighs at most 2097152.
-/
namespace Go.Proofs.YtjmjianlcoleaaaGreat
open Go.RowKit

set_option maxHeartbeats 800000 in
theorem hasDisk_any (w : World) (x : ArrN) (am ad : Option Addr) (nm cm nd cd : Nat) (m : Int) :
    Calls Tryz.prog 182 #[.agg #[.int .i64 x.id, .int .i64 x.n, .int .i64 x.s, .slice am nm cm, .int .i64 x.lost, .int .i64 x.built, .int .i64 x.seq, .int .i64 x.tail, .int .i64 x.gen, .slice ad nd cd, .int .i64 x.fuse, .bool x.down, .bool x.broken], .int .i64 m] w fun e w' => e = .returned (.bool (inB m 0 ((nm : Int) - 1))) ∧ Below w.heap.size w w' := by
  have hA := new_below w (.cells #[.int .i64 x.id, .int .i64 x.n, .int .i64 x.s, .slice am nm cm, .int .i64 x.lost, .int .i64 x.built, .int .i64 x.seq, .int .i64 x.tail, .int .i64 x.gen, .slice ad nd cd, .int .i64 x.fuse, .bool x.down, .bool x.broken] 35)
  have X := Box.new w 35 #[.int .i64 x.id, .int .i64 x.n, .int .i64 x.s, .slice am nm cm, .int .i64 x.lost, .int .i64 x.built, .int .i64 x.seq, .int .i64 x.tail, .int .i64 x.gen, .slice ad nd cd, .int .i64 x.fuse, .bool x.down, .bool x.broken]
  have k3 := X.cells13.2.2.2.1
  have HI : Hid (inB m 0 ((nm : Int) - 1) = (decide (0 ≤ m) && decide (m < (nm : Int)))) := by
    unfold Hid inB
    congr 1
    rw [decide_eq_decide]
    omega
  by_cases h : 0 ≤ m
  · by_cases h2 : m < (nm : Int)
    · go_enter Tryz.func182, Tryz.ntmps182
      go_wp2
      go_ret
      exact ⟨ret_bool (by rw [HI.out]; simp [h, h2]), hA⟩
    · go_enter Tryz.func182, Tryz.ntmps182
      go_wp2
      go_ret
      exact ⟨ret_bool (by rw [HI.out]; simp [h2]), hA⟩
  · go_enter Tryz.func182, Tryz.ntmps182
    go_wp2
    go_ret
    exact ⟨ret_bool (by rw [HI.out, show decide (0 ≤ m) = false from (by simpa using h)]; rfl), hA⟩

/-- A disk in its state: Failed, Lost, sound. -/
def DiskV (w : World) (E : TypeId) (x : ArrN) (ms : List MemD) (j : Nat) (v : Value) : Prop :=
  ∃ (a0 a1 a3 : Option Addr) (c0 c1 c3 : Nat) (ss : List (List Int)) (cs : List (Int × List Int)) (f : Bool) (bs : List Int), ms[j]? = some (ss, cs, f, bs) ∧ tIntSS.Rd w [.slice a0 ss.length c0] ss ∧ (tWrS E).Rd w [.slice a1 cs.length c1] cs ∧ tIntS.Rd w [.slice a3 bs.length c3] bs ∧
    ((f = true ∧ v = .iface 165 (.agg #[])) ∨ (f = false ∧ (j : Int) = x.lost ∧ v = .iface 167 (.agg #[.slice a0 ss.length c0, .slice a1 cs.length c1, .bool false, .slice a3 bs.length c3, .int .i64 x.built])) ∨ (f = false ∧ ¬ (j : Int) = x.lost ∧ v = .iface 169 (.agg #[.slice a0 ss.length c0, .slice a1 cs.length c1, .bool false, .slice a3 bs.length c3])))

set_option maxHeartbeats 1600000 in
theorem diskAt_any (w : World) (E F : TypeId) (x : ArrN) (am ad : Option Addr) (nm cm nd cd : Nat) (ms : List MemD) (j : Nat) (h0 : (tMemS E F).Rd w [.slice am nm cm] ms) (hw : wtMemS ms ≤ 2097152) (hj : j < nm) :
    Calls Tryz.prog 138 #[.agg #[.int .i64 x.id, .int .i64 x.n, .int .i64 x.s, .slice am nm cm, .int .i64 x.lost, .int .i64 x.built, .int .i64 x.seq, .int .i64 x.tail, .int .i64 x.gen, .slice ad nd cd, .int .i64 x.fuse, .bool x.down, .bool x.broken], .int .i64 (j : Int)] w fun e w' => ∃ v, e = .returned v ∧ DiskV w' E x ms j v ∧ Below w.heap.size w w' := by
  obtain ⟨hl, hc, hm⟩ := row_length h0
  have hnm : nm ≤ 2097152 := by unfold wtMemS at hw; omega
  have hA := new_below w (.cells #[.int .i64 x.id, .int .i64 x.n, .int .i64 x.s, .slice am nm cm, .int .i64 x.lost, .int .i64 x.built, .int .i64 x.seq, .int .i64 x.tail, .int .i64 x.gen, .slice ad nd cd, .int .i64 x.fuse, .bool x.down, .bool x.broken] 35)
  have X := Box.new w 35 #[.int .i64 x.id, .int .i64 x.n, .int .i64 x.s, .slice am nm cm, .int .i64 x.lost, .int .i64 x.built, .int .i64 x.seq, .int .i64 x.tail, .int .i64 x.gen, .slice ad nd cd, .int .i64 x.fuse, .bool x.down, .bool x.broken]
  obtain ⟨k0, k1, k2, k3, k4, k5, k6, k7, k8, k9, k10, k11, k12⟩ := X.cells13
  have h1 := h0.below hA
  have i1 : (0 : Int) ≤ (j : Int) := by omega
  have i2 : (j : Int) < (nm : Int) := by omega
  rcases quads_at rfl h1 with h0' | ⟨b, off, rfl, hbl, hcs⟩
  · omega
  have hdj : ms[j]? = some (ms[j]'(by omega)) := List.getElem?_eq_getElem (by omega)
  generalize ms[j]'(by omega) = d at hdj
  obtain ⟨v0, v1, v2, v3, hv0, hv1, hv2, hv3, hrv⟩ := hcs j d hdj
  obtain ⟨a0, c0, a1, c1, a3, c3, ss, cs, f, bs, rfl, rfl, rfl, rfl, rfl, r0, r1, r3⟩ := mem_at hrv
  clear hcs hrv h1 h0
  have HR := hidden (And.intro hdj (And.intro r0 (And.intro r1 r3)))
  clear hdj r0 r1 r3
  cases f
  · by_cases hjl : (j : Int) = x.lost
    · have e1 : ((j : Int) == x.lost) = true := by simpa using hjl
      have HJ := hidden hjl
      clear hjl
      go_enter Tryz.func138, Tryz.ntmps138
      go_wp2
      go_quiet (fail)
      go_wp2
      refine bodyPost_ret (v := .iface 167 (.agg #[.slice a0 ss.length c0, .slice a1 cs.length c1, .bool false, .slice a3 bs.length c3, .int .i64 x.built])) (by simp [results, Tryz.results138, go_sem]) rfl ?_
      exact ⟨_, rfl, ⟨_, _, _, _, _, _, ss, cs, false, bs, HR.out.1, HR.out.2.1.below (below_drewN (Below.refl _ _) _), HR.out.2.2.1.below (below_drewN (Below.refl _ _) _), HR.out.2.2.2.below (below_drewN (Below.refl _ _) _), .inr (.inl ⟨rfl, HJ.out, rfl⟩)⟩, below_drewN hA _⟩
    · have e1 : ((j : Int) == x.lost) = false := by simpa using hjl
      have HJ := hidden hjl
      clear hjl
      go_enter Tryz.func138, Tryz.ntmps138
      go_wp2
      refine bodyPost_ret (v := .iface 169 (.agg #[.slice a0 ss.length c0, .slice a1 cs.length c1, .bool false, .slice a3 bs.length c3])) (by simp [results, Tryz.results138, go_sem]) rfl ?_
      exact ⟨_, rfl, ⟨_, _, _, _, _, _, ss, cs, false, bs, HR.out.1, HR.out.2.1, HR.out.2.2.1, HR.out.2.2.2, .inr (.inr ⟨rfl, HJ.out, rfl⟩)⟩, hA⟩
  · go_enter Tryz.func138, Tryz.ntmps138
    go_wp2
    refine bodyPost_ret (v := .iface 165 (.agg #[])) (by simp [results, Tryz.results138, go_sem]) rfl ?_
    exact ⟨_, rfl, ⟨_, _, _, _, _, _, ss, cs, true, bs, HR.out.1, HR.out.2.1, HR.out.2.2.1, HR.out.2.2.2, .inl ⟨rfl, rfl⟩⟩, hA⟩

theorem is_sound (w : World) (v0 v1 v2 v3 : Value) : Sem.run Tryz.prog (Instr.typeAssert (.iface 169 (.agg #[v0, v1, v2, v3])) 147 169 true) w = .ok (.tuple #[.agg #[v0, v1, v2, v3], .bool true]) w := by kernel_rfl
theorem lost_sound (w : World) (v : Value) : Sem.run Tryz.prog (Instr.typeAssert (.iface 167 v) 147 169 true) w = .ok (.tuple #[.agg #[.slice none 0 0, .slice none 0 0, .bool false, .slice none 0 0], .bool false]) w := by kernel_rfl
theorem failed_sound (w : World) (v : Value) : Sem.run Tryz.prog (Instr.typeAssert (.iface 165 v) 147 169 true) w = .ok (.tuple #[.agg #[.slice none 0 0, .slice none 0 0, .bool false, .slice none 0 0], .bool false]) w := by kernel_rfl
theorem is_lost (w : World) (v0 v1 v2 v3 v4 : Value) : Sem.run Tryz.prog (Instr.typeAssert (.iface 167 (.agg #[v0, v1, v2, v3, v4])) 147 167 true) w = .ok (.tuple #[.agg #[v0, v1, v2, v3, v4], .bool true]) w := by kernel_rfl
theorem failed_lost (w : World) (v : Value) : Sem.run Tryz.prog (Instr.typeAssert (.iface 165 v) 147 167 true) w = .ok (.tuple #[.agg #[.slice none 0 0, .slice none 0 0, .bool false, .slice none 0 0, .int .i64 0], .bool false]) w := by kernel_rfl

set_option maxRecDepth 20000 in
set_option maxHeartbeats 800000 in
theorem bears_sound (w : World) (a0 a1 a3 : Option Addr) (n0 c0 n1 c1 n3 c3 : Nat) (f : Bool) (s : Int) : Calls Tryz.prog 166 #[.iface 169 (.agg #[.slice a0 n0 c0, .slice a1 n1 c1, .bool f, .slice a3 n3 c3]), .int .i64 s] w fun e w' => e = .returned (.bool true) ∧ Below w.heap.size w w' := by
  have hA := new_below w (.cells #[.slice a0 n0 c0, .slice a1 n1 c1, .bool f, .slice a3 n3 c3] 169)
  have s1 := is_sound w (.slice a0 n0 c0) (.slice a1 n1 c1) (.bool f) (.slice a3 n3 c3)
  go_enter Tryz.func166, Tryz.ntmps166
  go_wp2
  go_ret
  exact ⟨rfl, hA⟩
set_option maxRecDepth 20000 in
set_option maxHeartbeats 800000 in
theorem bears_lost (w : World) (a0 a1 a3 : Option Addr) (n0 c0 n1 c1 n3 c3 : Nat) (f : Bool) (b s : Int) : Calls Tryz.prog 166 #[.iface 167 (.agg #[.slice a0 n0 c0, .slice a1 n1 c1, .bool f, .slice a3 n3 c3, .int .i64 b]), .int .i64 s] w fun e w' => e = .returned (.bool (decide (s < b))) ∧ Below w.heap.size w w' := by
  have hA := new_below w (.cells #[.slice a0 n0 c0, .slice a1 n1 c1, .bool f, .slice a3 n3 c3, .int .i64 b] 167)
  have s1 := lost_sound w (.agg #[.slice a0 n0 c0, .slice a1 n1 c1, .bool f, .slice a3 n3 c3, .int .i64 b])
  have s2 := is_lost w (.slice a0 n0 c0) (.slice a1 n1 c1) (.bool f) (.slice a3 n3 c3) (.int .i64 b)
  go_enter Tryz.func166, Tryz.ntmps166
  go_wp2
  go_ret
  exact ⟨rfl, hA⟩
set_option maxRecDepth 20000 in
set_option maxHeartbeats 800000 in
theorem bears_failed (w : World) (s : Int) : Calls Tryz.prog 166 #[.iface 165 (.agg #[]), .int .i64 s] w fun e w' => e = .returned (.bool false) ∧ w' = w := by
  have s1 := failed_sound w (.agg #[])
  have s2 := failed_lost w (.agg #[])
  go_enter Tryz.func166, Tryz.ntmps166
  go_wp2
  go_ret
  exact ⟨rfl, rfl⟩

end Go.Proofs.YtjmjianlcoleaaaGreat

/-
  The walks of what a disk reads in each of its states, and of the word that it holds of a stripe. Condition: the disk weighs at most 2097152.
-/
namespace Go.Proofs.YtjmjianlcoleaaaGreat
open Go.RowKit

set_option maxHeartbeats 800000 in
theorem read_sound (w : World) (E : TypeId) (a0 a1 a3 : Option Addr) (n0 c0 n1 c1 n3 c3 : Nat) (ss : List (List Int)) (cs : List (Int × List Int)) (f : Bool) (bs : List Int) (n : Int) (h0 : tIntSS.Rd w [.slice a0 n0 c0] ss) (h1 : (tWrS E).Rd w [.slice a1 n1 c1] cs) (h3 : tIntS.Rd w [.slice a3 n3 c3] bs) (hw : wtMem (ss, cs, f, bs) ≤ 2097152) :
    Calls Tryz.prog 225 #[.agg #[.slice a0 n0 c0, .slice a1 n1 c1, .bool f, .slice a3 n3 c3], .int .i64 n] w fun e w' => ∃ a' l c', e = .returned (.tuple #[.slice a' l c', .bool (readOk ss cs f bs n)]) ∧ tIntS.Own w' w.heap.size w'.heap.size [.slice a' l c'] (readD ss cs f bs n) ∧ Below w.heap.size w w' := by
  have hA := new_below w (.cells #[.slice a0 n0 c0, .slice a1 n1 c1, .bool f, .slice a3 n3 c3] 169)
  have X := Box.new w 169 #[.slice a0 n0 c0, .slice a1 n1 c1, .bool f, .slice a3 n3 c3]
  have k0 := X.cell 0
  have k1 := X.cell 1
  have k2 := X.cell 2
  have k3 := X.cell 3
  have r0 := h0.below hA
  have r1 := h1.below hA
  have r3 := h3.below hA
  have zA := hA.size
  go_enter Tryz.func225, Tryz.ntmps225
  go_wp2_with fail
  refine (implReadSec_any _ E _ _ _ _ _ _ _ _ _ ss cs f bs n r0 r1 r3 hw).mono ?_
  rintro e w1 ⟨a', l, c', rfl, o1, b1⟩
  have HO := hidden (o1.widen (lo' := w.heap.size) zA (Nat.le_refl _))
  have HB := hidden (Below.andThen hA b1)
  clear o1 b1 k0 k1 k2 k3 r0 r1 r3 X
  go_wp2
  refine bodyPost_ret (v := .tuple #[.slice a' l c', .bool (readOk ss cs f bs n)]) (by simp [results, Tryz.results225, go_sem]) rfl ?_
  exact ⟨_, _, _, rfl, HO.out, HB.out⟩
set_option maxHeartbeats 800000 in
theorem read_lost (w : World) (E : TypeId) (a0 a1 a3 : Option Addr) (n0 c0 n1 c1 n3 c3 : Nat) (ss : List (List Int)) (cs : List (Int × List Int)) (f : Bool) (bs : List Int) (bu : Int) (n : Int) (h0 : tIntSS.Rd w [.slice a0 n0 c0] ss) (h1 : (tWrS E).Rd w [.slice a1 n1 c1] cs) (h3 : tIntS.Rd w [.slice a3 n3 c3] bs) (hw : wtMem (ss, cs, f, bs) ≤ 2097152) :
    Calls Tryz.prog 221 #[.agg #[.slice a0 n0 c0, .slice a1 n1 c1, .bool f, .slice a3 n3 c3, .int .i64 bu], .int .i64 n] w fun e w' => ∃ a' l c', e = .returned (.tuple #[.slice a' l c', .bool (readOk ss cs f bs n)]) ∧ tIntS.Own w' w.heap.size w'.heap.size [.slice a' l c'] (readD ss cs f bs n) ∧ Below w.heap.size w w' := by
  have hA := new_below w (.cells #[.slice a0 n0 c0, .slice a1 n1 c1, .bool f, .slice a3 n3 c3, .int .i64 bu] 167)
  have X := Box.new w 167 #[.slice a0 n0 c0, .slice a1 n1 c1, .bool f, .slice a3 n3 c3, .int .i64 bu]
  have k0 := X.cell 0
  have k1 := X.cell 1
  have k2 := X.cell 2
  have k3 := X.cell 3
  have r0 := h0.below hA
  have r1 := h1.below hA
  have r3 := h3.below hA
  have zA := hA.size
  go_enter Tryz.func221, Tryz.ntmps221
  go_wp2_with fail
  refine (implReadSec_any _ E _ _ _ _ _ _ _ _ _ ss cs f bs n r0 r1 r3 hw).mono ?_
  rintro e w1 ⟨a', l, c', rfl, o1, b1⟩
  have HO := hidden (o1.widen (lo' := w.heap.size) zA (Nat.le_refl _))
  have HB := hidden (Below.andThen hA b1)
  clear o1 b1 k0 k1 k2 k3 r0 r1 r3 X
  go_wp2
  refine bodyPost_ret (v := .tuple #[.slice a' l c', .bool (readOk ss cs f bs n)]) (by simp [results, Tryz.results221, go_sem]) rfl ?_
  exact ⟨_, _, _, rfl, HO.out, HB.out⟩
theorem read_failed (w : World) (n : Int) : Calls Tryz.prog 220 #[.agg #[], .int .i64 n] w fun e w' => ∃ a' c', e = .returned (.tuple #[.slice a' 0 c', .bool false]) ∧ Below w.heap.size w w' := by
  have hA := (new_below w (.cells #[] 165)).alloc (by simp) (.cells #[] 3)
  go_enter Tryz.func220, Tryz.ntmps220
  go_wp2
  refine bodyPost_ret (v := .tuple #[.slice (some ⟨w.heap.size + 1, 0, none⟩) 0 0, .bool false]) (by simp [results, Tryz.results220, go_sem]) rfl ?_
  exact ⟨_, _, rfl, hA⟩

theorem live_at6 {x : ArrN} {ms : List MemD} {j : Nat} {s : Int} {d : MemD} (h : ms[j]? = some d) : liveB x ms (j : Int) s = (!d.2.2.1 && (!decide ((j : Int) = x.lost) || decide (s < x.built))) := by
  have hj := (List.getElem?_eq_some_iff.1 h).1
  unfold liveB
  rw [show inB (j : Int) 0 ((ms.length : Int) - 1) = true from inB_iff.2 (by omega), Int.toNat_natCast, List.getD_eq_getElem?_getD, h]
  rfl
theorem memD_at6 {ms : List MemD} {j : Nat} {d : MemD} (h : ms[j]? = some d) : memD ms (j : Int) = d := by unfold memD; rw [Int.toNat_natCast, List.getD_eq_getElem?_getD, h]; rfl
theorem has_at6 {x : ArrN} {ms : List MemD} {j : Nat} {s : Int} {ss : List (List Int)} {cs : List (Int × List Int)} {f : Bool} {bs : List Int} (h : ms[j]? = some (ss, cs, f, bs)) : has6 x ms (j : Int) s = (liveB x ms (j : Int) s && (readOk ss cs f bs (dataN s) && decide ((readD ss cs f bs (dataN s)).length = 1))) ∧ (has6 x ms (j : Int) s = true → word6 x ms (j : Int) s = (readD ss cs f bs (dataN s)).getD 0 0) := by
  have hm := memD_at6 h
  have hsec : sec6 ms (j : Int) s = readD ss cs f bs (dataN s) := by unfold sec6; rw [hm]
  refine ⟨by unfold has6; rw [hsec, hm], fun h => by rw [word6_of h, hsec]⟩

set_option linter.unusedSimpArgs false in
set_option maxRecDepth 20000 in
set_option maxHeartbeats 3200000 in
theorem wordOn_failed (w : World) (x : ArrN) (ms : List MemD) (j : Nat) (s : Int) (hd : has6 x ms (j : Int) s = false) :
    Calls Tryz.prog 137 #[.iface 165 (.agg #[]), .int .i64 s] w fun e w' => e = .returned (.tuple #[.int .i64 (word6 x ms (j : Int) s), .bool (has6 x ms (j : Int) s)]) ∧ Below w.heap.size w w' := by
  have na : ∀ w, Sem.run Tryz.prog (nilAhead (311 + 1) 165 (.agg #[]) "loop.example/g00398/impl.read") w = .ok (some false) w := fun w => by kernel_rfl
  have HD := hidden hd
  clear hd
  go_enter Tryz.func137, Tryz.ntmps137
  go_wp2_with fail
  refine wp_region_held_drew (S := fun w' => Below w.heap.size w w') (by kernel_rfl) ?_ (fun hHeld => ?_)
  · exact (Below.refl _ _).drew
  refine held_take (i := 0) (v := ?_) rfl (by kernel_rfl) (by kernel_rfl) (by kernel_rfl) (fun _ _ _ h => h) (by kernel_rfl) ?_ hHeld ?_
  rotate_left 1
  · (intro w hSw; (try dsimp only at hSw); go_split_ands; go_simp; first | done | with_reducible rfl)
  simp only [Act.put, List.setIfInBounds_toArray, List.set_cons_zero, List.set_cons_succ]
  refine held_take (i := 1) (v := ?_) rfl (by kernel_rfl) (by kernel_rfl) (by kernel_rfl) (fun _ _ _ h => h) (by kernel_rfl) ?_ hHeld ?_
  rotate_left 1
  · (intro w hSw; (try dsimp only at hSw); go_split_ands; go_simp; first | done | with_reducible rfl)
  simp only [Act.put, List.setIfInBounds_toArray, List.set_cons_zero, List.set_cons_succ]
  refine held_take (i := 3) (v := ?_) rfl (by kernel_rfl) (by kernel_rfl) (by kernel_rfl) (fun _ _ _ h => h) (by kernel_rfl) ?_ hHeld ?_
  rotate_left 1
  · (intro w hSw; (try dsimp only at hSw); go_split_ands; go_simp; first | done | with_reducible rfl)
  simp only [Act.put, List.setIfInBounds_toArray, List.set_cons_zero, List.set_cons_succ]
  refine held_take (i := 4) (v := ?_) rfl (by kernel_rfl) (by kernel_rfl) (by kernel_rfl) (fun _ _ _ h => h) (by kernel_rfl) ?_ hHeld ?_
  rotate_left 1
  · (intro w hSw; (try dsimp only at hSw); go_split_ands; go_simp; first | done | with_reducible rfl)
  simp only [Act.put, List.setIfInBounds_toArray, List.set_cons_zero, List.set_cons_succ]
  refine held_take (i := 5) (v := ?_) rfl (by kernel_rfl) (by kernel_rfl) (by kernel_rfl) (fun _ _ _ h => h) (by kernel_rfl) ?_ hHeld ?_
  rotate_left 1
  · (intro w hSw; (try dsimp only at hSw); go_split_ands; go_simp; first | done | with_reducible rfl)
  simp only [Act.put, List.setIfInBounds_toArray, List.set_cons_zero, List.set_cons_succ]
  refine held_one (i := 2) (by kernel_rfl) rfl (by kernel_rfl) (fun K hK => ?_)
  go_simp
  refine (implDataAt_any _ _).mono ?_
  rintro e w1 ⟨rfl, h1⟩
  subst h1
  go_wp2_with fail
  clear hHeld
  refine hK.out _ _ ?_ (fun hHeld => ?_)
  · exact (Below.refl _ _).drew
  clear hK K
  refine held_one (i := 6) (by kernel_rfl) rfl (by kernel_rfl) (fun K hK => ?_)
  go_simp
  refine (read_failed _ _).mono ?_
  rintro e w2 ⟨a', c', rfl, b2⟩
  have b2' : Below w.heap.size w w2 := (Below.refl w.heap.size w).drew.trans b2
  clear b2
  go_wp2_with fail
  clear hHeld
  refine hK.out _ _ ?_ (fun hHeld => ?_)
  · exact b2'
  clear hK K
  refine held_take (i := 7) (v := ?_) rfl (by kernel_rfl) (by kernel_rfl) (by kernel_rfl) (fun _ _ _ h => h) (by kernel_rfl) ?_ hHeld ?_
  rotate_left 1
  · (intro w hSw; (try dsimp only at hSw); go_split_ands; go_simp; first | done | with_reducible rfl)
  simp only [Act.put, List.setIfInBounds_toArray, List.set_cons_zero, List.set_cons_succ]
  refine held_take (i := 8) (v := ?_) rfl (by kernel_rfl) (by kernel_rfl) (by kernel_rfl) (fun _ _ _ h => h) (by kernel_rfl) ?_ hHeld ?_
  rotate_left 1
  · (intro w hSw; (try dsimp only at hSw); go_split_ands; go_simp; first | done | with_reducible rfl)
  simp only [Act.put, List.setIfInBounds_toArray, List.set_cons_zero, List.set_cons_succ]
  refine held_take (i := 9) (v := ?_) rfl (by kernel_rfl) (by kernel_rfl) (by kernel_rfl) (fun _ _ _ h => h) (by kernel_rfl) ?_ hHeld ?_
  rotate_left 1
  · (intro w hSw; (try dsimp only at hSw); go_split_ands; go_simp; first | done | with_reducible rfl)
  simp only [Act.put, List.setIfInBounds_toArray, List.set_cons_zero, List.set_cons_succ]
  refine held_take (i := 10) (v := ?_) rfl (by kernel_rfl) (by kernel_rfl) (by kernel_rfl) (fun _ _ _ h => h) (by kernel_rfl) ?_ hHeld ?_
  rotate_left 1
  · (intro w hSw; (try dsimp only at hSw); go_split_ands; go_simp; first | done | with_reducible rfl)
  simp only [Act.put, List.setIfInBounds_toArray, List.set_cons_zero, List.set_cons_succ]
  refine held_take (i := 11) (v := ?_) rfl (by kernel_rfl) (by kernel_rfl) (by kernel_rfl) (fun _ _ _ h => h) (by kernel_rfl) ?_ hHeld ?_
  rotate_left 1
  · (intro w hSw; (try dsimp only at hSw); go_split_ands; go_simp; first | done | with_reducible rfl)
  simp only [Act.put, List.setIfInBounds_toArray, List.set_cons_zero, List.set_cons_succ]
  refine wpAnyH_done (by kernel_rfl) ?_ _
  clear hHeld
  have HB := hidden b2'
  go_wp2
  refine bodyPost_ret (v := .tuple #[.int .i64 0, .bool false]) (by simp [results, Tryz.results137, go_sem]) rfl ?_
  exact ⟨ret_word HD.out, HB.out⟩

set_option linter.unusedSimpArgs false in
set_option maxRecDepth 20000 in
set_option maxHeartbeats 3200000 in
theorem wordOn_lost (w : World) (E : TypeId) (x : ArrN) (ms : List MemD) (j : Nat) (s : Int) (a0 a1 a3 : Option Addr) (c0 c1 c3 : Nat) (ss : List (List Int)) (cs : List (Int × List Int)) (bs : List Int) (h0 : tIntSS.Rd w [.slice a0 ss.length c0] ss) (h1 : (tWrS E).Rd w [.slice a1 cs.length c1] cs) (h3 : tIntS.Rd w [.slice a3 bs.length c3] bs) (hw : wtMem (ss, cs, false, bs) ≤ 2097152) (hd : has6 x ms (j : Int) s = (decide (s < x.built) && (readOk ss cs false bs (dataN s) && decide ((readD ss cs false bs (dataN s)).length = 1)))) (hv : has6 x ms (j : Int) s = true → word6 x ms (j : Int) s = (readD ss cs false bs (dataN s)).getD 0 0) :
    Calls Tryz.prog 137 #[.iface 167 (.agg #[.slice a0 ss.length c0, .slice a1 cs.length c1, .bool false, .slice a3 bs.length c3, .int .i64 x.built]), .int .i64 s] w fun e w' => e = .returned (.tuple #[.int .i64 (word6 x ms (j : Int) s), .bool (has6 x ms (j : Int) s)]) ∧ Below w.heap.size w w' := by
  have na : ∀ w, Sem.run Tryz.prog (nilAhead (311 + 1) 167 (.agg #[.slice a0 ss.length c0, .slice a1 cs.length c1, .bool false, .slice a3 bs.length c3, .int .i64 x.built]) "loop.example/g00398/impl.read") w = .ok (some false) w := fun w => by kernel_rfl
  have HD := hidden hd
  have HV := hidden hv
  clear hd hv
  go_enter Tryz.func137, Tryz.ntmps137
  go_wp2_with fail
  refine wp_region_held_drew (S := fun w' => Below w.heap.size w w') (by kernel_rfl) ?_ (fun hHeld => ?_)
  · exact (Below.refl _ _).drew
  refine held_take (i := 0) (v := ?_) rfl (by kernel_rfl) (by kernel_rfl) (by kernel_rfl) (fun _ _ _ h => h) (by kernel_rfl) ?_ hHeld ?_
  rotate_left 1
  · (intro w hSw; (try dsimp only at hSw); go_split_ands; go_simp; first | done | with_reducible rfl)
  simp only [Act.put, List.setIfInBounds_toArray, List.set_cons_zero, List.set_cons_succ]
  refine held_take (i := 1) (v := ?_) rfl (by kernel_rfl) (by kernel_rfl) (by kernel_rfl) (fun _ _ _ h => h) (by kernel_rfl) ?_ hHeld ?_
  rotate_left 1
  · (intro w hSw; (try dsimp only at hSw); go_split_ands; go_simp; first | done | with_reducible rfl)
  simp only [Act.put, List.setIfInBounds_toArray, List.set_cons_zero, List.set_cons_succ]
  refine held_take (i := 3) (v := ?_) rfl (by kernel_rfl) (by kernel_rfl) (by kernel_rfl) (fun _ _ _ h => h) (by kernel_rfl) ?_ hHeld ?_
  rotate_left 1
  · (intro w hSw; (try dsimp only at hSw); go_split_ands; go_simp; first | done | with_reducible rfl)
  simp only [Act.put, List.setIfInBounds_toArray, List.set_cons_zero, List.set_cons_succ]
  refine held_take (i := 4) (v := ?_) rfl (by kernel_rfl) (by kernel_rfl) (by kernel_rfl) (fun _ _ _ h => h) (by kernel_rfl) ?_ hHeld ?_
  rotate_left 1
  · (intro w hSw; (try dsimp only at hSw); go_split_ands; go_simp; first | done | with_reducible rfl)
  simp only [Act.put, List.setIfInBounds_toArray, List.set_cons_zero, List.set_cons_succ]
  refine held_take (i := 5) (v := ?_) rfl (by kernel_rfl) (by kernel_rfl) (by kernel_rfl) (fun _ _ _ h => h) (by kernel_rfl) ?_ hHeld ?_
  rotate_left 1
  · (intro w hSw; (try dsimp only at hSw); go_split_ands; go_simp; first | done | with_reducible rfl)
  simp only [Act.put, List.setIfInBounds_toArray, List.set_cons_zero, List.set_cons_succ]
  refine held_one (i := 2) (by kernel_rfl) rfl (by kernel_rfl) (fun K hK => ?_)
  go_simp
  refine (implDataAt_any _ _).mono ?_
  rintro e w1 ⟨rfl, h1⟩
  subst h1
  go_wp2_with fail
  clear hHeld
  refine hK.out _ _ ?_ (fun hHeld => ?_)
  · exact (Below.refl _ _).drew
  clear hK K
  refine held_one (i := 6) (by kernel_rfl) rfl (by kernel_rfl) (fun K hK => ?_)
  go_simp
  refine (read_lost _ E _ _ _ _ _ _ _ _ _ ss cs false bs _ _ h0.drew h1.drew h3.drew hw).mono ?_
  rintro e w2 ⟨a', l, c', rfl, o2, b2⟩
  have b2' : Below w.heap.size w w2 := (Below.refl w.heap.size w).drew.trans b2
  clear b2
  go_wp2_with fail
  clear hHeld
  refine hK.out _ _ ?_ (fun hHeld => ?_)
  · exact b2'
  clear hK K
  refine held_take (i := 7) (v := ?_) rfl (by kernel_rfl) (by kernel_rfl) (by kernel_rfl) (fun _ _ _ h => h) (by kernel_rfl) ?_ hHeld ?_
  rotate_left 1
  · (intro w hSw; (try dsimp only at hSw); go_split_ands; go_simp; first | done | with_reducible rfl)
  simp only [Act.put, List.setIfInBounds_toArray, List.set_cons_zero, List.set_cons_succ]
  refine held_take (i := 8) (v := ?_) rfl (by kernel_rfl) (by kernel_rfl) (by kernel_rfl) (fun _ _ _ h => h) (by kernel_rfl) ?_ hHeld ?_
  rotate_left 1
  · (intro w hSw; (try dsimp only at hSw); go_split_ands; go_simp; first | done | with_reducible rfl)
  simp only [Act.put, List.setIfInBounds_toArray, List.set_cons_zero, List.set_cons_succ]
  refine held_take (i := 9) (v := ?_) rfl (by kernel_rfl) (by kernel_rfl) (by kernel_rfl) (fun _ _ _ h => h) (by kernel_rfl) ?_ hHeld ?_
  rotate_left 1
  · (intro w hSw; (try dsimp only at hSw); go_split_ands; go_simp; first | done | with_reducible rfl)
  simp only [Act.put, List.setIfInBounds_toArray, List.set_cons_zero, List.set_cons_succ]
  refine held_take (i := 10) (v := ?_) rfl (by kernel_rfl) (by kernel_rfl) (by kernel_rfl) (fun _ _ _ h => h) (by kernel_rfl) ?_ hHeld ?_
  rotate_left 1
  · (intro w hSw; (try dsimp only at hSw); go_split_ands; go_simp; first | done | with_reducible rfl)
  simp only [Act.put, List.setIfInBounds_toArray, List.set_cons_zero, List.set_cons_succ]
  refine held_take (i := 11) (v := ?_) rfl (by kernel_rfl) (by kernel_rfl) (by kernel_rfl) (fun _ _ _ h => h) (by kernel_rfl) ?_ hHeld ?_
  rotate_left 1
  · (intro w hSw; (try dsimp only at hSw); go_split_ands; go_simp; first | done | with_reducible rfl)
  simp only [Act.put, List.setIfInBounds_toArray, List.set_cons_zero, List.set_cons_succ]
  refine wpAnyH_done (by kernel_rfl) ?_ _
  clear hHeld
  have HO := hidden o2
  clear o2
  cases hok : readOk ss cs false bs (dataN s)
  · have HF : Hid (has6 x ms (j : Int) s = false) := by unfold Hid; rw [HD.out, hok]; simp
    go_wp2
    refine bodyPost_ret (v := .tuple #[.int .i64 0, .bool false]) (by simp [results, Tryz.results137, go_sem]) rfl ?_
    exact ⟨ret_word HF.out, b2'⟩
  · go_wp2_with fail
    refine (bears_lost _ _ _ _ _ _ _ _ _ _ _ _ _).mono ?_
    rintro e w3 ⟨rfl, b3⟩
    have B3 := hidden (Below.andThen b2' b3)
    have o3 := HO.out.below b3
    clear b3
    obtain ⟨hr, hln, _⟩ := ints_rd o3.rd
    cases hbu : decide (s < x.built)
    · have HF : Hid (has6 x ms (j : Int) s = false) := by unfold Hid; rw [HD.out, hbu]; rfl
      go_wp2
      refine bodyPost_ret (v := .tuple #[.int .i64 0, .bool false]) (by simp [results, Tryz.results137, go_sem]) rfl ?_
      exact ⟨ret_word HF.out, B3.out⟩
    · skip
      have HD2 : Hid (has6 x ms (j : Int) s = decide ((readD ss cs false bs (dataN s)).length = 1)) := by unfold Hid; rw [HD.out, hok, hbu]; simp
      generalize hps : readD ss cs false bs (dataN s) = ps at hr hln HD2 HV
      have HPS := hidden hps
      clear hps
      by_cases h1 : l = 1
      · subst h1
        have hT : has6 x ms (j : Int) s = true := by rw [HD2.out, hln]; rfl
        have hV := HV.out hT
        obtain ⟨y, rfl⟩ : ∃ y, ps = [y] := by match ps, hln with | [y], _ => exact ⟨y, rfl⟩
        rcases hr with h0' | ⟨b, off, rfl, hbl, hrr⟩
        · simp at h0'
        have hc : w3.cell? ⟨b, off, none⟩ = some (.int .i64 y) := hrr 0 (by simp)
        go_wp2
        refine bodyPost_ret (v := .tuple #[.int .i64 y, .bool true]) (by simp [results, Tryz.results137, go_sem]) rfl ?_
        exact ⟨by rw [hV, hT]; rfl, B3.out⟩
      · have HF : Hid (has6 x ms (j : Int) s = false) := by unfold Hid; rw [HD2.out, hln]; simpa using h1
        have hl1 : ((l : Int) == 1) = false := by simp; omega
        have hl2 : ((l : Int) != 1) = true := by simp; omega
        go_wp2
        refine bodyPost_ret (v := .tuple #[.int .i64 0, .bool false]) (by simp [results, Tryz.results137, go_sem]) rfl ?_
        exact ⟨ret_word HF.out, B3.out⟩

set_option linter.unusedSimpArgs false in
set_option maxRecDepth 20000 in
set_option maxHeartbeats 3200000 in
theorem wordOn_sound (w : World) (E : TypeId) (x : ArrN) (ms : List MemD) (j : Nat) (s : Int) (a0 a1 a3 : Option Addr) (c0 c1 c3 : Nat) (ss : List (List Int)) (cs : List (Int × List Int)) (bs : List Int) (h0 : tIntSS.Rd w [.slice a0 ss.length c0] ss) (h1 : (tWrS E).Rd w [.slice a1 cs.length c1] cs) (h3 : tIntS.Rd w [.slice a3 bs.length c3] bs) (hw : wtMem (ss, cs, false, bs) ≤ 2097152) (hd : has6 x ms (j : Int) s = (true && (readOk ss cs false bs (dataN s) && decide ((readD ss cs false bs (dataN s)).length = 1)))) (hv : has6 x ms (j : Int) s = true → word6 x ms (j : Int) s = (readD ss cs false bs (dataN s)).getD 0 0) :
    Calls Tryz.prog 137 #[.iface 169 (.agg #[.slice a0 ss.length c0, .slice a1 cs.length c1, .bool false, .slice a3 bs.length c3]), .int .i64 s] w fun e w' => e = .returned (.tuple #[.int .i64 (word6 x ms (j : Int) s), .bool (has6 x ms (j : Int) s)]) ∧ Below w.heap.size w w' := by
  have na : ∀ w, Sem.run Tryz.prog (nilAhead (311 + 1) 169 (.agg #[.slice a0 ss.length c0, .slice a1 cs.length c1, .bool false, .slice a3 bs.length c3]) "loop.example/g00398/impl.read") w = .ok (some false) w := fun w => by kernel_rfl
  have HD := hidden hd
  have HV := hidden hv
  clear hd hv
  go_enter Tryz.func137, Tryz.ntmps137
  go_wp2_with fail
  refine wp_region_held_drew (S := fun w' => Below w.heap.size w w') (by kernel_rfl) ?_ (fun hHeld => ?_)
  · exact (Below.refl _ _).drew
  refine held_take (i := 0) (v := ?_) rfl (by kernel_rfl) (by kernel_rfl) (by kernel_rfl) (fun _ _ _ h => h) (by kernel_rfl) ?_ hHeld ?_
  rotate_left 1
  · (intro w hSw; (try dsimp only at hSw); go_split_ands; go_simp; first | done | with_reducible rfl)
  simp only [Act.put, List.setIfInBounds_toArray, List.set_cons_zero, List.set_cons_succ]
  refine held_take (i := 1) (v := ?_) rfl (by kernel_rfl) (by kernel_rfl) (by kernel_rfl) (fun _ _ _ h => h) (by kernel_rfl) ?_ hHeld ?_
  rotate_left 1
  · (intro w hSw; (try dsimp only at hSw); go_split_ands; go_simp; first | done | with_reducible rfl)
  simp only [Act.put, List.setIfInBounds_toArray, List.set_cons_zero, List.set_cons_succ]
  refine held_take (i := 3) (v := ?_) rfl (by kernel_rfl) (by kernel_rfl) (by kernel_rfl) (fun _ _ _ h => h) (by kernel_rfl) ?_ hHeld ?_
  rotate_left 1
  · (intro w hSw; (try dsimp only at hSw); go_split_ands; go_simp; first | done | with_reducible rfl)
  simp only [Act.put, List.setIfInBounds_toArray, List.set_cons_zero, List.set_cons_succ]
  refine held_take (i := 4) (v := ?_) rfl (by kernel_rfl) (by kernel_rfl) (by kernel_rfl) (fun _ _ _ h => h) (by kernel_rfl) ?_ hHeld ?_
  rotate_left 1
  · (intro w hSw; (try dsimp only at hSw); go_split_ands; go_simp; first | done | with_reducible rfl)
  simp only [Act.put, List.setIfInBounds_toArray, List.set_cons_zero, List.set_cons_succ]
  refine held_take (i := 5) (v := ?_) rfl (by kernel_rfl) (by kernel_rfl) (by kernel_rfl) (fun _ _ _ h => h) (by kernel_rfl) ?_ hHeld ?_
  rotate_left 1
  · (intro w hSw; (try dsimp only at hSw); go_split_ands; go_simp; first | done | with_reducible rfl)
  simp only [Act.put, List.setIfInBounds_toArray, List.set_cons_zero, List.set_cons_succ]
  refine held_one (i := 2) (by kernel_rfl) rfl (by kernel_rfl) (fun K hK => ?_)
  go_simp
  refine (implDataAt_any _ _).mono ?_
  rintro e w1 ⟨rfl, h1⟩
  subst h1
  go_wp2_with fail
  clear hHeld
  refine hK.out _ _ ?_ (fun hHeld => ?_)
  · exact (Below.refl _ _).drew
  clear hK K
  refine held_one (i := 6) (by kernel_rfl) rfl (by kernel_rfl) (fun K hK => ?_)
  go_simp
  refine (read_sound _ E _ _ _ _ _ _ _ _ _ ss cs false bs _ h0.drew h1.drew h3.drew hw).mono ?_
  rintro e w2 ⟨a', l, c', rfl, o2, b2⟩
  have b2' : Below w.heap.size w w2 := (Below.refl w.heap.size w).drew.trans b2
  clear b2
  go_wp2_with fail
  clear hHeld
  refine hK.out _ _ ?_ (fun hHeld => ?_)
  · exact b2'
  clear hK K
  refine held_take (i := 7) (v := ?_) rfl (by kernel_rfl) (by kernel_rfl) (by kernel_rfl) (fun _ _ _ h => h) (by kernel_rfl) ?_ hHeld ?_
  rotate_left 1
  · (intro w hSw; (try dsimp only at hSw); go_split_ands; go_simp; first | done | with_reducible rfl)
  simp only [Act.put, List.setIfInBounds_toArray, List.set_cons_zero, List.set_cons_succ]
  refine held_take (i := 8) (v := ?_) rfl (by kernel_rfl) (by kernel_rfl) (by kernel_rfl) (fun _ _ _ h => h) (by kernel_rfl) ?_ hHeld ?_
  rotate_left 1
  · (intro w hSw; (try dsimp only at hSw); go_split_ands; go_simp; first | done | with_reducible rfl)
  simp only [Act.put, List.setIfInBounds_toArray, List.set_cons_zero, List.set_cons_succ]
  refine held_take (i := 9) (v := ?_) rfl (by kernel_rfl) (by kernel_rfl) (by kernel_rfl) (fun _ _ _ h => h) (by kernel_rfl) ?_ hHeld ?_
  rotate_left 1
  · (intro w hSw; (try dsimp only at hSw); go_split_ands; go_simp; first | done | with_reducible rfl)
  simp only [Act.put, List.setIfInBounds_toArray, List.set_cons_zero, List.set_cons_succ]
  refine held_take (i := 10) (v := ?_) rfl (by kernel_rfl) (by kernel_rfl) (by kernel_rfl) (fun _ _ _ h => h) (by kernel_rfl) ?_ hHeld ?_
  rotate_left 1
  · (intro w hSw; (try dsimp only at hSw); go_split_ands; go_simp; first | done | with_reducible rfl)
  simp only [Act.put, List.setIfInBounds_toArray, List.set_cons_zero, List.set_cons_succ]
  refine held_take (i := 11) (v := ?_) rfl (by kernel_rfl) (by kernel_rfl) (by kernel_rfl) (fun _ _ _ h => h) (by kernel_rfl) ?_ hHeld ?_
  rotate_left 1
  · (intro w hSw; (try dsimp only at hSw); go_split_ands; go_simp; first | done | with_reducible rfl)
  simp only [Act.put, List.setIfInBounds_toArray, List.set_cons_zero, List.set_cons_succ]
  refine wpAnyH_done (by kernel_rfl) ?_ _
  clear hHeld
  have HO := hidden o2
  clear o2
  cases hok : readOk ss cs false bs (dataN s)
  · have HF : Hid (has6 x ms (j : Int) s = false) := by unfold Hid; rw [HD.out, hok]; simp
    go_wp2
    refine bodyPost_ret (v := .tuple #[.int .i64 0, .bool false]) (by simp [results, Tryz.results137, go_sem]) rfl ?_
    exact ⟨ret_word HF.out, b2'⟩
  · go_wp2_with fail
    refine (bears_sound _ _ _ _ _ _ _ _ _ _ _ _).mono ?_
    rintro e w3 ⟨rfl, b3⟩
    have B3 := hidden (Below.andThen b2' b3)
    have o3 := HO.out.below b3
    clear b3
    obtain ⟨hr, hln, _⟩ := ints_rd o3.rd
    have HD2 : Hid (has6 x ms (j : Int) s = decide ((readD ss cs false bs (dataN s)).length = 1)) := by unfold Hid; rw [HD.out, hok]; simp
    generalize hps : readD ss cs false bs (dataN s) = ps at hr hln HD2 HV
    have HPS := hidden hps
    clear hps
    by_cases h1 : l = 1
    · subst h1
      have hT : has6 x ms (j : Int) s = true := by rw [HD2.out, hln]; rfl
      have hV := HV.out hT
      obtain ⟨y, rfl⟩ : ∃ y, ps = [y] := by match ps, hln with | [y], _ => exact ⟨y, rfl⟩
      rcases hr with h0' | ⟨b, off, rfl, hbl, hrr⟩
      · simp at h0'
      have hc : w3.cell? ⟨b, off, none⟩ = some (.int .i64 y) := hrr 0 (by simp)
      go_wp2
      refine bodyPost_ret (v := .tuple #[.int .i64 y, .bool true]) (by simp [results, Tryz.results137, go_sem]) rfl ?_
      exact ⟨by rw [hV, hT]; rfl, B3.out⟩
    · have HF : Hid (has6 x ms (j : Int) s = false) := by unfold Hid; rw [HD2.out, hln]; simpa using h1
      have hl1 : ((l : Int) == 1) = false := by simp; omega
      have hl2 : ((l : Int) != 1) = true := by simp; omega
      go_wp2
      refine bodyPost_ret (v := .tuple #[.int .i64 0, .bool false]) (by simp [results, Tryz.results137, go_sem]) rfl ?_
      exact ⟨ret_word HF.out, B3.out⟩

end Go.Proofs.YtjmjianlcoleaaaGreat

namespace Go.Proofs.YtjmjianlcoleaaaGreat
open Go.RowKit

/-- What a disk knows. -/
structure Sup where
  id : Int
  gen : Int
  role : Int
  n : Int
  s : Int
  tail : Int
  lost : Int
  built : Int

def supZ : Sup := ⟨0, 0, 0, 0, 0, 0, 0, 0⟩
def lostB (n s lost built : Int) : Bool := if lost = -1 then decide (built = 0) else inB lost 0 (n - 1) && inB built 0 s
def supB (x : Sup) : Bool := geoB x.n x.s && (lostB x.n x.s x.lost x.built && (inB x.role 0 (x.n - 1) && (inB x.id 1 60000 && (inB x.gen 0 60000 && inB x.tail 0 60000))))

theorem lostB_iff {n s lost built : Int} : lostB n s lost built = true ↔ (lost = -1 ∧ built = 0) ∨ (¬ lost = -1 ∧ 0 ≤ lost ∧ lost ≤ n - 1 ∧ 0 ≤ built ∧ built ≤ s) := by
  unfold lostB
  split
  · rename_i h
    simp [h]
  · rename_i h
    rw [Bool.and_eq_true, inB_iff, inB_iff]
    simp [h, and_assoc]
theorem supB_iff {x : Sup} : supB x = true ↔ (3 ≤ x.n ∧ x.n ≤ 5 ∧ 1 ≤ x.s ∧ x.s ≤ 8) ∧ ((x.lost = -1 ∧ x.built = 0) ∨ (¬ x.lost = -1 ∧ 0 ≤ x.lost ∧ x.lost ≤ x.n - 1 ∧ 0 ≤ x.built ∧ x.built ≤ x.s)) ∧ (0 ≤ x.role ∧ x.role ≤ x.n - 1) ∧ (1 ≤ x.id ∧ x.id ≤ 60000) ∧ (0 ≤ x.gen ∧ x.gen ≤ 60000) ∧ (0 ≤ x.tail ∧ x.tail ≤ 60000) := by
  unfold supB
  simp only [Bool.and_eq_true, geoB_iff, lostB_iff, inB_iff]
theorem supB_not {x : Sup} (h : ¬ ((3 ≤ x.n ∧ x.n ≤ 5 ∧ 1 ≤ x.s ∧ x.s ≤ 8) ∧ ((x.lost = -1 ∧ x.built = 0) ∨ (¬ x.lost = -1 ∧ 0 ≤ x.lost ∧ x.lost ≤ x.n - 1 ∧ 0 ≤ x.built ∧ x.built ≤ x.s)) ∧ (0 ≤ x.role ∧ x.role ≤ x.n - 1) ∧ (1 ≤ x.id ∧ x.id ≤ 60000) ∧ (0 ≤ x.gen ∧ x.gen ≤ 60000) ∧ (0 ≤ x.tail ∧ x.tail ≤ 60000))) : supB x = false := by
  rw [← Bool.not_eq_true, supB_iff]
  exact h

theorem Box.cells8 {w : World} {B : Nat} {T : TypeId} {v0 v1 v2 v3 v4 v5 v6 v7 : Value} (h : Box w B T #[v0, v1, v2, v3, v4, v5, v6, v7]) :
    w.cell? ⟨B, 0, none⟩ = some v0 ∧ w.cell? ⟨B, 1, none⟩ = some v1 ∧ w.cell? ⟨B, 2, none⟩ = some v2 ∧ w.cell? ⟨B, 3, none⟩ = some v3 ∧ w.cell? ⟨B, 4, none⟩ = some v4 ∧ w.cell? ⟨B, 5, none⟩ = some v5 ∧ w.cell? ⟨B, 6, none⟩ = some v6 ∧ w.cell? ⟨B, 7, none⟩ = some v7 :=
  ⟨h.cell 0, h.cell 1, h.cell 2, h.cell 3, h.cell 4, h.cell 5, h.cell 6, h.cell 7⟩

theorem lostOk_any (w : World) (n s lost built : Int) (hn : 3 ≤ n ∧ n ≤ 5) : Calls Tryz.prog 125 #[.agg #[.int .i64 n, .int .i64 s], .int .i64 lost, .int .i64 built] w fun e w' => e = .returned (.bool (lostB n s lost built)) ∧ Below w.heap.size w w' := by
  have hA := new_below w (.cells #[.int .i64 n, .int .i64 s] 31)
  obtain ⟨k0, k1⟩ := (Gbox.new w 31 n s).cells
  have gw : IntKind.i64.wrap (n - 1) = n - 1 := IntWalk.i64_in _ (by omega)
  by_cases h : lost = -1
  · by_cases hb : built = 0
    · go_enter Tryz.func125, Tryz.ntmps125
      go_wp2
      go_ret
      exact ⟨ret_bool (by unfold lostB; rw [if_pos h]; simp [hb]), hA⟩
    · go_enter Tryz.func125, Tryz.ntmps125
      go_wp2
      go_ret
      exact ⟨ret_bool (by unfold lostB; rw [if_pos h]; simp [hb]), hA⟩
  · have HD : Hid (lostB n s lost built = (inB lost 0 (n - 1) && inB built 0 s)) := by unfold Hid lostB; rw [if_neg h]
    go_enter Tryz.func125, Tryz.ntmps125
    go_wp2_with fail
    refine (within_any _ _ _ _).mono ?_
    rintro e w1 ⟨rfl, rfl⟩
    by_cases h1 : inB lost 0 (n - 1) = true
    · go_wp2_with fail
      refine (within_any _ _ _ _).mono ?_
      rintro e w1 ⟨rfl, rfl⟩
      go_wp2
      go_ret
      exact ⟨ret_bool (by rw [HD.out, h1]; rfl), hA⟩
    · have h1' : inB lost 0 (n - 1) = false := by simpa using h1
      go_wp2
      go_ret
      exact ⟨ret_bool (by rw [HD.out, h1']; rfl), hA⟩

set_option maxHeartbeats 1600000 in
theorem specSuperOk_any (w : World) (x : Sup) : Calls Tryz.prog 186 #[.agg #[.int .i64 x.id, .int .i64 x.gen, .int .i64 x.role, .int .i64 x.n, .int .i64 x.s, .int .i64 x.tail, .int .i64 x.lost, .int .i64 x.built]] w fun e w' => e = .returned (.bool (supB x)) ∧ Below w.heap.size w w' := by
  have hA := new_below w (.cells #[.int .i64 x.id, .int .i64 x.gen, .int .i64 x.role, .int .i64 x.n, .int .i64 x.s, .int .i64 x.tail, .int .i64 x.lost, .int .i64 x.built] 173)
  have X := Box.new w 173 #[.int .i64 x.id, .int .i64 x.gen, .int .i64 x.role, .int .i64 x.n, .int .i64 x.s, .int .i64 x.tail, .int .i64 x.lost, .int .i64 x.built]
  obtain ⟨k0, k1, k2, k3, k4, k5, k6, k7⟩ := X.cells8
  have zA := X.lt
  go_enter Tryz.func186, Tryz.ntmps186
  go_wp2_with fail
  refine (specGeoOk_any _ _ _).mono ?_
  rintro e w1 ⟨rfl, b1⟩
  have X1 := X.below b1 zA
  have B1 := Below.andThen hA b1
  clear k0 k1 k2 k3 k4 k5 k6 k7 X b1 hA zA
  obtain ⟨k0, k1, k2, k3, k4, k5, k6, k7⟩ := X1.cells8
  by_cases hg : geoB x.n x.s = true
  · obtain ⟨g1, g2, g3, g4⟩ := geoB_iff.1 hg
    have gw : IntKind.i64.wrap (x.n - 1) = x.n - 1 := IntWalk.i64_in _ (by omega)
    go_wp2_with fail
    refine (l1In_any _ _ _ _).mono ?_
    rintro e w2 ⟨rfl, rfl⟩
    by_cases h1 : inB x.id 1 60000 = true
    · have h1i := inB_iff.1 h1
      go_wp2_with fail
      refine (l1In_any _ _ _ _).mono ?_
      rintro e w2 ⟨rfl, rfl⟩
      by_cases h2 : inB x.gen 0 60000 = true
      · have h2i := inB_iff.1 h2
        go_wp2_with fail
        refine (l1In_any _ _ _ _).mono ?_
        rintro e w2 ⟨rfl, rfl⟩
        by_cases h3 : inB x.role 0 (x.n - 1) = true
        · have h3i := inB_iff.1 h3
          go_wp2_with fail
          refine (l1In_any _ _ _ _).mono ?_
          rintro e w2 ⟨rfl, rfl⟩
          by_cases h4 : inB x.tail 0 60000 = true
          · have h4i := inB_iff.1 h4
            go_wp2_with fail
            refine (l1In_any _ _ _ _).mono ?_
            rintro e w2 ⟨rfl, rfl⟩
            by_cases h5 : inB x.lost (-1) (x.n - 1) = true
            · have h5i := inB_iff.1 h5
              go_wp2_with fail
              refine (l1In_any _ _ _ _).mono ?_
              rintro e w2 ⟨rfl, rfl⟩
              by_cases h6 : inB x.built 0 x.s = true
              · have h6i := inB_iff.1 h6
                clear h1 h2 h3 h4 h5 hg
                go_wp2
                all_goals go_ret
                all_goals exact ⟨ret_bool (by rw [Bool.eq_iff_iff, supB_iff]; simp; omega), B1⟩
              · have h6' : inB x.built 0 x.s = false := by simpa using h6
                have h6n := inB_not.1 h6'
                go_wp2
                go_ret
                exact ⟨ret_bool (by symm; refine supB_not (fun hc => ?_); omega), B1⟩
            · have h5' : inB x.lost (-1) (x.n - 1) = false := by simpa using h5
              have h5n := inB_not.1 h5'
              go_wp2
              go_ret
              exact ⟨ret_bool (by symm; refine supB_not (fun hc => ?_); omega), B1⟩
          · have h4' : inB x.tail 0 60000 = false := by simpa using h4
            have h4n := inB_not.1 h4'
            go_wp2
            go_ret
            exact ⟨ret_bool (by symm; refine supB_not (fun hc => ?_); omega), B1⟩
        · have h3' : inB x.role 0 (x.n - 1) = false := by simpa using h3
          have h3n := inB_not.1 h3'
          go_wp2
          go_ret
          exact ⟨ret_bool (by symm; refine supB_not (fun hc => ?_); omega), B1⟩
      · have h2' : inB x.gen 0 60000 = false := by simpa using h2
        have h2n := inB_not.1 h2'
        go_wp2
        go_ret
        exact ⟨ret_bool (by symm; refine supB_not (fun hc => ?_); omega), B1⟩
    · have h1' : inB x.id 1 60000 = false := by simpa using h1
      have h1n := inB_not.1 h1'
      go_wp2
      go_ret
      exact ⟨ret_bool (by symm; refine supB_not (fun hc => ?_); omega), B1⟩
  · have hg' : geoB x.n x.s = false := by simpa using hg
    go_wp2
    go_ret
    exact ⟨ret_bool (by unfold supB; rw [hg']; rfl), B1⟩

set_option maxHeartbeats 1600000 in
theorem implSuperOk_any (w : World) (x : Sup) : Calls Tryz.prog 199 #[.agg #[.int .i64 x.id, .int .i64 x.gen, .int .i64 x.role, .int .i64 x.n, .int .i64 x.s, .int .i64 x.tail, .int .i64 x.lost, .int .i64 x.built]] w fun e w' => e = .returned (.bool (supB x)) ∧ Below w.heap.size w w' := by
  have hA := new_below w (.cells #[.int .i64 x.id, .int .i64 x.gen, .int .i64 x.role, .int .i64 x.n, .int .i64 x.s, .int .i64 x.tail, .int .i64 x.lost, .int .i64 x.built] 173)
  have X := Box.new w 173 #[.int .i64 x.id, .int .i64 x.gen, .int .i64 x.role, .int .i64 x.n, .int .i64 x.s, .int .i64 x.tail, .int .i64 x.lost, .int .i64 x.built]
  obtain ⟨k0, k1, k2, k3, k4, k5, k6, k7⟩ := X.cells8
  have zA := X.lt
  go_enter Tryz.func199, Tryz.ntmps199
  have hA2 := Below.andThen hA (new_below (w.alloc (.cells #[.int .i64 x.id, .int .i64 x.gen, .int .i64 x.role, .int .i64 x.n, .int .i64 x.s, .int .i64 x.tail, .int .i64 x.lost, .int .i64 x.built] 173)) (.cells #[.int .i64 x.n, .int .i64 x.s] 31))
  have X2 := X.alloc (.cells #[.int .i64 x.n, .int .i64 x.s] 31)
  have G2 := Box.new (w.alloc (.cells #[.int .i64 x.id, .int .i64 x.gen, .int .i64 x.role, .int .i64 x.n, .int .i64 x.s, .int .i64 x.tail, .int .i64 x.lost, .int .i64 x.built] 173)) 31 #[.int .i64 x.n, .int .i64 x.s]
  rw [World.size_alloc] at G2
  obtain ⟨j0, j1⟩ := G2.cells2
  obtain ⟨i0, i1, i2, i3, i4, i5, i6, i7⟩ := X2.cells8
  go_wp2_with fail
  generalize (w.alloc (.cells #[.int .i64 x.id, .int .i64 x.gen, .int .i64 x.role, .int .i64 x.n, .int .i64 x.s, .int .i64 x.tail, .int .i64 x.lost, .int .i64 x.built] 173)).alloc (.cells #[.int .i64 x.n, .int .i64 x.s] 31) = W at hA2 X2 G2 i0 i1 i2 i3 i4 i5 i6 i7 j0 j1 ⊢
  have zX := X2.lt
  have zG := G2.lt
  refine (implGeoOk_any _ _ _).mono ?_
  rintro e w1 ⟨rfl, b1⟩
  have X1 := X2.below b1 zX
  have G1 := G2.below b1 zG
  have B1 := Below.andThen hA2 b1
  clear k0 k1 k2 k3 k4 k5 k6 k7 i0 i1 i2 i3 i4 i5 i6 i7 j0 j1 X hA zA b1 hA2 X2 G2 zX zG
  obtain ⟨k0, k1, k2, k3, k4, k5, k6, k7⟩ := X1.cells8
  obtain ⟨j0, j1⟩ := G1.cells2
  by_cases hg : geoB x.n x.s = true
  · obtain ⟨g1, g2, g3, g4⟩ := geoB_iff.1 hg
    have gw : IntKind.i64.wrap (x.n - 1) = x.n - 1 := IntWalk.i64_in _ (by omega)
    go_wp2_with fail
    refine (lostOk_any _ _ _ _ _ ⟨g1, g2⟩).mono ?_
    rintro e w2 ⟨rfl, b2⟩
    have X3 := X1.below b2 X1.lt
    have G3 := G1.below b2 G1.lt
    have B3 := Below.andThen B1 b2
    clear k0 k1 k2 k3 k4 k5 k6 k7 j0 j1 X1 G1 B1 b2
    obtain ⟨k0, k1, k2, k3, k4, k5, k6, k7⟩ := X3.cells8
    obtain ⟨j0, j1⟩ := G3.cells2
    by_cases hl : lostB x.n x.s x.lost x.built = true
    · have hli := lostB_iff.1 hl
      go_wp2_with fail
      refine (within_any _ _ _ _).mono ?_
      rintro e w4 ⟨rfl, rfl⟩
      by_cases h1 : inB x.role 0 (x.n - 1) = true
      · have h1i := inB_iff.1 h1
        go_wp2_with fail
        refine (within_any _ _ _ _).mono ?_
        rintro e w4 ⟨rfl, rfl⟩
        by_cases h2 : inB x.id 1 60000 = true
        · have h2i := inB_iff.1 h2
          go_wp2_with fail
          refine (within_any _ _ _ _).mono ?_
          rintro e w4 ⟨rfl, rfl⟩
          by_cases h3 : inB x.gen 0 60000 = true
          · have h3i := inB_iff.1 h3
            go_wp2_with fail
            refine (within_any _ _ _ _).mono ?_
            rintro e w4 ⟨rfl, rfl⟩
            go_wp2
            go_ret
            exact ⟨ret_bool (by unfold supB; rw [hg, hl, h1, h2, h3]; rfl), B3⟩
          · have h3' : inB x.gen 0 60000 = false := by simpa using h3
            have h3n := inB_not.1 h3'
            go_wp2
            go_ret
            exact ⟨ret_bool (by symm; refine supB_not (fun hc => ?_); omega), B3⟩
        · have h2' : inB x.id 1 60000 = false := by simpa using h2
          have h2n := inB_not.1 h2'
          go_wp2
          go_ret
          exact ⟨ret_bool (by symm; refine supB_not (fun hc => ?_); omega), B3⟩
      · have h1' : inB x.role 0 (x.n - 1) = false := by simpa using h1
        have h1n := inB_not.1 h1'
        go_wp2
        go_ret
        exact ⟨ret_bool (by symm; refine supB_not (fun hc => ?_); omega), B3⟩
    · have hl' : lostB x.n x.s x.lost x.built = false := by simpa using hl
      go_wp2
      go_ret
      exact ⟨ret_bool (by unfold supB; rw [hg, hl']; rfl), B3⟩
  · have hg' : geoB x.n x.s = false := by simpa using hg
    go_wp2
    go_ret
    exact ⟨ret_bool (by unfold supB; rw [hg']; rfl), B1⟩

end Go.Proofs.YtjmjianlcoleaaaGreat

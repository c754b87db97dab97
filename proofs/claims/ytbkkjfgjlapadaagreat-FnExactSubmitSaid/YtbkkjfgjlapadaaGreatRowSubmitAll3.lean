/-
  A Super is eight numbers; both looks whether it is right (the program's and the specification's) answer as the definition here says. No condition.
-/
import Derived.Test.YtbkkjfgjlapadaaGreatData
import Derived.Test.YtbkkjfgjlapadaaGreatWalkSecOk
import Derived.Test.YtbkkjfgjlapadaaGreatWalkArr
import Derived.Test.YtbkkjfgjlapadaaGreatHeld
import Derived.Test.YtbkkjfgjlapadaaGreatEng15
import Derived.Test.YtbkkjfgjlapadaaGreatWalkInts
import Derived.Test.YtbkkjfgjlapadaaGreatWalkCmd
import Derived.Test.YtbkkjfgjlapadaaGreatSealC15
import Derived.Test.YtbkkjfgjlapadaaGreatBox
import Derived.Test.YtbkkjfgjlapadaaGreatWalkGeo

/-
  The walk of the specification's MemOk: whether a disk is right. Condition: it weighs at most 2097152.
-/
namespace Go.Proofs.YtbkkjfgjlapadaaGreat
open Go.RowKit

/-- A write is right on a disk of n sectors. -/
def wrB (n : Int) (x : Int × List Int) : Bool := inB x.1 0 (n - 1) && secB x.2
/-- Bad sectors are there, and ascend. -/
def badAt (n : Int) (bs : List Int) (i : Nat) : Bool := inB (bs.getD i 0) 0 (n - 1) && (decide (i = 0) || decide (bs.getD (i - 1) 0 < bs.getD i 0))
def badB (n : Int) (bs : List Int) : Bool := (List.range bs.length).all (badAt n bs)
def memB (ss : List (List Int)) (cs : List (Int × List Int)) (bs : List Int) : Bool :=
  ss.all secB && (cs.all (wrB ss.length) && (badB ss.length bs && (inB ss.length 1 20 && decide (cs.length ≤ 60))))

theorem all_step {α : Type} {p : α → Bool} {l : List α} {j : Nat} {x : α} (h : l[j]? = some x) : (p x = true → (l.take j).all p = true → (l.take (j + 1)).all p = true) ∧ (p x = false → l.all p = false) := by
  have hj : j < l.length := (List.getElem?_eq_some_iff.1 h).1
  have e : l[j] = x := by rw [List.getElem?_eq_getElem hj] at h; simpa using h
  refine ⟨fun h1 h2 => ?_, fun h1 => ?_⟩
  · rw [List.take_succ_eq_append_getElem hj, List.all_append, h2, e]
    simp [h1]
  · rw [List.all_eq_false]
    exact ⟨x, by rw [← e]; exact List.getElem_mem hj, by simp [h1]⟩

set_option maxHeartbeats 3200000 in
theorem specMemOk_any (w : World) (E : TypeId) (a0 a1 a3 : Option Addr) (n0 c0 n1 c1 n3 c3 : Nat) (ss : List (List Int)) (cs : List (Int × List Int)) (f : Bool) (bs : List Int) (h0 : tIntSS.Rd w [.slice a0 n0 c0] ss) (h1 : (tWrS E).Rd w [.slice a1 n1 c1] cs) (h3 : tIntS.Rd w [.slice a3 n3 c3] bs) (hw : wtMem (ss, cs, f, bs) ≤ 2097152) :
    Calls Tryz.prog 224 #[.agg #[.slice a0 n0 c0, .slice a1 n1 c1, .bool f, .slice a3 n3 c3]] w fun e w' => e = .returned (.bool (memB ss cs bs)) ∧ Below w.heap.size w w' := by
  obtain ⟨hl0, _, hm0⟩ := row_length h0
  obtain ⟨hl1, _, hm1⟩ := row_length h1
  obtain ⟨hl3, _, hm3⟩ := row_length h3
  have hw0 : wtIntSS ss ≤ 2097152 := by unfold wtMem at hw; simp only at hw; omega
  have hw1 : wtWrS cs ≤ 2097152 := by unfold wtMem at hw; simp only at hw; omega
  have hw3 : n3 ≤ 2097152 := by unfold wtMem at hw; simp only at hw; omega
  have hn0 : n0 ≤ 2097152 := by unfold wtIntSS at hw0; omega
  have hn1 : n1 ≤ 2097152 := by unfold wtWrS at hw1; omega
  have hA : Below w.heap.size w (w.alloc (.cells #[.slice a0 n0 c0, .slice a1 n1 c1, .bool f, .slice a3 n3 c3] 147)) := (Below.refl _ _).alloc (Nat.le_refl _) _
  have hcell : ∀ j v, (#[Value.slice a0 n0 c0, .slice a1 n1 c1, .bool f, .slice a3 n3 c3])[j]? = some v → (w.alloc (.cells #[.slice a0 n0 c0, .slice a1 n1 c1, .bool f, .slice a3 n3 c3] 147)).cell? ⟨w.heap.size, j, none⟩ = some v := by
    intro j v hv
    rw [cell_of_row _ w.heap.size j _ _ (0, 0) (heap_alloc_new w _)]
    exact hv
  have k0 := hcell 0 _ rfl
  have k1 := hcell 1 _ rfl
  have k3 := hcell 3 _ rfl
  have g0 := h0.below hA
  have g1 := h1.below hA
  have g3 := h3.below hA
  have hz : w.heap.size < (w.alloc (.cells #[.slice a0 n0 c0, .slice a1 n1 c1, .bool f, .slice a3 n3 c3] 147)).heap.size := by simp
  go_enter Tryz.func224, Tryz.ntmps224
  go_wp2
  generalize hW : w.alloc (.cells #[.slice a0 n0 c0, .slice a1 n1 c1, .bool f, .slice a3 n3 c3] 147) = W at hA k0 k1 k3 g0 g1 g3 hz ⊢
  clear hW hcell h0 h1 h3
  go_loopw [4] (fun i wr => ∃ j : Nat, j ≤ n0 ∧ i = .int .i64 j ∧ (ss.take j).all secB = true ∧ Same W wr) (fun i _ => n0 - (intOf i).toNat)
  case atStart => exact ⟨0, Nat.zero_le _, rfl, rfl, Same.refl _⟩
  case round =>
    obtain ⟨j, hj, rfl, ht, hs⟩ := hrel
    have q0 := (hs.cell _).trans k0
    by_cases hjn : j < n0
    · rcases rows_at rfl g0 with h0' | ⟨b, off, rfl, hbl, hcs⟩
      · omega
      have hdj : ss[j]? = some (ss[j]'(by omega)) := List.getElem?_eq_getElem (by omega)
      generalize ss[j]'(by omega) = x at hdj
      have hal := all_step (p := secB) hdj
      have hil := inner_le hdj
      obtain ⟨v, hv, hrv⟩ := hcs j x hdj
      obtain ⟨av, cv, rfl⟩ := row_shape hrv
      have q1 := (hs.cell ⟨b, off + j, none⟩).trans hv
      obtain ⟨r1, _, _, _⟩ := ints_rd (hrv.same hs)
      have HT := hidden ht
      clear hcs hdj hv hrv ht
      by_cases hx : secB x = true
      · have HD := hidden (hal.1 hx HT.out)
        clear hal
        go_wp2_with fail
        refine (specSecOk_any _ _ _ _ x rfl r1 (by omega)).mono ?_
        rintro e w1 ⟨rfl, hs1⟩
        go_wp2
        go_roundw
        case rel => exact ⟨j + 1, by omega, by go_num, HD.out, hs.trans hs1⟩
        case measure => simp [intOf]; omega
      · have hx : secB x = false := by simpa using hx
        have HN := hidden (hal.2 hx)
        clear hal
        go_wp2_with fail
        refine (specSecOk_any _ _ _ _ x rfl r1 (by omega)).mono ?_
        rintro e w1 ⟨rfl, hs1⟩
        go_wp2
        go_ret
        exact ⟨ret_bool (by unfold memB; rw [HN.out]; rfl), Below.andSame (Below.andSame hA hs) hs1⟩
    · have e : j = n0 := by omega
      subst e
      rw [List.take_of_length_le (by omega)] at ht
      have HS0 := hidden ht
      have hss : ss.length = j := hl0
      clear ht hj hjn q0
      go_wp2
      go_loopw [5] (fun i wr => ∃ i2 : Nat, i2 ≤ n1 ∧ i = .int .i64 i2 ∧ (cs.take i2).all (wrB j) = true ∧ Same W wr) (fun i _ => n1 - (intOf i).toNat)
      case atStart => exact ⟨0, Nat.zero_le _, rfl, rfl, hs⟩
      case round =>
        clear hs
        obtain ⟨i2, hi2, rfl, ht, hs⟩ := hrel
        have q1 := (hs.cell _).trans k1
        by_cases hin : i2 < n1
        · rcases pairs_at rfl g1 with h0' | ⟨b, off, rfl, hbl, hcs⟩
          · omega
          have hdj : cs[i2]? = some (cs[i2]'(by omega)) := List.getElem?_eq_getElem (by omega)
          generalize cs[i2]'(by omega) = x at hdj
          have hal := all_step (p := wrB j) hdj
          have hil := inner_le' hdj
          obtain ⟨v0, v1, hv0, hv1, hrv⟩ := hcs i2 x hdj
          obtain ⟨rfl, hrv'⟩ := wr_rd hrv
          obtain ⟨av, cv, rfl⟩ := row_shape hrv'
          have p0 := (hs.cell ⟨b, off + i2 * 2, none⟩).trans hv0
          have p1 := (hs.cell ⟨b, off + i2 * 2 + 1, none⟩).trans hv1
          obtain ⟨r1, _, _, _⟩ := ints_rd (hrv'.same hs)
          obtain ⟨x0, x1⟩ := x
          simp only at p0 p1 r1 hil
          have HT := hidden ht
          clear hcs hdj hv0 hv1 hrv hrv' ht
          by_cases hI : inB x0 0 ((j : Int) - 1) = true
          · by_cases hx : secB x1 = true
            · have HD := hidden (hal.1 (by unfold wrB; simp only; rw [hI, hx]; rfl) HT.out)
              clear hal
              go_wp2_with fail
              refine (l1In_any _ _ _ _).mono ?_
              rintro e w1 ⟨rfl, hw1'⟩
              subst w1
              go_wp2_with fail
              refine (specSecOk_any _ _ _ _ x1 rfl r1 (by omega)).mono ?_
              rintro e w2 ⟨rfl, hs2⟩
              go_wp2
              go_roundw
              case rel => exact ⟨i2 + 1, by omega, by go_num, HD.out, hs.trans hs2⟩
              case measure => simp [intOf]; omega
            · have hx : secB x1 = false := by simpa using hx
              have HN := hidden (hal.2 (by unfold wrB; simp only; rw [hI, hx]; rfl))
              clear hal
              go_wp2_with fail
              refine (l1In_any _ _ _ _).mono ?_
              rintro e w1 ⟨rfl, hw1'⟩
              subst w1
              go_wp2_with fail
              refine (specSecOk_any _ _ _ _ x1 rfl r1 (by omega)).mono ?_
              rintro e w2 ⟨rfl, hs2⟩
              go_wp2
              go_ret
              exact ⟨ret_bool (by unfold memB; rw [hss, HN.out, HS0.out]; rfl), Below.andSame (Below.andSame hA hs) hs2⟩
          · have hI : inB x0 0 ((j : Int) - 1) = false := by simpa using hI
            have HN := hidden (hal.2 (by unfold wrB; simp only; rw [hI]; rfl))
            clear hal
            go_wp2_with fail
            refine (l1In_any _ _ _ _).mono ?_
            rintro e w1 ⟨rfl, hw1'⟩
            subst w1
            go_wp2
            go_ret
            exact ⟨ret_bool (by unfold memB; rw [hss, HN.out, HS0.out]; rfl), Below.andSame hA hs⟩
        · have e2 : i2 = n1 := by omega
          subst e2
          rw [List.take_of_length_le (by omega)] at ht
          have HS1 := hidden ht
          have hcsl : cs.length = i2 := hl1
          clear ht hi2 hin
          go_wp2
          go_loopw [6] (fun i wr => ∃ i3 : Nat, i3 ≤ n3 ∧ i = .int .i64 i3 ∧ (List.range i3).all (badAt j bs) = true ∧ Same W wr) (fun i _ => n3 - (intOf i).toNat)
          case atStart => exact ⟨0, Nat.zero_le _, rfl, rfl, hs⟩
          case round =>
            clear hs
            obtain ⟨i3, hi3, rfl, ht, hs⟩ := hrel
            have q3 := (hs.cell _).trans k3
            by_cases hi3n : i3 < n3
            · obtain ⟨R3, _, _, _⟩ := ints_rd g3
              rcases R3.cases with h0' | ⟨b, off, rfl, hbl, hcs⟩
              · omega
              have p0 := (hs.cell ⟨b, off + i3, none⟩).trans (hcs i3 (by omega))
              have HT := hidden ht
              have hrs : (List.range (i3 + 1)).all (badAt j bs) = ((List.range i3).all (badAt j bs) && badAt j bs i3) := by rw [List.range_succ, List.all_append]; simp
              have hrn : badAt j bs i3 = false → badB j bs = false := by
                intro h
                unfold badB
                rw [List.all_eq_false]
                exact ⟨i3, by simp; omega, by simp [h]⟩
              have hbd : badAt j bs i3 = (inB (bs.getD i3 0) 0 ((j : Int) - 1) && (decide (i3 = 0) || decide (bs.getD (i3 - 1) 0 < bs.getD i3 0))) := rfl
              have i1 : (0 : Int) ≤ (i3 : Int) := by omega
              have i2' : (i3 : Int) < (n3 : Int) := by omega
              have gw : IntKind.i64.wrap ((j : Int) - 1) = (j : Int) - 1 := IntWalk.i64_in _ (by omega)
              by_cases hI : inB (bs.getD i3 0) 0 ((j : Int) - 1) = true
              · by_cases hz3 : i3 = 0
                · have HD : Hid ((List.range (i3 + 1)).all (badAt j bs) = true) := by unfold Hid; rw [hrs, HT.out, hbd, hI, decide_eq_true hz3]; rfl
                  generalize bs.getD i3 0 = y at p0 hI
                  have d0 : decide ((0 : Int) < (i3 : Int)) = false := decide_eq_false (by omega)
                  have d0b : decide (0 < i3) = false := decide_eq_false (by omega)
                  have HZ := hidden hz3
                  clear hcs ht hrs hrn hbd hz3 R3
                  go_wp2_with fail
                  go_quiet ((go_at_call 71; exact Calls.quiet_of_same (l1In_any _ _ _ _)))
                  go_wp2
                  go_roundw
                  case rel => exact ⟨i3 + 1, by omega, by go_num, HD.out, hs.drewN _⟩
                  case measure => simp [intOf]; omega
                · have p1 := (hs.cell ⟨b, off + (i3 - 1), none⟩).trans (hcs (i3 - 1) (by omega))
                  have d0 : decide ((0 : Int) < (i3 : Int)) = true := decide_eq_true (by omega)
                  have d0b : decide (0 < i3) = true := decide_eq_true (by omega)
                  have gv : IntKind.i64.wrap ((i3 : Int) - 1) = (i3 : Int) - 1 := IntWalk.i64_in _ (by omega)
                  have gt : ((i3 : Int) - 1).toNat = i3 - 1 := by omega
                  have i3a : (0 : Int) ≤ (i3 : Int) - 1 := by omega
                  have i3b : (i3 : Int) - 1 < (n3 : Int) := by omega
                  by_cases hlt : bs.getD (i3 - 1) 0 < bs.getD i3 0
                  · have HD : Hid ((List.range (i3 + 1)).all (badAt j bs) = true) := by unfold Hid; rw [hrs, HT.out, hbd, hI, decide_eq_true hlt]; simp
                    generalize bs.getD i3 0 = y at p0 hI hlt
                    generalize bs.getD (i3 - 1) 0 = z at p1 hlt
                    have d1 : ¬ y ≤ z := by omega
                    clear hcs ht hrs hrn hbd hz3 R3
                    go_wp2_with fail
                    go_quiet ((go_at_call 71; exact Calls.quiet_of_same (l1In_any _ _ _ _)))
                    go_wp2
                    go_roundw
                    case rel => exact ⟨i3 + 1, by omega, by go_num, HD.out, hs.drewN _⟩
                    case measure => simp [intOf]; omega
                  · have HN := hidden (hrn (by rw [hbd, hI, decide_eq_false hz3, decide_eq_false hlt]; rfl))
                    generalize bs.getD i3 0 = y at p0 hI hlt
                    generalize bs.getD (i3 - 1) 0 = z at p1 hlt
                    have d1 : y ≤ z := by omega
                    clear hcs ht hrs hrn hbd hz3 R3
                    go_wp2_with fail
                    go_quiet ((go_at_call 71; exact Calls.quiet_of_same (l1In_any _ _ _ _)))
                    go_wp2
                    go_ret
                    exact ⟨ret_bool (by unfold memB; rw [hss, HN.out, HS1.out, HS0.out]; rfl), Below.andSame hA (hs.drewN _)⟩
              · have hI : inB (bs.getD i3 0) 0 ((j : Int) - 1) = false := by simpa using hI
                have HN := hidden (hrn (by rw [hbd, hI]; rfl))
                generalize bs.getD i3 0 = y at p0 hI
                clear hcs ht hrs hrn hbd R3
                go_wp2_with fail
                go_quiet ((go_at_call 71; exact Calls.quiet_of_same (l1In_any _ _ _ _)))
                go_wp2
                go_ret
                exact ⟨ret_bool (by unfold memB; rw [hss, HN.out, HS1.out, HS0.out]; rfl), Below.andSame hA (hs.drewN _)⟩
            · have e3 : i3 = n3 := by omega
              have HB : Hid (badB j bs = true) := by unfold Hid badB; rw [hl3, ← e3]; exact ht
              clear ht hi3
              have q1 := (hs.cell _).trans k1
              by_cases hI : inB (j : Int) 1 20 = true
              · by_cases h60 : (i2 : Int) ≤ 60
                · have h60' : i2 ≤ 60 := by omega
                  have H60 := hidden (decide_eq_true h60')
                  clear h60'
                  go_wp2_with fail
                  refine (l1In_any _ _ _ _).mono ?_
                  rintro e w1 ⟨rfl, hw1'⟩
                  subst w1
                  go_wp2
                  go_ret
                  exact ⟨ret_bool (by unfold memB; rw [hss, hcsl, HB.out, HS1.out, HS0.out, hI, H60.out]; rfl), Below.andSame hA hs⟩
                · have h60' : ¬ i2 ≤ 60 := by omega
                  have H60 := hidden (decide_eq_false h60')
                  clear h60'
                  go_wp2_with fail
                  refine (l1In_any _ _ _ _).mono ?_
                  rintro e w1 ⟨rfl, hw1'⟩
                  subst w1
                  go_wp2
                  go_ret
                  exact ⟨ret_bool (by unfold memB; rw [hss, hcsl, HB.out, HS1.out, HS0.out, hI, H60.out, decide_eq_false (by omega)]; rfl), Below.andSame hA hs⟩
              · have hI : inB (j : Int) 1 20 = false := by simpa using hI
                go_wp2_with fail
                refine (l1In_any _ _ _ _).mono ?_
                rintro e w1 ⟨rfl, hw1'⟩
                subst w1
                go_wp2
                go_ret
                exact ⟨ret_bool (by unfold memB; rw [hss, HB.out, HS1.out, HS0.out, hI]; rfl), Below.andSame hA hs⟩

end Go.Proofs.YtbkkjfgjlapadaaGreat

/-
  What it is that an array is right (arrB), and the walks of the specification's look for it: disk by disk, entry by entry. Condition: it weighs at most 2097152.
-/
namespace Go.Proofs.YtbkkjfgjlapadaaGreat
open Go.RowKit

/-- Every element of a list, with its place. -/
def allIx {α : Type} (p : Nat → α → Bool) (l : List α) : Bool := (List.range l.length).all fun i => (l[i]?.map (p i)).getD true
theorem allIx_iff {α : Type} {p : Nat → α → Bool} {l : List α} : allIx p l = true ↔ ∀ (i : Nat) (x : α), l[i]? = some x → p i x = true := by
  unfold allIx
  rw [List.all_eq_true]
  constructor
  · intro h i x hx
    have := h i (by rw [List.mem_range]; exact (List.getElem?_eq_some_iff.1 hx).1)
    rw [hx] at this
    simpa using this
  · intro h i hi
    cases hx : l[i]? with
    | none => rfl
    | some x => simpa using h i x hx
theorem allIx_no {α : Type} {p : Nat → α → Bool} {l : List α} {i : Nat} {x : α} (hx : l[i]? = some x) (h : p i x = false) : allIx p l = false := by
  cases hb : allIx p l with
  | false => rfl
  | true => rw [allIx_iff.1 hb i x hx] at h; cases h

def memAt (x : ArrN) (i : Nat) (m : MemD) : Bool := memB m.1 m.2.1 m.2.2.2 && (decide ((m.1.length : Int) = 6 + x.s) && (!m.2.2.1 || (decide ((i : Int) = x.lost) || x.broken)))
def memsB (x : ArrN) (ms : List MemD) : Bool := allIx (memAt x) ms && decide ((ms.length : Int) = x.n)
def entAt (x : ArrN) (ds : List (Int × List Int)) (i : Nat) (e : Int × List Int) : Bool := inB e.1 0 (x.s - 1) && (decide ((e.2.length : Int) = x.n - 1) && (allW e.2 && (decide (i = 0) || decide ((ds.getD (i - 1) (0, [])).1 < e.1))))
def entsB (x : ArrN) (ds : List (Int × List Int)) : Bool := allIx (entAt x ds) ds
def lostB6 (x : ArrN) : Bool := inB x.lost (-1) (x.n - 1) && (inB x.built 0 x.s && (!decide (x.lost = -1) || decide (x.built = 0)))
def seqB6 (x : ArrN) : Bool := inB x.tail 0 60000 && (inB x.seq x.tail 60000 && (decide (x.seq ≤ x.tail + 4) && (inB x.gen 0 60000 && inB x.fuse (-1) 1000)))
def arrB (x : ArrN) (ms : List MemD) (ds : List (Int × List Int)) : Bool := geoB x.n x.s && (inB x.id 1 60000 && (memsB x ms && (entsB x ds && (lostB6 x && seqB6 x))))

theorem l6Secs_any (w : World) (n s : Int) (hs : 1 ≤ s ∧ s ≤ 8) : Calls Tryz.prog 138 #[.agg #[.int .i64 n, .int .i64 s]] w fun e w' => e = .returned (.int .i64 (6 + s)) ∧ Below w.heap.size w w' := by
  have hA := new_below w (.cells #[.int .i64 n, .int .i64 s] 25)
  obtain ⟨k0, k1⟩ := (Gbox.new w 25 n s).cells
  have hw : IntKind.i64.wrap (6 + s) = 6 + s := IntWalk.i64_in _ (by omega)
  go_enter Tryz.func138, Tryz.ntmps138
  go_wp2
  go_ret
  exact ⟨rfl, hA⟩

set_option linter.unusedSimpArgs false in
set_option maxHeartbeats 3200000 in
theorem l6Mems_any (w : World) (E F : TypeId) (x : ArrN) (am ad : Option Addr) (nm cm nd cd : Nat) (ms : List MemD) (h0 : (tMemS E F).Rd w [.slice am nm cm] ms) (hw : wtMemS ms ≤ 2097152) (hg : geoB x.n x.s = true) :
    Calls Tryz.prog 157 #[.agg #[.int .i64 x.id, .int .i64 x.n, .int .i64 x.s, .slice am nm cm, .int .i64 x.lost, .int .i64 x.built, .int .i64 x.seq, .int .i64 x.tail, .int .i64 x.gen, .slice ad nd cd, .int .i64 x.fuse, .bool x.down, .bool x.broken]] w fun e w' => e = .returned (.bool (memsB x ms)) ∧ Below w.heap.size w w' := by
  obtain ⟨hl, hc, hm⟩ := row_length h0
  obtain ⟨g1, g2, g3, g4⟩ := geoB_iff.1 hg
  have hA := new_below w (.cells #[.int .i64 x.id, .int .i64 x.n, .int .i64 x.s, .slice am nm cm, .int .i64 x.lost, .int .i64 x.built, .int .i64 x.seq, .int .i64 x.tail, .int .i64 x.gen, .slice ad nd cd, .int .i64 x.fuse, .bool x.down, .bool x.broken] 29)
  have X := Box.new w 29 #[.int .i64 x.id, .int .i64 x.n, .int .i64 x.s, .slice am nm cm, .int .i64 x.lost, .int .i64 x.built, .int .i64 x.seq, .int .i64 x.tail, .int .i64 x.gen, .slice ad nd cd, .int .i64 x.fuse, .bool x.down, .bool x.broken]
  have zA := X.lt
  have hnm : nm ≤ 2097152 := by unfold wtMemS at hw; omega
  have h1 := h0.below hA
  go_enter Tryz.func157, Tryz.ntmps157
  go_wp2
  generalize w.alloc (.cells #[.int .i64 x.id, .int .i64 x.n, .int .i64 x.s, .slice am nm cm, .int .i64 x.lost, .int .i64 x.built, .int .i64 x.seq, .int .i64 x.tail, .int .i64 x.gen, .slice ad nd cd, .int .i64 x.fuse, .bool x.down, .bool x.broken] 29) = W at hA X zA h1 ⊢
  go_loopw [3] (fun i wr => ∃ j : Nat, j ≤ nm ∧ i = .int .i64 j ∧ (∀ (q : Nat) (m : MemD), q < j → ms[q]? = some m → memAt x q m = true) ∧ Below W.heap.size W wr) (fun i _ => nm - (intOf i).toNat)
  case atStart => exact ⟨0, Nat.zero_le _, rfl, fun q m hq => by omega, Below.refl _ _⟩
  case round =>
    obtain ⟨j, hj, rfl, hall, hb⟩ := hrel
    have Xr := X.below hb zA
    obtain ⟨k0, k1, k2, k3, k4, k5, k6, k7, k8, k9, k10, k11, k12⟩ := Xr.cells13
    by_cases hjn : j < nm
    · rcases quads_at rfl h1 with h0' | ⟨b, off, rfl, hbl, hcs⟩
      · omega
      have hdj : ms[j]? = some (ms[j]'(by omega)) := List.getElem?_eq_getElem (by omega)
      generalize ms[j]'(by omega) = m at hdj
      obtain ⟨v0, v1, v2, v3, hv0, hv1, hv2, hv3, hrv⟩ := hcs j m hdj
      obtain ⟨a0, c0, a1, c1, a3, c3, ss, cs, f, bs, rfl, rfl, rfl, rfl, rfl, r0, r1, r3⟩ := mem_at hrv
      have u0 := (hb.cell (p := ⟨b, off + j * 4, none⟩) hbl).trans hv0
      have u1 := (hb.cell (p := ⟨b, off + j * 4 + 1, none⟩) hbl).trans hv1
      have u2 := (hb.cell (p := ⟨b, off + j * 4 + 2, none⟩) hbl).trans hv2
      have u3 := (hb.cell (p := ⟨b, off + j * 4 + 3, none⟩) hbl).trans hv3
      have i1 : (0 : Int) ≤ (j : Int) := by omega
      have i2 : (j : Int) < (nm : Int) := by omega
      have hwm := Nat.le_trans (inner_leM hdj) hw
      have HDJ := hidden hdj
      clear hcs hv0 hv1 hv2 hv3 hrv hdj
      have b1 := new_below wr (.cells #[.slice a0 ss.length c0, .slice a1 cs.length c1, .bool f, .slice a3 bs.length c3] 147)
      have Y1 := Box.new wr 147 #[.slice a0 ss.length c0, .slice a1 cs.length c1, .bool f, .slice a3 bs.length c3]
      have X1 := Xr.below b1 Xr.lt
      have R0 := (r0.below hb).below b1
      have R1 := (r1.below hb).below b1
      have R3 := (r3.below hb).below b1
      have B1 := hb.trans (b1.mono hb.size)
      clear r0 r1 r3 b1
      obtain ⟨y0, y1, y2, y3⟩ := Y1.cells4
      obtain ⟨e0, e1, e2, e3, e4, e5, e6, e7, e8, e9, e10, e11, e12⟩ := X1.cells13
      have zy := Y1.lt
      have zx := X1.lt
      clear e0 e3 e5 e6 e7 e8 e9 e10 e11
      cases hM : memB ss cs bs
      · skip
        go_wp2_with fail
        generalize wr.alloc (.cells #[.slice a0 ss.length c0, .slice a1 cs.length c1, .bool f, .slice a3 bs.length c3] 147) = w1 at X1 Y1 R0 R1 R3 B1 y0 y1 y2 y3 e1 e2 e4 e12 zy zx ⊢
        refine wp_region_held_drew (S := fun w' => w'.cell? ⟨wr.heap.size, 0, none⟩ = some (.slice a0 ss.length c0) ∧ w'.cell? ⟨wr.heap.size, 1, none⟩ = some (.slice a1 cs.length c1) ∧ w'.cell? ⟨wr.heap.size, 2, none⟩ = some (.bool f) ∧ w'.cell? ⟨wr.heap.size, 3, none⟩ = some (.slice a3 bs.length c3) ∧ w'.cell? ⟨w.heap.size, 1, none⟩ = some (.int .i64 x.n) ∧ w'.cell? ⟨w.heap.size, 2, none⟩ = some (.int .i64 x.s) ∧ w'.cell? ⟨w.heap.size, 4, none⟩ = some (.int .i64 x.lost) ∧ w'.cell? ⟨w.heap.size, 12, none⟩ = some (.bool x.broken)) (by kernel_rfl) ?_ (fun hHeld => ?_)
        · exact ⟨y0, y1, y2, y3, e1, e2, e4, e12⟩
        refine held_t 0 hHeld ?_
        refine held_one (i := 1) (by kernel_rfl) rfl (by kernel_rfl) (fun K hK => ?_)
        go_simp
        refine (specMemOk_any _ E _ _ _ _ _ _ _ _ _ ss cs f bs R0.drew R1.drew R3.drew hwm).mono ?_
        rintro e w2 ⟨rfl, b2⟩
        rw [hM]
        have b2' : Below w1.heap.size w1 w2 := (Below.refl w1.heap.size w1).drew.trans b2
        clear b2
        go_wp2_with fail
        clear hHeld
        refine hK.out _ _ ?_ (fun hHeld => ?_)
        · exact ⟨(b2'.cell (p := ⟨wr.heap.size, 0, none⟩) zy).trans y0, (b2'.cell (p := ⟨wr.heap.size, 1, none⟩) zy).trans y1, (b2'.cell (p := ⟨wr.heap.size, 2, none⟩) zy).trans y2, (b2'.cell (p := ⟨wr.heap.size, 3, none⟩) zy).trans y3, (b2'.cell (p := ⟨w.heap.size, 1, none⟩) zx).trans e1, (b2'.cell (p := ⟨w.heap.size, 2, none⟩) zx).trans e2, (b2'.cell (p := ⟨w.heap.size, 4, none⟩) zx).trans e4, (b2'.cell (p := ⟨w.heap.size, 12, none⟩) zx).trans e12⟩
        clear hK K
        refine held_t 2 hHeld ?_
        refine held_t 3 hHeld ?_
        refine held_p 4 hHeld ?_
        refine held_p 5 hHeld ?_
        refine held_p 6 hHeld ?_
        refine held_p 7 hHeld ?_
        refine held_p 8 hHeld ?_
        refine held_none (i := 9) (by kernel_rfl) rfl (by kernel_rfl) hHeld ?_
        simp only [Act.put, List.setIfInBounds_toArray, List.set_cons_zero, List.set_cons_succ]
        refine held_p 10 hHeld ?_
        refine held_t 11 hHeld ?_
        refine held_t 12 hHeld ?_
        refine held_p 13 hHeld ?_
        refine held_p 14 hHeld ?_
        refine held_p 15 hHeld ?_
        refine held_p 16 hHeld ?_
        refine held_p 17 hHeld ?_
        refine held_p 18 hHeld ?_
        refine held_p 19 hHeld ?_
        refine held_p 20 hHeld ?_
        refine held_p 21 hHeld ?_
        refine held_p 22 hHeld ?_
        refine held_p 23 hHeld ?_
        refine held_p 24 hHeld ?_
        refine held_p 25 hHeld ?_
        refine held_t 26 hHeld ?_
        refine wpAnyH_done (by kernel_rfl) ?_ _
        clear hHeld
        have HB := hidden (hA.trans ((B1.trans (b2'.mono B1.size)).mono hA.size))
        go_wp2
        go_ret
        exact ⟨ret_bool (by rw [show memsB x ms = false from (by unfold memsB; rw [allIx_no HDJ.out (by unfold memAt; simp [hM])]; rfl)]), HB.out⟩
      · by_cases hS : (ss.length : Int) = 6 + x.s
        · have hS1 : ((ss.length : Int) == 6 + x.s) = true := by simpa using hS
          have hS2 : ((ss.length : Int) != 6 + x.s) = false := by simpa using hS
          have HS := hidden hS
          clear hS
          cases f
          · skip
            go_wp2_with fail
            generalize wr.alloc (.cells #[.slice a0 ss.length c0, .slice a1 cs.length c1, .bool false, .slice a3 bs.length c3] 147) = w1 at X1 Y1 R0 R1 R3 B1 y0 y1 y2 y3 e1 e2 e4 e12 zy zx ⊢
            refine wp_region_held_drew (S := fun w' => w'.cell? ⟨wr.heap.size, 0, none⟩ = some (.slice a0 ss.length c0) ∧ w'.cell? ⟨wr.heap.size, 1, none⟩ = some (.slice a1 cs.length c1) ∧ w'.cell? ⟨wr.heap.size, 2, none⟩ = some (.bool false) ∧ w'.cell? ⟨wr.heap.size, 3, none⟩ = some (.slice a3 bs.length c3) ∧ w'.cell? ⟨w.heap.size, 1, none⟩ = some (.int .i64 x.n) ∧ w'.cell? ⟨w.heap.size, 2, none⟩ = some (.int .i64 x.s) ∧ w'.cell? ⟨w.heap.size, 4, none⟩ = some (.int .i64 x.lost) ∧ w'.cell? ⟨w.heap.size, 12, none⟩ = some (.bool x.broken)) (by kernel_rfl) ?_ (fun hHeld => ?_)
            · exact ⟨y0, y1, y2, y3, e1, e2, e4, e12⟩
            refine held_t 0 hHeld ?_
            refine held_one (i := 1) (by kernel_rfl) rfl (by kernel_rfl) (fun K hK => ?_)
            go_simp
            refine (specMemOk_any _ E _ _ _ _ _ _ _ _ _ ss cs false bs R0.drew R1.drew R3.drew hwm).mono ?_
            rintro e w2 ⟨rfl, b2⟩
            rw [hM]
            have b2' : Below w1.heap.size w1 w2 := (Below.refl w1.heap.size w1).drew.trans b2
            clear b2
            go_wp2_with fail
            clear hHeld
            refine hK.out _ _ ?_ (fun hHeld => ?_)
            · exact ⟨(b2'.cell (p := ⟨wr.heap.size, 0, none⟩) zy).trans y0, (b2'.cell (p := ⟨wr.heap.size, 1, none⟩) zy).trans y1, (b2'.cell (p := ⟨wr.heap.size, 2, none⟩) zy).trans y2, (b2'.cell (p := ⟨wr.heap.size, 3, none⟩) zy).trans y3, (b2'.cell (p := ⟨w.heap.size, 1, none⟩) zx).trans e1, (b2'.cell (p := ⟨w.heap.size, 2, none⟩) zx).trans e2, (b2'.cell (p := ⟨w.heap.size, 4, none⟩) zx).trans e4, (b2'.cell (p := ⟨w.heap.size, 12, none⟩) zx).trans e12⟩
            clear hK K
            refine held_t 2 hHeld ?_
            refine held_t 3 hHeld ?_
            refine held_t 4 hHeld ?_
            refine held_t 5 hHeld ?_
            refine held_t 6 hHeld ?_
            refine held_t 7 hHeld ?_
            refine held_t 8 hHeld ?_
            refine held_one (i := 9) (by kernel_rfl) rfl (by kernel_rfl) (fun K hK => ?_)
            go_simp
            refine (l6Secs_any _ x.n x.s ⟨g3, g4⟩).mono ?_
            rintro e w3 ⟨rfl, b3⟩
            have b3' : Below w1.heap.size w1 w3 := Below.andThen b2' b3
            clear b3
            go_wp2_with fail
            clear hHeld
            refine hK.out _ _ ?_ (fun hHeld => ?_)
            · exact ⟨(b3'.cell (p := ⟨wr.heap.size, 0, none⟩) zy).trans y0, (b3'.cell (p := ⟨wr.heap.size, 1, none⟩) zy).trans y1, (b3'.cell (p := ⟨wr.heap.size, 2, none⟩) zy).trans y2, (b3'.cell (p := ⟨wr.heap.size, 3, none⟩) zy).trans y3, (b3'.cell (p := ⟨w.heap.size, 1, none⟩) zx).trans e1, (b3'.cell (p := ⟨w.heap.size, 2, none⟩) zx).trans e2, (b3'.cell (p := ⟨w.heap.size, 4, none⟩) zx).trans e4, (b3'.cell (p := ⟨w.heap.size, 12, none⟩) zx).trans e12⟩
            clear hK K
            refine held_t 10 hHeld ?_
            refine held_t 11 hHeld ?_
            refine held_t 12 hHeld ?_
            refine held_t 13 hHeld ?_
            refine held_t 14 hHeld ?_
            refine held_t 15 hHeld ?_
            refine held_p 16 hHeld ?_
            refine held_p 17 hHeld ?_
            refine held_p 18 hHeld ?_
            refine held_p 19 hHeld ?_
            refine held_t 20 hHeld ?_
            refine held_t 21 hHeld ?_
            refine held_p 22 hHeld ?_
            refine held_p 23 hHeld ?_
            refine held_p 24 hHeld ?_
            refine held_t 25 hHeld ?_
            refine held_t 26 hHeld ?_
            refine wpAnyH_done (by kernel_rfl) ?_ _
            clear hHeld
            have HB := hidden (B1.trans (b3'.mono B1.size))
            have hat : memAt x j (ss, cs, false, bs) = true := (by unfold memAt; simp [hM, HS.out])
            go_wp2
            go_roundw
            case rel => exact ⟨j + 1, by omega, by go_num, fun q m hq hm' => by
                rcases Nat.lt_or_ge q j with h | h
                · exact hall q m h hm'
                · obtain rfl : q = j := by omega
                  rw [HDJ.out] at hm'
                  cases hm'
                  exact hat, HB.out⟩
            case measure => simp [intOf]; omega
          · by_cases hL : (j : Int) = x.lost
            · have hL1 : ((j : Int) == x.lost) = true := by simpa using hL
              have hL2 : ((j : Int) != x.lost) = false := by simpa using hL
              have HL := hidden hL
              clear hL
              go_wp2_with fail
              generalize wr.alloc (.cells #[.slice a0 ss.length c0, .slice a1 cs.length c1, .bool true, .slice a3 bs.length c3] 147) = w1 at X1 Y1 R0 R1 R3 B1 y0 y1 y2 y3 e1 e2 e4 e12 zy zx ⊢
              refine wp_region_held_drew (S := fun w' => w'.cell? ⟨wr.heap.size, 0, none⟩ = some (.slice a0 ss.length c0) ∧ w'.cell? ⟨wr.heap.size, 1, none⟩ = some (.slice a1 cs.length c1) ∧ w'.cell? ⟨wr.heap.size, 2, none⟩ = some (.bool true) ∧ w'.cell? ⟨wr.heap.size, 3, none⟩ = some (.slice a3 bs.length c3) ∧ w'.cell? ⟨w.heap.size, 1, none⟩ = some (.int .i64 x.n) ∧ w'.cell? ⟨w.heap.size, 2, none⟩ = some (.int .i64 x.s) ∧ w'.cell? ⟨w.heap.size, 4, none⟩ = some (.int .i64 x.lost) ∧ w'.cell? ⟨w.heap.size, 12, none⟩ = some (.bool x.broken)) (by kernel_rfl) ?_ (fun hHeld => ?_)
              · exact ⟨y0, y1, y2, y3, e1, e2, e4, e12⟩
              refine held_t 0 hHeld ?_
              refine held_one (i := 1) (by kernel_rfl) rfl (by kernel_rfl) (fun K hK => ?_)
              go_simp
              refine (specMemOk_any _ E _ _ _ _ _ _ _ _ _ ss cs true bs R0.drew R1.drew R3.drew hwm).mono ?_
              rintro e w2 ⟨rfl, b2⟩
              rw [hM]
              have b2' : Below w1.heap.size w1 w2 := (Below.refl w1.heap.size w1).drew.trans b2
              clear b2
              go_wp2_with fail
              clear hHeld
              refine hK.out _ _ ?_ (fun hHeld => ?_)
              · exact ⟨(b2'.cell (p := ⟨wr.heap.size, 0, none⟩) zy).trans y0, (b2'.cell (p := ⟨wr.heap.size, 1, none⟩) zy).trans y1, (b2'.cell (p := ⟨wr.heap.size, 2, none⟩) zy).trans y2, (b2'.cell (p := ⟨wr.heap.size, 3, none⟩) zy).trans y3, (b2'.cell (p := ⟨w.heap.size, 1, none⟩) zx).trans e1, (b2'.cell (p := ⟨w.heap.size, 2, none⟩) zx).trans e2, (b2'.cell (p := ⟨w.heap.size, 4, none⟩) zx).trans e4, (b2'.cell (p := ⟨w.heap.size, 12, none⟩) zx).trans e12⟩
              clear hK K
              refine held_t 2 hHeld ?_
              refine held_t 3 hHeld ?_
              refine held_t 4 hHeld ?_
              refine held_t 5 hHeld ?_
              refine held_t 6 hHeld ?_
              refine held_t 7 hHeld ?_
              refine held_t 8 hHeld ?_
              refine held_one (i := 9) (by kernel_rfl) rfl (by kernel_rfl) (fun K hK => ?_)
              go_simp
              refine (l6Secs_any _ x.n x.s ⟨g3, g4⟩).mono ?_
              rintro e w3 ⟨rfl, b3⟩
              have b3' : Below w1.heap.size w1 w3 := Below.andThen b2' b3
              clear b3
              go_wp2_with fail
              clear hHeld
              refine hK.out _ _ ?_ (fun hHeld => ?_)
              · exact ⟨(b3'.cell (p := ⟨wr.heap.size, 0, none⟩) zy).trans y0, (b3'.cell (p := ⟨wr.heap.size, 1, none⟩) zy).trans y1, (b3'.cell (p := ⟨wr.heap.size, 2, none⟩) zy).trans y2, (b3'.cell (p := ⟨wr.heap.size, 3, none⟩) zy).trans y3, (b3'.cell (p := ⟨w.heap.size, 1, none⟩) zx).trans e1, (b3'.cell (p := ⟨w.heap.size, 2, none⟩) zx).trans e2, (b3'.cell (p := ⟨w.heap.size, 4, none⟩) zx).trans e4, (b3'.cell (p := ⟨w.heap.size, 12, none⟩) zx).trans e12⟩
              clear hK K
              refine held_t 10 hHeld ?_
              refine held_t 11 hHeld ?_
              refine held_t 12 hHeld ?_
              refine held_t 13 hHeld ?_
              refine held_t 14 hHeld ?_
              refine held_t 15 hHeld ?_
              refine held_t 16 hHeld ?_
              refine held_t 17 hHeld ?_
              refine held_t 18 hHeld ?_
              refine held_t 19 hHeld ?_
              refine held_t 20 hHeld ?_
              refine held_t 21 hHeld ?_
              refine held_p 22 hHeld ?_
              refine held_p 23 hHeld ?_
              refine held_p 24 hHeld ?_
              refine held_t 25 hHeld ?_
              refine held_t 26 hHeld ?_
              refine wpAnyH_done (by kernel_rfl) ?_ _
              clear hHeld
              have HB := hidden (B1.trans (b3'.mono B1.size))
              have hat : memAt x j (ss, cs, true, bs) = true := (by unfold memAt; simp [hM, HS.out, HL.out])
              go_wp2
              go_roundw
              case rel => exact ⟨j + 1, by omega, by go_num, fun q m hq hm' => by
                  rcases Nat.lt_or_ge q j with h | h
                  · exact hall q m h hm'
                  · obtain rfl : q = j := by omega
                    rw [HDJ.out] at hm'
                    cases hm'
                    exact hat, HB.out⟩
              case measure => simp [intOf]; omega
            · have hL1 : ((j : Int) == x.lost) = false := by simpa using hL
              have hL2 : ((j : Int) != x.lost) = true := by simpa using hL
              have HL := hidden hL
              clear hL
              cases hBr : x.broken
              · rw [hBr] at e12
                go_wp2_with fail
                generalize wr.alloc (.cells #[.slice a0 ss.length c0, .slice a1 cs.length c1, .bool true, .slice a3 bs.length c3] 147) = w1 at X1 Y1 R0 R1 R3 B1 y0 y1 y2 y3 e1 e2 e4 e12 zy zx ⊢
                refine wp_region_held_drew (S := fun w' => w'.cell? ⟨wr.heap.size, 0, none⟩ = some (.slice a0 ss.length c0) ∧ w'.cell? ⟨wr.heap.size, 1, none⟩ = some (.slice a1 cs.length c1) ∧ w'.cell? ⟨wr.heap.size, 2, none⟩ = some (.bool true) ∧ w'.cell? ⟨wr.heap.size, 3, none⟩ = some (.slice a3 bs.length c3) ∧ w'.cell? ⟨w.heap.size, 1, none⟩ = some (.int .i64 x.n) ∧ w'.cell? ⟨w.heap.size, 2, none⟩ = some (.int .i64 x.s) ∧ w'.cell? ⟨w.heap.size, 4, none⟩ = some (.int .i64 x.lost) ∧ w'.cell? ⟨w.heap.size, 12, none⟩ = some (.bool false)) (by kernel_rfl) ?_ (fun hHeld => ?_)
                · exact ⟨y0, y1, y2, y3, e1, e2, e4, e12⟩
                refine held_t 0 hHeld ?_
                refine held_one (i := 1) (by kernel_rfl) rfl (by kernel_rfl) (fun K hK => ?_)
                go_simp
                refine (specMemOk_any _ E _ _ _ _ _ _ _ _ _ ss cs true bs R0.drew R1.drew R3.drew hwm).mono ?_
                rintro e w2 ⟨rfl, b2⟩
                rw [hM]
                have b2' : Below w1.heap.size w1 w2 := (Below.refl w1.heap.size w1).drew.trans b2
                clear b2
                go_wp2_with fail
                clear hHeld
                refine hK.out _ _ ?_ (fun hHeld => ?_)
                · exact ⟨(b2'.cell (p := ⟨wr.heap.size, 0, none⟩) zy).trans y0, (b2'.cell (p := ⟨wr.heap.size, 1, none⟩) zy).trans y1, (b2'.cell (p := ⟨wr.heap.size, 2, none⟩) zy).trans y2, (b2'.cell (p := ⟨wr.heap.size, 3, none⟩) zy).trans y3, (b2'.cell (p := ⟨w.heap.size, 1, none⟩) zx).trans e1, (b2'.cell (p := ⟨w.heap.size, 2, none⟩) zx).trans e2, (b2'.cell (p := ⟨w.heap.size, 4, none⟩) zx).trans e4, (b2'.cell (p := ⟨w.heap.size, 12, none⟩) zx).trans e12⟩
                clear hK K
                refine held_t 2 hHeld ?_
                refine held_t 3 hHeld ?_
                refine held_t 4 hHeld ?_
                refine held_t 5 hHeld ?_
                refine held_t 6 hHeld ?_
                refine held_t 7 hHeld ?_
                refine held_t 8 hHeld ?_
                refine held_one (i := 9) (by kernel_rfl) rfl (by kernel_rfl) (fun K hK => ?_)
                go_simp
                refine (l6Secs_any _ x.n x.s ⟨g3, g4⟩).mono ?_
                rintro e w3 ⟨rfl, b3⟩
                have b3' : Below w1.heap.size w1 w3 := Below.andThen b2' b3
                clear b3
                go_wp2_with fail
                clear hHeld
                refine hK.out _ _ ?_ (fun hHeld => ?_)
                · exact ⟨(b3'.cell (p := ⟨wr.heap.size, 0, none⟩) zy).trans y0, (b3'.cell (p := ⟨wr.heap.size, 1, none⟩) zy).trans y1, (b3'.cell (p := ⟨wr.heap.size, 2, none⟩) zy).trans y2, (b3'.cell (p := ⟨wr.heap.size, 3, none⟩) zy).trans y3, (b3'.cell (p := ⟨w.heap.size, 1, none⟩) zx).trans e1, (b3'.cell (p := ⟨w.heap.size, 2, none⟩) zx).trans e2, (b3'.cell (p := ⟨w.heap.size, 4, none⟩) zx).trans e4, (b3'.cell (p := ⟨w.heap.size, 12, none⟩) zx).trans e12⟩
                clear hK K
                refine held_t 10 hHeld ?_
                refine held_t 11 hHeld ?_
                refine held_t 12 hHeld ?_
                refine held_t 13 hHeld ?_
                refine held_t 14 hHeld ?_
                refine held_t 15 hHeld ?_
                refine held_t 16 hHeld ?_
                refine held_t 17 hHeld ?_
                refine held_t 18 hHeld ?_
                refine held_t 19 hHeld ?_
                refine held_t 20 hHeld ?_
                refine held_t 21 hHeld ?_
                refine held_t 22 hHeld ?_
                refine held_t 23 hHeld ?_
                refine held_t 24 hHeld ?_
                refine held_t 25 hHeld ?_
                refine held_t 26 hHeld ?_
                refine wpAnyH_done (by kernel_rfl) ?_ _
                clear hHeld
                have HB := hidden (hA.trans ((B1.trans (b3'.mono B1.size)).mono hA.size))
                go_wp2
                go_ret
                exact ⟨ret_bool (by rw [show memsB x ms = false from (by unfold memsB; rw [allIx_no HDJ.out (by unfold memAt; simp [HL.out, hBr])]; rfl)]), HB.out⟩
              · rw [hBr] at e12
                go_wp2_with fail
                generalize wr.alloc (.cells #[.slice a0 ss.length c0, .slice a1 cs.length c1, .bool true, .slice a3 bs.length c3] 147) = w1 at X1 Y1 R0 R1 R3 B1 y0 y1 y2 y3 e1 e2 e4 e12 zy zx ⊢
                refine wp_region_held_drew (S := fun w' => w'.cell? ⟨wr.heap.size, 0, none⟩ = some (.slice a0 ss.length c0) ∧ w'.cell? ⟨wr.heap.size, 1, none⟩ = some (.slice a1 cs.length c1) ∧ w'.cell? ⟨wr.heap.size, 2, none⟩ = some (.bool true) ∧ w'.cell? ⟨wr.heap.size, 3, none⟩ = some (.slice a3 bs.length c3) ∧ w'.cell? ⟨w.heap.size, 1, none⟩ = some (.int .i64 x.n) ∧ w'.cell? ⟨w.heap.size, 2, none⟩ = some (.int .i64 x.s) ∧ w'.cell? ⟨w.heap.size, 4, none⟩ = some (.int .i64 x.lost) ∧ w'.cell? ⟨w.heap.size, 12, none⟩ = some (.bool true)) (by kernel_rfl) ?_ (fun hHeld => ?_)
                · exact ⟨y0, y1, y2, y3, e1, e2, e4, e12⟩
                refine held_t 0 hHeld ?_
                refine held_one (i := 1) (by kernel_rfl) rfl (by kernel_rfl) (fun K hK => ?_)
                go_simp
                refine (specMemOk_any _ E _ _ _ _ _ _ _ _ _ ss cs true bs R0.drew R1.drew R3.drew hwm).mono ?_
                rintro e w2 ⟨rfl, b2⟩
                rw [hM]
                have b2' : Below w1.heap.size w1 w2 := (Below.refl w1.heap.size w1).drew.trans b2
                clear b2
                go_wp2_with fail
                clear hHeld
                refine hK.out _ _ ?_ (fun hHeld => ?_)
                · exact ⟨(b2'.cell (p := ⟨wr.heap.size, 0, none⟩) zy).trans y0, (b2'.cell (p := ⟨wr.heap.size, 1, none⟩) zy).trans y1, (b2'.cell (p := ⟨wr.heap.size, 2, none⟩) zy).trans y2, (b2'.cell (p := ⟨wr.heap.size, 3, none⟩) zy).trans y3, (b2'.cell (p := ⟨w.heap.size, 1, none⟩) zx).trans e1, (b2'.cell (p := ⟨w.heap.size, 2, none⟩) zx).trans e2, (b2'.cell (p := ⟨w.heap.size, 4, none⟩) zx).trans e4, (b2'.cell (p := ⟨w.heap.size, 12, none⟩) zx).trans e12⟩
                clear hK K
                refine held_t 2 hHeld ?_
                refine held_t 3 hHeld ?_
                refine held_t 4 hHeld ?_
                refine held_t 5 hHeld ?_
                refine held_t 6 hHeld ?_
                refine held_t 7 hHeld ?_
                refine held_t 8 hHeld ?_
                refine held_one (i := 9) (by kernel_rfl) rfl (by kernel_rfl) (fun K hK => ?_)
                go_simp
                refine (l6Secs_any _ x.n x.s ⟨g3, g4⟩).mono ?_
                rintro e w3 ⟨rfl, b3⟩
                have b3' : Below w1.heap.size w1 w3 := Below.andThen b2' b3
                clear b3
                go_wp2_with fail
                clear hHeld
                refine hK.out _ _ ?_ (fun hHeld => ?_)
                · exact ⟨(b3'.cell (p := ⟨wr.heap.size, 0, none⟩) zy).trans y0, (b3'.cell (p := ⟨wr.heap.size, 1, none⟩) zy).trans y1, (b3'.cell (p := ⟨wr.heap.size, 2, none⟩) zy).trans y2, (b3'.cell (p := ⟨wr.heap.size, 3, none⟩) zy).trans y3, (b3'.cell (p := ⟨w.heap.size, 1, none⟩) zx).trans e1, (b3'.cell (p := ⟨w.heap.size, 2, none⟩) zx).trans e2, (b3'.cell (p := ⟨w.heap.size, 4, none⟩) zx).trans e4, (b3'.cell (p := ⟨w.heap.size, 12, none⟩) zx).trans e12⟩
                clear hK K
                refine held_t 10 hHeld ?_
                refine held_t 11 hHeld ?_
                refine held_t 12 hHeld ?_
                refine held_t 13 hHeld ?_
                refine held_t 14 hHeld ?_
                refine held_t 15 hHeld ?_
                refine held_t 16 hHeld ?_
                refine held_t 17 hHeld ?_
                refine held_t 18 hHeld ?_
                refine held_t 19 hHeld ?_
                refine held_t 20 hHeld ?_
                refine held_t 21 hHeld ?_
                refine held_t 22 hHeld ?_
                refine held_t 23 hHeld ?_
                refine held_t 24 hHeld ?_
                refine held_t 25 hHeld ?_
                refine held_t 26 hHeld ?_
                refine wpAnyH_done (by kernel_rfl) ?_ _
                clear hHeld
                have HB := hidden (B1.trans (b3'.mono B1.size))
                have hat : memAt x j (ss, cs, true, bs) = true := (by unfold memAt; simp [hM, HS.out, hBr])
                go_wp2
                go_roundw
                case rel => exact ⟨j + 1, by omega, by go_num, fun q m hq hm' => by
                    rcases Nat.lt_or_ge q j with h | h
                    · exact hall q m h hm'
                    · obtain rfl : q = j := by omega
                      rw [HDJ.out] at hm'
                      cases hm'
                      exact hat, HB.out⟩
                case measure => simp [intOf]; omega
        · have hS1 : ((ss.length : Int) == 6 + x.s) = false := by simpa using hS
          have hS2 : ((ss.length : Int) != 6 + x.s) = true := by simpa using hS
          have HS := hidden hS
          clear hS
          go_wp2_with fail
          generalize wr.alloc (.cells #[.slice a0 ss.length c0, .slice a1 cs.length c1, .bool f, .slice a3 bs.length c3] 147) = w1 at X1 Y1 R0 R1 R3 B1 y0 y1 y2 y3 e1 e2 e4 e12 zy zx ⊢
          refine wp_region_held_drew (S := fun w' => w'.cell? ⟨wr.heap.size, 0, none⟩ = some (.slice a0 ss.length c0) ∧ w'.cell? ⟨wr.heap.size, 1, none⟩ = some (.slice a1 cs.length c1) ∧ w'.cell? ⟨wr.heap.size, 2, none⟩ = some (.bool f) ∧ w'.cell? ⟨wr.heap.size, 3, none⟩ = some (.slice a3 bs.length c3) ∧ w'.cell? ⟨w.heap.size, 1, none⟩ = some (.int .i64 x.n) ∧ w'.cell? ⟨w.heap.size, 2, none⟩ = some (.int .i64 x.s) ∧ w'.cell? ⟨w.heap.size, 4, none⟩ = some (.int .i64 x.lost) ∧ w'.cell? ⟨w.heap.size, 12, none⟩ = some (.bool x.broken)) (by kernel_rfl) ?_ (fun hHeld => ?_)
          · exact ⟨y0, y1, y2, y3, e1, e2, e4, e12⟩
          refine held_t 0 hHeld ?_
          refine held_one (i := 1) (by kernel_rfl) rfl (by kernel_rfl) (fun K hK => ?_)
          go_simp
          refine (specMemOk_any _ E _ _ _ _ _ _ _ _ _ ss cs f bs R0.drew R1.drew R3.drew hwm).mono ?_
          rintro e w2 ⟨rfl, b2⟩
          rw [hM]
          have b2' : Below w1.heap.size w1 w2 := (Below.refl w1.heap.size w1).drew.trans b2
          clear b2
          go_wp2_with fail
          clear hHeld
          refine hK.out _ _ ?_ (fun hHeld => ?_)
          · exact ⟨(b2'.cell (p := ⟨wr.heap.size, 0, none⟩) zy).trans y0, (b2'.cell (p := ⟨wr.heap.size, 1, none⟩) zy).trans y1, (b2'.cell (p := ⟨wr.heap.size, 2, none⟩) zy).trans y2, (b2'.cell (p := ⟨wr.heap.size, 3, none⟩) zy).trans y3, (b2'.cell (p := ⟨w.heap.size, 1, none⟩) zx).trans e1, (b2'.cell (p := ⟨w.heap.size, 2, none⟩) zx).trans e2, (b2'.cell (p := ⟨w.heap.size, 4, none⟩) zx).trans e4, (b2'.cell (p := ⟨w.heap.size, 12, none⟩) zx).trans e12⟩
          clear hK K
          refine held_t 2 hHeld ?_
          refine held_t 3 hHeld ?_
          refine held_t 4 hHeld ?_
          refine held_t 5 hHeld ?_
          refine held_t 6 hHeld ?_
          refine held_t 7 hHeld ?_
          refine held_t 8 hHeld ?_
          refine held_one (i := 9) (by kernel_rfl) rfl (by kernel_rfl) (fun K hK => ?_)
          go_simp
          refine (l6Secs_any _ x.n x.s ⟨g3, g4⟩).mono ?_
          rintro e w3 ⟨rfl, b3⟩
          have b3' : Below w1.heap.size w1 w3 := Below.andThen b2' b3
          clear b3
          go_wp2_with fail
          clear hHeld
          refine hK.out _ _ ?_ (fun hHeld => ?_)
          · exact ⟨(b3'.cell (p := ⟨wr.heap.size, 0, none⟩) zy).trans y0, (b3'.cell (p := ⟨wr.heap.size, 1, none⟩) zy).trans y1, (b3'.cell (p := ⟨wr.heap.size, 2, none⟩) zy).trans y2, (b3'.cell (p := ⟨wr.heap.size, 3, none⟩) zy).trans y3, (b3'.cell (p := ⟨w.heap.size, 1, none⟩) zx).trans e1, (b3'.cell (p := ⟨w.heap.size, 2, none⟩) zx).trans e2, (b3'.cell (p := ⟨w.heap.size, 4, none⟩) zx).trans e4, (b3'.cell (p := ⟨w.heap.size, 12, none⟩) zx).trans e12⟩
          clear hK K
          refine held_t 10 hHeld ?_
          refine held_t 11 hHeld ?_
          refine held_t 12 hHeld ?_
          refine held_p 13 hHeld ?_
          refine held_p 14 hHeld ?_
          refine held_p 15 hHeld ?_
          refine held_p 16 hHeld ?_
          refine held_p 17 hHeld ?_
          refine held_p 18 hHeld ?_
          refine held_p 19 hHeld ?_
          refine held_p 20 hHeld ?_
          refine held_p 21 hHeld ?_
          refine held_p 22 hHeld ?_
          refine held_p 23 hHeld ?_
          refine held_p 24 hHeld ?_
          refine held_p 25 hHeld ?_
          refine held_t 26 hHeld ?_
          refine wpAnyH_done (by kernel_rfl) ?_ _
          clear hHeld
          have HB := hidden (hA.trans ((B1.trans (b3'.mono B1.size)).mono hA.size))
          go_wp2
          go_ret
          exact ⟨ret_bool (by rw [show memsB x ms = false from (by unfold memsB; rw [allIx_no HDJ.out (by unfold memAt; simp [HS.out])]; rfl)]), HB.out⟩
    · have e : j = nm := by omega
      subst e
      have hAll : allIx (memAt x) ms = true := allIx_iff.2 (fun q m hq => hall q m (by have := (List.getElem?_eq_some_iff.1 hq).1; omega) hq)
      have HB := hidden (hA.trans (hb.mono hA.size))
      have hR : memsB x ms = ((j : Int) == x.n) := by unfold memsB; rw [hAll, hl]; simp [BEq.beq]
      go_wp2
      go_ret
      exact ⟨ret_bool hR.symm, HB.out⟩

end Go.Proofs.YtbkkjfgjlapadaaGreat

/-
  What makes an engine right: what both sides answer of its jobs and its lengths, as plain definitions. No condition.
-/
namespace Go.Proofs.YtbkkjfgjlapadaaGreat
open Go.RowKit

def codeD (gn gs : Int) (c : CmdD) : Int := codeC gn gs c.1 c.2.1 c.2.2.1 c.2.2.2.1 c.2.2.2.2
def spanD (gn gs : Int) (c : CmdD) : Int × Int := spanC gn gs c.1 c.2.1 c.2.2.1 c.2.2.2.1 c.2.2.2.2
/-- Whether two commands clash. -/
def clashD (gn gs : Int) (c c2 : CmdD) : Bool := metC (spanD gn gs c) (spanD gn gs c2)
def jobC (x : JobD) : CmdD := (x.1, x.2.1, x.2.2.1, x.2.2.2.1, x.2.2.2.2.1)
def gotB (gs : List Int) : Bool := allW gs && decide (gs.length ≤ 6)
def wentB (q : Int) : Bool := decide (q = 0) || inB q 4 7
def rightJ (gn gs : Int) (x : JobD) : Bool := decide (codeD gn gs (jobC x) = 0) && (inB x.2.2.2.2.2.1 0 40 && (gotB x.2.2.2.2.2.2.1 && wentB x.2.2.2.2.2.2.2))
/-- The job at i: right, and it clashes with none ahead of it. -/
def jobAt (gn gs : Int) (js : List JobD) (i : Nat) : Bool := match js[i]? with
  | some x => rightJ gn gs x && !((js.take i).any fun y => clashD gn gs (jobC y) (jobC x))
  | none => true
def jobsB (gn gs : Int) (js : List JobD) (n : Nat) : Bool := (List.range n).all (jobAt gn gs js)
def fewB (e : EngD) : Bool := decide (e.ws.length ≤ 8) && (decide (e.js.length ≤ 4) && (decide (e.an.length ≤ 8) && decide (e.ts.length ≤ 400)))
def engB (e : EngD) : Bool := arrB e.x e.ms e.ds && (fewB e && jobsB e.x.n e.x.s e.js e.js.length)

theorem jobsB_step {gn gs : Int} {js : List JobD} {n : Nat} (h : jobsB gn gs js n = true) (h1 : jobAt gn gs js n = true) : jobsB gn gs js (n + 1) = true := by
  unfold jobsB at *
  rw [List.range_succ, List.all_append, h]
  simp [h1]
theorem jobsB_fail {gn gs : Int} {js : List JobD} {n i : Nat} (hi : i < n) (h1 : jobAt gn gs js i = false) : jobsB gn gs js n = false := by
  unfold jobsB
  rw [List.all_eq_false]
  exact ⟨i, List.mem_range.2 hi, by simp [h1]⟩
theorem jobAt_eq {gn gs : Int} {js : List JobD} {i : Nat} {x : JobD} (h : js[i]? = some x) : jobAt gn gs js i = (rightJ gn gs x && !((js.take i).any fun y => clashD gn gs (jobC y) (jobC x))) := by unfold jobAt; rw [h]
theorem any_step {α : Type} {p : α → Bool} {l : List α} {j : Nat} {x : α} (h : l[j]? = some x) (hx : p x = false) (ht : (l.take j).any p = false) : (l.take (j + 1)).any p = false := by
  have hj := (List.getElem?_eq_some_iff.1 h).1
  rw [List.take_succ_eq_append_getElem hj, List.any_append, ht]
  rw [List.getElem?_eq_getElem hj] at h
  simp at h
  simp [h, hx]
theorem any_hit {α : Type} {p : α → Bool} {l : List α} {j : Nat} {x : α} (h : l[j]? = some x) (hx : p x = true) : l.any p = true := List.any_eq_true.2 ⟨x, List.mem_of_getElem? h, hx⟩
theorem sec_got {gs : List Int} : (secB gs && decide (gs.length ≤ 6)) = gotB gs := by
  unfold secB gotB
  by_cases h : gs.length ≤ 6
  · rw [decide_eq_true h, decide_eq_true (show gs.length ≤ 12 by omega)]; simp
  · rw [decide_eq_false h]; simp
theorem engB_arr {e : EngD} (h : arrB e.x e.ms e.ds = false) : engB e = false := by unfold engB; rw [h]; rfl
theorem engB_few {e : EngD} (h : fewB e = false) : engB e = false := by unfold engB; rw [h]; simp
theorem engB_job {e : EngD} (h : jobsB e.x.n e.x.s e.js e.js.length = false) : engB e = false := by unfold engB; rw [h]; simp

/-- Whether there is room for one job more. -/
def roomE (e : EngD) : Bool := decide (e.js.length < 4) && (decide (e.an.length + e.js.length < 8) && decide (e.ts.length + e.js.length < 400))
/-- Whether what waits at m clashes with no job, and with none that waits ahead. -/
def freeD (gn gs : Int) (js : List JobD) (ws : List CmdD) (m : Nat) (c : CmdD) : Bool := !(js.any fun y => clashD gn gs (jobC y) c) && !((ws.take m).any fun y => clashD gn gs y c)
def freeB (e : EngD) (m : Nat) : Bool := match e.ws[m]? with
  | some c => freeD e.x.n e.x.s e.js e.ws m c
  | none => true
def canB (e : EngD) (k : Int) : Bool := engB e && (inB k 0 ((e.ws.length : Int) - 1) && (roomE e && freeB e k.toNat))
theorem freeB_eq {e : EngD} {m : Nat} {c : CmdD} (h : e.ws[m]? = some c) : freeB e m = freeD e.x.n e.x.s e.js e.ws m c := by unfold freeB; rw [h]

end Go.Proofs.YtbkkjfgjlapadaaGreat

/-
  What the program answers of a command: how many blocks it has, its code, its span, and whether two clash. Condition: at most 2097152 words each.
-/
namespace Go.Proofs.YtbkkjfgjlapadaaGreat
open Go.RowKit

theorem opOk_any (w : World) (o : Int) : Calls Tryz.prog 207 #[.int .i64 o] w fun e w' => e = .returned (.bool (inB o 1 6)) ∧ w' = w := by
  go_enter Tryz.func207, Tryz.ntmps207
  go_wp2_with fail
  refine (within_any _ _ _ _).mono ?_
  rintro e w1 ⟨rfl, rfl⟩
  go_wp2
  go_ret
  exact ⟨rfl, rfl⟩

set_option maxHeartbeats 1600000 in
theorem roomOf_any (w : World) (o d b k : Int) (a : Option Addr) (n cap : Nat) (zs : List Int) (hz : zs.length = n) (hr : Reads .i64 w a zs) (hn : n ≤ 2097152) :
    Calls Tryz.prog 251 #[.agg #[.int .i64 o, .int .i64 d, .int .i64 b, .int .i64 k, .slice a n cap]] w fun e w' => e = .returned (.int .i64 (lenC o k zs)) ∧ Below w.heap.size w w' := by
  have hA := new_below w (.cells #[.int .i64 o, .int .i64 d, .int .i64 b, .int .i64 k, .slice a n cap] 38)
  have hr' := hr.below hA
  subst hz
  by_cases h1 : o = 1
  · subst h1
    go_enter Tryz.func251, Tryz.ntmps251
    go_wp2
    go_ret
    exact ⟨ret_int (len1 (.inl rfl)).symm, hA⟩
  · skip
    by_cases h6 : o = 6
    · subst h6
      go_enter Tryz.func251, Tryz.ntmps251
      go_wp2
      go_ret
      exact ⟨ret_int (len1 (.inr rfl)).symm, hA⟩
    · skip
      by_cases h2 : o = 2
      · subst h2
        go_enter Tryz.func251, Tryz.ntmps251
        go_wp2
        go_ret
        exact ⟨ret_int (len2 (.inl rfl)).symm, hA⟩
      · skip
        by_cases h3 : o = 3
        · subst h3
          go_enter Tryz.func251, Tryz.ntmps251
          go_wp2
          go_ret
          exact ⟨ret_int (len2 (.inr rfl)).symm, hA⟩
        · skip
          by_cases h5 : o = 5
          · subst h5
            go_enter Tryz.func251, Tryz.ntmps251
            go_wp2
            go_ret
            exact ⟨ret_int (len5).symm, hA⟩
          · skip
            have hl := len0 (k := k) (zs := zs) (by omega : ¬ (o = 1 ∨ o = 6)) (by omega : ¬ (o = 2 ∨ o = 3)) h5
            go_enter Tryz.func251, Tryz.ntmps251
            go_wp2
            go_ret
            exact ⟨ret_int hl.symm, hA⟩

theorem sec_bad {o k : Int} {zs : List Int} (h : o = 2 ∨ o = 3) (hq : secB zs = false) : sizeC o k zs = false := by
  rw [size2 h]
  cases hl : inB (zs.length : Int) 1 6
  · rfl
  · rw [← secB_six hl, hq]
    rfl
theorem sec_good {o k : Int} {zs : List Int} (h : o = 2 ∨ o = 3) (hq : secB zs = true) (hl : inB (lenC o k zs) 1 6 = true) : sizeC o k zs = true := by
  rw [len2 h] at hl
  rw [size2 h, hl, ← secB_six hl, hq]
  rfl
theorem size_long {o k : Int} {zs : List Int} (h : o = 2 ∨ o = 3) (hl : inB (lenC o k zs) 1 6 = false) : sizeC o k zs = false := by
  rw [len2 h] at hl
  rw [size2 h, hl]
  rfl
theorem five_never {k : Int} {zs : List Int} (h : inB (lenC 5 k zs) 1 6 = false) : sizeC 5 k zs = false := by
  rw [len5] at h
  exact absurd h (by decide)
theorem two_bad {k : Int} {zs : List Int} (hq : secB zs = false) : sizeC 5 k zs = false := by
  rw [size5]
  by_cases hl : zs.length = 2
  · rw [← secB_two hl, hq]
    simp
  · simp [hl]
theorem two_not {k : Int} {zs : List Int} (hl : ¬ zs.length = 2) : sizeC 5 k zs = false := by
  rw [size5]
  simp [hl]
theorem two_good {k : Int} {zs : List Int} (hl : zs.length = 2) (hq : secB zs = true) : sizeC 5 k zs = true := by
  rw [size5, ← secB_two hl, hq]
  simp [hl]

set_option maxHeartbeats 3200000 in
theorem roomCode_any (w : World) (gn gs : Int) (o d b k : Int) (a : Option Addr) (n cap : Nat) (zs : List Int) (hz : zs.length = n) (hr : Reads .i64 w a zs) (hn : n ≤ 2097152) (ho : inB o 1 6 = true) :
    Calls Tryz.prog 208 #[.agg #[.int .i64 gn, .int .i64 gs], .agg #[.int .i64 o, .int .i64 d, .int .i64 b, .int .i64 k, .slice a n cap]] w fun e w' => e = .returned (.int .i64 (restC gn gs o b k zs)) ∧ Below w.heap.size w w' := by
  have hA : Below w.heap.size w ((w.alloc (.cells #[.int .i64 gn, .int .i64 gs] 25)).alloc (.cells #[.int .i64 o, .int .i64 d, .int .i64 b, .int .i64 k, .slice a n cap] 38)) := (new_below w _).alloc (by simp) _
  have G : Box ((w.alloc (.cells #[.int .i64 gn, .int .i64 gs] 25)).alloc (.cells #[.int .i64 o, .int .i64 d, .int .i64 b, .int .i64 k, .slice a n cap] 38)) w.heap.size 25 #[.int .i64 gn, .int .i64 gs] := (Box.new w _ _).below (new_below _ _) (by simp)
  have X : Box ((w.alloc (.cells #[.int .i64 gn, .int .i64 gs] 25)).alloc (.cells #[.int .i64 o, .int .i64 d, .int .i64 b, .int .i64 k, .slice a n cap] 38)) (w.heap.size + 1) 38 #[.int .i64 o, .int .i64 d, .int .i64 b, .int .i64 k, .slice a n cap] := by
    have := Box.new (w.alloc (.cells #[.int .i64 gn, .int .i64 gs] 25)) 38 #[.int .i64 o, .int .i64 d, .int .i64 b, .int .i64 k, .slice a n cap]
    simpa using this
  have hr' := hr.below hA
  subst hz
  obtain ⟨g0, g1⟩ := G.cells2
  obtain ⟨c0, c1, c2, c3, c4⟩ := X.cells5
  rw [inB_iff] at ho
  by_cases h4 : o = 4
  · subst h4
    have HR := hidden (rest_flush (gn := gn) (gs := gs) (b := b) (k := k) (zs := zs))
    go_enter Tryz.func208, Tryz.ntmps208
    go_wp2
    go_ret
    exact ⟨ret_int HR.out.symm, hA⟩
  · by_cases h1 : o = 1
    · subst h1
      go_enter Tryz.func208, Tryz.ntmps208
      go_wp2_with fail
      generalize (w.alloc (.cells #[.int .i64 gn, .int .i64 gs] 25)).alloc (.cells #[.int .i64 1, .int .i64 d, .int .i64 b, .int .i64 k, .slice a zs.length cap] 38) = W0 at hA G X hr' g0 g1 c0 c1 c2 c3 c4 ⊢
      have B0 := hA
      have G0 := G
      have X0 := X
      have R0 := hr'
      clear hA G X hr' hr
      go_wp2_with fail
      refine (roomOf_any _ 1 d b k _ _ _ zs rfl R0 hn).mono ?_
      rintro e w1 ⟨rfl, b1⟩
      have B1 := Below.andThen B0 b1
      have G1 := G0.below b1 G0.lt
      have X1 := X0.below b1 X0.lt
      have R1 := R0.below b1
      clear g0 g1 c0 c1 c2 c3 c4
      obtain ⟨g0, g1⟩ := G1.cells2
      obtain ⟨c0, c1, c2, c3, c4⟩ := X1.cells5
      clear B0 G0 X0 R0 b1
      go_wp2_with fail
      refine (within_any _ _ _ _).mono ?_
      rintro e w2 ⟨rfl, hw⟩
      subst w2
      cases hl : inB (lenC 1 k zs) 1 6
      · have HR := hidden (rest_bad13 (gn := gn) (gs := gs) (b := b) ((size_room (o := 1) (k := k) (zs := zs) (.inl rfl)).trans hl))
        go_wp2
        go_ret
        exact ⟨ret_int HR.out.symm, B1⟩
      · have hs : sizeC 1 k zs = true := (size_room (o := 1) (k := k) (zs := zs) (.inl rfl)).trans hl
        have hbr := blocksN_range gn gs
        obtain ⟨hl0, hl1, _⟩ := size_len hs
        have zg := G1.lt
        have zx := X1.lt
        have hwr : IntKind.i64.wrap (blocksN gn gs - lenC 1 k zs) = blocksN gn gs - lenC 1 k zs := IntWalk.i64_in _ (by omega)
        go_wp2_with fail
        go_region_held3 (fun w' => w'.cell? ⟨w.heap.size, 0, none⟩ = some (.int .i64 gn) ∧ w'.cell? ⟨w.heap.size, 1, none⟩ = some (.int .i64 gs) ∧ w'.cell? ⟨w.heap.size + 1, 0, none⟩ = some (.int .i64 1) ∧ w'.cell? ⟨w.heap.size + 1, 1, none⟩ = some (.int .i64 d) ∧ w'.cell? ⟨w.heap.size + 1, 2, none⟩ = some (.int .i64 b) ∧ w'.cell? ⟨w.heap.size + 1, 3, none⟩ = some (.int .i64 k) ∧ w'.cell? ⟨w.heap.size + 1, 4, none⟩ = some (.slice a zs.length cap))
          (first | (exact ⟨(q3.cell (p := ⟨w.heap.size, 0, none⟩) zg).trans g0, (q3.cell (p := ⟨w.heap.size, 1, none⟩) zg).trans g1, (q3.cell (p := ⟨w.heap.size + 1, 0, none⟩) zx).trans c0, (q3.cell (p := ⟨w.heap.size + 1, 1, none⟩) zx).trans c1, (q3.cell (p := ⟨w.heap.size + 1, 2, none⟩) zx).trans c2, (q3.cell (p := ⟨w.heap.size + 1, 3, none⟩) zx).trans c3, (q3.cell (p := ⟨w.heap.size + 1, 4, none⟩) zx).trans c4⟩) | (exact ⟨(q2.cell (p := ⟨w.heap.size, 0, none⟩) zg).trans g0, (q2.cell (p := ⟨w.heap.size, 1, none⟩) zg).trans g1, (q2.cell (p := ⟨w.heap.size + 1, 0, none⟩) zx).trans c0, (q2.cell (p := ⟨w.heap.size + 1, 1, none⟩) zx).trans c1, (q2.cell (p := ⟨w.heap.size + 1, 2, none⟩) zx).trans c2, (q2.cell (p := ⟨w.heap.size + 1, 3, none⟩) zx).trans c3, (q2.cell (p := ⟨w.heap.size + 1, 4, none⟩) zx).trans c4⟩) | (exact ⟨g0, g1, c0, c1, c2, c3, c4⟩) | go_keep)
          (first | (go_at_call 74; refine (within_any _ _ _ _).mono ?_; rintro e w4 ⟨rfl, hw⟩; subst w4) | (go_at_call 251; refine (roomOf_any _ 1 d b k _ _ _ zs rfl (by exact R1.below q2) hn).mono ?_; rintro e w3 ⟨rfl, p3⟩; have q3 : Below w1.heap.size w1 w3 := Below.andThen q2 p3) | (go_at_call 252; refine (implBlocks_any _ _ _).mono ?_; rintro e w2 ⟨rfl, p2⟩; have q2 : Below w1.heap.size w1 w2 := (Below.refl w1.heap.size w1).drew.trans p2))
        cases hx : inB b 0 (blocksN gn gs - lenC 1 k zs)
        · have HR := hidden (rest_out hs (by omega) hx)
          go_wp2
          go_ret
          exact ⟨ret_int HR.out.symm, (Below.andThen B1 q3)⟩
        · have HR := hidden (rest_in hs hx)
          go_wp2
          go_ret
          exact ⟨ret_int HR.out.symm, (Below.andThen B1 q3)⟩
    · by_cases h6 : o = 6
      · subst h6
        go_enter Tryz.func208, Tryz.ntmps208
        go_wp2_with fail
        generalize (w.alloc (.cells #[.int .i64 gn, .int .i64 gs] 25)).alloc (.cells #[.int .i64 6, .int .i64 d, .int .i64 b, .int .i64 k, .slice a zs.length cap] 38) = W0 at hA G X hr' g0 g1 c0 c1 c2 c3 c4 ⊢
        have B0 := hA
        have G0 := G
        have X0 := X
        have R0 := hr'
        clear hA G X hr' hr
        go_wp2_with fail
        refine (roomOf_any _ 6 d b k _ _ _ zs rfl R0 hn).mono ?_
        rintro e w1 ⟨rfl, b1⟩
        have B1 := Below.andThen B0 b1
        have G1 := G0.below b1 G0.lt
        have X1 := X0.below b1 X0.lt
        have R1 := R0.below b1
        clear g0 g1 c0 c1 c2 c3 c4
        obtain ⟨g0, g1⟩ := G1.cells2
        obtain ⟨c0, c1, c2, c3, c4⟩ := X1.cells5
        clear B0 G0 X0 R0 b1
        go_wp2_with fail
        refine (within_any _ _ _ _).mono ?_
        rintro e w2 ⟨rfl, hw⟩
        subst w2
        cases hl : inB (lenC 6 k zs) 1 6
        · have HR := hidden (rest_bad13 (gn := gn) (gs := gs) (b := b) ((size_room (o := 6) (k := k) (zs := zs) (.inr rfl)).trans hl))
          go_wp2
          go_ret
          exact ⟨ret_int HR.out.symm, B1⟩
        · have hs : sizeC 6 k zs = true := (size_room (o := 6) (k := k) (zs := zs) (.inr rfl)).trans hl
          have hbr := blocksN_range gn gs
          obtain ⟨hl0, hl1, _⟩ := size_len hs
          have zg := G1.lt
          have zx := X1.lt
          have hwr : IntKind.i64.wrap (blocksN gn gs - lenC 6 k zs) = blocksN gn gs - lenC 6 k zs := IntWalk.i64_in _ (by omega)
          go_wp2_with fail
          go_region_held3 (fun w' => w'.cell? ⟨w.heap.size, 0, none⟩ = some (.int .i64 gn) ∧ w'.cell? ⟨w.heap.size, 1, none⟩ = some (.int .i64 gs) ∧ w'.cell? ⟨w.heap.size + 1, 0, none⟩ = some (.int .i64 6) ∧ w'.cell? ⟨w.heap.size + 1, 1, none⟩ = some (.int .i64 d) ∧ w'.cell? ⟨w.heap.size + 1, 2, none⟩ = some (.int .i64 b) ∧ w'.cell? ⟨w.heap.size + 1, 3, none⟩ = some (.int .i64 k) ∧ w'.cell? ⟨w.heap.size + 1, 4, none⟩ = some (.slice a zs.length cap))
            (first | (exact ⟨(q3.cell (p := ⟨w.heap.size, 0, none⟩) zg).trans g0, (q3.cell (p := ⟨w.heap.size, 1, none⟩) zg).trans g1, (q3.cell (p := ⟨w.heap.size + 1, 0, none⟩) zx).trans c0, (q3.cell (p := ⟨w.heap.size + 1, 1, none⟩) zx).trans c1, (q3.cell (p := ⟨w.heap.size + 1, 2, none⟩) zx).trans c2, (q3.cell (p := ⟨w.heap.size + 1, 3, none⟩) zx).trans c3, (q3.cell (p := ⟨w.heap.size + 1, 4, none⟩) zx).trans c4⟩) | (exact ⟨(q2.cell (p := ⟨w.heap.size, 0, none⟩) zg).trans g0, (q2.cell (p := ⟨w.heap.size, 1, none⟩) zg).trans g1, (q2.cell (p := ⟨w.heap.size + 1, 0, none⟩) zx).trans c0, (q2.cell (p := ⟨w.heap.size + 1, 1, none⟩) zx).trans c1, (q2.cell (p := ⟨w.heap.size + 1, 2, none⟩) zx).trans c2, (q2.cell (p := ⟨w.heap.size + 1, 3, none⟩) zx).trans c3, (q2.cell (p := ⟨w.heap.size + 1, 4, none⟩) zx).trans c4⟩) | (exact ⟨g0, g1, c0, c1, c2, c3, c4⟩) | go_keep)
            (first | (go_at_call 74; refine (within_any _ _ _ _).mono ?_; rintro e w4 ⟨rfl, hw⟩; subst w4) | (go_at_call 251; refine (roomOf_any _ 6 d b k _ _ _ zs rfl (by exact R1.below q2) hn).mono ?_; rintro e w3 ⟨rfl, p3⟩; have q3 : Below w1.heap.size w1 w3 := Below.andThen q2 p3) | (go_at_call 252; refine (implBlocks_any _ _ _).mono ?_; rintro e w2 ⟨rfl, p2⟩; have q2 : Below w1.heap.size w1 w2 := (Below.refl w1.heap.size w1).drew.trans p2))
          cases hx : inB b 0 (blocksN gn gs - lenC 6 k zs)
          · have HR := hidden (rest_out hs (by omega) hx)
            go_wp2
            go_ret
            exact ⟨ret_int HR.out.symm, (Below.andThen B1 q3)⟩
          · have HR := hidden (rest_in hs hx)
            go_wp2
            go_ret
            exact ⟨ret_int HR.out.symm, (Below.andThen B1 q3)⟩
      · by_cases h2 : o = 2
        · subst h2
          go_enter Tryz.func208, Tryz.ntmps208
          go_wp2_with fail
          generalize (w.alloc (.cells #[.int .i64 gn, .int .i64 gs] 25)).alloc (.cells #[.int .i64 2, .int .i64 d, .int .i64 b, .int .i64 k, .slice a zs.length cap] 38) = W0 at hA G X hr' g0 g1 c0 c1 c2 c3 c4 ⊢
          have B0 := hA
          have G0 := G
          have X0 := X
          have R0 := hr'
          clear hA G X hr' hr
          go_wp2_with fail
          refine (implSecOk_any _ _ _ _ zs rfl R0 hn).mono ?_
          rintro e w1 ⟨rfl, s1⟩
          have B1 := Below.andSame B0 s1
          have G1 := G0.same s1
          have X1 := X0.same s1
          have R1 := R0.same s1
          clear g0 g1 c0 c1 c2 c3 c4
          obtain ⟨g0, g1⟩ := G1.cells2
          obtain ⟨c0, c1, c2, c3, c4⟩ := X1.cells5
          clear B0 G0 X0 R0 s1
          cases hq : secB zs
          · have HR := hidden (rest_bad13 (gn := gn) (gs := gs) (b := b) (sec_bad (k := k) (.inl rfl) hq))
            go_wp2
            go_ret
            exact ⟨ret_int HR.out.symm, B1⟩
          · skip
            go_wp2_with fail
            refine (roomOf_any _ 2 d b k _ _ _ zs rfl R1 hn).mono ?_
            rintro e w2 ⟨rfl, b2⟩
            have B2 := Below.andThen B1 b2
            have G2 := G1.below b2 G1.lt
            have X2 := X1.below b2 X1.lt
            have R2 := R1.below b2
            clear g0 g1 c0 c1 c2 c3 c4
            obtain ⟨g0, g1⟩ := G2.cells2
            obtain ⟨c0, c1, c2, c3, c4⟩ := X2.cells5
            clear B1 G1 X1 R1 b2
            go_wp2_with fail
            refine (within_any _ _ _ _).mono ?_
            rintro e w3 ⟨rfl, hw⟩
            subst w3
            cases hl : inB (lenC 2 k zs) 1 6
            · have HR := hidden (rest_bad13 (gn := gn) (gs := gs) (b := b) (size_long (k := k) (.inl rfl) hl))
              go_wp2
              go_ret
              exact ⟨ret_int HR.out.symm, B2⟩
            · have hs : sizeC 2 k zs = true := sec_good (k := k) (.inl rfl) hq hl
              have hbr := blocksN_range gn gs
              obtain ⟨hl0, hl1, _⟩ := size_len hs
              have zg := G2.lt
              have zx := X2.lt
              have hwr : IntKind.i64.wrap (blocksN gn gs - lenC 2 k zs) = blocksN gn gs - lenC 2 k zs := IntWalk.i64_in _ (by omega)
              go_wp2_with fail
              go_region_held3 (fun w' => w'.cell? ⟨w.heap.size, 0, none⟩ = some (.int .i64 gn) ∧ w'.cell? ⟨w.heap.size, 1, none⟩ = some (.int .i64 gs) ∧ w'.cell? ⟨w.heap.size + 1, 0, none⟩ = some (.int .i64 2) ∧ w'.cell? ⟨w.heap.size + 1, 1, none⟩ = some (.int .i64 d) ∧ w'.cell? ⟨w.heap.size + 1, 2, none⟩ = some (.int .i64 b) ∧ w'.cell? ⟨w.heap.size + 1, 3, none⟩ = some (.int .i64 k) ∧ w'.cell? ⟨w.heap.size + 1, 4, none⟩ = some (.slice a zs.length cap))
                (first | (exact ⟨(q4.cell (p := ⟨w.heap.size, 0, none⟩) zg).trans g0, (q4.cell (p := ⟨w.heap.size, 1, none⟩) zg).trans g1, (q4.cell (p := ⟨w.heap.size + 1, 0, none⟩) zx).trans c0, (q4.cell (p := ⟨w.heap.size + 1, 1, none⟩) zx).trans c1, (q4.cell (p := ⟨w.heap.size + 1, 2, none⟩) zx).trans c2, (q4.cell (p := ⟨w.heap.size + 1, 3, none⟩) zx).trans c3, (q4.cell (p := ⟨w.heap.size + 1, 4, none⟩) zx).trans c4⟩) | (exact ⟨(q3.cell (p := ⟨w.heap.size, 0, none⟩) zg).trans g0, (q3.cell (p := ⟨w.heap.size, 1, none⟩) zg).trans g1, (q3.cell (p := ⟨w.heap.size + 1, 0, none⟩) zx).trans c0, (q3.cell (p := ⟨w.heap.size + 1, 1, none⟩) zx).trans c1, (q3.cell (p := ⟨w.heap.size + 1, 2, none⟩) zx).trans c2, (q3.cell (p := ⟨w.heap.size + 1, 3, none⟩) zx).trans c3, (q3.cell (p := ⟨w.heap.size + 1, 4, none⟩) zx).trans c4⟩) | (exact ⟨g0, g1, c0, c1, c2, c3, c4⟩) | go_keep)
                (first | (go_at_call 74; refine (within_any _ _ _ _).mono ?_; rintro e w5 ⟨rfl, hw⟩; subst w5) | (go_at_call 251; refine (roomOf_any _ 2 d b k _ _ _ zs rfl (by exact R2.below q3) hn).mono ?_; rintro e w4 ⟨rfl, p4⟩; have q4 : Below w2.heap.size w2 w4 := Below.andThen q3 p4) | (go_at_call 252; refine (implBlocks_any _ _ _).mono ?_; rintro e w3 ⟨rfl, p3⟩; have q3 : Below w2.heap.size w2 w3 := (Below.refl w2.heap.size w2).drew.trans p3))
              cases hx : inB b 0 (blocksN gn gs - lenC 2 k zs)
              · have HR := hidden (rest_out hs (by omega) hx)
                go_wp2
                go_ret
                exact ⟨ret_int HR.out.symm, (Below.andThen B2 q4)⟩
              · have HR := hidden (rest_in hs hx)
                go_wp2
                go_ret
                exact ⟨ret_int HR.out.symm, (Below.andThen B2 q4)⟩
        · by_cases h3 : o = 3
          · subst h3
            go_enter Tryz.func208, Tryz.ntmps208
            go_wp2_with fail
            generalize (w.alloc (.cells #[.int .i64 gn, .int .i64 gs] 25)).alloc (.cells #[.int .i64 3, .int .i64 d, .int .i64 b, .int .i64 k, .slice a zs.length cap] 38) = W0 at hA G X hr' g0 g1 c0 c1 c2 c3 c4 ⊢
            have B0 := hA
            have G0 := G
            have X0 := X
            have R0 := hr'
            clear hA G X hr' hr
            go_wp2_with fail
            refine (implSecOk_any _ _ _ _ zs rfl R0 hn).mono ?_
            rintro e w1 ⟨rfl, s1⟩
            have B1 := Below.andSame B0 s1
            have G1 := G0.same s1
            have X1 := X0.same s1
            have R1 := R0.same s1
            clear g0 g1 c0 c1 c2 c3 c4
            obtain ⟨g0, g1⟩ := G1.cells2
            obtain ⟨c0, c1, c2, c3, c4⟩ := X1.cells5
            clear B0 G0 X0 R0 s1
            cases hq : secB zs
            · have HR := hidden (rest_bad13 (gn := gn) (gs := gs) (b := b) (sec_bad (k := k) (.inr rfl) hq))
              go_wp2
              go_ret
              exact ⟨ret_int HR.out.symm, B1⟩
            · skip
              go_wp2_with fail
              refine (roomOf_any _ 3 d b k _ _ _ zs rfl R1 hn).mono ?_
              rintro e w2 ⟨rfl, b2⟩
              have B2 := Below.andThen B1 b2
              have G2 := G1.below b2 G1.lt
              have X2 := X1.below b2 X1.lt
              have R2 := R1.below b2
              clear g0 g1 c0 c1 c2 c3 c4
              obtain ⟨g0, g1⟩ := G2.cells2
              obtain ⟨c0, c1, c2, c3, c4⟩ := X2.cells5
              clear B1 G1 X1 R1 b2
              go_wp2_with fail
              refine (within_any _ _ _ _).mono ?_
              rintro e w3 ⟨rfl, hw⟩
              subst w3
              cases hl : inB (lenC 3 k zs) 1 6
              · have HR := hidden (rest_bad13 (gn := gn) (gs := gs) (b := b) (size_long (k := k) (.inr rfl) hl))
                go_wp2
                go_ret
                exact ⟨ret_int HR.out.symm, B2⟩
              · have hs : sizeC 3 k zs = true := sec_good (k := k) (.inr rfl) hq hl
                have hbr := blocksN_range gn gs
                obtain ⟨hl0, hl1, _⟩ := size_len hs
                have zg := G2.lt
                have zx := X2.lt
                have hwr : IntKind.i64.wrap (blocksN gn gs - lenC 3 k zs) = blocksN gn gs - lenC 3 k zs := IntWalk.i64_in _ (by omega)
                go_wp2_with fail
                go_region_held3 (fun w' => w'.cell? ⟨w.heap.size, 0, none⟩ = some (.int .i64 gn) ∧ w'.cell? ⟨w.heap.size, 1, none⟩ = some (.int .i64 gs) ∧ w'.cell? ⟨w.heap.size + 1, 0, none⟩ = some (.int .i64 3) ∧ w'.cell? ⟨w.heap.size + 1, 1, none⟩ = some (.int .i64 d) ∧ w'.cell? ⟨w.heap.size + 1, 2, none⟩ = some (.int .i64 b) ∧ w'.cell? ⟨w.heap.size + 1, 3, none⟩ = some (.int .i64 k) ∧ w'.cell? ⟨w.heap.size + 1, 4, none⟩ = some (.slice a zs.length cap))
                  (first | (exact ⟨(q4.cell (p := ⟨w.heap.size, 0, none⟩) zg).trans g0, (q4.cell (p := ⟨w.heap.size, 1, none⟩) zg).trans g1, (q4.cell (p := ⟨w.heap.size + 1, 0, none⟩) zx).trans c0, (q4.cell (p := ⟨w.heap.size + 1, 1, none⟩) zx).trans c1, (q4.cell (p := ⟨w.heap.size + 1, 2, none⟩) zx).trans c2, (q4.cell (p := ⟨w.heap.size + 1, 3, none⟩) zx).trans c3, (q4.cell (p := ⟨w.heap.size + 1, 4, none⟩) zx).trans c4⟩) | (exact ⟨(q3.cell (p := ⟨w.heap.size, 0, none⟩) zg).trans g0, (q3.cell (p := ⟨w.heap.size, 1, none⟩) zg).trans g1, (q3.cell (p := ⟨w.heap.size + 1, 0, none⟩) zx).trans c0, (q3.cell (p := ⟨w.heap.size + 1, 1, none⟩) zx).trans c1, (q3.cell (p := ⟨w.heap.size + 1, 2, none⟩) zx).trans c2, (q3.cell (p := ⟨w.heap.size + 1, 3, none⟩) zx).trans c3, (q3.cell (p := ⟨w.heap.size + 1, 4, none⟩) zx).trans c4⟩) | (exact ⟨g0, g1, c0, c1, c2, c3, c4⟩) | go_keep)
                  (first | (go_at_call 74; refine (within_any _ _ _ _).mono ?_; rintro e w5 ⟨rfl, hw⟩; subst w5) | (go_at_call 251; refine (roomOf_any _ 3 d b k _ _ _ zs rfl (by exact R2.below q3) hn).mono ?_; rintro e w4 ⟨rfl, p4⟩; have q4 : Below w2.heap.size w2 w4 := Below.andThen q3 p4) | (go_at_call 252; refine (implBlocks_any _ _ _).mono ?_; rintro e w3 ⟨rfl, p3⟩; have q3 : Below w2.heap.size w2 w3 := (Below.refl w2.heap.size w2).drew.trans p3))
                cases hx : inB b 0 (blocksN gn gs - lenC 3 k zs)
                · have HR := hidden (rest_out hs (by omega) hx)
                  go_wp2
                  go_ret
                  exact ⟨ret_int HR.out.symm, (Below.andThen B2 q4)⟩
                · have HR := hidden (rest_in hs hx)
                  go_wp2
                  go_ret
                  exact ⟨ret_int HR.out.symm, (Below.andThen B2 q4)⟩
          · obtain rfl : o = 5 := by omega
            go_enter Tryz.func208, Tryz.ntmps208
            by_cases hl2 : zs.length = 2
            · obtain ⟨hd, hd'⟩ := two_len hl2
              have HQ := hidden (secB_two hl2)
              have HL := hidden hl2
              clear hl2
              go_wp2_with fail
              generalize (w.alloc (.cells #[.int .i64 gn, .int .i64 gs] 25)).alloc (.cells #[.int .i64 5, .int .i64 d, .int .i64 b, .int .i64 k, .slice a zs.length cap] 38) = W0 at hA G X hr' g0 g1 c0 c1 c2 c3 c4 ⊢
              have B0 := hA
              have G0 := G
              have X0 := X
              have R0 := hr'
              clear hA G X hr' hr
              refine (implSecOk_any _ _ _ _ zs rfl R0 hn).mono ?_
              rintro e w1 ⟨rfl, s1⟩
              have B1 := Below.andSame B0 s1
              have G1 := G0.same s1
              have X1 := X0.same s1
              have R1 := R0.same s1
              clear g0 g1 c0 c1 c2 c3 c4
              obtain ⟨g0, g1⟩ := G1.cells2
              obtain ⟨c0, c1, c2, c3, c4⟩ := X1.cells5
              clear B0 G0 X0 R0 s1
              cases hq : secB zs
              · have HR := hidden (rest_bad13 (gn := gn) (gs := gs) (b := b) (two_bad (k := k) hq))
                go_wp2
                go_ret
                exact ⟨ret_int HR.out.symm, B1⟩
              · have hs0 := two_good (k := k) HL.out hq
                go_wp2_with fail
                refine (roomOf_any _ 5 d b k _ _ _ zs rfl R1 hn).mono ?_
                rintro e w2 ⟨rfl, b2⟩
                have B2 := Below.andThen B1 b2
                have G2 := G1.below b2 G1.lt
                have X2 := X1.below b2 X1.lt
                have R2 := R1.below b2
                clear g0 g1 c0 c1 c2 c3 c4
                obtain ⟨g0, g1⟩ := G2.cells2
                obtain ⟨c0, c1, c2, c3, c4⟩ := X2.cells5
                clear B1 G1 X1 R1 b2
                go_wp2_with fail
                refine (within_any _ _ _ _).mono ?_
                rintro e w3 ⟨rfl, hw⟩
                subst w3
                cases hl : inB (lenC 5 k zs) 1 6
                · have HR := hidden (rest_bad13 (gn := gn) (gs := gs) (b := b) (five_never hl))
                  go_wp2
                  go_ret
                  exact ⟨ret_int HR.out.symm, B2⟩
                · have hs : sizeC 5 k zs = true := hs0
                  have hbr := blocksN_range gn gs
                  obtain ⟨hl0, hl1, _⟩ := size_len hs
                  have zg := G2.lt
                  have zx := X2.lt
                  have hwr : IntKind.i64.wrap (blocksN gn gs - lenC 5 k zs) = blocksN gn gs - lenC 5 k zs := IntWalk.i64_in _ (by omega)
                  go_wp2_with fail
                  go_region_held3 (fun w' => w'.cell? ⟨w.heap.size, 0, none⟩ = some (.int .i64 gn) ∧ w'.cell? ⟨w.heap.size, 1, none⟩ = some (.int .i64 gs) ∧ w'.cell? ⟨w.heap.size + 1, 0, none⟩ = some (.int .i64 5) ∧ w'.cell? ⟨w.heap.size + 1, 1, none⟩ = some (.int .i64 d) ∧ w'.cell? ⟨w.heap.size + 1, 2, none⟩ = some (.int .i64 b) ∧ w'.cell? ⟨w.heap.size + 1, 3, none⟩ = some (.int .i64 k) ∧ w'.cell? ⟨w.heap.size + 1, 4, none⟩ = some (.slice a zs.length cap))
                    (first | (exact ⟨(q4.cell (p := ⟨w.heap.size, 0, none⟩) zg).trans g0, (q4.cell (p := ⟨w.heap.size, 1, none⟩) zg).trans g1, (q4.cell (p := ⟨w.heap.size + 1, 0, none⟩) zx).trans c0, (q4.cell (p := ⟨w.heap.size + 1, 1, none⟩) zx).trans c1, (q4.cell (p := ⟨w.heap.size + 1, 2, none⟩) zx).trans c2, (q4.cell (p := ⟨w.heap.size + 1, 3, none⟩) zx).trans c3, (q4.cell (p := ⟨w.heap.size + 1, 4, none⟩) zx).trans c4⟩) | (exact ⟨(q3.cell (p := ⟨w.heap.size, 0, none⟩) zg).trans g0, (q3.cell (p := ⟨w.heap.size, 1, none⟩) zg).trans g1, (q3.cell (p := ⟨w.heap.size + 1, 0, none⟩) zx).trans c0, (q3.cell (p := ⟨w.heap.size + 1, 1, none⟩) zx).trans c1, (q3.cell (p := ⟨w.heap.size + 1, 2, none⟩) zx).trans c2, (q3.cell (p := ⟨w.heap.size + 1, 3, none⟩) zx).trans c3, (q3.cell (p := ⟨w.heap.size + 1, 4, none⟩) zx).trans c4⟩) | (exact ⟨g0, g1, c0, c1, c2, c3, c4⟩) | go_keep)
                    (first | (go_at_call 74; refine (within_any _ _ _ _).mono ?_; rintro e w5 ⟨rfl, hw⟩; subst w5) | (go_at_call 251; refine (roomOf_any _ 5 d b k _ _ _ zs rfl (by exact R2.below q3) hn).mono ?_; rintro e w4 ⟨rfl, p4⟩; have q4 : Below w2.heap.size w2 w4 := Below.andThen q3 p4) | (go_at_call 252; refine (implBlocks_any _ _ _).mono ?_; rintro e w3 ⟨rfl, p3⟩; have q3 : Below w2.heap.size w2 w3 := (Below.refl w2.heap.size w2).drew.trans p3))
                  cases hx : inB b 0 (blocksN gn gs - lenC 5 k zs)
                  · have HR := hidden (rest_out hs (by omega) hx)
                    go_wp2
                    go_ret
                    exact ⟨ret_int HR.out.symm, (Below.andThen B2 q4)⟩
                  · have HR := hidden (rest_in hs hx)
                    go_wp2
                    go_ret
                    exact ⟨ret_int HR.out.symm, (Below.andThen B2 q4)⟩
            · obtain ⟨hd, hd'⟩ := two_len' hl2
              have HR := hidden (rest_bad13 (gn := gn) (gs := gs) (b := b) (two_not (k := k) hl2))
              go_wp2
              go_ret
              exact ⟨ret_int HR.out.symm, hA⟩

set_option maxHeartbeats 3200000 in
theorem implCmdCode_any (w : World) (gn gs : Int) (o d b k : Int) (a : Option Addr) (n cap : Nat) (zs : List Int) (hz : zs.length = n) (hr : Reads .i64 w a zs) (hn : n ≤ 2097152) :
    Calls Tryz.prog 143 #[.agg #[.int .i64 gn, .int .i64 gs], .agg #[.int .i64 o, .int .i64 d, .int .i64 b, .int .i64 k, .slice a n cap]] w fun e w' => e = .returned (.int .i64 (codeC gn gs o d b k zs)) ∧ Below w.heap.size w w' := by
  have hA : Below w.heap.size w ((w.alloc (.cells #[.int .i64 gn, .int .i64 gs] 25)).alloc (.cells #[.int .i64 o, .int .i64 d, .int .i64 b, .int .i64 k, .slice a n cap] 38)) := (new_below w _).alloc (by simp) _
  have G : Box ((w.alloc (.cells #[.int .i64 gn, .int .i64 gs] 25)).alloc (.cells #[.int .i64 o, .int .i64 d, .int .i64 b, .int .i64 k, .slice a n cap] 38)) w.heap.size 25 #[.int .i64 gn, .int .i64 gs] := (Box.new w _ _).below (new_below _ _) (by simp)
  have X : Box ((w.alloc (.cells #[.int .i64 gn, .int .i64 gs] 25)).alloc (.cells #[.int .i64 o, .int .i64 d, .int .i64 b, .int .i64 k, .slice a n cap] 38)) (w.heap.size + 1) 38 #[.int .i64 o, .int .i64 d, .int .i64 b, .int .i64 k, .slice a n cap] := by
    have := Box.new (w.alloc (.cells #[.int .i64 gn, .int .i64 gs] 25)) 38 #[.int .i64 o, .int .i64 d, .int .i64 b, .int .i64 k, .slice a n cap]
    simpa using this
  have hr' := hr.below hA
  subst hz
  obtain ⟨g0, g1⟩ := G.cells2
  obtain ⟨c0, c1, c2, c3, c4⟩ := X.cells5
  go_enter Tryz.func143, Tryz.ntmps143
  go_wp2_with fail
  generalize (w.alloc (.cells #[.int .i64 gn, .int .i64 gs] 25)).alloc (.cells #[.int .i64 o, .int .i64 d, .int .i64 b, .int .i64 k, .slice a zs.length cap] 38) = W0 at hA G X hr' g0 g1 c0 c1 c2 c3 c4 ⊢
  have B0 := hA
  have G0 := G
  have X0 := X
  have R0 := hr'
  clear hA G X hr' hr
  go_wp2_with fail
  refine (implGeoOk_any _ _ _).mono ?_
  rintro e w1 ⟨rfl, b1⟩
  have B1 := Below.andThen B0 b1
  have G1 := G0.below b1 G0.lt
  have X1 := X0.below b1 X0.lt
  have R1 := R0.below b1
  clear g0 g1 c0 c1 c2 c3 c4
  obtain ⟨g0, g1⟩ := G1.cells2
  obtain ⟨c0, c1, c2, c3, c4⟩ := X1.cells5
  clear B0 G0 X0 R0 b1
  cases hg : geoB gn gs
  · have HF := hidden (code_form (b := b) (k := k) (zs := zs) (form_geo (o := o) (d := d) hg))
    go_wp2
    go_ret
    exact ⟨ret_int HF.out.symm, B1⟩
  · skip
    go_wp2_with fail
    refine (opOk_any _ _).mono ?_
    rintro e w2 ⟨rfl, hw⟩
    subst w2
    cases ho : inB o 1 6
    · have HF := hidden (code_form (b := b) (k := k) (zs := zs) (form_op (gn := gn) (gs := gs) (d := d) ho))
      go_wp2
      go_ret
      exact ⟨ret_int HF.out.symm, B1⟩
    · skip
      go_wp2_with fail
      refine (within_any _ _ _ _).mono ?_
      rintro e w3 ⟨rfl, hw⟩
      subst w3
      cases hi : inB d 1 999
      · have HF := hidden (code_form (b := b) (k := k) (zs := zs) (form_id (gn := gn) (gs := gs) (o := o) hi))
        go_wp2
        go_ret
        exact ⟨ret_int HF.out.symm, B1⟩
      · have HC := hidden (code_rest (b := b) (k := k) (zs := zs) (form_all hg ho hi))
        go_wp2_with fail
        refine (roomCode_any _ gn gs o d b k _ _ _ zs rfl R1 hn ho).mono ?_
        rintro e w4 ⟨rfl, b4⟩
        go_wp2
        go_ret
        exact ⟨ret_int HC.out.symm, (Below.andThen B1 b4)⟩

set_option maxHeartbeats 3200000 in
theorem implSpanOf_any (w : World) (gn gs : Int) (o d b k : Int) (a : Option Addr) (n cap : Nat) (zs : List Int) (hz : zs.length = n) (hr : Reads .i64 w a zs) (hn : n ≤ 2097152) :
    Calls Tryz.prog 225 #[.agg #[.int .i64 gn, .int .i64 gs], .agg #[.int .i64 o, .int .i64 d, .int .i64 b, .int .i64 k, .slice a n cap]] w fun e w' => e = .returned (.tuple #[.int .i64 (spanC gn gs o d b k zs).1, .int .i64 (spanC gn gs o d b k zs).2]) ∧ Below w.heap.size w w' := by
  have hA : Below w.heap.size w ((w.alloc (.cells #[.int .i64 gn, .int .i64 gs] 25)).alloc (.cells #[.int .i64 o, .int .i64 d, .int .i64 b, .int .i64 k, .slice a n cap] 38)) := (new_below w _).alloc (by simp) _
  have G : Box ((w.alloc (.cells #[.int .i64 gn, .int .i64 gs] 25)).alloc (.cells #[.int .i64 o, .int .i64 d, .int .i64 b, .int .i64 k, .slice a n cap] 38)) w.heap.size 25 #[.int .i64 gn, .int .i64 gs] := (Box.new w _ _).below (new_below _ _) (by simp)
  have X : Box ((w.alloc (.cells #[.int .i64 gn, .int .i64 gs] 25)).alloc (.cells #[.int .i64 o, .int .i64 d, .int .i64 b, .int .i64 k, .slice a n cap] 38)) (w.heap.size + 1) 38 #[.int .i64 o, .int .i64 d, .int .i64 b, .int .i64 k, .slice a n cap] := by
    have := Box.new (w.alloc (.cells #[.int .i64 gn, .int .i64 gs] 25)) 38 #[.int .i64 o, .int .i64 d, .int .i64 b, .int .i64 k, .slice a n cap]
    simpa using this
  have hr' := hr.below hA
  subst hz
  obtain ⟨g0, g1⟩ := G.cells2
  obtain ⟨c0, c1, c2, c3, c4⟩ := X.cells5
  go_enter Tryz.func225, Tryz.ntmps225
  go_wp2_with fail
  generalize (w.alloc (.cells #[.int .i64 gn, .int .i64 gs] 25)).alloc (.cells #[.int .i64 o, .int .i64 d, .int .i64 b, .int .i64 k, .slice a zs.length cap] 38) = W0 at hA G X hr' g0 g1 c0 c1 c2 c3 c4 ⊢
  have B0 := hA
  have G0 := G
  have X0 := X
  have R0 := hr'
  clear hA G X hr' hr
  go_wp2_with fail
  refine (implCmdCode_any _ gn gs o d b k _ _ _ zs rfl R0 hn).mono ?_
  rintro e w1 ⟨rfl, b1⟩
  have B1 := Below.andThen B0 b1
  have G1 := G0.below b1 G0.lt
  have X1 := X0.below b1 X0.lt
  have R1 := R0.below b1
  clear g0 g1 c0 c1 c2 c3 c4
  obtain ⟨g0, g1⟩ := G1.cells2
  obtain ⟨c0, c1, c2, c3, c4⟩ := X1.cells5
  clear B0 G0 X0 R0 b1
  by_cases hc : codeC gn gs o d b k zs = 0
  · have hcb : (codeC gn gs o d b k zs == 0) = true := by simpa using hc
    by_cases h4 : o = 4
    · subst h4
      have HS := hidden (span_flush hc)
      go_wp2_with fail
      refine (implBlocks_any _ _ _).mono ?_
      rintro e w2 ⟨rfl, b2⟩
      have B2 := Below.andThen B1 b2
      go_wp2
      refine bodyPost_ret (v := .tuple #[.int .i64 0, .int .i64 (blocksN gn gs)]) (by simp [results, Tryz.results225, go_sem]) rfl ?_
      exact ⟨by rw [HS.out], B2⟩
    · have HS := hidden (span_own hc h4)
      obtain ⟨_, hsz, hro⟩ := code_good13 hc
      have hro' : 0 ≤ b ∧ b + lenC o k zs ≤ blocksN gn gs := hro.resolve_left h4
      have hwr : IntKind.i64.wrap (b + lenC o k zs) = b + lenC o k zs := IntWalk.i64_in _ (by have := (size_len hsz).1; have := blocksN_range gn gs; omega)
      have hbr := blocksN_range gn gs
      obtain ⟨hl0, hl1, _⟩ := size_len hsz
      have zg := G1.lt
      have zx := X1.lt
      clear hro
      go_wp2_with fail
      go_region_held3 (fun w' => w'.cell? ⟨w.heap.size, 0, none⟩ = some (.int .i64 gn) ∧ w'.cell? ⟨w.heap.size, 1, none⟩ = some (.int .i64 gs) ∧ w'.cell? ⟨w.heap.size + 1, 0, none⟩ = some (.int .i64 o) ∧ w'.cell? ⟨w.heap.size + 1, 1, none⟩ = some (.int .i64 d) ∧ w'.cell? ⟨w.heap.size + 1, 2, none⟩ = some (.int .i64 b) ∧ w'.cell? ⟨w.heap.size + 1, 3, none⟩ = some (.int .i64 k) ∧ w'.cell? ⟨w.heap.size + 1, 4, none⟩ = some (.slice a zs.length cap))
        (first | (exact ⟨(q2.cell (p := ⟨w.heap.size, 0, none⟩) zg).trans g0, (q2.cell (p := ⟨w.heap.size, 1, none⟩) zg).trans g1, (q2.cell (p := ⟨w.heap.size + 1, 0, none⟩) zx).trans c0, (q2.cell (p := ⟨w.heap.size + 1, 1, none⟩) zx).trans c1, (q2.cell (p := ⟨w.heap.size + 1, 2, none⟩) zx).trans c2, (q2.cell (p := ⟨w.heap.size + 1, 3, none⟩) zx).trans c3, (q2.cell (p := ⟨w.heap.size + 1, 4, none⟩) zx).trans c4⟩) | (exact ⟨g0, g1, c0, c1, c2, c3, c4⟩) | go_keep)
        (first | (go_at_call 251; refine (roomOf_any _ o d b k _ _ _ zs rfl (by exact R1.draw) hn).mono ?_; rintro e w2 ⟨rfl, p2⟩; have q2 : Below w1.heap.size w1 w2 := (Below.refl w1.heap.size w1).drew.trans p2))
      go_wp2
      refine bodyPost_ret (v := .tuple #[.int .i64 b, .int .i64 (b + lenC o k zs)]) (by simp [results, Tryz.results225, go_sem]) rfl ?_
      exact ⟨by rw [HS.out], Below.andThen B1 q2⟩
  · have HS := hidden (span_bad hc)
    go_wp2
    refine bodyPost_ret (v := .tuple #[.int .i64 0, .int .i64 0]) (by simp [results, Tryz.results225, go_sem]) rfl ?_
    exact ⟨by rw [HS.out], B1⟩

set_option maxHeartbeats 3200000 in
theorem implClash_any (w : World) (gn gs o d b k : Int) (a : Option Addr) (n cap : Nat) (zs : List Int) (o2 d2 b2 k2 : Int) (a2 : Option Addr) (n2 cap2 : Nat) (zs2 : List Int) (hz : zs.length = n) (hr : Reads .i64 w a zs) (hn : n ≤ 2097152) (hz2 : zs2.length = n2) (hr2 : Reads .i64 w a2 zs2) (hn2 : n2 ≤ 2097152) :
    Calls Tryz.prog 160 #[.agg #[.int .i64 gn, .int .i64 gs], .agg #[.int .i64 o, .int .i64 d, .int .i64 b, .int .i64 k, .slice a n cap], .agg #[.int .i64 o2, .int .i64 d2, .int .i64 b2, .int .i64 k2, .slice a2 n2 cap2]] w fun e w' => e = .returned (.bool (metC (spanC gn gs o d b k zs) (spanC gn gs o2 d2 b2 k2 zs2))) ∧ Below w.heap.size w w' := by
  have hA : Below w.heap.size w (((w.alloc (.cells #[.int .i64 gn, .int .i64 gs] 25)).alloc (.cells #[.int .i64 o, .int .i64 d, .int .i64 b, .int .i64 k, .slice a n cap] 38)).alloc (.cells #[.int .i64 o2, .int .i64 d2, .int .i64 b2, .int .i64 k2, .slice a2 n2 cap2] 38)) := ((new_below w _).alloc (by simp) _).alloc (by simp; omega) _
  have G : Box (((w.alloc (.cells #[.int .i64 gn, .int .i64 gs] 25)).alloc (.cells #[.int .i64 o, .int .i64 d, .int .i64 b, .int .i64 k, .slice a n cap] 38)).alloc (.cells #[.int .i64 o2, .int .i64 d2, .int .i64 b2, .int .i64 k2, .slice a2 n2 cap2] 38)) w.heap.size 25 #[.int .i64 gn, .int .i64 gs] := ((Box.new w _ _).below (new_below _ _) (by simp)).below (new_below _ _) (by simp; omega)
  have X : Box (((w.alloc (.cells #[.int .i64 gn, .int .i64 gs] 25)).alloc (.cells #[.int .i64 o, .int .i64 d, .int .i64 b, .int .i64 k, .slice a n cap] 38)).alloc (.cells #[.int .i64 o2, .int .i64 d2, .int .i64 b2, .int .i64 k2, .slice a2 n2 cap2] 38)) (w.heap.size + 1) 38 #[.int .i64 o, .int .i64 d, .int .i64 b, .int .i64 k, .slice a n cap] := by
    have := (Box.new (w.alloc (.cells #[.int .i64 gn, .int .i64 gs] 25)) 38 #[.int .i64 o, .int .i64 d, .int .i64 b, .int .i64 k, .slice a n cap]).below (new_below _ (.cells #[.int .i64 o2, .int .i64 d2, .int .i64 b2, .int .i64 k2, .slice a2 n2 cap2] 38)) (by simp)
    simpa using this
  have Y : Box (((w.alloc (.cells #[.int .i64 gn, .int .i64 gs] 25)).alloc (.cells #[.int .i64 o, .int .i64 d, .int .i64 b, .int .i64 k, .slice a n cap] 38)).alloc (.cells #[.int .i64 o2, .int .i64 d2, .int .i64 b2, .int .i64 k2, .slice a2 n2 cap2] 38)) (w.heap.size + 1 + 1) 38 #[.int .i64 o2, .int .i64 d2, .int .i64 b2, .int .i64 k2, .slice a2 n2 cap2] := by
    have := Box.new ((w.alloc (.cells #[.int .i64 gn, .int .i64 gs] 25)).alloc (.cells #[.int .i64 o, .int .i64 d, .int .i64 b, .int .i64 k, .slice a n cap] 38)) 38 #[.int .i64 o2, .int .i64 d2, .int .i64 b2, .int .i64 k2, .slice a2 n2 cap2]
    simpa using this
  have hr' := hr.below hA
  have hr2' := hr2.below hA
  generalize hP : spanC gn gs o d b k zs = P
  generalize hQ : spanC gn gs o2 d2 b2 k2 zs2 = Q
  obtain ⟨p0, p1⟩ := P
  obtain ⟨q0, q1⟩ := Q
  have HP := hidden hP
  have HQ := hidden hQ
  clear hP hQ hr hr2
  obtain ⟨g0, g1⟩ := G.cells2
  obtain ⟨c0, c1, c2, c3, c4⟩ := X.cells5
  go_enter Tryz.func160, Tryz.ntmps160
  go_wp2_with fail
  generalize (((w.alloc (.cells #[.int .i64 gn, .int .i64 gs] 25)).alloc (.cells #[.int .i64 o, .int .i64 d, .int .i64 b, .int .i64 k, .slice a n cap] 38)).alloc (.cells #[.int .i64 o2, .int .i64 d2, .int .i64 b2, .int .i64 k2, .slice a2 n2 cap2] 38)) = W0 at hA G X Y hr' hr2' g0 g1 c0 c1 c2 c3 c4 ⊢
  refine (implSpanOf_any _ gn gs o d b k _ _ _ zs hz hr' hn).mono ?_
  rintro e w1 ⟨rfl, b1⟩
  rw [HP.out]
  have B1 := Below.andThen hA b1
  have G1 := G.below b1 G.lt
  have Y1 := Y.below b1 Y.lt
  have R1 := hr2'.below b1
  clear g0 g1 c0 c1 c2 c3 c4 G X Y hr' hr2' hA b1
  obtain ⟨g0, g1⟩ := G1.cells2
  obtain ⟨c0, c1, c2, c3, c4⟩ := Y1.cells5
  go_wp2_with fail
  refine (implSpanOf_any _ gn gs o2 d2 b2 k2 _ _ _ zs2 hz2 R1 hn2).mono ?_
  rintro e w2 ⟨rfl, b2⟩
  have B2 := Below.andThen B1 b2
  clear g0 g1 c0 c1 c2 c3 c4 G1 Y1 R1 B1 b2
  rw [HQ.out]
  by_cases h1 : p0 < q1
  · by_cases h2 : q0 < p1
    · go_wp2
      go_ret
      exact ⟨ret_bool (by simp [metC, h1, h2]), B2⟩
    · go_wp2
      go_ret
      exact ⟨ret_bool (by simp [metC]; omega), B2⟩
  · go_wp2
    go_ret
    exact ⟨ret_bool (by simp [metC]; omega), B2⟩

end Go.Proofs.YtbkkjfgjlapadaaGreat

/-
  The program's look for a job that clashes: over pointers to where jobs stand. Conditions: at most 2097152 words a command.
-/
namespace Go.Proofs.YtbkkjfgjlapadaaGreat
open Go.RowKit

/-- Pointers to n jobs, that lie from off on in block b, in a row at pb. -/
def Ptrs (w : World) (pb b off n : Nat) : Prop := pb < w.heap.size ∧ ∀ i, i < n → w.cell? ⟨pb, i, none⟩ = some (.pointer (some ⟨b, off + i * 8, none⟩))
theorem Ptrs.below {w w' : World} {pb b off n : Nat} (h : Ptrs w pb b off n) (hb : Below w.heap.size w w') : Ptrs w' pb b off n := ⟨Nat.lt_of_lt_of_le h.1 hb.size, fun i hi => (hb.cell (p := ⟨pb, i, none⟩) h.1).trans (h.2 i hi)⟩

set_option maxHeartbeats 1600000 in
theorem jobClashes_any (w : World) (gn gs : Int) (b off : Nat) (o d1 b1 k o2 d2 b2 k2 : Int) (a0 a2 : Option Addr) (c0 c2 : Nat) (zs zs2 : List Int) (hb : b < w.heap.size) (h0 : w.cell? ⟨b, off, none⟩ = some (.int .i64 o)) (h1 : w.cell? ⟨b, off + 1, none⟩ = some (.int .i64 d1)) (h2 : w.cell? ⟨b, off + 2, none⟩ = some (.int .i64 b1)) (h3 : w.cell? ⟨b, off + 3, none⟩ = some (.int .i64 k)) (h4 : w.cell? ⟨b, off + 4, none⟩ = some (.slice a0 zs.length c0)) (r0 : tIntS.Rd w [.slice a0 zs.length c0] zs) (r2 : tIntS.Rd w [.slice a2 zs2.length c2] zs2) (hz : zs.length ≤ 2097152) (hz2 : zs2.length ≤ 2097152) :
    Calls Tryz.prog 205 #[.pointer (some ⟨b, off, none⟩), .agg #[.int .i64 gn, .int .i64 gs], .agg #[.int .i64 o2, .int .i64 d2, .int .i64 b2, .int .i64 k2, .slice a2 zs2.length c2]] w fun e w' => e = .returned (.bool (metC (spanC gn gs o d1 b1 k zs) (spanC gn gs o2 d2 b2 k2 zs2))) ∧ Below w.heap.size w w' := by
  go_enter Tryz.func205, Tryz.ntmps205
  go_wp2_with fail
  refine seal_new2C ?_
  intro V A X B
  have e0 := (B.cell (p := ⟨b, off, none⟩) hb).trans h0
  have e1 := (B.cell (p := ⟨b, off + 1, none⟩) hb).trans h1
  have e2 := (B.cell (p := ⟨b, off + 2, none⟩) hb).trans h2
  have e3 := (B.cell (p := ⟨b, off + 3, none⟩) hb).trans h3
  have e4 := (B.cell (p := ⟨b, off + 4, none⟩) hb).trans h4
  obtain ⟨k0, k1⟩ := A.cells2
  obtain ⟨l0, l1, l2, l3, l4⟩ := X.cells5
  have hbv : b < V.heap.size := Nat.lt_of_lt_of_le hb B.size
  have q0 := ints_rd (r0.below B)
  have q2 := ints_rd (r2.below B)
  have Q0 := hidden q0.1
  have Q2 := hidden q2.1
  have lA := A.lt
  have lX := X.lt
  clear q0 q2 h0 h1 h2 h3 h4
  go_region_held3 (fun w' => w'.cell? ⟨b, off, none⟩ = some (.int .i64 o) ∧ w'.cell? ⟨b, off + 1, none⟩ = some (.int .i64 d1) ∧ w'.cell? ⟨b, off + 2, none⟩ = some (.int .i64 b1) ∧ w'.cell? ⟨b, off + 3, none⟩ = some (.int .i64 k) ∧ w'.cell? ⟨b, off + 4, none⟩ = some (.slice a0 zs.length c0) ∧ (∀ o, w'.cell? ⟨w.heap.size, o, none⟩ = V.cell? ⟨w.heap.size, o, none⟩) ∧ (∀ o, w'.cell? ⟨w.heap.size + 1, o, none⟩ = V.cell? ⟨w.heap.size + 1, o, none⟩))
    (first | (exact ⟨(hbC.cell (p := ⟨b, off, none⟩) hbv).trans e0, (hbC.cell (p := ⟨b, off + 1, none⟩) hbv).trans e1, (hbC.cell (p := ⟨b, off + 2, none⟩) hbv).trans e2, (hbC.cell (p := ⟨b, off + 3, none⟩) hbv).trans e3, (hbC.cell (p := ⟨b, off + 4, none⟩) hbv).trans e4, fun o => hbC.cell (p := ⟨w.heap.size, o, none⟩) lA, fun o => hbC.cell (p := ⟨w.heap.size + 1, o, none⟩) lX⟩) | (exact ⟨e0, e1, e2, e3, e4, fun _ => rfl, fun _ => rfl⟩) | go_keep)
    (first | (go_at_call 160; refine (implClash_any _ gn gs o d1 b1 k _ _ _ zs o2 d2 b2 k2 _ _ _ zs2 rfl Q0.out.draw hz rfl Q2.out.draw hz2).mono ?_; rintro e wC ⟨rfl, hbC0⟩; have hbC : Below V.heap.size V wC := (Below.refl V.heap.size V).drew.trans hbC0))
  have HB := Below.andThen B hbC
  go_wp2
  go_ret
  exact ⟨rfl, HB⟩

theorem clos15_any (w : World) (gn gs : Int) (b off Bg Bc : Nat) (T T2 : TypeId) (o d1 b1 k o2 d2 b2 k2 : Int) (a0 a2 : Option Addr) (c0 c2 : Nat) (zs zs2 : List Int) (hb : b < w.heap.size) (h0 : w.cell? ⟨b, off, none⟩ = some (.int .i64 o)) (h1 : w.cell? ⟨b, off + 1, none⟩ = some (.int .i64 d1)) (h2 : w.cell? ⟨b, off + 2, none⟩ = some (.int .i64 b1)) (h3 : w.cell? ⟨b, off + 3, none⟩ = some (.int .i64 k)) (h4 : w.cell? ⟨b, off + 4, none⟩ = some (.slice a0 zs.length c0)) (r0 : tIntS.Rd w [.slice a0 zs.length c0] zs) (r2 : tIntS.Rd w [.slice a2 zs2.length c2] zs2) (hz : zs.length ≤ 2097152) (hz2 : zs2.length ≤ 2097152)
    (G : Box w Bg T #[.int .i64 gn, .int .i64 gs]) (C : Box w Bc T2 #[.int .i64 o2, .int .i64 d2, .int .i64 b2, .int .i64 k2, .slice a2 zs2.length c2]) :
    Calls Tryz.prog 204 #[.pointer (some ⟨b, off, none⟩), .pointer (some ⟨Bg, 0, none⟩), .pointer (some ⟨Bc, 0, none⟩)] w fun e w' => e = .returned (.bool (metC (spanC gn gs o d1 b1 k zs) (spanC gn gs o2 d2 b2 k2 zs2))) ∧ Below w.heap.size w w' := by
  obtain ⟨k0, k1⟩ := G.cells2
  obtain ⟨l0, l1, l2, l3, l4⟩ := C.cells5
  go_enter Tryz.func204, Tryz.ntmps204
  go_wp2_with fail
  refine (jobClashes_any _ gn gs b off o d1 b1 k o2 d2 b2 k2 _ _ _ _ zs zs2 hb h0 h1 h2 h3 h4 r0 r2 hz hz2).mono ?_
  rintro e w1 ⟨rfl, b⟩
  go_wp2
  go_ret
  exact ⟨rfl, b⟩

set_option maxHeartbeats 1600000 in
theorem jobIndex_any (w : World) (gn gs : Int) (pb pc n b off cj Bg Bc : Nat) (T T2 : TypeId) (js : List JobD) (o2 d2 b2 k2 : Int) (a2 : Option Addr) (c2 : Nat) (zs2 : List Int) (hP : Ptrs w pb b off n) (hn : n ≤ js.length) (hJ : (tJobS 0).Rd w [.slice (some ⟨b, off, none⟩) js.length cj] js) (hw : wttJobS js ≤ 2097152) (r2 : tIntS.Rd w [.slice a2 zs2.length c2] zs2) (hz2 : zs2.length ≤ 2097152)
    (G : Box w Bg T #[.int .i64 gn, .int .i64 gs]) (C : Box w Bc T2 #[.int .i64 o2, .int .i64 d2, .int .i64 b2, .int .i64 k2, .slice a2 zs2.length c2]) :
    Calls Tryz.prog 250 #[.slice (some ⟨pb, 0, none⟩) n pc, .func (Fn.func 204) #[] #[.pointer (some ⟨Bg, 0, none⟩), .pointer (some ⟨Bc, 0, none⟩)]] w fun e w' => ((e = .returned (.int .i64 (-1)) ∧ ((js.take n).any fun y => clashD gn gs (jobC y) (o2, d2, b2, k2, zs2)) = false) ∨ ∃ j : Nat, j < n ∧ e = .returned (.int .i64 j) ∧ ((js.take n).any fun y => clashD gn gs (jobC y) (o2, d2, b2, k2, zs2)) = true) ∧ Below w.heap.size w w' := by
  have hjl : js.length ≤ 2097152 := by unfold wttJobS at hw; omega
  go_enter Tryz.func250, Tryz.ntmps250
  go_wp2
  go_loopw [8] (fun i wr => ∃ j : Nat, j ≤ n ∧ i = .int .i64 j ∧ ((js.take j).any fun y => clashD gn gs (jobC y) (o2, d2, b2, k2, zs2)) = false ∧ Below w.heap.size w wr) (fun i _ => n - (intOf i).toNat)
  case atStart => exact ⟨0, Nat.zero_le _, rfl, rfl, Below.refl _ _⟩
  case round =>
    obtain ⟨j, hj, rfl, ht, hb⟩ := hrel
    by_cases hlt : j < n
    · rcases jobS_at (hJ.below hb) with h0' | ⟨bb, oo, hbo, hbl, hcs⟩
      · omega
      simp only [Option.some.injEq, Addr.mk.injEq, and_true] at hbo
      obtain ⟨rfl, rfl⟩ := hbo
      obtain ⟨o, d1, b1, k, zs, t1, gs1, q1, hdj⟩ : ∃ o d1 b1 k zs t1 gs1 q1, js[j]? = some (o, d1, b1, k, zs, t1, gs1, q1) := ⟨_, _, _, _, _, _, _, _, List.getElem?_eq_getElem (by omega)⟩
      have hin := job_inner hdj
      have hlen : zs.length ≤ 2097152 := by unfold wttJobS at hw; simp only [wJob] at hin; omega
      obtain ⟨av0, cv0, av1, cv1, hc0, hc1, hc2, hc3, hc4, hc5, hc6, hc7, hr0, hr1⟩ := hcs j o d1 b1 k zs t1 gs1 q1 hdj
      have hp := (hP.below hb).2 j hlt
      have HIT := hidden (any_hit (p := fun y => clashD gn gs (jobC y) (o2, d2, b2, k2, zs2)) (l := js.take n) (j := j) (x := (o, d1, b1, k, zs, t1, gs1, q1)) (by rw [List.getElem?_take, if_pos hlt]; exact hdj))
      have STP := hidden (any_step (p := fun y => clashD gn gs (jobC y) (o2, d2, b2, k2, zs2)) hdj)
      have HT := hidden ht
      have CALL := hidden (clos15_any wr gn gs b (off + j * 8) Bg Bc T T2 o d1 b1 k o2 d2 b2 k2 _ _ _ _ zs zs2 hbl hc0 hc1 hc2 hc3 hc4 hr0 (r2.below hb) hlen hz2 (G.below hb G.lt) (C.below hb C.lt))
      have eq : clashD gn gs (jobC (o, d1, b1, k, zs, t1, gs1, q1)) (o2, d2, b2, k2, zs2) = metC (spanC gn gs o d1 b1 k zs) (spanC gn gs o2 d2 b2 k2 zs2) := rfl
      clear hcs hdj hc0 hc1 hc2 hc3 hc4 hc5 hc6 hc7 hr0 hr1 hin ht
      have EQ := hidden eq
      clear eq
      cases hm : metC (spanC gn gs o d1 b1 k zs) (spanC gn gs o2 d2 b2 k2 zs2)
      · have HS := hidden (STP.out (by rw [EQ.out, hm]) HT.out)
        rw [hm] at CALL
        clear hm
        go_wp2_with fail
        refine CALL.out.mono ?_
        rintro e w1 ⟨rfl, hb1⟩
        have HB := Below.andThen hb hb1
        go_wp2
        go_roundw
        case rel => exact ⟨j + 1, by omega, by go_num, HS.out, HB⟩
        case measure => simp [intOf]; omega
      · have HS := hidden (HIT.out (by rw [EQ.out, hm]))
        rw [hm] at CALL
        clear hm
        go_wp2_with fail
        refine CALL.out.mono ?_
        rintro e w1 ⟨rfl, hb1⟩
        have HB := Below.andThen hb hb1
        go_wp2
        go_ret
        exact ⟨.inr ⟨j, hlt, rfl, HS.out⟩, HB⟩
    · obtain rfl : j = n := by omega
      have HT := hidden ht
      clear ht
      go_wp2
      go_ret
      exact ⟨.inl ⟨rfl, HT.out⟩, hb⟩

theorem jobHas_any (w : World) (gn gs : Int) (pb pc n b off cj Bg Bc : Nat) (T T2 : TypeId) (js : List JobD) (o2 d2 b2 k2 : Int) (a2 : Option Addr) (c2 : Nat) (zs2 : List Int) (hP : Ptrs w pb b off n) (hn : n ≤ js.length) (hJ : (tJobS 0).Rd w [.slice (some ⟨b, off, none⟩) js.length cj] js) (hw : wttJobS js ≤ 2097152) (r2 : tIntS.Rd w [.slice a2 zs2.length c2] zs2) (hz2 : zs2.length ≤ 2097152)
    (G : Box w Bg T #[.int .i64 gn, .int .i64 gs]) (C : Box w Bc T2 #[.int .i64 o2, .int .i64 d2, .int .i64 b2, .int .i64 k2, .slice a2 zs2.length c2]) :
    Calls Tryz.prog 203 #[.slice (some ⟨pb, 0, none⟩) n pc, .func (Fn.func 204) #[] #[.pointer (some ⟨Bg, 0, none⟩), .pointer (some ⟨Bc, 0, none⟩)]] w fun e w' => e = .returned (.bool ((js.take n).any fun y => clashD gn gs (jobC y) (o2, d2, b2, k2, zs2))) ∧ Below w.heap.size w w' := by
  go_enter Tryz.func203, Tryz.ntmps203
  go_wp2_with fail
  refine (jobIndex_any _ gn gs pb pc n b off cj Bg Bc T T2 js o2 d2 b2 k2 _ _ zs2 hP hn hJ hw r2 hz2 G C).mono ?_
  rintro e w1 ⟨⟨rfl, h⟩ | ⟨j, hj, rfl, h⟩, hs⟩
  · have H := hidden h
    clear h
    go_wp2
    go_ret
    exact ⟨ret_bool (by rw [H.out]), hs⟩
  · have H := hidden h
    have j0 : (0 : Int) ≤ (j : Int) := by omega
    clear h
    go_wp2
    go_ret
    exact ⟨ret_bool (by rw [H.out]), hs⟩

theorem clashesAny_any (w : World) (gn gs : Int) (pb pc n b off cj : Nat) (js : List JobD) (o2 d2 b2 k2 : Int) (a2 : Option Addr) (c2 : Nat) (zs2 : List Int) (hP : Ptrs w pb b off n) (hn : n ≤ js.length) (hJ : (tJobS 0).Rd w [.slice (some ⟨b, off, none⟩) js.length cj] js) (hw : wttJobS js ≤ 2097152) (r2 : tIntS.Rd w [.slice a2 zs2.length c2] zs2) (hz2 : zs2.length ≤ 2097152) :
    Calls Tryz.prog 136 #[.agg #[.int .i64 gn, .int .i64 gs], .agg #[.int .i64 o2, .int .i64 d2, .int .i64 b2, .int .i64 k2, .slice a2 zs2.length c2], .slice (some ⟨pb, 0, none⟩) n pc] w fun e w' => e = .returned (.bool ((js.take n).any fun y => clashD gn gs (jobC y) (o2, d2, b2, k2, zs2))) ∧ Below w.heap.size w w' := by
  go_enter Tryz.func136, Tryz.ntmps136
  go_wp2_with fail
  refine seal_new2 ?_
  intro V A X B
  refine (jobHas_any _ gn gs pb pc n b off cj _ _ _ _ js o2 d2 b2 k2 _ _ zs2 (hP.below B) hn (hJ.below B) hw (r2.below B) hz2 A X).mono ?_
  rintro e w1 ⟨rfl, b1⟩
  have HB := Below.andThen B b1
  go_wp2
  go_ret
  exact ⟨rfl, HB⟩

end Go.Proofs.YtbkkjfgjlapadaaGreat

/-
  Rows of plain values: plain lemmas. No condition; nothing of the program is named here.
-/
namespace Go.Proofs.YtbkkjfgjlapadaaGreat
open Go.RowKit

/-- A plain value. -/
abbrev valTy : Ty where
  n := 1
  D := Value
  rd := fun _ vs d fp => vs = [d] ∧ fp = []
  ow := fun _ vs d fp => vs = [d] ∧ fp = []
  owRd := fun h => h
  rdLen := fun h => by rw [h.1]; rfl
  rdLt := fun h => by rw [h.2]; simp
  rdKept := fun h _ _ => h
  owKept := fun h _ _ => h
theorem row_mem12 {t : Ty} {E : TypeId} {w : World} {g n cap : Nat} {d : List t.D} {fp : List Nat} (h : (rowTy t E).Mine w [.slice (some ⟨g, 0, none⟩) n cap] d fp) : g ∈ fp := by
  obtain ⟨h, _⟩ := h
  rcases h with ⟨h1, _⟩ | ⟨b, cap', cur, fps, h1, _, _, _, _, hf, _⟩
  · simp at h1
  · simp at h1
    rw [hf, h1.1]
    simp

theorem val_at {w : World} {E : TypeId} {g n cap k : Nat} {ys : List Value} {v : Value} {fo : List Nat} (h : (rowTy valTy E).Mine w [.slice (some ⟨g, 0, none⟩) n cap] ys fo) (hk : ys[k]? = some v) : w.cell? ⟨g, k, none⟩ = some v ∧ g < w.heap.size := by
  obtain ⟨h, _⟩ := h
  rcases h with ⟨h1, _, _⟩ | ⟨b, cap', cur, fps, h1, h2, h3, h4, h5, h6, h7, h8⟩
  · simp at h1
  · simp only [List.cons.injEq, Value.slice.injEq, Option.some.injEq, Addr.mk.injEq, and_true] at h1
    obtain ⟨rfl, _, rfl⟩ := h1
    obtain ⟨f, _, hv, _⟩ := h8 k v hk
    refine ⟨?_, (Array.getElem?_eq_some_iff.1 h4).1⟩
    rw [cell_of_row w g _ cur _ (0, 0) h4]
    have : ((cur.toList.drop (k * 1)).take 1)[0]? = some v := by rw [hv]; rfl
    rw [List.getElem?_take, if_pos (by omega), List.getElem?_drop] at this
    simpa using this

end Go.Proofs.YtbkkjfgjlapadaaGreat

/-
  The program's pointers to where an engine's jobs stand, whether each job is right, whether there are too many of all. Condition: the jobs weigh at most 2097152.
-/
namespace Go.Proofs.YtbkkjfgjlapadaaGreat
open Go.RowKit

theorem Tryz.infoPtr15 : (Tryz.prog.info? 152).map (fun i => (i.zero, i.size, i.bytes)) = some (some (.pointer none), 1, 8) := by kernel_rfl
def ptrL (b off n : Nat) : List Value := (List.range n).map fun i => .pointer (some ⟨b, off + i * 8, none⟩)
theorem ptrL_len {b off n : Nat} : (ptrL b off n).length = n := by simp [ptrL]
theorem ptrL_at {b off n i : Nat} (h : i < n) : (ptrL b off n)[i]? = some (.pointer (some ⟨b, off + i * 8, none⟩)) := by simp [ptrL, h]
theorem ptrL_step {b off n : Nat} : ptrL b off n ++ [.pointer (some ⟨b, off + n * 8, none⟩)] = ptrL b off (n + 1) := by simp [ptrL, List.range_succ]
theorem ptrs_of {w : World} {E : TypeId} {pb b off n c : Nat} {fp : List Nat} (h : (rowTy valTy E).Mine w [.slice (some ⟨pb, 0, none⟩) n c] (ptrL b off n) fp) : Ptrs w pb b off n := ⟨h.lt _ (row_mem12 h), fun _ hi => (val_at h (ptrL_at hi)).1⟩

set_option maxRecDepth 20000 in
set_option maxHeartbeats 1600000 in
theorem jobs_any (w : World) (B : Nat) (T : TypeId) (l : List Value) (aj : Option Addr) (n c b off : Nat) (X : Box w B T l.toArray) (h14 : l[14]? = some (.slice aj n c)) (hj : aj = some ⟨b, off, none⟩ ∨ n = 0) (hn : n ≤ 1048576) (hc : n ≤ c) :
    Calls Tryz.prog 134 #[.pointer (some ⟨B, 0, none⟩)] w fun e w' => ∃ pb pc, e = .returned (.slice (some ⟨pb, 0, none⟩) n pc) ∧ Ptrs w' pb b off n ∧ n ≤ pc ∧ Below w.heap.size w w' := by
  have x14 : w.cell? ⟨B, 14, none⟩ = some (.slice aj n c) := by rw [X.cell 14]; simpa using h14
  have hBl := X.lt
  obtain ⟨i4, hi4, hz0, hz1, hz2⟩ := info_parts Tryz.infoPtr15
  go_enter Tryz.func134, Tryz.ntmps134
  go_wp2
  have hO : (rowTy valTy 152).Mine (w.alloc (.cells #[] 152)) [.slice (some ⟨w.heap.size, 0, none⟩) 0 0] (ptrL b off 0) [w.heap.size] := lit0_mine w
  have hB0 := new_below w (.cells #[] 152)
  go_loopw [3, 11] (fun pv iv wr => ∃ (j g cap : Nat) (fp : List Nat), j ≤ n ∧ iv = .int .i64 j ∧ pv = .slice (some ⟨g, 0, none⟩) j cap ∧ (rowTy valTy 152).Mine wr [.slice (some ⟨g, 0, none⟩) j cap] (ptrL b off j) fp ∧ (∀ q ∈ fp, w.heap.size ≤ q) ∧ Below w.heap.size w wr) (fun _ iv _ => n - (intOf iv).toNat)
  case atStart => exact ⟨0, _, _, _, Nat.zero_le _, rfl, rfl, hO, by simp, hB0⟩
  case round =>
    clear hO hB0
    obtain ⟨j, g, cap, fp, hjn, rfl, rfl, hM, hfp, hb⟩ := hrel
    by_cases hlt : j < n
    · have x14' := (hb.cell (p := ⟨B, 14, none⟩) hBl).trans x14
      rcases hj with rfl | h0
      · have hA := hM.alloc (.cells #[.pointer (some ⟨b, off + j * 8, none⟩)] 152)
        have hS : (ptrL b off j).length + 1 ≤ maxLen := by rw [ptrL_len]; unfold maxLen; omega
        have hS2 : ((ptrL b off j).length + 1) * 8 ≤ 140737488355328 := by rw [ptrL_len]; omega
        have hv1 : ∀ u ∈ [Value.pointer (some ⟨b, off + j * 8, none⟩)], u.oneCell' = true := by simp [Value.oneCell']
        have hmv : valTy.Mine (wr.alloc (.cells #[.pointer (some ⟨b, off + j * 8, none⟩)] 152)) [.pointer (some ⟨b, off + j * 8, none⟩)] (.pointer (some ⟨b, off + j * 8, none⟩)) [] := ⟨⟨rfl, rfl⟩, by simp⟩
        have hln : (ptrL b off j).length = j := ptrL_len
        have NW := news_new wr #[.pointer (some ⟨b, off + j * 8, none⟩)] 152
        have i1 : (0 : Int) ≤ (j : Int) := by omega
        have i2 : (j : Int) < (n : Int) := by omega
        go_wp2_with (at_builtin; refine wpList_appT valTy rfl _ _ 150 rfl 152 i4 (.pointer none) 8 Tryz.underlying150 hi4 hz0 hz1 hz2 rfl Nat.zero_lt_one _ (ptrL b off j) fp rfl hA _ _ [.pointer (some ⟨b, off + j * 8, none⟩)] _ [] rfl hmv (by simp) NW hv1 hS hS2 ?_; intro v' w' fp' m1 m2 m3)
        rw [ptrL_step] at m1
        obtain ⟨a', c', rfl⟩ := row_shape m1.rd
        rw [ptrL_len] at m1
        obtain ⟨g', rfl⟩ : ∃ g', a' = some ⟨g', 0, none⟩ := (row_ow_shape m1).resolve_left (by omega)
        have HM := hidden m1
        have hT := m3.below (N := w.heap.size) (by have := hb.size; simp; omega) hfp
        have HB := hidden ((hb.alloc hb.size (.cells #[.pointer (some ⟨b, off + j * 8, none⟩)] 152)).trans hT)
        have HF : Hid (∀ q ∈ fp', w.heap.size ≤ q) := fun q hq => by
          have := hb.size
          rcases m2 q hq with h | h | h
          · exact hfp q h
          · simp at h
          · have := h.1; simp at this; omega
        rw [ptrL_len]
        clear m1 m2 m3 hA hmv hM hfp hT hb NW
        go_wp2
        go_roundw
        case rel => exact ⟨j + 1, g', c', fp', by omega, by go_num, rfl, HM.out, HF.out, HB.out⟩
        case measure => simp [intOf]; omega
      · omega
    · obtain rfl : j = n := by omega
      have hle := (row_length hM.rd).2.1
      have HP := hidden (ptrs_of hM)
      clear hM
      go_wp2
      go_ret
      exact ⟨_, _, rfl, HP.out, hle, hb⟩

end Go.Proofs.YtbkkjfgjlapadaaGreat

/-
  The walks of the specification's looks at an array's entries, at the array as a whole, and whether a disk of it lives. Condition: it weighs at most 2097152.
-/
namespace Go.Proofs.YtbkkjfgjlapadaaGreat
open Go.RowKit

theorem entsB_no {x : ArrN} {ds : List (Int × List Int)} {i : Nat} {d : Int × List Int} (hx : ds[i]? = some d) (h : entAt x ds i d = false) : entsB x ds = false := allIx_no hx h
theorem entAt_1 {x : ArrN} {ds : List (Int × List Int)} {i : Nat} {y : Int} {zs : List Int} (h : inB y 0 (x.s - 1) = false) : entAt x ds i (y, zs) = false := by unfold entAt; rw [h]; rfl
theorem entAt_2 {x : ArrN} {ds : List (Int × List Int)} {i : Nat} {y : Int} {zs : List Int} (h : ¬ (zs.length : Int) = x.n - 1) : entAt x ds i (y, zs) = false := by unfold entAt; simp [h]
theorem entAt_3 {x : ArrN} {ds : List (Int × List Int)} {i : Nat} {y : Int} {zs : List Int} (h : allW zs = false) : entAt x ds i (y, zs) = false := by unfold entAt; simp [h]
theorem entAt_4 {x : ArrN} {ds : List (Int × List Int)} {y : Int} {zs : List Int} (h1 : inB y 0 (x.s - 1) = true) (h2 : (zs.length : Int) = x.n - 1) (h3 : allW zs = true) : entAt x ds 0 (y, zs) = true := by unfold entAt; simp [h1, h2, h3]
theorem entAt_5 {x : ArrN} {ds : List (Int × List Int)} {p : Nat} {y : Int} {zs : List Int} {q : Int × List Int} (h1 : inB y 0 (x.s - 1) = true) (h2 : (zs.length : Int) = x.n - 1) (h3 : allW zs = true) (hq : ds[p]? = some q) : entAt x ds (p + 1) (y, zs) = decide (q.1 < y) := by
  unfold entAt
  rw [h1, h3]
  have : ds.getD (p + 1 - 1) (0, []) = q := by rw [Nat.add_sub_cancel, List.getD_eq_getElem?_getD, hq]; rfl
  simp only [h2, decide_true, Bool.true_and, this]
  simp

set_option linter.unusedSimpArgs false in
set_option maxHeartbeats 3200000 in
theorem l6Dirty_any (w : World) (G : TypeId) (x : ArrN) (am ad : Option Addr) (nm cm nd cd : Nat) (ds : List (Int × List Int)) (h0 : (tWrS G).Rd w [.slice ad nd cd] ds) (hw : wtWrS ds ≤ 2097152) (hg : geoB x.n x.s = true) :
    Calls Tryz.prog 158 #[.agg #[.int .i64 x.id, .int .i64 x.n, .int .i64 x.s, .slice am nm cm, .int .i64 x.lost, .int .i64 x.built, .int .i64 x.seq, .int .i64 x.tail, .int .i64 x.gen, .slice ad nd cd, .int .i64 x.fuse, .bool x.down, .bool x.broken]] w fun e w' => e = .returned (.bool (entsB x ds)) ∧ Below w.heap.size w w' := by
  obtain ⟨hl, hc, hm⟩ := row_length h0
  obtain ⟨g1, g2, g3, g4⟩ := geoB_iff.1 hg
  have hA := new_below w (.cells #[.int .i64 x.id, .int .i64 x.n, .int .i64 x.s, .slice am nm cm, .int .i64 x.lost, .int .i64 x.built, .int .i64 x.seq, .int .i64 x.tail, .int .i64 x.gen, .slice ad nd cd, .int .i64 x.fuse, .bool x.down, .bool x.broken] 29)
  have X := Box.new w 29 #[.int .i64 x.id, .int .i64 x.n, .int .i64 x.s, .slice am nm cm, .int .i64 x.lost, .int .i64 x.built, .int .i64 x.seq, .int .i64 x.tail, .int .i64 x.gen, .slice ad nd cd, .int .i64 x.fuse, .bool x.down, .bool x.broken]
  have zA := X.lt
  have hnd : nd ≤ 2097152 := by unfold wtWrS at hw; omega
  have h1 := h0.below hA
  have hws : IntKind.i64.wrap (x.s - 1) = x.s - 1 := IntWalk.i64_in _ (by omega)
  have hwn : IntKind.i64.wrap (x.n - 1) = x.n - 1 := IntWalk.i64_in _ (by omega)
  go_enter Tryz.func158, Tryz.ntmps158
  go_wp2
  generalize w.alloc (.cells #[.int .i64 x.id, .int .i64 x.n, .int .i64 x.s, .slice am nm cm, .int .i64 x.lost, .int .i64 x.built, .int .i64 x.seq, .int .i64 x.tail, .int .i64 x.gen, .slice ad nd cd, .int .i64 x.fuse, .bool x.down, .bool x.broken] 29) = W at hA X zA h1 ⊢
  go_loopw [3] (fun i wr => ∃ j : Nat, j ≤ nd ∧ i = .int .i64 j ∧ (∀ (q : Nat) (d : Int × List Int), q < j → ds[q]? = some d → entAt x ds q d = true) ∧ Below W.heap.size W wr) (fun i _ => nd - (intOf i).toNat)
  case atStart => exact ⟨0, Nat.zero_le _, rfl, fun q d hq => by omega, Below.refl _ _⟩
  case round =>
    obtain ⟨j, hj, rfl, hall, hb⟩ := hrel
    have Xr := X.below hb zA
    obtain ⟨k0, k1, k2, k3, k4, k5, k6, k7, k8, k9, k10, k11, k12⟩ := Xr.cells13
    by_cases hjn : j < nd
    · rcases pairs_at rfl h1 with h0' | ⟨b, off, rfl, hbl, hcs⟩
      · omega
      have hdj : ds[j]? = some (ds[j]'(by omega)) := List.getElem?_eq_getElem (by omega)
      generalize ds[j]'(by omega) = d at hdj
      obtain ⟨v0, v1, hv0, hv1, hrv⟩ := hcs j d hdj
      obtain ⟨rfl, hrw⟩ := wr_rd hrv
      obtain ⟨av, cv, rfl⟩ := row_shape hrw
      obtain ⟨y, zs⟩ := d
      simp only at hv0 hv1 hrw hrv
      have u0 := (hb.cell (p := ⟨b, off + j * 2, none⟩) hbl).trans hv0
      have u1 := (hb.cell (p := ⟨b, off + j * 2 + 1, none⟩) hbl).trans hv1
      have i1 : (0 : Int) ≤ (j : Int) := by omega
      have i2 : (j : Int) < (nd : Int) := by omega
      have hwz : zs.length ≤ 2097152 := Nat.le_trans (inner_le' hdj) hw
      have HDJ := hidden hdj
      have b1 := new_below wr (.cells #[.int .i64 y, .slice av zs.length cv] 162)
      have Y1 := Box.new wr 162 #[.int .i64 y, .slice av zs.length cv]
      have X1 := Xr.below b1 Xr.lt
      have RZ := (ints_rd ((hrw.below hb).below b1)).1
      have B1 := hb.trans (b1.mono hb.size)
      obtain ⟨y0, y1⟩ := Y1.cells2
      obtain ⟨e0, e1, e2, e3, e4, e5, e6, e7, e8, e9, e10, e11, e12⟩ := X1.cells13
      have hq : ∀ (p : Nat) (q : Int × List Int), ds[p]? = some q → (wr.alloc (.cells #[.int .i64 y, .slice av zs.length cv] 162)).cell? ⟨b, off + p * 2, none⟩ = some (.int .i64 q.1) := fun p q hpq => by
        obtain ⟨c0, c1, hc0, hc1, hrc⟩ := hcs p q hpq
        obtain ⟨rfl, _⟩ := wr_rd hrc
        exact (B1.cell (p := ⟨b, off + p * 2, none⟩) hbl).trans hc0
      have HQ := hidden hq
      clear hcs hv0 hv1 hrv hrw hdj hq b1 e0 e3 e4 e5 e6 e7 e8 e10 e11 e12
      cases hI : inB y 0 (x.s - 1)
      · skip
        go_wp2_with fail
        generalize wr.alloc (.cells #[.int .i64 y, .slice av zs.length cv] 162) = w1 at X1 Y1 RZ B1 y0 y1 e1 e2 e9 HQ ⊢
        refine wp_region_held_drew (S := fun w' => w'.cell? ⟨wr.heap.size, 0, none⟩ = some (.int .i64 y) ∧ w'.cell? ⟨wr.heap.size, 1, none⟩ = some (.slice av zs.length cv) ∧ w'.cell? ⟨w.heap.size, 1, none⟩ = some (.int .i64 x.n) ∧ w'.cell? ⟨w.heap.size, 2, none⟩ = some (.int .i64 x.s) ∧ w'.cell? ⟨w.heap.size, 9, none⟩ = some (.slice (some ⟨b, off, none⟩) nd cd)) (by kernel_rfl) ?_ (fun hHeld => ?_)
        · exact ⟨y0, y1, e1, e2, e9⟩
        refine held_t 0 hHeld ?_
        refine held_t 1 hHeld ?_
        refine held_t 2 hHeld ?_
        refine held_t 3 hHeld ?_
        refine held_t 4 hHeld ?_
        refine held_t 5 hHeld ?_
        refine held_one (i := 6) (by kernel_rfl) rfl (by kernel_rfl) (fun K hK => ?_)
        go_simp
        refine (l1In_any _ _ _ _).mono ?_
        rintro e w2 ⟨rfl, hw2⟩
        subst hw2
        rw [hI]
        go_wp2_with fail
        clear hHeld
        refine hK.out _ _ ?_ (fun hHeld => ?_)
        · exact ⟨y0, y1, e1, e2, e9⟩
        clear hK K
        refine held_t 7 hHeld ?_
        refine held_t 8 hHeld ?_
        refine held_p 9 hHeld ?_
        refine held_p 10 hHeld ?_
        refine held_p 11 hHeld ?_
        refine held_p 12 hHeld ?_
        refine held_p 13 hHeld ?_
        refine held_p 14 hHeld ?_
        refine held_p 15 hHeld ?_
        refine held_p 16 hHeld ?_
        refine held_t 17 hHeld ?_
        refine held_t 18 hHeld ?_
        refine held_p 19 hHeld ?_
        refine held_p 20 hHeld ?_
        refine held_none (i := 21) (by kernel_rfl) rfl (by kernel_rfl) hHeld ?_
        simp only [Act.put, List.setIfInBounds_toArray, List.set_cons_zero, List.set_cons_succ]
        refine held_p 22 hHeld ?_
        refine held_t 23 hHeld ?_
        refine held_t 24 hHeld ?_
        refine held_p 25 hHeld ?_
        refine held_p 26 hHeld ?_
        refine held_p 27 hHeld ?_
        refine held_p 28 hHeld ?_
        refine held_p 29 hHeld ?_
        refine held_p 30 hHeld ?_
        refine held_p 31 hHeld ?_
        refine held_p 32 hHeld ?_
        refine held_p 33 hHeld ?_
        refine held_p 34 hHeld ?_
        refine held_p 35 hHeld ?_
        refine held_p 36 hHeld ?_
        refine held_p 37 hHeld ?_
        refine held_p 38 hHeld ?_
        refine held_t 39 hHeld ?_
        refine wpAnyH_done (by kernel_rfl) ?_ _
        clear hHeld
        have HB := hidden (hA.trans (B1.drew.mono hA.size))
        have HE := hidden (entsB_no (x := x) HDJ.out (entAt_1 hI))
        go_wp2
        go_ret
        exact ⟨ret_bool HE.out.symm, HB.out⟩
      · by_cases hL : (zs.length : Int) = x.n - 1
        · have hL1 : ((zs.length : Int) == x.n - 1) = true := by simpa using hL
          have hL2 : ((zs.length : Int) != x.n - 1) = false := by simpa using hL
          have HL := hidden hL
          clear hL
          cases hZ : allW zs
          · skip
            go_wp2_with fail
            generalize wr.alloc (.cells #[.int .i64 y, .slice av zs.length cv] 162) = w1 at X1 Y1 RZ B1 y0 y1 e1 e2 e9 HQ ⊢
            refine wp_region_held_drew (S := fun w' => w'.cell? ⟨wr.heap.size, 0, none⟩ = some (.int .i64 y) ∧ w'.cell? ⟨wr.heap.size, 1, none⟩ = some (.slice av zs.length cv) ∧ w'.cell? ⟨w.heap.size, 1, none⟩ = some (.int .i64 x.n) ∧ w'.cell? ⟨w.heap.size, 2, none⟩ = some (.int .i64 x.s) ∧ w'.cell? ⟨w.heap.size, 9, none⟩ = some (.slice (some ⟨b, off, none⟩) nd cd)) (by kernel_rfl) ?_ (fun hHeld => ?_)
            · exact ⟨y0, y1, e1, e2, e9⟩
            refine held_t 0 hHeld ?_
            refine held_t 1 hHeld ?_
            refine held_t 2 hHeld ?_
            refine held_t 3 hHeld ?_
            refine held_t 4 hHeld ?_
            refine held_t 5 hHeld ?_
            refine held_one (i := 6) (by kernel_rfl) rfl (by kernel_rfl) (fun K hK => ?_)
            go_simp
            refine (l1In_any _ _ _ _).mono ?_
            rintro e w2 ⟨rfl, hw2⟩
            subst hw2
            rw [hI]
            go_wp2_with fail
            clear hHeld
            refine hK.out _ _ ?_ (fun hHeld => ?_)
            · exact ⟨y0, y1, e1, e2, e9⟩
            clear hK K
            refine held_t 7 hHeld ?_
            refine held_t 8 hHeld ?_
            refine held_t 9 hHeld ?_
            refine held_t 10 hHeld ?_
            refine held_t 11 hHeld ?_
            refine held_t 12 hHeld ?_
            refine held_t 13 hHeld ?_
            refine held_t 14 hHeld ?_
            refine held_t 15 hHeld ?_
            refine held_t 16 hHeld ?_
            refine held_t 17 hHeld ?_
            refine held_t 18 hHeld ?_
            refine held_t 19 hHeld ?_
            refine held_t 20 hHeld ?_
            refine held_one (i := 21) (by kernel_rfl) rfl (by kernel_rfl) (fun K hK => ?_)
            go_simp
            refine (l1Words_any _ _ _ _ zs rfl RZ.draw hwz).mono ?_
            rintro e w2 ⟨rfl, hw2⟩
            subst hw2
            rw [hZ]
            go_wp2_with fail
            clear hHeld
            refine hK.out _ _ ?_ (fun hHeld => ?_)
            · exact ⟨y0, y1, e1, e2, e9⟩
            clear hK K
            refine held_t 22 hHeld ?_
            refine held_t 23 hHeld ?_
            refine held_t 24 hHeld ?_
            refine held_p 25 hHeld ?_
            refine held_p 26 hHeld ?_
            refine held_p 27 hHeld ?_
            refine held_p 28 hHeld ?_
            refine held_p 29 hHeld ?_
            refine held_p 30 hHeld ?_
            refine held_p 31 hHeld ?_
            refine held_p 32 hHeld ?_
            refine held_p 33 hHeld ?_
            refine held_p 34 hHeld ?_
            refine held_p 35 hHeld ?_
            refine held_p 36 hHeld ?_
            refine held_p 37 hHeld ?_
            refine held_p 38 hHeld ?_
            refine held_t 39 hHeld ?_
            refine wpAnyH_done (by kernel_rfl) ?_ _
            clear hHeld
            have HB := hidden (hA.trans (B1.drew.mono hA.size))
            have HE := hidden (entsB_no (x := x) HDJ.out (entAt_3 hZ))
            go_wp2
            go_ret
            exact ⟨ret_bool HE.out.symm, HB.out⟩
          · by_cases hj0 : j = 0
            · subst hj0
              simp only [Nat.zero_mul, Nat.add_zero] at u0 u1
              go_wp2_with fail
              generalize wr.alloc (.cells #[.int .i64 y, .slice av zs.length cv] 162) = w1 at X1 Y1 RZ B1 y0 y1 e1 e2 e9 HQ ⊢
              refine wp_region_held_drew (S := fun w' => w'.cell? ⟨wr.heap.size, 0, none⟩ = some (.int .i64 y) ∧ w'.cell? ⟨wr.heap.size, 1, none⟩ = some (.slice av zs.length cv) ∧ w'.cell? ⟨w.heap.size, 1, none⟩ = some (.int .i64 x.n) ∧ w'.cell? ⟨w.heap.size, 2, none⟩ = some (.int .i64 x.s) ∧ w'.cell? ⟨w.heap.size, 9, none⟩ = some (.slice (some ⟨b, off, none⟩) nd cd)) (by kernel_rfl) ?_ (fun hHeld => ?_)
              · exact ⟨y0, y1, e1, e2, e9⟩
              refine held_t 0 hHeld ?_
              refine held_t 1 hHeld ?_
              refine held_t 2 hHeld ?_
              refine held_t 3 hHeld ?_
              refine held_t 4 hHeld ?_
              refine held_t 5 hHeld ?_
              refine held_one (i := 6) (by kernel_rfl) rfl (by kernel_rfl) (fun K hK => ?_)
              go_simp
              refine (l1In_any _ _ _ _).mono ?_
              rintro e w2 ⟨rfl, hw2⟩
              subst hw2
              rw [hI]
              go_wp2_with fail
              clear hHeld
              refine hK.out _ _ ?_ (fun hHeld => ?_)
              · exact ⟨y0, y1, e1, e2, e9⟩
              clear hK K
              refine held_t 7 hHeld ?_
              refine held_t 8 hHeld ?_
              refine held_t 9 hHeld ?_
              refine held_t 10 hHeld ?_
              refine held_t 11 hHeld ?_
              refine held_t 12 hHeld ?_
              refine held_t 13 hHeld ?_
              refine held_t 14 hHeld ?_
              refine held_t 15 hHeld ?_
              refine held_t 16 hHeld ?_
              refine held_t 17 hHeld ?_
              refine held_t 18 hHeld ?_
              refine held_t 19 hHeld ?_
              refine held_t 20 hHeld ?_
              refine held_one (i := 21) (by kernel_rfl) rfl (by kernel_rfl) (fun K hK => ?_)
              go_simp
              refine (l1Words_any _ _ _ _ zs rfl RZ.draw hwz).mono ?_
              rintro e w2 ⟨rfl, hw2⟩
              subst hw2
              rw [hZ]
              go_wp2_with fail
              clear hHeld
              refine hK.out _ _ ?_ (fun hHeld => ?_)
              · exact ⟨y0, y1, e1, e2, e9⟩
              clear hK K
              refine held_t 22 hHeld ?_
              refine held_t 23 hHeld ?_
              refine held_t 24 hHeld ?_
              refine held_t 25 hHeld ?_
              refine held_t 26 hHeld ?_
              refine held_t 27 hHeld ?_
              refine held_p 28 hHeld ?_
              refine held_p 29 hHeld ?_
              refine held_p 30 hHeld ?_
              refine held_p 31 hHeld ?_
              refine held_p 32 hHeld ?_
              refine held_p 33 hHeld ?_
              refine held_p 34 hHeld ?_
              refine held_p 35 hHeld ?_
              refine held_p 36 hHeld ?_
              refine held_p 37 hHeld ?_
              refine held_t 38 hHeld ?_
              refine held_t 39 hHeld ?_
              refine wpAnyH_done (by kernel_rfl) ?_ _
              clear hHeld
              have HB := hidden B1.drew
              have hat : entAt x ds (0) (y, zs) = true := entAt_4 hI HL.out hZ
              go_wp2
              go_roundw
              case rel => exact ⟨0 + 1, by omega, by go_num, fun q d hq hm' => by
                  rcases Nat.lt_or_ge q (0) with h | h
                  · exact hall q d h hm'
                  · obtain rfl : q = 0 := by omega
                    rw [HDJ.out] at hm'
                    cases hm'
                    exact hat, HB.out⟩
              case measure => simp [intOf]; omega
            · obtain ⟨p, rfl⟩ : ∃ p, j = p + 1 := ⟨j - 1, by omega⟩
              have hpq : ds[p]? = some (ds[p]'(by omega)) := List.getElem?_eq_getElem (by omega)
              generalize ds[p]'(by omega) = q at hpq
              have hE := entAt_5 hI HL.out hZ hpq
              have qc := HQ.out p q hpq
              obtain ⟨s, zq⟩ := q
              simp only at qc hE
              have HE5 := hidden hE
              clear hpq hE
              have j1 : IntKind.i64.wrap (((p + 1 : Nat) : Int) - 1) = (p : Int) := by rw [IntWalk.i64_in _ (by omega)]; omega
              have j2 : IntKind.i64.wrap ((p : Int) + 1 - 1) = (p : Int) := by rw [IntWalk.i64_in _ (by omega)]; omega
              have j3 : IntKind.i64.wrap (p : Int) = (p : Int) := IntWalk.i64_in _ (by omega)
              have j4 : (0 : Int) ≤ (p : Int) := by omega
              have j5 : (p : Int) < (nd : Int) := by omega
              have j6 : (0 : Int) < ((p + 1 : Nat) : Int) := by omega
              by_cases hlt : s < y
              · have hd1 : decide (s < y) = true := by simpa using hlt
                have hge : ¬ y ≤ s := by omega
                go_wp2_with fail
                generalize wr.alloc (.cells #[.int .i64 y, .slice av zs.length cv] 162) = w1 at X1 Y1 RZ B1 y0 y1 e1 e2 e9 HQ qc ⊢
                refine wp_region_held_drew (S := fun w' => w'.cell? ⟨wr.heap.size, 0, none⟩ = some (.int .i64 y) ∧ w'.cell? ⟨wr.heap.size, 1, none⟩ = some (.slice av zs.length cv) ∧ w'.cell? ⟨w.heap.size, 1, none⟩ = some (.int .i64 x.n) ∧ w'.cell? ⟨w.heap.size, 2, none⟩ = some (.int .i64 x.s) ∧ w'.cell? ⟨w.heap.size, 9, none⟩ = some (.slice (some ⟨b, off, none⟩) nd cd) ∧ w'.cell? ⟨b, off + p * 2, none⟩ = some (.int .i64 s)) (by kernel_rfl) ?_ (fun hHeld => ?_)
                · exact ⟨y0, y1, e1, e2, e9, qc⟩
                refine held_t 0 hHeld ?_
                refine held_t 1 hHeld ?_
                refine held_t 2 hHeld ?_
                refine held_t 3 hHeld ?_
                refine held_t 4 hHeld ?_
                refine held_t 5 hHeld ?_
                refine held_one (i := 6) (by kernel_rfl) rfl (by kernel_rfl) (fun K hK => ?_)
                go_simp
                refine (l1In_any _ _ _ _).mono ?_
                rintro e w2 ⟨rfl, hw2⟩
                subst hw2
                rw [hI]
                go_wp2_with fail
                clear hHeld
                refine hK.out _ _ ?_ (fun hHeld => ?_)
                · exact ⟨y0, y1, e1, e2, e9, qc⟩
                clear hK K
                refine held_t 7 hHeld ?_
                refine held_t 8 hHeld ?_
                refine held_t 9 hHeld ?_
                refine held_t 10 hHeld ?_
                refine held_t 11 hHeld ?_
                refine held_t 12 hHeld ?_
                refine held_t 13 hHeld ?_
                refine held_t 14 hHeld ?_
                refine held_t 15 hHeld ?_
                refine held_t 16 hHeld ?_
                refine held_t 17 hHeld ?_
                refine held_t 18 hHeld ?_
                refine held_t 19 hHeld ?_
                refine held_t 20 hHeld ?_
                refine held_one (i := 21) (by kernel_rfl) rfl (by kernel_rfl) (fun K hK => ?_)
                go_simp
                refine (l1Words_any _ _ _ _ zs rfl RZ.draw hwz).mono ?_
                rintro e w2 ⟨rfl, hw2⟩
                subst hw2
                rw [hZ]
                go_wp2_with fail
                clear hHeld
                refine hK.out _ _ ?_ (fun hHeld => ?_)
                · exact ⟨y0, y1, e1, e2, e9, qc⟩
                clear hK K
                refine held_t 22 hHeld ?_
                refine held_t 23 hHeld ?_
                refine held_t 24 hHeld ?_
                refine held_t 25 hHeld ?_
                refine held_t 26 hHeld ?_
                refine held_t 27 hHeld ?_
                refine held_t 28 hHeld ?_
                refine held_t 29 hHeld ?_
                refine held_t 30 hHeld ?_
                refine held_t 31 hHeld ?_
                refine held_t 32 hHeld ?_
                refine held_t 33 hHeld ?_
                refine held_t 34 hHeld ?_
                refine held_t 35 hHeld ?_
                refine held_t 36 hHeld ?_
                refine held_t 37 hHeld ?_
                refine held_t 38 hHeld ?_
                refine held_t 39 hHeld ?_
                refine wpAnyH_done (by kernel_rfl) ?_ _
                clear hHeld
                have HB := hidden B1.drew
                have hat : entAt x ds (p + 1) (y, zs) = true := HE5.out.trans hd1
                go_wp2
                go_roundw
                case rel => exact ⟨p + 1 + 1, by omega, by go_num, fun q d hq hm' => by
                    rcases Nat.lt_or_ge q (p + 1) with h | h
                    · exact hall q d h hm'
                    · obtain rfl : q = p + 1 := by omega
                      rw [HDJ.out] at hm'
                      cases hm'
                      exact hat, HB.out⟩
                case measure => simp [intOf]; omega
              · have hd1 : decide (s < y) = false := by simpa using hlt
                have hge : y ≤ s := by omega
                go_wp2_with fail
                generalize wr.alloc (.cells #[.int .i64 y, .slice av zs.length cv] 162) = w1 at X1 Y1 RZ B1 y0 y1 e1 e2 e9 HQ qc ⊢
                refine wp_region_held_drew (S := fun w' => w'.cell? ⟨wr.heap.size, 0, none⟩ = some (.int .i64 y) ∧ w'.cell? ⟨wr.heap.size, 1, none⟩ = some (.slice av zs.length cv) ∧ w'.cell? ⟨w.heap.size, 1, none⟩ = some (.int .i64 x.n) ∧ w'.cell? ⟨w.heap.size, 2, none⟩ = some (.int .i64 x.s) ∧ w'.cell? ⟨w.heap.size, 9, none⟩ = some (.slice (some ⟨b, off, none⟩) nd cd) ∧ w'.cell? ⟨b, off + p * 2, none⟩ = some (.int .i64 s)) (by kernel_rfl) ?_ (fun hHeld => ?_)
                · exact ⟨y0, y1, e1, e2, e9, qc⟩
                refine held_t 0 hHeld ?_
                refine held_t 1 hHeld ?_
                refine held_t 2 hHeld ?_
                refine held_t 3 hHeld ?_
                refine held_t 4 hHeld ?_
                refine held_t 5 hHeld ?_
                refine held_one (i := 6) (by kernel_rfl) rfl (by kernel_rfl) (fun K hK => ?_)
                go_simp
                refine (l1In_any _ _ _ _).mono ?_
                rintro e w2 ⟨rfl, hw2⟩
                subst hw2
                rw [hI]
                go_wp2_with fail
                clear hHeld
                refine hK.out _ _ ?_ (fun hHeld => ?_)
                · exact ⟨y0, y1, e1, e2, e9, qc⟩
                clear hK K
                refine held_t 7 hHeld ?_
                refine held_t 8 hHeld ?_
                refine held_t 9 hHeld ?_
                refine held_t 10 hHeld ?_
                refine held_t 11 hHeld ?_
                refine held_t 12 hHeld ?_
                refine held_t 13 hHeld ?_
                refine held_t 14 hHeld ?_
                refine held_t 15 hHeld ?_
                refine held_t 16 hHeld ?_
                refine held_t 17 hHeld ?_
                refine held_t 18 hHeld ?_
                refine held_t 19 hHeld ?_
                refine held_t 20 hHeld ?_
                refine held_one (i := 21) (by kernel_rfl) rfl (by kernel_rfl) (fun K hK => ?_)
                go_simp
                refine (l1Words_any _ _ _ _ zs rfl RZ.draw hwz).mono ?_
                rintro e w2 ⟨rfl, hw2⟩
                subst hw2
                rw [hZ]
                go_wp2_with fail
                clear hHeld
                refine hK.out _ _ ?_ (fun hHeld => ?_)
                · exact ⟨y0, y1, e1, e2, e9, qc⟩
                clear hK K
                refine held_t 22 hHeld ?_
                refine held_t 23 hHeld ?_
                refine held_t 24 hHeld ?_
                refine held_t 25 hHeld ?_
                refine held_t 26 hHeld ?_
                refine held_t 27 hHeld ?_
                refine held_t 28 hHeld ?_
                refine held_t 29 hHeld ?_
                refine held_t 30 hHeld ?_
                refine held_t 31 hHeld ?_
                refine held_t 32 hHeld ?_
                refine held_t 33 hHeld ?_
                refine held_t 34 hHeld ?_
                refine held_t 35 hHeld ?_
                refine held_t 36 hHeld ?_
                refine held_t 37 hHeld ?_
                refine held_t 38 hHeld ?_
                refine held_t 39 hHeld ?_
                refine wpAnyH_done (by kernel_rfl) ?_ _
                clear hHeld
                have HB := hidden (hA.trans (B1.drew.mono hA.size))
                have HE := hidden (entsB_no (x := x) HDJ.out (HE5.out.trans hd1))
                go_wp2
                go_ret
                exact ⟨ret_bool HE.out.symm, HB.out⟩
        · have hL1 : ((zs.length : Int) == x.n - 1) = false := by simpa using hL
          have hL2 : ((zs.length : Int) != x.n - 1) = true := by simpa using hL
          have HL := hidden hL
          clear hL
          go_wp2_with fail
          generalize wr.alloc (.cells #[.int .i64 y, .slice av zs.length cv] 162) = w1 at X1 Y1 RZ B1 y0 y1 e1 e2 e9 HQ ⊢
          refine wp_region_held_drew (S := fun w' => w'.cell? ⟨wr.heap.size, 0, none⟩ = some (.int .i64 y) ∧ w'.cell? ⟨wr.heap.size, 1, none⟩ = some (.slice av zs.length cv) ∧ w'.cell? ⟨w.heap.size, 1, none⟩ = some (.int .i64 x.n) ∧ w'.cell? ⟨w.heap.size, 2, none⟩ = some (.int .i64 x.s) ∧ w'.cell? ⟨w.heap.size, 9, none⟩ = some (.slice (some ⟨b, off, none⟩) nd cd)) (by kernel_rfl) ?_ (fun hHeld => ?_)
          · exact ⟨y0, y1, e1, e2, e9⟩
          refine held_t 0 hHeld ?_
          refine held_t 1 hHeld ?_
          refine held_t 2 hHeld ?_
          refine held_t 3 hHeld ?_
          refine held_t 4 hHeld ?_
          refine held_t 5 hHeld ?_
          refine held_one (i := 6) (by kernel_rfl) rfl (by kernel_rfl) (fun K hK => ?_)
          go_simp
          refine (l1In_any _ _ _ _).mono ?_
          rintro e w2 ⟨rfl, hw2⟩
          subst hw2
          rw [hI]
          go_wp2_with fail
          clear hHeld
          refine hK.out _ _ ?_ (fun hHeld => ?_)
          · exact ⟨y0, y1, e1, e2, e9⟩
          clear hK K
          refine held_t 7 hHeld ?_
          refine held_t 8 hHeld ?_
          refine held_t 9 hHeld ?_
          refine held_t 10 hHeld ?_
          refine held_t 11 hHeld ?_
          refine held_t 12 hHeld ?_
          refine held_t 13 hHeld ?_
          refine held_t 14 hHeld ?_
          refine held_t 15 hHeld ?_
          refine held_t 16 hHeld ?_
          refine held_t 17 hHeld ?_
          refine held_t 18 hHeld ?_
          refine held_p 19 hHeld ?_
          refine held_p 20 hHeld ?_
          refine held_none (i := 21) (by kernel_rfl) rfl (by kernel_rfl) hHeld ?_
          simp only [Act.put, List.setIfInBounds_toArray, List.set_cons_zero, List.set_cons_succ]
          refine held_p 22 hHeld ?_
          refine held_t 23 hHeld ?_
          refine held_t 24 hHeld ?_
          refine held_p 25 hHeld ?_
          refine held_p 26 hHeld ?_
          refine held_p 27 hHeld ?_
          refine held_p 28 hHeld ?_
          refine held_p 29 hHeld ?_
          refine held_p 30 hHeld ?_
          refine held_p 31 hHeld ?_
          refine held_p 32 hHeld ?_
          refine held_p 33 hHeld ?_
          refine held_p 34 hHeld ?_
          refine held_p 35 hHeld ?_
          refine held_p 36 hHeld ?_
          refine held_p 37 hHeld ?_
          refine held_p 38 hHeld ?_
          refine held_t 39 hHeld ?_
          refine wpAnyH_done (by kernel_rfl) ?_ _
          clear hHeld
          have HB := hidden (hA.trans (B1.drew.mono hA.size))
          have HE := hidden (entsB_no (x := x) HDJ.out (entAt_2 HL.out))
          go_wp2
          go_ret
          exact ⟨ret_bool HE.out.symm, HB.out⟩
    · have ej : j = nd := by omega
      subst ej
      have hAll : entsB x ds = true := allIx_iff.2 (fun q d hq => hall q d (by have := (List.getElem?_eq_some_iff.1 hq).1; omega) hq)
      have HB := hidden (hA.trans (hb.mono hA.size))
      go_wp2
      go_ret
      exact ⟨ret_bool hAll.symm, HB.out⟩

end Go.Proofs.YtbkkjfgjlapadaaGreat

/-
  The walk of the program's MemOk: whether a disk is right. Condition: it weighs at most 2097152.
-/
namespace Go.Proofs.YtbkkjfgjlapadaaGreat
open Go.RowKit

theorem hasSec_any (w : World) (a0 : Option Addr) (n0 c0 : Nat) (v1 v2 v3 : Value) (x : Int) :
    Calls Tryz.prog 244 #[.agg #[.slice a0 n0 c0, v1, v2, v3], .int .i64 x] w fun e w' => e = .returned (.bool (inB x 0 ((n0 : Int) - 1))) ∧ Below w.heap.size w w' := by
  have hA : Below w.heap.size w (w.alloc (.cells #[.slice a0 n0 c0, v1, v2, v3] 147)) := (Below.refl _ _).alloc (Nat.le_refl _) _
  have hcell : (w.alloc (.cells #[.slice a0 n0 c0, v1, v2, v3] 147)).cell? ⟨w.heap.size, 0, none⟩ = some (.slice a0 n0 c0) := by
    rw [cell_of_row _ w.heap.size 0 _ _ (0, 0) (heap_alloc_new w _)]
    rfl
  by_cases h0 : 0 ≤ x
  · by_cases h1 : x < (n0 : Int)
    · go_enter Tryz.func244, Tryz.ntmps244
      go_wp2
      go_ret
      exact ⟨ret_bool (by symm; unfold inB; simp; omega), hA⟩
    · go_enter Tryz.func244, Tryz.ntmps244
      go_wp2
      go_ret
      exact ⟨ret_bool (by symm; unfold inB; simp; omega), hA⟩
  · go_enter Tryz.func244, Tryz.ntmps244
    go_wp2
    go_ret
    exact ⟨ret_bool (by symm; unfold inB; simp; omega), hA⟩

set_option maxHeartbeats 1600000 in
theorem badOk_any (w : World) (a0 : Option Addr) (n0 c0 : Nat) (v1 v2 : Value) (a3 : Option Addr) (n3 c3 : Nat) (bs : List Int) (h3 : tIntS.Rd w [.slice a3 n3 c3] bs) :
    Calls Tryz.prog 248 #[.agg #[.slice a0 n0 c0, v1, v2, .slice a3 n3 c3]] w fun e w' => e = .returned (.bool (badB n0 bs)) ∧ Below w.heap.size w w' := by
  obtain ⟨hl3, _, hm3⟩ := row_length h3
  have hA : Below w.heap.size w (w.alloc (.cells #[.slice a0 n0 c0, v1, v2, .slice a3 n3 c3] 147)) := (Below.refl _ _).alloc (Nat.le_refl _) _
  have hcell : ∀ j v, (#[Value.slice a0 n0 c0, v1, v2, .slice a3 n3 c3])[j]? = some v → (w.alloc (.cells #[.slice a0 n0 c0, v1, v2, .slice a3 n3 c3] 147)).cell? ⟨w.heap.size, j, none⟩ = some v := by
    intro j v hv
    rw [cell_of_row _ w.heap.size j _ _ (0, 0) (heap_alloc_new w _)]
    exact hv
  have k0 := hcell 0 _ rfl
  have k1 := hcell 1 _ rfl
  have k2 := hcell 2 _ rfl
  have k3 := hcell 3 _ rfl
  have g3 := h3.below hA
  have hz : w.heap.size < (w.alloc (.cells #[.slice a0 n0 c0, v1, v2, .slice a3 n3 c3] 147)).heap.size := by simp
  go_enter Tryz.func248, Tryz.ntmps248
  go_wp2
  generalize hW : w.alloc (.cells #[.slice a0 n0 c0, v1, v2, .slice a3 n3 c3] 147) = W at hA k0 k1 k2 k3 g3 hz ⊢
  clear hW hcell h3
  go_loopw [8] (fun i wr => ∃ i3 : Nat, i3 ≤ n3 ∧ i = .int .i64 i3 ∧ (List.range i3).all (badAt n0 bs) = true ∧ Below W.heap.size W wr) (fun i _ => n3 - (intOf i).toNat)
  case atStart => exact ⟨0, Nat.zero_le _, rfl, rfl, Below.refl _ _⟩
  case round =>
    obtain ⟨i3, hi3, rfl, ht, hs⟩ := hrel
    have q0 := (hs.cell (p := ⟨w.heap.size, 0, none⟩) hz).trans k0
    have q1 := (hs.cell (p := ⟨w.heap.size, 1, none⟩) hz).trans k1
    have q2 := (hs.cell (p := ⟨w.heap.size, 2, none⟩) hz).trans k2
    have q3 := (hs.cell (p := ⟨w.heap.size, 3, none⟩) hz).trans k3
    have hzr : w.heap.size < wr.heap.size := Nat.lt_of_lt_of_le hz hs.size
    by_cases hi3n : i3 < n3
    · obtain ⟨R3, _, _, _⟩ := ints_rd g3
      rcases R3.cases with h0' | ⟨b, off, rfl, hbl, hcs⟩
      · omega
      have hbr : b < wr.heap.size := Nat.lt_of_lt_of_le hbl hs.size
      have p0 := (hs.cell (p := ⟨b, off + i3, none⟩) hbl).trans (hcs i3 (by omega))
      have HT := hidden ht
      have hrs : (List.range (i3 + 1)).all (badAt n0 bs) = ((List.range i3).all (badAt n0 bs) && badAt n0 bs i3) := by rw [List.range_succ, List.all_append]; simp
      have hrn : badAt n0 bs i3 = false → badB n0 bs = false := by
        intro h
        unfold badB
        rw [List.all_eq_false]
        exact ⟨i3, by simp; omega, by simp [h]⟩
      have hbd : badAt n0 bs i3 = (inB (bs.getD i3 0) 0 ((n0 : Int) - 1) && (decide (i3 = 0) || decide (bs.getD (i3 - 1) 0 < bs.getD i3 0))) := rfl
      have i1 : (0 : Int) ≤ (i3 : Int) := by omega
      have i2' : (i3 : Int) < (n3 : Int) := by omega
      by_cases hI : inB (bs.getD i3 0) 0 ((n0 : Int) - 1) = true
      · by_cases hz3 : i3 = 0
        · have HD : Hid ((List.range (i3 + 1)).all (badAt n0 bs) = true) := by unfold Hid; rw [hrs, HT.out, hbd, hI, decide_eq_true hz3]; rfl
          generalize bs.getD i3 0 = y at p0 hI
          have d0 : decide ((0 : Int) < (i3 : Int)) = false := decide_eq_false (by omega)
          have d0b : decide (0 < i3) = false := decide_eq_false (by omega)
          have HZ := hidden hz3
          clear hcs ht hrs hrn hbd hz3 R3
          go_wp2_with fail
          refine (hasSec_any _ _ _ _ _ _ _ _).mono ?_
          rintro e w5 ⟨rfl, hb5'⟩
          have r0 := (hb5'.cell (p := ⟨w.heap.size, 0, none⟩) hzr).trans q0
          have r1 := (hb5'.cell (p := ⟨w.heap.size, 1, none⟩) hzr).trans q1
          have r2 := (hb5'.cell (p := ⟨w.heap.size, 2, none⟩) hzr).trans q2
          have r3 := (hb5'.cell (p := ⟨w.heap.size, 3, none⟩) hzr).trans q3
          have hs5 := hs.trans (hb5'.mono hs.size)
          clear q0 q1 q2 q3 hb5'
          go_wp2
          go_roundw
          case rel => exact ⟨i3 + 1, by omega, by go_num, HD.out, hs5⟩
          case measure => simp [intOf]; omega
        · have p1 := (hs.cell (p := ⟨b, off + (i3 - 1), none⟩) hbl).trans (hcs (i3 - 1) (by omega))
          have d0 : decide ((0 : Int) < (i3 : Int)) = true := decide_eq_true (by omega)
          have d0b : decide (0 < i3) = true := decide_eq_true (by omega)
          have gv : IntKind.i64.wrap ((i3 : Int) - 1) = (i3 : Int) - 1 := IntWalk.i64_in _ (by omega)
          have gt : ((i3 : Int) - 1).toNat = i3 - 1 := by omega
          have i3a : (0 : Int) ≤ (i3 : Int) - 1 := by omega
          have i3b : (i3 : Int) - 1 < (n3 : Int) := by omega
          by_cases hlt : bs.getD (i3 - 1) 0 < bs.getD i3 0
          · have HD : Hid ((List.range (i3 + 1)).all (badAt n0 bs) = true) := by unfold Hid; rw [hrs, HT.out, hbd, hI, decide_eq_true hlt]; simp
            generalize bs.getD i3 0 = y at p0 hI hlt
            generalize bs.getD (i3 - 1) 0 = z at p1 hlt
            have d1 : ¬ y ≤ z := by omega
            clear hcs ht hrs hrn hbd hz3 R3
            go_wp2_with fail
            refine (hasSec_any _ _ _ _ _ _ _ _).mono ?_
            rintro e w5 ⟨rfl, hb5'⟩
            have r0 := (hb5'.cell (p := ⟨w.heap.size, 0, none⟩) hzr).trans q0
            have r1 := (hb5'.cell (p := ⟨w.heap.size, 1, none⟩) hzr).trans q1
            have r2 := (hb5'.cell (p := ⟨w.heap.size, 2, none⟩) hzr).trans q2
            have r3 := (hb5'.cell (p := ⟨w.heap.size, 3, none⟩) hzr).trans q3
            have p2 := (hb5'.cell (p := ⟨b, off + (i3 - 1), none⟩) hbr).trans p1
            have hs5 := hs.trans (hb5'.mono hs.size)
            clear q0 q1 q2 q3 hb5'
            go_wp2
            go_roundw
            case rel => exact ⟨i3 + 1, by omega, by go_num, HD.out, hs5⟩
            case measure => simp [intOf]; omega
          · have HN := hidden (hrn (by rw [hbd, hI, decide_eq_false hz3, decide_eq_false hlt]; rfl))
            generalize bs.getD i3 0 = y at p0 hI hlt
            generalize bs.getD (i3 - 1) 0 = z at p1 hlt
            have d1 : y ≤ z := by omega
            clear hcs ht hrs hrn hbd hz3 R3
            go_wp2_with fail
            refine (hasSec_any _ _ _ _ _ _ _ _).mono ?_
            rintro e w5 ⟨rfl, hb5'⟩
            have r0 := (hb5'.cell (p := ⟨w.heap.size, 0, none⟩) hzr).trans q0
            have r1 := (hb5'.cell (p := ⟨w.heap.size, 1, none⟩) hzr).trans q1
            have r2 := (hb5'.cell (p := ⟨w.heap.size, 2, none⟩) hzr).trans q2
            have r3 := (hb5'.cell (p := ⟨w.heap.size, 3, none⟩) hzr).trans q3
            have p2 := (hb5'.cell (p := ⟨b, off + (i3 - 1), none⟩) hbr).trans p1
            have hs5 := hs.trans (hb5'.mono hs.size)
            clear q0 q1 q2 q3 hb5'
            go_wp2
            go_ret
            exact ⟨ret_bool HN.out.symm, Below.andThen hA hs5⟩
      · have hI : inB (bs.getD i3 0) 0 ((n0 : Int) - 1) = false := by simpa using hI
        have HN := hidden (hrn (by rw [hbd, hI]; rfl))
        generalize bs.getD i3 0 = y at p0 hI
        clear hcs ht hrs hrn hbd R3
        go_wp2_with fail
        refine (hasSec_any _ _ _ _ _ _ _ _).mono ?_
        rintro e w5 ⟨rfl, hb5'⟩
        have r0 := (hb5'.cell (p := ⟨w.heap.size, 0, none⟩) hzr).trans q0
        have r1 := (hb5'.cell (p := ⟨w.heap.size, 1, none⟩) hzr).trans q1
        have r2 := (hb5'.cell (p := ⟨w.heap.size, 2, none⟩) hzr).trans q2
        have r3 := (hb5'.cell (p := ⟨w.heap.size, 3, none⟩) hzr).trans q3
        have hs5 := hs.trans (hb5'.mono hs.size)
        clear q0 q1 q2 q3 hb5'
        go_wp2
        go_ret
        exact ⟨ret_bool HN.out.symm, Below.andThen hA hs5⟩
    · have e3 : i3 = n3 := by omega
      have HB : Hid (badB n0 bs = true) := by unfold Hid badB; rw [hl3, ← e3]; exact ht
      clear ht hi3
      go_wp2
      go_ret
      exact ⟨ret_bool HB.out.symm, Below.andThen hA hs⟩

set_option maxHeartbeats 3200000 in
theorem implMemOk_any (w : World) (E : TypeId) (a0 a1 a3 : Option Addr) (n0 c0 n1 c1 n3 c3 : Nat) (ss : List (List Int)) (cs : List (Int × List Int)) (f : Bool) (bs : List Int) (h0 : tIntSS.Rd w [.slice a0 n0 c0] ss) (h1 : (tWrS E).Rd w [.slice a1 n1 c1] cs) (h3 : tIntS.Rd w [.slice a3 n3 c3] bs) (hw : wtMem (ss, cs, f, bs) ≤ 2097152) :
    Calls Tryz.prog 199 #[.agg #[.slice a0 n0 c0, .slice a1 n1 c1, .bool f, .slice a3 n3 c3]] w fun e w' => e = .returned (.bool (memB ss cs bs)) ∧ Below w.heap.size w w' := by
  obtain ⟨hl0, _, hm0⟩ := row_length h0
  obtain ⟨hl1, _, hm1⟩ := row_length h1
  obtain ⟨hl3, _, hm3⟩ := row_length h3
  have hw0 : wtIntSS ss ≤ 2097152 := by unfold wtMem at hw; simp only at hw; omega
  have hw1 : wtWrS cs ≤ 2097152 := by unfold wtMem at hw; simp only at hw; omega
  have hA : Below w.heap.size w (w.alloc (.cells #[.slice a0 n0 c0, .slice a1 n1 c1, .bool f, .slice a3 n3 c3] 147)) := (Below.refl _ _).alloc (Nat.le_refl _) _
  have hcell : ∀ j v, (#[Value.slice a0 n0 c0, .slice a1 n1 c1, .bool f, .slice a3 n3 c3])[j]? = some v → (w.alloc (.cells #[.slice a0 n0 c0, .slice a1 n1 c1, .bool f, .slice a3 n3 c3] 147)).cell? ⟨w.heap.size, j, none⟩ = some v := by
    intro j v hv
    rw [cell_of_row _ w.heap.size j _ _ (0, 0) (heap_alloc_new w _)]
    exact hv
  have k0 := hcell 0 _ rfl
  have k1 := hcell 1 _ rfl
  have k2 := hcell 2 _ rfl
  have k3 := hcell 3 _ rfl
  have g0 := h0.below hA
  have g1 := h1.below hA
  have g3 := h3.below hA
  have hz : w.heap.size < (w.alloc (.cells #[.slice a0 n0 c0, .slice a1 n1 c1, .bool f, .slice a3 n3 c3] 147)).heap.size := by simp
  by_cases c1' : (1 : Int) ≤ (n0 : Int)
  · by_cases c2' : (n0 : Int) ≤ 20
    · by_cases c3' : (n1 : Int) ≤ 60
      · have hI0 : inB (ss.length : Int) 1 20 = true := by unfold inB; rw [hl0]; simp; omega
        have hI1 : decide (cs.length ≤ 60) = true := decide_eq_true (by omega)
        have HI0 := hidden hI0
        have HI1 := hidden hI1
        clear hI0 hI1
        go_enter Tryz.func199, Tryz.ntmps199
        go_wp2
        generalize hW : w.alloc (.cells #[.slice a0 n0 c0, .slice a1 n1 c1, .bool f, .slice a3 n3 c3] 147) = W at hA k0 k1 k2 k3 g0 g1 g3 hz ⊢
        clear hW hcell h0 h1 h3
        go_loopw [26] (fun i wr => ∃ j : Nat, j ≤ n0 ∧ i = .int .i64 j ∧ (ss.take j).all secB = true ∧ Same W wr) (fun i _ => n0 - (intOf i).toNat)
        case atStart => exact ⟨0, Nat.zero_le _, rfl, rfl, Same.refl _⟩
        case round =>
          obtain ⟨j, hj, rfl, ht, hs⟩ := hrel
          by_cases hjn : j < n0
          · rcases rows_at rfl g0 with h0' | ⟨b, off, rfl, hbl, hcs⟩
            · omega
            have hdj : ss[j]? = some (ss[j]'(by omega)) := List.getElem?_eq_getElem (by omega)
            generalize ss[j]'(by omega) = x at hdj
            have hal := all_step (p := secB) hdj
            have hil := inner_le hdj
            obtain ⟨v, hv, hrv⟩ := hcs j x hdj
            obtain ⟨av, cv, rfl⟩ := row_shape hrv
            have q1 := (hs.cell ⟨b, off + j, none⟩).trans hv
            obtain ⟨r1, _, _, _⟩ := ints_rd (hrv.same hs)
            have HT := hidden ht
            clear hcs hdj hv hrv ht
            by_cases hx : secB x = true
            · have HD := hidden (hal.1 hx HT.out)
              clear hal
              go_wp2_with fail
              refine (implSecOk_any _ _ _ _ x rfl r1 (by omega)).mono ?_
              rintro e w1 ⟨rfl, hs1⟩
              go_wp2
              go_roundw
              case rel => exact ⟨j + 1, by omega, by go_num, HD.out, hs.trans hs1⟩
              case measure => simp [intOf]; omega
            · have hx : secB x = false := by simpa using hx
              have HN := hidden (hal.2 hx)
              clear hal
              go_wp2_with fail
              refine (implSecOk_any _ _ _ _ x rfl r1 (by omega)).mono ?_
              rintro e w1 ⟨rfl, hs1⟩
              go_wp2
              go_ret
              exact ⟨ret_bool (by unfold memB; rw [HN.out]; rfl), Below.andSame (Below.andSame hA hs) hs1⟩
          · have e : j = n0 := by omega
            subst e
            rw [List.take_of_length_le (by omega)] at ht
            have HS0 := hidden ht
            have hss : ss.length = j := hl0
            have q1 := (hs.cell _).trans k1
            clear ht hj hjn
            go_wp2
            clear q1
            go_loopw [37] (fun i wr => ∃ i2 : Nat, i2 ≤ n1 ∧ i = .int .i64 i2 ∧ (cs.take i2).all (wrB j) = true ∧ Below W.heap.size W wr) (fun i _ => n1 - (intOf i).toNat)
            case atStart => exact ⟨0, Nat.zero_le _, rfl, rfl, hs.below _⟩
            case round =>
              clear hs
              obtain ⟨i2, hi2, rfl, ht, hs⟩ := hrel
              have hzr : w.heap.size < wr.heap.size := Nat.lt_of_lt_of_le hz hs.size
              have q0 := (hs.cell (p := ⟨w.heap.size, 0, none⟩) hz).trans k0
              have q1 := (hs.cell (p := ⟨w.heap.size, 1, none⟩) hz).trans k1
              have q2 := (hs.cell (p := ⟨w.heap.size, 2, none⟩) hz).trans k2
              have q3 := (hs.cell (p := ⟨w.heap.size, 3, none⟩) hz).trans k3
              by_cases hin : i2 < n1
              · rcases pairs_at rfl g1 with h0' | ⟨b, off, rfl, hbl, hcs⟩
                · omega
                have hdj : cs[i2]? = some (cs[i2]'(by omega)) := List.getElem?_eq_getElem (by omega)
                generalize cs[i2]'(by omega) = x at hdj
                have hal := all_step (p := wrB j) hdj
                have hil := inner_le' hdj
                obtain ⟨v0, v1, hv0, hv1, hrv⟩ := hcs i2 x hdj
                obtain ⟨rfl, hrv'⟩ := wr_rd hrv
                obtain ⟨av, cv, rfl⟩ := row_shape hrv'
                have p0 := (hs.cell (p := ⟨b, off + i2 * 2, none⟩) hbl).trans hv0
                have p1 := (hs.cell (p := ⟨b, off + i2 * 2 + 1, none⟩) hbl).trans hv1
                have r0 := hrv'.below hs
                obtain ⟨x0, x1⟩ := x
                simp only at p0 p1 r0 hil
                have HT := hidden ht
                clear hcs hdj hv0 hv1 hrv hrv' ht
                have hB : Below wr.heap.size wr (wr.alloc (.cells #[.int .i64 x0, .slice av x1.length cv] 214)) := (Below.refl _ _).alloc (Nat.le_refl _) _
                have s0 : (wr.alloc (.cells #[.int .i64 x0, .slice av x1.length cv] 214)).cell? ⟨wr.heap.size, 1, none⟩ = some (.slice av x1.length cv) := by
                  rw [cell_of_row _ wr.heap.size 1 _ _ (0, 0) (heap_alloc_new wr _)]
                  rfl
                have zb : wr.heap.size < (wr.alloc (.cells #[.int .i64 x0, .slice av x1.length cv] 214)).heap.size := by simp
                have HB := hidden hB
                have S0 := hidden s0
                have ZB := hidden zb
                clear hB s0 zb
                by_cases hI : inB x0 0 ((j : Int) - 1) = true
                · by_cases hx : secB x1 = true
                  · have HD := hidden (hal.1 (by unfold wrB; simp only; rw [hI, hx]; rfl) HT.out)
                    clear hal
                    go_wp2_with fail
                    refine (hasSec_any _ _ _ _ _ _ _ _).mono ?_
                    rintro e w5 ⟨rfl, hb5⟩
                    have HB6 := hidden (Below.andThen HB.out hb5)
                    have s1 := (hb5.cell (p := ⟨wr.heap.size, 1, none⟩) ZB.out).trans S0.out
                    clear hb5
                    go_wp2_with fail
                    refine (implSecOk_any _ _ _ _ x1 rfl (ints_rd (r0.below HB6.out)).1 (by omega)).mono ?_
                    rintro e w6 ⟨rfl, hs6⟩
                    go_wp2
                    go_roundw
                    case rel => exact ⟨i2 + 1, by omega, by go_num, HD.out, (hs.trans (HB6.out.mono hs.size)).trans (hs6.below _)⟩
                    case measure => simp [intOf]; omega
                  · have hx : secB x1 = false := by simpa using hx
                    have HN := hidden (hal.2 (by unfold wrB; simp only; rw [hI, hx]; rfl))
                    clear hal
                    go_wp2_with fail
                    refine (hasSec_any _ _ _ _ _ _ _ _).mono ?_
                    rintro e w5 ⟨rfl, hb5⟩
                    have HB6 := hidden (Below.andThen HB.out hb5)
                    have s1 := (hb5.cell (p := ⟨wr.heap.size, 1, none⟩) ZB.out).trans S0.out
                    clear hb5
                    go_wp2_with fail
                    refine (implSecOk_any _ _ _ _ x1 rfl (ints_rd (r0.below HB6.out)).1 (by omega)).mono ?_
                    rintro e w6 ⟨rfl, hs6⟩
                    go_wp2
                    go_ret
                    exact ⟨ret_bool (by unfold memB; rw [hss, HN.out, HS0.out]; rfl), Below.andSame (Below.andThen hA (hs.trans (HB6.out.mono hs.size))) hs6⟩
                · have hI : inB x0 0 ((j : Int) - 1) = false := by simpa using hI
                  have HN := hidden (hal.2 (by unfold wrB; simp only; rw [hI]; rfl))
                  clear hal
                  go_wp2_with fail
                  refine (hasSec_any _ _ _ _ _ _ _ _).mono ?_
                  rintro e w5 ⟨rfl, hb5⟩
                  have HB6 := hidden (Below.andThen HB.out hb5)
                  clear hb5
                  go_wp2
                  go_ret
                  exact ⟨ret_bool (by unfold memB; rw [hss, HN.out, HS0.out]; rfl), Below.andThen hA (hs.trans (HB6.out.mono hs.size))⟩
              · have e2 : i2 = n1 := by omega
                subst e2
                rw [List.take_of_length_le (by omega)] at ht
                have HS1 := hidden ht
                clear ht hi2 hin
                have g3' := g3.below hs
                go_wp2_with fail
                refine (badOk_any _ _ _ _ _ _ _ _ _ bs g3').mono ?_
                rintro e w5 ⟨rfl, hb5⟩
                go_wp2
                go_ret
                exact ⟨ret_bool (by unfold memB; rw [HI0.out, HI1.out, hss, HS1.out, HS0.out]; simp), Below.andThen (Below.andThen hA hs) hb5⟩
      · have hI1 : decide (cs.length ≤ 60) = false := decide_eq_false (by omega)
        have HI1 := hidden hI1
        clear hI1
        go_enter Tryz.func199, Tryz.ntmps199
        go_wp2
        go_ret
        exact ⟨ret_bool (by unfold memB; rw [HI1.out]; simp), hA⟩
    · have hI0 : inB (ss.length : Int) 1 20 = false := by unfold inB; rw [hl0]; simp; omega
      have HI0 := hidden hI0
      clear hI0
      go_enter Tryz.func199, Tryz.ntmps199
      go_wp2
      go_ret
      exact ⟨ret_bool (by unfold memB; rw [HI0.out]; simp), hA⟩
  · have hI0 : inB (ss.length : Int) 1 20 = false := by unfold inB; rw [hl0]; simp; omega
    have HI0 := hidden hI0
    clear hI0
    go_enter Tryz.func199, Tryz.ntmps199
    go_wp2
    go_ret
    exact ⟨ret_bool (by unfold memB; rw [HI0.out]; simp), hA⟩

end Go.Proofs.YtbkkjfgjlapadaaGreat

namespace Go.Proofs.YtbkkjfgjlapadaaGreat
open Go.RowKit

/-- What a disk knows. -/
structure Sup where
  id : Int
  gen : Int
  role : Int
  n : Int
  s : Int
  tail : Int
  lost : Int
  built : Int

def supZ : Sup := ⟨0, 0, 0, 0, 0, 0, 0, 0⟩
def lostB (n s lost built : Int) : Bool := if lost = -1 then decide (built = 0) else inB lost 0 (n - 1) && inB built 0 s
def supB (x : Sup) : Bool := geoB x.n x.s && (lostB x.n x.s x.lost x.built && (inB x.role 0 (x.n - 1) && (inB x.id 1 60000 && (inB x.gen 0 60000 && inB x.tail 0 60000))))

theorem lostB_iff {n s lost built : Int} : lostB n s lost built = true ↔ (lost = -1 ∧ built = 0) ∨ (¬ lost = -1 ∧ 0 ≤ lost ∧ lost ≤ n - 1 ∧ 0 ≤ built ∧ built ≤ s) := by
  unfold lostB
  split
  · rename_i h
    simp [h]
  · rename_i h
    rw [Bool.and_eq_true, inB_iff, inB_iff]
    simp [h, and_assoc]
theorem supB_iff {x : Sup} : supB x = true ↔ (3 ≤ x.n ∧ x.n ≤ 5 ∧ 1 ≤ x.s ∧ x.s ≤ 8) ∧ ((x.lost = -1 ∧ x.built = 0) ∨ (¬ x.lost = -1 ∧ 0 ≤ x.lost ∧ x.lost ≤ x.n - 1 ∧ 0 ≤ x.built ∧ x.built ≤ x.s)) ∧ (0 ≤ x.role ∧ x.role ≤ x.n - 1) ∧ (1 ≤ x.id ∧ x.id ≤ 60000) ∧ (0 ≤ x.gen ∧ x.gen ≤ 60000) ∧ (0 ≤ x.tail ∧ x.tail ≤ 60000) := by
  unfold supB
  simp only [Bool.and_eq_true, geoB_iff, lostB_iff, inB_iff]
theorem supB_not {x : Sup} (h : ¬ ((3 ≤ x.n ∧ x.n ≤ 5 ∧ 1 ≤ x.s ∧ x.s ≤ 8) ∧ ((x.lost = -1 ∧ x.built = 0) ∨ (¬ x.lost = -1 ∧ 0 ≤ x.lost ∧ x.lost ≤ x.n - 1 ∧ 0 ≤ x.built ∧ x.built ≤ x.s)) ∧ (0 ≤ x.role ∧ x.role ≤ x.n - 1) ∧ (1 ≤ x.id ∧ x.id ≤ 60000) ∧ (0 ≤ x.gen ∧ x.gen ≤ 60000) ∧ (0 ≤ x.tail ∧ x.tail ≤ 60000))) : supB x = false := by
  rw [← Bool.not_eq_true, supB_iff]
  exact h

theorem Box.cells8 {w : World} {B : Nat} {T : TypeId} {v0 v1 v2 v3 v4 v5 v6 v7 : Value} (h : Box w B T #[v0, v1, v2, v3, v4, v5, v6, v7]) :
    w.cell? ⟨B, 0, none⟩ = some v0 ∧ w.cell? ⟨B, 1, none⟩ = some v1 ∧ w.cell? ⟨B, 2, none⟩ = some v2 ∧ w.cell? ⟨B, 3, none⟩ = some v3 ∧ w.cell? ⟨B, 4, none⟩ = some v4 ∧ w.cell? ⟨B, 5, none⟩ = some v5 ∧ w.cell? ⟨B, 6, none⟩ = some v6 ∧ w.cell? ⟨B, 7, none⟩ = some v7 :=
  ⟨h.cell 0, h.cell 1, h.cell 2, h.cell 3, h.cell 4, h.cell 5, h.cell 6, h.cell 7⟩

theorem lostOk_any (w : World) (n s lost built : Int) (hn : 3 ≤ n ∧ n ≤ 5) : Calls Tryz.prog 130 #[.agg #[.int .i64 n, .int .i64 s], .int .i64 lost, .int .i64 built] w fun e w' => e = .returned (.bool (lostB n s lost built)) ∧ Below w.heap.size w w' := by
  have hA := new_below w (.cells #[.int .i64 n, .int .i64 s] 25)
  obtain ⟨k0, k1⟩ := (Gbox.new w 25 n s).cells
  have gw : IntKind.i64.wrap (n - 1) = n - 1 := IntWalk.i64_in _ (by omega)
  by_cases h : lost = -1
  · by_cases hb : built = 0
    · go_enter Tryz.func130, Tryz.ntmps130
      go_wp2
      go_ret
      exact ⟨ret_bool (by unfold lostB; rw [if_pos h]; simp [hb]), hA⟩
    · go_enter Tryz.func130, Tryz.ntmps130
      go_wp2
      go_ret
      exact ⟨ret_bool (by unfold lostB; rw [if_pos h]; simp [hb]), hA⟩
  · have HD : Hid (lostB n s lost built = (inB lost 0 (n - 1) && inB built 0 s)) := by unfold Hid lostB; rw [if_neg h]
    go_enter Tryz.func130, Tryz.ntmps130
    go_wp2_with fail
    refine (within_any _ _ _ _).mono ?_
    rintro e w1 ⟨rfl, rfl⟩
    by_cases h1 : inB lost 0 (n - 1) = true
    · go_wp2_with fail
      refine (within_any _ _ _ _).mono ?_
      rintro e w1 ⟨rfl, rfl⟩
      go_wp2
      go_ret
      exact ⟨ret_bool (by rw [HD.out, h1]; rfl), hA⟩
    · have h1' : inB lost 0 (n - 1) = false := by simpa using h1
      go_wp2
      go_ret
      exact ⟨ret_bool (by rw [HD.out, h1']; rfl), hA⟩

set_option maxHeartbeats 1600000 in
theorem specSuperOk_any (w : World) (x : Sup) : Calls Tryz.prog 206 #[.agg #[.int .i64 x.id, .int .i64 x.gen, .int .i64 x.role, .int .i64 x.n, .int .i64 x.s, .int .i64 x.tail, .int .i64 x.lost, .int .i64 x.built]] w fun e w' => e = .returned (.bool (supB x)) ∧ Below w.heap.size w w' := by
  have hA := new_below w (.cells #[.int .i64 x.id, .int .i64 x.gen, .int .i64 x.role, .int .i64 x.n, .int .i64 x.s, .int .i64 x.tail, .int .i64 x.lost, .int .i64 x.built] 158)
  have X := Box.new w 158 #[.int .i64 x.id, .int .i64 x.gen, .int .i64 x.role, .int .i64 x.n, .int .i64 x.s, .int .i64 x.tail, .int .i64 x.lost, .int .i64 x.built]
  obtain ⟨k0, k1, k2, k3, k4, k5, k6, k7⟩ := X.cells8
  have zA := X.lt
  go_enter Tryz.func206, Tryz.ntmps206
  go_wp2_with fail
  refine (specGeoOk_any _ _ _).mono ?_
  rintro e w1 ⟨rfl, b1⟩
  have X1 := X.below b1 zA
  have B1 := Below.andThen hA b1
  clear k0 k1 k2 k3 k4 k5 k6 k7 X b1 hA zA
  obtain ⟨k0, k1, k2, k3, k4, k5, k6, k7⟩ := X1.cells8
  by_cases hg : geoB x.n x.s = true
  · obtain ⟨g1, g2, g3, g4⟩ := geoB_iff.1 hg
    have gw : IntKind.i64.wrap (x.n - 1) = x.n - 1 := IntWalk.i64_in _ (by omega)
    go_wp2_with fail
    refine (l1In_any _ _ _ _).mono ?_
    rintro e w2 ⟨rfl, rfl⟩
    by_cases h1 : inB x.id 1 60000 = true
    · have h1i := inB_iff.1 h1
      go_wp2_with fail
      refine (l1In_any _ _ _ _).mono ?_
      rintro e w2 ⟨rfl, rfl⟩
      by_cases h2 : inB x.gen 0 60000 = true
      · have h2i := inB_iff.1 h2
        go_wp2_with fail
        refine (l1In_any _ _ _ _).mono ?_
        rintro e w2 ⟨rfl, rfl⟩
        by_cases h3 : inB x.role 0 (x.n - 1) = true
        · have h3i := inB_iff.1 h3
          go_wp2_with fail
          refine (l1In_any _ _ _ _).mono ?_
          rintro e w2 ⟨rfl, rfl⟩
          by_cases h4 : inB x.tail 0 60000 = true
          · have h4i := inB_iff.1 h4
            go_wp2_with fail
            refine (l1In_any _ _ _ _).mono ?_
            rintro e w2 ⟨rfl, rfl⟩
            by_cases h5 : inB x.lost (-1) (x.n - 1) = true
            · have h5i := inB_iff.1 h5
              go_wp2_with fail
              refine (l1In_any _ _ _ _).mono ?_
              rintro e w2 ⟨rfl, rfl⟩
              by_cases h6 : inB x.built 0 x.s = true
              · have h6i := inB_iff.1 h6
                clear h1 h2 h3 h4 h5 hg
                go_wp2
                all_goals go_ret
                all_goals exact ⟨ret_bool (by rw [Bool.eq_iff_iff, supB_iff]; simp; omega), B1⟩
              · have h6' : inB x.built 0 x.s = false := by simpa using h6
                have h6n := inB_not.1 h6'
                go_wp2
                go_ret
                exact ⟨ret_bool (by symm; refine supB_not (fun hc => ?_); omega), B1⟩
            · have h5' : inB x.lost (-1) (x.n - 1) = false := by simpa using h5
              have h5n := inB_not.1 h5'
              go_wp2
              go_ret
              exact ⟨ret_bool (by symm; refine supB_not (fun hc => ?_); omega), B1⟩
          · have h4' : inB x.tail 0 60000 = false := by simpa using h4
            have h4n := inB_not.1 h4'
            go_wp2
            go_ret
            exact ⟨ret_bool (by symm; refine supB_not (fun hc => ?_); omega), B1⟩
        · have h3' : inB x.role 0 (x.n - 1) = false := by simpa using h3
          have h3n := inB_not.1 h3'
          go_wp2
          go_ret
          exact ⟨ret_bool (by symm; refine supB_not (fun hc => ?_); omega), B1⟩
      · have h2' : inB x.gen 0 60000 = false := by simpa using h2
        have h2n := inB_not.1 h2'
        go_wp2
        go_ret
        exact ⟨ret_bool (by symm; refine supB_not (fun hc => ?_); omega), B1⟩
    · have h1' : inB x.id 1 60000 = false := by simpa using h1
      have h1n := inB_not.1 h1'
      go_wp2
      go_ret
      exact ⟨ret_bool (by symm; refine supB_not (fun hc => ?_); omega), B1⟩
  · have hg' : geoB x.n x.s = false := by simpa using hg
    go_wp2
    go_ret
    exact ⟨ret_bool (by unfold supB; rw [hg']; rfl), B1⟩

set_option maxHeartbeats 1600000 in
theorem implSuperOk_any (w : World) (x : Sup) : Calls Tryz.prog 241 #[.agg #[.int .i64 x.id, .int .i64 x.gen, .int .i64 x.role, .int .i64 x.n, .int .i64 x.s, .int .i64 x.tail, .int .i64 x.lost, .int .i64 x.built]] w fun e w' => e = .returned (.bool (supB x)) ∧ Below w.heap.size w w' := by
  have hA := new_below w (.cells #[.int .i64 x.id, .int .i64 x.gen, .int .i64 x.role, .int .i64 x.n, .int .i64 x.s, .int .i64 x.tail, .int .i64 x.lost, .int .i64 x.built] 158)
  have X := Box.new w 158 #[.int .i64 x.id, .int .i64 x.gen, .int .i64 x.role, .int .i64 x.n, .int .i64 x.s, .int .i64 x.tail, .int .i64 x.lost, .int .i64 x.built]
  obtain ⟨k0, k1, k2, k3, k4, k5, k6, k7⟩ := X.cells8
  have zA := X.lt
  go_enter Tryz.func241, Tryz.ntmps241
  have hA2 := Below.andThen hA (new_below (w.alloc (.cells #[.int .i64 x.id, .int .i64 x.gen, .int .i64 x.role, .int .i64 x.n, .int .i64 x.s, .int .i64 x.tail, .int .i64 x.lost, .int .i64 x.built] 158)) (.cells #[.int .i64 x.n, .int .i64 x.s] 25))
  have X2 := X.alloc (.cells #[.int .i64 x.n, .int .i64 x.s] 25)
  have G2 := Box.new (w.alloc (.cells #[.int .i64 x.id, .int .i64 x.gen, .int .i64 x.role, .int .i64 x.n, .int .i64 x.s, .int .i64 x.tail, .int .i64 x.lost, .int .i64 x.built] 158)) 25 #[.int .i64 x.n, .int .i64 x.s]
  rw [World.size_alloc] at G2
  obtain ⟨j0, j1⟩ := G2.cells2
  obtain ⟨i0, i1, i2, i3, i4, i5, i6, i7⟩ := X2.cells8
  go_wp2_with fail
  generalize (w.alloc (.cells #[.int .i64 x.id, .int .i64 x.gen, .int .i64 x.role, .int .i64 x.n, .int .i64 x.s, .int .i64 x.tail, .int .i64 x.lost, .int .i64 x.built] 158)).alloc (.cells #[.int .i64 x.n, .int .i64 x.s] 25) = W at hA2 X2 G2 i0 i1 i2 i3 i4 i5 i6 i7 j0 j1 ⊢
  have zX := X2.lt
  have zG := G2.lt
  refine (implGeoOk_any _ _ _).mono ?_
  rintro e w1 ⟨rfl, b1⟩
  have X1 := X2.below b1 zX
  have G1 := G2.below b1 zG
  have B1 := Below.andThen hA2 b1
  clear k0 k1 k2 k3 k4 k5 k6 k7 i0 i1 i2 i3 i4 i5 i6 i7 j0 j1 X hA zA b1 hA2 X2 G2 zX zG
  obtain ⟨k0, k1, k2, k3, k4, k5, k6, k7⟩ := X1.cells8
  obtain ⟨j0, j1⟩ := G1.cells2
  by_cases hg : geoB x.n x.s = true
  · obtain ⟨g1, g2, g3, g4⟩ := geoB_iff.1 hg
    have gw : IntKind.i64.wrap (x.n - 1) = x.n - 1 := IntWalk.i64_in _ (by omega)
    go_wp2_with fail
    refine (lostOk_any _ _ _ _ _ ⟨g1, g2⟩).mono ?_
    rintro e w2 ⟨rfl, b2⟩
    have X3 := X1.below b2 X1.lt
    have G3 := G1.below b2 G1.lt
    have B3 := Below.andThen B1 b2
    clear k0 k1 k2 k3 k4 k5 k6 k7 j0 j1 X1 G1 B1 b2
    obtain ⟨k0, k1, k2, k3, k4, k5, k6, k7⟩ := X3.cells8
    obtain ⟨j0, j1⟩ := G3.cells2
    by_cases hl : lostB x.n x.s x.lost x.built = true
    · have hli := lostB_iff.1 hl
      go_wp2_with fail
      refine (within_any _ _ _ _).mono ?_
      rintro e w4 ⟨rfl, rfl⟩
      by_cases h1 : inB x.role 0 (x.n - 1) = true
      · have h1i := inB_iff.1 h1
        go_wp2_with fail
        refine (within_any _ _ _ _).mono ?_
        rintro e w4 ⟨rfl, rfl⟩
        by_cases h2 : inB x.id 1 60000 = true
        · have h2i := inB_iff.1 h2
          go_wp2_with fail
          refine (within_any _ _ _ _).mono ?_
          rintro e w4 ⟨rfl, rfl⟩
          by_cases h3 : inB x.gen 0 60000 = true
          · have h3i := inB_iff.1 h3
            go_wp2_with fail
            refine (within_any _ _ _ _).mono ?_
            rintro e w4 ⟨rfl, rfl⟩
            go_wp2
            go_ret
            exact ⟨ret_bool (by unfold supB; rw [hg, hl, h1, h2, h3]; rfl), B3⟩
          · have h3' : inB x.gen 0 60000 = false := by simpa using h3
            have h3n := inB_not.1 h3'
            go_wp2
            go_ret
            exact ⟨ret_bool (by symm; refine supB_not (fun hc => ?_); omega), B3⟩
        · have h2' : inB x.id 1 60000 = false := by simpa using h2
          have h2n := inB_not.1 h2'
          go_wp2
          go_ret
          exact ⟨ret_bool (by symm; refine supB_not (fun hc => ?_); omega), B3⟩
      · have h1' : inB x.role 0 (x.n - 1) = false := by simpa using h1
        have h1n := inB_not.1 h1'
        go_wp2
        go_ret
        exact ⟨ret_bool (by symm; refine supB_not (fun hc => ?_); omega), B3⟩
    · have hl' : lostB x.n x.s x.lost x.built = false := by simpa using hl
      go_wp2
      go_ret
      exact ⟨ret_bool (by unfold supB; rw [hg, hl']; rfl), B3⟩
  · have hg' : geoB x.n x.s = false := by simpa using hg
    go_wp2
    go_ret
    exact ⟨ret_bool (by unfold supB; rw [hg']; rfl), B1⟩

end Go.Proofs.YtbkkjfgjlapadaaGreat

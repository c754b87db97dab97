/-
  The walk of the program's newest: a map that holds, by its number, what was last written to each sector. Conditions: at most 2097152 writes, each of a sector 0 .. 20.
-/
import Derived.Test.YtgjldmjlbhkgbaaWalkMemOk
import Derived.Test.YtgjldmjlbhkgbaaBox
import Derived.Maps.Own
import Derived.Maps.OwnSet
import Derived.Maps.OwnOps
import Derived.Maps.Views
namespace Go.Proofs.Ytgjldmjlbhkgbaa
open Go.RowKit Go.Maps

/-- An element of the map is held as it is. -/
def heldV (v : Value) : Option (DataW Value × List MemPlace) := some (.held v, [])
/-- What was last written to a sector. -/
def lastW (l : List (Int × List Int)) (q : Int) : Option (List Int) := l.foldl (fun acc x => if x.1 = q then some x.2 else acc) none
theorem lastW_snoc (l : List (Int × List Int)) (x : Int × List Int) (q : Int) : lastW (l ++ [x]) q = if x.1 = q then some x.2 else lastW l q := by
  unfold lastW
  rw [List.foldl_append]
  rfl

/-- The map's datum is as these writes. -/
def LastOk (w : World) (l : List (Int × List Int)) (D : DataW Value) : Prop :=
  ∀ q : Int, (lastW l q = none → Maps.has D (.int .i64 q) = false) ∧ ∀ zs, lastW l q = some zs → Maps.has D (.int .i64 q) = true ∧ ∃ a n cap, (∀ z, D.atKey (.int .i64 q) z = .held (.agg #[.int .i64 q, .slice a n cap])) ∧ tIntS.Rd w [.slice a n cap] zs

theorem LastOk.nil (w : World) : LastOk w [] (.map []) := fun q => ⟨fun _ => rfl, fun zs h => by simp [lastW] at h⟩
theorem LastOk.step {w : World} {l : List (Int × List Int)} {D : DataW Value} (h : LastOk w l D) (hD : IsMap D) (x0 : Int) (x1 : List Int) (a : Option Addr) (n cap : Nat) (hr : tIntS.Rd w [.slice a n cap] x1) :
    LastOk w (l ++ [(x0, x1)]) (D.put (.int .i64 x0) (.held (.agg #[.int .i64 x0, .slice a n cap]))) := by
  intro q
  rw [lastW_snoc]
  by_cases hq : x0 = q
  · subst hq
    simp only [if_true]
    refine ⟨fun e => by simp at e, fun zs e => ?_⟩
    simp at e
    subst e
    have hk : WideAt.IsKeyLit (.int .i64 x0) := trivial
    exact ⟨has_put_same hD hk _, a, n, cap, fun z => atKey_put_same hD hk _ _, hr⟩
  · simp only [hq, if_false]
    have hne : (Lit.int .i64 q) ≠ Lit.int .i64 x0 := fun e => by simp at e; exact hq e.symm
    refine ⟨fun e => ?_, fun zs e => ?_⟩
    · rw [has_put_other hne]
      exact (h q).1 e
    · obtain ⟨h1, a', n', c', h2, h3⟩ := (h q).2 zs e
      exact ⟨by rw [has_put_other hne]; exact h1, a', n', c', fun z => by rw [atKey_put_other hne]; exact h2 z, h3⟩

theorem lawInt : Keyed Try.prog 3 := int_keyed Try.underlying3

set_option maxHeartbeats 1600000 in
theorem newest_at (w0 w : World) (hb0 : Below w0.heap.size w0 w) (E : TypeId) (a : Option Addr) (n cap : Nat) (d : List (Int × List Int)) (h : (tWrS E).Rd w0 [.slice a n cap] d) (hn : n ≤ 2097152) (hd : ∀ x ∈ d, 0 ≤ x.1 ∧ x.1 ≤ 20) :
    Calls Try.prog 81 #[.slice a n cap] w fun e w' => e = .returned (.map (some w.heap.size)) ∧ Below w.heap.size w w' ∧ ∃ D, w'.ownsMap Try.prog 3 heldV w.heap.size n D ∧ LastOk w0 d D := by
  obtain ⟨hl, hc, hm⟩ := row_length h
  have hmm := @run_makeMap Try.prog
  go_enter Try.func81, Try.ntmps81
  go_wp2
  clear hmm
  go_loopw [9] (fun i wr => ∃ j : Nat, j ≤ n ∧ i = .int .i64 j ∧ Below w.heap.size w wr ∧ ∃ D, wr.ownsMap Try.prog 3 heldV w.heap.size j D ∧ LastOk w0 (d.take j) D) (fun i _ => n - (intOf i).toNat)
  case atStart => exact ⟨0, Nat.zero_le _, rfl, (Below.refl _ _).alloc (Nat.le_refl _) _, _, World.ownsMap_made _ _ _ _, LastOk.nil _⟩
  case round =>
    obtain ⟨j, hj, rfl, hb, D, ho, hL⟩ := hrel
    by_cases hjn : j < n
    · rcases pairs_at rfl h with h0' | ⟨b, off, rfl, hbl, hcs⟩
      · omega
      have hdj : d[j]? = some (d[j]'(by omega)) := List.getElem?_eq_getElem (by omega)
      have hmem : d[j]'(by omega) ∈ d := List.getElem_mem _
      have htk : d.take (j + 1) = d.take j ++ [d[j]'(by omega)] := List.take_succ_eq_append_getElem (by omega)
      generalize d[j]'(by omega) = x at hdj hmem htk
      have hx := hd x hmem
      obtain ⟨v0, v1, hv0, hv1, hrv⟩ := hcs j x hdj
      obtain ⟨rfl, hrv'⟩ := wr_rd hrv
      obtain ⟨av, cv, rfl⟩ := row_shape hrv'
      have hbr := hb0.trans (hb.mono hb0.size)
      have p0 := (hbr.cell (p := ⟨b, off + j * 2, none⟩) hbl).trans hv0
      have p1 := (hbr.cell (p := ⟨b, off + j * 2 + 1, none⟩) hbl).trans hv1
      clear hbr
      obtain ⟨x0, x1⟩ := x
      simp only at p0 p1 hrv' hx
      have HL := hidden (hL.step ho.isMap x0 x1 av x1.length cv hrv')
      have HK := hidden (htk)
      have HO := hidden (ho.alloc (.cells #[.int .i64 x0, .slice av x1.length cv] 100))
      have hkey : keyOf Try.prog 3 (.int .i64 x0) = some (.int .i64 x0) := keyOf_int_mk Try.underlying3 (WalkArith.wf_i64 (by omega))
      have HKEY := hidden hkey
      have HB := hidden (hb.alloc hb.size (.cells #[.int .i64 x0, .slice av x1.length cv] 100))
      clear hcs hdj hv0 hv1 hrv hrv' hmem htk ho hL hkey
      go_wp2_with (at_mapUpdate; refine wpList_mapUpdate_own _ rfl _ _ _ 111 rfl 3 100 lawInt Try.underlying111 heldV w.heap.size j D rfl ?_ ?_ _ _ (.int .i64 x0) rfl rfl ?_ (.held (.agg #[.int .i64 x0, .slice av x1.length cv])) [] rfl ?_; exact HO.out; unfold maxLen; omega; exact HKEY.out; intro w1 hown1 hgrow1; have HO1 := hidden hown1; have HG1 := hidden hgrow1; clear hown1 hgrow1)
      have hB1 : Below w.heap.size w w1 := HB.out.grown HG1.out HB.out.size (fun k hk => by cases hk; exact Nat.le_refl _)
      clear HB HG1 HO hb
      go_roundw
      case rel => exact ⟨j + 1, by omega, by go_num, hB1, _, HO1.out, by rw [HK.out]; exact HL.out⟩
      case measure => simp [intOf]; omega
    · have e : j = n := by omega
      subst e
      rw [List.take_of_length_le (by omega)] at hL
      go_wp2
      go_ret
      exact ⟨rfl, hb, D, ho, hL⟩

theorem newest_any (w : World) (E : TypeId) (a : Option Addr) (n cap : Nat) (d : List (Int × List Int)) (h : (tWrS E).Rd w [.slice a n cap] d) (hn : n ≤ 2097152) (hd : ∀ x ∈ d, 0 ≤ x.1 ∧ x.1 ≤ 20) :
    Calls Try.prog 81 #[.slice a n cap] w fun e w' => e = .returned (.map (some w.heap.size)) ∧ Below w.heap.size w w' ∧ ∃ D, w'.ownsMap Try.prog 3 heldV w.heap.size n D ∧ LastOk w d D := newest_at w w (Below.refl _ _) E a n cap d h hn hd

theorem key_int {q : Int} (h0 : 0 ≤ q) (h1 : q ≤ 2097152) : keyOf Try.prog 3 (.int .i64 q) = some (.int .i64 q) := keyOf_int_mk Try.underlying3 (WalkArith.wf_i64 (by omega))
theorem zeroWr (w : World) : (zeroValue 100).run Try.prog w = .ok (.agg #[.int .i64 0, .slice none 0 0]) w := by kernel_rfl

/-- What is looked up in such a map and is there. -/
theorem look_some {w : World} {ops : Array Oper} {rest : List Oper} {o : Oper} {a : Act} {Q : Exit → Act → World → Prop} (hg : o.guard = none) (m x : Operand) (hop : o.op = Op.lookup 111 m x true) (b n : Nat) (D : DataW Value) (w0 : World) (d : List (Int × List Int)) (q : Int) (zs : List Int)
    (hm : a.eval m = .map (some b)) (hown : w.ownsMap Try.prog 3 heldV b n D) (hx : a.eval x = .int .i64 q) (hkey : keyOf Try.prog 3 (.int .i64 q) = some (.int .i64 q)) (hL : LastOk w0 d D) (hs : lastW d q = some zs)
    (hK : ∀ a' c', tIntS.Rd w0 [.slice a' zs.length c'] zs → wpList Try.prog ops Q rest (a.put o.dst (.tuple #[.agg #[.int .i64 q, .slice a' zs.length c'], .bool true])) w) : wpList Try.prog ops Q (o :: rest) a w := by
  obtain ⟨h1, a', n', c', h2, h3⟩ := (hL q).2 zs hs
  obtain ⟨hl, _, _⟩ := row_length h3
  subst hl
  refine wpList_lookup_own_ok w hg m x _ hop 3 100 lawInt Try.underlying111 heldV (zeroWr w) (.held (.agg #[.int .i64 0, .slice none 0 0])) [] rfl b n D hm hown _ _ hx hkey ?_
  intro v ps hv
  rw [h2] at hv
  have hv' : v = .agg #[.int .i64 q, .slice a' zs.length c'] := by simp [heldV] at hv; exact hv.1
  subst hv'
  rw [h1]
  exact hK a' c' h3

/-- What is looked up in such a map and is not there. -/
theorem look_none {w : World} {ops : Array Oper} {rest : List Oper} {o : Oper} {a : Act} {Q : Exit → Act → World → Prop} (hg : o.guard = none) (m x : Operand) (hop : o.op = Op.lookup 111 m x true) (b n : Nat) (D : DataW Value) (w0 : World) (d : List (Int × List Int)) (q : Int)
    (hm : a.eval m = .map (some b)) (hown : w.ownsMap Try.prog 3 heldV b n D) (hx : a.eval x = .int .i64 q) (hkey : keyOf Try.prog 3 (.int .i64 q) = some (.int .i64 q)) (hL : LastOk w0 d D) (hs : lastW d q = none)
    (hK : wpList Try.prog ops Q rest (a.put o.dst (.tuple #[.agg #[.int .i64 0, .slice none 0 0], .bool false])) w) : wpList Try.prog ops Q (o :: rest) a w := by
  have h1 := (hL q).1 hs
  refine wpList_lookup_own_ok w hg m x _ hop 3 100 lawInt Try.underlying111 heldV (zeroWr w) (.held (.agg #[.int .i64 0, .slice none 0 0])) [] rfl b n D hm hown _ _ hx hkey ?_
  intro v ps hv
  rw [Maps.atKey_of_not_has h1] at hv
  have hv' : v = .agg #[.int .i64 0, .slice none 0 0] := by simp [heldV] at hv; exact hv.1
  subst hv'
  rw [h1]
  exact hK

end Go.Proofs.Ytgjldmjlbhkgbaa

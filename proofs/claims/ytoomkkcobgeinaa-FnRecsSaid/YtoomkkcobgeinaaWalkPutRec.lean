/-
  Both PutRec (the program's and the specification's) answer as the definition here says. Condition: at most 2097152 words.
-/
import Derived.Test.YtoomkkcobgeinaaWalkRec
import Derived.Test.YtoomkkcobgeinaaFrame
import Derived.Laws.IdiomCopy
import Derived.Laws.MakeOwn
namespace Go.Proofs.Ytoomkkcobgeinaa
open Go.RowKit

def cutO (off n : Nat) : Nat := if n = 4 then off else off + 4
set_option maxHeartbeats 800000 in
theorem cutSlot_any (w : World) (b off n cap : Nat) (h4 : 4 ≤ n) (hc : n ≤ cap) (hm : n ≤ 2097152) :
    Calls Try.prog 39 #[.slice (some ⟨b, off, none⟩) n cap] w fun e w' => e = .returned (.tuple #[.slice (some ⟨b, off, none⟩) 4 4, .slice (some ⟨b, cutO off n, none⟩) (n - 4) (n - 4)]) ∧ Same w w' := by
  unfold cutO
  by_cases h : n = 4
  · rw [if_pos h]
    go_enter Try.func39, Try.ntmps39
    go_wp2_with fail
    go_quiet (fail)
    go_wp2
    refine bodyPost_ret (v := .tuple #[.slice (some ⟨b, off, none⟩) 4 4, .slice (some ⟨b, off, none⟩) 0 0]) (by simp [results, Try.results39, go_sem]) rfl ?_
    subst h
    exact ⟨rfl, (Same.refl _).drewN _⟩
  · rw [if_neg h]
    go_enter Try.func39, Try.ntmps39
    go_wp2_with fail
    go_quiet (fail)
    go_wp2
    refine bodyPost_ret (v := .tuple #[.slice (some ⟨b, off, none⟩) 4 4, .slice (some ⟨b, off + 4, none⟩) (n - 4) (n - 4)]) (by simp [results, Try.results39, go_sem]) rfl ?_
    exact ⟨rfl, (Same.refl _).drewN _⟩

def putR (x y : Int) (zs : List Int) : List Int := if recB x y zs = true then 21322 :: x :: y :: (zs.length : Int) :: zs else []
theorem putR_of {x y : Int} {zs : List Int} (h : recB x y zs = true) : putR x y zs = 21322 :: x :: y :: (zs.length : Int) :: zs := by unfold putR; rw [if_pos h]
theorem putR_not {x y : Int} {zs : List Int} (h : recB x y zs = false) : putR x y zs = [] := by unfold putR; rw [if_neg (by simp [h])]
theorem own_len2 {w : World} {lo hi l : Nat} {a : Option Addr} {c : Nat} {zs ps : List Int} {pl : Nat} (h : tIntS.Own w lo hi [.slice a l c] zs) (hp : zs = ps) (hl : ps.length = pl) : l = pl ∧ tIntS.Own w lo hi [.slice a pl c] ps := by
  subst hp
  have h2 := (ints_rd h.rd).2.1
  have : l = pl := by omega
  subst this
  exact ⟨rfl, h⟩

/-- A row of numbers, some of them set from a place on. -/
theorem own_setCells {lo hi g n : Nat} : ∀ (us : List Int) (o : Nat) (zs : List Int) (w : World), Own .i64 3 w lo hi (.slice (some ⟨g, 0, none⟩) n n) zs → o + us.length ≤ n →
    Own .i64 3 (w.setCells g o (us.map (Value.int .i64))) lo hi (.slice (some ⟨g, 0, none⟩) n n) (zs.take o ++ us ++ zs.drop (o + us.length)) ∧ But lo hi w (w.setCells g o (us.map (Value.int .i64)))
  | [], o, zs, w, h, _ => ⟨by simpa [World.setCells] using h, But.refl _ _ _⟩
  | u :: us, o, zs, w, h, hl => by
    have hz := h.length
    simp only [List.length_cons] at hl
    obtain ⟨_, _, h1, b1⟩ := h.store o (by omega) u
    obtain ⟨h2, b2⟩ := own_setCells us (o + 1) (zs.set o u) _ h1 (by omega)
    refine ⟨?_, b1.trans b2⟩
    have e : (zs.set o u).take (o + 1) ++ us ++ (zs.set o u).drop (o + 1 + us.length) = zs.take o ++ (u :: us) ++ zs.drop (o + (u :: us).length) := by
      rw [List.drop_set, if_pos (by omega), List.take_set, List.take_succ_eq_append_getElem (by omega), List.set_append, if_neg (by simp; omega)]
      have : o - (zs.take o).length = 0 := by simp; omega
      rw [this]
      simp
      omega
    rw [e] at h2
    exact h2

def stored4 (w : World) (g : Nat) (v0 v1 v2 v3 : Value) : World := (((w.setCell ⟨g, 0, none⟩ v0).setCell ⟨g, 1, none⟩ v1).setCell ⟨g, 2, none⟩ v2).setCell ⟨g, 3, none⟩ v3
theorem zeros_cell {w : World} {lo hi g n : Nat} (O : Own .i64 3 w lo hi (.slice (some ⟨g, 0, none⟩) n n) (List.replicate n (0 : Int))) (j : Nat) (h : j < n) : w.cell? ⟨g, j, none⟩ = some (.int .i64 0) ∧ w.frozen? ⟨g, j, none⟩ = false := by
  obtain ⟨h1, h2, _⟩ := O.store j h 0
  refine ⟨?_, h2⟩
  rw [h1]
  simp [h]
/-- Four numbers stored ahead, and the rest copied behind them. -/
theorem put_stores {w : World} {lo hi g n b off cap : Nat} {x0 x1 x2 x3 : Int} {zs : List Int} (O : Own .i64 3 w lo hi (.slice (some ⟨g, 0, none⟩) (4 + n) (4 + n)) (List.replicate (4 + n) (0 : Int))) (hz : zs.length = n) (r : Reads .i64 w (some ⟨b, off, none⟩) zs) (hb : b < lo) (hlo : lo ≤ w.heap.size) :
    (∀ ty, (Builtin.copy_ #[24, 24] ty #[.slice (some ⟨g, 4, none⟩) n n, .slice (some ⟨b, off, none⟩) n cap]).run Try.prog (stored4 w g (.int .i64 x0) (.int .i64 x1) (.int .i64 x2) (.int .i64 x3)) = .ok (goInt n) ((stored4 w g (.int .i64 x0) (.int .i64 x1) (.int .i64 x2) (.int .i64 x3)).setCells g 4 (zs.map (Value.int .i64)))) ∧
    Own .i64 3 ((stored4 w g (.int .i64 x0) (.int .i64 x1) (.int .i64 x2) (.int .i64 x3)).setCells g 4 (zs.map (Value.int .i64))) lo hi (.slice (some ⟨g, 0, none⟩) (4 + n) (4 + n)) (x0 :: x1 :: x2 :: x3 :: zs) ∧
    But lo hi w ((stored4 w g (.int .i64 x0) (.int .i64 x1) (.int .i64 x2) (.int .i64 x3)).setCells g 4 (zs.map (Value.int .i64))) := by
  obtain ⟨_, _, O4, t4⟩ := O.store 0 (by omega) x0
  obtain ⟨_, _, O5, t5⟩ := O4.store 1 (by omega) x1
  obtain ⟨_, _, O6, t6⟩ := O5.store 2 (by omega) x2
  obtain ⟨_, _, O7, t7⟩ := O6.store 3 (by omega) x3
  have T := ((t4.trans t5).trans t6).trans t7
  have eL : ((((List.replicate (4 + n) (0 : Int)).set 0 x0).set 1 x1).set 2 x2).set 3 x3 = x0 :: x1 :: x2 :: x3 :: List.replicate n (0 : Int) := by
    rw [Nat.add_comm 4 n]
    rfl
  rw [eL] at O7
  change Own .i64 3 (stored4 w g (.int .i64 x0) (.int .i64 x1) (.int .i64 x2) (.int .i64 x3)) lo hi _ _ at O7
  change But lo hi w (stored4 w g (.int .i64 x0) (.int .i64 x1) (.int .i64 x2) (.int .i64 x3)) at T
  generalize stored4 w g (.int .i64 x0) (.int .i64 x1) (.int .i64 x2) (.int .i64 x3) = U at O7 T ⊢
  have rU : Reads .i64 U (some ⟨b, off, none⟩) zs := r.old (B := lo) (by intro q hq; simp at hq; rw [← hq]; exact hb) (T.below (Nat.le_refl _) hlo)
  obtain ⟨O8, t8⟩ := own_setCells zs 4 _ U O7 (by omega)
  have e8 : (x0 :: x1 :: x2 :: x3 :: List.replicate n (0 : Int)).take 4 ++ zs ++ (x0 :: x1 :: x2 :: x3 :: List.replicate n (0 : Int)).drop (4 + zs.length) = x0 :: x1 :: x2 :: x3 :: zs := by
    rw [List.drop_of_length_le (by simp; omega)]
    simp
  rw [e8] at O8
  refine ⟨fun ty => ?_, O8, T.trans t8⟩
  have := run_copy_cells (P := Try.prog) U 24 24 ty 3 g 4 n n ⟨b, off, none⟩ n cap (zs.map (Value.int .i64)) Try.underlying24 (by kernel_rfl) (by simp [hz]) rU.cells
    (fun j hj => by rw [(O7.store (4 + j) (by simp at hj; omega) 0).1]; rfl) (fun j hj => (O7.store (4 + j) (by simp at hj; omega) 0).2.1) (ints_plain _)
  rw [this]
  simp [hz]

set_option maxHeartbeats 1600000 in
theorem specPutRec_any (w : World) (x y : Int) (a : Option Addr) (n cap : Nat) (zs : List Int) (hz : zs.length = n) (hr : Reads .i64 w a zs) (hn : n ≤ 2097152) :
    Calls Try.prog 30 #[.agg #[.int .i64 x, .int .i64 y, .slice a n cap]] w fun e w' => ∃ a l c, e = .returned (.slice a l c) ∧ tIntS.Own w' w.heap.size w'.heap.size [.slice a l c] (putR x y zs) ∧ Below w.heap.size w w' := by
  have hA := new_below w (.cells #[.int .i64 x, .int .i64 y, .slice a n cap] 26)
  have X := Box.new w 26 #[.int .i64 x, .int .i64 y, .slice a n cap]
  have hr' := hr.below hA
  obtain ⟨k0, k1, k2⟩ := X.cells3
  have zA := X.lt
  go_enter Try.func30, Try.ntmps30
  go_wp2_with fail
  generalize w.alloc (.cells #[.int .i64 x, .int .i64 y, .slice a n cap] 26) = W at hA X k0 k1 k2 zA hr' ⊢
  refine (specRecOk_any _ _ _ _ _ _ zs hz hr' hn).mono ?_
  rintro e w1 ⟨rfl, b1⟩
  have X1 := X.below b1 zA
  have B1 := Below.andThen hA b1
  have r1 := hr'.below b1
  clear k0 k1 k2 X b1 hA zA hr' hr
  obtain ⟨k0, k1, k2⟩ := X1.cells3
  by_cases hx : recB x y zs = true
  · have HX := hidden (putR_of hx)
    obtain ⟨_, _, ⟨hn2, hn4⟩, _⟩ := recB_of.1 hx
    rcases r1.cases with h0 | ⟨b, off, rfl, hb, _⟩
    · omega
    have hB2 := new_below w1 (.cells #[.int .i64 21322, .int .i64 x, .int .i64 y, .int .i64 n] 3)
    have k2' := (hB2.cell (p := ⟨w.heap.size, 2, none⟩) X1.lt).trans k2
    have r2 := r1.below hB2
    have hO : Owns .i64 3 (w1.alloc (.cells #[.int .i64 21322, .int .i64 x, .int .i64 y, .int .i64 n] 3)) w1.heap.size (.slice (some ⟨w1.heap.size, 0, none⟩) 4 4) [21322, x, y, n] := Owns.lit .i64 3 w1 [21322, x, y, n] 4 _ rfl rfl (by unfold maxLen; omega)
    obtain ⟨i0, hi, hz0, hz1, hz2⟩ := info_parts Try.info3
    go_wp2_with (at_builtin; refine wpList_app .i64 rfl _ _ 24 rfl w1.heap.size 3 i0 (.int .i64 0) 8 Try.underlying24 hi hz0 hz1 hz2 rfl _ [21322, x, y, (n : Int)] rfl hO ⟨b, off, none⟩ n cap zs rfl hz r2 (by unfold maxLen; simp; omega) (by simp; omega) (by simp) ?_; intro v' w2 ho2 hb2; obtain ⟨a1, c1, hv1, _⟩ := ho2.shape; rw [show ([21322, x, y, (n : Int)] ++ zs).length = n + 4 by simp; omega] at hv1; subst hv1)
    go_ret
    refine ⟨_, _, _, rfl, ?_, B1.trans ((hB2.trans hb2).mono B1.size)⟩
    rw [HX.out, hz]
    exact (own_ints ho2).widen B1.size (Nat.le_refl _)
  · have hx' : recB x y zs = false := by simpa using hx
    have HX := hidden (putR_not hx')
    go_wp2
    go_ret
    refine ⟨_, _, _, rfl, ?_, B1.alloc B1.size _⟩
    rw [HX.out]
    exact (own_ints (Owns.lit .i64 3 w1 [] 0 #[] rfl rfl (by unfold maxLen; omega))).widen B1.size (Nat.le_refl _)

set_option maxHeartbeats 1600000 in
theorem implPutRec_any (w : World) (x y : Int) (a : Option Addr) (n cap : Nat) (zs : List Int) (hz : zs.length = n) (hr : Reads .i64 w a zs) (hn : n ≤ 2097152) :
    Calls Try.prog 11 #[.agg #[.int .i64 x, .int .i64 y, .slice a n cap]] w fun e w' => ∃ a l c, e = .returned (.slice a l c) ∧ tIntS.Own w' w.heap.size w'.heap.size [.slice a l c] (putR x y zs) ∧ Below w.heap.size w w' := by
  have hA := new_below w (.cells #[.int .i64 x, .int .i64 y, .slice a n cap] 26)
  have X := Box.new w 26 #[.int .i64 x, .int .i64 y, .slice a n cap]
  have hr' := hr.below hA
  obtain ⟨k0, k1, k2⟩ := X.cells3
  have zA := X.lt
  go_enter Try.func11, Try.ntmps11
  go_wp2_with fail
  generalize w.alloc (.cells #[.int .i64 x, .int .i64 y, .slice a n cap] 26) = W at hA X k0 k1 k2 zA hr' ⊢
  refine (implRecOk_any _ _ _ _ _ _ zs hz hr' hn).mono ?_
  rintro e w1 ⟨rfl, b1⟩
  have X1 := X.below b1 zA
  have B1 := Below.andThen hA b1
  have r1 := hr'.below b1
  clear k0 k1 k2 X b1 hA zA hr' hr
  obtain ⟨k0, k1, k2⟩ := X1.cells3
  by_cases hx : recB x y zs = true
  · have HX := hidden (putR_of hx)
    obtain ⟨_, _, ⟨hn2, hn4⟩, _⟩ := recB_of.1 hx
    rw [hz] at hn2 hn4
    obtain ⟨i0, hi, hz0, hz1, hz2⟩ := info_parts Try.info3
    have hb3 : i0.bytes * (4 + n) ≤ 281474976710656 := by rw [hz2]; omega
    have hm3 : 4 + n ≤ maxLen := by unfold maxLen; omega
    have hwr : IntKind.i64.wrap (4 + (n : Int)) = 4 + (n : Int) := IntWalk.i64_in _ (by omega)
    go_wp2_with (at_make; refine wpList_make_full _ rfl _ _ 24 rfl w1.heap.size 3 i0 (.int .i64 0) 1 Try.underlying24 hi hz0 hz1 _ _ _ _ (4 + n) rfl rfl rfl rfl hb3 hm3 (Nat.le_refl _) ?_; intro w2 hown hgrow)
    have hc0 : cutO 0 (4 + n) = 4 := by unfold cutO; rw [if_neg (by omega)]
    have hsub : 4 + n - 4 = n := by omega
    have o2 : Owns .i64 3 w2 w1.heap.size (.slice (some ⟨w1.heap.size, 0, none⟩) (4 + n) (4 + n)) (List.replicate (4 + n) (0 : Int)) := by
      rw [made_ints] at hown
      unfold Owns
      rw [List.length_replicate]
      exact hown
    have hg2 : Below w1.heap.size w1 w2 := (Below.refl _ _).grown hgrow (Nat.le_refl _) (by simp)
    refine (cutSlot_any _ _ _ _ _ (by omega) (Nat.le_refl _) (by omega)).mono ?_
    rintro e w3 ⟨rfl, hs3⟩
    rw [hc0, hsub]
    have g3 := Below.andSame hg2 hs3
    have X3 := (X1.below g3 X1.lt)
    rcases r1.cases with h0 | ⟨b, off, rfl, hb1, _⟩
    · omega
    have r3 := (r1.below g3)
    have B3 := Below.andThen B1 g3
    have z3 := g3.size
    have O3 : Own .i64 3 w3.drew w1.heap.size w2.heap.size (.slice (some ⟨w1.heap.size, 0, none⟩) (4 + n) (4 + n)) (List.replicate (4 + n) (0 : Int)) := (o2.own.same hs3.drew)
    clear o2 hown hgrow hs3 hg2 g3 k0 k1 k2 r1 hi hz0 hz1 hz2 hb3 hm3 hwr hc0 hsub
    have zX := X1.lt
    clear X1
    obtain ⟨k0, k1, k2⟩ := X3.cells3
    obtain ⟨hcp, O8, t8⟩ := put_stores (x0 := 21322) (x1 := x) (x2 := y) (x3 := n) (cap := cap) O3 hz r3.draw hb1 z3
    obtain ⟨c0, f0⟩ : w3.cell? ⟨w1.heap.size, 0, none⟩ = some (.int .i64 0) ∧ w3.frozen? ⟨w1.heap.size, 0, none⟩ = false := zeros_cell O3 0 (by omega)
    obtain ⟨c1, f1⟩ : w3.cell? ⟨w1.heap.size, 1, none⟩ = some (.int .i64 0) ∧ w3.frozen? ⟨w1.heap.size, 1, none⟩ = false := zeros_cell O3 1 (by omega)
    obtain ⟨c2, f2⟩ : w3.cell? ⟨w1.heap.size, 2, none⟩ = some (.int .i64 0) ∧ w3.frozen? ⟨w1.heap.size, 2, none⟩ = false := zeros_cell O3 2 (by omega)
    obtain ⟨c3, f3⟩ : w3.cell? ⟨w1.heap.size, 3, none⟩ = some (.int .i64 0) ∧ w3.frozen? ⟨w1.heap.size, 3, none⟩ = false := zeros_cell O3 3 (by omega)
    have o9 := hidden O8
    have b9 := hidden (B3.drew.trans (t8.below (B := w.heap.size) (by omega) B3.size))
    clear O8 t8 O3 r3
    have hcp' : ∀ ty, (Builtin.copy_ #[24, 24] ty #[.slice (some ⟨w1.heap.size, 4, none⟩) n n, .slice (some ⟨b, off, none⟩) n cap]).run Try.prog (stored4 w3 w1.heap.size (.int .i64 21322) (.int .i64 x) (.int .i64 y) (.int .i64 n)).drew = .ok (goInt n) ((stored4 w3.drew w1.heap.size (.int .i64 21322) (.int .i64 x) (.int .i64 y) (.int .i64 n)).setCells w1.heap.size 4 (zs.map (Value.int .i64))) := hcp
    clear hcp
    generalize (stored4 w3.drew w1.heap.size (.int .i64 21322) (.int .i64 x) (.int .i64 y) (.int .i64 n)).setCells w1.heap.size 4 (zs.map (Value.int .i64)) = w9 at hcp' o9 b9
    unfold stored4 at hcp'
    have hne : ¬ w1.heap.size = w.heap.size := by omega
    have hne' : ¬ w.heap.size = w1.heap.size := by omega
    go_wp2_with fail
    go_region_held3 (fun w' => w'.cell? ⟨w.heap.size, 0, none⟩ = some (.int .i64 x) ∧ w'.cell? ⟨w.heap.size, 1, none⟩ = some (.int .i64 y) ∧ w'.cell? ⟨w.heap.size, 2, none⟩ = some (.slice (some ⟨b, off, none⟩) n cap)) (first | (exact ⟨k0, k1, k2⟩) | go_keep) (fail)
    go_wp2
    go_ret
    refine ⟨_, _, _, rfl, ?_, b9.out⟩
    rw [HX.out, hz]
    exact (own_ints o9.out.1).widen B1.size (Nat.le_refl _)
  · have hx' : recB x y zs = false := by simpa using hx
    have HX := hidden (putR_not hx')
    go_wp2
    go_ret
    refine ⟨_, _, _, rfl, ?_, B1.alloc B1.size _⟩
    rw [HX.out]
    exact (own_ints (Owns.lit .i64 3 w1 [] 0 #[] rfl rfl (by unfold maxLen; omega))).widen B1.size (Nat.le_refl _)

end Go.Proofs.Ytoomkkcobgeinaa

/-
  The walk of the specification's l8Stripe: a stripe as it is asked. Conditions: the array weighs at most 2097152; a right Geo, such a stripe.
-/
import Derived.Test.YtialakmmifhliaaGreatWalk8a
import Derived.Test.YtialakmmifhliaaGreatWalkWords3
namespace Go.Proofs.YtialakmmifhliaaGreat
open Go.RowKit

/-- Whether a stripe is there, as it is asked; its blocks. -/
def ok8 (x : ArrN) (ms : List MemD) (ds : List (Int × List Int)) (s : Int) : Bool := if at8 ds s = -1 then !x.broken && wordsB x ms s else true
def dat8 (x : ArrN) (ms : List MemD) (ds : List (Int × List Int)) (s : Int) : List Int := if at8 ds s = -1 then (if x.broken = true then [] else data6 x ms s) else (ds.getD (at8 ds s).toNat (0, [])).2

set_option linter.unusedSimpArgs false in
set_option maxRecDepth 20000 in
set_option maxHeartbeats 1600000 in
theorem l8Stripe_any (w : World) (E F G : TypeId) (x : ArrN) (am ad : Option Addr) (nm cm nd cd : Nat) (ms : List MemD) (ds : List (Int × List Int)) (s : Int) (h0 : (tMemS E F).Rd w [.slice am nm cm] ms) (h1 : (tWrS G).Rd w [.slice ad nd cd] ds) (hw : wtArr ms ds ≤ 2097152) (hg : geoB x.n x.s = true) (ht : inB s 0 (x.s - 1) = true) :
    Calls Tryz.prog 31 #[.agg #[.int .i64 x.id, .int .i64 x.n, .int .i64 x.s, .slice am nm cm, .int .i64 x.lost, .int .i64 x.built, .int .i64 x.seq, .int .i64 x.tail, .int .i64 x.gen, .slice ad nd cd, .int .i64 x.fuse, .bool x.down, .bool x.broken], .int .i64 s] w fun e w' => ∃ a' l' c', e = .returned (.tuple #[.slice a' l' c', .bool (ok8 x ms ds s)]) ∧ tIntS.Own w' w.heap.size w'.heap.size [.slice a' l' c'] (dat8 x ms ds s) ∧ Below w.heap.size w w' := by
  obtain ⟨i0, hi, hz0, hz1, hz2⟩ := info_parts Tryz.info3
  have hwm : wtMemS ms ≤ 2097152 := by unfold wtArr at hw; omega
  have hwd : wtWrS ds ≤ 2097152 := by unfold wtArr at hw; omega
  obtain ⟨hl1, _, _⟩ := row_length h1
  have hnd : nd ≤ 2097152 := by unfold wtWrS at hwd; omega
  have hA := new_below w (.cells #[.int .i64 x.id, .int .i64 x.n, .int .i64 x.s, .slice am nm cm, .int .i64 x.lost, .int .i64 x.built, .int .i64 x.seq, .int .i64 x.tail, .int .i64 x.gen, .slice ad nd cd, .int .i64 x.fuse, .bool x.down, .bool x.broken] 35)
  have X0 := Box.new w 35 #[.int .i64 x.id, .int .i64 x.n, .int .i64 x.s, .slice am nm cm, .int .i64 x.lost, .int .i64 x.built, .int .i64 x.seq, .int .i64 x.tail, .int .i64 x.gen, .slice ad nd cd, .int .i64 x.fuse, .bool x.down, .bool x.broken]
  have zX := X0.lt
  have r0 := h0.below hA
  have r1 := h1.below hA
  obtain ⟨k0, k1, k2, k3, k4, k5, k6, k7, k8, k9, k10, k11, k12⟩ := X0.cells13
  go_enter Tryz.func31, Tryz.ntmps31
  go_wp2_with fail
  generalize w.alloc (.cells #[.int .i64 x.id, .int .i64 x.n, .int .i64 x.s, .slice am nm cm, .int .i64 x.lost, .int .i64 x.built, .int .i64 x.seq, .int .i64 x.tail, .int .i64 x.gen, .slice ad nd cd, .int .i64 x.fuse, .bool x.down, .bool x.broken] 35) = W at hA X0 zX r0 r1 k0 k1 k2 k3 k4 k5 k6 k7 k8 k9 k10 k11 k12 ⊢
  refine (l8At_any _ G x _ _ _ _ _ _ ds s r1 hnd).mono ?_
  rintro e w1 ⟨rfl, b1⟩
  have X1 := X0.below b1 zX
  have p0 := r0.below b1
  have p1 := r1.below b1
  have B1 := Below.andThen hA b1
  clear k0 k1 k2 k3 k4 k5 k6 k7 k8 k9 k10 k11 k12 X0 r0 r1 b1 hA zX
  obtain ⟨k0, k1, k2, k3, k4, k5, k6, k7, k8, k9, k10, k11, k12⟩ := X1.cells13
  rcases at8_cases ds s with hat | ⟨j, d, hat, hdj, hds⟩
  · have HK : Hid (ok8 x ms ds s = (!x.broken && wordsB x ms s)) := by unfold Hid ok8; rw [if_pos hat]
    have HD : Hid (dat8 x ms ds s = if x.broken = true then [] else data6 x ms s) := by unfold Hid dat8; rw [if_pos hat]
    rw [hat]
    clear hat
    cases hbr : x.broken
    · have HK2 : Hid (ok8 x ms ds s = wordsB {x with broken := false} ms s) := by unfold Hid; rw [HK.out, hbr]; rfl
      have HD2 : Hid (dat8 x ms ds s = data6 {x with broken := false} ms s) := by unfold Hid; rw [HD.out, hbr, if_neg (by simp)]; rfl
      rw [hbr] at k12
      clear hbr HK HD
      go_wp2_with fail
      refine (l6Data_any _ E F {x with broken := false} _ _ _ _ _ _ ms s p0 hwm hg ht).mono ?_
      rintro e w2 ⟨a2, l2, c2, rfl, o2, b2⟩
      have HO := hidden (o2.widen (lo' := w.heap.size) (hi' := w2.heap.size) B1.size (Nat.le_refl _))
      have HB := hidden (Below.andThen B1 b2)
      clear o2 b2 B1 X1 p0 p1 k0 k1 k2 k3 k4 k5 k6 k7 k8 k9 k10 k11 k12
      go_wp2
      refine bodyPost_ret (v := .tuple #[.slice a2 l2 c2, .bool (wordsB {x with broken := false} ms s)]) (by simp [results, Tryz.results31, go_sem]) rfl ?_
      exact ⟨a2, l2, c2, by rw [HK2.out], by rw [HD2.out]; exact HO.out, HB.out⟩
    · have HK2 : Hid (ok8 x ms ds s = false) := by unfold Hid; rw [HK.out, hbr]; rfl
      have HD2 : Hid (dat8 x ms ds s = []) := by unfold Hid; rw [HD.out, hbr, if_pos rfl]
      rw [hbr] at k12
      clear hbr HK HD
      have HO := hidden ((own_ints (Owns.lit .i64 3 w1 [] 0 #[] rfl rfl (by unfold maxLen; omega))).widen (lo' := w.heap.size) B1.size (Nat.le_refl _))
      have HB := hidden (Below.andThen B1 (new_below w1 (.cells #[] 3)))
      clear B1 X1 p0 p1
      go_wp2
      refine bodyPost_ret (v := .tuple #[.slice (some ⟨w1.heap.size, 0, none⟩) 0 0, .bool false]) (by simp [results, Tryz.results31, go_sem]) rfl ?_
      exact ⟨_, _, _, by rw [HK2.out], by rw [HD2.out]; exact HO.out, HB.out⟩
  · have HK : Hid (ok8 x ms ds s = true) := by unfold Hid ok8; rw [if_neg (by omega)]
    have HD : Hid (dat8 x ms ds s = d.2) := by unfold Hid dat8; rw [if_neg (by omega), hat, Int.toNat_natCast, List.getD_eq_getElem?_getD, hdj]; rfl
    have hjl := (List.getElem?_eq_some_iff.1 hdj).1
    have hil := inner_le' hdj
    rcases pairs_at rfl p1 with h9 | ⟨b, off, rfl, hbl, hcs⟩
    · omega
    obtain ⟨u0, u1, hv0, hv1, hrv⟩ := hcs j d hdj
    obtain ⟨rfl, hrv'⟩ := wr_rd hrv
    obtain ⟨av, cv, rfl⟩ := row_shape hrv'
    rw [hat]
    obtain ⟨y, ys⟩ := d
    simp only at hv0 hv1 hrv' hil HD
    have hB := new_below w1 (.cells #[] 3)
    have hO : Owns .i64 3 (w1.alloc (.cells #[] 3)) w1.heap.size (.slice (some ⟨w1.heap.size, 0, none⟩) 0 0) [] := Owns.lit .i64 3 w1 [] 0 #[] rfl rfl (by unfold maxLen; omega)
    have q0 := (hB.cell (p := ⟨b, off + j * 2, none⟩) hbl).trans hv0
    have q1 := (hB.cell (p := ⟨b, off + j * 2 + 1, none⟩) hbl).trans hv1
    have c9 := (hB.cell (p := ⟨w.heap.size, 9, none⟩) X1.lt).trans k9
    have k1 : (0 : Int) ≤ (j : Int) := by omega
    have k2 : (j : Int) < (nd : Int) := by omega
    have rv := hrv'.below hB
    have BB := hidden (Below.andThen B1 hB)
    have HR := hidden rv
    obtain ⟨hr, hl, _, _⟩ := ints_rd rv
    have zB := B1.size
    clear hat hdj hds hcs hrv hrv' B1 X1 p0 p1 hB rv
    match av, hr, HR with
    | none, _, HR =>
      have hn := row_nil HR.out
      obtain ⟨hn0, hc0, hy0⟩ := hn
      subst hc0
      have hn0' : ys.length = 0 := hn0
      rw [hn0'] at q1 hv1
      have FO := hidden ((own_ints hO).widen (lo' := w.heap.size) zB (Nat.le_refl _))
      go_wp2_with (at_builtin; refine wpList_append_own_none rfl _ _ 29 rfl w1.heap.size 3 i0 1 Tryz.underlying29 hi _ 0 [] rfl hO rfl ?_)
      refine bodyPost_ret (v := .tuple #[.slice (some ⟨w1.heap.size, 0, none⟩) 0 0, .bool true]) (by simp [results, Tryz.results31, go_sem]) rfl ?_
      exact ⟨_, _, _, by rw [HK.out], by rw [HD.out, hy0]; exact FO.out, BB.out⟩
    | some adr, hr, _ =>
      go_wp2_with (at_builtin; refine wpList_app .i64 rfl _ _ 29 rfl w1.heap.size 3 i0 (.int .i64 0) 8 Tryz.underlying29 hi hz0 hz1 hz2 rfl _ [] rfl hO adr ys.length cv ys rfl rfl hr (by unfold maxLen; simp; omega) (by simp; omega) (by simp) ?_; intro v' w2 ho1 hb1; obtain ⟨a1, c1, hv1', _⟩ := ho1.shape; rw [List.nil_append] at hv1' ho1; subst hv1')
      have FO := hidden ((own_ints ho1).widen (lo' := w.heap.size) zB (Nat.le_refl _))
      have FB := hidden (BB.out.trans (hb1.mono zB))
      refine bodyPost_ret (v := .tuple #[.slice a1 ys.length c1, .bool true]) (by simp [results, Tryz.results31, go_sem]) rfl ?_
      exact ⟨_, _, _, by rw [HK.out], by rw [HD.out]; exact FO.out, FB.out⟩

end Go.Proofs.YtialakmmifhliaaGreat

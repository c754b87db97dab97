/-
  The walk of the specification's l8Set: a block that is there is set. Conditions: the array is right, and there is such a block; it weighs at most 2097152, with at most 500000 entries.
-/
import Derived.Test.YtjmjianlcoleaaaGreatWalk8b
import Derived.Test.YtjmjianlcoleaaaGreatWalk8c
import Derived.Test.YtjmjianlcoleaaaGreatWalkGeoSpec
import Derived.Test.YtjmjianlcoleaaaGreatStore
namespace Go.Proofs.YtjmjianlcoleaaaGreat
open Go.RowKit

/-- What SetBlock makes of the entries: where the stripe cannot be read, nothing. -/
def setB8 (x : ArrN) (ms : List MemD) (ds : List EntD) (b n : Int) : List EntD := if ok8 x ms ds (stripeN x.n x.s b) = true then put8 ds (stripeN x.n x.s b, (dat8 x ms ds (stripeN x.n x.s b)).set (indexN x.n x.s b).toNat n) else ds
def set8C (x : ArrN) (ms : List MemD) (ds : List EntD) (b : Int) : Int := if ok8 x ms ds (stripeN x.n x.s b) = true then 0 else 5
theorem block_in {n s b : Int} (hg : geoB n s = true) (hb : blockB n s b = true) : 0 ≤ stripeN n s b ∧ stripeN n s b ≤ s - 1 ∧ 0 ≤ indexN n s b ∧ indexN n s b < n - 1 := by
  obtain ⟨g1, g2, g3, g4⟩ := geoB_iff.1 hg
  have hb2 := hb
  unfold blockB blocksN at hb2
  rw [if_pos hg] at hb2
  have h3 := inB_iff.1 hb2
  unfold stripeN indexN
  rw [if_pos hb, if_pos hb]
  have h1 := Int.emod_nonneg b (show n - 1 ≠ 0 by omega)
  have h2 := Int.emod_lt_of_pos b (show (0 : Int) < n - 1 by omega)
  have h5 : b / (n - 1) < s := Int.ediv_lt_of_lt_mul (by omega) (by omega)
  have h4 : 0 ≤ b / (n - 1) := Int.ediv_nonneg h3.1 (by omega)
  exact ⟨h4, by omega, h1, h2⟩
theorem dat8_len {x : ArrN} {ms : List MemD} {ds : List EntD} {s : Int} (ha : arrB x ms ds = true) (hk : ok8 x ms ds s = true) : ((dat8 x ms ds s).length : Int) = x.n - 1 := by
  unfold arrB entsB at ha
  simp only [Bool.and_eq_true] at ha
  obtain ⟨hg, _, _, he, _⟩ := ha
  obtain ⟨g1, g2, _⟩ := geoB_iff.1 hg
  rcases at8_cases ds s with hat | ⟨j, d, hat, hdj, _⟩
  · unfold ok8 at hk
    rw [if_pos hat] at hk
    simp only [Bool.and_eq_true, Bool.not_eq_true'] at hk
    unfold dat8 data6
    rw [if_pos hat, if_neg (by simp [hk.1]), if_pos hk.2, pickL_len]
    omega
  · have h1 := allIx_iff.1 he j d hdj
    unfold entAt at h1
    simp only [Bool.and_eq_true, decide_eq_true_eq] at h1
    unfold dat8
    rw [if_neg (by omega), hat, Int.toNat_natCast, List.getD_eq_getElem?_getD, hdj]
    exact h1.2.1

set_option linter.unusedSimpArgs false in
set_option maxRecDepth 20000 in
set_option maxHeartbeats 1600000 in
theorem l8Set_any (w : World) (B : Nat) (x : ArrN) (ms : List MemD) (ds : List EntD) (fm fd : List Nat) (h : ArrAt w B x ms ds fm fd) (ha : arrB x ms ds = true) (hw : wtArr ms ds ≤ 2097152) (hl : ds.length ≤ 500000) (b n : Int) (hb : blockB x.n x.s b = true) :
    Calls Tryz.prog 38 #[.pointer (some ⟨B, 0, none⟩), .int .i64 b, .int .i64 n] w fun e w' => e = .returned (.int .i64 (set8C x ms ds b)) ∧ ∃ fd', ArrAt w' B x ms (setB8 x ms ds b n) fm fd' ∧ Turned (B :: fd) w w' ∧ ∀ b ∈ fd', b ∈ fd ∨ w.heap.size ≤ b := by
  have hg : geoB x.n x.s = true := by
    unfold arrB at ha
    simp only [Bool.and_eq_true] at ha
    exact ha.1
  obtain ⟨s1, s2, i1, i2⟩ := block_in hg hb
  have hdl := fun hk => dat8_len (s := stripeN x.n x.s b) ha hk
  have HV : Hid (setB8 x ms ds b n = if ok8 x ms ds (stripeN x.n x.s b) = true then put8 ds (stripeN x.n x.s b, (dat8 x ms ds (stripeN x.n x.s b)).set (indexN x.n x.s b).toNat n) else ds) := rfl
  have HC : Hid (set8C x ms ds b = if ok8 x ms ds (stripeN x.n x.s b) = true then 0 else 5) := rfl
  have ht : inB (stripeN x.n x.s b) 0 (x.s - 1) = true := inB_iff.2 ⟨s1, s2⟩
  have HA := hidden h
  have hlB := h.lt
  have hlm := h.ltm
  obtain ⟨bm, bd, cm, cd, X, hm, hd, hr, r1, r2⟩ := h
  unfold arrC at X
  obtain ⟨k0, k1, k2, k3, k4, k5, k6, k7, k8, k9, k10, k11, k12⟩ := X.cells13
  have HM := hidden hm.rd
  have HD := hidden hd.rd
  have HX := hidden X
  clear X hm hd hr r1 r2 ha
  go_enter Tryz.func38, Tryz.ntmps38
  go_wp2_with fail
  refine (specStripeOf_any _ x.n x.s b).mono ?_
  rintro e w1 ⟨rfl, b1⟩
  have X1 := HX.out.below b1 hlB
  have m1 := HM.out.below b1
  have d1 := HD.out.below b1
  have z1 := b1.size
  clear k0 k1 k2 k3 k4 k5 k6 k7 k8 k9 k10 k11 k12
  obtain ⟨k0, k1, k2, k3, k4, k5, k6, k7, k8, k9, k10, k11, k12⟩ := X1.cells13
  generalize hS : stripeN x.n x.s b = s at hdl HV HC ht s1 s2 ⊢
  clear hS
  go_wp2_with fail
  refine (l8Stripe_any _ 123 87 65 x _ _ _ _ _ _ ms ds s m1 d1 hw hg ht).mono ?_
  rintro e w2 ⟨a2, l2, c2, rfl, o2, b2⟩
  have X2 := X1.below b2 (by omega)
  have B2 := Below.andThen b1 b2
  have z2 := b2.size
  clear k0 k1 k2 k3 k4 k5 k6 k7 k8 k9 k10 k11 k12 X1 m1 d1 b1 b2
  cases hok : ok8 x ms ds s
  · have HV2 : Hid (setB8 x ms ds b n = ds ∧ set8C x ms ds b = 5) := by unfold Hid; rw [HV.out, HC.out, hok]; exact ⟨rfl, rfl⟩
    have HA2 := hidden (HA.out.below B2)
    have HT := hidden (Turned.ofBelow B2 (B :: fd))
    clear hok B2 o2 X2
    go_wp2
    go_ret
    refine ⟨ret_int HV2.out.2.symm, fd, ?_, HT.out, fun b hb => .inl hb⟩
    rw [HV2.out.1]
    exact HA2.out
  · have HV2 : Hid (setB8 x ms ds b n = put8 ds (s, (dat8 x ms ds s).set (indexN x.n x.s b).toNat n) ∧ set8C x ms ds b = 0) := by unfold Hid; rw [HV.out, HC.out, hok]; exact ⟨rfl, rfl⟩
    have hlen := hdl hok
    clear hok hdl
    obtain ⟨rfl, _⟩ := row_length o2.rd
    obtain ⟨fe, me, re⟩ := o2.mine
    obtain ⟨k0, k1, k2, k3, k4, k5, k6, k7, k8, k9, k10, k11, k12⟩ := X2.cells13
    go_wp2_with fail
    refine (specIndexOf_any _ x.n x.s b).mono ?_
    rintro e w3 ⟨rfl, b3⟩
    have B3 := Below.andThen B2 b3
    have m3 := me.below b3
    have z3 := b3.size
    generalize indexN x.n x.s b = ix at i1 i2 HV2 ⊢
    obtain ⟨i, rfl⟩ := Int.eq_ofNat_of_zero_le i1
    rw [Int.toNat_natCast] at HV2
    generalize dat8 x ms ds s = zs at m3 me hlen HV2 ⊢
    have hil : i < zs.length := by omega
    obtain ⟨g, rfl⟩ := row_head m3 (by omega)
    obtain ⟨⟨old, ho⟩, fz, hgf, fe', ms', rs'⟩ := row_set1 (t := intTy) (v := .int .i64 n) (x := n) (f := []) rfl m3 hil ⟨⟨rfl, rfl⟩, by simp⟩ (by simp)
    have i3 : (i : Int) < (zs.length : Int) := by omega
    have BS : Below w.heap.size w (w3.setCell ⟨g, i, none⟩ (.int .i64 n)) := B3.setCell (show w.heap.size ≤ g by have := (re g hgf).1; omega) _
    have re2 : ∀ b ∈ fe', w.heap.size ≤ b := fun b hb => by
      rcases rs' b hb with h | h
      · have := (re b h).1; omega
      · simp at h
    have HA3 := hidden (HA.out.below BS)
    have HP := hidden (l8Put_any _ B x ms ds fm fd HA3.out s (some ⟨g, 0, none⟩) c2 (zs.set i n) fe' (by rw [List.length_set]; exact ms') (fun hm => by have := re2 _ hm; omega) (fun b hb hm => by have h1 := re2 b hb; have h2 := hlm.1 b hm; omega) (fun b hb hm => by have h1 := re2 b hb; have h2 := hlm.2 b hm; omega) hl)
    rw [List.length_set] at HP
    have HBS := hidden BS
    have RE := hidden re2
    clear k0 k1 k2 k3 k4 k5 k6 k7 k8 k9 k10 k11 k12 X2 me re B2 b3 B3 m3 ms' rs' BS o2 re2 HM HD HX HA
    go_wp2_with fail
    refine HP.out.mono ?_
    rintro e w5 ⟨rfl, fd5, hA5, hT5, hf5⟩
    have HA5 := hidden hA5
    have HT : Hid (Turned (B :: fd) w w5) := ⟨hT5.os.trans HBS.out.os, hT5.tape.trans HBS.out.tape, hT5.output.trans HBS.out.output, Nat.le_trans HBS.out.size hT5.size, fun k hk hn => by
      rw [hT5.block k (Nat.lt_of_lt_of_le hk HBS.out.size) (fun hm => by
        rcases List.mem_cons.1 hm with e | hm
        · exact hn (by rw [e]; exact List.mem_cons_self)
        · rcases List.mem_append.1 hm with hm | hm
          · exact hn (List.mem_cons_of_mem _ hm)
          · have := RE.out k hm; omega), HBS.out.block k hk]⟩
    have HF : Hid (∀ b ∈ fd5, b ∈ fd ∨ w.heap.size ≤ b) := fun b hb => by
      rcases hf5 b hb with h | h | h
      · exact .inl h
      · exact .inr (RE.out b h)
      · exact .inr (Nat.le_trans HBS.out.size h)
    clear hA5 hT5 hf5 HP
    go_wp2
    go_ret
    refine ⟨ret_int HV2.out.2.symm, fd5, ?_, HT.out, HF.out⟩
    rw [HV2.out.1]
    exact HA5.out

end Go.Proofs.YtjmjianlcoleaaaGreat

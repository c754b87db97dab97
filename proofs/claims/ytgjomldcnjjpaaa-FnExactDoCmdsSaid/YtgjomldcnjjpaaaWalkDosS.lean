/-
  The specification's DoCmds answers as the definition says. Conditions: at most 2097152 blocks, at most 1048576 commands and words of them in all.
-/
import Derived.Test.YtgjomldcnjjpaaaWalkDosI
import Derived.Test.YtgjomldcnjjpaaaGot14
import Derived.Test.YtgjomldcnjjpaaaHeld2
import Derived.Test.YtgjomldcnjjpaaaDoCmdV14
namespace Go.Proofs.Ytgjomldcnjjpaaa
open Go.RowKit

/-- What the loop has made: the blocks, and the answers, in blocks that are not the same. -/
structure DosS14 (w wr : World) (gn gs : Int) (nl : Nat) (v8 : Value) (xs : List Int) (fo : List Nat) (v : Value) (ys : List AnsD) (fq : List Nat) : Prop where
  bel : Below w.heap.size w wr
  geo : Box wr w.heap.size 25 #[.int .i64 gn, .int .i64 gs]
  shp : ∃ a c, v8 = .slice a nl c
  own : tIntS.Mine wr [v8] xs fo
  ans : (tAnsS 44).Mine wr [v] ys fq
  inO : ∀ b ∈ fo, w.heap.size < b
  inQ : ∀ b ∈ fq, w.heap.size < b
  apart : ∀ b ∈ fo, b ∉ fq

set_option maxRecDepth 20000 in
set_option maxHeartbeats 3200000 in
theorem specDoCmds_any (w : World) (E : TypeId) (gn gs : Int) (al : Option Addr) (nl cl : Nat) (ls : List Int) (hls : tIntS.Rd w [.slice al nl cl] ls) (hnl : nl ≤ 2097152) (ac : Option Addr) (nc cc : Nat) (cs : List CmdD) (hcs : (tCmdS E).Rd w [.slice ac nc cc] cs) (hw : wttCmdS cs ≤ 1048576) :
    Calls Try.prog 34 #[.agg #[.int .i64 gn, .int .i64 gs], .slice al nl cl, .slice ac nc cc] w fun e w' => ∃ a1 c1 a2 m2 c2, e = .returned (.tuple #[.slice a1 nl c1, .slice a2 m2 c2]) ∧ tIntS.Own w' w.heap.size w'.heap.size [.slice a1 nl c1] (doS gn gs ls cs).1 ∧ (tAnsS 44).Own w' w.heap.size w'.heap.size [.slice a2 m2 c2] (doS gn gs ls cs).2 ∧ Below w.heap.size w w' := by
  obtain ⟨i0, hi, hz0, hz1, hz2⟩ := info_parts Try.infoAns14
  obtain ⟨i3, hi3, hy0, hy1, hy2⟩ := info_parts Try.info3
  obtain ⟨hlc, hcc, hcm⟩ := row_length hcs
  have hl := (row_length hls).1
  have hA := new_below w (.cells #[.int .i64 gn, .int .i64 gs] 25)
  have G := Box.new w 25 #[.int .i64 gn, .int .i64 gs]
  have HL := hls.below hA
  have zg := G.lt
  go_enter Try.func34, Try.ntmps34
  go_upto_region 1 with fail
  generalize w.alloc (.cells #[.int .i64 gn, .int .i64 gs] 25) = W at hA G HL zg ⊢
  have hB2 := new_below W (.cells #[] 3)
  have hO : Owns .i64 3 (W.alloc (.cells #[] 3)) W.heap.size (.slice (some ⟨W.heap.size, 0, none⟩) 0 0) [] := Owns.lit .i64 3 W [] 0 #[] rfl rfl (by unfold maxLen; omega)
  have R2 := HL.below hB2
  go_wp2_with (at_builtin; refine wpList_appAny rfl _ _ 26 rfl W.heap.size i3 Try.underlying26 hi3 hy0 hy1 hy2 _ [] rfl hO _ nl cl ls rfl R2 (by unfold maxLen; simp; omega) (by simp; omega) (by simp) ?_; intro v' w1 ho1 hb1; obtain ⟨a1, c1, hv1, _⟩ := ho1.shape; rw [List.nil_append] at ho1 hv1; rw [hl] at hv1; subst hv1)
  have b1 : Below W.heap.size W w1 := hB2.trans hb1
  obtain ⟨fo, m1, r1⟩ := (own_ints ho1).mine
  have s0 := hA.size
  have s1 := b1.size
  obtain ⟨m, hm⟩ : ∃ m : Nat, min nc 400 = m := ⟨_, rfl⟩
  have hm1 : m ≤ nc := by omega
  have hm4 : m ≤ 400 := by omega
  have hmx : nc ≤ m ∨ 400 ≤ m := by omega
  have hD : doS gn gs ls cs = doL gn gs ls (cs.take m) := by
    unfold doS
    by_cases h4 : 400 ≤ nc
    · rw [show m = 400 by omega]
    · rw [List.take_of_length_le (by omega), List.take_of_length_le (by omega)]
  have hQ0 : DosS14 w (w1.alloc (.cells #[] 44)) gn gs nl (.slice a1 nl c1) ls fo (.slice (some ⟨w1.heap.size, 0, none⟩) 0 0) [] [w1.heap.size] :=
    ⟨(Below.andThen hA b1).alloc (by omega) _, (G.below b1 zg).alloc _, ⟨_, _, rfl⟩, m1.alloc _, lit0_mine w1, fun b hb => by have := r1 b hb; omega, by simp; omega, fun b hb hb' => by have := r1 b hb; simp at hb'; omega⟩
  have HQ := hidden hQ0
  have HD := hidden hD
  clear hQ0 hD m1 r1 ho1 hb1 hO R2 hB2 hm
  go_loopw [8, 9, 10] (fun v8 v i wr => ∃ (j : Nat) (fo fq : List Nat), j ≤ m ∧ i = .int .i64 j ∧ DosS14 w wr gn gs nl v8 (doL gn gs ls (cs.take j)).1 fo v (doL gn gs ls (cs.take j)).2 fq) (fun _ _ i _ => m - (intOf i).toNat)
  case atStart => exact ⟨0, _, _, Nat.zero_le _, rfl, HQ.out⟩
  case round =>
    obtain ⟨j, fo, fq, hj, rfl, hq⟩ := hrel
    have hlen := doL_len gn gs ls (cs.take j)
    obtain ⟨a8, c8, rfl⟩ := hq.shp
    by_cases hjm : j < m
    · rcases cmdS_at hcs with h0' | ⟨bc, off, rfl, hbc, hcc'⟩
      · omega
      obtain ⟨o, d, b, k, zs, hdj⟩ : ∃ o d b k zs, cs[j]? = some (o, d, b, k, zs) := ⟨_, _, _, _, _, List.getElem?_eq_getElem (by omega)⟩
      have hin := cmd_inner hdj
      have hzl : zs.length ≤ 1048576 := by unfold wttCmdS at hw; simp only at hin; omega
      have HST := hidden (doL_snoc (gn := gn) (gs := gs) (ls := ls) hdj)
      obtain ⟨av, cv, x0, x1, x2, x3, x4, hrv⟩ := hcc' j o d b k zs hdj
      have q0 := (hq.bel.cell (p := ⟨bc, off + j * 5, none⟩) hbc).trans x0
      have q1 := (hq.bel.cell (p := ⟨bc, off + j * 5 + 1, none⟩) hbc).trans x1
      have q2 := (hq.bel.cell (p := ⟨bc, off + j * 5 + 2, none⟩) hbc).trans x2
      have q3 := (hq.bel.cell (p := ⟨bc, off + j * 5 + 3, none⟩) hbc).trans x3
      have q4 := (hq.bel.cell (p := ⟨bc, off + j * 5 + 4, none⟩) hbc).trans x4
      obtain ⟨g0, g1⟩ := hq.geo.cells2
      have zgr := hq.geo.lt
      have HQR := hidden hq
      have HQB := hidden hq.bel
      have HO8 := hidden hq.own
      have HLN := hidden hlen
      have HRD := hidden hrv
      have zbc : bc < wr.heap.size := Nat.lt_of_lt_of_le hbc hq.bel.size
      have j1 : (j : Int) < (nc : Int) := by omega
      have j2 : (0 : Int) ≤ (j : Int) := by omega
      have j4 : (j : Int) < 400 := by omega
      generalize (doL gn gs ls (cs.take j)).1 = xs at hq HQR HST HLN HO8
      generalize (doL gn gs ls (cs.take j)).2 = ys at hq HQR HST HLN
      obtain ⟨xs2, cc2, vs, hx⟩ : ∃ xs2 cc2 vs, doC gn gs xs o d b k zs = (xs2, cc2, vs) := ⟨_, _, _, rfl⟩
      obtain ⟨vn, hvn⟩ : ∃ vn, vs.length = vn := ⟨_, rfl⟩
      have HX := hidden hx
      have HV := hidden hvn
      have h1 : do1 gn gs xs (o, d, b, k, zs) = (xs2, d, cc2, vs) := by unfold do1; rw [show doC gn gs xs (o, d, b, k, zs).1 (o, d, b, k, zs).2.1 (o, d, b, k, zs).2.2.1 (o, d, b, k, zs).2.2.2.1 (o, d, b, k, zs).2.2.2.2 = (xs2, cc2, vs) from hx]
      rw [h1] at HST
      clear x0 x1 x2 x3 x4 hcc' hdj hin hq hlen hrv hx hvn h1
      go_upto_region 6 with fail
      go_cut [11, 12] (fun v11 v12 wx => Got14 wr nl vn d cc2 xs2 vs v11 v12 wx)
      case first =>
        have qc : Below wr.heap.size wr wr.drew := (Below.refl _ _).drew
        have g0 : wr.drew.cell? ⟨w.heap.size, 0, none⟩ = some (.int .i64 gn) ∧ wr.drew.cell? ⟨w.heap.size, 1, none⟩ = some (.int .i64 gs) ∧ wr.drew.cell? ⟨bc, off + j * 5, none⟩ = some (.int .i64 o) ∧ wr.drew.cell? ⟨bc, off + j * 5 + 1, none⟩ = some (.int .i64 d) ∧ wr.drew.cell? ⟨bc, off + j * 5 + 2, none⟩ = some (.int .i64 b) ∧ wr.drew.cell? ⟨bc, off + j * 5 + 3, none⟩ = some (.int .i64 k) ∧ wr.drew.cell? ⟨bc, off + j * 5 + 4, none⟩ = some (.slice av zs.length cv) := ⟨(qc.cell (p := ⟨w.heap.size, 0, none⟩) zgr).trans g0, (qc.cell (p := ⟨w.heap.size, 1, none⟩) zgr).trans g1, (qc.cell (p := ⟨bc, off + j * 5, none⟩) zbc).trans q0, (qc.cell (p := ⟨bc, off + j * 5 + 1, none⟩) zbc).trans q1, (qc.cell (p := ⟨bc, off + j * 5 + 2, none⟩) zbc).trans q2, (qc.cell (p := ⟨bc, off + j * 5 + 3, none⟩) zbc).trans q3, (qc.cell (p := ⟨bc, off + j * 5 + 4, none⟩) zbc).trans q4⟩
        refine wp_region_held_drew (S := fun w' => w'.cell? ⟨w.heap.size, 0, none⟩ = some (.int .i64 gn) ∧ w'.cell? ⟨w.heap.size, 1, none⟩ = some (.int .i64 gs) ∧ w'.cell? ⟨bc, off + j * 5, none⟩ = some (.int .i64 o) ∧ w'.cell? ⟨bc, off + j * 5 + 1, none⟩ = some (.int .i64 d) ∧ w'.cell? ⟨bc, off + j * 5 + 2, none⟩ = some (.int .i64 b) ∧ w'.cell? ⟨bc, off + j * 5 + 3, none⟩ = some (.int .i64 k) ∧ w'.cell? ⟨bc, off + j * 5 + 4, none⟩ = some (.slice av zs.length cv)) (by kernel_rfl) ?_ (fun hHeld => ?_)
        · exact g0
        clear g0
        refine held_t 0 hHeld ?_
        refine held_t 1 hHeld ?_
        refine held_t 2 hHeld ?_
        refine held_t 3 hHeld ?_
        refine held_t 4 hHeld ?_
        refine held_t 5 hHeld ?_
        generalize wr.drew = wn at qc hHeld ⊢
        refine held_two (i := 6) (i' := 10) (by kernel_rfl) rfl rfl (by kernel_rfl) (by kernel_rfl) (fun K hK => ?_) (fun K hK => ?_)
        · skip
          have hlo := qc.size
          go_simp
          refine (specDoCmd_v _ gn gs _ _ _ xs (HO8.out.rd.below qc) (by omega) o d b k _ _ _ zs (HRD.out.below (Below.andThen HQB.out qc)) (by omega) HX.out HV.out).mono ?_
          rintro e wn1 ⟨mid, a1, c1, a2, c2, rfl, oX, oV, hm1, hm2, pn⟩
          replace qc := Below.andThen qc pn
          clear hHeld
          go_wp2_with fail
          refine hK.out _ _ ⟨(qc.cell (p := ⟨w.heap.size, 0, none⟩) zgr).trans g0, (qc.cell (p := ⟨w.heap.size, 1, none⟩) zgr).trans g1, (qc.cell (p := ⟨bc, off + j * 5, none⟩) zbc).trans q0, (qc.cell (p := ⟨bc, off + j * 5 + 1, none⟩) zbc).trans q1, (qc.cell (p := ⟨bc, off + j * 5 + 2, none⟩) zbc).trans q2, (qc.cell (p := ⟨bc, off + j * 5 + 3, none⟩) zbc).trans q3, (qc.cell (p := ⟨bc, off + j * 5 + 4, none⟩) zbc).trans q4⟩ (fun hHeld => ?_)
          clear hK K
          refine held_t 7 hHeld ?_
          refine held_t 8 hHeld ?_
          refine held_t 9 hHeld ?_
          refine held_one (i := 10) (by kernel_rfl) rfl (by kernel_rfl) (fun K hK => ?_)
          go_simp
          have xa := Box.new wn1 44 #[.int .i64 0, .int .i64 0, .slice none 0 0]
          have hNw := qc.size
          replace qc := qc.alloc qc.size (.cells #[.int .i64 0, .int .i64 0, .slice none 0 0] 44)
          replace oX := oX.below (new_below wn1 (.cells #[.int .i64 0, .int .i64 0, .slice none 0 0] 44))
          replace oV := oV.below (new_below wn1 (.cells #[.int .i64 0, .int .i64 0, .slice none 0 0] 44))
          clear hHeld
          refine hK.out _ _ ⟨(qc.cell (p := ⟨w.heap.size, 0, none⟩) zgr).trans g0, (qc.cell (p := ⟨w.heap.size, 1, none⟩) zgr).trans g1, (qc.cell (p := ⟨bc, off + j * 5, none⟩) zbc).trans q0, (qc.cell (p := ⟨bc, off + j * 5 + 1, none⟩) zbc).trans q1, (qc.cell (p := ⟨bc, off + j * 5 + 2, none⟩) zbc).trans q2, (qc.cell (p := ⟨bc, off + j * 5 + 3, none⟩) zbc).trans q3, (qc.cell (p := ⟨bc, off + j * 5 + 4, none⟩) zbc).trans q4⟩ (fun hHeld => ?_)
          clear hK K
          have hNx := (new_below wn1 (.cells #[.int .i64 0, .int .i64 0, .slice none 0 0] 44)).size
          generalize wn1.alloc (.cells #[.int .i64 0, .int .i64 0, .slice none 0 0] 44) = wn1a at hNx qc xa oX oV hHeld ⊢
          generalize hNe : wn1.heap.size = NB at xa hNw ⊢
          have hNl := Nat.le_of_eq hNe
          clear hNe
          refine held_t 11 hHeld ?_
          obtain ⟨n0, n1, n2⟩ := xa.cells3
          have fz := xa.frozen
          refine held_one (i := 12) (by kernel_rfl) rfl (by kernel_rfl) (fun K hK => ?_)
          clear hHeld
          go_simp
          refine hK.out _ _ ⟨((below_put qc NB hNw _ _ _).cell (p := ⟨w.heap.size, 0, none⟩) zgr).trans g0, ((below_put qc NB hNw _ _ _).cell (p := ⟨w.heap.size, 1, none⟩) zgr).trans g1, ((below_put qc NB hNw _ _ _).cell (p := ⟨bc, off + j * 5, none⟩) zbc).trans q0, ((below_put qc NB hNw _ _ _).cell (p := ⟨bc, off + j * 5 + 1, none⟩) zbc).trans q1, ((below_put qc NB hNw _ _ _).cell (p := ⟨bc, off + j * 5 + 2, none⟩) zbc).trans q2, ((below_put qc NB hNw _ _ _).cell (p := ⟨bc, off + j * 5 + 3, none⟩) zbc).trans q3, ((below_put qc NB hNw _ _ _).cell (p := ⟨bc, off + j * 5 + 4, none⟩) zbc).trans q4⟩ (fun hHeld => ?_)
          clear hK K hHeld
          refine wpAnyH_done (by kernel_rfl) ?_ _
          go_wp2_with fail
          go_meet
          first | exact got_old qc xa oX oV hNw (.inl hN) hlo hm1 hm2 (Nat.le_refl _) | exact got_old qc xa oX oV hNw (.inr hNl) hlo hm1 hm2 hNx
        · skip
          go_simp
          have xa := Box.new wn 44 #[.int .i64 0, .int .i64 0, .slice none 0 0]
          have hNw := qc.size
          replace qc := qc.alloc qc.size (.cells #[.int .i64 0, .int .i64 0, .slice none 0 0] 44)
          clear hHeld
          refine hK.out _ _ ⟨(qc.cell (p := ⟨w.heap.size, 0, none⟩) zgr).trans g0, (qc.cell (p := ⟨w.heap.size, 1, none⟩) zgr).trans g1, (qc.cell (p := ⟨bc, off + j * 5, none⟩) zbc).trans q0, (qc.cell (p := ⟨bc, off + j * 5 + 1, none⟩) zbc).trans q1, (qc.cell (p := ⟨bc, off + j * 5 + 2, none⟩) zbc).trans q2, (qc.cell (p := ⟨bc, off + j * 5 + 3, none⟩) zbc).trans q3, (qc.cell (p := ⟨bc, off + j * 5 + 4, none⟩) zbc).trans q4⟩ (fun hHeld => ?_)
          clear hK K
          have hNx := (new_below wn (.cells #[.int .i64 0, .int .i64 0, .slice none 0 0] 44)).size
          generalize wn.alloc (.cells #[.int .i64 0, .int .i64 0, .slice none 0 0] 44) = wna at hNx qc xa hHeld ⊢
          generalize hNe : wn.heap.size = NB at xa hNw ⊢
          have hNl := Nat.le_of_eq hNe
          clear hNe
          refine held_one (i := 6) (by kernel_rfl) rfl (by kernel_rfl) (fun K hK => ?_)
          have hN := xa.lt
          have hlo := qc.size
          go_simp
          refine (specDoCmd_v _ gn gs _ _ _ xs (HO8.out.rd.below qc) (by omega) o d b k _ _ _ zs (HRD.out.below (Below.andThen HQB.out qc)) (by omega) HX.out HV.out).mono ?_
          rintro e wn1 ⟨mid, a1, c1, a2, c2, rfl, oX, oV, hm1, hm2, pn⟩
          replace qc := Below.andThen qc pn
          replace xa := xa.below pn hN
          clear hHeld
          go_wp2_with fail
          refine hK.out _ _ ⟨(qc.cell (p := ⟨w.heap.size, 0, none⟩) zgr).trans g0, (qc.cell (p := ⟨w.heap.size, 1, none⟩) zgr).trans g1, (qc.cell (p := ⟨bc, off + j * 5, none⟩) zbc).trans q0, (qc.cell (p := ⟨bc, off + j * 5 + 1, none⟩) zbc).trans q1, (qc.cell (p := ⟨bc, off + j * 5 + 2, none⟩) zbc).trans q2, (qc.cell (p := ⟨bc, off + j * 5 + 3, none⟩) zbc).trans q3, (qc.cell (p := ⟨bc, off + j * 5 + 4, none⟩) zbc).trans q4⟩ (fun hHeld => ?_)
          clear hK K
          refine held_t 7 hHeld ?_
          refine held_t 8 hHeld ?_
          refine held_t 9 hHeld ?_
          refine held_t 11 hHeld ?_
          obtain ⟨n0, n1, n2⟩ := xa.cells3
          have fz := xa.frozen
          refine held_one (i := 12) (by kernel_rfl) rfl (by kernel_rfl) (fun K hK => ?_)
          clear hHeld
          go_simp
          refine hK.out _ _ ⟨((below_put qc NB hNw _ _ _).cell (p := ⟨w.heap.size, 0, none⟩) zgr).trans g0, ((below_put qc NB hNw _ _ _).cell (p := ⟨w.heap.size, 1, none⟩) zgr).trans g1, ((below_put qc NB hNw _ _ _).cell (p := ⟨bc, off + j * 5, none⟩) zbc).trans q0, ((below_put qc NB hNw _ _ _).cell (p := ⟨bc, off + j * 5 + 1, none⟩) zbc).trans q1, ((below_put qc NB hNw _ _ _).cell (p := ⟨bc, off + j * 5 + 2, none⟩) zbc).trans q2, ((below_put qc NB hNw _ _ _).cell (p := ⟨bc, off + j * 5 + 3, none⟩) zbc).trans q3, ((below_put qc NB hNw _ _ _).cell (p := ⟨bc, off + j * 5 + 4, none⟩) zbc).trans q4⟩ (fun hHeld => ?_)
          clear hK K hHeld
          refine wpAnyH_done (by kernel_rfl) ?_ _
          go_wp2_with fail
          go_meet
          first | exact got_old qc xa oX oV hNw (.inl hN) hlo hm1 hm2 (Nat.le_refl _) | exact got_old qc xa oX oV hNw (.inr hNl) hlo hm1 hm2 hNx
      case rest =>
        revert wc
        intro w2 hcut
        obtain ⟨N2, lo2, mid2, hi2, a3, c3, a2, c2, rfl, rfl, bx, oX, oV, hb2, hN, hlo, hm12, hm22, hhi, hNN⟩ := hcut
        obtain ⟨fx, mx, rx⟩ := oX.mine
        obtain ⟨fv, mv, rv⟩ := oV.mine
        have sq : ∀ x ∈ fq, x < wr.heap.size := HQR.out.ans.lt
        have A2 := HQR.out.ans.below hb2
        have G2 := HQR.out.geo.below hb2 zgr
        have B2 := Below.andThen HQR.out.bel hb2
        have s2 := hb2.size
        obtain ⟨b0, b1', b2⟩ := bx.cells3
        have HA2 := hidden (A2.alloc (.cells #[.int .i64 d, .int .i64 cc2, .slice a2 vn c2] 44))
        have HM2 := hidden (mx.alloc (.cells #[.int .i64 d, .int .i64 cc2, .slice a2 vn c2] 44))
        have HG2 := hidden (G2.alloc (.cells #[.int .i64 d, .int .i64 cc2, .slice a2 vn c2] 44))
        have HB2 := hidden (B2.alloc B2.size (.cells #[.int .i64 d, .int .i64 cc2, .slice a2 vn c2] 44))
        have HY : Hid (tAns.Mine (w2.alloc (.cells #[.int .i64 d, .int .i64 cc2, .slice a2 vn c2] 44)) [.int .i64 d, .int .i64 cc2, .slice a2 vn c2] (d, cc2, vs) fv) := int_mine_of (int_mine_of (mv.alloc _))
        have HRV := hidden rv
        have HRX := hidden rx
        have hyl := HLN.out.2
        rw [List.length_take] at hyl
        have hdis : ∀ x ∈ fq, x ∉ fv := fun x hx hx' => by have := sq x hx; have := rv x hx'; omega
        have hdot : ∀ x ∈ fx, x ∉ fq := fun x hx hx' => by have := rx x hx; have := sq x hx'; omega
        have zfx := mx.lt
        have HZX := hidden zfx
        have hw3 : (w2.alloc (.cells #[.int .i64 d, .int .i64 cc2, .slice a2 vn c2] 44)).heap.size = w2.heap.size + 1 := by simp
        clear A2 G2 B2 mv rv mx rx g0 g1 q0 q1 q2 q3 q4 oX oV hb2 zfx
        go_wp2_with (at_builtin; refine wpList_appT tAns rfl _ _ 30 rfl 44 i0 (.agg #[.int .i64 0, .int .i64 0, .slice none 0 0]) 40 Try.underlying30 hi hz0 hz1 hz2 rfl (by decide) _ ys fq rfl HA2.out ⟨w2.heap.size, 0, none⟩ 1 [.int .i64 d, .int .i64 cc2, .slice a2 vn c2] (d, cc2, vs) fv rfl HY.out hdis (news_new w2 #[.int .i64 d, .int .i64 cc2, .slice a2 vn c2] _) (by intro u hu; simp at hu; rcases hu with rfl | rfl | rfl <;> rfl) (by unfold maxLen; omega) (by omega) ?_; intro v' w4 fq' hM4 hs4 ht4)
        have HN : Hid (DosS14 w w4 gn gs nl (.slice a3 nl c3) xs2 fx v' (ys ++ [(d, cc2, vs)]) fq') := by
          have hs3 := HB2.out.size
          refine ⟨HB2.out.trans (ht4.below (by omega) (fun x hx => Nat.le_of_lt (HQR.out.inQ x hx))), HG2.out.turned ht4 (fun hx => by have := HQR.out.inQ _ hx; omega), ⟨_, _, rfl⟩, HM2.out.kept ht4 hdot, hM4, fun x hx => by have := HRX.out x hx; omega, fun x hx => ?_, fun x hx hx' => ?_⟩
          · rcases hs4 x hx with h | h | h
            · exact HQR.out.inQ x h
            · have := HRV.out x h
              omega
            · omega
          · have h1 := HRX.out x hx
            have h2 := HZX.out x hx
            rcases hs4 x hx' with h | h | h
            · exact hdot x hx h
            · have := HRV.out x h
              omega
            · omega
        clear hM4 hs4 ht4 HA2 HM2 HG2 HB2 HY hdis hdot
        go_wp2
        go_roundw
        case rel => exact ⟨j + 1, fx, fq', by omega, by go_num, by rw [HST.out]; exact HN.out⟩
        case measure => simp [intOf]; omega
    · obtain rfl : j = m := by omega
      rw [← HD.out] at hq
      have h5 := hq.ans
      obtain ⟨a5, c5, hv5⟩ := row_shape h5.rd
      subst hv5
      have HQR := hidden hq
      clear hq h5 hlen
      have hend : ¬ ((j : Int) < (nc : Int)) ∨ ((j : Int) < (nc : Int) ∧ ¬ ((j : Int) < 400)) := by omega
      rcases hend with hend | ⟨hend, hend2⟩
      all_goals
        go_wp2
        refine bodyPost_ret (v := .tuple #[.slice a8 nl c8, .slice a5 (doS gn gs ls cs).2.length c5]) (by simp [results, Try.results34, go_sem]) rfl ?_
        exact ⟨_, _, _, _, _, rfl, HQR.out.own.own (fun x hx => ⟨Nat.le_of_lt (HQR.out.inO x hx), HQR.out.own.lt x hx⟩), HQR.out.ans.own (fun x hx => ⟨Nat.le_of_lt (HQR.out.inQ x hx), HQR.out.ans.lt x hx⟩), HQR.out.bel⟩

end Go.Proofs.Ytgjomldcnjjpaaa

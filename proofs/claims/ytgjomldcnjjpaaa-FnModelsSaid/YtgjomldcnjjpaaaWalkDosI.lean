/-
  The program's DoCmds answers as the definition says. Conditions: at most 2097152 blocks, at most 1048576 commands and words of them in all.
-/
import Derived.Test.YtgjomldcnjjpaaaDos14
import Derived.Test.YtgjomldcnjjpaaaCmdS14
import Derived.Test.YtgjomldcnjjpaaaWalkDo14
import Derived.Deep.DeepCutAuto
namespace Go.Proofs.Ytgjomldcnjjpaaa
open Go.RowKit

theorem Try.infoAns14 : (Try.prog.info? 44).map (fun i => (i.zero, i.size, i.bytes)) = some (some (.agg #[.int .i64 0, .int .i64 0, .slice none 0 0]), 3, 40) := by kernel_rfl
theorem Reads.none_or {kd : IntKind} {w : World} {a : Option Addr} {zs : List Int} (h : Reads kd w a zs) : zs.length = 0 ∨ ∀ x, a = some x → x.block < w.heap.size := by
  by_cases h0 : zs.length = 0
  · exact .inl h0
  · exact .inr (h.older rfl (by omega))

/-- What the loop has made: the blocks, which lie in the blocks fp, and the answers. -/
structure Dos14 (w wr : World) (N M : Nat) (gn gs : Int) (a1 : Option Addr) (nl c1 : Nat) (fp : List Nat) (xs : List Int) (v : Value) (ys : List AnsD) (fq : List Nat) : Prop where
  bel : Below w.heap.size w wr
  geo : Box wr w.heap.size 25 #[.int .i64 gn, .int .i64 gs]
  own : tIntS.Mine wr [.slice a1 nl c1] xs fp
  ans : (tAnsS 44).Mine wr [v] ys fq
  inF : ∀ b ∈ fp, N ≤ b ∧ b < M
  inQ : ∀ b ∈ fq, M ≤ b
  big : M ≤ wr.heap.size
  shp : ∃ g c, v = .slice (some ⟨g, 0, none⟩) ys.length c

set_option maxRecDepth 20000 in
set_option maxHeartbeats 3200000 in
theorem implDoCmds_any (w : World) (E : TypeId) (gn gs : Int) (al : Option Addr) (nl cl : Nat) (ls : List Int) (hls : tIntS.Rd w [.slice al nl cl] ls) (hnl : nl ≤ 2097152) (ac : Option Addr) (nc cc : Nat) (cs : List CmdD) (hcs : (tCmdS E).Rd w [.slice ac nc cc] cs) (hw : wttCmdS cs ≤ 1048576) :
    Calls Try.prog 9 #[.agg #[.int .i64 gn, .int .i64 gs], .slice al nl cl, .slice ac nc cc] w fun e w' => ∃ mid a1 c1 b2 c2, e = .returned (.tuple #[.slice a1 nl c1, .slice (some ⟨b2, 0, none⟩) (doS gn gs ls cs).2.length c2]) ∧ tIntS.Own w' w.heap.size mid [.slice a1 nl c1] (doS gn gs ls cs).1 ∧ (tAnsS 44).Own w' mid w'.heap.size [.slice (some ⟨b2, 0, none⟩) (doS gn gs ls cs).2.length c2] (doS gn gs ls cs).2 ∧ w.heap.size ≤ mid ∧ mid ≤ w'.heap.size ∧ Below w.heap.size w w' := by
  obtain ⟨i0, hi, hz0, hz1, hz2⟩ := info_parts Try.infoAns14
  obtain ⟨hlc, hcc, hcm⟩ := row_length hcs
  have hA := new_below w (.cells #[.int .i64 gn, .int .i64 gs] 25)
  have G := Box.new w 25 #[.int .i64 gn, .int .i64 gs]
  have HL := hls.below hA
  have zg := G.lt
  go_enter Try.func9, Try.ntmps9
  go_wp2_with fail
  generalize w.alloc (.cells #[.int .i64 gn, .int .i64 gs] 25) = W at hA G HL zg ⊢
  refine (copyWords_any _ _ _ _ _ HL hnl).mono ?_
  rintro e w1 ⟨a1, c1, rfl, o1, b1⟩
  obtain ⟨fp, m1, r1⟩ := o1.mine
  have s0 := hA.size
  have s1 := b1.size
  obtain ⟨m, hm⟩ : ∃ m : Nat, min nc 400 = m := ⟨_, rfl⟩
  have hmin : min (nc : Int) 400 = (m : Int) := by omega
  have hm1 : m ≤ nc := by omega
  have hm4 : m ≤ 400 := by omega
  have hD : doS gn gs ls cs = doL gn gs ls (cs.take m) := by
    unfold doS
    by_cases h4 : 400 ≤ nc
    · rw [show m = 400 by omega]
    · rw [List.take_of_length_le (by omega), List.take_of_length_le (by omega)]
  have hQ0 : Dos14 w (w1.alloc (.cells #[] 44)) W.heap.size w1.heap.size gn gs a1 nl c1 fp ls (.slice (some ⟨w1.heap.size, 0, none⟩) 0 0) [] [w1.heap.size] :=
    ⟨(Below.andThen hA b1).alloc (by omega) _, (G.below b1 zg).alloc _, m1.alloc _, lit0_mine w1, fun b hb => r1 b hb, by simp, by simp, ⟨_, _, rfl⟩⟩
  have HQ := hidden hQ0
  have HD := hidden hD
  have k1 : (0 : Int) ≤ (m : Int) := by omega
  have k2 : (m : Int) ≤ (cc : Int) := by omega
  have k3 : ((m : Int)).toNat = m := by omega
  clear hQ0 hD hm m1 r1 o1
  go_upto_region 2 with fail
  go_cut [19, 20, 21] (fun v19 v20 v21 wx => v19 = .slice ac m cc ∧ v20 = .int .i64 m ∧ v21 = .int .i64 0 ∧ wx = w1.alloc (.cells #[] 44))
  case first =>
    go_wp2_with fail
    all_goals
      go_meet
      first
        | (obtain rfl : nc = m := by omega
           exact ⟨rfl, rfl, rfl, rfl⟩)
        | (obtain rfl : m = 400 := by omega
           exact ⟨rfl, rfl, rfl, rfl⟩)
  case rest =>
    obtain ⟨rfl, rfl, rfl, rfl⟩ := hcut
    go_wp2
    go_loopw [9, 21] (fun v i wr => ∃ (j : Nat) (fq : List Nat), j ≤ m ∧ i = .int .i64 j ∧ Dos14 w wr W.heap.size w1.heap.size gn gs a1 nl c1 fp (doL gn gs ls (cs.take j)).1 v (doL gn gs ls (cs.take j)).2 fq) (fun _ i _ => m - (intOf i).toNat)
    case atStart => exact ⟨0, _, Nat.zero_le _, rfl, HQ.out⟩
    case round =>
      obtain ⟨j, fq, hj, rfl, hq⟩ := hrel
      have hlen := doL_len gn gs ls (cs.take j)
      by_cases hjm : j < m
      · rcases cmdS_at hcs with h0' | ⟨bc, off, rfl, hbc, hcc'⟩
        · omega
        obtain ⟨o, d, b, k, zs, hdj⟩ : ∃ o d b k zs, cs[j]? = some (o, d, b, k, zs) := ⟨_, _, _, _, _, List.getElem?_eq_getElem (by omega)⟩
        have hin := cmd_inner hdj
        have hzl : zs.length ≤ 1048576 := by unfold wttCmdS at hw; simp only at hin; omega
        have HST := hidden (doL_snoc (gn := gn) (gs := gs) (ls := ls) hdj)
        obtain ⟨av, cv, x0, x1, x2, x3, x4, hrv⟩ := hcc' j o d b k zs hdj
        have q0 := (hq.bel.cell (p := ⟨bc, off + j * 5, none⟩) hbc).trans x0
        have q1 := (hq.bel.cell (p := ⟨bc, off + j * 5 + 1, none⟩) hbc).trans x1
        have q2 := (hq.bel.cell (p := ⟨bc, off + j * 5 + 2, none⟩) hbc).trans x2
        have q3 := (hq.bel.cell (p := ⟨bc, off + j * 5 + 3, none⟩) hbc).trans x3
        have q4 := (hq.bel.cell (p := ⟨bc, off + j * 5 + 4, none⟩) hbc).trans x4
        have hr := (ints_rd hrv).1
        obtain ⟨g0, g1⟩ := hq.geo.cells2
        have zgr := hq.geo.lt
        have HQR := hidden hq
        have HLN := hidden hlen
        have HHR := hidden hr
        have zbc : bc < wr.heap.size := Nat.lt_of_lt_of_le hbc hq.bel.size
        have j1 : (j : Int) < (m : Int) := by omega
        have j2 : (0 : Int) ≤ (j : Int) := by omega
        generalize (doL gn gs ls (cs.take j)).1 = xs at hq HQR HST HLN
        generalize (doL gn gs ls (cs.take j)).2 = ys at hq HQR HST HLN
        clear x0 x1 x2 x3 x4 hcc' hdj hin hq hlen hr hrv
        go_wp2_with fail
        have e1 : (wr.alloc (.cells #[.int .i64 o, .int .i64 d, .int .i64 b, .int .i64 k, .slice av zs.length cv] 37)).heap.size = wr.heap.size + 1 := by simp
        have ba := new_below wr (.cells #[.int .i64 o, .int .i64 d, .int .i64 b, .int .i64 k, .slice av zs.length cv] 37)
        have GA := HQR.out.geo.below ba zgr
        have OA := HQR.out.own.below ba
        have AA := HQR.out.ans.below ba
        have RA := (HHR.out.below HQR.out.bel).below ba
        have BA := Below.andThen HQR.out.bel ba
        generalize wr.alloc (.cells #[.int .i64 o, .int .i64 d, .int .i64 b, .int .i64 k, .slice av zs.length cv] 37) = wa at e1 GA OA AA RA BA ⊢
        have hg : 0 < zs.length → ∀ x, av = some x → x.block ∉ fp := fun h0 x hx hm => by
          have e2 := HHR.out.older rfl h0 x hx
          have e3 := HQR.out.inF _ hm
          omega
        refine (do14_any _ gn gs _ _ _ xs fp OA o d b k _ _ _ zs rfl RA (by omega) hg).mono ?_
        rintro e w2 ⟨a2, m2, c2, rfl, o2, M2, t2⟩
        obtain ⟨fv, mv, rv⟩ := o2.mine
        have sq : ∀ x ∈ fq, x < wr.heap.size := HQR.out.ans.lt
        have A2 := AA.kept t2 (fun x hx hx' => by have := HQR.out.inF x hx'; have := HQR.out.inQ x hx; omega)
        have G2 := GA.turned t2 (fun hx => by have := HQR.out.inF _ hx; omega)
        have B2 : Below w.heap.size w w2 := BA.trans (t2.below (by have := BA.size; omega) (fun x hx => by have := HQR.out.inF x hx; omega))
        have s2 := t2.size
        have hbig := HQR.out.big
        have HA2 := hidden (A2.alloc (.cells #[.int .i64 d, .int .i64 (doC gn gs xs o d b k zs).2.1, .slice a2 m2 c2] 44))
        have HM2 := hidden (M2.alloc (.cells #[.int .i64 d, .int .i64 (doC gn gs xs o d b k zs).2.1, .slice a2 m2 c2] 44))
        have HG2 := hidden (G2.alloc (.cells #[.int .i64 d, .int .i64 (doC gn gs xs o d b k zs).2.1, .slice a2 m2 c2] 44))
        have HB2 := hidden (B2.alloc B2.size (.cells #[.int .i64 d, .int .i64 (doC gn gs xs o d b k zs).2.1, .slice a2 m2 c2] 44))
        have HY : Hid (tAns.Mine (w2.alloc (.cells #[.int .i64 d, .int .i64 (doC gn gs xs o d b k zs).2.1, .slice a2 m2 c2] 44)) [.int .i64 d, .int .i64 (doC gn gs xs o d b k zs).2.1, .slice a2 m2 c2] (d, (doC gn gs xs o d b k zs).2) fv) := int_mine_of (int_mine_of (mv.alloc _))
        have HRV := hidden rv
        have hyl := HLN.out.2
        rw [List.length_take] at hyl
        have hdis : ∀ x ∈ fq, x ∉ fv := fun x hx hx' => by have := sq x hx; have := rv x hx'; omega
        have hdot : ∀ x ∈ fp, x ∉ fq := fun x hx hx' => by have := HQR.out.inF x hx; have := HQR.out.inQ x hx'; omega
        have hw3 : (w2.alloc (.cells #[.int .i64 d, .int .i64 (doC gn gs xs o d b k zs).2.1, .slice a2 m2 c2] 44)).heap.size = w2.heap.size + 1 := by simp
        clear A2 M2 G2 B2 t2 mv rv o2 OA AA GA RA BA g0 g1 q0 q1 q2 q3 q4
        go_wp2_with (at_builtin; refine wpList_appT tAns rfl _ _ 30 rfl 44 i0 (.agg #[.int .i64 0, .int .i64 0, .slice none 0 0]) 40 Try.underlying30 hi hz0 hz1 hz2 rfl (by decide) _ ys fq rfl HA2.out ⟨w2.heap.size, 0, none⟩ 1 [.int .i64 d, .int .i64 (doC gn gs xs o d b k zs).2.1, .slice a2 m2 c2] (d, (doC gn gs xs o d b k zs).2) fv rfl HY.out hdis (news_new w2 #[.int .i64 d, .int .i64 (doC gn gs xs o d b k zs).2.1, .slice a2 m2 c2] _) (by intro u hu; simp at hu; rcases hu with rfl | rfl | rfl <;> rfl) (by unfold maxLen; omega) (by omega) ?_; intro v' w4 fq' hM4 hs4 ht4)
        have HN : Hid (Dos14 w w4 W.heap.size w1.heap.size gn gs a1 nl c1 fp (do1 gn gs xs (o, d, b, k, zs)).1 v' (ys ++ [(do1 gn gs xs (o, d, b, k, zs)).2]) fq') := by
          refine ⟨HB2.out.trans (ht4.below (by have := HB2.out.size; omega) (fun x hx => by have := HQR.out.inQ x hx; omega)), HG2.out.turned ht4 (fun hx => by have := HQR.out.inQ _ hx; omega), HM2.out.kept ht4 hdot, hM4, HQR.out.inF, fun x hx => ?_, by have := ht4.size; omega, ?_⟩
          · rcases hs4 x hx with h | h | h
            · exact HQR.out.inQ x h
            · have := HRV.out x h
              omega
            · omega
          · obtain ⟨a9, c9, rfl⟩ := row_shape hM4.rd
            rcases row_ow_shape hM4 with h0 | ⟨g9, rfl⟩
            · simp at h0
            · exact ⟨_, _, rfl⟩
        clear hM4 hs4 ht4 HA2 HM2 HG2 HB2 HY hdis hdot
        go_wp2
        go_roundw
        case rel => exact ⟨j + 1, fq', by omega, by go_num, by rw [HST.out]; exact HN.out⟩
        case measure => simp [intOf]; omega
      · obtain rfl : j = m := by omega
        rw [← HD.out] at hq
        obtain ⟨g5, c5, hv5⟩ := hq.shp
        subst hv5
        have HQR := hidden hq
        clear hq hlen
        go_wp2
        refine bodyPost_ret (v := .tuple #[.slice a1 nl c1, .slice (some ⟨g5, 0, none⟩) (doS gn gs ls cs).2.length c5]) (by simp [results, Try.results9, go_sem]) rfl ?_
        exact ⟨w1.heap.size, _, _, _, _, rfl, HQR.out.own.own (fun x hx => by have := HQR.out.inF x hx; omega), HQR.out.ans.own (fun x hx => ⟨HQR.out.inQ x hx, HQR.out.ans.lt x hx⟩), by omega, HQR.out.big, HQR.out.bel⟩

end Go.Proofs.Ytgjomldcnjjpaaa

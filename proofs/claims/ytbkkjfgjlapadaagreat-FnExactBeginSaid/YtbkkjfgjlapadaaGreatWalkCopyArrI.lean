/-
  The walk of the program's copyArr: the same array in memory of its own. Condition: it weighs at most 2097152.
-/
import Derived.Test.YtbkkjfgjlapadaaGreatHeld
import Derived.Test.YtbkkjfgjlapadaaGreatWalkArr
import Derived.Test.YtbkkjfgjlapadaaGreatWalkCopy
import Derived.Test.YtbkkjfgjlapadaaGreatWalkCopySpec
import Derived.Test.YtbkkjfgjlapadaaGreatOrder
namespace Go.Proofs.YtbkkjfgjlapadaaGreat
open Go.RowKit

set_option linter.unusedSimpArgs false in
set_option maxRecDepth 20000 in
set_option maxHeartbeats 4000000 in
theorem copyArr_any (w : World) (E F G : TypeId) (x : ArrN) (am ad : Option Addr) (nm cm nd cd : Nat) (ms : List MemD) (ds : List (Int × List Int)) (h0 : (tMemS E F).Rd w [.slice am nm cm] ms) (h1 : (tWrS G).Rd w [.slice ad nd cd] ds) (hw : wtArr ms ds ≤ 2097152) :
    Calls Tryz.prog 117 #[.agg #[.int .i64 x.id, .int .i64 x.n, .int .i64 x.s, .slice am nm cm, .int .i64 x.lost, .int .i64 x.built, .int .i64 x.seq, .int .i64 x.tail, .int .i64 x.gen, .slice ad nd cd, .int .i64 x.fuse, .bool x.down, .bool x.broken]] w fun e w' => ∃ bm cm' bd cd' m, e = .returned (.agg #[.int .i64 x.id, .int .i64 x.n, .int .i64 x.s, .slice bm nm cm', .int .i64 x.lost, .int .i64 x.built, .int .i64 x.seq, .int .i64 x.tail, .int .i64 x.gen, .slice bd nd cd', .int .i64 x.fuse, .bool x.down, .bool x.broken]) ∧ (tMemS 214 147).Own w' w.heap.size m [.slice bm nm cm'] ms ∧ (tWrS 162).Own w' m w'.heap.size [.slice bd nd cd'] ds ∧ w.heap.size ≤ m ∧ m ≤ w'.heap.size ∧ Below w.heap.size w w' := by
  have hwm : wtMemS ms ≤ 2097152 := by unfold wtArr at hw; omega
  have hwd : wtWrS ds ≤ 2097152 := by unfold wtArr at hw; omega
  obtain ⟨hl0, _, hm0⟩ := row_length h0
  obtain ⟨hl1, _, hm1⟩ := row_length h1
  have hn0 : nm ≤ 2097152 := by unfold wtMemS at hwm; omega
  have hn1 : nd ≤ 2097152 := by unfold wtWrS at hwd; omega
  obtain ⟨i1, hi1, hy0, hy1, hy2⟩ := info_parts Tryz.infoEnt
  obtain ⟨i4, hi4, hz0, hz1, hz2⟩ := info_parts Tryz.infoMem
  have zz : ∀ u : World, ∀ ob : Obj, (u.alloc ob).heap.size = u.heap.size + 1 := fun u ob => by simp
  have xm : Box (((w.alloc (.cells #[.int .i64 x.id, .int .i64 x.n, .int .i64 x.s, .slice am nm cm, .int .i64 x.lost, .int .i64 x.built, .int .i64 x.seq, .int .i64 x.tail, .int .i64 x.gen, .slice ad nd cd, .int .i64 x.fuse, .bool x.down, .bool x.broken] 29)).alloc (.cells #[.int .i64 0, .int .i64 0, .int .i64 0, .slice none 0 0, .int .i64 0, .int .i64 0, .int .i64 0, .int .i64 0, .int .i64 0, .slice none 0 0, .int .i64 0, .bool false, .bool false] 29)).alloc (.cells #[.int .i64 x.id, .int .i64 x.n, .int .i64 x.s, .slice none 0 0, .int .i64 x.lost, .int .i64 x.built, .int .i64 x.seq, .int .i64 x.tail, .int .i64 x.gen, .slice none 0 0, .int .i64 x.fuse, .bool x.down, .bool x.broken] 29)) (w.heap.size) 29 #[.int .i64 x.id, .int .i64 x.n, .int .i64 x.s, .slice am nm cm, .int .i64 x.lost, .int .i64 x.built, .int .i64 x.seq, .int .i64 x.tail, .int .i64 x.gen, .slice ad nd cd, .int .i64 x.fuse, .bool x.down, .bool x.broken] := ((Box.new w _ _).alloc _).alloc _
  have xr0 := Box.new (w.alloc (.cells #[.int .i64 x.id, .int .i64 x.n, .int .i64 x.s, .slice am nm cm, .int .i64 x.lost, .int .i64 x.built, .int .i64 x.seq, .int .i64 x.tail, .int .i64 x.gen, .slice ad nd cd, .int .i64 x.fuse, .bool x.down, .bool x.broken] 29)) 29 #[.int .i64 0, .int .i64 0, .int .i64 0, .slice none 0 0, .int .i64 0, .int .i64 0, .int .i64 0, .int .i64 0, .int .i64 0, .slice none 0 0, .int .i64 0, .bool false, .bool false]
  rw [zz] at xr0
  have xr : Box (((w.alloc (.cells #[.int .i64 x.id, .int .i64 x.n, .int .i64 x.s, .slice am nm cm, .int .i64 x.lost, .int .i64 x.built, .int .i64 x.seq, .int .i64 x.tail, .int .i64 x.gen, .slice ad nd cd, .int .i64 x.fuse, .bool x.down, .bool x.broken] 29)).alloc (.cells #[.int .i64 0, .int .i64 0, .int .i64 0, .slice none 0 0, .int .i64 0, .int .i64 0, .int .i64 0, .int .i64 0, .int .i64 0, .slice none 0 0, .int .i64 0, .bool false, .bool false] 29)).alloc (.cells #[.int .i64 x.id, .int .i64 x.n, .int .i64 x.s, .slice none 0 0, .int .i64 x.lost, .int .i64 x.built, .int .i64 x.seq, .int .i64 x.tail, .int .i64 x.gen, .slice none 0 0, .int .i64 x.fuse, .bool x.down, .bool x.broken] 29)) (w.heap.size + 1) 29 #[.int .i64 0, .int .i64 0, .int .i64 0, .slice none 0 0, .int .i64 0, .int .i64 0, .int .i64 0, .int .i64 0, .int .i64 0, .slice none 0 0, .int .i64 0, .bool false, .bool false] := xr0.alloc _
  have xo := Box.new ((w.alloc (.cells #[.int .i64 x.id, .int .i64 x.n, .int .i64 x.s, .slice am nm cm, .int .i64 x.lost, .int .i64 x.built, .int .i64 x.seq, .int .i64 x.tail, .int .i64 x.gen, .slice ad nd cd, .int .i64 x.fuse, .bool x.down, .bool x.broken] 29)).alloc (.cells #[.int .i64 0, .int .i64 0, .int .i64 0, .slice none 0 0, .int .i64 0, .int .i64 0, .int .i64 0, .int .i64 0, .int .i64 0, .slice none 0 0, .int .i64 0, .bool false, .bool false] 29)) 29 #[.int .i64 x.id, .int .i64 x.n, .int .i64 x.s, .slice none 0 0, .int .i64 x.lost, .int .i64 x.built, .int .i64 x.seq, .int .i64 x.tail, .int .i64 x.gen, .slice none 0 0, .int .i64 x.fuse, .bool x.down, .bool x.broken]
  rw [zz, zz] at xo
  have hB : Below (w.heap.size) w (((w.alloc (.cells #[.int .i64 x.id, .int .i64 x.n, .int .i64 x.s, .slice am nm cm, .int .i64 x.lost, .int .i64 x.built, .int .i64 x.seq, .int .i64 x.tail, .int .i64 x.gen, .slice ad nd cd, .int .i64 x.fuse, .bool x.down, .bool x.broken] 29)).alloc (.cells #[.int .i64 0, .int .i64 0, .int .i64 0, .slice none 0 0, .int .i64 0, .int .i64 0, .int .i64 0, .int .i64 0, .int .i64 0, .slice none 0 0, .int .i64 0, .bool false, .bool false] 29)).alloc (.cells #[.int .i64 x.id, .int .i64 x.n, .int .i64 x.s, .slice none 0 0, .int .i64 x.lost, .int .i64 x.built, .int .i64 x.seq, .int .i64 x.tail, .int .i64 x.gen, .slice none 0 0, .int .i64 x.fuse, .bool x.down, .bool x.broken] 29)) := (((Below.refl _ _).alloc (Nat.le_refl _) _).alloc (by simp) _).alloc (by simp; omega) _
  have hz : (((w.alloc (.cells #[.int .i64 x.id, .int .i64 x.n, .int .i64 x.s, .slice am nm cm, .int .i64 x.lost, .int .i64 x.built, .int .i64 x.seq, .int .i64 x.tail, .int .i64 x.gen, .slice ad nd cd, .int .i64 x.fuse, .bool x.down, .bool x.broken] 29)).alloc (.cells #[.int .i64 0, .int .i64 0, .int .i64 0, .slice none 0 0, .int .i64 0, .int .i64 0, .int .i64 0, .int .i64 0, .int .i64 0, .slice none 0 0, .int .i64 0, .bool false, .bool false] 29)).alloc (.cells #[.int .i64 x.id, .int .i64 x.n, .int .i64 x.s, .slice none 0 0, .int .i64 x.lost, .int .i64 x.built, .int .i64 x.seq, .int .i64 x.tail, .int .i64 x.gen, .slice none 0 0, .int .i64 x.fuse, .bool x.down, .bool x.broken] 29)).heap.size = w.heap.size + 1 + 1 + 1 := by simp
  have cm3 := xm.cell 3
  have cm9 := xm.cell 9
  clear xr0 zz
  go_enter Tryz.func117, Tryz.ntmps117
  go_wp2
  clear cm3 cm9
  generalize ((w.alloc (.cells #[.int .i64 x.id, .int .i64 x.n, .int .i64 x.s, .slice am nm cm, .int .i64 x.lost, .int .i64 x.built, .int .i64 x.seq, .int .i64 x.tail, .int .i64 x.gen, .slice ad nd cd, .int .i64 x.fuse, .bool x.down, .bool x.broken] 29)).alloc (.cells #[.int .i64 0, .int .i64 0, .int .i64 0, .slice none 0 0, .int .i64 0, .int .i64 0, .int .i64 0, .int .i64 0, .int .i64 0, .slice none 0 0, .int .i64 0, .bool false, .bool false] 29)).alloc (.cells #[.int .i64 x.id, .int .i64 x.n, .int .i64 x.s, .slice none 0 0, .int .i64 x.lost, .int .i64 x.built, .int .i64 x.seq, .int .i64 x.tail, .int .i64 x.gen, .slice none 0 0, .int .i64 x.fuse, .bool x.down, .bool x.broken] 29) = W2 at xm xr xo hB hz ⊢
  obtain ⟨LB, hLB⟩ : ∃ LB, W2.heap.size = LB := ⟨_, rfl⟩
  rw [hLB] at hz
  have q3 : w.heap.size + 1 + 1 + 1 ≤ LB ∧ LB ≤ w.heap.size + 1 + 1 + 1 := by omega
  have hzL : LB ≤ W2.heap.size := by omega
  clear hLB hz
  obtain ⟨BO, hBO⟩ : ∃ BO, w.heap.size + 1 + 1 = BO := ⟨_, rfl⟩
  rw [hBO] at xo ⊢
  have q2 : w.heap.size + 1 + 1 ≤ BO ∧ BO ≤ w.heap.size + 1 + 1 := by omega
  clear hBO
  obtain ⟨BR, hBR⟩ : ∃ BR, w.heap.size + 1 = BR := ⟨_, rfl⟩
  rw [hBR] at xr ⊢
  have q1 : w.heap.size + 1 ≤ BR ∧ BR ≤ w.heap.size + 1 := by omega
  clear hBR
  have XM2 := hidden xm
  have XR2 := hidden xr
  have XO2 := hidden xo
  have HB2 := hidden hB
  clear xm xr xo hB
  go_loopw [14] (fun i wr => ∃ (j : Nat) (v0 : Value) (fp0 : List Nat), j ≤ nm ∧ i = .int .i64 j ∧ Fr LB BO W2 wr ∧ Box wr BO 29 #[.int .i64 x.id, .int .i64 x.n, .int .i64 x.s, v0, .int .i64 x.lost, .int .i64 x.built, .int .i64 x.seq, .int .i64 x.tail, .int .i64 x.gen, .slice none 0 0, .int .i64 x.fuse, .bool x.down, .bool x.broken] ∧ (tMemS 214 147).Mine wr [v0] (ms.take j) fp0 ∧ (∀ b ∈ fp0, LB ≤ b)) (fun i _ => nm - (intOf i).toNat)
  case atStart => exact ⟨0, _, [], Nat.zero_le _, rfl, Fr.refl _ _ _, XO2.out, nil_mine _, by simp⟩
  case round =>
    obtain ⟨j, v0, fp0, hj, rfl, fr, xo, hm, hfp⟩ := hrel
    have hs := fr.size
    have hb := HB2.out.trans (fr.below (M := w.heap.size) (by omega) (by omega))
    by_cases hjn : j < nm
    · rcases quads_at rfl h0 with h0' | ⟨b, off, rfl, hbl, hcs⟩
      · omega
      have hdj : ms[j]? = some (ms[j]'(by omega)) := List.getElem?_eq_getElem (by omega)
      have htk : ms.take (j + 1) = ms.take j ++ [ms[j]'(by omega)] := List.take_succ_eq_append_getElem (by omega)
      generalize ms[j]'(by omega) = d at hdj htk
      have hin := Nat.le_trans (inner_leM hdj) hwm
      obtain ⟨u0, u1, u2, u3, hv0, hv1, hv2, hv3, hrv⟩ := hcs j d hdj
      obtain ⟨a0, c0, a1, c1, a3, c3', ss, cs, f, bs, rfl, rfl, rfl, rfl, rfl, r0, r1, r3⟩ := mem_at hrv
      have pv0 := (hb.cell (p := ⟨b, off + j * 4, none⟩) hbl).trans hv0
      have pv1 := (hb.cell (p := ⟨b, off + j * 4 + 1, none⟩) hbl).trans hv1
      have pv2 := (hb.cell (p := ⟨b, off + j * 4 + 2, none⟩) hbl).trans hv2
      have pv3 := (hb.cell (p := ⟨b, off + j * 4 + 3, none⟩) hbl).trans hv3
      have nb := new_below wr (.cells #[.slice a0 ss.length c0, .slice a1 cs.length c1, .bool f, .slice a3 bs.length c3'] 147)
      have hzm : (wr.alloc (.cells #[.slice a0 ss.length c0, .slice a1 cs.length c1, .bool f, .slice a3 bs.length c3'] 147)).heap.size = wr.heap.size + 1 := by simp
      have hbm := Below.andThen hb nb
      have R0 := hidden (r0.below hbm)
      have R1 := hidden (r1.below hbm)
      have R3 := hidden (r3.below hbm)
      have xom := xo.alloc (.cells #[.slice a0 ss.length c0, .slice a1 cs.length c1, .bool f, .slice a3 bs.length c3'] 147)
      have xmm := Box.new wr 147 #[.slice a0 ss.length c0, .slice a1 cs.length c1, .bool f, .slice a3 bs.length c3']
      have hmm := hm.alloc (.cells #[.slice a0 ss.length c0, .slice a1 cs.length c1, .bool f, .slice a3 bs.length c3'] 147)
      have frm : Fr LB BO W2 (wr.alloc (.cells #[.slice a0 ss.length c0, .slice a1 cs.length c1, .bool f, .slice a3 bs.length c3'] 147)) := fr.trans (Fr.ofBelow nb (by omega))
      have k1 : (0 : Int) ≤ (j : Int) := by omega
      have k2 : (j : Int) < (nm : Int) := by omega
      have HL : Hid ((ms.take j).length = j) := by unfold Hid; rw [List.length_take]; omega
      have L1 : Hid ((ms.take j).length + 1 ≤ maxLen) := by unfold Hid; rw [HL.out]; unfold maxLen; omega
      have L2 : Hid (((ms.take j).length + 1) * 80 ≤ 140737488355328) := by unfold Hid; rw [HL.out]; omega
      have hlt0 : ∀ b ∈ fp0, b < wr.heap.size := hm.lt
      have HTK := hidden htk
      have FRR := hidden frm
      have HM := hidden hmm
      have HFP := hidden hfp
      have XO := hidden xom
      have XMM := hidden xmm
      clear hcs hdj hv0 hv1 hv2 hv3 hrv htk xo hm hfp hb fr r0 r1 r3 nb hbm xom xmm hmm frm
      go_wp2_with fail
      generalize wr.alloc (.cells #[.slice a0 ss.length c0, .slice a1 cs.length c1, .bool f, .slice a3 bs.length c3'] 147) = wm at R0 R1 R3 FRR HM XO XMM hzm ⊢
      have FLT := hidden hlt0
      obtain ⟨MB, hMB⟩ : ∃ MB, wr.heap.size = MB := ⟨_, rfl⟩
      rw [hMB] at XMM hzm hs FLT ⊢
      clear hMB pv0 pv1 pv2 pv3
      have zMB : MB < wm.heap.size := by omega
      have zBO : BO < wm.heap.size := by omega
      have hzm2 : MB + 1 ≤ wm.heap.size := by omega
      clear hzm
      have mk : Hid (∀ w', Box w' BO 29 #[.int .i64 x.id, .int .i64 x.n, .int .i64 x.s, v0, .int .i64 x.lost, .int .i64 x.built, .int .i64 x.seq, .int .i64 x.tail, .int .i64 x.gen, .slice none 0 0, .int .i64 x.fuse, .bool x.down, .bool x.broken] → Box w' MB 147 #[.slice a0 ss.length c0, .slice a1 cs.length c1, .bool f, .slice a3 bs.length c3'] → w'.cell? ⟨BO, 3, none⟩ = some (v0) ∧ w'.cell? ⟨MB, 0, none⟩ = some (.slice a0 ss.length c0) ∧ w'.cell? ⟨MB, 1, none⟩ = some (.slice a1 cs.length c1) ∧ w'.cell? ⟨MB, 2, none⟩ = some (.bool f) ∧ w'.cell? ⟨MB, 3, none⟩ = some (.slice a3 bs.length c3')) := fun w' h1 h2 => ⟨h1.cell 3, h2.cell 0, h2.cell 1, h2.cell 2, h2.cell 3⟩
      have hS : wm.drew.cell? ⟨BO, 3, none⟩ = some (v0) ∧ wm.drew.cell? ⟨MB, 0, none⟩ = some (.slice a0 ss.length c0) ∧ wm.drew.cell? ⟨MB, 1, none⟩ = some (.slice a1 cs.length c1) ∧ wm.drew.cell? ⟨MB, 2, none⟩ = some (.bool f) ∧ wm.drew.cell? ⟨MB, 3, none⟩ = some (.slice a3 bs.length c3') := mk.out wm.drew XO.out XMM.out
      refine Upto.start (S := fun w' => w'.cell? ⟨BO, 3, none⟩ = some (v0) ∧ w'.cell? ⟨MB, 0, none⟩ = some (.slice a0 ss.length c0) ∧ w'.cell? ⟨MB, 1, none⟩ = some (.slice a1 cs.length c1) ∧ w'.cell? ⟨MB, 2, none⟩ = some (.bool f) ∧ w'.cell? ⟨MB, 3, none⟩ = some (.slice a3 bs.length c3')) (k := 7) (by kernel_rfl) ?_
      refine Upto.t 0 hS ?_
      refine Upto.t 1 hS ?_
      refine Upto.t 2 hS ?_
      refine Upto.one (i := 3) (by kernel_rfl) rfl (fun K hK => ?_)
      go_simp
      refine (copyMem_any _ E _ _ _ _ _ _ _ _ _ ss cs f bs R0.out.drew R1.out.drew R3.out.drew hin).mono ?_
      rintro e wc ⟨y0, y1, y3, m1, m2, rfl, o3, o0, o1, hm12, hm01, hm22, bc⟩
      have hbc' : Below wm.heap.size wm wc := (Below.refl wm.heap.size wm).drew.trans bc
      have hm01' : wm.heap.size ≤ m1 := hm01
      have om : (tMem 214).Own wc wm.heap.size wc.heap.size [y0, y1, .bool f, y3] (ss, cs, f, bs) := mem_own3 o0 o1 o3 (.inl (Nat.le_refl _)) (.inr (Nat.le_refl _)) (.inr hm12) ⟨by omega, by omega⟩ ⟨by omega, Nat.le_refl _⟩ ⟨Nat.le_refl _, by omega⟩
      obtain ⟨e0, g0, rfl⟩ := row_shape o0.rd
      obtain ⟨e1, g1, rfl⟩ := row_shape o1.rd
      obtain ⟨e3, g3, rfl⟩ := row_shape o3.rd
      obtain ⟨fpx, mx, rx⟩ := om.mine
      have xoc := XO.out.below hbc' zBO
      have xmc := XMM.out.below hbc' zMB
      have hS3 : wc.cell? ⟨BO, 3, none⟩ = some (v0) ∧ wc.cell? ⟨MB, 0, none⟩ = some (.slice a0 ss.length c0) ∧ wc.cell? ⟨MB, 1, none⟩ = some (.slice a1 cs.length c1) ∧ wc.cell? ⟨MB, 2, none⟩ = some (.bool f) ∧ wc.cell? ⟨MB, 3, none⟩ = some (.slice a3 bs.length c3') := mk.out wc xoc xmc
      have zc := hbc'.size
      have hS4 : (wc.alloc (.cells #[.slice e0 ss.length g0, .slice e1 cs.length g1, .bool f, .slice e3 bs.length g3] 147)).cell? ⟨BO, 3, none⟩ = some (v0) ∧ (wc.alloc (.cells #[.slice e0 ss.length g0, .slice e1 cs.length g1, .bool f, .slice e3 bs.length g3] 147)).cell? ⟨MB, 0, none⟩ = some (.slice a0 ss.length c0) ∧ (wc.alloc (.cells #[.slice e0 ss.length g0, .slice e1 cs.length g1, .bool f, .slice e3 bs.length g3] 147)).cell? ⟨MB, 1, none⟩ = some (.slice a1 cs.length c1) ∧ (wc.alloc (.cells #[.slice e0 ss.length g0, .slice e1 cs.length g1, .bool f, .slice e3 bs.length g3] 147)).cell? ⟨MB, 2, none⟩ = some (.bool f) ∧ (wc.alloc (.cells #[.slice e0 ss.length g0, .slice e1 cs.length g1, .bool f, .slice e3 bs.length g3] 147)).cell? ⟨MB, 3, none⟩ = some (.slice a3 bs.length c3') := mk.out _ (xoc.alloc _) (xmc.alloc _)
      have XOC := hidden xoc
      have XMC := hidden xmc
      have MX := hidden mx
      have RX := hidden rx
      have HBC := hidden hbc'
      clear xoc xmc mx rx hbc' bc om o0 o1 o3 hm01 hm01' hm12 hm22 R0 R1 R3
      go_wp2_with fail
      refine hK.out _ _ (fun _ => hS3) ?_
      clear hK K
      refine Upto.one (i := 4) (by kernel_rfl) rfl (fun K hK => ?_)
      go_simp
      refine hK.out _ _ (fun _ => hS4) ?_
      clear hK K
      refine Upto.one (i := 5) (by kernel_rfl) rfl (fun K hK => ?_)
      refine step_appT (tMem 214) (by rfl) _ _ 26 (by rfl) 147 i4 (.agg #[.slice none 0 0, .slice none 0 0, .bool false, .slice none 0 0]) 80 Tryz.underlying26 hi4 hz0 hz1 hz2 rfl (by decide) v0 (ms.take j) fp0 (by rfl) ?_ ⟨wc.heap.size, 0, none⟩ 1 [.slice e0 ss.length g0, .slice e1 cs.length g1, .bool f, .slice e3 bs.length g3] (ss, cs, f, bs) fpx (by rfl) ?_ ?_ ?_ ?_ L1.out L2.out ?_
      · exact (HM.out.below HBC.out).alloc _
      · exact MX.out.alloc _
      · intro b hb hb'
        have h1 := HM.out.lt b hb
        have h2 := RX.out b hb'
        omega
      · exact news_new _ _ _
      · intro u hu
        simp at hu
        rcases hu with hu | hu | hu | hu <;> (rw [hu]; rfl)
      intro g cap wA fpA m1 m2 m3
      rw [HL.out] at m1 ⊢
      rw [← HTK.out] at m1
      have nMB : MB ∉ fp0 := fun hm => by have := FLT.out _ hm; omega
      have ya := (XOC.out.alloc (.cells #[.slice e0 ss.length g0, .slice e1 cs.length g1, .bool f, .slice e3 bs.length g3] 147)).turned m3 (fun hm => by have := HFP.out _ hm; omega)
      have ym := (XMC.out.alloc (.cells #[.slice e0 ss.length g0, .slice e1 cs.length g1, .bool f, .slice e3 bs.length g3] 147)).turned m3 nMB
      have hS5 : wA.cell? ⟨BO, 3, none⟩ = some (v0) ∧ wA.cell? ⟨MB, 0, none⟩ = some (.slice a0 ss.length c0) ∧ wA.cell? ⟨MB, 1, none⟩ = some (.slice a1 cs.length c1) ∧ wA.cell? ⟨MB, 2, none⟩ = some (.bool f) ∧ wA.cell? ⟨MB, 3, none⟩ = some (.slice a3 bs.length c3') := mk.out wA ya ym
      have r0 := hS5.1
      have fz := ya.frozen 3
      have YA := hidden ya
      have M1 := hidden m1
      have M2 := hidden m2
      have M3 := hidden m3
      clear ya ym m1 m2 m3 nMB
      refine hK.out _ _ (fun _ => hS5) ?_
      clear hK K
      simp only [Act.put, List.setIfInBounds_toArray, List.set_cons_zero, List.set_cons_succ]
      refine Upto.t 6 hS5 ?_
      refine Upto.one (i := 7) (by kernel_rfl) rfl (fun K hK => ?_)
      go_simp
      refine hK.out _ _ (fun h => absurd rfl h) ?_
      clear hK K
      refine Upto.done (by kernel_rfl) ?_ _
      have HFA := hidden (round_fp (N := LB) (by omega) HBC.out HFP.out RX.out M2.out)
      have FRA := hidden (Fr.round FRR.out (by omega) HBC.out _ M3.out HFP.out 3 (.slice (some ⟨g, 0, none⟩) (j + 1) cap))
      have MA := hidden (M1.out.setCell (g := BO) (j := 3) (fun hm => by have := HFA.out _ hm; omega) (.slice (some ⟨g, 0, none⟩) (j + 1) cap))
      have YA' := hidden (YA.out.set 3 (.slice (some ⟨g, 0, none⟩) (j + 1) cap))
      clear hS hS3 hS4 hS5 r0 YA M1 M2 M3 XOC MX RX HBC HFP HM FRR XO XMM XMC mk FLT
      go_wp2
      go_roundw
      case rel => exact ⟨j + 1, _, fpA, by omega, by go_num, FRA.out, YA'.out, MA.out, HFA.out⟩
      case measure => simp [intOf]; omega
    · have ej : nm = j := by omega
      subst ej
      rw [List.take_of_length_le (by omega)] at hm
      have hlt := hm.lt
      obtain ⟨eM, gM, hvM⟩ := row_shape hm.rd
      rw [hl0] at hvM
      subst hvM
      have KM := hm.own (lo := LB) (hi := wr.heap.size) (fun b hb => ⟨hfp b hb, hlt b hb⟩)
      have xr := fr.box XR2.out (by omega) (by omega)
      have xm := fr.box XM2.out (by omega) (by omega)
      have c9 : wr.cell? ⟨w.heap.size, 9, none⟩ = some (.slice ad nd cd) := xm.cell 9
      obtain ⟨LE, hLE⟩ : ∃ LE, wr.heap.size = LE := ⟨_, rfl⟩
      rw [hLE] at KM hs
      have hLE2 : LE ≤ wr.heap.size := by omega
      clear hLE
      have XM3 := hidden xm
      have XR3 := hidden xr
      have XO3 := hidden xo
      have KM3 := hidden KM
      have HB3 := hidden hb
      clear fr xo xm hm hfp hlt KM xr hb hj XM2 XR2 XO2 HB2
      go_wp2
      clear c9
      obtain ⟨wo, hwo⟩ : ∃ y, y = wr := ⟨_, rfl⟩
      subst hwo
      go_loopw [29] (fun i wq => ∃ (j : Nat) (v1 : Value) (fp1 : List Nat), j ≤ nd ∧ i = .int .i64 j ∧ Fr LE BO wo wq ∧ Box wq BO 29 #[.int .i64 x.id, .int .i64 x.n, .int .i64 x.s, .slice eM nm gM, .int .i64 x.lost, .int .i64 x.built, .int .i64 x.seq, .int .i64 x.tail, .int .i64 x.gen, v1, .int .i64 x.fuse, .bool x.down, .bool x.broken] ∧ (tWrS 162).Mine wq [v1] (ds.take j) fp1 ∧ (∀ b ∈ fp1, LE ≤ b)) (fun i _ => nd - (intOf i).toNat)
      case atStart => exact ⟨0, _, [], Nat.zero_le _, rfl, Fr.refl _ _ _, XO3.out, nil_mine _, by simp⟩
      case round =>
        obtain ⟨j, v1, fp1, hj, rfl, fr, xo, hm, hfp⟩ := hrel
        have hs3 := fr.size
        have hb := HB3.out.trans (fr.below (M := w.heap.size) (by omega) (by omega))
        by_cases hjn : j < nd
        · rcases pairs_at rfl h1 with h0' | ⟨b, off, rfl, hbl, hcs⟩
          · omega
          have hdj : ds[j]? = some (ds[j]'(by omega)) := List.getElem?_eq_getElem (by omega)
          have htk : ds.take (j + 1) = ds.take j ++ [ds[j]'(by omega)] := List.take_succ_eq_append_getElem (by omega)
          generalize ds[j]'(by omega) = d at hdj htk
          have hil := inner_le' hdj
          obtain ⟨u0, u1, hv0, hv1, hrv⟩ := hcs j d hdj
          obtain ⟨rfl, hrv'⟩ := wr_rd hrv
          obtain ⟨av, cv, rfl⟩ := row_shape hrv'
          have pv0 := (hb.cell (p := ⟨b, off + j * 2, none⟩) hbl).trans hv0
          have pv1 := (hb.cell (p := ⟨b, off + j * 2 + 1, none⟩) hbl).trans hv1
          obtain ⟨x0, x1⟩ := d
          simp only at pv0 pv1 hrv' hil
          have nb := new_below wr (.cells #[.int .i64 x0, .slice av x1.length cv] 162)
          have hzm : (wr.alloc (.cells #[.int .i64 x0, .slice av x1.length cv] 162)).heap.size = wr.heap.size + 1 := by simp
          have HX := hidden (hrv'.below (Below.andThen hb nb))
          have k1 : (0 : Int) ≤ (j : Int) := by omega
          have k2 : (j : Int) < (nd : Int) := by omega
          have xom := xo.alloc (.cells #[.int .i64 x0, .slice av x1.length cv] 162)
          have xmm := Box.new wr 162 #[.int .i64 x0, .slice av x1.length cv]
          have hmm := hm.alloc (.cells #[.int .i64 x0, .slice av x1.length cv] 162)
          have frm : Fr LE BO wo (wr.alloc (.cells #[.int .i64 x0, .slice av x1.length cv] 162)) := fr.trans (Fr.ofBelow nb (by omega))
          have hlt0 : ∀ b ∈ fp1, b < wr.heap.size := hm.lt
          have HL : Hid ((ds.take j).length = j) := by unfold Hid; rw [List.length_take]; omega
          have L1 : Hid ((ds.take j).length + 1 ≤ maxLen) := by unfold Hid; rw [HL.out]; unfold maxLen; omega
          have L2 : Hid (((ds.take j).length + 1) * 32 ≤ 140737488355328) := by unfold Hid; rw [HL.out]; omega
          have HTK := hidden htk
          have FRR := hidden frm
          have HM := hidden hmm
          have HFP := hidden hfp
          have XO := hidden xom
          have XMM := hidden xmm
          have FLT := hidden hlt0
          clear hcs hdj hv0 hv1 hrv hrv' htk xo hm hfp hb fr nb xom xmm hmm frm hlt0
          go_wp2_with fail
          generalize wr.alloc (.cells #[.int .i64 x0, .slice av x1.length cv] 162) = wm at HX FRR HM XO XMM hzm ⊢
          obtain ⟨MB, hMB⟩ : ∃ MB, wr.heap.size = MB := ⟨_, rfl⟩
          rw [hMB] at XMM hzm hs3 FLT ⊢
          clear hMB pv0 pv1
          have zMB : MB < wm.heap.size := by omega
          have zBO : BO < wm.heap.size := by omega
          have hzm2 : MB + 1 ≤ wm.heap.size := by omega
          clear hzm
          have mk : Hid (∀ w', Box w' BO 29 #[.int .i64 x.id, .int .i64 x.n, .int .i64 x.s, .slice eM nm gM, .int .i64 x.lost, .int .i64 x.built, .int .i64 x.seq, .int .i64 x.tail, .int .i64 x.gen, v1, .int .i64 x.fuse, .bool x.down, .bool x.broken] → Box w' MB 162 #[.int .i64 x0, .slice av x1.length cv] → w'.cell? ⟨BO, 9, none⟩ = some (v1) ∧ w'.cell? ⟨MB, 0, none⟩ = some (.int .i64 x0) ∧ w'.cell? ⟨MB, 1, none⟩ = some (.slice av x1.length cv)) := fun w' h1 h2 => ⟨h1.cell 9, h2.cell 0, h2.cell 1⟩
          have hS : wm.drew.cell? ⟨BO, 9, none⟩ = some (v1) ∧ wm.drew.cell? ⟨MB, 0, none⟩ = some (.int .i64 x0) ∧ wm.drew.cell? ⟨MB, 1, none⟩ = some (.slice av x1.length cv) := mk.out wm.drew XO.out XMM.out
          refine Upto.start (S := fun w' => w'.cell? ⟨BO, 9, none⟩ = some (v1) ∧ w'.cell? ⟨MB, 0, none⟩ = some (.int .i64 x0) ∧ w'.cell? ⟨MB, 1, none⟩ = some (.slice av x1.length cv)) (k := 11) (by kernel_rfl) ?_
          refine Upto.t 0 hS ?_
          refine Upto.t 1 hS ?_
          refine Upto.t 2 hS ?_
          refine Upto.t 3 hS ?_
          refine Upto.t 4 hS ?_
          refine Upto.t 5 hS ?_
          refine Upto.one (i := 6) (by kernel_rfl) rfl (fun K hK => ?_)
          go_simp
          refine (copyWords_any _ _ _ _ x1 HX.out.drew (by omega)).mono ?_
          rintro e wc ⟨ac, cc, rfl, ow, bc⟩
          have hbc' : Below wm.heap.size wm wc := (Below.refl wm.heap.size wm).drew.trans bc
          obtain ⟨fpx, mx, rx0⟩ := ow.mine
          have rx : ∀ b ∈ fpx, wm.heap.size ≤ b ∧ b < wc.heap.size := rx0
          have xoc := XO.out.below hbc' zBO
          have xmc := XMM.out.below hbc' zMB
          have hS3 : wc.cell? ⟨BO, 9, none⟩ = some (v1) ∧ wc.cell? ⟨MB, 0, none⟩ = some (.int .i64 x0) ∧ wc.cell? ⟨MB, 1, none⟩ = some (.slice av x1.length cv) := mk.out wc xoc xmc
          have zc := hbc'.size
          have hS4 : (wc.alloc (.cells #[.int .i64 x0, .slice ac x1.length cc] 162)).cell? ⟨BO, 9, none⟩ = some (v1) ∧ (wc.alloc (.cells #[.int .i64 x0, .slice ac x1.length cc] 162)).cell? ⟨MB, 0, none⟩ = some (.int .i64 x0) ∧ (wc.alloc (.cells #[.int .i64 x0, .slice ac x1.length cc] 162)).cell? ⟨MB, 1, none⟩ = some (.slice av x1.length cv) := mk.out _ (xoc.alloc _) (xmc.alloc _)
          have XOC := hidden xoc
          have XMC := hidden xmc
          have MX := hidden mx
          have RX := hidden rx
          have HBC := hidden hbc'
          clear xoc xmc mx rx rx0 hbc' bc ow HX
          go_wp2_with fail
          refine hK.out _ _ (fun _ => hS3) ?_
          clear hK K
          refine Upto.t 7 hS3 ?_
          refine Upto.one (i := 8) (by kernel_rfl) rfl (fun K hK => ?_)
          go_simp
          refine hK.out _ _ (fun _ => hS4) ?_
          clear hK K
          refine Upto.one (i := 9) (by kernel_rfl) rfl (fun K hK => ?_)
          refine step_appT tWr (by rfl) _ _ 27 (by rfl) 162 i1 (.agg #[.int .i64 0, .slice none 0 0]) 32 Tryz.underlying27 hi1 hy0 hy1 hy2 rfl Nat.zero_lt_two v1 (ds.take j) fp1 (by rfl) ?_ ⟨wc.heap.size, 0, none⟩ 1 [.int .i64 x0, .slice ac x1.length cc] (x0, x1) fpx (by rfl) ?_ ?_ ?_ ?_ L1.out L2.out ?_
          · exact (HM.out.below HBC.out).alloc _
          · exact (wr_mine x0 MX.out).alloc _
          · intro b hb hb'
            have h1 := HM.out.lt b hb
            have h2 := RX.out b hb'
            omega
          · exact news_new _ _ _
          · intro u hu
            simp at hu
            rcases hu with hu | hu <;> (rw [hu]; rfl)
          intro g cap wA fpA m1 m2 m3
          rw [HL.out] at m1 ⊢
          rw [← HTK.out] at m1
          have nMB : MB ∉ fp1 := fun hm => by have := FLT.out _ hm; omega
          have ya := (XOC.out.alloc (.cells #[.int .i64 x0, .slice ac x1.length cc] 162)).turned m3 (fun hm => by have := HFP.out _ hm; omega)
          have ym := (XMC.out.alloc (.cells #[.int .i64 x0, .slice ac x1.length cc] 162)).turned m3 nMB
          have hS5 : wA.cell? ⟨BO, 9, none⟩ = some (v1) ∧ wA.cell? ⟨MB, 0, none⟩ = some (.int .i64 x0) ∧ wA.cell? ⟨MB, 1, none⟩ = some (.slice av x1.length cv) := mk.out wA ya ym
          have r0 := hS5.1
          have fz := ya.frozen 9
          have YA := hidden ya
          have M1 := hidden m1
          have M2 := hidden m2
          have M3 := hidden m3
          clear ya ym m1 m2 m3 nMB
          refine hK.out _ _ (fun _ => hS5) ?_
          clear hK K
          simp only [Act.put, List.setIfInBounds_toArray, List.set_cons_zero, List.set_cons_succ]
          refine Upto.t 10 hS5 ?_
          refine Upto.one (i := 11) (by kernel_rfl) rfl (fun K hK => ?_)
          go_simp
          refine hK.out _ _ (fun h => absurd rfl h) ?_
          clear hK K
          refine Upto.done (by kernel_rfl) ?_ _
          have HFA := hidden (round_fp (N := LE) (by omega) HBC.out HFP.out RX.out M2.out)
          have FRA := hidden (Fr.round FRR.out (by omega) HBC.out _ M3.out HFP.out 9 (.slice (some ⟨g, 0, none⟩) (j + 1) cap))
          have MA := hidden (M1.out.setCell (g := BO) (j := 9) (fun hm => by have := HFA.out _ hm; omega) (.slice (some ⟨g, 0, none⟩) (j + 1) cap))
          have YA' := hidden (YA.out.set 9 (.slice (some ⟨g, 0, none⟩) (j + 1) cap))
          clear hS hS3 hS4 hS5 r0 YA M1 M2 M3 XOC MX RX HBC HFP HM FRR XO XMM XMC mk FLT
          go_wp2
          go_roundw
          case rel => exact ⟨j + 1, _, fpA, by omega, by go_num, FRA.out, YA'.out, MA.out, HFA.out⟩
          case measure => simp [intOf]; omega
        · have ej : nd = j := by omega
          subst ej
          rw [List.take_of_length_le (by omega)] at hm
          have hlt := hm.lt
          obtain ⟨eD, gD, hvD⟩ := row_shape hm.rd
          rw [hl1] at hvD
          subst hvD
          have K1 := hm.own (lo := LE) (hi := wr.heap.size) (fun b hb => ⟨hfp b hb, hlt b hb⟩)
          have K0 := fr.own KM3.out (Nat.le_refl _) (.inr (by omega))
          have xr := fr.box XR3.out (by omega) (by omega)
          have hbt := puts_but BR [(0, .int .i64 x.id), (1, .int .i64 x.n), (2, .int .i64 x.s), (3, .slice eM nm gM), (4, .int .i64 x.lost), (5, .int .i64 x.built), (6, .int .i64 x.seq), (7, .int .i64 x.tail), (8, .int .i64 x.gen), (9, .slice eD nd gD), (10, .int .i64 x.fuse), (11, .bool x.down), (12, .bool x.broken)] wr
          have H0 := K0.but hbt (.inr (by omega))
          have H1 := K1.but hbt (.inr (by omega))
          have HBB := Below.andBut hb hbt (by omega)
          have hsz := hbt.size
          have H0w := hidden (H0.widen (lo' := w.heap.size) (hi' := LE) (by omega) (Nat.le_refl _))
          have H1w := hidden (H1.widen (lo' := LE) (Nat.le_refl _) hsz)
          have HBw := hidden HBB
          have HSZ : Hid (LE ≤ (puts wr BR [(0, .int .i64 x.id), (1, .int .i64 x.n), (2, .int .i64 x.s), (3, .slice eM nm gM), (4, .int .i64 x.lost), (5, .int .i64 x.built), (6, .int .i64 x.seq), (7, .int .i64 x.tail), (8, .int .i64 x.gen), (9, .slice eD nd gD), (10, .int .i64 x.fuse), (11, .bool x.down), (12, .bool x.broken)]).heap.size) := by unfold Hid; omega
          simp only [puts] at H0w H1w HBw HSZ
          obtain ⟨p0, p1, p2, p3, p4, p5, p6, p7, p8, p9, p10, p11, p12⟩ := xr.cells13
          have fz := xr.frozen
          obtain ⟨r0, r1, r2, r3, r4, r5, r6, r7, r8, r9, r10, r11, r12⟩ := xo.cells13
          have hLw : w.heap.size ≤ LE := by omega
          clear fr xo hb hm hfp hlt xr K0 K1 hbt H0 H1 HBB hsz hj hs3
          go_wp2
          refine bodyPost_ret (v := .agg #[.int .i64 x.id, .int .i64 x.n, .int .i64 x.s, .slice eM nm gM, .int .i64 x.lost, .int .i64 x.built, .int .i64 x.seq, .int .i64 x.tail, .int .i64 x.gen, .slice eD nd gD, .int .i64 x.fuse, .bool x.down, .bool x.broken]) (by simp [results, Tryz.results117, go_sem, p0, p1, p2, p3, p4, p5, p6, p7, p8, p9, p10, p11, p12]) rfl ?_
          exact ⟨_, _, _, _, LE, rfl, H0w.out, H1w.out, hLw, HSZ.out, HBw.out⟩

end Go.Proofs.YtbkkjfgjlapadaaGreat

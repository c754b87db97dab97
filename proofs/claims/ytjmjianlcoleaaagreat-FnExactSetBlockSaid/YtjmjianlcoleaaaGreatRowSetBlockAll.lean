/-
  The exact law of SetBlock holds: for every array and every two numbers the law returns true. No condition.
-/
import Derived.Test.YtjmjianlcoleaaaGreatHeld
import Derived.Test.YtjmjianlcoleaaaGreatWalkArr
import Derived.Test.YtjmjianlcoleaaaGreatRowSetBlockAll2
import Derived.Test.YtjmjianlcoleaaaGreatOrder
import Derived.Test.YtjmjianlcoleaaaGreatRowSetBlockAll3
import Derived.Shelf.Spec.SlicesGrow
import Derived.Test.YtjmjianlcoleaaaGreatGrow
import Derived.Test.YtjmjianlcoleaaaGreatPut8
import Derived.Test.YtjmjianlcoleaaaGreatWalk8c
import Derived.Deep.Upon
import Derived.Test.YtjmjianlcoleaaaGreatWalk8d
import Derived.Test.YtjmjianlcoleaaaGreatWalkInts
import Derived.Test.YtjmjianlcoleaaaGreatWalkMark
import Derived.Test.YtjmjianlcoleaaaGreatWalkSz
import Derived.ProofKit
import Derived.OpenShut
import Derived.Lib.SmallJoins
import Derived.Deep.Slices
import Derived.Deep.SlicePairs
import Derived.Test.YtjmjianlcoleaaaGreatRows
import Derived.WalkKit
import Derived.ShutString
import Derived.ChangeOld
import Derived.Below

/-
  The walk of the program's copyArr: the same array in memory of its own. Condition: it weighs at most 2097152.
-/
namespace Go.Proofs.YtjmjianlcoleaaaGreat
open Go.RowKit

set_option linter.unusedSimpArgs false in
set_option maxRecDepth 20000 in
set_option maxHeartbeats 4000000 in
theorem copyArr_any (w : World) (E F G : TypeId) (x : ArrN) (am ad : Option Addr) (nm cm nd cd : Nat) (ms : List MemD) (ds : List (Int × List Int)) (h0 : (tMemS E F).Rd w [.slice am nm cm] ms) (h1 : (tWrS G).Rd w [.slice ad nd cd] ds) (hw : wtArr ms ds ≤ 2097152) :
    Calls Tryz.prog 39 #[.agg #[.int .i64 x.id, .int .i64 x.n, .int .i64 x.s, .slice am nm cm, .int .i64 x.lost, .int .i64 x.built, .int .i64 x.seq, .int .i64 x.tail, .int .i64 x.gen, .slice ad nd cd, .int .i64 x.fuse, .bool x.down, .bool x.broken]] w fun e w' => ∃ bm cm' bd cd' m, e = .returned (.agg #[.int .i64 x.id, .int .i64 x.n, .int .i64 x.s, .slice bm nm cm', .int .i64 x.lost, .int .i64 x.built, .int .i64 x.seq, .int .i64 x.tail, .int .i64 x.gen, .slice bd nd cd', .int .i64 x.fuse, .bool x.down, .bool x.broken]) ∧ (tMemS 123 87).Own w' w.heap.size m [.slice bm nm cm'] ms ∧ (tWrS 65).Own w' m w'.heap.size [.slice bd nd cd'] ds ∧ w.heap.size ≤ m ∧ m ≤ w'.heap.size ∧ Below w.heap.size w w' := by
  have hwm : wtMemS ms ≤ 2097152 := by unfold wtArr at hw; omega
  have hwd : wtWrS ds ≤ 2097152 := by unfold wtArr at hw; omega
  obtain ⟨hl0, _, hm0⟩ := row_length h0
  obtain ⟨hl1, _, hm1⟩ := row_length h1
  have hn0 : nm ≤ 2097152 := by unfold wtMemS at hwm; omega
  have hn1 : nd ≤ 2097152 := by unfold wtWrS at hwd; omega
  obtain ⟨i1, hi1, hy0, hy1, hy2⟩ := info_parts Tryz.infoEnt
  obtain ⟨i4, hi4, hz0, hz1, hz2⟩ := info_parts Tryz.infoMem
  have zz : ∀ u : World, ∀ ob : Obj, (u.alloc ob).heap.size = u.heap.size + 1 := fun u ob => by simp
  have xm : Box (((w.alloc (.cells #[.int .i64 x.id, .int .i64 x.n, .int .i64 x.s, .slice am nm cm, .int .i64 x.lost, .int .i64 x.built, .int .i64 x.seq, .int .i64 x.tail, .int .i64 x.gen, .slice ad nd cd, .int .i64 x.fuse, .bool x.down, .bool x.broken] 35)).alloc (.cells #[.int .i64 0, .int .i64 0, .int .i64 0, .slice none 0 0, .int .i64 0, .int .i64 0, .int .i64 0, .int .i64 0, .int .i64 0, .slice none 0 0, .int .i64 0, .bool false, .bool false] 35)).alloc (.cells #[.int .i64 x.id, .int .i64 x.n, .int .i64 x.s, .slice none 0 0, .int .i64 x.lost, .int .i64 x.built, .int .i64 x.seq, .int .i64 x.tail, .int .i64 x.gen, .slice none 0 0, .int .i64 x.fuse, .bool x.down, .bool x.broken] 35)) (w.heap.size) 35 #[.int .i64 x.id, .int .i64 x.n, .int .i64 x.s, .slice am nm cm, .int .i64 x.lost, .int .i64 x.built, .int .i64 x.seq, .int .i64 x.tail, .int .i64 x.gen, .slice ad nd cd, .int .i64 x.fuse, .bool x.down, .bool x.broken] := ((Box.new w _ _).alloc _).alloc _
  have xr0 := Box.new (w.alloc (.cells #[.int .i64 x.id, .int .i64 x.n, .int .i64 x.s, .slice am nm cm, .int .i64 x.lost, .int .i64 x.built, .int .i64 x.seq, .int .i64 x.tail, .int .i64 x.gen, .slice ad nd cd, .int .i64 x.fuse, .bool x.down, .bool x.broken] 35)) 35 #[.int .i64 0, .int .i64 0, .int .i64 0, .slice none 0 0, .int .i64 0, .int .i64 0, .int .i64 0, .int .i64 0, .int .i64 0, .slice none 0 0, .int .i64 0, .bool false, .bool false]
  rw [zz] at xr0
  have xr : Box (((w.alloc (.cells #[.int .i64 x.id, .int .i64 x.n, .int .i64 x.s, .slice am nm cm, .int .i64 x.lost, .int .i64 x.built, .int .i64 x.seq, .int .i64 x.tail, .int .i64 x.gen, .slice ad nd cd, .int .i64 x.fuse, .bool x.down, .bool x.broken] 35)).alloc (.cells #[.int .i64 0, .int .i64 0, .int .i64 0, .slice none 0 0, .int .i64 0, .int .i64 0, .int .i64 0, .int .i64 0, .int .i64 0, .slice none 0 0, .int .i64 0, .bool false, .bool false] 35)).alloc (.cells #[.int .i64 x.id, .int .i64 x.n, .int .i64 x.s, .slice none 0 0, .int .i64 x.lost, .int .i64 x.built, .int .i64 x.seq, .int .i64 x.tail, .int .i64 x.gen, .slice none 0 0, .int .i64 x.fuse, .bool x.down, .bool x.broken] 35)) (w.heap.size + 1) 35 #[.int .i64 0, .int .i64 0, .int .i64 0, .slice none 0 0, .int .i64 0, .int .i64 0, .int .i64 0, .int .i64 0, .int .i64 0, .slice none 0 0, .int .i64 0, .bool false, .bool false] := xr0.alloc _
  have xo := Box.new ((w.alloc (.cells #[.int .i64 x.id, .int .i64 x.n, .int .i64 x.s, .slice am nm cm, .int .i64 x.lost, .int .i64 x.built, .int .i64 x.seq, .int .i64 x.tail, .int .i64 x.gen, .slice ad nd cd, .int .i64 x.fuse, .bool x.down, .bool x.broken] 35)).alloc (.cells #[.int .i64 0, .int .i64 0, .int .i64 0, .slice none 0 0, .int .i64 0, .int .i64 0, .int .i64 0, .int .i64 0, .int .i64 0, .slice none 0 0, .int .i64 0, .bool false, .bool false] 35)) 35 #[.int .i64 x.id, .int .i64 x.n, .int .i64 x.s, .slice none 0 0, .int .i64 x.lost, .int .i64 x.built, .int .i64 x.seq, .int .i64 x.tail, .int .i64 x.gen, .slice none 0 0, .int .i64 x.fuse, .bool x.down, .bool x.broken]
  rw [zz, zz] at xo
  have hB : Below (w.heap.size) w (((w.alloc (.cells #[.int .i64 x.id, .int .i64 x.n, .int .i64 x.s, .slice am nm cm, .int .i64 x.lost, .int .i64 x.built, .int .i64 x.seq, .int .i64 x.tail, .int .i64 x.gen, .slice ad nd cd, .int .i64 x.fuse, .bool x.down, .bool x.broken] 35)).alloc (.cells #[.int .i64 0, .int .i64 0, .int .i64 0, .slice none 0 0, .int .i64 0, .int .i64 0, .int .i64 0, .int .i64 0, .int .i64 0, .slice none 0 0, .int .i64 0, .bool false, .bool false] 35)).alloc (.cells #[.int .i64 x.id, .int .i64 x.n, .int .i64 x.s, .slice none 0 0, .int .i64 x.lost, .int .i64 x.built, .int .i64 x.seq, .int .i64 x.tail, .int .i64 x.gen, .slice none 0 0, .int .i64 x.fuse, .bool x.down, .bool x.broken] 35)) := (((Below.refl _ _).alloc (Nat.le_refl _) _).alloc (by simp) _).alloc (by simp; omega) _
  have hz : (((w.alloc (.cells #[.int .i64 x.id, .int .i64 x.n, .int .i64 x.s, .slice am nm cm, .int .i64 x.lost, .int .i64 x.built, .int .i64 x.seq, .int .i64 x.tail, .int .i64 x.gen, .slice ad nd cd, .int .i64 x.fuse, .bool x.down, .bool x.broken] 35)).alloc (.cells #[.int .i64 0, .int .i64 0, .int .i64 0, .slice none 0 0, .int .i64 0, .int .i64 0, .int .i64 0, .int .i64 0, .int .i64 0, .slice none 0 0, .int .i64 0, .bool false, .bool false] 35)).alloc (.cells #[.int .i64 x.id, .int .i64 x.n, .int .i64 x.s, .slice none 0 0, .int .i64 x.lost, .int .i64 x.built, .int .i64 x.seq, .int .i64 x.tail, .int .i64 x.gen, .slice none 0 0, .int .i64 x.fuse, .bool x.down, .bool x.broken] 35)).heap.size = w.heap.size + 1 + 1 + 1 := by simp
  have cm3 := xm.cell 3
  have cm9 := xm.cell 9
  clear xr0 zz
  go_enter Tryz.func39, Tryz.ntmps39
  go_wp2
  clear cm3 cm9
  generalize ((w.alloc (.cells #[.int .i64 x.id, .int .i64 x.n, .int .i64 x.s, .slice am nm cm, .int .i64 x.lost, .int .i64 x.built, .int .i64 x.seq, .int .i64 x.tail, .int .i64 x.gen, .slice ad nd cd, .int .i64 x.fuse, .bool x.down, .bool x.broken] 35)).alloc (.cells #[.int .i64 0, .int .i64 0, .int .i64 0, .slice none 0 0, .int .i64 0, .int .i64 0, .int .i64 0, .int .i64 0, .int .i64 0, .slice none 0 0, .int .i64 0, .bool false, .bool false] 35)).alloc (.cells #[.int .i64 x.id, .int .i64 x.n, .int .i64 x.s, .slice none 0 0, .int .i64 x.lost, .int .i64 x.built, .int .i64 x.seq, .int .i64 x.tail, .int .i64 x.gen, .slice none 0 0, .int .i64 x.fuse, .bool x.down, .bool x.broken] 35) = W2 at xm xr xo hB hz ⊢
  obtain ⟨LB, hLB⟩ : ∃ LB, W2.heap.size = LB := ⟨_, rfl⟩
  rw [hLB] at hz
  have q3 : w.heap.size + 1 + 1 + 1 ≤ LB ∧ LB ≤ w.heap.size + 1 + 1 + 1 := by omega
  have hzL : LB ≤ W2.heap.size := by omega
  clear hLB hz
  obtain ⟨BO, hBO⟩ : ∃ BO, w.heap.size + 1 + 1 = BO := ⟨_, rfl⟩
  rw [hBO] at xo ⊢
  have q2 : w.heap.size + 1 + 1 ≤ BO ∧ BO ≤ w.heap.size + 1 + 1 := by omega
  clear hBO
  obtain ⟨BR, hBR⟩ : ∃ BR, w.heap.size + 1 = BR := ⟨_, rfl⟩
  rw [hBR] at xr ⊢
  have q1 : w.heap.size + 1 ≤ BR ∧ BR ≤ w.heap.size + 1 := by omega
  clear hBR
  have XM2 := hidden xm
  have XR2 := hidden xr
  have XO2 := hidden xo
  have HB2 := hidden hB
  clear xm xr xo hB
  go_loopw [14] (fun i wr => ∃ (j : Nat) (v0 : Value) (fp0 : List Nat), j ≤ nm ∧ i = .int .i64 j ∧ Fr LB BO W2 wr ∧ Box wr BO 35 #[.int .i64 x.id, .int .i64 x.n, .int .i64 x.s, v0, .int .i64 x.lost, .int .i64 x.built, .int .i64 x.seq, .int .i64 x.tail, .int .i64 x.gen, .slice none 0 0, .int .i64 x.fuse, .bool x.down, .bool x.broken] ∧ (tMemS 123 87).Mine wr [v0] (ms.take j) fp0 ∧ (∀ b ∈ fp0, LB ≤ b)) (fun i _ => nm - (intOf i).toNat)
  case atStart => exact ⟨0, _, [], Nat.zero_le _, rfl, Fr.refl _ _ _, XO2.out, nil_mine _, by simp⟩
  case round =>
    obtain ⟨j, v0, fp0, hj, rfl, fr, xo, hm, hfp⟩ := hrel
    have hs := fr.size
    have hb := HB2.out.trans (fr.below (M := w.heap.size) (by omega) (by omega))
    by_cases hjn : j < nm
    · rcases quads_at rfl h0 with h0' | ⟨b, off, rfl, hbl, hcs⟩
      · omega
      have hdj : ms[j]? = some (ms[j]'(by omega)) := List.getElem?_eq_getElem (by omega)
      have htk : ms.take (j + 1) = ms.take j ++ [ms[j]'(by omega)] := List.take_succ_eq_append_getElem (by omega)
      generalize ms[j]'(by omega) = d at hdj htk
      have hin := Nat.le_trans (inner_leM hdj) hwm
      obtain ⟨u0, u1, u2, u3, hv0, hv1, hv2, hv3, hrv⟩ := hcs j d hdj
      obtain ⟨a0, c0, a1, c1, a3, c3', ss, cs, f, bs, rfl, rfl, rfl, rfl, rfl, r0, r1, r3⟩ := mem_at hrv
      have pv0 := (hb.cell (p := ⟨b, off + j * 4, none⟩) hbl).trans hv0
      have pv1 := (hb.cell (p := ⟨b, off + j * 4 + 1, none⟩) hbl).trans hv1
      have pv2 := (hb.cell (p := ⟨b, off + j * 4 + 2, none⟩) hbl).trans hv2
      have pv3 := (hb.cell (p := ⟨b, off + j * 4 + 3, none⟩) hbl).trans hv3
      have nb := new_below wr (.cells #[.slice a0 ss.length c0, .slice a1 cs.length c1, .bool f, .slice a3 bs.length c3'] 87)
      have hzm : (wr.alloc (.cells #[.slice a0 ss.length c0, .slice a1 cs.length c1, .bool f, .slice a3 bs.length c3'] 87)).heap.size = wr.heap.size + 1 := by simp
      have hbm := Below.andThen hb nb
      have R0 := hidden (r0.below hbm)
      have R1 := hidden (r1.below hbm)
      have R3 := hidden (r3.below hbm)
      have xom := xo.alloc (.cells #[.slice a0 ss.length c0, .slice a1 cs.length c1, .bool f, .slice a3 bs.length c3'] 87)
      have xmm := Box.new wr 87 #[.slice a0 ss.length c0, .slice a1 cs.length c1, .bool f, .slice a3 bs.length c3']
      have hmm := hm.alloc (.cells #[.slice a0 ss.length c0, .slice a1 cs.length c1, .bool f, .slice a3 bs.length c3'] 87)
      have frm : Fr LB BO W2 (wr.alloc (.cells #[.slice a0 ss.length c0, .slice a1 cs.length c1, .bool f, .slice a3 bs.length c3'] 87)) := fr.trans (Fr.ofBelow nb (by omega))
      have k1 : (0 : Int) ≤ (j : Int) := by omega
      have k2 : (j : Int) < (nm : Int) := by omega
      have HL : Hid ((ms.take j).length = j) := by unfold Hid; rw [List.length_take]; omega
      have L1 : Hid ((ms.take j).length + 1 ≤ maxLen) := by unfold Hid; rw [HL.out]; unfold maxLen; omega
      have L2 : Hid (((ms.take j).length + 1) * 80 ≤ 140737488355328) := by unfold Hid; rw [HL.out]; omega
      have hlt0 : ∀ b ∈ fp0, b < wr.heap.size := hm.lt
      have HTK := hidden htk
      have FRR := hidden frm
      have HM := hidden hmm
      have HFP := hidden hfp
      have XO := hidden xom
      have XMM := hidden xmm
      clear hcs hdj hv0 hv1 hv2 hv3 hrv htk xo hm hfp hb fr r0 r1 r3 nb hbm xom xmm hmm frm
      go_wp2_with fail
      generalize wr.alloc (.cells #[.slice a0 ss.length c0, .slice a1 cs.length c1, .bool f, .slice a3 bs.length c3'] 87) = wm at R0 R1 R3 FRR HM XO XMM hzm ⊢
      have FLT := hidden hlt0
      obtain ⟨MB, hMB⟩ : ∃ MB, wr.heap.size = MB := ⟨_, rfl⟩
      rw [hMB] at XMM hzm hs FLT ⊢
      clear hMB pv0 pv1 pv2 pv3
      have zMB : MB < wm.heap.size := by omega
      have zBO : BO < wm.heap.size := by omega
      have hzm2 : MB + 1 ≤ wm.heap.size := by omega
      clear hzm
      have mk : Hid (∀ w', Box w' BO 35 #[.int .i64 x.id, .int .i64 x.n, .int .i64 x.s, v0, .int .i64 x.lost, .int .i64 x.built, .int .i64 x.seq, .int .i64 x.tail, .int .i64 x.gen, .slice none 0 0, .int .i64 x.fuse, .bool x.down, .bool x.broken] → Box w' MB 87 #[.slice a0 ss.length c0, .slice a1 cs.length c1, .bool f, .slice a3 bs.length c3'] → w'.cell? ⟨BO, 3, none⟩ = some (v0) ∧ w'.cell? ⟨MB, 0, none⟩ = some (.slice a0 ss.length c0) ∧ w'.cell? ⟨MB, 1, none⟩ = some (.slice a1 cs.length c1) ∧ w'.cell? ⟨MB, 2, none⟩ = some (.bool f) ∧ w'.cell? ⟨MB, 3, none⟩ = some (.slice a3 bs.length c3')) := fun w' h1 h2 => ⟨h1.cell 3, h2.cell 0, h2.cell 1, h2.cell 2, h2.cell 3⟩
      have hS : wm.drew.cell? ⟨BO, 3, none⟩ = some (v0) ∧ wm.drew.cell? ⟨MB, 0, none⟩ = some (.slice a0 ss.length c0) ∧ wm.drew.cell? ⟨MB, 1, none⟩ = some (.slice a1 cs.length c1) ∧ wm.drew.cell? ⟨MB, 2, none⟩ = some (.bool f) ∧ wm.drew.cell? ⟨MB, 3, none⟩ = some (.slice a3 bs.length c3') := mk.out wm.drew XO.out XMM.out
      refine Upto.start (S := fun w' => w'.cell? ⟨BO, 3, none⟩ = some (v0) ∧ w'.cell? ⟨MB, 0, none⟩ = some (.slice a0 ss.length c0) ∧ w'.cell? ⟨MB, 1, none⟩ = some (.slice a1 cs.length c1) ∧ w'.cell? ⟨MB, 2, none⟩ = some (.bool f) ∧ w'.cell? ⟨MB, 3, none⟩ = some (.slice a3 bs.length c3')) (k := 7) (by kernel_rfl) ?_
      refine Upto.t 0 hS ?_
      refine Upto.t 1 hS ?_
      refine Upto.t 2 hS ?_
      refine Upto.one (i := 3) (by kernel_rfl) rfl (fun K hK => ?_)
      go_simp
      refine (copyMem_any _ E _ _ _ _ _ _ _ _ _ ss cs f bs R0.out.drew R1.out.drew R3.out.drew hin).mono ?_
      rintro e wc ⟨y0, y1, y3, m1, m2, rfl, o3, o0, o1, hm12, hm01, hm22, bc⟩
      have hbc' : Below wm.heap.size wm wc := (Below.refl wm.heap.size wm).drew.trans bc
      have hm01' : wm.heap.size ≤ m1 := hm01
      have om : (tMem 123).Own wc wm.heap.size wc.heap.size [y0, y1, .bool f, y3] (ss, cs, f, bs) := mem_own3 o0 o1 o3 (.inl (Nat.le_refl _)) (.inr (Nat.le_refl _)) (.inr hm12) ⟨by omega, by omega⟩ ⟨by omega, Nat.le_refl _⟩ ⟨Nat.le_refl _, by omega⟩
      obtain ⟨e0, g0, rfl⟩ := row_shape o0.rd
      obtain ⟨e1, g1, rfl⟩ := row_shape o1.rd
      obtain ⟨e3, g3, rfl⟩ := row_shape o3.rd
      obtain ⟨fpx, mx, rx⟩ := om.mine
      have xoc := XO.out.below hbc' zBO
      have xmc := XMM.out.below hbc' zMB
      have hS3 : wc.cell? ⟨BO, 3, none⟩ = some (v0) ∧ wc.cell? ⟨MB, 0, none⟩ = some (.slice a0 ss.length c0) ∧ wc.cell? ⟨MB, 1, none⟩ = some (.slice a1 cs.length c1) ∧ wc.cell? ⟨MB, 2, none⟩ = some (.bool f) ∧ wc.cell? ⟨MB, 3, none⟩ = some (.slice a3 bs.length c3') := mk.out wc xoc xmc
      have zc := hbc'.size
      have hS4 : (wc.alloc (.cells #[.slice e0 ss.length g0, .slice e1 cs.length g1, .bool f, .slice e3 bs.length g3] 87)).cell? ⟨BO, 3, none⟩ = some (v0) ∧ (wc.alloc (.cells #[.slice e0 ss.length g0, .slice e1 cs.length g1, .bool f, .slice e3 bs.length g3] 87)).cell? ⟨MB, 0, none⟩ = some (.slice a0 ss.length c0) ∧ (wc.alloc (.cells #[.slice e0 ss.length g0, .slice e1 cs.length g1, .bool f, .slice e3 bs.length g3] 87)).cell? ⟨MB, 1, none⟩ = some (.slice a1 cs.length c1) ∧ (wc.alloc (.cells #[.slice e0 ss.length g0, .slice e1 cs.length g1, .bool f, .slice e3 bs.length g3] 87)).cell? ⟨MB, 2, none⟩ = some (.bool f) ∧ (wc.alloc (.cells #[.slice e0 ss.length g0, .slice e1 cs.length g1, .bool f, .slice e3 bs.length g3] 87)).cell? ⟨MB, 3, none⟩ = some (.slice a3 bs.length c3') := mk.out _ (xoc.alloc _) (xmc.alloc _)
      have XOC := hidden xoc
      have XMC := hidden xmc
      have MX := hidden mx
      have RX := hidden rx
      have HBC := hidden hbc'
      clear xoc xmc mx rx hbc' bc om o0 o1 o3 hm01 hm01' hm12 hm22 R0 R1 R3
      go_wp2_with fail
      refine hK.out _ _ (fun _ => hS3) ?_
      clear hK K
      refine Upto.one (i := 4) (by kernel_rfl) rfl (fun K hK => ?_)
      go_simp
      refine hK.out _ _ (fun _ => hS4) ?_
      clear hK K
      refine Upto.one (i := 5) (by kernel_rfl) rfl (fun K hK => ?_)
      refine step_appT (tMem 123) (by rfl) _ _ 32 (by rfl) 87 i4 (.agg #[.slice none 0 0, .slice none 0 0, .bool false, .slice none 0 0]) 80 Tryz.underlying32 hi4 hz0 hz1 hz2 rfl (by decide) v0 (ms.take j) fp0 (by rfl) ?_ ⟨wc.heap.size, 0, none⟩ 1 [.slice e0 ss.length g0, .slice e1 cs.length g1, .bool f, .slice e3 bs.length g3] (ss, cs, f, bs) fpx (by rfl) ?_ ?_ ?_ ?_ L1.out L2.out ?_
      · exact (HM.out.below HBC.out).alloc _
      · exact MX.out.alloc _
      · intro b hb hb'
        have h1 := HM.out.lt b hb
        have h2 := RX.out b hb'
        omega
      · exact news_new _ _ _
      · intro u hu
        simp at hu
        rcases hu with hu | hu | hu | hu <;> (rw [hu]; rfl)
      intro g cap wA fpA m1 m2 m3
      rw [HL.out] at m1 ⊢
      rw [← HTK.out] at m1
      have nMB : MB ∉ fp0 := fun hm => by have := FLT.out _ hm; omega
      have ya := (XOC.out.alloc (.cells #[.slice e0 ss.length g0, .slice e1 cs.length g1, .bool f, .slice e3 bs.length g3] 87)).turned m3 (fun hm => by have := HFP.out _ hm; omega)
      have ym := (XMC.out.alloc (.cells #[.slice e0 ss.length g0, .slice e1 cs.length g1, .bool f, .slice e3 bs.length g3] 87)).turned m3 nMB
      have hS5 : wA.cell? ⟨BO, 3, none⟩ = some (v0) ∧ wA.cell? ⟨MB, 0, none⟩ = some (.slice a0 ss.length c0) ∧ wA.cell? ⟨MB, 1, none⟩ = some (.slice a1 cs.length c1) ∧ wA.cell? ⟨MB, 2, none⟩ = some (.bool f) ∧ wA.cell? ⟨MB, 3, none⟩ = some (.slice a3 bs.length c3') := mk.out wA ya ym
      have r0 := hS5.1
      have fz := ya.frozen 3
      have YA := hidden ya
      have M1 := hidden m1
      have M2 := hidden m2
      have M3 := hidden m3
      clear ya ym m1 m2 m3 nMB
      refine hK.out _ _ (fun _ => hS5) ?_
      clear hK K
      simp only [Act.put, List.setIfInBounds_toArray, List.set_cons_zero, List.set_cons_succ]
      refine Upto.t 6 hS5 ?_
      refine Upto.one (i := 7) (by kernel_rfl) rfl (fun K hK => ?_)
      go_simp
      refine hK.out _ _ (fun h => absurd rfl h) ?_
      clear hK K
      refine Upto.done (by kernel_rfl) ?_ _
      have HFA := hidden (round_fp (N := LB) (by omega) HBC.out HFP.out RX.out M2.out)
      have FRA := hidden (Fr.round FRR.out (by omega) HBC.out _ M3.out HFP.out 3 (.slice (some ⟨g, 0, none⟩) (j + 1) cap))
      have MA := hidden (M1.out.setCell (g := BO) (j := 3) (fun hm => by have := HFA.out _ hm; omega) (.slice (some ⟨g, 0, none⟩) (j + 1) cap))
      have YA' := hidden (YA.out.set 3 (.slice (some ⟨g, 0, none⟩) (j + 1) cap))
      clear hS hS3 hS4 hS5 r0 YA M1 M2 M3 XOC MX RX HBC HFP HM FRR XO XMM XMC mk FLT
      go_wp2
      go_roundw
      case rel => exact ⟨j + 1, _, fpA, by omega, by go_num, FRA.out, YA'.out, MA.out, HFA.out⟩
      case measure => simp [intOf]; omega
    · have ej : nm = j := by omega
      subst ej
      rw [List.take_of_length_le (by omega)] at hm
      have hlt := hm.lt
      obtain ⟨eM, gM, hvM⟩ := row_shape hm.rd
      rw [hl0] at hvM
      subst hvM
      have KM := hm.own (lo := LB) (hi := wr.heap.size) (fun b hb => ⟨hfp b hb, hlt b hb⟩)
      have xr := fr.box XR2.out (by omega) (by omega)
      have xm := fr.box XM2.out (by omega) (by omega)
      have c9 : wr.cell? ⟨w.heap.size, 9, none⟩ = some (.slice ad nd cd) := xm.cell 9
      obtain ⟨LE, hLE⟩ : ∃ LE, wr.heap.size = LE := ⟨_, rfl⟩
      rw [hLE] at KM hs
      have hLE2 : LE ≤ wr.heap.size := by omega
      clear hLE
      have XM3 := hidden xm
      have XR3 := hidden xr
      have XO3 := hidden xo
      have KM3 := hidden KM
      have HB3 := hidden hb
      clear fr xo xm hm hfp hlt KM xr hb hj XM2 XR2 XO2 HB2
      go_wp2
      clear c9
      obtain ⟨wo, hwo⟩ : ∃ y, y = wr := ⟨_, rfl⟩
      subst hwo
      go_loopw [29] (fun i wq => ∃ (j : Nat) (v1 : Value) (fp1 : List Nat), j ≤ nd ∧ i = .int .i64 j ∧ Fr LE BO wo wq ∧ Box wq BO 35 #[.int .i64 x.id, .int .i64 x.n, .int .i64 x.s, .slice eM nm gM, .int .i64 x.lost, .int .i64 x.built, .int .i64 x.seq, .int .i64 x.tail, .int .i64 x.gen, v1, .int .i64 x.fuse, .bool x.down, .bool x.broken] ∧ (tWrS 65).Mine wq [v1] (ds.take j) fp1 ∧ (∀ b ∈ fp1, LE ≤ b)) (fun i _ => nd - (intOf i).toNat)
      case atStart => exact ⟨0, _, [], Nat.zero_le _, rfl, Fr.refl _ _ _, XO3.out, nil_mine _, by simp⟩
      case round =>
        obtain ⟨j, v1, fp1, hj, rfl, fr, xo, hm, hfp⟩ := hrel
        have hs3 := fr.size
        have hb := HB3.out.trans (fr.below (M := w.heap.size) (by omega) (by omega))
        by_cases hjn : j < nd
        · rcases pairs_at rfl h1 with h0' | ⟨b, off, rfl, hbl, hcs⟩
          · omega
          have hdj : ds[j]? = some (ds[j]'(by omega)) := List.getElem?_eq_getElem (by omega)
          have htk : ds.take (j + 1) = ds.take j ++ [ds[j]'(by omega)] := List.take_succ_eq_append_getElem (by omega)
          generalize ds[j]'(by omega) = d at hdj htk
          have hil := inner_le' hdj
          obtain ⟨u0, u1, hv0, hv1, hrv⟩ := hcs j d hdj
          obtain ⟨rfl, hrv'⟩ := wr_rd hrv
          obtain ⟨av, cv, rfl⟩ := row_shape hrv'
          have pv0 := (hb.cell (p := ⟨b, off + j * 2, none⟩) hbl).trans hv0
          have pv1 := (hb.cell (p := ⟨b, off + j * 2 + 1, none⟩) hbl).trans hv1
          obtain ⟨x0, x1⟩ := d
          simp only at pv0 pv1 hrv' hil
          have nb := new_below wr (.cells #[.int .i64 x0, .slice av x1.length cv] 65)
          have hzm : (wr.alloc (.cells #[.int .i64 x0, .slice av x1.length cv] 65)).heap.size = wr.heap.size + 1 := by simp
          have HX := hidden (hrv'.below (Below.andThen hb nb))
          have k1 : (0 : Int) ≤ (j : Int) := by omega
          have k2 : (j : Int) < (nd : Int) := by omega
          have xom := xo.alloc (.cells #[.int .i64 x0, .slice av x1.length cv] 65)
          have xmm := Box.new wr 65 #[.int .i64 x0, .slice av x1.length cv]
          have hmm := hm.alloc (.cells #[.int .i64 x0, .slice av x1.length cv] 65)
          have frm : Fr LE BO wo (wr.alloc (.cells #[.int .i64 x0, .slice av x1.length cv] 65)) := fr.trans (Fr.ofBelow nb (by omega))
          have hlt0 : ∀ b ∈ fp1, b < wr.heap.size := hm.lt
          have HL : Hid ((ds.take j).length = j) := by unfold Hid; rw [List.length_take]; omega
          have L1 : Hid ((ds.take j).length + 1 ≤ maxLen) := by unfold Hid; rw [HL.out]; unfold maxLen; omega
          have L2 : Hid (((ds.take j).length + 1) * 32 ≤ 140737488355328) := by unfold Hid; rw [HL.out]; omega
          have HTK := hidden htk
          have FRR := hidden frm
          have HM := hidden hmm
          have HFP := hidden hfp
          have XO := hidden xom
          have XMM := hidden xmm
          have FLT := hidden hlt0
          clear hcs hdj hv0 hv1 hrv hrv' htk xo hm hfp hb fr nb xom xmm hmm frm hlt0
          go_wp2_with fail
          generalize wr.alloc (.cells #[.int .i64 x0, .slice av x1.length cv] 65) = wm at HX FRR HM XO XMM hzm ⊢
          obtain ⟨MB, hMB⟩ : ∃ MB, wr.heap.size = MB := ⟨_, rfl⟩
          rw [hMB] at XMM hzm hs3 FLT ⊢
          clear hMB pv0 pv1
          have zMB : MB < wm.heap.size := by omega
          have zBO : BO < wm.heap.size := by omega
          have hzm2 : MB + 1 ≤ wm.heap.size := by omega
          clear hzm
          have mk : Hid (∀ w', Box w' BO 35 #[.int .i64 x.id, .int .i64 x.n, .int .i64 x.s, .slice eM nm gM, .int .i64 x.lost, .int .i64 x.built, .int .i64 x.seq, .int .i64 x.tail, .int .i64 x.gen, v1, .int .i64 x.fuse, .bool x.down, .bool x.broken] → Box w' MB 65 #[.int .i64 x0, .slice av x1.length cv] → w'.cell? ⟨BO, 9, none⟩ = some (v1) ∧ w'.cell? ⟨MB, 0, none⟩ = some (.int .i64 x0) ∧ w'.cell? ⟨MB, 1, none⟩ = some (.slice av x1.length cv)) := fun w' h1 h2 => ⟨h1.cell 9, h2.cell 0, h2.cell 1⟩
          have hS : wm.drew.cell? ⟨BO, 9, none⟩ = some (v1) ∧ wm.drew.cell? ⟨MB, 0, none⟩ = some (.int .i64 x0) ∧ wm.drew.cell? ⟨MB, 1, none⟩ = some (.slice av x1.length cv) := mk.out wm.drew XO.out XMM.out
          refine Upto.start (S := fun w' => w'.cell? ⟨BO, 9, none⟩ = some (v1) ∧ w'.cell? ⟨MB, 0, none⟩ = some (.int .i64 x0) ∧ w'.cell? ⟨MB, 1, none⟩ = some (.slice av x1.length cv)) (k := 11) (by kernel_rfl) ?_
          refine Upto.t 0 hS ?_
          refine Upto.t 1 hS ?_
          refine Upto.t 2 hS ?_
          refine Upto.t 3 hS ?_
          refine Upto.t 4 hS ?_
          refine Upto.t 5 hS ?_
          refine Upto.one (i := 6) (by kernel_rfl) rfl (fun K hK => ?_)
          go_simp
          refine (copyWords_any _ _ _ _ x1 HX.out.drew (by omega)).mono ?_
          rintro e wc ⟨ac, cc, rfl, ow, bc⟩
          have hbc' : Below wm.heap.size wm wc := (Below.refl wm.heap.size wm).drew.trans bc
          obtain ⟨fpx, mx, rx0⟩ := ow.mine
          have rx : ∀ b ∈ fpx, wm.heap.size ≤ b ∧ b < wc.heap.size := rx0
          have xoc := XO.out.below hbc' zBO
          have xmc := XMM.out.below hbc' zMB
          have hS3 : wc.cell? ⟨BO, 9, none⟩ = some (v1) ∧ wc.cell? ⟨MB, 0, none⟩ = some (.int .i64 x0) ∧ wc.cell? ⟨MB, 1, none⟩ = some (.slice av x1.length cv) := mk.out wc xoc xmc
          have zc := hbc'.size
          have hS4 : (wc.alloc (.cells #[.int .i64 x0, .slice ac x1.length cc] 65)).cell? ⟨BO, 9, none⟩ = some (v1) ∧ (wc.alloc (.cells #[.int .i64 x0, .slice ac x1.length cc] 65)).cell? ⟨MB, 0, none⟩ = some (.int .i64 x0) ∧ (wc.alloc (.cells #[.int .i64 x0, .slice ac x1.length cc] 65)).cell? ⟨MB, 1, none⟩ = some (.slice av x1.length cv) := mk.out _ (xoc.alloc _) (xmc.alloc _)
          have XOC := hidden xoc
          have XMC := hidden xmc
          have MX := hidden mx
          have RX := hidden rx
          have HBC := hidden hbc'
          clear xoc xmc mx rx rx0 hbc' bc ow HX
          go_wp2_with fail
          refine hK.out _ _ (fun _ => hS3) ?_
          clear hK K
          refine Upto.t 7 hS3 ?_
          refine Upto.one (i := 8) (by kernel_rfl) rfl (fun K hK => ?_)
          go_simp
          refine hK.out _ _ (fun _ => hS4) ?_
          clear hK K
          refine Upto.one (i := 9) (by kernel_rfl) rfl (fun K hK => ?_)
          refine step_appT tWr (by rfl) _ _ 33 (by rfl) 65 i1 (.agg #[.int .i64 0, .slice none 0 0]) 32 Tryz.underlying33 hi1 hy0 hy1 hy2 rfl Nat.zero_lt_two v1 (ds.take j) fp1 (by rfl) ?_ ⟨wc.heap.size, 0, none⟩ 1 [.int .i64 x0, .slice ac x1.length cc] (x0, x1) fpx (by rfl) ?_ ?_ ?_ ?_ L1.out L2.out ?_
          · exact (HM.out.below HBC.out).alloc _
          · exact (wr_mine x0 MX.out).alloc _
          · intro b hb hb'
            have h1 := HM.out.lt b hb
            have h2 := RX.out b hb'
            omega
          · exact news_new _ _ _
          · intro u hu
            simp at hu
            rcases hu with hu | hu <;> (rw [hu]; rfl)
          intro g cap wA fpA m1 m2 m3
          rw [HL.out] at m1 ⊢
          rw [← HTK.out] at m1
          have nMB : MB ∉ fp1 := fun hm => by have := FLT.out _ hm; omega
          have ya := (XOC.out.alloc (.cells #[.int .i64 x0, .slice ac x1.length cc] 65)).turned m3 (fun hm => by have := HFP.out _ hm; omega)
          have ym := (XMC.out.alloc (.cells #[.int .i64 x0, .slice ac x1.length cc] 65)).turned m3 nMB
          have hS5 : wA.cell? ⟨BO, 9, none⟩ = some (v1) ∧ wA.cell? ⟨MB, 0, none⟩ = some (.int .i64 x0) ∧ wA.cell? ⟨MB, 1, none⟩ = some (.slice av x1.length cv) := mk.out wA ya ym
          have r0 := hS5.1
          have fz := ya.frozen 9
          have YA := hidden ya
          have M1 := hidden m1
          have M2 := hidden m2
          have M3 := hidden m3
          clear ya ym m1 m2 m3 nMB
          refine hK.out _ _ (fun _ => hS5) ?_
          clear hK K
          simp only [Act.put, List.setIfInBounds_toArray, List.set_cons_zero, List.set_cons_succ]
          refine Upto.t 10 hS5 ?_
          refine Upto.one (i := 11) (by kernel_rfl) rfl (fun K hK => ?_)
          go_simp
          refine hK.out _ _ (fun h => absurd rfl h) ?_
          clear hK K
          refine Upto.done (by kernel_rfl) ?_ _
          have HFA := hidden (round_fp (N := LE) (by omega) HBC.out HFP.out RX.out M2.out)
          have FRA := hidden (Fr.round FRR.out (by omega) HBC.out _ M3.out HFP.out 9 (.slice (some ⟨g, 0, none⟩) (j + 1) cap))
          have MA := hidden (M1.out.setCell (g := BO) (j := 9) (fun hm => by have := HFA.out _ hm; omega) (.slice (some ⟨g, 0, none⟩) (j + 1) cap))
          have YA' := hidden (YA.out.set 9 (.slice (some ⟨g, 0, none⟩) (j + 1) cap))
          clear hS hS3 hS4 hS5 r0 YA M1 M2 M3 XOC MX RX HBC HFP HM FRR XO XMM XMC mk FLT
          go_wp2
          go_roundw
          case rel => exact ⟨j + 1, _, fpA, by omega, by go_num, FRA.out, YA'.out, MA.out, HFA.out⟩
          case measure => simp [intOf]; omega
        · have ej : nd = j := by omega
          subst ej
          rw [List.take_of_length_le (by omega)] at hm
          have hlt := hm.lt
          obtain ⟨eD, gD, hvD⟩ := row_shape hm.rd
          rw [hl1] at hvD
          subst hvD
          have K1 := hm.own (lo := LE) (hi := wr.heap.size) (fun b hb => ⟨hfp b hb, hlt b hb⟩)
          have K0 := fr.own KM3.out (Nat.le_refl _) (.inr (by omega))
          have xr := fr.box XR3.out (by omega) (by omega)
          have hbt := puts_but BR [(0, .int .i64 x.id), (1, .int .i64 x.n), (2, .int .i64 x.s), (3, .slice eM nm gM), (4, .int .i64 x.lost), (5, .int .i64 x.built), (6, .int .i64 x.seq), (7, .int .i64 x.tail), (8, .int .i64 x.gen), (9, .slice eD nd gD), (10, .int .i64 x.fuse), (11, .bool x.down), (12, .bool x.broken)] wr
          have H0 := K0.but hbt (.inr (by omega))
          have H1 := K1.but hbt (.inr (by omega))
          have HBB := Below.andBut hb hbt (by omega)
          have hsz := hbt.size
          have H0w := hidden (H0.widen (lo' := w.heap.size) (hi' := LE) (by omega) (Nat.le_refl _))
          have H1w := hidden (H1.widen (lo' := LE) (Nat.le_refl _) hsz)
          have HBw := hidden HBB
          have HSZ : Hid (LE ≤ (puts wr BR [(0, .int .i64 x.id), (1, .int .i64 x.n), (2, .int .i64 x.s), (3, .slice eM nm gM), (4, .int .i64 x.lost), (5, .int .i64 x.built), (6, .int .i64 x.seq), (7, .int .i64 x.tail), (8, .int .i64 x.gen), (9, .slice eD nd gD), (10, .int .i64 x.fuse), (11, .bool x.down), (12, .bool x.broken)]).heap.size) := by unfold Hid; omega
          simp only [puts] at H0w H1w HBw HSZ
          obtain ⟨p0, p1, p2, p3, p4, p5, p6, p7, p8, p9, p10, p11, p12⟩ := xr.cells13
          have fz := xr.frozen
          obtain ⟨r0, r1, r2, r3, r4, r5, r6, r7, r8, r9, r10, r11, r12⟩ := xo.cells13
          have hLw : w.heap.size ≤ LE := by omega
          clear fr xo hb hm hfp hlt xr K0 K1 hbt H0 H1 HBB hsz hj hs3
          go_wp2
          refine bodyPost_ret (v := .agg #[.int .i64 x.id, .int .i64 x.n, .int .i64 x.s, .slice eM nm gM, .int .i64 x.lost, .int .i64 x.built, .int .i64 x.seq, .int .i64 x.tail, .int .i64 x.gen, .slice eD nd gD, .int .i64 x.fuse, .bool x.down, .bool x.broken]) (by simp [results, Tryz.results39, go_sem, p0, p1, p2, p3, p4, p5, p6, p7, p8, p9, p10, p11, p12]) rfl ?_
          exact ⟨_, _, _, _, LE, rfl, H0w.out, H1w.out, hLw, HSZ.out, HBw.out⟩

end Go.Proofs.YtjmjianlcoleaaaGreat

/-
  The library's contract of slices.Grow at the program's entries in order, laid at this seat's program: a table of numbers, and the body compared by the kernel. No condition.
-/
namespace Go.Proofs.YtjmjianlcoleaaaGreat
open Go.RowKit Go.Shelf

def growRen : Go.Shelf.Ren := ⟨fun | 4 => 110 | n => n, fun | 0 => 0 | 3 => 3 | 4 => 4 | 9 => 9 | 20 => 20 | 22 => 62 | 25 => 65 | n => n, fun n => n⟩

theorem growLays : Lays8.n4 Tryz.prog growRen where
  mixed := by kernel_rfl
  f4 := ⟨Tryz.f110.name, by kernel_rfl, Tryz.func110.trans (congrArg some (by kernel_rfl))⟩
  t0 := Tryz.underlying0
  a0 := Tryz.isAgg0
  z0 := Tryz.sizeOf0
  v0 := Tryz.zeroValue0
  t3 := Tryz.underlying3
  a3 := Tryz.isAgg3
  z3 := Tryz.sizeOf3
  v3 := Tryz.zeroValue3
  t4 := Tryz.underlying4
  a4 := Tryz.isAgg4
  z4 := Tryz.sizeOf4
  v4 := Tryz.zeroValue4
  t9 := Tryz.underlying9
  a9 := Tryz.isAgg9
  z9 := Tryz.sizeOf9
  v9 := Tryz.zeroValue9
  t20 := Tryz.underlying20
  a20 := Tryz.isAgg20
  z20 := Tryz.sizeOf20
  v20 := Tryz.zeroValue20
  t22 := Tryz.underlying62
  a22 := Tryz.isAgg62
  z22 := Tryz.sizeOf62
  v22 := Tryz.zeroValue62

end Go.Proofs.YtjmjianlcoleaaaGreat

/-
  Plain lemmas: a row of a call's own with several elements more, at once ('append(a, b...)' of elements that are anything). No condition; nothing of the program is named here.
-/
namespace Go.Proofs.YtjmjianlcoleaaaGreat
open Go.RowKit

/-- Elements one behind the other, in cells: each with the blocks of its own. -/
def Elems (t : Ty) (w : World) (vs : List Value) (ys : List t.D) (fs : List (List Nat)) : Prop :=
  vs.length = ys.length * t.n ∧ fs.length = ys.length ∧ fs.flatten.Nodup ∧ ∀ i y, ys[i]? = some y → ∃ f, fs[i]? = some f ∧ t.ow w ((vs.drop (i * t.n)).take t.n) y f
theorem Elems.lt {t : Ty} {w : World} {vs : List Value} {ys : List t.D} {fs : List (List Nat)} (h : Elems t w vs ys fs) : ∀ c ∈ fs.flatten, c < w.heap.size := by
  intro c hc
  obtain ⟨_, h7, _, h8⟩ := h
  obtain ⟨f', hf', hcf⟩ := List.mem_flatten.1 hc
  obtain ⟨i, hi⟩ := List.mem_iff_getElem?.1 hf'
  have hil : i < ys.length := by rw [← h7]; exact (List.getElem?_eq_some_iff.1 hi).1
  obtain ⟨f2, hf2, ho2⟩ := h8 i _ (List.getElem?_eq_getElem hil)
  rw [hi] at hf2
  simp at hf2
  subst hf2
  exact t.rdLt (t.owRd ho2) c hcf

/-- A row's cells (it has a block), and the row with several elements more. -/
theorem row_cellsN {t : Ty} {E : TypeId} {w : World} {lo b cap : Nat} {d : List t.D} {fp : List Nat} (h : (rowTy t E).Mine w [.slice (some ⟨b, 0, none⟩) d.length cap] d fp) (hlo : ∀ b ∈ fp, lo ≤ b) :
    ∃ xs, w.ownsRow lo E t.n (.slice (some ⟨b, 0, none⟩) d.length cap) d.length xs ∧ ∀ w' v' vs ys fs, Elems t w vs ys fs → (∀ b ∈ fp, b ∉ fs.flatten) → w'.ownsRow lo E t.n v' (d.length + ys.length) (xs ++ vs) → w.grownBy w' (some b) → (v'.ownBlock = some b ∨ v'.ownBlock = some w.heap.size) →
      ∃ fp', (rowTy t E).Mine w' [v'] (d ++ ys) fp' ∧ (∀ c ∈ fp', c ∈ fp ∨ c ∈ fs.flatten ∨ (c = w.heap.size ∧ c < w'.heap.size)) ∧ Turned fp w w' := by
  obtain ⟨h, hn⟩ := h
  rcases h with ⟨h1, _⟩ | ⟨b', cap', cur, fps, h1, h2, h3, h4, h5, rfl, h7, h8⟩
  · simp at h1
  · simp only [List.cons.injEq, Value.slice.injEq, Option.some.injEq, Addr.mk.injEq, and_true] at h1
    obtain ⟨rfl, _, rfl⟩ := h1
    have hle : d.length * t.n ≤ cap * t.n := Nat.mul_le_mul_right _ h2
    have hxl : (cur.toList.take (d.length * t.n)).length = d.length * t.n := by
      have hcl : cur.toList.length = cap * t.n := by rw [Array.length_toList]; exact h5
      rw [List.length_take, hcl]
      omega
    refine ⟨cur.toList.take (d.length * t.n), ⟨hxl, .inr ⟨b, cap, cur, rfl, hlo b List.mem_cons_self, h4, h2, h3, h5, rfl⟩⟩, fun w' v' vs ys fs hx hdis ho hg hat => ?_⟩
    have hel := hx.lt
    obtain ⟨e1, e2, e3, e4⟩ := hx
    rw [List.nodup_cons] at hn
    obtain ⟨hbf, hnf⟩ := hn
    have hfplt : ∀ c ∈ fps.flatten, c < w.heap.size := by
      intro c hc
      obtain ⟨f', hf', hcf⟩ := List.mem_flatten.1 hc
      obtain ⟨i, hi⟩ := List.mem_iff_getElem?.1 hf'
      have hil : i < d.length := by rw [← h7]; exact (List.getElem?_eq_some_iff.1 hi).1
      obtain ⟨f2, hf2, ho2⟩ := h8 i _ (List.getElem?_eq_getElem hil)
      rw [hi] at hf2
      simp at hf2
      subst hf2
      exact t.rdLt (t.owRd ho2) c hcf
    have hbx : b ∉ fs.flatten := hdis b List.mem_cons_self
    have hkeep : ∀ c, c < w.heap.size → c ≠ b → w'.heap[c]? = w.heap[c]? := fun c hc hne => hg.block c hc (by simpa using hne)
    rcases ho.2 with ⟨hv0, h0⟩ | ⟨g, cap', cur', hv', hb, hg', hnc, hcm, hcs, htake⟩
    · have hd0 : d = [] := List.eq_nil_of_length_eq_zero (by omega)
      have hy0 : ys = [] := List.eq_nil_of_length_eq_zero (by omega)
      subst hd0 hy0 hv0
      exact ⟨[], ⟨.inl ⟨rfl, rfl, rfl⟩, List.nodup_nil⟩, by simp, hg.os, hg.tape, hg.output, hg.size, fun k hk hf => hkeep k hk (fun e => hf (by rw [e]; exact List.mem_cons_self))⟩
    · have hgs : g = b ∨ g = w.heap.size := by
        rw [hv'] at hat
        simpa [Value.ownBlock] using hat
      have hgl : g < w'.heap.size := (Array.getElem?_eq_some_iff.1 hg').1
      subst hv'
      have hfl : (fps ++ fs).flatten = fps.flatten ++ fs.flatten := by simp
      have hcell : ∀ k, k < d.length * t.n + ys.length * t.n → cur'.toList[k]? = (cur.toList.take (d.length * t.n) ++ vs)[k]? := fun k hk => by
        have := congrArg (fun l => l[k]?) htake
        simp only [List.getElem?_take] at this
        rw [if_pos (by rw [Nat.add_mul]; omega)] at this
        exact this
      have hseg : ∀ i, i < d.length → (cur'.toList.drop (i * t.n)).take t.n = (cur.toList.drop (i * t.n)).take t.n := by
        intro i hi
        have hmul : (i + 1) * t.n ≤ d.length * t.n := Nat.mul_le_mul_right _ hi
        rw [Nat.add_mul, Nat.one_mul] at hmul
        apply List.ext_getElem?
        intro k
        rw [List.getElem?_take, List.getElem?_take]
        by_cases hk : k < t.n
        · rw [if_pos hk, if_pos hk, List.getElem?_drop, List.getElem?_drop, hcell _ (by omega), List.getElem?_append_left (by rw [hxl]; omega), List.getElem?_take, if_pos (by omega)]
        · rw [if_neg hk, if_neg hk]
      have hnew : ∀ i, i < ys.length → (cur'.toList.drop ((d.length + i) * t.n)).take t.n = (vs.drop (i * t.n)).take t.n := by
        intro i hi
        have hmul : (i + 1) * t.n ≤ ys.length * t.n := Nat.mul_le_mul_right _ hi
        rw [Nat.add_mul, Nat.one_mul] at hmul
        apply List.ext_getElem?
        intro k
        rw [List.getElem?_take, List.getElem?_take]
        by_cases hk : k < t.n
        · rw [if_pos hk, if_pos hk, List.getElem?_drop, List.getElem?_drop, Nat.add_mul, hcell _ (by omega), List.getElem?_append_right (by rw [hxl]; omega), hxl]
          congr 1
          omega
        · rw [if_neg hk, if_neg hk]
      refine ⟨g :: (fps ++ fs).flatten, ⟨.inr ⟨g, cap', cur', fps ++ fs, by simp, by simpa using hnc, hcm, hg', hcs, rfl, by simp [h7, e2], fun i y hy => ?_⟩, ?_⟩, ?_, hg.os, hg.tape, hg.output, hg.size, fun k hk hf => hkeep k hk (fun e => hf (by rw [e]; exact List.mem_cons_self))⟩
      · by_cases hi : i < d.length
        · rw [List.getElem?_append_left hi] at hy
          obtain ⟨f2, hf2, ho2⟩ := h8 i y hy
          refine ⟨f2, by rw [List.getElem?_append_left (by omega)]; exact hf2, ?_⟩
          rw [hseg i hi]
          refine t.owKept ho2 (fun c hc => hkeep c (t.rdLt (t.owRd ho2) c hc) (fun e => hbf ?_)) hg.size
          rw [← e]
          exact List.mem_flatten.2 ⟨f2, List.mem_of_getElem? hf2, hc⟩
        · rw [List.getElem?_append_right (by omega)] at hy
          have hil := (List.getElem?_eq_some_iff.1 hy).1
          obtain ⟨f2, hf2, ho2⟩ := e4 (i - d.length) y hy
          refine ⟨f2, by rw [List.getElem?_append_right (by omega), h7]; exact hf2, ?_⟩
          have := hnew (i - d.length) hil
          rw [show d.length + (i - d.length) = i by omega] at this
          rw [this]
          refine t.owKept ho2 (fun c hc => ?_) hg.size
          have hcm' : c ∈ fs.flatten := List.mem_flatten.2 ⟨f2, List.mem_of_getElem? hf2, hc⟩
          exact hkeep c (hel c hcm') (fun e => hbx (e ▸ hcm'))
      · rw [hfl, List.nodup_cons]
        refine ⟨fun hm => ?_, ?_⟩
        · rcases List.mem_append.1 hm with hm | hm
          · rcases hgs with rfl | rfl
            · exact hbf hm
            · have := hfplt _ hm
              omega
          · rcases hgs with rfl | rfl
            · exact hbx hm
            · have := hel _ hm
              omega
        · rw [List.nodup_append]
          exact ⟨hnf, e3, fun a ha c hc e => hdis a (List.mem_cons_of_mem _ ha) (e ▸ hc)⟩
      · intro c hc
        rw [hfl] at hc
        rcases List.mem_cons.1 hc with rfl | hc
        · rcases hgs with rfl | hgs
          · exact .inl List.mem_cons_self
          · exact .inr (.inr ⟨hgs, hgl⟩)
        · rcases List.mem_append.1 hc with hc | hc
          · exact .inl (List.mem_cons_of_mem _ hc)
          · exact .inr (.inl hc)

/-- 'append' of several elements to a row of the call's own, at a list of operations. -/
theorem wpList_appN {P : Program} {w : World} {ops : Array Oper} {rest : List Oper} {o : Oper} {a : Act} {Q : Exit → Act → World → Prop} (t : Ty) (hgd : o.guard = none) (s x : Operand) (T : TypeId)
    (ho : o.op = .call { callee := .builtin .append, args := #[s, x], argTypes := #[T, T] })
    (E : TypeId) (i : TypeInfo) (z : Value) (bytes : Nat) (ht : P.underlying T = some (.slice E)) (hi : P.info? E = some i) (hz : i.zero = some z)
    (hsize : i.size = t.n) (hby : i.bytes = bytes) (hzs : z.cells.size = t.n) (hsz : 0 < t.n)
    (b cap : Nat) (d : List t.D) (fp : List Nat) (hs : a.eval s = .slice (some ⟨b, 0, none⟩) d.length cap) (hown : (rowTy t E).Mine w [.slice (some ⟨b, 0, none⟩) d.length cap] d fp)
    (ad : Addr) (c : Nat) (vs : List Value) (ys : List t.D) (fs : List (List Nat)) (hx : a.eval x = .slice (some ad) ys.length c) (hy : Elems t w vs ys fs) (hdis : ∀ b ∈ fp, b ∉ fs.flatten) (hr : ∀ j u, vs[j]? = some u → w.cell? (ad.add j) = some u) (h1 : ∀ u ∈ vs, u.oneCell' = true)
    (h63 : d.length + ys.length ≤ maxLen) (hbytes : (d.length + ys.length) * bytes ≤ 140737488355328)
    (h : ∀ v' w' fp', (rowTy t E).Mine w' [v'] (d ++ ys) fp' → (∀ b ∈ fp', b ∈ fp ∨ b ∈ fs.flatten ∨ (b = w.heap.size ∧ b < w'.heap.size)) → Turned fp w w' → wpList P ops Q rest (a.put o.dst v') w') : wpList P ops Q (o :: rest) a w := by
  obtain ⟨xs, hrow, hback⟩ := row_cellsN (lo := 0) hown (fun _ _ => Nat.zero_le _)
  refine wpList_append_own_at w hgd s x T ho 0 E i z t.n bytes ht hi hz hsize hby hzs hsz _ d.length xs hs hrow ad ys.length c vs hx hy.1 hr h1 h63 hbytes (Nat.zero_le _) ?_
  intro v' w' k1 k2 _ k4
  obtain ⟨fp', m1, m2, m3⟩ := hback w' v' vs ys fs hy hdis k1 k2 k4
  exact h v' w' fp' m1 m2 m3

/-- 'append' of several elements to a row of the call's own, at a step of a region that draws its order. -/
theorem step_appN {P : Program} {w : World} {ops : Array Oper} {o : Oper} {a : Act} {K : Act → World → Prop} {Q : Exit → Act → World → Prop} {G : Prop} (t : Ty) (hgd : o.guard = none) (s x : Operand) (T : TypeId)
    (ho : o.op = .call { callee := .builtin .append, args := #[s, x], argTypes := #[T, T] })
    (E : TypeId) (i : TypeInfo) (z : Value) (bytes : Nat) (ht : P.underlying T = some (.slice E)) (hi : P.info? E = some i) (hz : i.zero = some z)
    (hsize : i.size = t.n) (hby : i.bytes = bytes) (hzs : z.cells.size = t.n) (hsz : 0 < t.n)
    (b cap : Nat) (d : List t.D) (fp : List Nat) (hs : a.eval s = .slice (some ⟨b, 0, none⟩) d.length cap) (hown : (rowTy t E).Mine w [.slice (some ⟨b, 0, none⟩) d.length cap] d fp)
    (ad : Addr) (c : Nat) (vs : List Value) (ys : List t.D) (fs : List (List Nat)) (hx : a.eval x = .slice (some ad) ys.length c) (hy : Elems t w vs ys fs) (hdis : ∀ b ∈ fp, b ∉ fs.flatten) (hr : ∀ j u, vs[j]? = some u → w.cell? (ad.add j) = some u) (h1 : ∀ u ∈ vs, u.oneCell' = true)
    (h63 : d.length + ys.length ≤ maxLen) (hbytes : (d.length + ys.length) * bytes ≤ 140737488355328)
    (h : ∀ g cap' w' fp', (rowTy t E).Mine w' [.slice (some ⟨g, 0, none⟩) (d.length + ys.length) cap'] (d ++ ys) fp' → (∀ b ∈ fp', b ∈ fp ∨ b ∈ fs.flatten ∨ (b = w.heap.size ∧ b < w'.heap.size)) → Turned fp w w' → K (a.put o.dst (.slice (some ⟨g, 0, none⟩) (d.length + ys.length) cap')) w') :
    if Region.wanted o (yielded ops a.tmps) = true then Oper.wp P o a w K Q else G := by
  obtain ⟨xs, hrow, hback⟩ := row_cellsN (lo := 0) hown (fun _ _ => Nat.zero_le _)
  have hw : Region.wanted o (yielded ops a.tmps) = true := by simp [Region.wanted, hgd]
  rw [if_pos hw]
  obtain ⟨v', w', hr, k1, k2, k3, k4⟩ := run_append_own_at (P := P) w 0 T o.type E i z t.n bytes ht hi hz hsize hby hzs hsz _ d.length xs hrow ad ys.length c vs hy.1 hr h1 h63 hbytes (Nat.zero_le _)
  obtain ⟨fp', m1, m2, m3⟩ := hback w' v' vs ys fs hy hdis k1 k2 k4
  rcases k1.2 with ⟨hv0, _⟩ | ⟨g, cap', _, hv', _⟩
  · simp at k3
    exact absurd hv0 k3
  · subst hv'
    unfold Oper.wp execOp
    simp only [ho, resolve, invoke, builtin, Sem.run_bind, Sem.run_pure, Result.andThen_ok, List.map_toArray, List.map_cons, List.map_nil, hs, hx, hr]
    exact h g cap' w' fp' m1 m2 m3

theorem runs_sub {l m : List (List Nat)} (h : l.Sublist m) : l.flatten.Sublist m.flatten := by
  induction h with
  | slnil => exact .slnil
  | cons a _ ih => rw [List.flatten_cons]; exact ih.trans (List.sublist_append_right _ _)
  | cons_cons a _ ih => rw [List.flatten_cons, List.flatten_cons]; exact (List.Sublist.refl a).append ih
/-- Two runs, one behind the other, have no block in common. -/
theorem runs_apart {l : List (List Nat)} {k : Nat} (h : l.flatten.Nodup) : ∀ b ∈ (l.take k).flatten, b ∉ (l.drop (k + 1)).flatten := by
  intro b hb hc
  have h1 : (l.take k ++ l.drop k).flatten.Nodup := by rw [List.take_append_drop]; exact h
  rw [List.flatten_append, List.nodup_append] at h1
  refine h1.2.2 b hb b ?_ rfl
  have : (l.drop (k + 1)).Sublist (l.drop k) := by rw [← List.drop_drop]; exact List.drop_sublist _ _
  exact (runs_sub this).subset hc

/-- A row of one's own, in its parts: the cells lie in its block, and each run of elements is one behind the other in them. -/
theorem row_seg {t : Ty} {E : TypeId} {w : World} {b cap : Nat} {d : List t.D} {fp : List Nat} (h : (rowTy t E).Mine w [.slice (some ⟨b, 0, none⟩) d.length cap] d fp) :
    ∃ (cs : List Value) (fps : List (List Nat)), fps.length = d.length ∧ fp = b :: fps.flatten ∧ cs.length = d.length * t.n ∧ (∀ j u, cs[j]? = some u → w.cell? ⟨b, j, none⟩ = some u) ∧
      (∀ i y, d[i]? = some y → ∃ f, fps[i]? = some f ∧ t.ow w ((cs.drop (i * t.n)).take t.n) y f) ∧ ∀ lo m, lo + m ≤ d.length → Elems t w ((cs.drop (lo * t.n)).take (m * t.n)) ((d.drop lo).take m) ((fps.drop lo).take m) := by
  obtain ⟨h, hn⟩ := h
  rcases h with ⟨h1, _⟩ | ⟨b', cap', cur, fps, h1, h2, h3, h4, h5, rfl, h7, h8⟩
  · simp at h1
  · simp only [List.cons.injEq, Value.slice.injEq, Option.some.injEq, Addr.mk.injEq, and_true] at h1
    obtain ⟨rfl, _, rfl⟩ := h1
    rw [List.nodup_cons] at hn
    have hle : d.length * t.n ≤ cap * t.n := Nat.mul_le_mul_right _ h2
    have hcl : cur.toList.length = cap * t.n := by rw [Array.length_toList]; exact h5
    have hxl : (cur.toList.take (d.length * t.n)).length = d.length * t.n := by
      rw [List.length_take, hcl]
      omega
    have hel : ∀ i y, d[i]? = some y → ∃ f, fps[i]? = some f ∧ t.ow w (((cur.toList.take (d.length * t.n)).drop (i * t.n)).take t.n) y f := by
      intro i y hy
      obtain ⟨f, hf, ho⟩ := h8 i y hy
      have hi := (List.getElem?_eq_some_iff.1 hy).1
      have hmul : (i + 1) * t.n ≤ d.length * t.n := Nat.mul_le_mul_right _ hi
      rw [Nat.add_mul, Nat.one_mul] at hmul
      refine ⟨f, hf, ?_⟩
      rw [List.drop_take, List.take_take, Nat.min_eq_left (by omega)]
      exact ho
    refine ⟨cur.toList.take (d.length * t.n), fps, h7, rfl, hxl, fun j u hu => ?_, hel, fun lo m hlm => ⟨?_, ?_, ?_, fun i y hy => ?_⟩⟩
    · rw [List.getElem?_take] at hu
      split at hu
      · rw [cell_of_row w b _ cur E (0, 0) h4]
        simpa using hu
      · simp at hu
    · have hmul : (lo + m) * t.n ≤ d.length * t.n := Nat.mul_le_mul_right _ hlm
      rw [Nat.add_mul] at hmul
      rw [List.length_take, List.length_drop, hxl, List.length_take, List.length_drop, Nat.min_eq_left (show m ≤ d.length - lo by omega)]
      omega
    · simp only [List.length_take, List.length_drop, h7]
    · refine hn.2.sublist ?_
      exact runs_sub ((List.take_sublist _ _).trans (List.drop_sublist _ _))
    · rw [List.getElem?_take] at hy
      split at hy
      case isTrue him =>
        rw [List.getElem?_drop] at hy
        obtain ⟨f, hf, ho⟩ := hel (lo + i) y hy
        have hmul : (i + 1) * t.n ≤ m * t.n := Nat.mul_le_mul_right _ him
        rw [Nat.add_mul, Nat.one_mul] at hmul
        refine ⟨f, by rw [List.getElem?_take, if_pos him, List.getElem?_drop]; exact hf, ?_⟩
        rw [List.drop_take, List.take_take, Nat.min_eq_left (by omega), List.drop_drop, ← Nat.add_mul]
        exact ho
      case isFalse => simp at hy

end Go.Proofs.YtjmjianlcoleaaaGreat

/-
  Plain lemmas on entries in cells, one behind the other: how they outlast later steps. No condition; nothing of the program is named here.
-/
namespace Go.Proofs.YtjmjianlcoleaaaGreat
open Go.RowKit

theorem wr_mine_inv8 {w : World} {vs : List Value} {x : Int × List Int} {fp : List Nat} (h : tWr.Mine w vs x fp) : ∃ a cap, vs = [.int .i64 x.1, .slice a x.2.length cap] ∧ tIntS.Mine w [.slice a x.2.length cap] x.2 fp := by
  have hl : vs.length = 2 := tWr.rdLen (tWr.owRd h.1)
  match vs, hl, h with
  | [u0, u1], _, h =>
    obtain ⟨f1, f2, hf, m1, m2, _⟩ := pair_mine (t := intTy) (u := tIntS) (vs := [u0]) (us := [u1]) rfl h
    obtain ⟨e1, e2⟩ := m1.1
    subst e2
    obtain ⟨a, cap, rfl⟩ := row_shape m2.rd
    refine ⟨a, cap, by simpa using e1, ?_⟩
    rw [hf]
    exact m2
theorem Elems.kept {t : Ty} {w w' : World} {vs : List Value} {ys : List t.D} {fs : List (List Nat)} {fp : List Nat} (h : Elems t w vs ys fs) (ht : Turned fp w w') (hd : ∀ b ∈ fs.flatten, b ∉ fp) : Elems t w' vs ys fs := by
  have hl := h.lt
  refine ⟨h.1, h.2.1, h.2.2.1, fun i y hy => ?_⟩
  obtain ⟨f, hf, ho⟩ := h.2.2.2 i y hy
  have hm : ∀ b ∈ f, b ∈ fs.flatten := fun b hb => List.mem_flatten.2 ⟨f, List.mem_of_getElem? hf, hb⟩
  exact ⟨f, hf, t.owKept ho (fun b hb => ht.block b (hl b (hm b hb)) (hd b (hm b hb))) ht.size⟩
theorem wr_one {w : World} {cs : List Value} {ds : List EntD} {fps : List (List Nat)} (hn : fps.flatten.Nodup) (hl : cs.length = ds.length * 2) (h : ∀ i y, ds[i]? = some y → ∃ f, fps[i]? = some f ∧ tWr.ow w ((cs.drop (i * 2)).take 2) y f) : ∀ u ∈ cs, u.oneCell' = true := by
  intro u hu
  obtain ⟨m, hm⟩ := List.mem_iff_getElem?.1 hu
  have hml := (List.getElem?_eq_some_iff.1 hm).1
  have hil : m / 2 < ds.length := by omega
  obtain ⟨f, hf, ho⟩ := h (m / 2) _ (List.getElem?_eq_getElem hil)
  obtain ⟨a, c, hv, _⟩ := wr_mine_inv8 ⟨ho, (flatten_part hn hf).1⟩
  have h1 : ((cs.drop (m / 2 * 2)).take 2)[m % 2]? = some u := by
    rw [List.getElem?_take, if_pos (by omega), List.getElem?_drop, show m / 2 * 2 + m % 2 = m by omega]
    exact hm
  rw [hv] at h1
  have h2 : u ∈ [Value.int .i64 (ds[m / 2]).1, .slice a (ds[m / 2]).2.length c] := List.mem_of_getElem? h1
  simp at h2
  rcases h2 with h2 | h2 <;> (rw [h2]; rfl)

end Go.Proofs.YtjmjianlcoleaaaGreat

/-
  The walk of slices.Concat over a few rows of entries: a new row that holds them one behind the other (the entries' own data is shared). Conditions: at most three parts, at least one entry, at most 600000 of them.
-/
namespace Go.Proofs.YtjmjianlcoleaaaGreat
open Go.RowKit

/-- A part: where it lies, its room, its cells, its entries, the blocks of each. -/
structure Part where
  a : Option Addr
  c : Nat
  vs : List Value
  ys : List EntD
  fs : List (List Nat)
def catY (P : Nat → Part) : Nat → List EntD
  | 0 => []
  | j + 1 => catY P j ++ (P j).ys
def catF (P : Nat → Part) : Nat → List (List Nat)
  | 0 => []
  | j + 1 => catF P j ++ (P j).fs
def PartAt (w : World) (p : Part) : Prop :=
  Elems tWr w p.vs p.ys p.fs ∧ (∀ u ∈ p.vs, u.oneCell' = true) ∧ ((p.a = none ∧ p.ys = []) ∨ ∃ ad, p.a = some ad ∧ ∀ j u, p.vs[j]? = some u → w.cell? (ad.add j) = some u)
theorem catY_le (P : Nat → Part) {m : Nat} : ∀ j, j ≤ m → (catY P j).length ≤ (catY P m).length := by
  induction m with
  | zero => intro j hj; rw [show j = 0 by omega]; exact Nat.le_refl _
  | succ m ih =>
    intro j hj
    by_cases h : j = m + 1
    · rw [h]; exact Nat.le_refl _
    · have := ih j (by omega)
      simp only [catY, List.length_append]
      omega
theorem catF_nodup (P : Nat → Part) {m : Nat} (h : (catF P m).flatten.Nodup) : ∀ j, j ≤ m → (catF P j).flatten.Nodup := by
  induction m with
  | zero => intro j hj; rw [show j = 0 by omega]; exact h
  | succ m ih =>
    intro j hj
    by_cases hjm : j = m + 1
    · rw [hjm]; exact h
    · refine ih ?_ j (by omega)
      simp only [catF, List.flatten_append, List.nodup_append] at h
      exact h.1
theorem catF_in (P : Nat → Part) {m : Nat} : ∀ j, j ≤ m → ∀ b ∈ (catF P j).flatten, b ∈ (catF P m).flatten := by
  induction m with
  | zero => intro j hj b hb; rw [show j = 0 by omega] at hb; exact hb
  | succ m ih =>
    intro j hj b hb
    by_cases hjm : j = m + 1
    · rw [← hjm]; exact hb
    · simp only [catF, List.flatten_append, List.mem_append]
      exact .inl (ih j (by omega) b hb)

/-- What Concat answers. -/
def Catted (P : Nat → Part) (m : Nat) (w : World) (e : Ending) (w' : World) : Prop := ∃ g c' fp', e = .returned (.slice (some ⟨g, 0, none⟩) (catY P m).length c') ∧ (tWrS 65).Mine w' [.slice (some ⟨g, 0, none⟩) (catY P m).length c'] (catY P m) fp' ∧ (∀ b ∈ fp', b ∈ (catF P m).flatten ∨ w.heap.size ≤ b) ∧ Turned (catF P m).flatten w w'
/-- A row that was grown: no element, room. -/
theorem room_mine {t : Ty} {E : TypeId} {w : World} {cur : Array Value} {G : Nat} (hs : cur.size = G * t.n) (hG : G ≤ 9223372036854775807) : (rowTy t E).Mine (w.alloc (.cells cur E)) [.slice (some ⟨w.heap.size, 0, none⟩) 0 G] [] [w.heap.size] :=
  ⟨.inr ⟨w.heap.size, G, cur, [], rfl, Nat.zero_le _, hG, Box.new w E cur, hs, rfl, rfl, fun i x hx => by simp at hx⟩, by simp⟩

/-- 'append' of several elements to a row of the call's own, at a list of operations. -/
theorem wpList_appN2 {P : Program} {w : World} {ops : Array Oper} {rest : List Oper} {o : Oper} {a : Act} {Q : Exit → Act → World → Prop} (t : Ty) (hgd : o.guard = none) (s x : Operand) (T : TypeId)
    (ho : o.op = .call { callee := .builtin .append, args := #[s, x], argTypes := #[T, T] })
    (E : TypeId) (i : TypeInfo) (z : Value) (bytes : Nat) (ht : P.underlying T = some (.slice E)) (hi : P.info? E = some i) (hz : i.zero = some z)
    (hsize : i.size = t.n) (hby : i.bytes = bytes) (hzs : z.cells.size = t.n) (hsz : 0 < t.n)
    (b cap : Nat) (d : List t.D) (fp : List Nat) (hs : a.eval s = .slice (some ⟨b, 0, none⟩) d.length cap) (hown : (rowTy t E).Mine w [.slice (some ⟨b, 0, none⟩) d.length cap] d fp)
    (ad : Addr) (c : Nat) (vs : List Value) (ys : List t.D) (fs : List (List Nat)) (hx : a.eval x = .slice (some ad) ys.length c) (hy : Elems t w vs ys fs) (hdis : ∀ b ∈ fp, b ∉ fs.flatten) (hr : ∀ j u, vs[j]? = some u → w.cell? (ad.add j) = some u) (h1 : ∀ u ∈ vs, u.oneCell' = true)
    (h63 : d.length + ys.length ≤ maxLen) (hbytes : (d.length + ys.length) * bytes ≤ 140737488355328)
    (h : ∀ g cap' w' fp', (rowTy t E).Mine w' [.slice (some ⟨g, 0, none⟩) (d.length + ys.length) cap'] (d ++ ys) fp' → (∀ b ∈ fp', b ∈ fp ∨ b ∈ fs.flatten ∨ (b = w.heap.size ∧ b < w'.heap.size)) → Turned fp w w' → wpList P ops Q rest (a.put o.dst (.slice (some ⟨g, 0, none⟩) (d.length + ys.length) cap')) w') : wpList P ops Q (o :: rest) a w := by
  obtain ⟨xs, hrow, hback⟩ := row_cellsN (lo := 0) hown (fun _ _ => Nat.zero_le _)
  refine wpList_append_own_at w hgd s x T ho 0 E i z t.n bytes ht hi hz hsize hby hzs hsz _ d.length xs hs hrow ad ys.length c vs hx hy.1 hr h1 h63 hbytes (Nat.zero_le _) ?_
  intro v' w' k1 k2 k3 k4
  obtain ⟨fp', m1, m2, m3⟩ := hback w' v' vs ys fs hy hdis k1 k2 k4
  rcases k1.2 with ⟨hv0, _⟩ | ⟨g, cap', _, hv', _⟩
  · simp at k3
    exact absurd hv0 k3
  · subst hv'
    exact h g cap' w' fp' m1 m2 m3

set_option linter.unusedSimpArgs false in
set_option maxRecDepth 20000 in
set_option maxHeartbeats 3200000 in
theorem concat_any (w : World) (P : Nat → Part) (B m : Nat) (hB : ∀ j, j < m → w.cell? ⟨B, j, none⟩ = some (.slice (P j).a (P j).ys.length (P j).c)) (hP : ∀ j, j < m → PartAt w (P j)) (hn : (catF P m).flatten.Nodup) (hBl : B < w.heap.size)
    (hBF : B ∉ (catF P m).flatten) (haF : ∀ j, j < m → ∀ ad, (P j).a = some ad → ad.block ∉ (catF P m).flatten) (hal : ∀ j, j < m → ∀ ad, (P j).a = some ad → ad.block < w.heap.size) (hL : 0 < (catY P m).length) (hL2 : (catY P m).length ≤ 600000) (hm : m ≤ 3) :
    Calls Tryz.prog 72 #[.slice (some ⟨B, 0, none⟩) m m] w fun e w' => Catted P m w e w' := by
  obtain ⟨i4, hi4, hz0, hz1, hz2⟩ := info_parts Tryz.infoEnt
  have HBC := hidden hB
  have HP := hidden hP
  have HNF := hidden hn
  have HBF := hidden hBF
  have HAF := hidden haF
  have HAL := hidden hal
  clear hB hP hn hBF haF hal
  go_enter Tryz.func72, Tryz.ntmps72
  go_wp2
  go_loopw [3, 11] (fun sv iv wr => ∃ j : Nat, j ≤ m ∧ iv = .int .i64 j ∧ sv = .int .i64 ((catY P j).length : Nat) ∧ wr = w) (fun _ iv _ => m - (intOf iv).toNat)
  case atStart => exact ⟨0, Nat.zero_le _, rfl, rfl, rfl⟩
  case round =>
    obtain ⟨j, hj, rfl, rfl, hwr⟩ := hrel
    subst wr
    by_cases hjm : j < m
    · have hc := HBC.out j hjm
      have hle := catY_le P (m := m) (j + 1) (by omega)
      have hs : (catY P (j + 1)).length = (catY P j).length + (P j).ys.length := by simp [catY]
      have k1 : (0 : Int) ≤ (j : Int) := by omega
      have k2 : (j : Int) < (m : Int) := by omega
      obtain ⟨u, hu⟩ : ∃ u, (catY P (j + 1)).length = u := ⟨_, rfl⟩
      have HU := hidden hu
      rw [hu] at hs hle
      generalize (P j).ys.length = n at hc hs
      generalize (catY P j).length = q at hs ⊢
      have gw : IntKind.i64.wrap ((q : Int) + (n : Int)) = (u : Int) := by rw [IntWalk.i64_in _ (by omega)]; omega
      have nn : ¬ (u : Int) < 0 := by omega
      clear hs hle hu
      go_wp2
      go_roundw
      case rel => exact ⟨j + 1, by omega, by go_num, by rw [HU.out], by first | rfl | trivial⟩
      case measure => simp [intOf]; omega
    · have ej : j = m := by omega
      subst ej
      have k2 : ¬ (j : Int) < (j : Int) := by omega
      obtain ⟨n, hn⟩ : ∃ n, (catY P j).length = n := ⟨_, rfl⟩
      have HN := hidden hn
      rw [hn] at hL hL2 ⊢
      clear hn
      go_wp2_with fail
      refine (Any8.slices_Grow_grow growLays i4 (.agg #[.int .i64 0, .slice none 0 0]) hi4 hz0 (by rw [hz1]; exact Nat.zero_lt_two) none 0 0 n [] w (Nat.le_refl _) (by omega) (by rw [hz2]; omega) (by omega) (by rw [hz1]; rfl) (fun _ => rfl) (fun a ha => by cases ha)).mono ?_
      rintro e w2 ⟨rfl, hw2⟩
      have hge := grownCap_ge w (0 + n) 0 65
      have hgm := grownCap_le_maxLen w (0 + n) 0 65 (by unfold maxLen; omega)
      have hgr : growRen.t 25 = 65 := rfl
      rw [hgr] at hw2 ⊢
      generalize grownCap w (0 + n) 0 65 = G at hge hgm hw2 ⊢
      unfold maxLen at hgm
      have M0 : (tWrS 65).Mine w2 [.slice (some ⟨w.heap.size, 0, none⟩) 0 G] [] [w.heap.size] := by
        rw [hw2]
        exact room_mine (w := w.drew) (by simp only [Array.size_append, List.size_toArray, size_zeroCells, Value.cells]; simp; omega) hgm
      have T0 : Turned [] w w2 := by rw [hw2]; exact Turned.ofBelow (((Below.refl w.heap.size w).drew).alloc (Nat.le_refl _) _) []
      have HM0 := hidden M0
      have HT0 := hidden T0
      clear M0 T0 hw2 hge hgr
      have hNB : w.heap.size ≤ w2.heap.size := HT0.out.size
      go_wp2
      go_loopw [6, 27] (fun nv iv wq => ∃ (q g cap : Nat) (fp : List Nat), q ≤ j ∧ iv = .int .i64 q ∧ nv = .slice (some ⟨g, 0, none⟩) (catY P q).length cap ∧ (tWrS 65).Mine wq [.slice (some ⟨g, 0, none⟩) (catY P q).length cap] (catY P q) fp ∧ (∀ b ∈ fp, b ∈ (catF P q).flatten ∨ w.heap.size ≤ b) ∧ Turned (catF P q).flatten w wq) (fun _ iv _ => j - (intOf iv).toNat)
      case atStart => exact ⟨0, w.heap.size, G, [w.heap.size], Nat.zero_le _, rfl, rfl, HM0.out, fun b hb => .inr (by simp at hb; omega), HT0.out⟩
      case round =>
        obtain ⟨q, g, cap, fp, hq, rfl, rfl, hMi, hfp, hT⟩ := hrel
        by_cases hqj : q < j
        · have PF : Hid (∀ b ∈ (catF P q).flatten, b ∉ (P q).fs.flatten) := fun b hb hb' => by
            have := catF_nodup P HNF.out (q + 1) (by omega)
            simp only [catF, List.flatten_append, List.nodup_append] at this
            exact this.2.2 b hb b hb' rfl
          have hBq : B ∉ (catF P q).flatten := fun hm => HBF.out (catF_in P q (by omega) B hm)
          have hc := (cell_kept (hT.block B hBl hBq) q).trans (HBC.out q hqj)
          obtain ⟨pe, po, pa⟩ := HP.out q hqj
          have hel := pe.lt
          have hle : (catY P (q + 1)).length ≤ n := by rw [← HN.out]; exact catY_le P (m := j) (q + 1) (by omega)
          have hs : (catY P (q + 1)).length = (catY P q).length + (P q).ys.length := by simp [catY]
          have E1 := hidden (pe.kept hT (fun b hb hm => PF.out b hm hb))
          have DJ : Hid (∀ b ∈ fp, b ∉ (P q).fs.flatten) := fun b hb hb' => by
            rcases hfp b hb with h | h
            · exact PF.out b h hb'
            · have := hel b hb'; omega
          have L1 : Hid ((catY P q).length + (P q).ys.length ≤ maxLen) := by unfold Hid maxLen; omega
          have L2 : Hid (((catY P q).length + (P q).ys.length) * 32 ≤ 140737488355328) := by unfold Hid; omega
          have k1 : (0 : Int) ≤ (q : Int) := by omega
          have k2 : (q : Int) < (j : Int) := by omega
          have PO := hidden po
          have MI := hidden hMi
          have FP := hidden hfp
          have HT := hidden hT
          have hcap := (row_length hMi.rd).2.1
          rcases pa with ⟨pa, py⟩ | ⟨ad, pa, pc⟩
          · have HY : Hid (catY P (q + 1) = catY P q ∧ (catF P (q + 1)).flatten = (catF P q).flatten) := by
              have h0 : (P q).fs = [] := List.eq_nil_of_length_eq_zero (by rw [pe.2.1, py]; rfl)
              unfold Hid
              simp [catY, catF, py, h0]
            rw [pa, py] at hc
            clear pe po hMi hfp hT hs hle pa py hel L1 L2 DJ E1 PF
            generalize hYL : (catY P q).length = yl at hcap MI ⊢
            have HYL := hidden hYL
            clear hYL
            go_wp2
            go_roundw
            case rel => exact ⟨q + 1, g, cap, fp, by omega, by go_num, by rw [HY.out.1, HYL.out], by rw [HY.out.1, HYL.out]; exact MI.out, by rw [HY.out.2]; exact FP.out, by rw [HY.out.2]; exact HT.out⟩
            case measure => simp [intOf]; omega
          · rw [pa] at hc
            have hab : ad.block ∉ (catF P q).flatten := fun hm => HAF.out q hqj ad pa (catF_in P q (by omega) _ hm)
            have R1 : Hid (∀ k u, (P q).vs[k]? = some u → wr.cell? (ad.add k) = some u) := fun k u hu => by
              have h := pc k u hu
              have hbk : (ad.add k).block = ad.block := by unfold Addr.add; split <;> rfl
              rw [← h]
              exact World.cell?_of_block (by rw [hbk]; exact HT.out.block _ (HAL.out q hqj ad pa) hab)
            have HY : Hid (catY P (q + 1) = catY P q ++ (P q).ys ∧ (catF P (q + 1)).flatten = (catF P q).flatten ++ (P q).fs.flatten) := by
              unfold Hid
              simp [catY, catF]
            have HS := hidden hs
            clear pe po hMi hfp hT hs hle pa hel hcap pc hab PF
            go_wp2_with (at_builtin; refine wpList_appN2 tWr rfl _ _ 62 rfl 65 i4 (.agg #[.int .i64 0, .slice none 0 0]) 32 Tryz.underlying62 hi4 hz0 hz1 hz2 rfl Nat.zero_lt_two g cap (catY P q) fp rfl MI.out ad (P q).c (P q).vs (P q).ys (P q).fs rfl E1.out DJ.out R1.out PO.out L1.out L2.out ?_; intro g5 c5 w5 fp5 m1 m2 m3; have MO := hidden m1; have O2 := hidden m2; have O3 := hidden m3; clear m1 m2 m3)
            have hz5 := O3.out.size
            have T5 : Hid (Turned (catF P (q + 1)).flatten w w5) := by
              unfold Hid
              rw [HY.out.2]
              exact put_turned (f := (P q).fs.flatten) HT.out (Below.refl _ _) O3.out FP.out (Nat.le_refl _)
            have F5 : Hid (∀ b ∈ fp5, b ∈ (catF P (q + 1)).flatten ∨ w.heap.size ≤ b) := by
              unfold Hid
              rw [HY.out.2]
              exact put_fp (fT := (catF P q).flatten) (f := (P q).fs.flatten) FP.out O2.out HT.out.size
            go_wp2
            go_roundw
            case rel => exact ⟨q + 1, g5, c5, fp5, by omega, by go_num, by rw [HS.out], by rw [HS.out, HY.out.1]; exact MO.out, F5.out, T5.out⟩
            case measure => simp [intOf]; omega
        · have e : q = j := by omega
          subst e
          have k2 : ¬ (q : Int) < (q : Int) := by omega
          have MI := hidden hMi
          have FP := hidden hfp
          have HT := hidden hT
          clear hMi hfp hT
          go_wp2
          go_ret
          exact ⟨g, cap, fp, rfl, MI.out, FP.out, HT.out⟩

end Go.Proofs.YtjmjianlcoleaaaGreat

/-
  The walk of the program's list of entries with one more: it stands in the place of the one of its stripe, or between those that it belongs between. Conditions: at most 500000 entries, ascending by stripe; stripes lie in 0 .. 100.
-/
namespace Go.Proofs.YtjmjianlcoleaaaGreat
open Go.RowKit

theorem putSt_all {e : EntD} : ∀ (ds L : List EntD), (∀ d ∈ ds, ¬ d.1 = e.1) → ds.foldl (putSt e) (L, true) = (L ++ ds, true)
  | [], L, _ => by simp
  | d :: ds, L, h => by
    rw [List.foldl_cons, putSt_e (h d List.mem_cons_self), putSt_all ds _ (fun d hd => h d (List.mem_cons_of_mem _ hd))]
    simp
theorem putSt_low {e : EntD} : ∀ (ds L : List EntD), (∀ d ∈ ds, d.1 < e.1) → ds.foldl (putSt e) (L, false) = (L ++ ds, false)
  | [], L, _ => by simp
  | d :: ds, L, h => by
    have h1 := h d List.mem_cons_self
    rw [List.foldl_cons, putSt_c (by omega) (by omega), putSt_low ds _ (fun d hd => h d (List.mem_cons_of_mem _ hd))]
    simp
theorem at_mem {ds : List EntD} {k : Nat} {d : EntD} (h : d ∈ ds.drop k) : ∃ i, k ≤ i ∧ ds[i]? = some d := by
  obtain ⟨i, hi⟩ := List.mem_iff_getElem?.1 h
  rw [List.getElem?_drop] at hi
  exact ⟨k + i, by omega, hi⟩
theorem at_mem_take {ds : List EntD} {k : Nat} {d : EntD} (h : d ∈ ds.take k) : ∃ i, i < k ∧ ds[i]? = some d := by
  obtain ⟨i, hi⟩ := List.mem_iff_getElem?.1 h
  rw [List.getElem?_take] at hi
  split at hi
  · exact ⟨i, by assumption, hi⟩
  · simp at hi
/-- Where an entry is put. -/
theorem put8_at {ds : List EntD} {t : Int} {ys : List Int} {k : Nat} {r : Bool} (ha : Asc8 ds) (h : Spot ds t k r) : put8 ds (t, ys) = ds.take k ++ [(t, ys)] ++ ds.drop (if r = true then k + 1 else k) := by
  obtain ⟨h1, h2, h3, h4⟩ := h
  have hq : putQ ds (t, ys) ds.length = (ds.drop k).foldl (putSt (t, ys)) (ds.take k, false) := by
    unfold putQ
    rw [List.take_of_length_le (Nat.le_refl _)]
    conv => lhs; rw [← List.take_append_drop k ds]
    rw [List.foldl_append, putSt_low (ds.take k) [] (fun d hd => by obtain ⟨i, hi, hd⟩ := at_mem_take hd; exact h2 i d hi hd)]
    simp
  unfold put8
  rw [hq]
  rcases h4 with ⟨rfl, d, hk, hdt⟩ | ⟨rfl, hk⟩
  · have hkl := (List.getElem?_eq_some_iff.1 hk).1
    have hdr : ds.drop k = d :: ds.drop (k + 1) := by
      rw [List.drop_eq_getElem_cons hkl]
      have := (List.getElem?_eq_some_iff.1 hk).2
      rw [this]
    rw [hdr, List.foldl_cons, putSt_a (by show t ≤ d.1; omega) hdt, putSt_all _ _ (fun d' hd' h' => by
      obtain ⟨i, hi, hd'⟩ := at_mem hd'
      have := ha.1 k i d d' (by omega) hk hd'
      have : d'.1 = t := h'
      omega)]
    simp
  · cases hdr : ds.drop k with
    | nil => simp [hdr]
    | cons d l =>
      have hd : d ∈ ds.drop k := by rw [hdr]; exact List.mem_cons_self
      have hkd : ds[k]? = some d := by
        have : (ds.drop k)[0]? = some d := by rw [hdr]; rfl
        rwa [List.getElem?_drop] at this
      have a1 := h3 k d (Nat.le_refl _) hkd
      have a2 := hk d hkd
      rw [List.foldl_cons, putSt_b (by show t ≤ d.1; exact a1) a2, putSt_all _ _ (fun d' hd' h' => by
        obtain ⟨i, hi, hd'⟩ := at_mem (show d' ∈ ds.drop k by rw [hdr]; exact List.mem_cons_of_mem _ hd')
        have := h3 i d' hi hd'
        have h'' : d'.1 = t := h'
        by_cases hik : i = k
        · subst hik
          exact hk d' hd' h''
        · have := ha.1 k i d d' (by omega) hkd hd'
          omega)]
      simp [hdr]
/-- What the list with one more is. -/
def Withed (ds : List EntD) (fd fe : List Nat) (w : World) (e : Ending) (w' : World) : Prop := ∃ g c' fp', e = .returned (.slice (some ⟨g, 0, none⟩) ds.length c') ∧ (tWrS 65).Mine w' [.slice (some ⟨g, 0, none⟩) ds.length c'] ds fp' ∧ (∀ b ∈ fp', b ∈ fd ∨ b ∈ fe ∨ w.heap.size ≤ b) ∧ Turned (fd ++ fe) w w'
theorem nodup3 {a : List Nat} {l : List (List Nat)} {k h : Nat} (hl : l.flatten.Nodup) (ha : a.Nodup) (hd : ∀ b ∈ a, b ∉ l.flatten) (hkh : k ≤ h) : ((l.take k ++ [a]) ++ l.drop h).flatten.Nodup := by
  have h1 : (l.take k ++ l.drop h).Sublist l := by
    have : (l.drop h).Sublist (l.drop k) := by
      rw [show h = k + (h - k) by omega, ← List.drop_drop]
      exact List.drop_sublist _ _
    have h2 := List.Sublist.append (List.Sublist.refl (l.take k)) this
    rwa [List.take_append_drop] at h2
  have h2 := (runs_sub h1).nodup hl
  simp only [List.flatten_append, List.nodup_append, List.flatten_cons, List.flatten_nil, List.append_nil] at h2 ⊢
  have s1 := fun b hb => (runs_sub (List.take_sublist k l)).subset (a := b) hb
  have s2 := fun b hb => (runs_sub (List.drop_sublist h l)).subset (a := b) hb
  refine ⟨⟨h2.1, ha, fun x hx y hy hxy => hd y hy (hxy ▸ s1 x hx)⟩, h2.2.1, fun x hx y hy hxy => ?_⟩
  rcases List.mem_append.1 hx with hx | hx
  · exact h2.2.2 x hx y hy hxy
  · exact hd x hx (hxy ▸ s2 y hy)
theorem seg_elems {w : World} {cs : List Value} {ds : List EntD} {fps : List (List Nat)} (s3 : cs.length = ds.length * 2) (s1 : fps.length = ds.length) (h : ∀ lo m, lo + m ≤ ds.length → Elems tWr w ((cs.drop (lo * tWr.n)).take (m * tWr.n)) ((ds.drop lo).take m) ((fps.drop lo).take m)) (k : Nat) (hk : k ≤ ds.length) :
    Elems tWr w (cs.take (k * 2)) (ds.take k) (fps.take k) ∧ Elems tWr w (cs.drop (k * 2)) (ds.drop k) (fps.drop k) := by
  constructor
  · have h1 := h 0 k (by omega)
    rw [Nat.zero_mul, List.drop_zero, List.drop_zero, List.drop_zero] at h1
    exact h1
  · have h1 := h k (ds.length - k) (by omega)
    have hA : (ds.drop k).take (ds.length - k) = ds.drop k := List.take_of_length_le (by simp)
    have hB : (fps.drop k).take (ds.length - k) = fps.drop k := List.take_of_length_le (by rw [List.length_drop, s1]; exact Nat.le_refl _)
    have h2 : (cs.drop (k * tWr.n)).take ((ds.length - k) * tWr.n) = cs.drop (k * 2) := List.take_of_length_le (by rw [List.length_drop, s3, Nat.sub_mul]; exact Nat.le_refl _)
    rw [hA, hB, h2] at h1
    exact h1

def parts3 (p0 p1 p2 : Part) : Nat → Part
  | 0 => p0
  | 1 => p1
  | _ => p2
theorem part_one {w4 : World} {t : Int} {ys : List Int} {av : Option Addr} {cv I : Nat} {fe : List Nat} (he : tIntS.Mine w4 [.slice av ys.length cv] ys fe) (j0 : w4.cell? ⟨I, 0, none⟩ = some (.int .i64 t)) (j1 : w4.cell? ⟨I, 1, none⟩ = some (.slice av ys.length cv)) :
    PartAt w4 ⟨some ⟨I, 0, none⟩, 1, [.int .i64 t, .slice av ys.length cv], [(t, ys)], [fe]⟩ := by
  refine ⟨⟨rfl, rfl, by simpa using he.2, fun i y hy => ?_⟩, fun u hu => ?_, .inr ⟨⟨I, 0, none⟩, rfl, fun q u hu => ?_⟩⟩
  · rcases i with _ | i
    · simp at hy
      subst hy
      exact ⟨fe, rfl, (wr_mine t he).1⟩
    · simp at hy
  · simp only [List.mem_cons, List.not_mem_nil, or_false] at hu
    rcases hu with rfl | rfl <;> rfl
  · rcases q with _ | _ | q
    · simp at hu
      subst hu
      simpa [Addr.add] using j0
    · simp at hu
      subst hu
      simpa [Addr.add] using j1
    · simp at hu
theorem with_cat (w w4 : World) (t : Int) (ys : List Int) (av : Option Addr) (cv : Nat) (fe fd : List Nat) (p0 p2 : Part) (hb : Below w.heap.size w w4) (I : Nat)
    (k0 : w4.cell? ⟨I + 1, 0, none⟩ = some (.slice p0.a p0.ys.length p0.c)) (k1 : w4.cell? ⟨I + 1, 1, none⟩ = some (.slice (some ⟨I, 0, none⟩) 1 1)) (k2 : w4.cell? ⟨I + 1, 2, none⟩ = some (.slice p2.a p2.ys.length p2.c)) (hI : w.heap.size < I) (hI2 : I + 1 < w4.heap.size)
    (j0 : w4.cell? ⟨I, 0, none⟩ = some (.int .i64 t)) (j1 : w4.cell? ⟨I, 1, none⟩ = some (.slice av ys.length cv)) (he : tIntS.Mine w4 [.slice av ys.length cv] ys fe) (hp0 : PartAt w4 p0) (hp2 : PartAt w4 p2) (hn : ((p0.fs ++ [fe]) ++ p2.fs).flatten.Nodup)
    (hlt : ∀ b ∈ fd, b < w.heap.size) (hle : ∀ b ∈ fe, b < w.heap.size) (hf0 : ∀ b ∈ p0.fs.flatten, b ∈ fd) (hf2 : ∀ b ∈ p2.fs.flatten, b ∈ fd)
    (ha0 : ∀ ad, p0.a = some ad → ad.block ∈ fd ∧ ad.block ∉ fe ∧ ad.block ∉ p0.fs.flatten ∧ ad.block ∉ p2.fs.flatten) (ha2 : ∀ ad, p2.a = some ad → ad.block ∈ fd ∧ ad.block ∉ fe ∧ ad.block ∉ p0.fs.flatten ∧ ad.block ∉ p2.fs.flatten) (hL : (p0.ys ++ [(t, ys)] ++ p2.ys).length ≤ 600000) :
    Calls Tryz.prog 72 #[.slice (some ⟨I + 1, 0, none⟩) 3 3] w4 fun e w' => Withed (p0.ys ++ [(t, ys)] ++ p2.ys) fd fe w e w' ∧ w'.heap[w.heap.size]? = w4.heap[w.heap.size]? := by
  have hz := hb.size
  have eY : catY (parts3 p0 ⟨some ⟨I, 0, none⟩, 1, [.int .i64 t, .slice av ys.length cv], [(t, ys)], [fe]⟩ p2) 3 = p0.ys ++ [(t, ys)] ++ p2.ys := by simp [catY, parts3]
  have eF : catF (parts3 p0 ⟨some ⟨I, 0, none⟩, 1, [.int .i64 t, .slice av ys.length cv], [(t, ys)], [fe]⟩ p2) 3 = (p0.fs ++ [fe]) ++ p2.fs := by simp [catF, parts3]
  have hin : ∀ b ∈ ((p0.fs ++ [fe]) ++ p2.fs).flatten, b ∈ fd ∨ b ∈ fe := fun b hb => by
    simp only [List.flatten_append, List.mem_append, List.flatten_cons, List.flatten_nil, List.append_nil] at hb
    rcases hb with (hb | hb) | hb
    · exact .inl (hf0 b hb)
    · exact .inr hb
    · exact .inl (hf2 b hb)
  have hinl : ∀ b ∈ ((p0.fs ++ [fe]) ++ p2.fs).flatten, b < w.heap.size := fun b hb => (hin b hb).elim (hlt b) (hle b)
  have hnot : ∀ b, b ∉ fe → b ∉ p0.fs.flatten → b ∉ p2.fs.flatten → b ∉ ((p0.fs ++ [fe]) ++ p2.fs).flatten := fun b h1 h2 h3 hm => by
    simp only [List.flatten_append, List.mem_append, List.flatten_cons, List.flatten_nil, List.append_nil] at hm
    rcases hm with (hm | hm) | hm
    · exact h2 hm
    · exact h1 hm
    · exact h3 hm
  refine (concat_any w4 (parts3 p0 ⟨some ⟨I, 0, none⟩, 1, [.int .i64 t, .slice av ys.length cv], [(t, ys)], [fe]⟩ p2) (I + 1) 3 ?_ ?_ (by rw [eF]; exact hn) hI2 (by rw [eF]; exact fun hm => by have := hinl _ hm; omega) ?_ ?_ (by rw [eY]; simp; omega) (by rw [eY]; exact hL) (Nat.le_refl _)).mono ?_
  · intro j hj
    rcases j with _ | _ | _ | j
    · exact k0
    · exact k1
    · exact k2
    · omega
  · intro j hj
    rcases j with _ | _ | _ | j
    · exact hp0
    · exact part_one he j0 j1
    · exact hp2
    · omega
  · intro j hj ad had
    rw [eF]
    rcases j with _ | _ | _ | j
    · obtain ⟨h1, h2, h3, h4⟩ := ha0 ad had
      exact hnot _ h2 h3 h4
    · have : ad = ⟨I, 0, none⟩ := by simpa [parts3] using had.symm
      subst this
      exact fun hm => by have := hinl _ hm; simp at this; omega
    · obtain ⟨h1, h2, h3, h4⟩ := ha2 ad had
      exact hnot _ h2 h3 h4
    · omega
  · intro j hj ad had
    rcases j with _ | _ | _ | j
    · have := hlt _ (ha0 ad had).1; omega
    · have : ad = ⟨I, 0, none⟩ := by simpa [parts3] using had.symm
      subst this
      show I < _
      omega
    · have := hlt _ (ha2 ad had).1; omega
    · omega
  · rintro e w' ⟨g, c', fp', rfl, m1, m2, m3⟩
    rw [eY] at m1 ⊢
    rw [eF] at m2 m3
    refine ⟨⟨g, c', fp', rfl, m1, fun b hb => ?_, ?_⟩, m3.block _ (by omega) (fun hm => by have := hinl _ hm; omega)⟩
    · rcases m2 b hb with h | h
      · exact (hin b h).elim .inl (fun h => .inr (.inl h))
      · exact .inr (.inr (by omega))
    · refine ⟨m3.os.trans hb.os, m3.tape.trans hb.tape, m3.output.trans hb.output, Nat.le_trans hb.size m3.size, fun k hk hf => ?_⟩
      rw [m3.block k (by omega) (fun hm => hf ((hin k hm).elim (List.mem_append_left _) (List.mem_append_right _))), hb.block k hk]

set_option linter.unusedSimpArgs false in
set_option maxRecDepth 20000 in
set_option maxHeartbeats 3200000 in
theorem with_any (w : World) (bd : Option Addr) (cd : Nat) (ds : List EntD) (fd : List Nat) (hd : (tWrS 65).Mine w [.slice bd ds.length cd] ds fd) (ha : Asc8 ds) (t : Int) (ht : 0 ≤ t ∧ t ≤ 100) (av : Option Addr) (cv : Nat) (ys : List Int) (fe : List Nat) (he : tIntS.Mine w [.slice av ys.length cv] ys fe) (hdis : ∀ b ∈ fe, b ∉ fd) (hl : ds.length ≤ 500000) :
    Calls Tryz.prog 41 #[.slice bd ds.length cd, .agg #[.int .i64 t, .slice av ys.length cv]] w fun e w' => Withed (put8 ds (t, ys)) fd fe w e w' := by
  have hA := new_below w (.cells #[.int .i64 t, .slice av ys.length cv] 65)
  have X0 := Box.new w 65 #[.int .i64 t, .slice av ys.length cv]
  have zX := X0.lt
  have r1 := hd.rd.below hA
  have hcd := (row_length hd.rd).2.1
  have c0 : (w.alloc (.cells #[.int .i64 t, .slice av ys.length cv] 65)).cell? ⟨w.heap.size, 0, none⟩ = some (.int .i64 t) := X0.cell 0
  have c1 : (w.alloc (.cells #[.int .i64 t, .slice av ys.length cv] 65)).cell? ⟨w.heap.size, 1, none⟩ = some (.slice av ys.length cv) := X0.cell 1
  have na : ∀ w, Sem.run Tryz.prog (nilAhead (311 + 1) 65 (.agg #[.int .i64 t, .slice av ys.length cv]) "loop.example/g00398/impl.stripe") w = .ok (some false) w := fun w => by kernel_rfl
  have HD := hidden hd
  have HE := hidden he
  have HASC := hidden ha
  have HDIS := hidden hdis
  have hlw := hd.lt
  have hle := he.lt
  clear hd he ha hdis
  go_enter Tryz.func41, Tryz.ntmps41
  go_wp2_with fail
  generalize w.alloc (.cells #[.int .i64 t, .slice av ys.length cv] 65) = W at hA X0 zX r1 c0 c1 ⊢
  refine (stripe_any _ _ _ _ _).mono ?_
  rintro e w1 ⟨rfl, b1⟩
  have X1 := X0.below b1 zX
  have r2 := r1.below b1
  have B1 := Below.andThen hA b1
  have z1 := b1.size
  clear c0 c1 X0 r1 b1 hA
  go_wp2_with fail
  refine (find_any _ 65 _ _ _ ds t r2 (by omega) HASC.out ht).mono ?_
  rintro e w2 ⟨k, r, rfl, hp, b2⟩
  have X2 := X1.below b2 X1.lt
  have B2 := Below.andThen B1 b2
  have z2 := b2.size
  have HP := hidden hp
  have HPT := hidden (put8_at (ys := ys) HASC.out hp)
  have hkl := hp.1
  have D2 := hidden (HD.out.below B2)
  have E2 := hidden (HE.out.below B2)
  have zB := B2.size
  clear X1 r2 B1 b2
  have c0 : w2.cell? ⟨w.heap.size, 0, none⟩ = some (.int .i64 t) := X2.cell 0
  have c1 : w2.cell? ⟨w.heap.size, 1, none⟩ = some (.slice av ys.length cv) := X2.cell 1
  have zX2 := X2.lt
  have HB2 := hidden B2
  clear X2 B2
  rcases hbd : bd with _ | ad0
  · subst hbd
    obtain ⟨h0, hc0, hds⟩ := row_nil HD.out.rd
    subst hds hc0
    have hk0 : k = 0 := by simp at hkl; omega
    subst hk0
    have hr : r = false := by rcases hp.2.2.2 with ⟨_, d, hx, _⟩ | ⟨h, _⟩; simp at hx; exact h
    subst hr
    clear hp
    go_wp2_with fail
    refine wp_region_held_drew (S := fun w' => w'.cell? ⟨w.heap.size, 0, none⟩ = some (.int .i64 t) ∧ w'.cell? ⟨w.heap.size, 1, none⟩ = some (.slice av ys.length cv)) (by kernel_rfl) ?_ (fun hHeld => ?_)
    · exact ⟨c0, c1⟩
    refine held_t 0 hHeld ?_
    refine held_t 1 hHeld ?_
    refine held_t 2 hHeld ?_
    refine held_t 3 hHeld ?_
    refine held_t 5 hHeld ?_
    refine held_t 6 hHeld ?_
    refine held_t 7 hHeld ?_
    have BN := new_below w2 (.cells #[.int .i64 t, .slice av ys.length cv] 65)
    refine held_one (i := 4) (by kernel_rfl) rfl (by kernel_rfl) (fun K hK => ?_)
    go_simp
    clear hHeld
    refine hK.out _ _ ?_ (fun hHeld => ?_)
    · exact ⟨(BN.cell (p := ⟨w.heap.size, 0, none⟩) zX2).trans c0, (BN.cell (p := ⟨w.heap.size, 1, none⟩) zX2).trans c1⟩
    clear hK K
    refine held_one (i := 8) (by kernel_rfl) rfl (by kernel_rfl) (fun K hK => ?_)
    go_simp
    clear hHeld
    have BN2 := Below.andThen BN (new_below (w2.alloc (.cells #[.int .i64 t, .slice av ys.length cv] 65)) (.cells #[.slice none 0 0, .slice (some ⟨w2.heap.size, 0, none⟩) 1 1, .slice none 0 0] 62))
    refine hK.out _ _ ?_ (fun hHeld => ?_)
    · exact ⟨(BN2.cell (p := ⟨w.heap.size, 0, none⟩) zX2).trans c0, (BN2.cell (p := ⟨w.heap.size, 1, none⟩) zX2).trans c1⟩
    clear hK K
    have N1 : Box ((w2.alloc (.cells #[.int .i64 t, .slice av ys.length cv] 65)).alloc (.cells #[.slice none 0 0, .slice (some ⟨w2.heap.size, 0, none⟩) 1 1, .slice none 0 0] 62)) w2.heap.size 65 #[.int .i64 t, .slice av ys.length cv] := (Box.new w2 _ _).alloc _
    have N2 := Box.new (w2.alloc (.cells #[.int .i64 t, .slice av ys.length cv] 65)) 62 #[.slice none 0 0, .slice (some ⟨w2.heap.size, 0, none⟩) 1 1, .slice none 0 0]
    rw [World.size_alloc] at N2
    have zN2 := N2.lt
    refine held_one (i := 9) (by kernel_rfl) rfl (by kernel_rfl) (fun K hK => ?_)
    go_simp
    generalize (w2.alloc (.cells #[.int .i64 t, .slice av ys.length cv] 65)).alloc (.cells #[.slice none 0 0, .slice (some ⟨w2.heap.size, 0, none⟩) 1 1, .slice none 0 0] 62) = w4 at BN2 N1 N2 zN2 hHeld ⊢
    have z4 := BN2.size
    have zI : w2.heap.size + 1 < w4.drew.heap.size := zN2
    have B4 : Below w.heap.size w w4.drew := (HB2.out.trans (BN2.mono zB)).drew
    have T4 : Turned [] w2 w4.drew := Turned.ofBelow BN2.drew []
    refine (with_cat w w4.drew t ys av cv fe fd ⟨none, 0, [], [], []⟩ ⟨none, 0, [], [], []⟩ B4 w2.heap.size (N2.cell 0) (N2.cell 1) (N2.cell 2) (by omega) zI (N1.cell 0) (N1.cell 1) (E2.out.kept T4 (by simp)) ⟨⟨rfl, rfl, by simp, fun i y hy => by simp at hy⟩, by simp, .inl ⟨rfl, rfl⟩⟩ ⟨⟨rfl, rfl, by simp, fun i y hy => by simp at hy⟩, by simp, .inl ⟨rfl, rfl⟩⟩ (by simpa using HE.out.2) hlw hle (by simp) (by simp) (by simp) (by simp) (by simp)).mono ?_
    rintro e w5 ⟨hW, hbk⟩
    have HW := hidden hW
    have c0 : w5.cell? ⟨w.heap.size, 0, none⟩ = some (.int .i64 t) := (cell_kept hbk 0).trans hHeld.1
    have c1 : w5.cell? ⟨w.heap.size, 1, none⟩ = some (.slice av ys.length cv) := (cell_kept hbk 1).trans hHeld.2
    obtain ⟨g5, c5, fp5, rfl, _⟩ := hW
    clear hHeld hbk
    go_wp2_with fail
    refine hK.out _ _ ⟨c0, c1⟩ (fun hHeld => ?_)
    clear hK K
    refine held_t 10 hHeld ?_
    refine wpAnyH_done (by kernel_rfl) ?_ _
    clear hHeld
    go_wp2
    go_ret
    rw [HPT.out]
    exact HW.out
  · obtain ⟨g, hg⟩ : ∃ g, ad0 = ⟨g, 0, none⟩ := by
      rcases HD.out.1 with ⟨h1, _⟩ | ⟨b, _, _, _, h1, _⟩
      · rw [hbd] at h1; simp at h1
      · rw [hbd] at h1; simp only [List.cons.injEq, Value.slice.injEq, Option.some.injEq, and_true] at h1; exact ⟨b, h1.1⟩
    subst hg
    subst hbd
    obtain ⟨cs, fps, s1, s2, s3, s4, s5, s6⟩ := row_seg D2.out
    have hq : g ∉ fps.flatten ∧ fps.flatten.Nodup ∧ g ∈ fd ∧ ∀ b ∈ fps.flatten, b ∈ fd := by
      have hn := D2.out.2; rw [s2] at hn ⊢; rw [List.nodup_cons] at hn; exact ⟨hn.1, hn.2, List.mem_cons_self, fun b hb => List.mem_cons_of_mem _ hb⟩
    obtain ⟨q1, q2, q3, q4⟩ := hq
    have S4 := hidden s4
    have S6 := hidden s6
    have ON := hidden (wr_one q2 s3 s5)
    have lt1 : (ds.take k).length = k := by rw [List.length_take]; omega
    clear s4 s5 s6 s2
    have c4 : (ds.length : Int) ≤ (cd : Int) := by omega
    have d1 : (k : Int) ≤ (cd : Int) := by omega
    have d0 : (0 : Int) ≤ (k : Int) := by omega
    cases r
    · have hh : k ≤ ds.length := by
        omega
      have hpt : put8 ds (t, ys) = ds.take k ++ [(t, ys)] ++ ds.drop (k) := HPT.out
      clear HPT
      have HPT := hidden hpt
      clear hpt hp
      have d2 : (k : Int) ≤ (ds.length : Int) := by omega
      obtain ⟨ad, had, hads⟩ : ∃ ad : Addr, (if cd = k then some (⟨g, 0, none⟩ : Addr) else some ⟨g, k * 2, none⟩) = some ad ∧ (ad = ⟨g, k * 2, none⟩ ∨ (ad = ⟨g, 0, none⟩ ∧ ds.length = k)) := by
        split
        · exact ⟨_, rfl, .inr ⟨rfl, by omega⟩⟩
        · exact ⟨_, rfl, .inl rfl⟩
      have hab : ad.block = g := by rcases hads with h | h; rw [h]; rw [h.1]
      go_wp2_with fail
      refine wp_region_held_drew (S := fun w' => w'.cell? ⟨w.heap.size, 0, none⟩ = some (.int .i64 t) ∧ w'.cell? ⟨w.heap.size, 1, none⟩ = some (.slice av ys.length cv)) (by kernel_rfl) ?_ (fun hHeld => ?_)
      · exact ⟨c0, c1⟩
      refine held_t 0 hHeld ?_
      refine held_t 1 hHeld ?_
      refine held_t 2 hHeld ?_
      refine held_t 3 hHeld ?_
      refine held_t 5 hHeld ?_
      refine held_t 6 hHeld ?_
      refine held_t 7 hHeld ?_
      have BN := new_below w2 (.cells #[.int .i64 t, .slice av ys.length cv] 65)
      refine held_one (i := 4) (by kernel_rfl) rfl (by kernel_rfl) (fun K hK => ?_)
      go_simp
      clear hHeld
      refine hK.out _ _ ?_ (fun hHeld => ?_)
      · exact ⟨(BN.cell (p := ⟨w.heap.size, 0, none⟩) zX2).trans c0, (BN.cell (p := ⟨w.heap.size, 1, none⟩) zX2).trans c1⟩
      clear hK K
      refine held_one (i := 8) (by kernel_rfl) rfl (by kernel_rfl) (fun K hK => ?_)
      go_simp
      clear hHeld
      have BN2 := Below.andThen BN (new_below (w2.alloc (.cells #[.int .i64 t, .slice av ys.length cv] 65)) (.cells #[.slice (some ⟨g, 0, none⟩) k cd, .slice (some ⟨w2.heap.size, 0, none⟩) 1 1, .slice (some ad) (ds.length - (k)) (cd - (k))] 62))
      refine hK.out _ _ ?_ (fun hHeld => ?_)
      · exact ⟨(BN2.cell (p := ⟨w.heap.size, 0, none⟩) zX2).trans c0, (BN2.cell (p := ⟨w.heap.size, 1, none⟩) zX2).trans c1⟩
      clear hK K
      have N1 : Box ((w2.alloc (.cells #[.int .i64 t, .slice av ys.length cv] 65)).alloc (.cells #[.slice (some ⟨g, 0, none⟩) k cd, .slice (some ⟨w2.heap.size, 0, none⟩) 1 1, .slice (some ad) (ds.length - (k)) (cd - (k))] 62)) w2.heap.size 65 #[.int .i64 t, .slice av ys.length cv] := (Box.new w2 _ _).alloc _
      have N2 := Box.new (w2.alloc (.cells #[.int .i64 t, .slice av ys.length cv] 65)) 62 #[.slice (some ⟨g, 0, none⟩) k cd, .slice (some ⟨w2.heap.size, 0, none⟩) 1 1, .slice (some ad) (ds.length - (k)) (cd - (k))]
      rw [World.size_alloc] at N2
      have zN2 := N2.lt
      refine held_one (i := 9) (by kernel_rfl) rfl (by kernel_rfl) (fun K hK => ?_)
      go_simp
      generalize (w2.alloc (.cells #[.int .i64 t, .slice av ys.length cv] 65)).alloc (.cells #[.slice (some ⟨g, 0, none⟩) k cd, .slice (some ⟨w2.heap.size, 0, none⟩) 1 1, .slice (some ad) (ds.length - (k)) (cd - (k))] 62) = w4 at BN2 N1 N2 zN2 hHeld ⊢
      have z4 := BN2.size
      have zI : w2.heap.size + 1 < w4.drew.heap.size := zN2
      have B4 : Below w.heap.size w w4.drew := (HB2.out.trans (BN2.mono zB)).drew
      have T4 : Turned [] w2 w4.drew := Turned.ofBelow BN2.drew []
      have EL := seg_elems s3 s1 S6.out k (by omega)
      have EH := seg_elems s3 s1 S6.out (k) hh
      have gl : g < w2.heap.size := by have := hlw g q3; omega
      have s0 : ∀ b ∈ (fps.take k).flatten, b ∈ fps.flatten := fun b hb => (runs_sub (List.take_sublist _ _)).subset hb
      have s9 : ∀ b ∈ (fps.drop (k)).flatten, b ∈ fps.flatten := fun b hb => (runs_sub (List.drop_sublist _ _)).subset hb
      have R1 : ∀ j u, (cs.take (k * 2))[j]? = some u → w4.drew.cell? ((⟨g, 0, none⟩ : Addr).add j) = some u := fun j u hu => by
        rw [List.getElem?_take] at hu
        split at hu
        · have h2 := (cell_kept (T4.block g gl (by simp)) j).trans (S4.out j u hu)
          by_cases hk0 : j = 0
          · subst hk0; simpa [Addr.add] using h2
          · simpa [Addr.add, hk0] using h2
        · simp at hu
      have R2 : ∀ j u, (cs.drop ((k) * 2))[j]? = some u → w4.drew.cell? (ad.add j) = some u := fun j u hu => by
        rcases hads with rfl | ⟨_, h0⟩
        · rw [List.getElem?_drop] at hu
          have h2 := (cell_kept (T4.block g gl (by simp)) _).trans (S4.out _ u hu)
          by_cases hk0 : j = 0
          · subst hk0; simpa [Addr.add] using h2
          · simpa [Addr.add, hk0] using h2
        · rw [List.getElem?_eq_none (by rw [List.length_drop, s3, h0]; simp)] at hu
          simp at hu
      refine (with_cat w w4.drew t ys av cv fe fd ⟨some ⟨g, 0, none⟩, cd, cs.take (k * 2), ds.take k, fps.take k⟩ ⟨some ad, cd - (k), cs.drop ((k) * 2), ds.drop (k), fps.drop (k)⟩ B4 w2.heap.size (by rw [lt1]; exact N2.cell 0) (N2.cell 1) (by rw [List.length_drop]; exact N2.cell 2) (by omega) zI (N1.cell 0) (N1.cell 1) (E2.out.kept T4 (by simp)) ⟨EL.1.kept T4 (by simp), fun u hu => ON.out u (List.mem_of_mem_take hu), .inr ⟨_, rfl, R1⟩⟩ ⟨EH.2.kept T4 (by simp), fun u hu => ON.out u (List.mem_of_mem_drop hu), .inr ⟨_, rfl, R2⟩⟩ (nodup3 q2 HE.out.2 (fun b hb hm => HDIS.out b hb (q4 b hm)) (by omega)) hlw hle (fun b hb => q4 b (s0 b hb)) (fun b hb => q4 b (s9 b hb)) (fun ad0 h => by cases h; exact ⟨q3, fun hm => HDIS.out g hm q3, fun hm => q1 (s0 g hm), fun hm => q1 (s9 g hm)⟩) (fun ad0 h => by cases h; rw [hab]; exact ⟨q3, fun hm => HDIS.out g hm q3, fun hm => q1 (s0 g hm), fun hm => q1 (s9 g hm)⟩) (by simp; omega)).mono ?_
      clear R1 R2 EL EH s0 s9
      rintro e w5 ⟨hW, hbk⟩
      have HW := hidden hW
      have c0 : w5.cell? ⟨w.heap.size, 0, none⟩ = some (.int .i64 t) := (cell_kept hbk 0).trans hHeld.1
      have c1 : w5.cell? ⟨w.heap.size, 1, none⟩ = some (.slice av ys.length cv) := (cell_kept hbk 1).trans hHeld.2
      obtain ⟨g5, c5, fp5, rfl, _⟩ := hW
      dsimp only at HW ⊢
      generalize (ds.take k ++ [(t, ys)] ++ ds.drop (k)).length = LL at HW ⊢
      clear hHeld hbk
      go_wp2_with fail
      refine hK.out _ _ ⟨c0, c1⟩ (fun hHeld => ?_)
      clear hK K
      refine held_t 10 hHeld ?_
      refine wpAnyH_done (by kernel_rfl) ?_ _
      clear hHeld
      go_wp2
      go_ret
      rw [HPT.out]
      exact HW.out
    · have hh : k + 1 ≤ ds.length := by
        obtain ⟨_, d, hkd, _⟩ := hp.hit; have := (List.getElem?_eq_some_iff.1 hkd).1; omega
      have hpt : put8 ds (t, ys) = ds.take k ++ [(t, ys)] ++ ds.drop (k + 1) := HPT.out
      clear HPT
      have HPT := hidden hpt
      clear hpt hp
      have cw : IntKind.i64.wrap ((k : Int) + 1) = (k : Int) + 1 := IntWalk.i64_in _ (by omega)
      have ct : ((k : Int) + 1).toNat = k + 1 := by omega
      have d3 : (0 : Int) ≤ (k : Int) + 1 := by omega
      have d2 : (k : Int) + 1 ≤ (ds.length : Int) := by omega
      obtain ⟨ad, had, hads⟩ : ∃ ad : Addr, (if cd = k + 1 then some (⟨g, 0, none⟩ : Addr) else some ⟨g, (k + 1) * 2, none⟩) = some ad ∧ (ad = ⟨g, (k + 1) * 2, none⟩ ∨ (ad = ⟨g, 0, none⟩ ∧ ds.length = k + 1)) := by
        split
        · exact ⟨_, rfl, .inr ⟨rfl, by omega⟩⟩
        · exact ⟨_, rfl, .inl rfl⟩
      have hab : ad.block = g := by rcases hads with h | h; rw [h]; rw [h.1]
      go_wp2_with fail
      refine wp_region_held_drew (S := fun w' => w'.cell? ⟨w.heap.size, 0, none⟩ = some (.int .i64 t) ∧ w'.cell? ⟨w.heap.size, 1, none⟩ = some (.slice av ys.length cv)) (by kernel_rfl) ?_ (fun hHeld => ?_)
      · exact ⟨c0, c1⟩
      refine held_t 0 hHeld ?_
      refine held_t 1 hHeld ?_
      refine held_t 2 hHeld ?_
      refine held_t 3 hHeld ?_
      refine held_t 5 hHeld ?_
      refine held_t 6 hHeld ?_
      refine held_t 7 hHeld ?_
      have BN := new_below w2 (.cells #[.int .i64 t, .slice av ys.length cv] 65)
      refine held_one (i := 4) (by kernel_rfl) rfl (by kernel_rfl) (fun K hK => ?_)
      go_simp
      clear hHeld
      refine hK.out _ _ ?_ (fun hHeld => ?_)
      · exact ⟨(BN.cell (p := ⟨w.heap.size, 0, none⟩) zX2).trans c0, (BN.cell (p := ⟨w.heap.size, 1, none⟩) zX2).trans c1⟩
      clear hK K
      refine held_one (i := 8) (by kernel_rfl) rfl (by kernel_rfl) (fun K hK => ?_)
      go_simp
      clear hHeld
      have BN2 := Below.andThen BN (new_below (w2.alloc (.cells #[.int .i64 t, .slice av ys.length cv] 65)) (.cells #[.slice (some ⟨g, 0, none⟩) k cd, .slice (some ⟨w2.heap.size, 0, none⟩) 1 1, .slice (some ad) (ds.length - (k + 1)) (cd - (k + 1))] 62))
      refine hK.out _ _ ?_ (fun hHeld => ?_)
      · exact ⟨(BN2.cell (p := ⟨w.heap.size, 0, none⟩) zX2).trans c0, (BN2.cell (p := ⟨w.heap.size, 1, none⟩) zX2).trans c1⟩
      clear hK K
      have N1 : Box ((w2.alloc (.cells #[.int .i64 t, .slice av ys.length cv] 65)).alloc (.cells #[.slice (some ⟨g, 0, none⟩) k cd, .slice (some ⟨w2.heap.size, 0, none⟩) 1 1, .slice (some ad) (ds.length - (k + 1)) (cd - (k + 1))] 62)) w2.heap.size 65 #[.int .i64 t, .slice av ys.length cv] := (Box.new w2 _ _).alloc _
      have N2 := Box.new (w2.alloc (.cells #[.int .i64 t, .slice av ys.length cv] 65)) 62 #[.slice (some ⟨g, 0, none⟩) k cd, .slice (some ⟨w2.heap.size, 0, none⟩) 1 1, .slice (some ad) (ds.length - (k + 1)) (cd - (k + 1))]
      rw [World.size_alloc] at N2
      have zN2 := N2.lt
      refine held_one (i := 9) (by kernel_rfl) rfl (by kernel_rfl) (fun K hK => ?_)
      go_simp
      generalize (w2.alloc (.cells #[.int .i64 t, .slice av ys.length cv] 65)).alloc (.cells #[.slice (some ⟨g, 0, none⟩) k cd, .slice (some ⟨w2.heap.size, 0, none⟩) 1 1, .slice (some ad) (ds.length - (k + 1)) (cd - (k + 1))] 62) = w4 at BN2 N1 N2 zN2 hHeld ⊢
      have z4 := BN2.size
      have zI : w2.heap.size + 1 < w4.drew.heap.size := zN2
      have B4 : Below w.heap.size w w4.drew := (HB2.out.trans (BN2.mono zB)).drew
      have T4 : Turned [] w2 w4.drew := Turned.ofBelow BN2.drew []
      have EL := seg_elems s3 s1 S6.out k (by omega)
      have EH := seg_elems s3 s1 S6.out (k + 1) hh
      have gl : g < w2.heap.size := by have := hlw g q3; omega
      have s0 : ∀ b ∈ (fps.take k).flatten, b ∈ fps.flatten := fun b hb => (runs_sub (List.take_sublist _ _)).subset hb
      have s9 : ∀ b ∈ (fps.drop (k + 1)).flatten, b ∈ fps.flatten := fun b hb => (runs_sub (List.drop_sublist _ _)).subset hb
      have R1 : ∀ j u, (cs.take (k * 2))[j]? = some u → w4.drew.cell? ((⟨g, 0, none⟩ : Addr).add j) = some u := fun j u hu => by
        rw [List.getElem?_take] at hu
        split at hu
        · have h2 := (cell_kept (T4.block g gl (by simp)) j).trans (S4.out j u hu)
          by_cases hk0 : j = 0
          · subst hk0; simpa [Addr.add] using h2
          · simpa [Addr.add, hk0] using h2
        · simp at hu
      have R2 : ∀ j u, (cs.drop ((k + 1) * 2))[j]? = some u → w4.drew.cell? (ad.add j) = some u := fun j u hu => by
        rcases hads with rfl | ⟨_, h0⟩
        · rw [List.getElem?_drop] at hu
          have h2 := (cell_kept (T4.block g gl (by simp)) _).trans (S4.out _ u hu)
          by_cases hk0 : j = 0
          · subst hk0; simpa [Addr.add] using h2
          · simpa [Addr.add, hk0] using h2
        · rw [List.getElem?_eq_none (by rw [List.length_drop, s3, h0]; simp)] at hu
          simp at hu
      refine (with_cat w w4.drew t ys av cv fe fd ⟨some ⟨g, 0, none⟩, cd, cs.take (k * 2), ds.take k, fps.take k⟩ ⟨some ad, cd - (k + 1), cs.drop ((k + 1) * 2), ds.drop (k + 1), fps.drop (k + 1)⟩ B4 w2.heap.size (by rw [lt1]; exact N2.cell 0) (N2.cell 1) (by rw [List.length_drop]; exact N2.cell 2) (by omega) zI (N1.cell 0) (N1.cell 1) (E2.out.kept T4 (by simp)) ⟨EL.1.kept T4 (by simp), fun u hu => ON.out u (List.mem_of_mem_take hu), .inr ⟨_, rfl, R1⟩⟩ ⟨EH.2.kept T4 (by simp), fun u hu => ON.out u (List.mem_of_mem_drop hu), .inr ⟨_, rfl, R2⟩⟩ (nodup3 q2 HE.out.2 (fun b hb hm => HDIS.out b hb (q4 b hm)) (by omega)) hlw hle (fun b hb => q4 b (s0 b hb)) (fun b hb => q4 b (s9 b hb)) (fun ad0 h => by cases h; exact ⟨q3, fun hm => HDIS.out g hm q3, fun hm => q1 (s0 g hm), fun hm => q1 (s9 g hm)⟩) (fun ad0 h => by cases h; rw [hab]; exact ⟨q3, fun hm => HDIS.out g hm q3, fun hm => q1 (s0 g hm), fun hm => q1 (s9 g hm)⟩) (by simp; omega)).mono ?_
      clear R1 R2 EL EH s0 s9
      rintro e w5 ⟨hW, hbk⟩
      have HW := hidden hW
      have c0 : w5.cell? ⟨w.heap.size, 0, none⟩ = some (.int .i64 t) := (cell_kept hbk 0).trans hHeld.1
      have c1 : w5.cell? ⟨w.heap.size, 1, none⟩ = some (.slice av ys.length cv) := (cell_kept hbk 1).trans hHeld.2
      obtain ⟨g5, c5, fp5, rfl, _⟩ := hW
      dsimp only at HW ⊢
      generalize (ds.take k ++ [(t, ys)] ++ ds.drop (k + 1)).length = LL at HW ⊢
      clear hHeld hbk
      go_wp2_with fail
      refine hK.out _ _ ⟨c0, c1⟩ (fun hHeld => ?_)
      clear hK K
      refine held_t 10 hHeld ?_
      refine wpAnyH_done (by kernel_rfl) ?_ _
      clear hHeld
      go_wp2
      go_ret
      rw [HPT.out]
      exact HW.out

end Go.Proofs.YtjmjianlcoleaaaGreat

/-
  A region in which two operations may come up next: a plain lemma. No condition.
-/
namespace Go.Proofs.YtjmjianlcoleaaaGreat
open Go.RowKit

section
variable {P : Program} {ops : Array Oper} {Q : Exit → Act → World → Prop} {S : World → Prop}
/-- Two may come up next. -/
theorem held_two {i i' : Nat} {o o' : Oper} {fuel : Nat} {l : Array Bool} {a : Act} {w : World} {tl tl' : List Oper} (hr : Region.ready .any ops l = [i, i']) (ho : ops.toList.drop i = o :: tl) (ho' : ops.toList.drop i' = o' :: tl') (hw : Region.wanted o (yielded ops a.tmps) = true) (hw' : Region.wanted o' (yielded ops a.tmps) = true)
    (h : ∀ K' : Act → World → Prop, Shut (∀ a w, S w → (S w → wpAnyH P .any ops Q S fuel (l.setIfInBounds i true) a w) → K' a w) → Oper.wp P o a w K' Q)
    (h' : ∀ K' : Act → World → Prop, Shut (∀ a w, S w → (S w → wpAnyH P .any ops Q S fuel (l.setIfInBounds i' true) a w) → K' a w) → Oper.wp P o' a w K' Q) : wpAnyH P .any ops Q S (fuel + 1) l a w :=
  wpAnyH_ready hr (by simp) (AllReadyH.cons (op_at ho) (fun K' hK => by rw [if_pos hw]; exact h K' hK) (AllReadyH.cons (op_at ho') (fun K' hK => by rw [if_pos hw']; exact h' K' hK) AllReadyH.nil))
end

end Go.Proofs.YtjmjianlcoleaaaGreat

/-
  The program's SetBlock walked. Condition: the array weighs at most 2097152.
-/
namespace Go.Proofs.YtjmjianlcoleaaaGreat
open Go.RowKit

set_option linter.unusedSimpArgs false in
set_option maxRecDepth 20000 in
set_option maxHeartbeats 3200000 in
theorem implSetBlock_any (w : World) (E F G : TypeId) (x : ArrN) (am ad : Option Addr) (nm cm nd cd : Nat) (ms : List MemD) (ds : List EntD) (h0 : (tMemS E F).Rd w [.slice am nm cm] ms) (h1 : (tWrS G).Rd w [.slice ad nd cd] ds) (hw : wtArr ms ds ≤ 2097152) (b n : Int) :
    Calls Tryz.prog 13 #[.agg #[.int .i64 x.id, .int .i64 x.n, .int .i64 x.s, .slice am nm cm, .int .i64 x.lost, .int .i64 x.built, .int .i64 x.seq, .int .i64 x.tail, .int .i64 x.gen, .slice ad nd cd, .int .i64 x.fuse, .bool x.down, .bool x.broken], .int .i64 b, .int .i64 n] w fun e w' => ArrOutC w w' e (x, ms) (set8K x ms ds b n) (set8O x ms ds b n) := by
  obtain ⟨rfl, _⟩ := row_length h0
  obtain ⟨rfl, _⟩ := row_length h1
  have hA := (new_below w (.cells #[.int .i64 x.id, .int .i64 x.n, .int .i64 x.s, .slice am ms.length cm, .int .i64 x.lost, .int .i64 x.built, .int .i64 x.seq, .int .i64 x.tail, .int .i64 x.gen, .slice ad ds.length cd, .int .i64 x.fuse, .bool x.down, .bool x.broken] 35)).alloc (by simp) (.cells #[.int .i64 0, .int .i64 0, .int .i64 0, .slice none 0 0, .int .i64 0, .int .i64 0, .int .i64 0, .int .i64 0, .int .i64 0, .slice none 0 0, .int .i64 0, .bool false, .bool false] 35)
  have X0 : Box ((w.alloc (.cells #[.int .i64 x.id, .int .i64 x.n, .int .i64 x.s, .slice am ms.length cm, .int .i64 x.lost, .int .i64 x.built, .int .i64 x.seq, .int .i64 x.tail, .int .i64 x.gen, .slice ad ds.length cd, .int .i64 x.fuse, .bool x.down, .bool x.broken] 35)).alloc (.cells #[.int .i64 0, .int .i64 0, .int .i64 0, .slice none 0 0, .int .i64 0, .int .i64 0, .int .i64 0, .int .i64 0, .int .i64 0, .slice none 0 0, .int .i64 0, .bool false, .bool false] 35)) w.heap.size 35 #[.int .i64 x.id, .int .i64 x.n, .int .i64 x.s, .slice am ms.length cm, .int .i64 x.lost, .int .i64 x.built, .int .i64 x.seq, .int .i64 x.tail, .int .i64 x.gen, .slice ad ds.length cd, .int .i64 x.fuse, .bool x.down, .bool x.broken] := (Box.new w _ _).alloc _
  have R0 := Box.new (w.alloc (.cells #[.int .i64 x.id, .int .i64 x.n, .int .i64 x.s, .slice am ms.length cm, .int .i64 x.lost, .int .i64 x.built, .int .i64 x.seq, .int .i64 x.tail, .int .i64 x.gen, .slice ad ds.length cd, .int .i64 x.fuse, .bool x.down, .bool x.broken] 35)) 35 #[.int .i64 0, .int .i64 0, .int .i64 0, .slice none 0 0, .int .i64 0, .int .i64 0, .int .i64 0, .int .i64 0, .int .i64 0, .slice none 0 0, .int .i64 0, .bool false, .bool false]
  rw [World.size_alloc] at R0
  have zX := X0.lt
  have zR := R0.lt
  have r0 := h0.below hA
  have r1 := h1.below hA
  have hzW : ((w.alloc (.cells #[.int .i64 x.id, .int .i64 x.n, .int .i64 x.s, .slice am ms.length cm, .int .i64 x.lost, .int .i64 x.built, .int .i64 x.seq, .int .i64 x.tail, .int .i64 x.gen, .slice ad ds.length cd, .int .i64 x.fuse, .bool x.down, .bool x.broken] 35)).alloc (.cells #[.int .i64 0, .int .i64 0, .int .i64 0, .slice none 0 0, .int .i64 0, .int .i64 0, .int .i64 0, .int .i64 0, .int .i64 0, .slice none 0 0, .int .i64 0, .bool false, .bool false] 35)).heap.size = w.heap.size + 1 + 1 := by simp
  obtain ⟨k0, k1, k2, k3, k4, k5, k6, k7, k8, k9, k10, k11, k12⟩ := X0.cells13
  go_enter Tryz.func13, Tryz.ntmps13
  go_wp2_with fail
  generalize (w.alloc (.cells #[.int .i64 x.id, .int .i64 x.n, .int .i64 x.s, .slice am ms.length cm, .int .i64 x.lost, .int .i64 x.built, .int .i64 x.seq, .int .i64 x.tail, .int .i64 x.gen, .slice ad ds.length cd, .int .i64 x.fuse, .bool x.down, .bool x.broken] 35)).alloc (.cells #[.int .i64 0, .int .i64 0, .int .i64 0, .slice none 0 0, .int .i64 0, .int .i64 0, .int .i64 0, .int .i64 0, .int .i64 0, .slice none 0 0, .int .i64 0, .bool false, .bool false] 35) = W at hA X0 R0 zX zR r0 r1 hzW k0 k1 k2 k3 k4 k5 k6 k7 k8 k9 k10 k11 k12 ⊢
  obtain ⟨BR, hBR⟩ : ∃ BR, w.heap.size + 1 = BR := ⟨_, rfl⟩
  rw [hBR] at R0 zR hzW ⊢
  have q1 : w.heap.size + 1 ≤ BR ∧ BR ≤ w.heap.size + 1 := by omega
  clear hBR
  have hzW2 : BR + 1 ≤ W.heap.size ∧ W.heap.size ≤ BR + 1 := by omega
  clear hzW
  refine' with_keyO (G := _) (A := Outed W x ms ds) ?main (fun key => ?use)
  case use =>
    refine wp_region_held_drew (S := fun w' => w'.cell? ⟨w.heap.size, 0, none⟩ = some (.int .i64 x.id) ∧ w'.cell? ⟨w.heap.size, 1, none⟩ = some (.int .i64 x.n) ∧ w'.cell? ⟨w.heap.size, 2, none⟩ = some (.int .i64 x.s) ∧ w'.cell? ⟨w.heap.size, 3, none⟩ = some (.slice am ms.length cm) ∧ w'.cell? ⟨w.heap.size, 4, none⟩ = some (.int .i64 x.lost) ∧ w'.cell? ⟨w.heap.size, 5, none⟩ = some (.int .i64 x.built) ∧ w'.cell? ⟨w.heap.size, 6, none⟩ = some (.int .i64 x.seq) ∧ w'.cell? ⟨w.heap.size, 7, none⟩ = some (.int .i64 x.tail) ∧ w'.cell? ⟨w.heap.size, 8, none⟩ = some (.int .i64 x.gen) ∧ w'.cell? ⟨w.heap.size, 9, none⟩ = some (.slice ad ds.length cd) ∧ w'.cell? ⟨w.heap.size, 10, none⟩ = some (.int .i64 x.fuse) ∧ w'.cell? ⟨w.heap.size, 11, none⟩ = some (.bool x.down) ∧ w'.cell? ⟨w.heap.size, 12, none⟩ = some (.bool x.broken)) (by kernel_rfl) ?_ (fun hHeld => ?_)
    · exact ⟨k0, k1, k2, k3, k4, k5, k6, k7, k8, k9, k10, k11, k12⟩
    refine held_t 0 hHeld ?_
    refine held_t 2 hHeld ?_
    refine held_t 3 hHeld ?_
    refine held_t 4 hHeld ?_
    have HBW := hidden (Below.refl W.heap.size W).drew
    refine held_two (i := 1) (i' := 6) (by kernel_rfl) rfl rfl (by kernel_rfl) (by kernel_rfl) (fun K hK => ?_) (fun K hK => ?_)
    · skip
      go_simp
      refine (copyArr_any _ E F G x _ _ _ _ _ _ ms ds (r0.below HBW.out) (r1.below HBW.out) hw).mono ?_
      rintro e w1 ⟨bm, cm1, bd, cd1, m, rfl, om, od, zm, zm2, b1⟩
      have z1 := b1.size
      have H1 := hidden (Below.andThen HBW.out b1)
      have OM1 := hidden om
      have OD1 := hidden od
      clear om od b1
      clear hHeld
      go_wp2_with fail
      refine hK.out _ _ ⟨((H1.out).cell (p := ⟨w.heap.size, 0, none⟩) zX).trans k0, ((H1.out).cell (p := ⟨w.heap.size, 1, none⟩) zX).trans k1, ((H1.out).cell (p := ⟨w.heap.size, 2, none⟩) zX).trans k2, ((H1.out).cell (p := ⟨w.heap.size, 3, none⟩) zX).trans k3, ((H1.out).cell (p := ⟨w.heap.size, 4, none⟩) zX).trans k4, ((H1.out).cell (p := ⟨w.heap.size, 5, none⟩) zX).trans k5, ((H1.out).cell (p := ⟨w.heap.size, 6, none⟩) zX).trans k6, ((H1.out).cell (p := ⟨w.heap.size, 7, none⟩) zX).trans k7, ((H1.out).cell (p := ⟨w.heap.size, 8, none⟩) zX).trans k8, ((H1.out).cell (p := ⟨w.heap.size, 9, none⟩) zX).trans k9, ((H1.out).cell (p := ⟨w.heap.size, 10, none⟩) zX).trans k10, ((H1.out).cell (p := ⟨w.heap.size, 11, none⟩) zX).trans k11, ((H1.out).cell (p := ⟨w.heap.size, 12, none⟩) zX).trans k12⟩ (fun hHeld => ?_)
      clear hK K
      refine held_two (i := 5) (i' := 6) (by kernel_rfl) rfl rfl (by kernel_rfl) (by kernel_rfl) (fun K hK => ?_) (fun K hK => ?_)
      · skip
        go_simp
        refine (implStripeOf_any _ x.n x.s b).mono ?_
        rintro e w2 ⟨rfl, b2⟩
        have z2 := b2.size
        have H2 := hidden (Below.andThen H1.out b2)
        have OM2 := hidden (OM1.out.below b2)
        have OD2 := hidden ((OD1.out.below b2).widen (Nat.le_refl _) z2)
        clear b2
        clear hHeld
        go_wp2_with fail
        refine hK.out _ _ ⟨((H2.out).cell (p := ⟨w.heap.size, 0, none⟩) zX).trans k0, ((H2.out).cell (p := ⟨w.heap.size, 1, none⟩) zX).trans k1, ((H2.out).cell (p := ⟨w.heap.size, 2, none⟩) zX).trans k2, ((H2.out).cell (p := ⟨w.heap.size, 3, none⟩) zX).trans k3, ((H2.out).cell (p := ⟨w.heap.size, 4, none⟩) zX).trans k4, ((H2.out).cell (p := ⟨w.heap.size, 5, none⟩) zX).trans k5, ((H2.out).cell (p := ⟨w.heap.size, 6, none⟩) zX).trans k6, ((H2.out).cell (p := ⟨w.heap.size, 7, none⟩) zX).trans k7, ((H2.out).cell (p := ⟨w.heap.size, 8, none⟩) zX).trans k8, ((H2.out).cell (p := ⟨w.heap.size, 9, none⟩) zX).trans k9, ((H2.out).cell (p := ⟨w.heap.size, 10, none⟩) zX).trans k10, ((H2.out).cell (p := ⟨w.heap.size, 11, none⟩) zX).trans k11, ((H2.out).cell (p := ⟨w.heap.size, 12, none⟩) zX).trans k12⟩ (fun hHeld => ?_)
        clear hK K
        refine held_one (i := 6) (by kernel_rfl) rfl (by kernel_rfl) (fun K hK => ?_)
        go_simp
        clear hHeld
        refine hK.out _ _ ⟨(((Below.andThen H2.out (new_below w2 (.cells #[.int .i64 0, .int .i64 0, .int .i64 0, .slice none 0 0, .int .i64 0, .int .i64 0, .int .i64 0, .int .i64 0, .int .i64 0, .slice none 0 0, .int .i64 0, .bool false, .bool false] 35)))).cell (p := ⟨w.heap.size, 0, none⟩) zX).trans k0, (((Below.andThen H2.out (new_below w2 (.cells #[.int .i64 0, .int .i64 0, .int .i64 0, .slice none 0 0, .int .i64 0, .int .i64 0, .int .i64 0, .int .i64 0, .int .i64 0, .slice none 0 0, .int .i64 0, .bool false, .bool false] 35)))).cell (p := ⟨w.heap.size, 1, none⟩) zX).trans k1, (((Below.andThen H2.out (new_below w2 (.cells #[.int .i64 0, .int .i64 0, .int .i64 0, .slice none 0 0, .int .i64 0, .int .i64 0, .int .i64 0, .int .i64 0, .int .i64 0, .slice none 0 0, .int .i64 0, .bool false, .bool false] 35)))).cell (p := ⟨w.heap.size, 2, none⟩) zX).trans k2, (((Below.andThen H2.out (new_below w2 (.cells #[.int .i64 0, .int .i64 0, .int .i64 0, .slice none 0 0, .int .i64 0, .int .i64 0, .int .i64 0, .int .i64 0, .int .i64 0, .slice none 0 0, .int .i64 0, .bool false, .bool false] 35)))).cell (p := ⟨w.heap.size, 3, none⟩) zX).trans k3, (((Below.andThen H2.out (new_below w2 (.cells #[.int .i64 0, .int .i64 0, .int .i64 0, .slice none 0 0, .int .i64 0, .int .i64 0, .int .i64 0, .int .i64 0, .int .i64 0, .slice none 0 0, .int .i64 0, .bool false, .bool false] 35)))).cell (p := ⟨w.heap.size, 4, none⟩) zX).trans k4, (((Below.andThen H2.out (new_below w2 (.cells #[.int .i64 0, .int .i64 0, .int .i64 0, .slice none 0 0, .int .i64 0, .int .i64 0, .int .i64 0, .int .i64 0, .int .i64 0, .slice none 0 0, .int .i64 0, .bool false, .bool false] 35)))).cell (p := ⟨w.heap.size, 5, none⟩) zX).trans k5, (((Below.andThen H2.out (new_below w2 (.cells #[.int .i64 0, .int .i64 0, .int .i64 0, .slice none 0 0, .int .i64 0, .int .i64 0, .int .i64 0, .int .i64 0, .int .i64 0, .slice none 0 0, .int .i64 0, .bool false, .bool false] 35)))).cell (p := ⟨w.heap.size, 6, none⟩) zX).trans k6, (((Below.andThen H2.out (new_below w2 (.cells #[.int .i64 0, .int .i64 0, .int .i64 0, .slice none 0 0, .int .i64 0, .int .i64 0, .int .i64 0, .int .i64 0, .int .i64 0, .slice none 0 0, .int .i64 0, .bool false, .bool false] 35)))).cell (p := ⟨w.heap.size, 7, none⟩) zX).trans k7, (((Below.andThen H2.out (new_below w2 (.cells #[.int .i64 0, .int .i64 0, .int .i64 0, .slice none 0 0, .int .i64 0, .int .i64 0, .int .i64 0, .int .i64 0, .int .i64 0, .slice none 0 0, .int .i64 0, .bool false, .bool false] 35)))).cell (p := ⟨w.heap.size, 8, none⟩) zX).trans k8, (((Below.andThen H2.out (new_below w2 (.cells #[.int .i64 0, .int .i64 0, .int .i64 0, .slice none 0 0, .int .i64 0, .int .i64 0, .int .i64 0, .int .i64 0, .int .i64 0, .slice none 0 0, .int .i64 0, .bool false, .bool false] 35)))).cell (p := ⟨w.heap.size, 9, none⟩) zX).trans k9, (((Below.andThen H2.out (new_below w2 (.cells #[.int .i64 0, .int .i64 0, .int .i64 0, .slice none 0 0, .int .i64 0, .int .i64 0, .int .i64 0, .int .i64 0, .int .i64 0, .slice none 0 0, .int .i64 0, .bool false, .bool false] 35)))).cell (p := ⟨w.heap.size, 10, none⟩) zX).trans k10, (((Below.andThen H2.out (new_below w2 (.cells #[.int .i64 0, .int .i64 0, .int .i64 0, .slice none 0 0, .int .i64 0, .int .i64 0, .int .i64 0, .int .i64 0, .int .i64 0, .slice none 0 0, .int .i64 0, .bool false, .bool false] 35)))).cell (p := ⟨w.heap.size, 11, none⟩) zX).trans k11, (((Below.andThen H2.out (new_below w2 (.cells #[.int .i64 0, .int .i64 0, .int .i64 0, .slice none 0 0, .int .i64 0, .int .i64 0, .int .i64 0, .int .i64 0, .int .i64 0, .slice none 0 0, .int .i64 0, .bool false, .bool false] 35)))).cell (p := ⟨w.heap.size, 12, none⟩) zX).trans k12⟩ (fun hHeld => ?_)
        clear hK K
        have XO := hidden (Box.new w2 35 #[.int .i64 0, .int .i64 0, .int .i64 0, .slice none 0 0, .int .i64 0, .int .i64 0, .int .i64 0, .int .i64 0, .int .i64 0, .slice none 0 0, .int .i64 0, .bool false, .bool false])
        refine held_one (i := 7) (by kernel_rfl) rfl (by kernel_rfl) (fun K hK => ?_)
        obtain ⟨u0, u1, u2, u3, u4, u5, u6, u7, u8, u9, u10, u11, u12⟩ := XO.out.cells13
        have fz := XO.out.frozen
        go_simp
        clear hHeld
        refine hK.out _ _ ⟨(((Below.andThen H2.out (new_below w2 (.cells #[.int .i64 x.id, .int .i64 x.n, .int .i64 x.s, .slice bm ms.length cm1, .int .i64 x.lost, .int .i64 x.built, .int .i64 x.seq, .int .i64 x.tail, .int .i64 x.gen, .slice bd ds.length cd1, .int .i64 x.fuse, .bool x.down, .bool x.broken] 35)))).cell (p := ⟨w.heap.size, 0, none⟩) zX).trans k0, (((Below.andThen H2.out (new_below w2 (.cells #[.int .i64 x.id, .int .i64 x.n, .int .i64 x.s, .slice bm ms.length cm1, .int .i64 x.lost, .int .i64 x.built, .int .i64 x.seq, .int .i64 x.tail, .int .i64 x.gen, .slice bd ds.length cd1, .int .i64 x.fuse, .bool x.down, .bool x.broken] 35)))).cell (p := ⟨w.heap.size, 1, none⟩) zX).trans k1, (((Below.andThen H2.out (new_below w2 (.cells #[.int .i64 x.id, .int .i64 x.n, .int .i64 x.s, .slice bm ms.length cm1, .int .i64 x.lost, .int .i64 x.built, .int .i64 x.seq, .int .i64 x.tail, .int .i64 x.gen, .slice bd ds.length cd1, .int .i64 x.fuse, .bool x.down, .bool x.broken] 35)))).cell (p := ⟨w.heap.size, 2, none⟩) zX).trans k2, (((Below.andThen H2.out (new_below w2 (.cells #[.int .i64 x.id, .int .i64 x.n, .int .i64 x.s, .slice bm ms.length cm1, .int .i64 x.lost, .int .i64 x.built, .int .i64 x.seq, .int .i64 x.tail, .int .i64 x.gen, .slice bd ds.length cd1, .int .i64 x.fuse, .bool x.down, .bool x.broken] 35)))).cell (p := ⟨w.heap.size, 3, none⟩) zX).trans k3, (((Below.andThen H2.out (new_below w2 (.cells #[.int .i64 x.id, .int .i64 x.n, .int .i64 x.s, .slice bm ms.length cm1, .int .i64 x.lost, .int .i64 x.built, .int .i64 x.seq, .int .i64 x.tail, .int .i64 x.gen, .slice bd ds.length cd1, .int .i64 x.fuse, .bool x.down, .bool x.broken] 35)))).cell (p := ⟨w.heap.size, 4, none⟩) zX).trans k4, (((Below.andThen H2.out (new_below w2 (.cells #[.int .i64 x.id, .int .i64 x.n, .int .i64 x.s, .slice bm ms.length cm1, .int .i64 x.lost, .int .i64 x.built, .int .i64 x.seq, .int .i64 x.tail, .int .i64 x.gen, .slice bd ds.length cd1, .int .i64 x.fuse, .bool x.down, .bool x.broken] 35)))).cell (p := ⟨w.heap.size, 5, none⟩) zX).trans k5, (((Below.andThen H2.out (new_below w2 (.cells #[.int .i64 x.id, .int .i64 x.n, .int .i64 x.s, .slice bm ms.length cm1, .int .i64 x.lost, .int .i64 x.built, .int .i64 x.seq, .int .i64 x.tail, .int .i64 x.gen, .slice bd ds.length cd1, .int .i64 x.fuse, .bool x.down, .bool x.broken] 35)))).cell (p := ⟨w.heap.size, 6, none⟩) zX).trans k6, (((Below.andThen H2.out (new_below w2 (.cells #[.int .i64 x.id, .int .i64 x.n, .int .i64 x.s, .slice bm ms.length cm1, .int .i64 x.lost, .int .i64 x.built, .int .i64 x.seq, .int .i64 x.tail, .int .i64 x.gen, .slice bd ds.length cd1, .int .i64 x.fuse, .bool x.down, .bool x.broken] 35)))).cell (p := ⟨w.heap.size, 7, none⟩) zX).trans k7, (((Below.andThen H2.out (new_below w2 (.cells #[.int .i64 x.id, .int .i64 x.n, .int .i64 x.s, .slice bm ms.length cm1, .int .i64 x.lost, .int .i64 x.built, .int .i64 x.seq, .int .i64 x.tail, .int .i64 x.gen, .slice bd ds.length cd1, .int .i64 x.fuse, .bool x.down, .bool x.broken] 35)))).cell (p := ⟨w.heap.size, 8, none⟩) zX).trans k8, (((Below.andThen H2.out (new_below w2 (.cells #[.int .i64 x.id, .int .i64 x.n, .int .i64 x.s, .slice bm ms.length cm1, .int .i64 x.lost, .int .i64 x.built, .int .i64 x.seq, .int .i64 x.tail, .int .i64 x.gen, .slice bd ds.length cd1, .int .i64 x.fuse, .bool x.down, .bool x.broken] 35)))).cell (p := ⟨w.heap.size, 9, none⟩) zX).trans k9, (((Below.andThen H2.out (new_below w2 (.cells #[.int .i64 x.id, .int .i64 x.n, .int .i64 x.s, .slice bm ms.length cm1, .int .i64 x.lost, .int .i64 x.built, .int .i64 x.seq, .int .i64 x.tail, .int .i64 x.gen, .slice bd ds.length cd1, .int .i64 x.fuse, .bool x.down, .bool x.broken] 35)))).cell (p := ⟨w.heap.size, 10, none⟩) zX).trans k10, (((Below.andThen H2.out (new_below w2 (.cells #[.int .i64 x.id, .int .i64 x.n, .int .i64 x.s, .slice bm ms.length cm1, .int .i64 x.lost, .int .i64 x.built, .int .i64 x.seq, .int .i64 x.tail, .int .i64 x.gen, .slice bd ds.length cd1, .int .i64 x.fuse, .bool x.down, .bool x.broken] 35)))).cell (p := ⟨w.heap.size, 11, none⟩) zX).trans k11, (((Below.andThen H2.out (new_below w2 (.cells #[.int .i64 x.id, .int .i64 x.n, .int .i64 x.s, .slice bm ms.length cm1, .int .i64 x.lost, .int .i64 x.built, .int .i64 x.seq, .int .i64 x.tail, .int .i64 x.gen, .slice bd ds.length cd1, .int .i64 x.fuse, .bool x.down, .bool x.broken] 35)))).cell (p := ⟨w.heap.size, 12, none⟩) zX).trans k12⟩ (fun hHeld => ?_)
        clear hK K
        have HF : Hid (Outed W x ms ds (w2.heap.size) (w2.alloc (.cells #[.int .i64 x.id, .int .i64 x.n, .int .i64 x.s, .slice bm ms.length cm1, .int .i64 x.lost, .int .i64 x.built, .int .i64 x.seq, .int .i64 x.tail, .int .i64 x.gen, .slice bd ds.length cd1, .int .i64 x.fuse, .bool x.down, .bool x.broken] 35)) bm cm1 bd cd1) := outed_new H2.out OM2.out OD2.out (HBW.out.size) zm (by omega)
        unfold Hid at HF
        replace HF := hidden HF
        refine held_t 8 hHeld ?_
        refine wpAnyH_done (by kernel_rfl) ?_ _
        clear hHeld
        generalize w2.alloc (.cells #[.int .i64 x.id, .int .i64 x.n, .int .i64 x.s, .slice bm ms.length cm1, .int .i64 x.lost, .int .i64 x.built, .int .i64 x.seq, .int .i64 x.tail, .int .i64 x.gen, .slice bd ds.length cd1, .int .i64 x.fuse, .bool x.down, .bool x.broken] 35) = WN at HF ⊢
        generalize w2.heap.size = BN at HF ⊢
        exact key.out BN WN bm cm1 bd cd1 HF.out
      · skip
        go_simp
        clear hHeld
        have HA1 := hidden (Below.andThen H1.out (new_below w1 (.cells #[.int .i64 0, .int .i64 0, .int .i64 0, .slice none 0 0, .int .i64 0, .int .i64 0, .int .i64 0, .int .i64 0, .int .i64 0, .slice none 0 0, .int .i64 0, .bool false, .bool false] 35)))
        refine hK.out _ _ ⟨((HA1.out).cell (p := ⟨w.heap.size, 0, none⟩) zX).trans k0, ((HA1.out).cell (p := ⟨w.heap.size, 1, none⟩) zX).trans k1, ((HA1.out).cell (p := ⟨w.heap.size, 2, none⟩) zX).trans k2, ((HA1.out).cell (p := ⟨w.heap.size, 3, none⟩) zX).trans k3, ((HA1.out).cell (p := ⟨w.heap.size, 4, none⟩) zX).trans k4, ((HA1.out).cell (p := ⟨w.heap.size, 5, none⟩) zX).trans k5, ((HA1.out).cell (p := ⟨w.heap.size, 6, none⟩) zX).trans k6, ((HA1.out).cell (p := ⟨w.heap.size, 7, none⟩) zX).trans k7, ((HA1.out).cell (p := ⟨w.heap.size, 8, none⟩) zX).trans k8, ((HA1.out).cell (p := ⟨w.heap.size, 9, none⟩) zX).trans k9, ((HA1.out).cell (p := ⟨w.heap.size, 10, none⟩) zX).trans k10, ((HA1.out).cell (p := ⟨w.heap.size, 11, none⟩) zX).trans k11, ((HA1.out).cell (p := ⟨w.heap.size, 12, none⟩) zX).trans k12⟩ (fun hHeld => ?_)
        clear hK K
        have XA := hidden (Box.new w1 35 #[.int .i64 0, .int .i64 0, .int .i64 0, .slice none 0 0, .int .i64 0, .int .i64 0, .int .i64 0, .int .i64 0, .int .i64 0, .slice none 0 0, .int .i64 0, .bool false, .bool false])
        have OMA := hidden (OM1.out.below (new_below w1 (.cells #[.int .i64 0, .int .i64 0, .int .i64 0, .slice none 0 0, .int .i64 0, .int .i64 0, .int .i64 0, .int .i64 0, .int .i64 0, .slice none 0 0, .int .i64 0, .bool false, .bool false] 35)))
        have ODA := hidden (OD1.out.below (new_below w1 (.cells #[.int .i64 0, .int .i64 0, .int .i64 0, .slice none 0 0, .int .i64 0, .int .i64 0, .int .i64 0, .int .i64 0, .int .i64 0, .slice none 0 0, .int .i64 0, .bool false, .bool false] 35)))
        have zA : w1.heap.size + 1 ≤ (w1.alloc (.cells #[.int .i64 0, .int .i64 0, .int .i64 0, .slice none 0 0, .int .i64 0, .int .i64 0, .int .i64 0, .int .i64 0, .int .i64 0, .slice none 0 0, .int .i64 0, .bool false, .bool false] 35)).heap.size := by simp
        refine held_one (i := 5) (by kernel_rfl) rfl (by kernel_rfl) (fun K hK => ?_)
        go_simp
        refine (implStripeOf_any _ x.n x.s b).mono ?_
        rintro e w2 ⟨rfl, b2⟩
        have z2 := b2.size
        have H2 := hidden (Below.andThen HA1.out b2)
        have XO := hidden (XA.out.below b2 XA.out.lt)
        have OM2 := hidden (OMA.out.below b2)
        have OD2 := hidden (ODA.out.below b2)
        clear b2
        clear hHeld
        go_wp2_with fail
        refine hK.out _ _ ⟨((H2.out).cell (p := ⟨w.heap.size, 0, none⟩) zX).trans k0, ((H2.out).cell (p := ⟨w.heap.size, 1, none⟩) zX).trans k1, ((H2.out).cell (p := ⟨w.heap.size, 2, none⟩) zX).trans k2, ((H2.out).cell (p := ⟨w.heap.size, 3, none⟩) zX).trans k3, ((H2.out).cell (p := ⟨w.heap.size, 4, none⟩) zX).trans k4, ((H2.out).cell (p := ⟨w.heap.size, 5, none⟩) zX).trans k5, ((H2.out).cell (p := ⟨w.heap.size, 6, none⟩) zX).trans k6, ((H2.out).cell (p := ⟨w.heap.size, 7, none⟩) zX).trans k7, ((H2.out).cell (p := ⟨w.heap.size, 8, none⟩) zX).trans k8, ((H2.out).cell (p := ⟨w.heap.size, 9, none⟩) zX).trans k9, ((H2.out).cell (p := ⟨w.heap.size, 10, none⟩) zX).trans k10, ((H2.out).cell (p := ⟨w.heap.size, 11, none⟩) zX).trans k11, ((H2.out).cell (p := ⟨w.heap.size, 12, none⟩) zX).trans k12⟩ (fun hHeld => ?_)
        clear hK K
        refine held_one (i := 7) (by kernel_rfl) rfl (by kernel_rfl) (fun K hK => ?_)
        obtain ⟨u0, u1, u2, u3, u4, u5, u6, u7, u8, u9, u10, u11, u12⟩ := XO.out.cells13
        have fz := XO.out.frozen
        go_simp
        clear hHeld
        have HP := hidden (outed_store (x := x) H2.out H1.out.size XO.out OM2.out OD2.out HBW.out.size zm (by omega) (.inr (Nat.le_refl _)))
        simp only [puts] at HP
        refine hK.out _ _ ⟨((HP.out.1).cell (p := ⟨w.heap.size, 0, none⟩) zX).trans k0, ((HP.out.1).cell (p := ⟨w.heap.size, 1, none⟩) zX).trans k1, ((HP.out.1).cell (p := ⟨w.heap.size, 2, none⟩) zX).trans k2, ((HP.out.1).cell (p := ⟨w.heap.size, 3, none⟩) zX).trans k3, ((HP.out.1).cell (p := ⟨w.heap.size, 4, none⟩) zX).trans k4, ((HP.out.1).cell (p := ⟨w.heap.size, 5, none⟩) zX).trans k5, ((HP.out.1).cell (p := ⟨w.heap.size, 6, none⟩) zX).trans k6, ((HP.out.1).cell (p := ⟨w.heap.size, 7, none⟩) zX).trans k7, ((HP.out.1).cell (p := ⟨w.heap.size, 8, none⟩) zX).trans k8, ((HP.out.1).cell (p := ⟨w.heap.size, 9, none⟩) zX).trans k9, ((HP.out.1).cell (p := ⟨w.heap.size, 10, none⟩) zX).trans k10, ((HP.out.1).cell (p := ⟨w.heap.size, 11, none⟩) zX).trans k11, ((HP.out.1).cell (p := ⟨w.heap.size, 12, none⟩) zX).trans k12⟩ (fun hHeld => ?_)
        clear hK K
        have HF : Hid (Outed W x ms ds (w1.heap.size) ((((((((((((((w2).setCell ⟨w1.heap.size, 0, none⟩ (.int .i64 x.id)).setCell ⟨w1.heap.size, 1, none⟩ (.int .i64 x.n)).setCell ⟨w1.heap.size, 2, none⟩ (.int .i64 x.s)).setCell ⟨w1.heap.size, 3, none⟩ (.slice bm ms.length cm1)).setCell ⟨w1.heap.size, 4, none⟩ (.int .i64 x.lost)).setCell ⟨w1.heap.size, 5, none⟩ (.int .i64 x.built)).setCell ⟨w1.heap.size, 6, none⟩ (.int .i64 x.seq)).setCell ⟨w1.heap.size, 7, none⟩ (.int .i64 x.tail)).setCell ⟨w1.heap.size, 8, none⟩ (.int .i64 x.gen)).setCell ⟨w1.heap.size, 9, none⟩ (.slice bd ds.length cd1)).setCell ⟨w1.heap.size, 10, none⟩ (.int .i64 x.fuse)).setCell ⟨w1.heap.size, 11, none⟩ (.bool x.down)).setCell ⟨w1.heap.size, 12, none⟩ (.bool x.broken)) bm cm1 bd cd1) := HP.out
        unfold Hid at HF
        replace HF := hidden HF
        refine held_t 8 hHeld ?_
        refine wpAnyH_done (by kernel_rfl) ?_ _
        clear hHeld
        generalize (((((((((((((w2).setCell ⟨w1.heap.size, 0, none⟩ (.int .i64 x.id)).setCell ⟨w1.heap.size, 1, none⟩ (.int .i64 x.n)).setCell ⟨w1.heap.size, 2, none⟩ (.int .i64 x.s)).setCell ⟨w1.heap.size, 3, none⟩ (.slice bm ms.length cm1)).setCell ⟨w1.heap.size, 4, none⟩ (.int .i64 x.lost)).setCell ⟨w1.heap.size, 5, none⟩ (.int .i64 x.built)).setCell ⟨w1.heap.size, 6, none⟩ (.int .i64 x.seq)).setCell ⟨w1.heap.size, 7, none⟩ (.int .i64 x.tail)).setCell ⟨w1.heap.size, 8, none⟩ (.int .i64 x.gen)).setCell ⟨w1.heap.size, 9, none⟩ (.slice bd ds.length cd1)).setCell ⟨w1.heap.size, 10, none⟩ (.int .i64 x.fuse)).setCell ⟨w1.heap.size, 11, none⟩ (.bool x.down)).setCell ⟨w1.heap.size, 12, none⟩ (.bool x.broken) = WN at HF ⊢
        generalize w1.heap.size = BN at HF ⊢
        exact key.out BN WN bm cm1 bd cd1 HF.out
    · skip
      go_simp
      clear hHeld
      have HA1 := hidden (new_below W (.cells #[.int .i64 0, .int .i64 0, .int .i64 0, .slice none 0 0, .int .i64 0, .int .i64 0, .int .i64 0, .int .i64 0, .int .i64 0, .slice none 0 0, .int .i64 0, .bool false, .bool false] 35)).drew
      refine hK.out _ _ ⟨((HA1.out).cell (p := ⟨w.heap.size, 0, none⟩) zX).trans k0, ((HA1.out).cell (p := ⟨w.heap.size, 1, none⟩) zX).trans k1, ((HA1.out).cell (p := ⟨w.heap.size, 2, none⟩) zX).trans k2, ((HA1.out).cell (p := ⟨w.heap.size, 3, none⟩) zX).trans k3, ((HA1.out).cell (p := ⟨w.heap.size, 4, none⟩) zX).trans k4, ((HA1.out).cell (p := ⟨w.heap.size, 5, none⟩) zX).trans k5, ((HA1.out).cell (p := ⟨w.heap.size, 6, none⟩) zX).trans k6, ((HA1.out).cell (p := ⟨w.heap.size, 7, none⟩) zX).trans k7, ((HA1.out).cell (p := ⟨w.heap.size, 8, none⟩) zX).trans k8, ((HA1.out).cell (p := ⟨w.heap.size, 9, none⟩) zX).trans k9, ((HA1.out).cell (p := ⟨w.heap.size, 10, none⟩) zX).trans k10, ((HA1.out).cell (p := ⟨w.heap.size, 11, none⟩) zX).trans k11, ((HA1.out).cell (p := ⟨w.heap.size, 12, none⟩) zX).trans k12⟩ (fun hHeld => ?_)
      clear hK K
      have XA : Hid (Box (W.alloc (.cells #[.int .i64 0, .int .i64 0, .int .i64 0, .slice none 0 0, .int .i64 0, .int .i64 0, .int .i64 0, .int .i64 0, .int .i64 0, .slice none 0 0, .int .i64 0, .bool false, .bool false] 35)).drew W.heap.size 35 #[.int .i64 0, .int .i64 0, .int .i64 0, .slice none 0 0, .int .i64 0, .int .i64 0, .int .i64 0, .int .i64 0, .int .i64 0, .slice none 0 0, .int .i64 0, .bool false, .bool false]) := Box.new W 35 #[.int .i64 0, .int .i64 0, .int .i64 0, .slice none 0 0, .int .i64 0, .int .i64 0, .int .i64 0, .int .i64 0, .int .i64 0, .slice none 0 0, .int .i64 0, .bool false, .bool false]
      have zA : W.heap.size + 1 ≤ (W.alloc (.cells #[.int .i64 0, .int .i64 0, .int .i64 0, .slice none 0 0, .int .i64 0, .int .i64 0, .int .i64 0, .int .i64 0, .int .i64 0, .slice none 0 0, .int .i64 0, .bool false, .bool false] 35)).drew.heap.size := by simp
      refine held_one (i := 1) (by kernel_rfl) rfl (by kernel_rfl) (fun K hK => ?_)
      go_simp
      refine (copyArr_any _ E F G x _ _ _ _ _ _ ms ds (r0.below HA1.out) (r1.below HA1.out) hw).mono ?_
      rintro e w1 ⟨bm, cm1, bd, cd1, m, rfl, om, od, zm, zm2, b1⟩
      have z1 := b1.size
      have H1 := hidden (Below.andThen HA1.out b1)
      have OM1 := hidden om
      have OD1 := hidden od
      have XB := hidden (XA.out.below b1 XA.out.lt)
      clear om od b1
      clear hHeld
      go_wp2_with fail
      refine hK.out _ _ ⟨((H1.out).cell (p := ⟨w.heap.size, 0, none⟩) zX).trans k0, ((H1.out).cell (p := ⟨w.heap.size, 1, none⟩) zX).trans k1, ((H1.out).cell (p := ⟨w.heap.size, 2, none⟩) zX).trans k2, ((H1.out).cell (p := ⟨w.heap.size, 3, none⟩) zX).trans k3, ((H1.out).cell (p := ⟨w.heap.size, 4, none⟩) zX).trans k4, ((H1.out).cell (p := ⟨w.heap.size, 5, none⟩) zX).trans k5, ((H1.out).cell (p := ⟨w.heap.size, 6, none⟩) zX).trans k6, ((H1.out).cell (p := ⟨w.heap.size, 7, none⟩) zX).trans k7, ((H1.out).cell (p := ⟨w.heap.size, 8, none⟩) zX).trans k8, ((H1.out).cell (p := ⟨w.heap.size, 9, none⟩) zX).trans k9, ((H1.out).cell (p := ⟨w.heap.size, 10, none⟩) zX).trans k10, ((H1.out).cell (p := ⟨w.heap.size, 11, none⟩) zX).trans k11, ((H1.out).cell (p := ⟨w.heap.size, 12, none⟩) zX).trans k12⟩ (fun hHeld => ?_)
      clear hK K
      refine held_one (i := 5) (by kernel_rfl) rfl (by kernel_rfl) (fun K hK => ?_)
      go_simp
      refine (implStripeOf_any _ x.n x.s b).mono ?_
      rintro e w2 ⟨rfl, b2⟩
      have z2 := b2.size
      have H2 := hidden (Below.andThen H1.out b2)
      have XO := hidden (XB.out.below b2 XB.out.lt)
      have OM2 := hidden (OM1.out.below b2)
      have OD2 := hidden (OD1.out.below b2)
      clear b2
      clear hHeld
      go_wp2_with fail
      refine hK.out _ _ ⟨((H2.out).cell (p := ⟨w.heap.size, 0, none⟩) zX).trans k0, ((H2.out).cell (p := ⟨w.heap.size, 1, none⟩) zX).trans k1, ((H2.out).cell (p := ⟨w.heap.size, 2, none⟩) zX).trans k2, ((H2.out).cell (p := ⟨w.heap.size, 3, none⟩) zX).trans k3, ((H2.out).cell (p := ⟨w.heap.size, 4, none⟩) zX).trans k4, ((H2.out).cell (p := ⟨w.heap.size, 5, none⟩) zX).trans k5, ((H2.out).cell (p := ⟨w.heap.size, 6, none⟩) zX).trans k6, ((H2.out).cell (p := ⟨w.heap.size, 7, none⟩) zX).trans k7, ((H2.out).cell (p := ⟨w.heap.size, 8, none⟩) zX).trans k8, ((H2.out).cell (p := ⟨w.heap.size, 9, none⟩) zX).trans k9, ((H2.out).cell (p := ⟨w.heap.size, 10, none⟩) zX).trans k10, ((H2.out).cell (p := ⟨w.heap.size, 11, none⟩) zX).trans k11, ((H2.out).cell (p := ⟨w.heap.size, 12, none⟩) zX).trans k12⟩ (fun hHeld => ?_)
      clear hK K
      refine held_one (i := 7) (by kernel_rfl) rfl (by kernel_rfl) (fun K hK => ?_)
      obtain ⟨u0, u1, u2, u3, u4, u5, u6, u7, u8, u9, u10, u11, u12⟩ := XO.out.cells13
      have fz := XO.out.frozen
      go_simp
      clear hHeld
      have HP := hidden (outed_store (x := x) H2.out (Nat.le_refl _) XO.out OM2.out OD2.out (by omega) zm (by omega) (.inl (by omega)))
      simp only [puts] at HP
      refine hK.out _ _ ⟨((HP.out.1).cell (p := ⟨w.heap.size, 0, none⟩) zX).trans k0, ((HP.out.1).cell (p := ⟨w.heap.size, 1, none⟩) zX).trans k1, ((HP.out.1).cell (p := ⟨w.heap.size, 2, none⟩) zX).trans k2, ((HP.out.1).cell (p := ⟨w.heap.size, 3, none⟩) zX).trans k3, ((HP.out.1).cell (p := ⟨w.heap.size, 4, none⟩) zX).trans k4, ((HP.out.1).cell (p := ⟨w.heap.size, 5, none⟩) zX).trans k5, ((HP.out.1).cell (p := ⟨w.heap.size, 6, none⟩) zX).trans k6, ((HP.out.1).cell (p := ⟨w.heap.size, 7, none⟩) zX).trans k7, ((HP.out.1).cell (p := ⟨w.heap.size, 8, none⟩) zX).trans k8, ((HP.out.1).cell (p := ⟨w.heap.size, 9, none⟩) zX).trans k9, ((HP.out.1).cell (p := ⟨w.heap.size, 10, none⟩) zX).trans k10, ((HP.out.1).cell (p := ⟨w.heap.size, 11, none⟩) zX).trans k11, ((HP.out.1).cell (p := ⟨w.heap.size, 12, none⟩) zX).trans k12⟩ (fun hHeld => ?_)
      clear hK K
      have HF : Hid (Outed W x ms ds (W.heap.size) ((((((((((((((w2).setCell ⟨W.heap.size, 0, none⟩ (.int .i64 x.id)).setCell ⟨W.heap.size, 1, none⟩ (.int .i64 x.n)).setCell ⟨W.heap.size, 2, none⟩ (.int .i64 x.s)).setCell ⟨W.heap.size, 3, none⟩ (.slice bm ms.length cm1)).setCell ⟨W.heap.size, 4, none⟩ (.int .i64 x.lost)).setCell ⟨W.heap.size, 5, none⟩ (.int .i64 x.built)).setCell ⟨W.heap.size, 6, none⟩ (.int .i64 x.seq)).setCell ⟨W.heap.size, 7, none⟩ (.int .i64 x.tail)).setCell ⟨W.heap.size, 8, none⟩ (.int .i64 x.gen)).setCell ⟨W.heap.size, 9, none⟩ (.slice bd ds.length cd1)).setCell ⟨W.heap.size, 10, none⟩ (.int .i64 x.fuse)).setCell ⟨W.heap.size, 11, none⟩ (.bool x.down)).setCell ⟨W.heap.size, 12, none⟩ (.bool x.broken)) bm cm1 bd cd1) := HP.out
      unfold Hid at HF
      replace HF := hidden HF
      refine held_t 8 hHeld ?_
      refine wpAnyH_done (by kernel_rfl) ?_ _
      clear hHeld
      generalize (((((((((((((w2).setCell ⟨W.heap.size, 0, none⟩ (.int .i64 x.id)).setCell ⟨W.heap.size, 1, none⟩ (.int .i64 x.n)).setCell ⟨W.heap.size, 2, none⟩ (.int .i64 x.s)).setCell ⟨W.heap.size, 3, none⟩ (.slice bm ms.length cm1)).setCell ⟨W.heap.size, 4, none⟩ (.int .i64 x.lost)).setCell ⟨W.heap.size, 5, none⟩ (.int .i64 x.built)).setCell ⟨W.heap.size, 6, none⟩ (.int .i64 x.seq)).setCell ⟨W.heap.size, 7, none⟩ (.int .i64 x.tail)).setCell ⟨W.heap.size, 8, none⟩ (.int .i64 x.gen)).setCell ⟨W.heap.size, 9, none⟩ (.slice bd ds.length cd1)).setCell ⟨W.heap.size, 10, none⟩ (.int .i64 x.fuse)).setCell ⟨W.heap.size, 11, none⟩ (.bool x.down)).setCell ⟨W.heap.size, 12, none⟩ (.bool x.broken) = WN at HF ⊢
      generalize W.heap.size = BN at HF ⊢
      exact key.out BN WN bm cm1 bd cd1 HF.out
  case main =>
    have zB0 : BR < W.heap.size := zR
    intro B w3 bm cm1 bd cd1 HO3
    obtain ⟨b3, zB, Y3, fm, fd, m3, d3, hr3, rm3, rd3⟩ := HO3
    have X3 := X0.below b3 zX
    have R3 := R0.below b3 zR
    have p0 := r0.below b3
    have p1 := r1.below b3
    have B3 := Below.andThen hA b3
    have z3 := b3.size
    have A3 : ArrAt w3 B x ms ds fm fd := ⟨bm, bd, cm1, cd1, Y3, m3, d3, hr3, fun hm => (rm3 _ hm).2 rfl, fun hm => (rd3 _ hm).2 rfl⟩
    have rm2 : ∀ b ∈ fm, W.heap.size ≤ b := fun b hb => (rm3 b hb).1
    have rd2 : ∀ b ∈ fd, W.heap.size ≤ b := fun b hb => (rd3 b hb).1
    clear k0 k1 k2 k3 k4 k5 k6 k7 k8 k9 k10 k11 k12 X0 R0 r0 r1 b3 hA Y3 m3 d3 hr3 rm3 rd3
    have zX3 := X3.lt
    obtain ⟨k0, k1, k2, k3, k4, k5, k6, k7, k8, k9, k10, k11, k12⟩ := X3.cells13
    go_wp2_with fail
    refine (stripeCode_any _ E F G x _ _ _ _ _ _ ms ds (stripeN x.n x.s b) p0 p1 hw).mono ?_
    rintro e w4 ⟨rfl, b4⟩
    rw [code_same b]
    have A4 := A3.below b4
    have X4 := X3.below b4 zX3
    have R4 := R3.below b4 R3.lt
    have B4 := Below.andThen B3 b4
    have z4 := b4.size
    have lB4 := A4.lt
    have lm4 := A4.ltm
    have lR4 := R4.lt
    have p40 := p0.below b4
    have p41 := p1.below b4
    clear k0 k1 k2 k3 k4 k5 k6 k7 k8 k9 k10 k11 k12 X3 A3 R3 B3 p0 p1 b4
    have HK : Hid (set8K x ms ds b n = if code8 x ms ds b = 0 then (if isW n = true then set8C x ms ds b else 3) else code8 x ms ds b) := rfl
    have HO8 : Hid (set8O x ms ds b n = if code8 x ms ds b = 0 ∧ isW n = true then setB8 x ms ds b n else ds) := rfl
    by_cases hc : code8 x ms ds b = 0
    · have HG := hidden (code_gb hc)
      have hl9 := asc_len (arr_asc HG.out.2.1)
      have hg := arr_geo HG.out.2.1
      obtain ⟨s1, s2, i1, i2⟩ := block_in hg HG.out.2.2.2
      have ht : inB (stripeN x.n x.s b) 0 (x.s - 1) = true := inB_iff.2 ⟨s1, s2⟩
      have hs100 : stripeN x.n x.s b ≤ 100 := by have := (geoB_iff.1 hg).2.2.2; omega
      have HDL := hidden (fun hk => dat8_len (s := stripeN x.n x.s b) HG.out.2.1 hk)
      have HSC : Hid (set8C x ms ds b = if ok8 x ms ds (stripeN x.n x.s b) = true then 0 else 5) := rfl
      have HSB : Hid (setB8 x ms ds b n = if ok8 x ms ds (stripeN x.n x.s b) = true then put8 ds (stripeN x.n x.s b, (dat8 x ms ds (stripeN x.n x.s b)).set (indexN x.n x.s b).toNat n) else ds) := rfl
      cases hn : isW n
      · have HV : Hid (set8K x ms ds b n = 3 ∧ set8O x ms ds b n = ds) := by unfold Hid; rw [HK.out, HO8.out, if_pos hc, if_neg (by simp [hn]), if_neg (by simp [hn])]; exact ⟨rfl, rfl⟩
        have HW1 : Hid (isW n = false) := hn
        rw [hc]
        clear hc hn HK HO8 X4 p40 p41
        go_wp2_with fail
        refine (isWord_any n _).mono ?_
        rintro e w5 ⟨rfl, hw5⟩
        subst w5
        rw [HW1.out]
        clear HW1
        obtain ⟨vm, vd, cvm, cvd, Yf, mf, df, hrf, r1f, r2f⟩ := A4
        have Y0 := Yf
        unfold arrC at Y0
        obtain ⟨t0, t1, t2, t3, t4, t5, t6, t7, t8, t9, t10, t11, t12⟩ := Y0.cells13
        obtain ⟨s0, s1, s2, s3, s4, s5, s6, s7, s8, s9, s10, s11, s12⟩ := R4.cells13
        have fz := R4.frozen
        have HO := hidden (arr_outC (y := x) (code := 3) (e := .returned (.tuple #[.agg (arrC x _ _), .int .i64 3])) (lo := BR + 1) B4 R4 rfl mf df hrf (fun b hb => by have := rm2 b hb; omega) (fun b hb => by have := rd2 b hb; omega) (by omega) (by omega))
        unfold arrC at HO
        simp only [puts] at HO
        clear Yf Y0 mf df R4 B4
        go_wp2
        refine bodyPost_ret (v := .tuple #[.agg #[.int .i64 x.id, .int .i64 x.n, .int .i64 x.s, .slice vm ms.length cvm, .int .i64 x.lost, .int .i64 x.built, .int .i64 x.seq, .int .i64 x.tail, .int .i64 x.gen, .slice vd ds.length cvd, .int .i64 x.fuse, .bool x.down, .bool x.broken], .int .i64 3]) (by simp [results, Tryz.results13, go_sem, s0, s1, s2, s3, s4, s5, s6, s7, s8, s9, s10, s11, s12]) rfl ?_
        rw [HV.out.1, HV.out.2]; exact HO.out
      · have HV0 : Hid (set8K x ms ds b n = set8C x ms ds b ∧ set8O x ms ds b n = setB8 x ms ds b n) := by unfold Hid; rw [HK.out, HO8.out, if_pos hc, if_pos hn, if_pos ⟨hc, hn⟩]; exact ⟨rfl, rfl⟩
        have HW1 : Hid (isW n = true) := hn
        rw [hc]
        clear hc hn HK HO8
        go_wp2_with fail
        refine (isWord_any n _).mono ?_
        rintro e w5 ⟨rfl, hw5⟩
        subst w5
        rw [HW1.out]
        clear HW1
        generalize hS : stripeN x.n x.s b = s at s1 s2 ht hs100 HDL HSC HSB ⊢
        clear hS
        obtain ⟨k0, k1, k2, k3, k4, k5, k6, k7, k8, k9, k10, k11, k12⟩ := X4.cells13
        go_wp2_with fail
        refine (dataNow_any _ E F G x _ _ _ _ _ _ ms ds s p40 p41 hw HG.out.2.1 ht).mono ?_
        rintro e w5 ⟨a5, l5, c5, rfl, o5, b5⟩
        have A5 := A4.below b5
        have X5 := X4.below b5 X4.lt
        have R5 := R4.below b5 R4.lt
        have B5 := Below.andThen B4 b5
        have z5 := b5.size
        clear k0 k1 k2 k3 k4 k5 k6 k7 k8 k9 k10 k11 k12 X4 A4 R4 B4 p40 p41 b5 ht
        cases hok : ok8 x ms ds s
        · have HV : Hid (set8K x ms ds b n = 5 ∧ set8O x ms ds b n = ds) := by unfold Hid; rw [HV0.out.1, HV0.out.2, HSC.out, HSB.out, hok]; exact ⟨rfl, rfl⟩
          clear hok o5 X5 HDL
          obtain ⟨vm, vd, cvm, cvd, Yf, mf, df, hrf, r1f, r2f⟩ := A5
          have Y0 := Yf
          unfold arrC at Y0
          obtain ⟨t0, t1, t2, t3, t4, t5, t6, t7, t8, t9, t10, t11, t12⟩ := Y0.cells13
          obtain ⟨s0, s1, s2, s3, s4, s5, s6, s7, s8, s9, s10, s11, s12⟩ := R5.cells13
          have fz := R5.frozen
          have HO := hidden (arr_outC (y := x) (code := 5) (e := .returned (.tuple #[.agg (arrC x _ _), .int .i64 5])) (lo := BR + 1) B5 R5 rfl mf df hrf (fun b hb => by have := rm2 b hb; omega) (fun b hb => by have := rd2 b hb; omega) (by omega) (by omega))
          unfold arrC at HO
          simp only [puts] at HO
          clear Yf Y0 mf df R5 B5
          go_wp2
          refine bodyPost_ret (v := .tuple #[.agg #[.int .i64 x.id, .int .i64 x.n, .int .i64 x.s, .slice vm ms.length cvm, .int .i64 x.lost, .int .i64 x.built, .int .i64 x.seq, .int .i64 x.tail, .int .i64 x.gen, .slice vd ds.length cvd, .int .i64 x.fuse, .bool x.down, .bool x.broken], .int .i64 5]) (by simp [results, Tryz.results13, go_sem, s0, s1, s2, s3, s4, s5, s6, s7, s8, s9, s10, s11, s12]) rfl ?_
          rw [HV.out.1, HV.out.2]; exact HO.out
        · have HV0 : Hid (set8K x ms ds b n = 0 ∧ set8O x ms ds b n = put8 ds (s, (dat8 x ms ds s).set (indexN x.n x.s b).toNat n)) := by unfold Hid; rw [HV0.out.1, HV0.out.2, HSC.out, HSB.out, hok]; exact ⟨rfl, rfl⟩
          have hlen := HDL.out hok
          clear hok HDL HSC HSB
          obtain ⟨rfl, _⟩ := row_length o5.rd
          obtain ⟨fe, me, re⟩ := o5.mine
          clear o5
          have zX5 := X5.lt
          obtain ⟨k0, k1, k2, k3, k4, k5, k6, k7, k8, k9, k10, k11, k12⟩ := X5.cells13
          go_wp2_with fail
          refine (implIndexOf_any _ x.n x.s b).mono ?_
          rintro e w6 ⟨rfl, b6⟩
          have A6 := A5.below b6
          have R6 := R5.below b6 R5.lt
          have B6 := Below.andThen B5 b6
          have z6 := b6.size
          have m6 := me.below b6
          clear k0 k1 k2 k3 k4 k5 k6 k7 k8 k9 k10 k11 k12 X5 A5 R5 B5 b6 me
          generalize indexN x.n x.s b = ix at i1 i2 HV0 ⊢
          obtain ⟨i, rfl⟩ := Int.eq_ofNat_of_zero_le i1
          rw [Int.toNat_natCast] at HV0
          generalize dat8 x ms ds s = zs at m6 hlen HV0 ⊢
          have hil : i < zs.length := by omega
          obtain ⟨g, rfl⟩ := row_head m6 (by omega)
          obtain ⟨⟨old, ho⟩, fz, hgf, fe', ms', rs'⟩ := row_set1 (t := intTy) (v := .int .i64 n) (x := n) (f := []) rfl m6 hil ⟨⟨rfl, rfl⟩, by simp⟩ (by simp)
          have i3 : (i : Int) < (zs.length : Int) := by omega
          have zg := (re g hgf).1
          have T7 : Turned fe w6 (w6.setCell ⟨g, i, none⟩ (.int .i64 n)) := Turned.setCell _ hgf
          have re2 : ∀ b ∈ fe', w4.heap.size ≤ b := fun b hb => by
            rcases rs' b hb with h | h
            · exact (re b h).1
            · simp at h
          have A7 := A6.kept T7 (fun hm => by have := (re _ hm).1; omega) (fun b hb hm => by have h1 := (re _ hm).1; have h2 := lm4.1 b hb; omega) (fun b hb hm => by have h1 := (re _ hm).1; have h2 := lm4.2 b hb; omega)
          have R7 := R6.turned T7 (fun hm => by have := (re _ hm).1; omega)
          have B7 : Below w.heap.size w (w6.setCell ⟨g, i, none⟩ (.int .i64 n)) := B6.setCell (by show w.heap.size ≤ g; omega) _
          obtain ⟨vm, vd, cvm, cvd, Y7, m7, d7, hr7, r17, r27⟩ := A7
          have NF : ∀ b ∈ fe', b ≠ B ∧ b ∉ fm ∧ b ∉ fd ∧ ¬ b = BR := fun b hb => by have h1 := re2 b hb; exact ⟨by omega, fun hm => by have := lm4.1 b hm; omega, fun hm => by have := lm4.2 b hm; omega, by omega⟩
          have HWI := hidden (with_any (w6.setCell ⟨g, i, none⟩ (.int .i64 n)) vd cvd ds fd d7 (arr_asc HG.out.2.1) s ⟨s1, hs100⟩ (some ⟨g, 0, none⟩) c5 (zs.set i n) fe' (by rw [List.length_set]; exact ms') (fun b hb => (NF b hb).2.2.1) (by omega))
          rw [List.length_set] at HWI
          have Y70 := Y7
          unfold arrC at Y70
          obtain ⟨y0, y1, y2, y3, y4, y5, y6, y7, y8, y9, y10, y11, y12⟩ := Y70.cells13
          clear Y70 A6 R6 B6 m6 ms' rs' T7 d7
          go_wp2_with fail
          generalize w6.setCell ⟨g, i, none⟩ (.int .i64 n) = w7 at Y7 m7 R7 B7 HWI y0 y1 y2 y3 y4 y5 y6 y7 y8 y9 y10 y11 y12 ⊢
          refine HWI.out.mono ?_
          rintro e w8 ⟨g8, c8, fp8, rfl, M8, N8, T8⟩
          generalize put8 ds (s, zs.set i n) = es at M8 HV0 ⊢
          have hBn : B ∉ fd ++ fe' := fun hm => by rcases List.mem_append.1 hm with h | h; exact r27 h; exact (NF _ h).1 rfl
          have lB7 := Y7.lt
          have Y8 := Y7.turned T8 hBn
          have fz8 := Y8.frozen
          have z7 := B7.size
          have z8 := T8.size
          have y9 : w8.cell? ⟨B, 9, none⟩ = some (.slice vd ds.length cvd) := Y8.cell 9
          have Yf : Box (w8.setCell ⟨B, 9, none⟩ (.slice (some ⟨g8, 0, none⟩) es.length c8)) B 35 (arrC x (.slice vm ms.length cvm) (.slice (some ⟨g8, 0, none⟩) es.length c8)) := by
            have := Y8.set 9 (.slice (some ⟨g8, 0, none⟩) es.length c8)
            unfold arrC at this ⊢
            simpa using this
          have TS : Turned [B] w8 (w8.setCell ⟨B, 9, none⟩ (.slice (some ⟨g8, 0, none⟩) es.length c8)) := Turned.setCell _ (by simp)
          have mf := (m7.kept T8 (fun b hb hm => by rcases List.mem_append.1 hm with h | h; exact hr7 b hb h; exact (NF b h).2.1 hb)).kept TS (fun b hb hm => by simp at hm; exact r17 (hm ▸ hb))
          have hB8 : B ∉ fp8 := fun hm => by rcases N8 _ hm with h | h | h; exact r27 h; exact (NF _ h).1 rfl; omega
          have df := M8.kept TS (fun b hb hm => by simp at hm; exact hB8 (hm ▸ hb))
          have lf7 := m7.lt
          have hrf : ∀ b ∈ fm, b ∉ fp8 := fun b hb hm => by rcases N8 _ hm with h | h | h; exact hr7 b hb h; exact (NF b h).2.1 hb; have := lf7 b hb; omega
          have R8 := R7.turned T8 (fun hm => by rcases List.mem_append.1 hm with h | h; have := rd2 _ h; omega; exact (NF _ h).2.2.2 rfl)
          have R9 := R8.turned TS (by simp; omega)
          have nb1 : ¬ BR = B := by omega
          have nb2 : ¬ B = BR := by omega
          have B9 : Below w.heap.size w (w8.setCell ⟨B, 9, none⟩ (.slice (some ⟨g8, 0, none⟩) es.length c8)) := (B7.trans ⟨T8.os, T8.tape, T8.output, T8.size, fun k hk => T8.block k (by omega) (fun hm => by rcases List.mem_append.1 hm with h | h; have := rd2 _ h; omega; have := re2 _ h; omega)⟩).setCell (by show w.heap.size ≤ B; omega) _
          have rd9 : ∀ b ∈ fp8, W.heap.size ≤ b := fun b hb => by rcases N8 b hb with h | h | h; exact rd2 b h; have := re2 b h; omega; omega
          unfold arrC at Y8
          clear y0 y1 y2 y3 y4 y5 y6 y7 y8 y9 y10 y11 y12 HWI Y7 m7 M8 N8 R7 B7 NF T8 TS
          have Y0 := Yf
          unfold arrC at Y0
          obtain ⟨t0, t1, t2, t3, t4, t5, t6, t7, t8, t9, t10, t11, t12⟩ := Y0.cells13
          obtain ⟨s0, s1, s2, s3, s4, s5, s6, s7, s8, s9, s10, s11, s12⟩ := R9.cells13
          have fz := R9.frozen
          have HO := hidden (arr_outC (y := x) (code := 0) (e := .returned (.tuple #[.agg (arrC x _ _), .int .i64 0])) (lo := BR + 1) B9 R9 rfl mf df hrf (fun b hb => by have := rm2 b hb; omega) (fun b hb => by have := rd9 b hb; omega) (by omega) (by omega))
          unfold arrC at HO
          simp only [puts] at HO
          clear Yf Y0 mf df R9 B9
          clear t0 t1 t2 t3 t4 t5 t6 t7 t8 t9 t10 t11 t12 s0 s1 s2 s3 s4 s5 s6 s7 s8 s9 s10 s11 s12 fz
          obtain ⟨t0, t1, t2, t3, t4, t5, t6, t7, t8, t9, t10, t11, t12⟩ := Y8.cells13
          obtain ⟨s0, s1, s2, s3, s4, s5, s6, s7, s8, s9, s10, s11, s12⟩ := R8.cells13
          have fz := R8.frozen
          clear Y8 R8
          go_wp2
          refine bodyPost_ret (v := .tuple #[.agg #[.int .i64 x.id, .int .i64 x.n, .int .i64 x.s, .slice vm ms.length cvm, .int .i64 x.lost, .int .i64 x.built, .int .i64 x.seq, .int .i64 x.tail, .int .i64 x.gen, .slice (some ⟨g8, 0, none⟩) es.length c8, .int .i64 x.fuse, .bool x.down, .bool x.broken], .int .i64 0]) (by simp [results, Tryz.results13, go_sem, s0, s1, s2, s3, s4, s5, s6, s7, s8, s9, s10, s11, s12]) rfl ?_
          rw [HV0.out.1, HV0.out.2]; exact HO.out
    · have HV : Hid (set8K x ms ds b n = code8 x ms ds b ∧ set8O x ms ds b n = ds) := by unfold Hid; rw [HK.out, HO8.out, if_neg hc, if_neg (fun h => hc h.1)]; exact ⟨rfl, rfl⟩
      have e0 : (code8 x ms ds b != 0) = true := by simpa using hc
      clear hc HK HO8 X4 p40 p41
      generalize code8 x ms ds b = q at e0 HV ⊢
      obtain ⟨vm, vd, cvm, cvd, Yf, mf, df, hrf, r1f, r2f⟩ := A4
      have Y0 := Yf
      unfold arrC at Y0
      obtain ⟨t0, t1, t2, t3, t4, t5, t6, t7, t8, t9, t10, t11, t12⟩ := Y0.cells13
      obtain ⟨s0, s1, s2, s3, s4, s5, s6, s7, s8, s9, s10, s11, s12⟩ := R4.cells13
      have fz := R4.frozen
      have HO := hidden (arr_outC (y := x) (code := q) (e := .returned (.tuple #[.agg (arrC x _ _), .int .i64 q])) (lo := BR + 1) B4 R4 rfl mf df hrf (fun b hb => by have := rm2 b hb; omega) (fun b hb => by have := rd2 b hb; omega) (by omega) (by omega))
      unfold arrC at HO
      simp only [puts] at HO
      clear Yf Y0 mf df R4 B4
      go_wp2
      refine bodyPost_ret (v := .tuple #[.agg #[.int .i64 x.id, .int .i64 x.n, .int .i64 x.s, .slice vm ms.length cvm, .int .i64 x.lost, .int .i64 x.built, .int .i64 x.seq, .int .i64 x.tail, .int .i64 x.gen, .slice vd ds.length cvd, .int .i64 x.fuse, .bool x.down, .bool x.broken], .int .i64 q]) (by simp [results, Tryz.results13, go_sem, s0, s1, s2, s3, s4, s5, s6, s7, s8, s9, s10, s11, s12]) rfl ?_
      rw [HV.out.1, HV.out.2]; exact HO.out

end Go.Proofs.YtjmjianlcoleaaaGreat

/-
  The walk of the specification's l6Copy: the same array in memory of its own. Condition: it weighs at most 2097152.
-/
namespace Go.Proofs.YtjmjianlcoleaaaGreat
open Go.RowKit

set_option linter.unusedSimpArgs false in
set_option maxRecDepth 20000 in
set_option maxHeartbeats 4000000 in
theorem l6Copy_any (w : World) (E F G : TypeId) (x : ArrN) (am ad : Option Addr) (nm cm nd cd : Nat) (ms : List MemD) (ds : List (Int × List Int)) (h0 : (tMemS E F).Rd w [.slice am nm cm] ms) (h1 : (tWrS G).Rd w [.slice ad nd cd] ds) (hw : wtArr ms ds ≤ 2097152) :
    Calls Tryz.prog 36 #[.agg #[.int .i64 x.id, .int .i64 x.n, .int .i64 x.s, .slice am nm cm, .int .i64 x.lost, .int .i64 x.built, .int .i64 x.seq, .int .i64 x.tail, .int .i64 x.gen, .slice ad nd cd, .int .i64 x.fuse, .bool x.down, .bool x.broken]] w fun e w' => ∃ bm cm' bd cd' m, e = .returned (.agg #[.int .i64 x.id, .int .i64 x.n, .int .i64 x.s, .slice bm nm cm', .int .i64 x.lost, .int .i64 x.built, .int .i64 x.seq, .int .i64 x.tail, .int .i64 x.gen, .slice bd nd cd', .int .i64 x.fuse, .bool x.down, .bool x.broken]) ∧ (tMemS 123 87).Own w' w.heap.size m [.slice bm nm cm'] ms ∧ (tWrS 65).Own w' m w'.heap.size [.slice bd nd cd'] ds ∧ w.heap.size ≤ m ∧ m ≤ w'.heap.size ∧ Below w.heap.size w w' := by
  have hwm : wtMemS ms ≤ 2097152 := by unfold wtArr at hw; omega
  have hwd : wtWrS ds ≤ 2097152 := by unfold wtArr at hw; omega
  obtain ⟨hl0, _, hm0⟩ := row_length h0
  obtain ⟨hl1, _, hm1⟩ := row_length h1
  have hn0 : nm ≤ 2097152 := by unfold wtMemS at hwm; omega
  have hn1 : nd ≤ 2097152 := by unfold wtWrS at hwd; omega
  obtain ⟨i3, hi3, hx0, hx1, hx2⟩ := info_parts Tryz.info3
  obtain ⟨i1, hi1, hy0, hy1, hy2⟩ := info_parts Tryz.infoEnt
  obtain ⟨i4, hi4, hz0, hz1, hz2⟩ := info_parts Tryz.infoMem
  have zz : ∀ u : World, ∀ ob : Obj, (u.alloc ob).heap.size = u.heap.size + 1 := fun u ob => by simp
  have xm : Box ((((w.alloc (.cells #[.int .i64 x.id, .int .i64 x.n, .int .i64 x.s, .slice am nm cm, .int .i64 x.lost, .int .i64 x.built, .int .i64 x.seq, .int .i64 x.tail, .int .i64 x.gen, .slice ad nd cd, .int .i64 x.fuse, .bool x.down, .bool x.broken] 35)).alloc (.cells #[.int .i64 0, .int .i64 0, .int .i64 0, .slice none 0 0, .int .i64 0, .int .i64 0, .int .i64 0, .int .i64 0, .int .i64 0, .slice none 0 0, .int .i64 0, .bool false, .bool false] 35)).alloc (.cells #[.int .i64 x.id, .int .i64 x.n, .int .i64 x.s, .slice (some ⟨w.heap.size + 1 + 1 + 1, 0, none⟩) 0 0, .int .i64 x.lost, .int .i64 x.built, .int .i64 x.seq, .int .i64 x.tail, .int .i64 x.gen, .slice ad nd cd, .int .i64 x.fuse, .bool x.down, .bool x.broken] 35)).alloc (.cells #[] 87)) (w.heap.size) 35 #[.int .i64 x.id, .int .i64 x.n, .int .i64 x.s, .slice am nm cm, .int .i64 x.lost, .int .i64 x.built, .int .i64 x.seq, .int .i64 x.tail, .int .i64 x.gen, .slice ad nd cd, .int .i64 x.fuse, .bool x.down, .bool x.broken] := (((Box.new w _ _).alloc _).alloc _).alloc _
  have xr0 := Box.new (w.alloc (.cells #[.int .i64 x.id, .int .i64 x.n, .int .i64 x.s, .slice am nm cm, .int .i64 x.lost, .int .i64 x.built, .int .i64 x.seq, .int .i64 x.tail, .int .i64 x.gen, .slice ad nd cd, .int .i64 x.fuse, .bool x.down, .bool x.broken] 35)) 35 #[.int .i64 0, .int .i64 0, .int .i64 0, .slice none 0 0, .int .i64 0, .int .i64 0, .int .i64 0, .int .i64 0, .int .i64 0, .slice none 0 0, .int .i64 0, .bool false, .bool false]
  rw [zz] at xr0
  have xr : Box ((((w.alloc (.cells #[.int .i64 x.id, .int .i64 x.n, .int .i64 x.s, .slice am nm cm, .int .i64 x.lost, .int .i64 x.built, .int .i64 x.seq, .int .i64 x.tail, .int .i64 x.gen, .slice ad nd cd, .int .i64 x.fuse, .bool x.down, .bool x.broken] 35)).alloc (.cells #[.int .i64 0, .int .i64 0, .int .i64 0, .slice none 0 0, .int .i64 0, .int .i64 0, .int .i64 0, .int .i64 0, .int .i64 0, .slice none 0 0, .int .i64 0, .bool false, .bool false] 35)).alloc (.cells #[.int .i64 x.id, .int .i64 x.n, .int .i64 x.s, .slice (some ⟨w.heap.size + 1 + 1 + 1, 0, none⟩) 0 0, .int .i64 x.lost, .int .i64 x.built, .int .i64 x.seq, .int .i64 x.tail, .int .i64 x.gen, .slice ad nd cd, .int .i64 x.fuse, .bool x.down, .bool x.broken] 35)).alloc (.cells #[] 87)) (w.heap.size + 1) 35 #[.int .i64 0, .int .i64 0, .int .i64 0, .slice none 0 0, .int .i64 0, .int .i64 0, .int .i64 0, .int .i64 0, .int .i64 0, .slice none 0 0, .int .i64 0, .bool false, .bool false] := (xr0.alloc _).alloc _
  have xo0 := Box.new ((w.alloc (.cells #[.int .i64 x.id, .int .i64 x.n, .int .i64 x.s, .slice am nm cm, .int .i64 x.lost, .int .i64 x.built, .int .i64 x.seq, .int .i64 x.tail, .int .i64 x.gen, .slice ad nd cd, .int .i64 x.fuse, .bool x.down, .bool x.broken] 35)).alloc (.cells #[.int .i64 0, .int .i64 0, .int .i64 0, .slice none 0 0, .int .i64 0, .int .i64 0, .int .i64 0, .int .i64 0, .int .i64 0, .slice none 0 0, .int .i64 0, .bool false, .bool false] 35)) 35 #[.int .i64 x.id, .int .i64 x.n, .int .i64 x.s, .slice (some ⟨w.heap.size + 1 + 1 + 1, 0, none⟩) 0 0, .int .i64 x.lost, .int .i64 x.built, .int .i64 x.seq, .int .i64 x.tail, .int .i64 x.gen, .slice ad nd cd, .int .i64 x.fuse, .bool x.down, .bool x.broken]
  rw [zz, zz] at xo0
  have xo : Box ((((w.alloc (.cells #[.int .i64 x.id, .int .i64 x.n, .int .i64 x.s, .slice am nm cm, .int .i64 x.lost, .int .i64 x.built, .int .i64 x.seq, .int .i64 x.tail, .int .i64 x.gen, .slice ad nd cd, .int .i64 x.fuse, .bool x.down, .bool x.broken] 35)).alloc (.cells #[.int .i64 0, .int .i64 0, .int .i64 0, .slice none 0 0, .int .i64 0, .int .i64 0, .int .i64 0, .int .i64 0, .int .i64 0, .slice none 0 0, .int .i64 0, .bool false, .bool false] 35)).alloc (.cells #[.int .i64 x.id, .int .i64 x.n, .int .i64 x.s, .slice (some ⟨w.heap.size + 1 + 1 + 1, 0, none⟩) 0 0, .int .i64 x.lost, .int .i64 x.built, .int .i64 x.seq, .int .i64 x.tail, .int .i64 x.gen, .slice ad nd cd, .int .i64 x.fuse, .bool x.down, .bool x.broken] 35)).alloc (.cells #[] 87)) (w.heap.size + 1 + 1) 35 #[.int .i64 x.id, .int .i64 x.n, .int .i64 x.s, .slice (some ⟨w.heap.size + 1 + 1 + 1, 0, none⟩) 0 0, .int .i64 x.lost, .int .i64 x.built, .int .i64 x.seq, .int .i64 x.tail, .int .i64 x.gen, .slice ad nd cd, .int .i64 x.fuse, .bool x.down, .bool x.broken] := xo0.alloc _
  have ml := lit0_mine (t := tMem 123) (E := 87) (((w.alloc (.cells #[.int .i64 x.id, .int .i64 x.n, .int .i64 x.s, .slice am nm cm, .int .i64 x.lost, .int .i64 x.built, .int .i64 x.seq, .int .i64 x.tail, .int .i64 x.gen, .slice ad nd cd, .int .i64 x.fuse, .bool x.down, .bool x.broken] 35)).alloc (.cells #[.int .i64 0, .int .i64 0, .int .i64 0, .slice none 0 0, .int .i64 0, .int .i64 0, .int .i64 0, .int .i64 0, .int .i64 0, .slice none 0 0, .int .i64 0, .bool false, .bool false] 35)).alloc (.cells #[.int .i64 x.id, .int .i64 x.n, .int .i64 x.s, .slice (some ⟨w.heap.size + 1 + 1 + 1, 0, none⟩) 0 0, .int .i64 x.lost, .int .i64 x.built, .int .i64 x.seq, .int .i64 x.tail, .int .i64 x.gen, .slice ad nd cd, .int .i64 x.fuse, .bool x.down, .bool x.broken] 35))
  rw [zz, zz, zz] at ml
  have hB : Below (w.heap.size) w ((((w.alloc (.cells #[.int .i64 x.id, .int .i64 x.n, .int .i64 x.s, .slice am nm cm, .int .i64 x.lost, .int .i64 x.built, .int .i64 x.seq, .int .i64 x.tail, .int .i64 x.gen, .slice ad nd cd, .int .i64 x.fuse, .bool x.down, .bool x.broken] 35)).alloc (.cells #[.int .i64 0, .int .i64 0, .int .i64 0, .slice none 0 0, .int .i64 0, .int .i64 0, .int .i64 0, .int .i64 0, .int .i64 0, .slice none 0 0, .int .i64 0, .bool false, .bool false] 35)).alloc (.cells #[.int .i64 x.id, .int .i64 x.n, .int .i64 x.s, .slice (some ⟨w.heap.size + 1 + 1 + 1, 0, none⟩) 0 0, .int .i64 x.lost, .int .i64 x.built, .int .i64 x.seq, .int .i64 x.tail, .int .i64 x.gen, .slice ad nd cd, .int .i64 x.fuse, .bool x.down, .bool x.broken] 35)).alloc (.cells #[] 87)) := ((((Below.refl _ _).alloc (Nat.le_refl _) _).alloc (by simp) _).alloc (by simp; omega) _).alloc (by simp; omega) _
  have hz : w.heap.size + 1 + 1 + 1 < ((((w.alloc (.cells #[.int .i64 x.id, .int .i64 x.n, .int .i64 x.s, .slice am nm cm, .int .i64 x.lost, .int .i64 x.built, .int .i64 x.seq, .int .i64 x.tail, .int .i64 x.gen, .slice ad nd cd, .int .i64 x.fuse, .bool x.down, .bool x.broken] 35)).alloc (.cells #[.int .i64 0, .int .i64 0, .int .i64 0, .slice none 0 0, .int .i64 0, .int .i64 0, .int .i64 0, .int .i64 0, .int .i64 0, .slice none 0 0, .int .i64 0, .bool false, .bool false] 35)).alloc (.cells #[.int .i64 x.id, .int .i64 x.n, .int .i64 x.s, .slice (some ⟨w.heap.size + 1 + 1 + 1, 0, none⟩) 0 0, .int .i64 x.lost, .int .i64 x.built, .int .i64 x.seq, .int .i64 x.tail, .int .i64 x.gen, .slice ad nd cd, .int .i64 x.fuse, .bool x.down, .bool x.broken] 35)).alloc (.cells #[] 87)).heap.size := by simp
  clear xr0 xo0 zz
  go_enter Tryz.func36, Tryz.ntmps36
  go_wp2
  generalize (((w.alloc (.cells #[.int .i64 x.id, .int .i64 x.n, .int .i64 x.s, .slice am nm cm, .int .i64 x.lost, .int .i64 x.built, .int .i64 x.seq, .int .i64 x.tail, .int .i64 x.gen, .slice ad nd cd, .int .i64 x.fuse, .bool x.down, .bool x.broken] 35)).alloc (.cells #[.int .i64 0, .int .i64 0, .int .i64 0, .slice none 0 0, .int .i64 0, .int .i64 0, .int .i64 0, .int .i64 0, .int .i64 0, .slice none 0 0, .int .i64 0, .bool false, .bool false] 35)).alloc (.cells #[.int .i64 x.id, .int .i64 x.n, .int .i64 x.s, .slice (some ⟨w.heap.size + 1 + 1 + 1, 0, none⟩) 0 0, .int .i64 x.lost, .int .i64 x.built, .int .i64 x.seq, .int .i64 x.tail, .int .i64 x.gen, .slice ad nd cd, .int .i64 x.fuse, .bool x.down, .bool x.broken] 35)).alloc (.cells #[] 87) = W2 at xm xr xo ml hB hz ⊢
  obtain ⟨LB, hLB⟩ : ∃ LB, w.heap.size + 1 + 1 + 1 = LB := ⟨_, rfl⟩
  rw [hLB] at xo ml hz ⊢
  have q3 : w.heap.size + 1 + 1 + 1 ≤ LB ∧ LB ≤ w.heap.size + 1 + 1 + 1 := by omega
  clear hLB
  obtain ⟨BO, hBO⟩ : ∃ BO, w.heap.size + 1 + 1 = BO := ⟨_, rfl⟩
  rw [hBO] at xo ⊢
  have q2 : w.heap.size + 1 + 1 ≤ BO ∧ BO ≤ w.heap.size + 1 + 1 := by omega
  clear hBO
  obtain ⟨BR, hBR⟩ : ∃ BR, w.heap.size + 1 = BR := ⟨_, rfl⟩
  rw [hBR] at xr ⊢
  have q1 : w.heap.size + 1 ≤ BR ∧ BR ≤ w.heap.size + 1 := by omega
  clear hBR
  have XM2 := hidden xm
  have XR2 := hidden xr
  have XO2 := hidden xo
  have ML2 := hidden ml
  have HB2 := hidden hB
  clear xm xr xo ml hB
  go_loopw [4] (fun i wr => ∃ (j : Nat) (v0 : Value) (fp0 : List Nat), j ≤ nm ∧ i = .int .i64 j ∧ Fr LB BO W2 wr ∧ Box wr BO 35 #[.int .i64 x.id, .int .i64 x.n, .int .i64 x.s, v0, .int .i64 x.lost, .int .i64 x.built, .int .i64 x.seq, .int .i64 x.tail, .int .i64 x.gen, .slice ad nd cd, .int .i64 x.fuse, .bool x.down, .bool x.broken] ∧ (tMemS 123 87).Mine wr [v0] (ms.take j) fp0 ∧ (∀ b ∈ fp0, LB ≤ b)) (fun i _ => nm - (intOf i).toNat)
  case atStart => exact ⟨0, _, [LB], Nat.zero_le _, rfl, Fr.refl _ _ _, XO2.out, ML2.out, by simp⟩
  case round =>
    obtain ⟨j, v0, fp0, hj, rfl, fr, xo, hm, hfp⟩ := hrel
    have hs := fr.size
    have xm := fr.box XM2.out (by omega) (by omega)
    have hb := HB2.out.trans (fr.below (M := w.heap.size) (by omega) (by omega))
    have c3 : wr.cell? ⟨w.heap.size, 3, none⟩ = some (.slice am nm cm) := xm.cell 3
    by_cases hjn : j < nm
    · rcases quads_at rfl h0 with h0' | ⟨b, off, rfl, hbl, hcs⟩
      · omega
      have hdj : ms[j]? = some (ms[j]'(by omega)) := List.getElem?_eq_getElem (by omega)
      have htk : ms.take (j + 1) = ms.take j ++ [ms[j]'(by omega)] := List.take_succ_eq_append_getElem (by omega)
      generalize ms[j]'(by omega) = d at hdj htk
      have hin := Nat.le_trans (inner_leM hdj) hwm
      obtain ⟨u0, u1, u2, u3, hv0, hv1, hv2, hv3, hrv⟩ := hcs j d hdj
      obtain ⟨a0, c0, a1, c1, a3, c3', ss, cs, f, bs, rfl, rfl, rfl, rfl, rfl, r0, r1, r3⟩ := mem_at hrv
      have pv0 := (hb.cell (p := ⟨b, off + j * 4, none⟩) hbl).trans hv0
      have pv1 := (hb.cell (p := ⟨b, off + j * 4 + 1, none⟩) hbl).trans hv1
      have pv2 := (hb.cell (p := ⟨b, off + j * 4 + 2, none⟩) hbl).trans hv2
      have pv3 := (hb.cell (p := ⟨b, off + j * 4 + 3, none⟩) hbl).trans hv3
      have R0 := hidden (r0.below hb)
      have R1 := hidden (r1.below hb)
      have R3 := hidden (r3.below hb)
      have k1 : (0 : Int) ≤ (j : Int) := by omega
      have k2 : (j : Int) < (nm : Int) := by omega
      have HTK := hidden htk
      have XO := hidden xo
      have XMR := hidden xm
      have FRR := hidden fr
      have HM := hidden hm
      have HFP := hidden hfp
      have HL : Hid ((ms.take j).length = j) := by unfold Hid; rw [List.length_take]; omega
      have L1 : Hid ((ms.take j).length + 1 ≤ maxLen) := by unfold Hid; rw [HL.out]; unfold maxLen; omega
      have L2 : Hid (((ms.take j).length + 1) * 80 ≤ 140737488355328) := by unfold Hid; rw [HL.out]; omega
      have mk : Hid (∀ w', Box w' BO 35 #[.int .i64 x.id, .int .i64 x.n, .int .i64 x.s, v0, .int .i64 x.lost, .int .i64 x.built, .int .i64 x.seq, .int .i64 x.tail, .int .i64 x.gen, .slice ad nd cd, .int .i64 x.fuse, .bool x.down, .bool x.broken] → Box w' w.heap.size 35 #[.int .i64 x.id, .int .i64 x.n, .int .i64 x.s, .slice (some ⟨b, off, none⟩) nm cm, .int .i64 x.lost, .int .i64 x.built, .int .i64 x.seq, .int .i64 x.tail, .int .i64 x.gen, .slice ad nd cd, .int .i64 x.fuse, .bool x.down, .bool x.broken] → w'.heap[b]? = wr.heap[b]? → w'.cell? ⟨BO, 3, none⟩ = some (v0) ∧ w'.cell? ⟨w.heap.size, 3, none⟩ = some (.slice (some ⟨b, off, none⟩) nm cm) ∧ w'.cell? ⟨b, off + j * 4, none⟩ = some (.slice a0 ss.length c0) ∧ w'.cell? ⟨b, off + j * 4 + 1, none⟩ = some (.slice a1 cs.length c1) ∧ w'.cell? ⟨b, off + j * 4 + 2, none⟩ = some (.bool f) ∧ w'.cell? ⟨b, off + j * 4 + 3, none⟩ = some (.slice a3 bs.length c3')) := fun w' h1 h2 h3 => ⟨h1.cell 3, h2.cell 3, (World.cell?_of_block (w := wr) h3).trans pv0, (World.cell?_of_block (w := wr) h3).trans pv1, (World.cell?_of_block (w := wr) h3).trans pv2, (World.cell?_of_block (w := wr) h3).trans pv3⟩
      have hS : wr.drew.cell? ⟨BO, 3, none⟩ = some (v0) ∧ wr.drew.cell? ⟨w.heap.size, 3, none⟩ = some (.slice (some ⟨b, off, none⟩) nm cm) ∧ wr.drew.cell? ⟨b, off + j * 4, none⟩ = some (.slice a0 ss.length c0) ∧ wr.drew.cell? ⟨b, off + j * 4 + 1, none⟩ = some (.slice a1 cs.length c1) ∧ wr.drew.cell? ⟨b, off + j * 4 + 2, none⟩ = some (.bool f) ∧ wr.drew.cell? ⟨b, off + j * 4 + 3, none⟩ = some (.slice a3 bs.length c3') := mk.out wr.drew xo xm rfl
      have zb : b < wr.heap.size := by have := hb.size; omega
      have zLB : LB < wr.heap.size := by omega
      clear hcs hdj hv0 hv1 hv2 hv3 hrv htk xo xm hm hfp hb fr pv0 pv1 pv2 pv3 r0 r1 r3
      go_wp2_with fail
      refine Upto.start (S := fun w' => w'.cell? ⟨BO, 3, none⟩ = some (v0) ∧ w'.cell? ⟨w.heap.size, 3, none⟩ = some (.slice (some ⟨b, off, none⟩) nm cm) ∧ w'.cell? ⟨b, off + j * 4, none⟩ = some (.slice a0 ss.length c0) ∧ w'.cell? ⟨b, off + j * 4 + 1, none⟩ = some (.slice a1 cs.length c1) ∧ w'.cell? ⟨b, off + j * 4 + 2, none⟩ = some (.bool f) ∧ w'.cell? ⟨b, off + j * 4 + 3, none⟩ = some (.slice a3 bs.length c3')) (k := 11) (by kernel_rfl) ?_
      refine Upto.t 0 hS ?_
      refine Upto.t 1 hS ?_
      refine Upto.t 2 hS ?_
      refine Upto.t 3 hS ?_
      refine Upto.t 4 hS ?_
      refine Upto.t 5 hS ?_
      refine Upto.t 6 hS ?_
      refine Upto.one (i := 7) (by kernel_rfl) rfl (fun K hK => ?_)
      go_simp
      refine (l2Copy_any _ E _ _ _ _ _ _ _ _ _ ss cs f bs R0.out.drew R1.out.drew R3.out.drew hin).mono ?_
      rintro e wc ⟨y0, y1, y3, m1, m2, rfl, o3, o0, o1, hm12, hm01, hm22, bc⟩
      have hbc' : Below wr.heap.size wr wc := (Below.refl wr.heap.size wr).drew.trans bc
      have hm01' : wr.heap.size ≤ m1 := hm01
      have om : (tMem 123).Own wc wr.heap.size wc.heap.size [y0, y1, .bool f, y3] (ss, cs, f, bs) := mem_own3 o0 o1 o3 (.inl (Nat.le_refl _)) (.inr (Nat.le_refl _)) (.inr hm12) ⟨by omega, by omega⟩ ⟨by omega, Nat.le_refl _⟩ ⟨Nat.le_refl _, by omega⟩
      obtain ⟨e0, g0, rfl⟩ := row_shape o0.rd
      obtain ⟨e1, g1, rfl⟩ := row_shape o1.rd
      obtain ⟨e3, g3, rfl⟩ := row_shape o3.rd
      obtain ⟨fpx, mx, rx⟩ := om.mine
      have xoc := XO.out.below hbc' (by omega)
      have xmc := XMR.out.below hbc' (by omega)
      have hS3 : wc.cell? ⟨BO, 3, none⟩ = some (v0) ∧ wc.cell? ⟨w.heap.size, 3, none⟩ = some (.slice (some ⟨b, off, none⟩) nm cm) ∧ wc.cell? ⟨b, off + j * 4, none⟩ = some (.slice a0 ss.length c0) ∧ wc.cell? ⟨b, off + j * 4 + 1, none⟩ = some (.slice a1 cs.length c1) ∧ wc.cell? ⟨b, off + j * 4 + 2, none⟩ = some (.bool f) ∧ wc.cell? ⟨b, off + j * 4 + 3, none⟩ = some (.slice a3 bs.length c3') := mk.out wc xoc xmc (hbc'.block b zb)
      have bB := new_below wc (.cells #[.slice e0 ss.length g0, .slice e1 cs.length g1, .bool f, .slice e3 bs.length g3] 87)
      have zc := hbc'.size
      have hS4 : (wc.alloc (.cells #[.slice e0 ss.length g0, .slice e1 cs.length g1, .bool f, .slice e3 bs.length g3] 87)).cell? ⟨BO, 3, none⟩ = some (v0) ∧ (wc.alloc (.cells #[.slice e0 ss.length g0, .slice e1 cs.length g1, .bool f, .slice e3 bs.length g3] 87)).cell? ⟨w.heap.size, 3, none⟩ = some (.slice (some ⟨b, off, none⟩) nm cm) ∧ (wc.alloc (.cells #[.slice e0 ss.length g0, .slice e1 cs.length g1, .bool f, .slice e3 bs.length g3] 87)).cell? ⟨b, off + j * 4, none⟩ = some (.slice a0 ss.length c0) ∧ (wc.alloc (.cells #[.slice e0 ss.length g0, .slice e1 cs.length g1, .bool f, .slice e3 bs.length g3] 87)).cell? ⟨b, off + j * 4 + 1, none⟩ = some (.slice a1 cs.length c1) ∧ (wc.alloc (.cells #[.slice e0 ss.length g0, .slice e1 cs.length g1, .bool f, .slice e3 bs.length g3] 87)).cell? ⟨b, off + j * 4 + 2, none⟩ = some (.bool f) ∧ (wc.alloc (.cells #[.slice e0 ss.length g0, .slice e1 cs.length g1, .bool f, .slice e3 bs.length g3] 87)).cell? ⟨b, off + j * 4 + 3, none⟩ = some (.slice a3 bs.length c3') := mk.out _ (xoc.alloc _) (xmc.alloc _) ((bB.block b (by omega)).trans (hbc'.block b zb))
      have XOC := hidden xoc
      have XMC := hidden xmc
      have MX := hidden mx
      have RX := hidden rx
      have HBC := hidden hbc'
      clear xoc xmc mx rx hbc' bc om o0 o1 o3 hm01 hm01' hm12 hm22 bB R0 R1 R3
      go_wp2_with fail
      refine hK.out _ _ (fun _ => hS3) ?_
      clear hK K
      refine Upto.one (i := 8) (by kernel_rfl) rfl (fun K hK => ?_)
      go_simp
      refine hK.out _ _ (fun _ => hS4) ?_
      clear hK K
      refine Upto.one (i := 9) (by kernel_rfl) rfl (fun K hK => ?_)
      refine step_appT (tMem 123) (by rfl) _ _ 32 (by rfl) 87 i4 (.agg #[.slice none 0 0, .slice none 0 0, .bool false, .slice none 0 0]) 80 Tryz.underlying32 hi4 hz0 hz1 hz2 rfl (by decide) v0 (ms.take j) fp0 (by rfl) ?_ ⟨wc.heap.size, 0, none⟩ 1 [.slice e0 ss.length g0, .slice e1 cs.length g1, .bool f, .slice e3 bs.length g3] (ss, cs, f, bs) fpx (by rfl) ?_ ?_ ?_ ?_ L1.out L2.out ?_
      · exact (HM.out.below HBC.out).alloc _
      · exact MX.out.alloc _
      · intro b hb hb'
        have h1 := HM.out.lt b hb
        have h2 := RX.out b hb'
        omega
      · exact news_new _ _ _
      · intro u hu
        simp at hu
        rcases hu with hu | hu | hu | hu <;> (rw [hu]; rfl)
      intro g cap wA fpA m1 m2 m3
      rw [HL.out] at m1 ⊢
      rw [← HTK.out] at m1
      have ya := (XOC.out.alloc (.cells #[.slice e0 ss.length g0, .slice e1 cs.length g1, .bool f, .slice e3 bs.length g3] 87)).turned m3 (fun hm => by have := HFP.out _ hm; omega)
      have ym := (XMC.out.alloc (.cells #[.slice e0 ss.length g0, .slice e1 cs.length g1, .bool f, .slice e3 bs.length g3] 87)).turned m3 (fun hm => by have := HFP.out _ hm; omega)
      have zB : (wc.alloc (.cells #[.slice e0 ss.length g0, .slice e1 cs.length g1, .bool f, .slice e3 bs.length g3] 87)).heap.size = wc.heap.size + 1 := by simp
      have zBb : b < (wc.alloc (.cells #[.slice e0 ss.length g0, .slice e1 cs.length g1, .bool f, .slice e3 bs.length g3] 87)).heap.size := by omega
      have hS5 : wA.cell? ⟨BO, 3, none⟩ = some (v0) ∧ wA.cell? ⟨w.heap.size, 3, none⟩ = some (.slice (some ⟨b, off, none⟩) nm cm) ∧ wA.cell? ⟨b, off + j * 4, none⟩ = some (.slice a0 ss.length c0) ∧ wA.cell? ⟨b, off + j * 4 + 1, none⟩ = some (.slice a1 cs.length c1) ∧ wA.cell? ⟨b, off + j * 4 + 2, none⟩ = some (.bool f) ∧ wA.cell? ⟨b, off + j * 4 + 3, none⟩ = some (.slice a3 bs.length c3') := mk.out wA ya ym ((m3.block b zBb (fun hm => by have := HFP.out _ hm; omega)).trans (((new_below wc (.cells #[.slice e0 ss.length g0, .slice e1 cs.length g1, .bool f, .slice e3 bs.length g3] 87)).block b (by omega)).trans (HBC.out.block b zb)))
      have r0 := hS5.1
      have fz := ya.frozen 3
      have YA := hidden ya
      have M1 := hidden m1
      have M2 := hidden m2
      have M3 := hidden m3
      clear ya ym m1 m2 m3 zB zBb
      refine hK.out _ _ (fun _ => hS5) ?_
      clear hK K
      simp only [Act.put, List.setIfInBounds_toArray, List.set_cons_zero, List.set_cons_succ]
      refine Upto.t 10 hS5 ?_
      refine Upto.one (i := 11) (by kernel_rfl) rfl (fun K hK => ?_)
      go_simp
      refine hK.out _ _ (fun h => absurd rfl h) ?_
      clear hK K
      refine Upto.done (by kernel_rfl) ?_ _
      have HFA := hidden (round_fp (N := LB) (by omega) HBC.out HFP.out RX.out M2.out)
      have FRA := hidden (Fr.round FRR.out (by omega) HBC.out _ M3.out HFP.out 3 (.slice (some ⟨g, 0, none⟩) (j + 1) cap))
      have MA := hidden (M1.out.setCell (g := BO) (j := 3) (fun hm => by have := HFA.out _ hm; omega) (.slice (some ⟨g, 0, none⟩) (j + 1) cap))
      have YA' := hidden (YA.out.set 3 (.slice (some ⟨g, 0, none⟩) (j + 1) cap))
      clear hS hS3 hS4 hS5 r0 YA M1 M2 M3 XOC MX RX HBC HFP HM FRR XO XMR XMC mk
      go_wp2
      go_roundw
      case rel => exact ⟨j + 1, _, fpA, by omega, by go_num, FRA.out, YA'.out, MA.out, HFA.out⟩
      case measure => simp [intOf]; omega
    · have ej : nm = j := by omega
      subst ej
      rw [List.take_of_length_le (by omega)] at hm
      have hlt := hm.lt
      obtain ⟨eM, gM, hvM⟩ := row_shape hm.rd
      rw [hl0] at hvM
      subst hvM
      have KM := hm.own (lo := LB) (hi := wr.heap.size) (fun b hb => ⟨hfp b hb, hlt b hb⟩)
      have xr := fr.box XR2.out (by omega) (by omega)
      have b3 : But BO (BO + 1) (wr.alloc (.cells #[] 65)) ((wr.alloc (.cells #[] 65)).setCell ⟨BO, 9, none⟩ (.slice (some ⟨wr.heap.size, 0, none⟩) 0 0)) := But.setCell (by omega) (by omega) _
      have xm3 : Box ((wr.alloc (.cells #[] 65)).setCell ⟨BO, 9, none⟩ (.slice (some ⟨wr.heap.size, 0, none⟩) 0 0)) w.heap.size 35 #[.int .i64 x.id, .int .i64 x.n, .int .i64 x.s, .slice am nm cm, .int .i64 x.lost, .int .i64 x.built, .int .i64 x.seq, .int .i64 x.tail, .int .i64 x.gen, .slice ad nd cd, .int .i64 x.fuse, .bool x.down, .bool x.broken] := (xm.alloc _).other (by omega) 9 _
      have xr3 : Box ((wr.alloc (.cells #[] 65)).setCell ⟨BO, 9, none⟩ (.slice (some ⟨wr.heap.size, 0, none⟩) 0 0)) BR 35 #[.int .i64 0, .int .i64 0, .int .i64 0, .slice none 0 0, .int .i64 0, .int .i64 0, .int .i64 0, .int .i64 0, .int .i64 0, .slice none 0 0, .int .i64 0, .bool false, .bool false] := (xr.alloc _).other (by omega) 9 _
      have xo3 : Box ((wr.alloc (.cells #[] 65)).setCell ⟨BO, 9, none⟩ (.slice (some ⟨wr.heap.size, 0, none⟩) 0 0)) BO 35 #[.int .i64 x.id, .int .i64 x.n, .int .i64 x.s, .slice eM nm gM, .int .i64 x.lost, .int .i64 x.built, .int .i64 x.seq, .int .i64 x.tail, .int .i64 x.gen, .slice (some ⟨wr.heap.size, 0, none⟩) 0 0, .int .i64 x.fuse, .bool x.down, .bool x.broken] := (xo.alloc _).set 9 (.slice (some ⟨wr.heap.size, 0, none⟩) 0 0)
      have ml3 : (tWrS 65).Mine ((wr.alloc (.cells #[] 65)).setCell ⟨BO, 9, none⟩ (.slice (some ⟨wr.heap.size, 0, none⟩) 0 0)) [.slice (some ⟨wr.heap.size, 0, none⟩) 0 0] [] [wr.heap.size] := (lit0_mine (t := tWr) (E := 65) wr).setCell (by simp; omega) _
      have km3 := (KM.below (new_below wr (.cells #[] 65))).but b3 (.inr (by omega))
      have hB3 : Below w.heap.size w ((wr.alloc (.cells #[] 65)).setCell ⟨BO, 9, none⟩ (.slice (some ⟨wr.heap.size, 0, none⟩) 0 0)) := (hb.alloc hb.size _).setCell (show w.heap.size ≤ BO by omega) _
      have z3 : wr.heap.size < ((wr.alloc (.cells #[] 65)).setCell ⟨BO, 9, none⟩ (.slice (some ⟨wr.heap.size, 0, none⟩) 0 0)).heap.size := by simp [World.setCell]
      have zL3 : LB < wr.heap.size := by omega
      have co9 : (wr.alloc (.cells #[] 65)).cell? ⟨BO, 9, none⟩ = some (.slice ad nd cd) := (xo.alloc _).cell 9
      have fo9 := (xo.alloc (.cells #[] 65)).frozen 9
      clear fr xo xm hm hfp hlt KM xr b3 hb hs hj
      go_wp2
      generalize (wr.alloc (.cells #[] 65)).setCell ⟨BO, 9, none⟩ (.slice (some ⟨wr.heap.size, 0, none⟩) 0 0) = W3 at xm3 xr3 xo3 ml3 km3 hB3 z3 ⊢
      obtain ⟨LE, hLE⟩ : ∃ LE, wr.heap.size = LE := ⟨_, rfl⟩
      rw [hLE] at xo3 ml3 km3 z3 zL3 ⊢
      clear hLE
      have XM3 := hidden xm3
      have XR3 := hidden xr3
      have XO3 := hidden xo3
      have ML3 := hidden ml3
      have KM3 := hidden km3
      have HB3 := hidden hB3
      clear xm3 xr3 xo3 ml3 km3 hB3 XM2 XR2 XO2 ML2 HB2 hz
      go_loopw [5] (fun i wr => ∃ (j : Nat) (v1 : Value) (fp1 : List Nat), j ≤ nd ∧ i = .int .i64 j ∧ Fr LE BO W3 wr ∧ Box wr BO 35 #[.int .i64 x.id, .int .i64 x.n, .int .i64 x.s, .slice eM nm gM, .int .i64 x.lost, .int .i64 x.built, .int .i64 x.seq, .int .i64 x.tail, .int .i64 x.gen, v1, .int .i64 x.fuse, .bool x.down, .bool x.broken] ∧ (tWrS 65).Mine wr [v1] (ds.take j) fp1 ∧ (∀ b ∈ fp1, LE ≤ b)) (fun i _ => nd - (intOf i).toNat)
      case atStart => exact ⟨0, _, [LE], Nat.zero_le _, rfl, Fr.refl _ _ _, XO3.out, ML3.out, by simp⟩
      case round =>
        obtain ⟨j, v1, fp1, hj, rfl, fr, xo, hm, hfp⟩ := hrel
        have hs := fr.size
        have xm := fr.box XM3.out (by omega) (by omega)
        have hb := HB3.out.trans (fr.below (M := w.heap.size) (by omega) (by omega))
        have c9 : wr.cell? ⟨w.heap.size, 9, none⟩ = some (.slice ad nd cd) := xm.cell 9
        by_cases hjn : j < nd
        · rcases pairs_at rfl h1 with h0' | ⟨b, off, rfl, hbl, hcs⟩
          · omega
          have hdj : ds[j]? = some (ds[j]'(by omega)) := List.getElem?_eq_getElem (by omega)
          have htk : ds.take (j + 1) = ds.take j ++ [ds[j]'(by omega)] := List.take_succ_eq_append_getElem (by omega)
          generalize ds[j]'(by omega) = d at hdj htk
          have hil := inner_le' hdj
          obtain ⟨u0, u1, hv0, hv1, hrv⟩ := hcs j d hdj
          obtain ⟨rfl, hrv'⟩ := wr_rd hrv
          obtain ⟨av, cv, rfl⟩ := row_shape hrv'
          have pv0 := (hb.cell (p := ⟨b, off + j * 2, none⟩) hbl).trans hv0
          have pv1 := (hb.cell (p := ⟨b, off + j * 2 + 1, none⟩) hbl).trans hv1
          obtain ⟨x0, x1⟩ := d
          simp only at pv0 pv1 hrv' hil
          have HX := hidden (hrv'.below hb)
          have k1 : (0 : Int) ≤ (j : Int) := by omega
          have k2 : (j : Int) < (nd : Int) := by omega
          have HTK := hidden htk
          have XO := hidden xo
          have XMR := hidden xm
          have FRR := hidden fr
          have HM := hidden hm
          have HFP := hidden hfp
          have HL : Hid ((ds.take j).length = j) := by unfold Hid; rw [List.length_take]; omega
          have L1 : Hid ((ds.take j).length + 1 ≤ maxLen) := by unfold Hid; rw [HL.out]; unfold maxLen; omega
          have L2 : Hid (((ds.take j).length + 1) * 32 ≤ 140737488355328) := by unfold Hid; rw [HL.out]; omega
          have mk : Hid (∀ w', Box w' BO 35 #[.int .i64 x.id, .int .i64 x.n, .int .i64 x.s, .slice eM nm gM, .int .i64 x.lost, .int .i64 x.built, .int .i64 x.seq, .int .i64 x.tail, .int .i64 x.gen, v1, .int .i64 x.fuse, .bool x.down, .bool x.broken] → Box w' w.heap.size 35 #[.int .i64 x.id, .int .i64 x.n, .int .i64 x.s, .slice am nm cm, .int .i64 x.lost, .int .i64 x.built, .int .i64 x.seq, .int .i64 x.tail, .int .i64 x.gen, .slice (some ⟨b, off, none⟩) nd cd, .int .i64 x.fuse, .bool x.down, .bool x.broken] → w'.heap[b]? = wr.heap[b]? → w'.cell? ⟨BO, 9, none⟩ = some (v1) ∧ w'.cell? ⟨w.heap.size, 9, none⟩ = some (.slice (some ⟨b, off, none⟩) nd cd) ∧ w'.cell? ⟨b, off + j * 2, none⟩ = some (.int .i64 x0) ∧ w'.cell? ⟨b, off + j * 2 + 1, none⟩ = some (.slice av x1.length cv)) := fun w' h1 h2 h3 => ⟨h1.cell 9, h2.cell 9, (World.cell?_of_block (w := wr) h3).trans pv0, (World.cell?_of_block (w := wr) h3).trans pv1⟩
          have bA := new_below wr (.cells #[] 3)
          have hS : wr.drew.cell? ⟨BO, 9, none⟩ = some (v1) ∧ wr.drew.cell? ⟨w.heap.size, 9, none⟩ = some (.slice (some ⟨b, off, none⟩) nd cd) ∧ wr.drew.cell? ⟨b, off + j * 2, none⟩ = some (.int .i64 x0) ∧ wr.drew.cell? ⟨b, off + j * 2 + 1, none⟩ = some (.slice av x1.length cv) := mk.out wr.drew xo xm rfl
          have zb : b < wr.heap.size := by have := hb.size; omega
          have zLE : LE < wr.heap.size := by omega
          have hS2 : (wr.alloc (.cells #[] 3)).drew.cell? ⟨BO, 9, none⟩ = some (v1) ∧ (wr.alloc (.cells #[] 3)).drew.cell? ⟨w.heap.size, 9, none⟩ = some (.slice (some ⟨b, off, none⟩) nd cd) ∧ (wr.alloc (.cells #[] 3)).drew.cell? ⟨b, off + j * 2, none⟩ = some (.int .i64 x0) ∧ (wr.alloc (.cells #[] 3)).drew.cell? ⟨b, off + j * 2 + 1, none⟩ = some (.slice av x1.length cv) := mk.out (wr.alloc (.cells #[] 3)).drew (xo.alloc _) (xm.alloc _) (bA.block b zb)
          have HG : Hid ((wr.alloc (.cells #[] 3)).drew.heap[wr.heap.size]? = some (.cells #[] 3 (0, 0))) := Box.new wr 3 #[]
          have RD : Hid (tIntS.Rd (wr.alloc (.cells #[] 3)).drew [.slice av x1.length cv] x1) := (HX.out.below bA).drew
          have BA := hidden bA
          clear hcs hdj hv0 hv1 hrv hrv' htk xo xm hm hfp hb fr pv0 pv1 bA
          go_wp2_with fail
          refine Upto.start (S := fun w' => w'.cell? ⟨BO, 9, none⟩ = some (v1) ∧ w'.cell? ⟨w.heap.size, 9, none⟩ = some (.slice (some ⟨b, off, none⟩) nd cd) ∧ w'.cell? ⟨b, off + j * 2, none⟩ = some (.int .i64 x0) ∧ w'.cell? ⟨b, off + j * 2 + 1, none⟩ = some (.slice av x1.length cv)) (k := 20) (by kernel_rfl) ?_
          refine Upto.t 0 hS ?_
          refine Upto.t 1 hS ?_
          refine Upto.t 2 hS ?_
          refine Upto.t 3 hS ?_
          refine Upto.t 4 hS ?_
          refine Upto.t 5 hS ?_
          refine Upto.t 6 hS ?_
          refine Upto.t 7 hS ?_
          refine Upto.t 9 hS ?_
          refine Upto.t 10 hS ?_
          refine Upto.t 11 hS ?_
          refine Upto.t 12 hS ?_
          refine Upto.t 13 hS ?_
          refine Upto.t 14 hS ?_
          refine Upto.one (i := 8) (by kernel_rfl) rfl (fun K hK => ?_)
          go_simp
          refine hK.out _ _ (fun _ => hS2) ?_
          clear hK K
          refine Upto.one (i := 15) (by kernel_rfl) rfl (fun K hK => ?_)
          refine step_copy (by rfl) _ _ 48 (by rfl) i3 Tryz.underlying48 hi3 hx0 hx1 hx2 wr.heap.size (by rfl) HG.out av x1.length cv x1 (by rfl) RD.out (by omega) ?_
          intro ac cc wc fpx mx rx tx
          have tx' : Turned [wr.heap.size] (wr.alloc (.cells #[] 3)) wc := Turned.undrew tx
          have zA : (wr.alloc (.cells #[] 3)).heap.size = wr.heap.size + 1 := by simp
          have zd : (wr.alloc (.cells #[] 3)).drew.heap.size = (wr.alloc (.cells #[] 3)).heap.size := rfl
          have hbc' : Below wr.heap.size wr wc := BA.out.trans (tx'.below (N := wr.heap.size) (by omega) (by simp))
          have xoc := XO.out.below hbc' (by omega)
          have xmc := XMR.out.below hbc' (by omega)
          have hS3 : wc.cell? ⟨BO, 9, none⟩ = some (v1) ∧ wc.cell? ⟨w.heap.size, 9, none⟩ = some (.slice (some ⟨b, off, none⟩) nd cd) ∧ wc.cell? ⟨b, off + j * 2, none⟩ = some (.int .i64 x0) ∧ wc.cell? ⟨b, off + j * 2 + 1, none⟩ = some (.slice av x1.length cv) := mk.out wc xoc xmc (hbc'.block b zb)
          have bB := new_below wc (.cells #[.int .i64 x0, .slice ac x1.length cc] 65)
          have zc := hbc'.size
          have hS4 : (wc.alloc (.cells #[.int .i64 x0, .slice ac x1.length cc] 65)).cell? ⟨BO, 9, none⟩ = some (v1) ∧ (wc.alloc (.cells #[.int .i64 x0, .slice ac x1.length cc] 65)).cell? ⟨w.heap.size, 9, none⟩ = some (.slice (some ⟨b, off, none⟩) nd cd) ∧ (wc.alloc (.cells #[.int .i64 x0, .slice ac x1.length cc] 65)).cell? ⟨b, off + j * 2, none⟩ = some (.int .i64 x0) ∧ (wc.alloc (.cells #[.int .i64 x0, .slice ac x1.length cc] 65)).cell? ⟨b, off + j * 2 + 1, none⟩ = some (.slice av x1.length cv) := mk.out _ (xoc.alloc _) (xmc.alloc _) ((bB.block b (by omega)).trans (hbc'.block b zb))
          have RX : Hid (∀ b ∈ fpx, wr.heap.size ≤ b ∧ b < wc.heap.size) := fun b hb => by have := rx b hb; omega
          have XOC := hidden xoc
          have XMC := hidden xmc
          have MX := hidden mx
          have HBC := hidden hbc'
          clear xoc xmc mx rx tx tx' hbc' bB zA zd
          refine hK.out _ _ (fun _ => hS3) ?_
          clear hK K
          simp only [Act.put, List.setIfInBounds_toArray, List.set_cons_zero, List.set_cons_succ]
          refine Upto.t 16 hS3 ?_
          refine Upto.one (i := 17) (by kernel_rfl) rfl (fun K hK => ?_)
          go_simp
          refine hK.out _ _ (fun _ => hS4) ?_
          clear hK K
          refine Upto.one (i := 18) (by kernel_rfl) rfl (fun K hK => ?_)
          refine step_appT tWr (by rfl) _ _ 33 (by rfl) 65 i1 (.agg #[.int .i64 0, .slice none 0 0]) 32 Tryz.underlying33 hi1 hy0 hy1 hy2 rfl Nat.zero_lt_two v1 (ds.take j) fp1 (by rfl) ?_ ⟨wc.heap.size, 0, none⟩ 1 [.int .i64 x0, .slice ac x1.length cc] (x0, x1) fpx (by rfl) ?_ ?_ ?_ ?_ L1.out L2.out ?_
          · exact (HM.out.below HBC.out).alloc _
          · exact (wr_mine x0 MX.out).alloc _
          · intro b hb hb'
            have h1 := HM.out.lt b hb
            have h2 := RX.out b hb'
            omega
          · exact news_new _ _ _
          · intro u hu
            simp at hu
            rcases hu with hu | hu <;> (rw [hu]; rfl)
          intro g cap wA fpA m1 m2 m3
          rw [HL.out] at m1 ⊢
          rw [← HTK.out] at m1
          have ya := (XOC.out.alloc (.cells #[.int .i64 x0, .slice ac x1.length cc] 65)).turned m3 (fun hm => by have := HFP.out _ hm; omega)
          have ym := (XMC.out.alloc (.cells #[.int .i64 x0, .slice ac x1.length cc] 65)).turned m3 (fun hm => by have := HFP.out _ hm; omega)
          have zB : (wc.alloc (.cells #[.int .i64 x0, .slice ac x1.length cc] 65)).heap.size = wc.heap.size + 1 := by simp
          have zBb : b < (wc.alloc (.cells #[.int .i64 x0, .slice ac x1.length cc] 65)).heap.size := by omega
          have hS5 : wA.cell? ⟨BO, 9, none⟩ = some (v1) ∧ wA.cell? ⟨w.heap.size, 9, none⟩ = some (.slice (some ⟨b, off, none⟩) nd cd) ∧ wA.cell? ⟨b, off + j * 2, none⟩ = some (.int .i64 x0) ∧ wA.cell? ⟨b, off + j * 2 + 1, none⟩ = some (.slice av x1.length cv) := mk.out wA ya ym ((m3.block b zBb (fun hm => by have := HFP.out _ hm; omega)).trans (((new_below wc (.cells #[.int .i64 x0, .slice ac x1.length cc] 65)).block b (by omega)).trans (HBC.out.block b zb)))
          have r0 := hS5.1
          have fz := ya.frozen 9
          have YA := hidden ya
          have M1 := hidden m1
          have M2 := hidden m2
          have M3 := hidden m3
          clear ya ym m1 m2 m3 zB zBb
          refine hK.out _ _ (fun _ => hS5) ?_
          clear hK K
          simp only [Act.put, List.setIfInBounds_toArray, List.set_cons_zero, List.set_cons_succ]
          refine Upto.t 19 hS5 ?_
          refine Upto.one (i := 20) (by kernel_rfl) rfl (fun K hK => ?_)
          go_simp
          refine hK.out _ _ (fun h => absurd rfl h) ?_
          clear hK K
          refine Upto.done (by kernel_rfl) ?_ _
          have HFA := hidden (round_fp (N := LE) (by omega) HBC.out HFP.out RX.out M2.out)
          have FRA := hidden (Fr.round FRR.out (by omega) HBC.out _ M3.out HFP.out 9 (.slice (some ⟨g, 0, none⟩) (j + 1) cap))
          have MA := hidden (M1.out.setCell (g := BO) (j := 9) (fun hm => by have := HFA.out _ hm; omega) (.slice (some ⟨g, 0, none⟩) (j + 1) cap))
          have YA' := hidden (YA.out.set 9 (.slice (some ⟨g, 0, none⟩) (j + 1) cap))
          clear hS hS2 hS3 hS4 hS5 BA HG RD HX r0 YA M1 M2 M3 XOC MX RX HBC HFP HM FRR XO XMR XMC mk
          go_wp2
          go_roundw
          case rel => exact ⟨j + 1, _, fpA, by omega, by go_num, FRA.out, YA'.out, MA.out, HFA.out⟩
          case measure => simp [intOf]; omega
        · have ej : nd = j := by omega
          subst ej
          rw [List.take_of_length_le (by omega)] at hm
          have hlt := hm.lt
          obtain ⟨eD, gD, hvD⟩ := row_shape hm.rd
          rw [hl1] at hvD
          subst hvD
          have K1 := hm.own (lo := LE) (hi := wr.heap.size) (fun b hb => ⟨hfp b hb, hlt b hb⟩)
          have K0 := fr.own KM3.out (Nat.le_refl _) (.inr (by omega))
          have xr := fr.box XR3.out (by omega) (by omega)
          have hbt := puts_but BR [(0, .int .i64 x.id), (1, .int .i64 x.n), (2, .int .i64 x.s), (3, .slice eM nm gM), (4, .int .i64 x.lost), (5, .int .i64 x.built), (6, .int .i64 x.seq), (7, .int .i64 x.tail), (8, .int .i64 x.gen), (9, .slice eD nd gD), (10, .int .i64 x.fuse), (11, .bool x.down), (12, .bool x.broken)] wr
          have H0 := K0.but hbt (.inr (by omega))
          have H1 := K1.but hbt (.inr (by omega))
          have HBB := Below.andBut hb hbt (by omega)
          have hsz := hbt.size
          have H0w := hidden (H0.widen (lo' := w.heap.size) (hi' := LE) (by omega) (Nat.le_refl _))
          have H1w := hidden (H1.widen (lo' := LE) (Nat.le_refl _) hsz)
          have HBw := hidden HBB
          have HSZ : Hid (LE ≤ (puts wr BR [(0, .int .i64 x.id), (1, .int .i64 x.n), (2, .int .i64 x.s), (3, .slice eM nm gM), (4, .int .i64 x.lost), (5, .int .i64 x.built), (6, .int .i64 x.seq), (7, .int .i64 x.tail), (8, .int .i64 x.gen), (9, .slice eD nd gD), (10, .int .i64 x.fuse), (11, .bool x.down), (12, .bool x.broken)]).heap.size) := by unfold Hid; omega
          simp only [puts] at H0w H1w HBw HSZ
          obtain ⟨p0, p1, p2, p3, p4, p5, p6, p7, p8, p9, p10, p11, p12⟩ := xr.cells13
          have fz := xr.frozen
          obtain ⟨r0, r1, r2, r3, r4, r5, r6, r7, r8, r9, r10, r11, r12⟩ := xo.cells13
          have hLw : w.heap.size ≤ LE := by omega
          clear fr xo xm hb hm hfp hlt xr K0 K1 hbt H0 H1 HBB hsz hj hs
          go_wp2
          refine bodyPost_ret (v := .agg #[.int .i64 x.id, .int .i64 x.n, .int .i64 x.s, .slice eM nm gM, .int .i64 x.lost, .int .i64 x.built, .int .i64 x.seq, .int .i64 x.tail, .int .i64 x.gen, .slice eD nd gD, .int .i64 x.fuse, .bool x.down, .bool x.broken]) (by simp [results, Tryz.results36, go_sem, p0, p1, p2, p3, p4, p5, p6, p7, p8, p9, p10, p11, p12]) rfl ?_
          exact ⟨_, _, _, _, LE, rfl, H0w.out, H1w.out, hLw, HSZ.out, HBw.out⟩

end Go.Proofs.YtjmjianlcoleaaaGreat

/-
  The specification's SetBlock walked. Condition: the array weighs at most 2097152.
-/
namespace Go.Proofs.YtjmjianlcoleaaaGreat
open Go.RowKit

set_option linter.unusedSimpArgs false in
set_option maxRecDepth 20000 in
set_option maxHeartbeats 3200000 in
theorem specSetBlock_any (w : World) (E F G : TypeId) (x : ArrN) (am ad : Option Addr) (nm cm nd cd : Nat) (ms : List MemD) (ds : List EntD) (h0 : (tMemS E F).Rd w [.slice am nm cm] ms) (h1 : (tWrS G).Rd w [.slice ad nd cd] ds) (hw : wtArr ms ds ≤ 2097152) (b n : Int) :
    Calls Tryz.prog 12 #[.agg #[.int .i64 x.id, .int .i64 x.n, .int .i64 x.s, .slice am nm cm, .int .i64 x.lost, .int .i64 x.built, .int .i64 x.seq, .int .i64 x.tail, .int .i64 x.gen, .slice ad nd cd, .int .i64 x.fuse, .bool x.down, .bool x.broken], .int .i64 b, .int .i64 n] w fun e w' => ArrOutC w w' e (x, ms) (set8K x ms ds b n) (set8O x ms ds b n) := by
  obtain ⟨rfl, _⟩ := row_length h0
  obtain ⟨rfl, _⟩ := row_length h1
  have hA := (new_below w (.cells #[.int .i64 x.id, .int .i64 x.n, .int .i64 x.s, .slice am ms.length cm, .int .i64 x.lost, .int .i64 x.built, .int .i64 x.seq, .int .i64 x.tail, .int .i64 x.gen, .slice ad ds.length cd, .int .i64 x.fuse, .bool x.down, .bool x.broken] 35)).alloc (by simp) (.cells #[.int .i64 0, .int .i64 0, .int .i64 0, .slice none 0 0, .int .i64 0, .int .i64 0, .int .i64 0, .int .i64 0, .int .i64 0, .slice none 0 0, .int .i64 0, .bool false, .bool false] 35)
  have X0 : Box ((w.alloc (.cells #[.int .i64 x.id, .int .i64 x.n, .int .i64 x.s, .slice am ms.length cm, .int .i64 x.lost, .int .i64 x.built, .int .i64 x.seq, .int .i64 x.tail, .int .i64 x.gen, .slice ad ds.length cd, .int .i64 x.fuse, .bool x.down, .bool x.broken] 35)).alloc (.cells #[.int .i64 0, .int .i64 0, .int .i64 0, .slice none 0 0, .int .i64 0, .int .i64 0, .int .i64 0, .int .i64 0, .int .i64 0, .slice none 0 0, .int .i64 0, .bool false, .bool false] 35)) w.heap.size 35 #[.int .i64 x.id, .int .i64 x.n, .int .i64 x.s, .slice am ms.length cm, .int .i64 x.lost, .int .i64 x.built, .int .i64 x.seq, .int .i64 x.tail, .int .i64 x.gen, .slice ad ds.length cd, .int .i64 x.fuse, .bool x.down, .bool x.broken] := (Box.new w _ _).alloc _
  have R0 := Box.new (w.alloc (.cells #[.int .i64 x.id, .int .i64 x.n, .int .i64 x.s, .slice am ms.length cm, .int .i64 x.lost, .int .i64 x.built, .int .i64 x.seq, .int .i64 x.tail, .int .i64 x.gen, .slice ad ds.length cd, .int .i64 x.fuse, .bool x.down, .bool x.broken] 35)) 35 #[.int .i64 0, .int .i64 0, .int .i64 0, .slice none 0 0, .int .i64 0, .int .i64 0, .int .i64 0, .int .i64 0, .int .i64 0, .slice none 0 0, .int .i64 0, .bool false, .bool false]
  rw [World.size_alloc] at R0
  have zX := X0.lt
  have zR := R0.lt
  have r0 := h0.below hA
  have r1 := h1.below hA
  have hzW : ((w.alloc (.cells #[.int .i64 x.id, .int .i64 x.n, .int .i64 x.s, .slice am ms.length cm, .int .i64 x.lost, .int .i64 x.built, .int .i64 x.seq, .int .i64 x.tail, .int .i64 x.gen, .slice ad ds.length cd, .int .i64 x.fuse, .bool x.down, .bool x.broken] 35)).alloc (.cells #[.int .i64 0, .int .i64 0, .int .i64 0, .slice none 0 0, .int .i64 0, .int .i64 0, .int .i64 0, .int .i64 0, .int .i64 0, .slice none 0 0, .int .i64 0, .bool false, .bool false] 35)).heap.size = w.heap.size + 1 + 1 := by simp
  obtain ⟨k0, k1, k2, k3, k4, k5, k6, k7, k8, k9, k10, k11, k12⟩ := X0.cells13
  go_enter Tryz.func12, Tryz.ntmps12
  go_wp2_with fail
  generalize (w.alloc (.cells #[.int .i64 x.id, .int .i64 x.n, .int .i64 x.s, .slice am ms.length cm, .int .i64 x.lost, .int .i64 x.built, .int .i64 x.seq, .int .i64 x.tail, .int .i64 x.gen, .slice ad ds.length cd, .int .i64 x.fuse, .bool x.down, .bool x.broken] 35)).alloc (.cells #[.int .i64 0, .int .i64 0, .int .i64 0, .slice none 0 0, .int .i64 0, .int .i64 0, .int .i64 0, .int .i64 0, .int .i64 0, .slice none 0 0, .int .i64 0, .bool false, .bool false] 35) = W at hA X0 R0 zX zR r0 r1 hzW k0 k1 k2 k3 k4 k5 k6 k7 k8 k9 k10 k11 k12 ⊢
  obtain ⟨BR, hBR⟩ : ∃ BR, w.heap.size + 1 = BR := ⟨_, rfl⟩
  rw [hBR] at R0 zR hzW ⊢
  have q1 : w.heap.size + 1 ≤ BR ∧ BR ≤ w.heap.size + 1 := by omega
  clear hBR
  refine (l6Copy_any _ E F G x _ _ _ _ _ _ ms ds r0 r1 hw).mono ?_
  rintro e w1 ⟨bm, cm1, bd, cd1, m, rfl, om, od, zm, zm2, b1⟩
  have bn := new_below w1 (.cells #[.int .i64 x.id, .int .i64 x.n, .int .i64 x.s, .slice bm ms.length cm1, .int .i64 x.lost, .int .i64 x.built, .int .i64 x.seq, .int .i64 x.tail, .int .i64 x.gen, .slice bd ds.length cd1, .int .i64 x.fuse, .bool x.down, .bool x.broken] 35)
  have b12 : Below W.heap.size W (w1.alloc (.cells #[.int .i64 x.id, .int .i64 x.n, .int .i64 x.s, .slice bm ms.length cm1, .int .i64 x.lost, .int .i64 x.built, .int .i64 x.seq, .int .i64 x.tail, .int .i64 x.gen, .slice bd ds.length cd1, .int .i64 x.fuse, .bool x.down, .bool x.broken] 35)) := Below.andThen b1 bn
  have Y := Box.new w1 35 #[.int .i64 x.id, .int .i64 x.n, .int .i64 x.s, .slice bm ms.length cm1, .int .i64 x.lost, .int .i64 x.built, .int .i64 x.seq, .int .i64 x.tail, .int .i64 x.gen, .slice bd ds.length cd1, .int .i64 x.fuse, .bool x.down, .bool x.broken]
  have zY := Y.lt
  have z1 := b1.size
  obtain ⟨fm, mm, rm⟩ := (om.below bn).mine
  obtain ⟨fd, md, rd⟩ := (od.below bn).mine
  have A2 : ArrAt (w1.alloc (.cells #[.int .i64 x.id, .int .i64 x.n, .int .i64 x.s, .slice bm ms.length cm1, .int .i64 x.lost, .int .i64 x.built, .int .i64 x.seq, .int .i64 x.tail, .int .i64 x.gen, .slice bd ds.length cd1, .int .i64 x.fuse, .bool x.down, .bool x.broken] 35)) w1.heap.size x ms ds fm fd := ⟨bm, bd, cm1, cd1, Y, mm, md, fun b hb hb' => by have h1 := rm b hb; have h2 := rd b hb'; omega, fun hm => by have := rm _ hm; omega, fun hm => by have := rd _ hm; omega⟩
  have X2 := X0.below b12 zX
  have R2 := R0.below b12 zR
  have p0 := r0.below b12
  have p1 := r1.below b12
  have B2 := Below.andThen hA b12
  have rm2 : ∀ b ∈ fm, W.heap.size ≤ b := fun b hb => by have := rm b hb; omega
  have rd2 : ∀ b ∈ fd, W.heap.size ≤ b := fun b hb => by have := rd b hb; omega
  clear k0 k1 k2 k3 k4 k5 k6 k7 k8 k9 k10 k11 k12 X0 R0 r0 r1 om od b1 bn b12 Y mm rm md rd hA
  obtain ⟨k0, k1, k2, k3, k4, k5, k6, k7, k8, k9, k10, k11, k12⟩ := X2.cells13
  go_wp2_with fail
  generalize w1.alloc (.cells #[.int .i64 x.id, .int .i64 x.n, .int .i64 x.s, .slice bm ms.length cm1, .int .i64 x.lost, .int .i64 x.built, .int .i64 x.seq, .int .i64 x.tail, .int .i64 x.gen, .slice bd ds.length cd1, .int .i64 x.fuse, .bool x.down, .bool x.broken] 35) = w2 at A2 X2 R2 p0 p1 B2 zY k0 k1 k2 k3 k4 k5 k6 k7 k8 k9 k10 k11 k12 ⊢
  obtain ⟨B, hB⟩ : ∃ B, w1.heap.size = B := ⟨_, rfl⟩
  rw [hB] at A2 zY z1 ⊢
  clear hB
  refine (l8Code_any _ E F G x _ _ _ _ _ _ ms ds b p0 p1 hw).mono ?_
  rintro e w3 ⟨rfl, b3⟩
  have A3 := A2.below b3
  have R3 := R2.below b3 R2.lt
  have B3 := Below.andThen B2 b3
  have z3 := b3.size
  clear k0 k1 k2 k3 k4 k5 k6 k7 k8 k9 k10 k11 k12 A2 X2 R2 p0 p1 B2 b3
  have HK : Hid (set8K x ms ds b n = if code8 x ms ds b = 0 then (if isW n = true then set8C x ms ds b else 3) else code8 x ms ds b) := rfl
  have HO8 : Hid (set8O x ms ds b n = if code8 x ms ds b = 0 ∧ isW n = true then setB8 x ms ds b n else ds) := rfl
  by_cases hc : code8 x ms ds b = 0
  · have HG := hidden (code_gb hc)
    have hl9 := asc_len (arr_asc HG.out.2.1)
    cases hn : isW n
    · have HV : Hid (set8K x ms ds b n = 3 ∧ set8O x ms ds b n = ds) := by unfold Hid; rw [HK.out, HO8.out, if_pos hc, if_neg (by simp [hn]), if_neg (by simp [hn])]; exact ⟨rfl, rfl⟩
      have HW1 : Hid (isW n = false) := hn
      rw [hc]
      clear hc hn HK HO8
      go_wp2_with fail
      refine (l1Word_any n _).mono ?_
      rintro e w4 ⟨rfl, hw4⟩
      subst w4
      rw [HW1.out]
      clear HW1
      obtain ⟨vm, vd, cvm, cvd, Yf, mf, df, hrf, r1f, r2f⟩ := A3
      have Y0 := Yf
      unfold arrC at Y0
      obtain ⟨t0, t1, t2, t3, t4, t5, t6, t7, t8, t9, t10, t11, t12⟩ := Y0.cells13
      obtain ⟨s0, s1, s2, s3, s4, s5, s6, s7, s8, s9, s10, s11, s12⟩ := R3.cells13
      have fz := R3.frozen
      have HO := hidden (arr_outC (y := x) (code := 3) (e := .returned (.tuple #[.agg (arrC x _ _), .int .i64 3])) (lo := BR + 1) B3 R3 rfl mf df hrf (fun b hb => by have := rm2 b hb; omega) (fun b hb => by have := rd2 b hb; omega) (by omega) (by omega))
      unfold arrC at HO
      simp only [puts] at HO
      clear Yf Y0 mf df R3 B3
      go_wp2
      refine bodyPost_ret (v := .tuple #[.agg #[.int .i64 x.id, .int .i64 x.n, .int .i64 x.s, .slice vm ms.length cvm, .int .i64 x.lost, .int .i64 x.built, .int .i64 x.seq, .int .i64 x.tail, .int .i64 x.gen, .slice vd ds.length cvd, .int .i64 x.fuse, .bool x.down, .bool x.broken], .int .i64 3]) (by simp [results, Tryz.results12, go_sem, s0, s1, s2, s3, s4, s5, s6, s7, s8, s9, s10, s11, s12]) rfl ?_
      rw [HV.out.1, HV.out.2]; exact HO.out
    · have HV : Hid (set8K x ms ds b n = set8C x ms ds b ∧ set8O x ms ds b n = setB8 x ms ds b n) := by unfold Hid; rw [HK.out, HO8.out, if_pos hc, if_pos hn, if_pos ⟨hc, hn⟩]; exact ⟨rfl, rfl⟩
      have HW1 : Hid (isW n = true) := hn
      have HLS := hidden (l8Set_any w3 B x ms ds fm fd A3 HG.out.2.1 hw (by omega) b n HG.out.2.2.2)
      rw [hc]
      clear hc hn HK HO8 A3
      go_wp2_with fail
      refine (l1Word_any n _).mono ?_
      rintro e w4 ⟨rfl, hw4⟩
      subst w4
      rw [HW1.out]
      clear HW1
      go_wp2_with fail
      refine HLS.out.mono ?_
      rintro e w4 ⟨rfl, fd4, A4, T4, N4⟩
      have rd4 : ∀ b ∈ fd4, W.heap.size ≤ b := fun b hb => by rcases N4 b hb with h | h; exact rd2 b h; omega
      have R4 := R3.turned T4 (by simp only [List.mem_cons, not_or]; exact ⟨by omega, fun hm => by have := rd2 _ hm; omega⟩)
      have B4 : Below w.heap.size w w4 := B3.trans ⟨T4.os, T4.tape, T4.output, T4.size, fun k hk => T4.block k (by omega) (by simp only [List.mem_cons, not_or]; exact ⟨by omega, fun hm => by have := rd2 _ hm; omega⟩)⟩
      have z4 := T4.size
      clear R3 B3 T4 N4 HLS
      generalize set8C x ms ds b = sc at HV ⊢
      generalize setB8 x ms ds b n = es at A4 HV
      obtain ⟨vm, vd, cvm, cvd, Yf, mf, df, hrf, r1f, r2f⟩ := A4
      have Y0 := Yf
      unfold arrC at Y0
      obtain ⟨t0, t1, t2, t3, t4, t5, t6, t7, t8, t9, t10, t11, t12⟩ := Y0.cells13
      obtain ⟨s0, s1, s2, s3, s4, s5, s6, s7, s8, s9, s10, s11, s12⟩ := R4.cells13
      have fz := R4.frozen
      have HO := hidden (arr_outC (y := x) (code := sc) (e := .returned (.tuple #[.agg (arrC x _ _), .int .i64 sc])) (lo := BR + 1) B4 R4 rfl mf df hrf (fun b hb => by have := rm2 b hb; omega) (fun b hb => by have := rd4 b hb; omega) (by omega) (by omega))
      unfold arrC at HO
      simp only [puts] at HO
      clear Yf Y0 mf df R4 B4
      generalize hdl : (es).length = dl at t9 HO ⊢
      have HDL := hidden hdl
      clear hdl
      go_wp2
      refine bodyPost_ret (v := .tuple #[.agg #[.int .i64 x.id, .int .i64 x.n, .int .i64 x.s, .slice vm ms.length cvm, .int .i64 x.lost, .int .i64 x.built, .int .i64 x.seq, .int .i64 x.tail, .int .i64 x.gen, .slice vd dl cvd, .int .i64 x.fuse, .bool x.down, .bool x.broken], .int .i64 sc]) (by simp [results, Tryz.results12, go_sem, s0, s1, s2, s3, s4, s5, s6, s7, s8, s9, s10, s11, s12]) rfl ?_
      rw [HV.out.1, HV.out.2]; exact HO.out
  · have HV : Hid (set8K x ms ds b n = code8 x ms ds b ∧ set8O x ms ds b n = ds) := by unfold Hid; rw [HK.out, HO8.out, if_neg hc, if_neg (fun h => hc h.1)]; exact ⟨rfl, rfl⟩
    have e0 : (code8 x ms ds b != 0) = true := by simpa using hc
    have e1 : (code8 x ms ds b == 0) = false := by simpa using hc
    clear hc HK HO8
    generalize code8 x ms ds b = q at e0 e1 HV ⊢
    obtain ⟨vm, vd, cvm, cvd, Yf, mf, df, hrf, r1f, r2f⟩ := A3
    have Y0 := Yf
    unfold arrC at Y0
    obtain ⟨t0, t1, t2, t3, t4, t5, t6, t7, t8, t9, t10, t11, t12⟩ := Y0.cells13
    obtain ⟨s0, s1, s2, s3, s4, s5, s6, s7, s8, s9, s10, s11, s12⟩ := R3.cells13
    have fz := R3.frozen
    have HO := hidden (arr_outC (y := x) (code := q) (e := .returned (.tuple #[.agg (arrC x _ _), .int .i64 q])) (lo := BR + 1) B3 R3 rfl mf df hrf (fun b hb => by have := rm2 b hb; omega) (fun b hb => by have := rd2 b hb; omega) (by omega) (by omega))
    unfold arrC at HO
    simp only [puts] at HO
    clear Yf Y0 mf df R3 B3
    go_wp2
    refine bodyPost_ret (v := .tuple #[.agg #[.int .i64 x.id, .int .i64 x.n, .int .i64 x.s, .slice vm ms.length cvm, .int .i64 x.lost, .int .i64 x.built, .int .i64 x.seq, .int .i64 x.tail, .int .i64 x.gen, .slice vd ds.length cvd, .int .i64 x.fuse, .bool x.down, .bool x.broken], .int .i64 q]) (by simp [results, Tryz.results12, go_sem, s0, s1, s2, s3, s4, s5, s6, s7, s8, s9, s10, s11, s12]) rfl ?_
    rw [HV.out.1, HV.out.2]; exact HO.out

end Go.Proofs.YtjmjianlcoleaaaGreat

/-
  The walks of the laws' helpers that ask whether the marks of an array's disks, and of the array, are held. Conditions: it weighs at most 2097152, the marks from 0 on to 2097153.
-/
namespace Go.Proofs.YtjmjianlcoleaaaGreat
open Go.RowKit

set_option maxRecDepth 20000 in
set_option maxHeartbeats 1600000 in
theorem heldMemS_any (w : World) (E F : TypeId) (a : Option Addr) (n cap : Nat) (d : List MemD) (k0 : Int) (h : (tMemS E F).Rd w [.slice a n cap] (markMS k0 d)) (hw : wtMemS d ≤ 2097152) (hk : 0 ≤ k0) (hk' : k0 + (wtMemS d : Int) ≤ 2097153) :
    Calls Tryz.prog 44 #[.slice a n cap, .int .i64 k0] w fun e w' => e = .returned (.int .i64 (k0 + (cntMS d : Int))) ∧ Same w w' := by
  obtain ⟨hl, hc, hm⟩ := row_length h
  have hmL : (markMS k0 d).length = d.length := markL_length _ _ _ _
  rw [hmL] at hl
  have hnn : n ≤ 2097152 := by unfold wtMemS at hw; omega
  have hwt := cntMS_le d
  go_enter Tryz.func44, Tryz.ntmps44
  go_wp2
  go_loopw [1, 5] (fun kk i wr => ∃ j : Nat, j ≤ n ∧ i = .int .i64 j ∧ kk = .int .i64 (k0 + (sumL ((d.map cntMD).take j) : Int)) ∧ Same w wr) (fun _ i _ => n - (intOf i).toNat)
  case atStart => exact ⟨0, Nat.zero_le _, rfl, by simp [sumL], Same.refl _⟩
  case round =>
    obtain ⟨j, hj, rfl, rfl, hs⟩ := hrel
    by_cases hjn : j < n
    · have hdj : d[j]? = some (d[j]'(by omega)) := List.getElem?_eq_getElem (by omega)
      generalize d[j]'(by omega) = x at hdj
      have hst := sumL_take (l := d.map cntMD) (j := j) (x := cntMD x) (by rw [List.getElem?_map, hdj]; rfl)
      have hle := sumL_le (l := d.map cntMD) (j + 1)
      have hin := Nat.le_trans (inner_leM hdj) hw
      unfold cntMS at hwt
      have hmj := markL_at (c := cntMD) (mk := markMD) (k := k0) hdj
      have HW := hidden hst
      generalize sumL ((d.map cntMD).take j) = S at hst hmj HW
      rcases quads_at rfl h with h0' | ⟨b, off, rfl, hbl, hcs⟩
      · omega
      obtain ⟨v0, v1, v2, v3, hv0, hv1, hv2, hv3, hrv⟩ := hcs j _ hmj
      obtain ⟨ss, cs, f, bs⟩ := x
      obtain ⟨a0, c0, a1, c1, a3, c3, ss', cs', f', bs', hx, rfl, rfl, rfl, rfl, r0, r1, r3⟩ := mem_at hrv
      have hcx : cntMD (ss, cs, f, bs) = cntSS ss + cntWS cs + 1 + bs.length := rfl
      have hin0 : wtIntSS ss ≤ 2097152 := by unfold wtMem at hin; simp only at hin; omega
      have hin1 : wtWrS cs ≤ 2097152 := by unfold wtMem at hin; simp only at hin; omega
      have hin3 : bs.length ≤ 2097152 := by unfold wtMem at hin; simp only at hin; omega
      have hcw := Nat.le_of_eq (cntWS_wt cs)
      have hcw' := Nat.le_of_eq (cntWS_wt cs).symm
      have hS : k0 + (S : Int) + (cntSS ss : Int) + (cntWS cs : Int) + 1 + (bs.length : Int) ≤ 2097153 := by omega
      unfold markMD at hx
      simp only [Prod.mk.injEq] at hx
      obtain ⟨e0, e1, e2, e3⟩ := hx
      subst e0
      subst e1
      subst e3
      rw [marks_length] at hv3 r3
      have w0 := (hs.cell _).trans hv0
      have w1 := (hs.cell _).trans hv1
      have w2 := (hs.cell _).trans hv2
      have w3 := (hs.cell _).trans hv3
      have HE2 := hidden e2
      have i1 : (0 : Int) ≤ (j : Int) := by omega
      have i2 : (j : Int) < (n : Int) := by omega
      have R0 := r0.same hs
      have R1 := r1.same hs
      have R3 := r3.same hs
      clear hcs hst hdj hv0 hv1 hv2 hv3 hrv hmj e2 r0 r1 r3
      go_wp2_with fail
      refine (heldIntSS_any _ _ _ _ ss _ R0 hin0 (by omega) (by omega)).mono ?_
      rintro e u1 ⟨rfl, s1⟩
      have w1' := (s1.cell _).trans w1
      have w2' := (s1.cell _).trans w2
      have w3' := (s1.cell _).trans w3
      have R1' := R1.same s1
      have R3' := R3.same s1
      clear w0 w1 w2 w3 R0 R1 R3
      have p1 : ¬ k0 + (S : Int) + (cntSS ss : Int) < 0 := by omega
      go_wp2_with fail
      refine (heldWrS_any _ E _ _ _ cs _ R1' hin1 (by omega) (by omega)).mono ?_
      rintro e u2 ⟨rfl, s2⟩
      have w2 := (s2.cell _).trans w2'
      have w3 := (s2.cell _).trans w3'
      have R3 := ints_rd (R3'.same s2)
      clear w1' w2' w3' R1' R3'
      have hK : 0 ≤ k0 + (S : Int) + (cntSS ss : Int) + (cntWS cs : Int) ∧ k0 + (S : Int) + (cntSS ss : Int) + (cntWS cs : Int) ≤ 2097153 := by omega
      have HKK : Hid (k0 + (S : Int) + (cntSS ss : Int) + (cntWS cs : Int) + 1 + (bs.length : Int) = k0 + ((S + cntMD (ss, cs, f, bs) : Nat) : Int)) := by unfold Hid; rw [hcx]; omega
      generalize hKd : k0 + (S : Int) + (cntSS ss : Int) + (cntWS cs : Int) = K at hK HKK HE2 R3 hS ⊢
      clear hKd
      have p2 : ¬ K < 0 := by omega
      have t1 : K.tmod 3 = K % 3 := Int.tmod_eq_emod_of_nonneg hK.1
      have t2 : IntKind.i64.wrap (K % 3) = K % 3 := IntWalk.i64_in _ (by omega)
      have t3 : IntKind.i64.wrap (K + 1) = K + 1 := IntWalk.i64_in _ (by omega)
      have p3 : ¬ K + 1 + (bs.length : Int) < 0 := by omega
      have t4 : f' = (K % 3 == 0) := by rw [← HE2.out]; rfl
      have t5 : ((K % 3 == 0) != (K % 3 == 0)) = false := by simp
      have t6 : ((K % 3 == 0) == (K % 3 == 0)) = true := by simp
      subst t4
      clear HE2
      go_wp2_with fail
      refine (heldIntS_any _ _ _ _ _ R3.1 (by omega) (by omega) (by omega)).mono ?_
      rintro e u3 ⟨rfl, s3⟩
      have HS := hidden (((hs.trans s1).trans s2).trans s3)
      clear s1 s2 s3 hs R3 w2 w3
      go_wp2
      go_roundw
      case rel => exact ⟨j + 1, by omega, by go_num, by rw [HW.out, HKK.out], HS.out⟩
      case measure => simp [intOf]; omega
    · have ej : j = n := by omega
      subst ej
      have ht : (d.map cntMD).take j = d.map cntMD := List.take_of_length_le (by simp; omega)
      have HT : Hid (k0 + (sumL ((d.map cntMD).take j) : Int) = k0 + (cntMS d : Int)) := by unfold Hid cntMS; rw [ht]
      clear ht
      go_wp2
      go_ret
      exact ⟨ret_int HT.out, hs⟩

set_option maxRecDepth 20000 in
set_option maxHeartbeats 1600000 in
theorem heldArr_any (w : World) (E F G : TypeId) (x : ArrN) (bm bd : Option Addr) (nm cm nd cd : Nat) (ms : List MemD) (ds : List (Int × List Int)) (h0 : (tMemS E F).Rd w [.slice bm nm cm] (markMS 1 ms)) (h1 : (tWrS G).Rd w [.slice bd nd cd] (markW (1 + (cntMS ms : Int)) ds)) (hw : wtArr ms ds ≤ 2097152) :
    Calls Tryz.prog 15 #[.agg #[.int .i64 x.id, .int .i64 x.n, .int .i64 x.s, .slice bm nm cm, .int .i64 x.lost, .int .i64 x.built, .int .i64 x.seq, .int .i64 x.tail, .int .i64 x.gen, .slice bd nd cd, .int .i64 x.fuse, .bool x.down, .bool x.broken], .int .i64 1] w fun e w' => e = .returned (.int .i64 (1 + (cntMS ms : Int) + (cntWS ds : Int))) ∧ Below w.heap.size w w' := by
  have hw0 : wtMemS ms ≤ 2097152 := by unfold wtArr at hw; omega
  have hw1 : wtWrS ds ≤ 2097152 := by unfold wtArr at hw; omega
  have hws : wtMemS ms + wtWrS ds ≤ 2097152 := by unfold wtArr at hw; omega
  have hcm := cntMS_le ms
  have hA := new_below w (.cells #[.int .i64 x.id, .int .i64 x.n, .int .i64 x.s, .slice bm nm cm, .int .i64 x.lost, .int .i64 x.built, .int .i64 x.seq, .int .i64 x.tail, .int .i64 x.gen, .slice bd nd cd, .int .i64 x.fuse, .bool x.down, .bool x.broken] 35)
  have X := Box.new w 35 #[.int .i64 x.id, .int .i64 x.n, .int .i64 x.s, .slice bm nm cm, .int .i64 x.lost, .int .i64 x.built, .int .i64 x.seq, .int .i64 x.tail, .int .i64 x.gen, .slice bd nd cd, .int .i64 x.fuse, .bool x.down, .bool x.broken]
  obtain ⟨k0, k1, k2, k3, k4, k5, k6, k7, k8, k9, k10, k11, k12⟩ := X.cells13
  have r0 := h0.below hA
  have r1 := h1.below hA
  go_enter Tryz.func15, Tryz.ntmps15
  go_wp2_with fail
  generalize w.alloc (.cells #[.int .i64 x.id, .int .i64 x.n, .int .i64 x.s, .slice bm nm cm, .int .i64 x.lost, .int .i64 x.built, .int .i64 x.seq, .int .i64 x.tail, .int .i64 x.gen, .slice bd nd cd, .int .i64 x.fuse, .bool x.down, .bool x.broken] 35) = W at hA X r0 r1 k0 k1 k2 k3 k4 k5 k6 k7 k8 k9 k10 k11 k12 ⊢
  refine (heldMemS_any _ E F _ _ _ ms _ r0 hw0 (by omega) (by omega)).mono ?_
  rintro e w1 ⟨rfl, s1⟩
  have X1 := X.same s1
  have r2 := r1.same s1
  have B1 := Below.andSame hA s1
  clear k0 k1 k2 k3 k4 k5 k6 k7 k8 k9 k10 k11 k12 X r0 r1 s1 hA
  obtain ⟨k0, k1, k2, k3, k4, k5, k6, k7, k8, k9, k10, k11, k12⟩ := X1.cells13
  have p1 : ¬ 1 + (cntMS ms : Int) < 0 := by omega
  go_wp2_with fail
  refine (heldEntS_any _ G _ _ _ ds _ r2 hw1 (by omega) (by omega)).mono ?_
  rintro e w2 ⟨rfl, s2⟩
  have B2 := Below.andSame B1 s2
  have p2 : ¬ 1 + (cntMS ms : Int) + (cntWS ds : Int) < 0 := by omega
  clear k0 k1 k2 k3 k4 k5 k6 k7 k8 k9 k10 k11 k12 X1 r2 s2 B1
  go_wp2
  go_ret
  exact ⟨rfl, B2⟩

end Go.Proofs.YtjmjianlcoleaaaGreat

/-
  What the functions of chapter 8 make weighs no more than is asked: plain lemmas. No condition; nothing of the program is named here.
-/
namespace Go.Proofs.YtjmjianlcoleaaaGreat
open Go.RowKit

theorem cntA_le {ms : List MemD} {ds : List (Int × List Int)} (h : wtArr ms ds ≤ 1048576) : cntMS ms + cntWS ds ≤ 1048576 := by
  have h1 := cntMS_le ms
  have h2 := Nat.le_of_eq (cntWS_wt ds)
  unfold wtArr at h
  omega
theorem sumL_append (a b : List Nat) : sumL (a ++ b) = sumL a + sumL b := by
  induction a with
  | nil => simp [sumL]
  | cons x a ih =>
    simp only [List.cons_append, sumL, List.foldr_cons] at *
    omega
theorem wtWrS_append (a b : List EntD) : wtWrS (a ++ b) = wtWrS a + wtWrS b := by
  unfold wtWrS
  rw [List.map_append, sumL_append, List.length_append]
  omega
theorem wtWrS_drop (l : List EntD) (k : Nat) : wtWrS (l.take k) + wtWrS (l.drop k) = wtWrS l := by
  rw [← wtWrS_append, List.take_append_drop]
theorem wtWrS_drop1 (l : List EntD) (k : Nat) : wtWrS (l.drop (k + 1)) ≤ wtWrS (l.drop k) := by
  have := wtWrS_drop (l.drop k) 1
  rw [List.drop_drop] at this
  omega
/-- There is such a place. -/
theorem spot_is {ds : List EntD} (ha : Asc8 ds) (t : Int) : ∃ k r, Spot ds t k r := by
  have h : ∀ m, m ≤ ds.length → (∃ k, k ≤ m ∧ (∀ (i : Nat) (e : EntD), i < k → ds[i]? = some e → e.1 < t) ∧ (∀ (i : Nat) (e : EntD), k ≤ i → i < m → ds[i]? = some e → t ≤ e.1)) := by
    intro m
    induction m with
    | zero => intro _; exact ⟨0, Nat.le_refl _, fun i e hi => by omega, fun i e _ hi => by omega⟩
    | succ m ih =>
      intro hm
      obtain ⟨k, hk, h1, h2⟩ := ih (by omega)
      have hmm := List.getElem?_eq_getElem (show m < ds.length by omega)
      by_cases hlt : (ds[m]'(by omega)).1 < t
      · refine ⟨m + 1, Nat.le_refl _, fun i e hi he => ?_, fun i e h3 h4 => by omega⟩
        by_cases him : i = m
        · subst him
          rw [hmm] at he
          simp at he
          rw [← he]
          exact hlt
        · have := ha.1 i m e _ (by omega) he hmm
          omega
      · refine ⟨k, by omega, h1, fun i e h3 h4 he => ?_⟩
        by_cases him : i = m
        · subst him
          rw [hmm] at he
          simp at he
          rw [← he]
          omega
        · exact h2 i e h3 (by omega) he
  obtain ⟨k, hk, h1, h2⟩ := h ds.length (Nat.le_refl _)
  have h3 : ∀ (i : Nat) (e : EntD), k ≤ i → ds[i]? = some e → t ≤ e.1 := fun i e hi he => h2 i e hi (List.getElem?_eq_some_iff.1 he).1 he
  cases hkd : ds[k]? with
  | none => exact ⟨k, false, hk, h1, h3, .inr ⟨rfl, fun e he => by rw [hkd] at he; cases he⟩⟩
  | some d =>
    by_cases hd : d.1 = t
    · exact ⟨k, true, hk, h1, h3, .inl ⟨rfl, d, hkd, hd⟩⟩
    · exact ⟨k, false, hk, h1, h3, .inr ⟨rfl, fun e he => by rw [hkd] at he; cases he; exact hd⟩⟩
theorem set8O_wt {x : ArrN} {ms : List MemD} {ds : List EntD} {b n : Int} (hw : wtArr ms ds ≤ 1048576) : wtArr ms (set8O x ms ds b n) ≤ 2097152 := by
  unfold set8O
  split
  · rename_i h
    obtain ⟨_, ha, _, hb⟩ := code_gb h.1
    unfold setB8
    split
    · rename_i hk
      have hlen := dat8_len (s := stripeN x.n x.s b) ha hk
      have hg := geoB_iff.1 (arr_geo ha)
      have hs := block_in (arr_geo ha) hb
      generalize dat8 x ms ds (stripeN x.n x.s b) = zs at hlen ⊢
      generalize (indexN x.n x.s b).toNat = i
      have hl : (zs.set i n).length ≤ 4 := by rw [List.length_set]; omega
      generalize zs.set i n = ys at hl ⊢
      obtain ⟨k, r, hp⟩ : ∃ k r, Spot ds (stripeN x.n x.s b) k r := spot_is (arr_asc ha) _
      rw [put8_at (arr_asc ha) hp]
      unfold wtArr at hw ⊢
      rw [wtWrS_append, wtWrS_append]
      have h1 := wtWrS_drop ds k
      have h2 := wtWrS_drop1 ds k
      have h3 : wtWrS [(stripeN x.n x.s b, ys)] ≤ 5 := by
        unfold wtWrS
        simp [sumL]
        omega
      split <;> omega
    · omega
  · omega

end Go.Proofs.YtjmjianlcoleaaaGreat

/-
  The walk of the exact law of SetBlock: at every array it answers true, and nothing that was there has turned. No condition.
-/
namespace Go.Proofs.YtjmjianlcoleaaaGreat
open Go.RowKit

set_option linter.unusedSimpArgs false in
set_option maxRecDepth 20000 in
set_option maxHeartbeats 4000000 in
theorem fnExactSetBlock_walk (x : ArrN) (am ad : Option Addr) (nm cm nd cd : Nat) (ms : List MemD) (ds : List (Int × List Int)) (b : Int) (n : Int) (w : World) (h0 : (tMemS 141 80).Rd w [.slice am nm cm] ms) (h1 : (tWrS 82).Rd w [.slice ad nd cd] ds) :
    Calls Tryz.prog 4 #[.agg #[.int .i64 x.id, .int .i64 x.n, .int .i64 x.s, .slice am nm cm, .int .i64 x.lost, .int .i64 x.built, .int .i64 x.seq, .int .i64 x.tail, .int .i64 x.gen, .slice ad nd cd, .int .i64 x.fuse, .bool x.down, .bool x.broken], .int .i64 b, .int .i64 n] w fun e w' => e = .returned (.bool true) ∧ Below w.heap.size w w' := by
  have hA := new_below w (.cells #[.int .i64 x.id, .int .i64 x.n, .int .i64 x.s, .slice am nm cm, .int .i64 x.lost, .int .i64 x.built, .int .i64 x.seq, .int .i64 x.tail, .int .i64 x.gen, .slice ad nd cd, .int .i64 x.fuse, .bool x.down, .bool x.broken] 27)
  have xm := Box.new w 27 #[.int .i64 x.id, .int .i64 x.n, .int .i64 x.s, .slice am nm cm, .int .i64 x.lost, .int .i64 x.built, .int .i64 x.seq, .int .i64 x.tail, .int .i64 x.gen, .slice ad nd cd, .int .i64 x.fuse, .bool x.down, .bool x.broken]
  have z0 := xm.lt
  have B0 := hidden hA
  have BR0 := hidden xm
  obtain ⟨l0, l1, l2, l3, l4, l5, l6, l7, l8, l9, l10, l11, l12⟩ := xm.cells13
  go_enter Tryz.func4, Tryz.ntmps4
  go_wp2_with fail
  generalize w.alloc (.cells #[.int .i64 x.id, .int .i64 x.n, .int .i64 x.s, .slice am nm cm, .int .i64 x.lost, .int .i64 x.built, .int .i64 x.seq, .int .i64 x.tail, .int .i64 x.gen, .slice ad nd cd, .int .i64 x.fuse, .bool x.down, .bool x.broken] 27) = w0 at hA xm z0 B0 BR0 l0 l1 l2 l3 l4 l5 l6 l7 l8 l9 l10 l11 l12 ⊢
  clear hA xm
  refine (szArr_any _ 141 80 82 x _ _ _ _ _ _ ms ds _ (h0.below B0.out) (h1.below B0.out) (by omega) (by omega)).mono ?_
  rintro e w1 ⟨rfl, hb1⟩
  clear l0 l1 l2 l3 l4 l5 l6 l7 l8 l9 l10 l11 l12
  have B1 := hidden (Below.andThen B0.out hb1)
  have BR1 := hidden (BR0.out.below hb1 (by omega))
  have z1 := hb1.size
  clear B0 BR0 hb1
  by_cases hwt : (wtArr ms ds : Int) ≤ 1048576
  · have hq := leftOf_pos hwt
    have hwt' : wtArr ms ds ≤ 1048576 := by omega
    have hwt2 : wtArr ms ds ≤ 2097152 := by omega
    have hwq0 := set8O_wt (x := x) (b := b) (n := n) hwt'
    obtain ⟨y, ns, hq0⟩ : ∃ (y : ArrN) (ns : List MemD), (x, ms) = (y, ns) := ⟨_, _, rfl⟩
    obtain ⟨es, hqd⟩ : ∃ es, set8O x ms ds b n = es := ⟨_, rfl⟩
    have HQ := hidden hq0
    have HQD := hidden hqd
    have hwq : wtArr ns es ≤ 2097152 := by rw [hqd] at hwq0; rw [show ns = (y, ns).2 from rfl, ← hq0]; exact hwq0
    obtain ⟨sc, hsc⟩ : ∃ sc, set8K x ms ds b n = sc := ⟨_, rfl⟩
    have HQC := hidden hsc
    clear hq0 hwq0 hsc hqd
    have hne : (sc != sc) = false := by simp
    have hwt3 : wtArr ms ds ≤ 2000000 := by omega
    have hcle := cntA_le hwt'
    obtain ⟨l0, l1, l2, l3, l4, l5, l6, l7, l8, l9, l10, l11, l12⟩ := BR1.out.cells13
    go_wp2_with fail
    refine (toArr_any _ 141 80 82 x _ _ _ _ _ _ ms ds (h0.below B1.out) (h1.below B1.out) hwt').mono ?_
    rintro e w2 ⟨bm2, bd2, rfl, om2, od2, ya2, yb2, hb2⟩
    clear l0 l1 l2 l3 l4 l5 l6 l7 l8 l9 l10 l11 l12
    have B2 := hidden (Below.andThen B1.out hb2)
    have BR2 := hidden (BR1.out.below hb2 (by omega))
    have z2 := hb2.size
    clear B1 BR1 hb2
    have Cm2 := hidden om2
    clear om2
    have Cd2 := hidden od2
    clear od2
    go_wp2_with fail
    refine (specSetBlock_any _ 123 87 65 x _ _ _ _ _ _ ms ds Cm2.out.rd Cd2.out.rd hwt2 b n).mono ?_
    rintro e w3 ho3
    rw [HQ.out, HQC.out, HQD.out] at ho3
    obtain ⟨a3, d3, c3, b3, rfl, o3, hb3⟩ := ho3
    dsimp only at o3
    unfold arrC
    have B3 := hidden (Below.andThen B2.out hb3)
    have BR3 := hidden (BR2.out.below hb3 (by omega))
    have Cm3 := hidden (Cm2.out.below hb3)
    have Cd3 := hidden (Cd2.out.below hb3)
    have z3 := hb3.size
    clear B2 BR2 Cm2 Cd2 hb3
    have W3 := hidden o3
    clear o3
    clear Cm3
    clear Cd3
    have ba : Below w3.heap.size w3 (w3.alloc (.cells #[.int .i64 y.id, .int .i64 y.n, .int .i64 y.s, .slice a3 ns.length c3, .int .i64 y.lost, .int .i64 y.built, .int .i64 y.seq, .int .i64 y.tail, .int .i64 y.gen, .slice d3 es.length b3, .int .i64 y.fuse, .bool y.down, .bool y.broken] 35)) := (Below.refl _ _).alloc (Nat.le_refl _) _
    have xb := Box.new w3 35 #[.int .i64 y.id, .int .i64 y.n, .int .i64 y.s, .slice a3 ns.length c3, .int .i64 y.lost, .int .i64 y.built, .int .i64 y.seq, .int .i64 y.tail, .int .i64 y.gen, .slice d3 es.length b3, .int .i64 y.fuse, .bool y.down, .bool y.broken]
    have zx4 := xb.lt
    have B4 := hidden (Below.andThen B3.out ba)
    have BR4 := hidden (BR3.out.below ba (by omega))
    have W4 := hidden (W3.out.below ba)
    have z4 := ba.size
    clear B3 BR3 W3 ba
    have WB4 := hidden xb
    clear xb
    obtain ⟨l0, l1, l2, l3, l4, l5, l6, l7, l8, l9, l10, l11, l12⟩ := BR4.out.cells13
    go_wp2_with fail
    generalize w3.alloc (.cells #[.int .i64 y.id, .int .i64 y.n, .int .i64 y.s, .slice a3 ns.length c3, .int .i64 y.lost, .int .i64 y.built, .int .i64 y.seq, .int .i64 y.tail, .int .i64 y.gen, .slice d3 es.length b3, .int .i64 y.fuse, .bool y.down, .bool y.broken] 35) = w4 at B4 BR4 W4 WB4 z4 zx4 l0 l1 l2 l3 l4 l5 l6 l7 l8 l9 l10 l11 l12 ⊢
    refine (toArr_any _ 141 80 82 x _ _ _ _ _ _ ms ds (h0.below B4.out) (h1.below B4.out) hwt').mono ?_
    rintro e w5 ⟨bm5, bd5, rfl, om5, od5, ya5, yb5, hb5⟩
    clear l0 l1 l2 l3 l4 l5 l6 l7 l8 l9 l10 l11 l12
    have B5 := hidden (Below.andThen B4.out hb5)
    have BR5 := hidden (BR4.out.below hb5 (by omega))
    have W5 := hidden (W4.out.below hb5)
    have WB5 := hidden (WB4.out.below hb5 (by omega))
    have z5 := hb5.size
    clear B4 BR4 W4 WB4 hb5
    have Dm5 := hidden om5
    clear om5
    have Dd5 := hidden od5
    clear od5
    have ba : Below w5.heap.size w5 (w5.alloc (.cells #[.int .i64 x.id, .int .i64 x.n, .int .i64 x.s, .slice (some ⟨bm5, 0, none⟩) nm nm, .int .i64 x.lost, .int .i64 x.built, .int .i64 x.seq, .int .i64 x.tail, .int .i64 x.gen, .slice (some ⟨bd5, 0, none⟩) nd nd, .int .i64 x.fuse, .bool x.down, .bool x.broken] 35)) := (Below.refl _ _).alloc (Nat.le_refl _) _
    have xb := Box.new w5 35 #[.int .i64 x.id, .int .i64 x.n, .int .i64 x.s, .slice (some ⟨bm5, 0, none⟩) nm nm, .int .i64 x.lost, .int .i64 x.built, .int .i64 x.seq, .int .i64 x.tail, .int .i64 x.gen, .slice (some ⟨bd5, 0, none⟩) nd nd, .int .i64 x.fuse, .bool x.down, .bool x.broken]
    have zx := xb.lt
    have B6 := hidden (Below.andThen B5.out ba)
    have BR6 := hidden (BR5.out.below ba (by omega))
    have W6 := hidden (W5.out.below ba)
    have WB6 := hidden (WB5.out.below ba (by omega))
    have Dm6 := hidden (Dm5.out.below ba)
    have Dd6 := hidden (Dd5.out.below ba)
    have z6 := ba.size
    clear B5 BR5 W5 WB5 Dm5 Dd5 ba
    have BX6 := hidden xb
    clear xb
    obtain ⟨q0, q1, q2, q3, q4, q5, q6, q7, q8, q9, q10, q11, q12⟩ := BX6.out.cells13
    go_wp2_with fail
    generalize w5.alloc (.cells #[.int .i64 x.id, .int .i64 x.n, .int .i64 x.s, .slice (some ⟨bm5, 0, none⟩) nm nm, .int .i64 x.lost, .int .i64 x.built, .int .i64 x.seq, .int .i64 x.tail, .int .i64 x.gen, .slice (some ⟨bd5, 0, none⟩) nd nd, .int .i64 x.fuse, .bool x.down, .bool x.broken] 35) = w6 at B6 BR6 W6 WB6 Dm6 Dd6 BX6 z6 zx q0 q1 q2 q3 q4 q5 q6 q7 q8 q9 q10 q11 q12 ⊢
    refine (implSetBlock_any _ 123 87 65 x _ _ _ _ _ _ ms ds Dm6.out.rd Dd6.out.rd hwt2 b n).mono ?_
    rintro e w7 ho7
    rw [HQ.out, HQC.out, HQD.out] at ho7
    obtain ⟨a7, d7, c7, b7, rfl, o7, hb7⟩ := ho7
    dsimp only at o7
    unfold arrC
    have B7 := hidden (Below.andThen B6.out hb7)
    have BR7 := hidden (BR6.out.below hb7 (by omega))
    have W7 := hidden (W6.out.below hb7)
    have WB7 := hidden (WB6.out.below hb7 (by omega))
    have Dm7 := hidden (Dm6.out.below hb7)
    have Dd7 := hidden (Dd6.out.below hb7)
    have BX7 := hidden (BX6.out.below hb7 (by omega))
    have z7 := hb7.size
    clear B6 BR6 W6 WB6 Dm6 Dd6 BX6 hb7
    have G7 := hidden o7
    clear o7
    clear q0 q1 q2 q3 q4 q5 q6 q7 q8 q9 q10 q11 q12
    have ba : Below w7.heap.size w7 (w7.alloc (.cells #[.int .i64 y.id, .int .i64 y.n, .int .i64 y.s, .slice a7 ns.length c7, .int .i64 y.lost, .int .i64 y.built, .int .i64 y.seq, .int .i64 y.tail, .int .i64 y.gen, .slice d7 es.length b7, .int .i64 y.fuse, .bool y.down, .bool y.broken] 35)) := (Below.refl _ _).alloc (Nat.le_refl _) _
    have xb := Box.new w7 35 #[.int .i64 y.id, .int .i64 y.n, .int .i64 y.s, .slice a7 ns.length c7, .int .i64 y.lost, .int .i64 y.built, .int .i64 y.seq, .int .i64 y.tail, .int .i64 y.gen, .slice d7 es.length b7, .int .i64 y.fuse, .bool y.down, .bool y.broken]
    have zx8 := xb.lt
    have B8 := hidden (Below.andThen B7.out ba)
    have BR8 := hidden (BR7.out.below ba (by omega))
    have W8 := hidden (W7.out.below ba)
    have WB8 := hidden (WB7.out.below ba (by omega))
    have Dm8 := hidden (Dm7.out.below ba)
    have Dd8 := hidden (Dd7.out.below ba)
    have BX8 := hidden (BX7.out.below ba (by omega))
    have G8 := hidden (G7.out.below ba)
    have z8 := ba.size
    clear B7 BR7 W7 WB7 Dm7 Dd7 BX7 G7 ba
    have GB8 := hidden xb
    clear xb
    obtain ⟨p0, p1, p2, p3, p4, p5, p6, p7, p8, p9, p10, p11, p12⟩ := GB8.out.cells13
    obtain ⟨q0, q1, q2, q3, q4, q5, q6, q7, q8, q9, q10, q11, q12⟩ := WB8.out.cells13
    go_wp2_with fail
    generalize w7.alloc (.cells #[.int .i64 y.id, .int .i64 y.n, .int .i64 y.s, .slice a7 ns.length c7, .int .i64 y.lost, .int .i64 y.built, .int .i64 y.seq, .int .i64 y.tail, .int .i64 y.gen, .slice d7 es.length b7, .int .i64 y.fuse, .bool y.down, .bool y.broken] 35) = w8 at B8 BR8 W8 WB8 Dm8 Dd8 BX8 G8 GB8 z8 zx8 p0 p1 p2 p3 p4 p5 p6 p7 p8 p9 p10 p11 p12 q0 q1 q2 q3 q4 q5 q6 q7 q8 q9 q10 q11 q12 ⊢
    refine (eqArr_same _ 123 123 87 87 65 65 y _ _ _ _ _ _ _ _ _ _ _ _ ns es G8.out.rdm G8.out.rdd W8.out.rdm W8.out.rdd hwq).mono ?_
    rintro e w9 ⟨rfl, hb9⟩
    clear p0 p1 p2 p3 p4 p5 p6 p7 p8 p9 p10 p11 p12 q0 q1 q2 q3 q4 q5 q6 q7 q8 q9 q10 q11 q12
    have B9 := hidden (Below.andThen B8.out hb9)
    have BR9 := hidden (BR8.out.below hb9 (by omega))
    have W9 := hidden (W8.out.below hb9)
    have WB9 := hidden (WB8.out.below hb9 (by omega))
    have Dm9 := hidden (Dm8.out.below hb9)
    have Dd9 := hidden (Dd8.out.below hb9)
    have BX9 := hidden (BX8.out.below hb9 (by omega))
    have G9 := hidden (G8.out.below hb9)
    have GB9 := hidden (GB8.out.below hb9 (by omega))
    have z9 := hb9.size
    clear B8 BR8 W8 WB8 Dm8 Dd8 BX8 G8 GB8 hb9
    obtain ⟨y0, y1, y2, y3, y4, y5, y6, y7, y8, y9, y10, y11, y12⟩ := BX9.out.cells13
    obtain ⟨l0, l1, l2, l3, l4, l5, l6, l7, l8, l9, l10, l11, l12⟩ := BR9.out.cells13
    have zl := BR9.out.lt
    have zy := BX9.out.lt
    go_wp2_with fail
    refine wp_region_held_drew (S := fun w' => w'.cell? ⟨w5.heap.size, 0, none⟩ = some (.int .i64 x.id) ∧ w'.cell? ⟨w5.heap.size, 1, none⟩ = some (.int .i64 x.n) ∧ w'.cell? ⟨w5.heap.size, 2, none⟩ = some (.int .i64 x.s) ∧ w'.cell? ⟨w5.heap.size, 3, none⟩ = some (.slice (some ⟨bm5, 0, none⟩) nm nm) ∧ w'.cell? ⟨w5.heap.size, 4, none⟩ = some (.int .i64 x.lost) ∧ w'.cell? ⟨w5.heap.size, 5, none⟩ = some (.int .i64 x.built) ∧ w'.cell? ⟨w5.heap.size, 6, none⟩ = some (.int .i64 x.seq) ∧ w'.cell? ⟨w5.heap.size, 7, none⟩ = some (.int .i64 x.tail) ∧ w'.cell? ⟨w5.heap.size, 8, none⟩ = some (.int .i64 x.gen) ∧ w'.cell? ⟨w5.heap.size, 9, none⟩ = some (.slice (some ⟨bd5, 0, none⟩) nd nd) ∧ w'.cell? ⟨w5.heap.size, 10, none⟩ = some (.int .i64 x.fuse) ∧ w'.cell? ⟨w5.heap.size, 11, none⟩ = some (.bool x.down) ∧ w'.cell? ⟨w5.heap.size, 12, none⟩ = some (.bool x.broken) ∧ w'.cell? ⟨w.heap.size, 0, none⟩ = some (.int .i64 x.id) ∧ w'.cell? ⟨w.heap.size, 1, none⟩ = some (.int .i64 x.n) ∧ w'.cell? ⟨w.heap.size, 2, none⟩ = some (.int .i64 x.s) ∧ w'.cell? ⟨w.heap.size, 3, none⟩ = some (.slice am nm cm) ∧ w'.cell? ⟨w.heap.size, 4, none⟩ = some (.int .i64 x.lost) ∧ w'.cell? ⟨w.heap.size, 5, none⟩ = some (.int .i64 x.built) ∧ w'.cell? ⟨w.heap.size, 6, none⟩ = some (.int .i64 x.seq) ∧ w'.cell? ⟨w.heap.size, 7, none⟩ = some (.int .i64 x.tail) ∧ w'.cell? ⟨w.heap.size, 8, none⟩ = some (.int .i64 x.gen) ∧ w'.cell? ⟨w.heap.size, 9, none⟩ = some (.slice ad nd cd) ∧ w'.cell? ⟨w.heap.size, 10, none⟩ = some (.int .i64 x.fuse) ∧ w'.cell? ⟨w.heap.size, 11, none⟩ = some (.bool x.down) ∧ w'.cell? ⟨w.heap.size, 12, none⟩ = some (.bool x.broken)) (by kernel_rfl) ?_ (fun hHeld => ?_)
    · exact ⟨y0, y1, y2, y3, y4, y5, y6, y7, y8, y9, y10, y11, y12, l0, l1, l2, l3, l4, l5, l6, l7, l8, l9, l10, l11, l12⟩
    refine held_take (i := 0) (v := ?_) rfl (by kernel_rfl) (by kernel_rfl) (by kernel_rfl) (fun _ _ _ h => h) (by kernel_rfl) ?_ hHeld ?_
    rotate_left 1
    · (intro w hSw; (try dsimp only at hSw); go_split_ands; go_simp; first | done | with_reducible rfl)
    simp only [Act.put, List.setIfInBounds_toArray, List.set_cons_zero, List.set_cons_succ]
    refine held_take (i := 1) (v := ?_) rfl (by kernel_rfl) (by kernel_rfl) (by kernel_rfl) (fun _ _ _ h => h) (by kernel_rfl) ?_ hHeld ?_
    rotate_left 1
    · (intro w hSw; (try dsimp only at hSw); go_split_ands; go_simp; first | done | with_reducible rfl)
    simp only [Act.put, List.setIfInBounds_toArray, List.set_cons_zero, List.set_cons_succ]
    refine held_one (i := 2) (by kernel_rfl) rfl (by kernel_rfl) (fun K hK => ?_)
    go_simp
    refine (toArr_any _ 141 80 82 x _ _ _ _ _ _ ms ds (h0.below B9.out).drew (h1.below B9.out).drew hwt').mono ?_
    rintro e w10 ⟨bm10, bd10, rfl, om10, od10, ya10, yb10, hb10⟩
    have hb10' : Below w9.heap.size w9 w10 := (Below.refl w9.heap.size w9).drew.trans hb10
    go_wp2_with fail
    clear hHeld
    refine hK.out _ _ ?_ (fun hHeld => ?_)
    · exact ⟨(hb10'.cell (p := ⟨w5.heap.size, 0, none⟩) zy).trans y0, (hb10'.cell (p := ⟨w5.heap.size, 1, none⟩) zy).trans y1, (hb10'.cell (p := ⟨w5.heap.size, 2, none⟩) zy).trans y2, (hb10'.cell (p := ⟨w5.heap.size, 3, none⟩) zy).trans y3, (hb10'.cell (p := ⟨w5.heap.size, 4, none⟩) zy).trans y4, (hb10'.cell (p := ⟨w5.heap.size, 5, none⟩) zy).trans y5, (hb10'.cell (p := ⟨w5.heap.size, 6, none⟩) zy).trans y6, (hb10'.cell (p := ⟨w5.heap.size, 7, none⟩) zy).trans y7, (hb10'.cell (p := ⟨w5.heap.size, 8, none⟩) zy).trans y8, (hb10'.cell (p := ⟨w5.heap.size, 9, none⟩) zy).trans y9, (hb10'.cell (p := ⟨w5.heap.size, 10, none⟩) zy).trans y10, (hb10'.cell (p := ⟨w5.heap.size, 11, none⟩) zy).trans y11, (hb10'.cell (p := ⟨w5.heap.size, 12, none⟩) zy).trans y12, (hb10'.cell (p := ⟨w.heap.size, 0, none⟩) zl).trans l0, (hb10'.cell (p := ⟨w.heap.size, 1, none⟩) zl).trans l1, (hb10'.cell (p := ⟨w.heap.size, 2, none⟩) zl).trans l2, (hb10'.cell (p := ⟨w.heap.size, 3, none⟩) zl).trans l3, (hb10'.cell (p := ⟨w.heap.size, 4, none⟩) zl).trans l4, (hb10'.cell (p := ⟨w.heap.size, 5, none⟩) zl).trans l5, (hb10'.cell (p := ⟨w.heap.size, 6, none⟩) zl).trans l6, (hb10'.cell (p := ⟨w.heap.size, 7, none⟩) zl).trans l7, (hb10'.cell (p := ⟨w.heap.size, 8, none⟩) zl).trans l8, (hb10'.cell (p := ⟨w.heap.size, 9, none⟩) zl).trans l9, (hb10'.cell (p := ⟨w.heap.size, 10, none⟩) zl).trans l10, (hb10'.cell (p := ⟨w.heap.size, 11, none⟩) zl).trans l11, (hb10'.cell (p := ⟨w.heap.size, 12, none⟩) zl).trans l12⟩
    clear hK K
    refine held_one (i := 3) (by kernel_rfl) rfl (by kernel_rfl) (fun K hK => ?_)
    go_simp
    refine (eqArr_same _ 123 123 87 87 65 65 x _ _ _ _ _ _ _ _ _ _ _ _ ms ds (Dm9.out.below hb10').rd (Dd9.out.below hb10').rd om10.rd od10.rd hwt2).mono ?_
    rintro e w11 ⟨rfl, hb11⟩
    have hb11' : Below w9.heap.size w9 w11 := Below.andThen hb10' hb11
    go_wp2_with fail
    clear hHeld
    refine hK.out _ _ ?_ (fun hHeld => ?_)
    · exact ⟨(hb11'.cell (p := ⟨w5.heap.size, 0, none⟩) zy).trans y0, (hb11'.cell (p := ⟨w5.heap.size, 1, none⟩) zy).trans y1, (hb11'.cell (p := ⟨w5.heap.size, 2, none⟩) zy).trans y2, (hb11'.cell (p := ⟨w5.heap.size, 3, none⟩) zy).trans y3, (hb11'.cell (p := ⟨w5.heap.size, 4, none⟩) zy).trans y4, (hb11'.cell (p := ⟨w5.heap.size, 5, none⟩) zy).trans y5, (hb11'.cell (p := ⟨w5.heap.size, 6, none⟩) zy).trans y6, (hb11'.cell (p := ⟨w5.heap.size, 7, none⟩) zy).trans y7, (hb11'.cell (p := ⟨w5.heap.size, 8, none⟩) zy).trans y8, (hb11'.cell (p := ⟨w5.heap.size, 9, none⟩) zy).trans y9, (hb11'.cell (p := ⟨w5.heap.size, 10, none⟩) zy).trans y10, (hb11'.cell (p := ⟨w5.heap.size, 11, none⟩) zy).trans y11, (hb11'.cell (p := ⟨w5.heap.size, 12, none⟩) zy).trans y12, (hb11'.cell (p := ⟨w.heap.size, 0, none⟩) zl).trans l0, (hb11'.cell (p := ⟨w.heap.size, 1, none⟩) zl).trans l1, (hb11'.cell (p := ⟨w.heap.size, 2, none⟩) zl).trans l2, (hb11'.cell (p := ⟨w.heap.size, 3, none⟩) zl).trans l3, (hb11'.cell (p := ⟨w.heap.size, 4, none⟩) zl).trans l4, (hb11'.cell (p := ⟨w.heap.size, 5, none⟩) zl).trans l5, (hb11'.cell (p := ⟨w.heap.size, 6, none⟩) zl).trans l6, (hb11'.cell (p := ⟨w.heap.size, 7, none⟩) zl).trans l7, (hb11'.cell (p := ⟨w.heap.size, 8, none⟩) zl).trans l8, (hb11'.cell (p := ⟨w.heap.size, 9, none⟩) zl).trans l9, (hb11'.cell (p := ⟨w.heap.size, 10, none⟩) zl).trans l10, (hb11'.cell (p := ⟨w.heap.size, 11, none⟩) zl).trans l11, (hb11'.cell (p := ⟨w.heap.size, 12, none⟩) zl).trans l12⟩
    clear hK K
    refine held_take (i := 4) (v := ?_) rfl (by kernel_rfl) (by kernel_rfl) (by kernel_rfl) (fun _ _ _ h => h) (by kernel_rfl) ?_ hHeld ?_
    rotate_left 1
    · (intro w hSw; (try dsimp only at hSw); go_split_ands; go_simp; first | done | with_reducible rfl)
    simp only [Act.put, List.setIfInBounds_toArray, List.set_cons_zero, List.set_cons_succ]
    refine wpAnyH_done (by kernel_rfl) ?_ _
    clear hHeld
    clear y0 y1 y2 y3 y4 y5 y6 y7 y8 y9 y10 y11 y12 l0 l1 l2 l3 l4 l5 l6 l7 l8 l9 l10 l11 l12
    clear zl zy om10 od10 ya10 yb10 hb10 hb11 hb10'
    have B11 := hidden (Below.andThen B9.out hb11')
    have BR11 := hidden (BR9.out.below hb11' (by omega))
    have W11 := hidden (W9.out.below hb11')
    have WB11 := hidden (WB9.out.below hb11' (by omega))
    have Dm11 := hidden (Dm9.out.below hb11')
    have Dd11 := hidden (Dd9.out.below hb11')
    have BX11 := hidden (BX9.out.below hb11' (by omega))
    have G11 := hidden (G9.out.below hb11')
    have GB11 := hidden (GB9.out.below hb11' (by omega))
    have z11 := hb11'.size
    clear B9 BR9 W9 WB9 Dm9 Dd9 BX9 G9 GB9 hb11'
    obtain ⟨q0, q1, q2, q3, q4, q5, q6, q7, q8, q9, q10, q11, q12⟩ := BX11.out.cells13
    go_wp2_with fail
    refine (markArr_own _ _ _ _ x _ _ _ _ _ _ ms ds Dm11.out Dd11.out (by omega) (by omega) (by omega) hwt2).mono ?_
    rintro e w12 ⟨rfl, _, _, hb12⟩
    clear q0 q1 q2 q3 q4 q5 q6 q7 q8 q9 q10 q11 q12
    clear Dm11
    clear Dd11
    clear BX11
    have B12 := hidden (Below.andBut B11.out hb12 (by omega))
    have BR12 := hidden (BR11.out.kept (hb12.block _ (by omega) (by omega)))
    have W12 := hidden (W11.out.but hb12 (by omega))
    have WB12 := hidden (WB11.out.kept (hb12.block _ (by omega) (by omega)))
    have G12 := hidden (G11.out.but hb12 (by omega))
    have GB12 := hidden (GB11.out.kept (hb12.block _ (by omega) (by omega)))
    have z12 := hb12.size
    clear B11 BR11 W11 WB11 G11 GB11 hb12
    have hcn : (0 : Int) ≤ 1 + (cntMS ms : Int) + (cntWS ds : Int) := by omega
    generalize 1 + (cntMS ms : Int) + (cntWS ds : Int) = cn at hcn ⊢
    obtain ⟨p0, p1, p2, p3, p4, p5, p6, p7, p8, p9, p10, p11, p12⟩ := GB12.out.cells13
    obtain ⟨q0, q1, q2, q3, q4, q5, q6, q7, q8, q9, q10, q11, q12⟩ := WB12.out.cells13
    go_wp2_with fail
    refine (eqArr_same _ 123 123 87 87 65 65 y _ _ _ _ _ _ _ _ _ _ _ _ ns es G12.out.rdm G12.out.rdd W12.out.rdm W12.out.rdd hwq).mono ?_
    rintro e w13 ⟨rfl, hb13⟩
    clear p0 p1 p2 p3 p4 p5 p6 p7 p8 p9 p10 p11 p12 q0 q1 q2 q3 q4 q5 q6 q7 q8 q9 q10 q11 q12
    have B13 := hidden (Below.andThen B12.out hb13)
    have BR13 := hidden (BR12.out.below hb13 (by omega))
    have W13 := hidden (W12.out.below hb13)
    have WB13 := hidden (WB12.out.below hb13 (by omega))
    have G13 := hidden (G12.out.below hb13)
    have GB13 := hidden (GB12.out.below hb13 (by omega))
    have z13 := hb13.size
    clear B12 BR12 W12 WB12 G12 GB12 hb13
    obtain ⟨p0, p1, p2, p3, p4, p5, p6, p7, p8, p9, p10, p11, p12⟩ := GB13.out.cells13
    go_wp2_with fail
    refine (markArr_in _ w6.heap.size w7.heap.size y _ _ _ _ _ _ ns es G13.out (by omega) hwq).mono ?_
    rintro e w14 ⟨rfl, oi14, hb14⟩
    clear p0 p1 p2 p3 p4 p5 p6 p7 p8 p9 p10 p11 p12
    clear G13
    have B14 := hidden (Below.andBut B13.out hb14 (by omega))
    have BR14 := hidden (BR13.out.kept (hb14.block _ (by omega) (by omega)))
    have W14 := hidden (W13.out.but hb14 (by omega))
    have WB14 := hidden (WB13.out.kept (hb14.block _ (by omega) (by omega)))
    have GB14 := hidden (GB13.out.kept (hb14.block _ (by omega) (by omega)))
    have z14 := hb14.size
    clear B13 BR13 W13 WB13 GB13 hb14
    have G14 := hidden oi14
    clear oi14
    obtain ⟨p0, p1, p2, p3, p4, p5, p6, p7, p8, p9, p10, p11, p12⟩ := GB14.out.cells13
    go_wp2_with fail
    refine (heldArr_any _ 123 87 65 y _ _ _ _ _ _ ns es G14.out.rdm G14.out.rdd hwq).mono ?_
    rintro e w15 ⟨rfl, hb15⟩
    clear p0 p1 p2 p3 p4 p5 p6 p7 p8 p9 p10 p11 p12
    have B15 := hidden (Below.andThen B14.out hb15)
    have BR15 := hidden (BR14.out.below hb15 (by omega))
    have W15 := hidden (W14.out.below hb15)
    have WB15 := hidden (WB14.out.below hb15 (by omega))
    have GB15 := hidden (GB14.out.below hb15 (by omega))
    have G15 := hidden (G14.out.below hb15)
    have z15 := hb15.size
    clear B14 BR14 W14 WB14 GB14 G14 hb15
    have hcm : (0 : Int) ≤ 1 + (cntMS ns : Int) + (cntWS es : Int) := by omega
    generalize hCM : 1 + (cntMS ns : Int) + (cntWS es : Int) = ck at hcm ⊢
    have HCM := hidden hCM
    clear hCM
    obtain ⟨l0, l1, l2, l3, l4, l5, l6, l7, l8, l9, l10, l11, l12⟩ := BR15.out.cells13
    go_wp2_with fail
    refine (toArr_any _ 141 80 82 x _ _ _ _ _ _ ms ds (h0.below B15.out) (h1.below B15.out) hwt').mono ?_
    rintro e w16 ⟨bm16, bd16, rfl, om16, od16, ya16, yb16, hb16⟩
    clear l0 l1 l2 l3 l4 l5 l6 l7 l8 l9 l10 l11 l12
    have B16 := hidden (Below.andThen B15.out hb16)
    have BR16 := hidden (BR15.out.below hb16 (by omega))
    have W16 := hidden (W15.out.below hb16)
    have WB16 := hidden (WB15.out.below hb16 (by omega))
    have GB16 := hidden (GB15.out.below hb16 (by omega))
    have G16 := hidden (G15.out.below hb16)
    have z16 := hb16.size
    clear B15 BR15 W15 WB15 GB15 G15 hb16
    have Em16 := hidden om16
    clear om16
    have Ed16 := hidden od16
    clear od16
    go_wp2_with fail
    refine (implSetBlock_any _ 123 87 65 x _ _ _ _ _ _ ms ds Em16.out.rd Ed16.out.rd hwt2 b n).mono ?_
    rintro e w17 ho17
    rw [HQ.out, HQC.out, HQD.out] at ho17
    obtain ⟨a17, d17, c17, b17, rfl, o17, hb17⟩ := ho17
    dsimp only at o17
    unfold arrC
    have B17 := hidden (Below.andThen B16.out hb17)
    have BR17 := hidden (BR16.out.below hb17 (by omega))
    have W17 := hidden (W16.out.below hb17)
    have WB17 := hidden (WB16.out.below hb17 (by omega))
    have GB17 := hidden (GB16.out.below hb17 (by omega))
    have G17 := hidden (G16.out.below hb17)
    have Em17 := hidden (Em16.out.below hb17)
    have Ed17 := hidden (Ed16.out.below hb17)
    have z17 := hb17.size
    clear B16 BR16 W16 WB16 GB16 G16 Em16 Ed16 hb17
    have H17 := hidden o17
    clear o17
    clear Em17
    clear Ed17
    have ba : Below w17.heap.size w17 (w17.alloc (.cells #[.int .i64 y.id, .int .i64 y.n, .int .i64 y.s, .slice a17 ns.length c17, .int .i64 y.lost, .int .i64 y.built, .int .i64 y.seq, .int .i64 y.tail, .int .i64 y.gen, .slice d17 es.length b17, .int .i64 y.fuse, .bool y.down, .bool y.broken] 35)) := (Below.refl _ _).alloc (Nat.le_refl _) _
    have xb := Box.new w17 35 #[.int .i64 y.id, .int .i64 y.n, .int .i64 y.s, .slice a17 ns.length c17, .int .i64 y.lost, .int .i64 y.built, .int .i64 y.seq, .int .i64 y.tail, .int .i64 y.gen, .slice d17 es.length b17, .int .i64 y.fuse, .bool y.down, .bool y.broken]
    have zx18 := xb.lt
    have B18 := hidden (Below.andThen B17.out ba)
    have BR18 := hidden (BR17.out.below ba (by omega))
    have W18 := hidden (W17.out.below ba)
    have WB18 := hidden (WB17.out.below ba (by omega))
    have GB18 := hidden (GB17.out.below ba (by omega))
    have G18 := hidden (G17.out.below ba)
    have H18 := hidden (H17.out.below ba)
    have z18 := ba.size
    clear B17 BR17 W17 WB17 GB17 G17 H17 ba
    have HB18 := hidden xb
    clear xb
    obtain ⟨p0, p1, p2, p3, p4, p5, p6, p7, p8, p9, p10, p11, p12⟩ := HB18.out.cells13
    obtain ⟨q0, q1, q2, q3, q4, q5, q6, q7, q8, q9, q10, q11, q12⟩ := WB18.out.cells13
    go_wp2_with fail
    generalize w17.alloc (.cells #[.int .i64 y.id, .int .i64 y.n, .int .i64 y.s, .slice a17 ns.length c17, .int .i64 y.lost, .int .i64 y.built, .int .i64 y.seq, .int .i64 y.tail, .int .i64 y.gen, .slice d17 es.length b17, .int .i64 y.fuse, .bool y.down, .bool y.broken] 35) = w18 at B18 BR18 W18 WB18 GB18 G18 H18 HB18 z18 zx18 p0 p1 p2 p3 p4 p5 p6 p7 p8 p9 p10 p11 p12 q0 q1 q2 q3 q4 q5 q6 q7 q8 q9 q10 q11 q12 ⊢
    refine (eqArr_same _ 123 123 87 87 65 65 y _ _ _ _ _ _ _ _ _ _ _ _ ns es H18.out.rdm H18.out.rdd W18.out.rdm W18.out.rdd hwq).mono ?_
    rintro e w19 ⟨rfl, hb19⟩
    clear p0 p1 p2 p3 p4 p5 p6 p7 p8 p9 p10 p11 p12 q0 q1 q2 q3 q4 q5 q6 q7 q8 q9 q10 q11 q12
    have B19 := hidden (Below.andThen B18.out hb19)
    have BR19 := hidden (BR18.out.below hb19 (by omega))
    have W19 := hidden (W18.out.below hb19)
    have WB19 := hidden (WB18.out.below hb19 (by omega))
    have GB19 := hidden (GB18.out.below hb19 (by omega))
    have G19 := hidden (G18.out.below hb19)
    have H19 := hidden (H18.out.below hb19)
    have HB19 := hidden (HB18.out.below hb19 (by omega))
    have z19 := hb19.size
    clear B18 BR18 W18 WB18 GB18 G18 H18 HB18 hb19
    clear H19
    clear HB19
    clear W19
    clear WB19
    obtain ⟨p0, p1, p2, p3, p4, p5, p6, p7, p8, p9, p10, p11, p12⟩ := GB19.out.cells13
    go_wp2_with fail
    refine (heldArr_any _ 123 87 65 y _ _ _ _ _ _ ns es G19.out.rdm G19.out.rdd hwq).mono ?_
    rintro e w20 ⟨rfl, hb20⟩
    clear p0 p1 p2 p3 p4 p5 p6 p7 p8 p9 p10 p11 p12
    have B20 := hidden (Below.andThen B19.out hb20)
    have BR20 := hidden (BR19.out.below hb20 (by omega))
    have GB20 := hidden (GB19.out.below hb20 (by omega))
    have G20 := hidden (G19.out.below hb20)
    have z20 := hb20.size
    clear B19 BR19 GB19 G19 hb20
    rw [HCM.out]
    go_wp2
    go_ret
    exact ⟨rfl, B20.out⟩
  · have hq := leftOf_neg (left := 1048576) (wt := wtArr ms ds) (by omega)
    go_wp2
    go_ret
    exact ⟨rfl, B1.out⟩

end Go.Proofs.YtjmjianlcoleaaaGreat

/-
  What the row's reading says of arguments with depth, in these texts' own words. No condition.
-/
namespace Go.Proofs.YtjmjianlcoleaaaGreat
open Go.RowKit Go.ChangeShapes Go.WideShapes Go.ChangeAt Go.Joins Go.Deep

section
variable {H : Type} {enc : TypeId × Value → H} {P : Program} {w : World} {held : Bool}

theorem rdInts_of {t q : TypeId} {fuel : Nat} {v : Value} {x : DataW H × List MemPlace} (ht : P.underlying t = some (.slice q)) (hq : P.underlying q = some (.int .i64)) (cq : P.cellsOf q = 1)
    (h : DataW.trod enc P w 0 (fun _ => true) held fuel t [v] = some x) : ∃ zs, tIntS.Rd w [v] zs := by
  rcases open_ints ht hq cq h with ⟨hcs, _⟩ | ⟨a, len, cap, zs, hcs, _, hl, hm, hz, _, hcell, hwz⟩
  · simp at hcs
    subst hcs
    exact ⟨[], ints_rd_of (.inl rfl) (Nat.le_refl _) (by simp) (fun _ => rfl)⟩
  · simp at hcs
    subst hcs
    have hr : IsRow .i64 w (some a) len cap zs := .inr ⟨_, rfl, hl, hm, by simpa using hz, hcell, hwz⟩
    obtain ⟨h1, h2, _, _⟩ := hr.reads
    refine ⟨zs.take len, ?_⟩
    have := ints_rd_of (E := 3) (cap := cap) h1 (by omega) (by unfold maxLen at hm; omega) (by simp)
    rw [h2] at this
    exact this

/-- A slice by its elements. -/
theorem rd_row {t : Ty} {E : TypeId} {a : Addr} {len cap : Nat} (hl : len ≤ cap) (hm : cap ≤ 9223372036854775807) (cs : Nat → List Value) (hn : 0 < t.n) (hcl : ∀ i, i < len → (cs i).length = t.n)
    (hc : ∀ i, i < len → ∀ j, j < t.n → w.cell? (a.add (i * t.n + j)) = (cs i)[j]?) (hx : ∀ i, i < len → ∃ x, t.Rd w (cs i) x) : ∃ d, (rowTy t E).Rd w [.slice (some a) len cap] d := by
  have each : ∀ i, i < len → ∃ y : t.D × List Nat, t.rd w (cs i) y.1 y.2 := by
    intro i hi
    obtain ⟨x, fp, h⟩ := hx i hi
    exact ⟨(x, fp), h⟩
  by_cases h0 : len = 0
  · subst h0
    exact ⟨[], [], some a, cap, rfl, by simp, hm, .inl ⟨rfl, rfl, by simp⟩⟩
  · have hne : Nonempty (t.D × List Nat) := by
      obtain ⟨y, _⟩ := each 0 (by omega)
      exact ⟨y⟩
    have hch : ∃ f : Nat → t.D × List Nat, ∀ i, i < len → t.rd w (cs i) (f i).1 (f i).2 := by
      refine ⟨fun i => if h : i < len then Classical.choose (each i h) else Classical.choice hne, fun i hi => ?_⟩
      simp only [dif_pos hi]
      exact Classical.choose_spec (each i hi)
    obtain ⟨f, hf⟩ := hch
    obtain ⟨b, off, spot⟩ := a
    have hc0 := hc 0 (by omega) 0 hn
    have hsome : ∃ v0, (cs 0)[0]? = some v0 := ⟨(cs 0)[0]'(by rw [hcl 0 (by omega)]; exact hn), List.getElem?_eq_getElem _⟩
    obtain ⟨v0, hv0⟩ := hsome
    rw [hv0] at hc0
    have hspot : spot = none := by simpa [Addr.add] using World.cell?_spot hc0
    subst hspot
    have ea : ∀ k, (⟨b, off, none⟩ : Addr).add k = ⟨b, off + k, none⟩ := by
      intro k
      unfold Addr.add
      split <;> simp_all
    rw [ea] at hc0
    have hblt : b < w.heap.size := World.block_lt_of_cell? w _ hc0
    refine ⟨(List.range len).map fun i => (f i).1, b :: ((List.range len).map fun i => (f i).2).flatten, _, cap, by simp, by simpa using hl, hm, .inr ⟨b, off, (List.range len).map fun i => (f i).2, rfl, hblt, rfl, by simp, fun i x hxi => ?_⟩⟩
    have hi : i < len := by
      have := (List.getElem?_eq_some_iff.1 hxi).1
      simpa using this
    rw [List.getElem?_map, List.getElem?_range hi] at hxi
    simp at hxi
    subst hxi
    refine ⟨(f i).2, cs i, by rw [List.getElem?_map, List.getElem?_range hi]; rfl, hf i hi, fun j hj => ?_⟩
    rw [← ea]
    exact hc i hi j hj

theorem rdIntSS_of {t e q : TypeId} {fuel : Nat} {v : Value} {x : DataW H × List MemPlace} (ht : P.underlying t = some (.slice e)) (he : P.underlying e = some (.slice q)) (hq : P.underlying q = some (.int .i64)) (ce : P.cellsOf e = 1) (cq : P.cellsOf q = 1)
    (h : DataW.trod enc P w 0 (fun _ => true) held fuel t [v] = some x) : ∃ d, tIntSS.Rd w [v] d := by
  rcases open_slice1 ht ce h with ⟨hcs, _⟩ | ⟨a, len, cap, m, n, V, D, Pl, hcs, _, hl, hm, hmm, _, hx⟩
  · simp at hcs
    subst hcs
    exact ⟨[], [], none, 0, rfl, by simp, by simp, .inl ⟨rfl, rfl, fun _ => rfl⟩⟩
  · simp at hcs
    subst hcs
    simp only [if_true] at hmm
    refine rd_row hl (by unfold maxLen at hm; omega) (fun i => [V i]) (by decide) (fun _ _ => rfl) (fun i hi j hj => ?_) (fun i hi => rdInts_of he hq cq (hx i (by omega)).2)
    have hj0 : j = 0 := by have : j < 1 := hj; omega
    subst hj0
    have := (hx i (by omega)).1
    show w.cell? (a.add (i * 1 + 0)) = some (V i)
    rw [Nat.mul_one, Nat.add_zero]
    exact this

theorem rdWrS_of {t e q : TypeId} {f0 f1 : Field} {E : TypeId} {fuel : Nat} {v : Value} {x : DataW H × List MemPlace} (ht : P.underlying t = some (.slice e)) (he : P.underlying e = some (.struct #[f0, f1])) (ce : P.cellsOf e = 2) (o0 : f0.offset = 0) (o1 : f1.offset = 1) (c0 : P.cellsOf f0.type = 1) (c1 : P.cellsOf f1.type = 1)
    (hi0 : P.underlying f0.type = some (.int .i64)) (hi1 : P.underlying f1.type = some (.slice q)) (hq : P.underlying q = some (.int .i64)) (cq : P.cellsOf q = 1)
    (h : DataW.trod enc P w 0 (fun _ => true) held fuel t [v] = some x) : ∃ d, (tWrS E).Rd w [v] d := by
  rcases open_slice_pairs ht he ce o0 o1 c0 c1 h with ⟨hcs, _⟩ | ⟨a, len, cap, m, n, V0, V1, D0, D1, P0, P1, hcs, _, hl, hm, hmm, _, hx⟩
  · simp at hcs
    subst hcs
    exact ⟨[], [], none, 0, rfl, by simp, by simp, .inl ⟨rfl, rfl, fun _ => rfl⟩⟩
  · simp at hcs
    subst hcs
    simp only [if_true] at hmm
    refine rd_row hl (by unfold maxLen at hm; omega) (fun i => [V0 i, V1 i]) (by decide) (fun _ _ => rfl) (fun i hi j hj => ?_) (fun i hi => ?_)
    · have hj2 : j < 2 := hj
      obtain ⟨h0, h1, _⟩ := hx i (by omega)
      match j, hj2 with
      | 0, _ => exact h0
      | 1, _ => exact h1
    · obtain ⟨_, _, h2, h3⟩ := hx i (by omega)
      obtain ⟨y, hy, _, _⟩ := DataW.trod_int hi0 h2
      obtain ⟨zs, hzs⟩ := rdInts_of hi1 hq cq h3
      simp at hy
      exact ⟨(y, zs), by rw [hy]; exact pair_rd_of (t := intTy) (vs := [_]) ⟨[], rfl, rfl⟩ hzs⟩

end
end Go.Proofs.YtjmjianlcoleaaaGreat

/-
  What the row's reading says of an array that came in, in these texts' own words: its numbers and flags, and what its two slices read. No condition.
-/
namespace Go.Proofs.YtjmjianlcoleaaaGreat
open Go.RowKit Go.ChangeShapes Go.WideShapes Go.ChangeAt Go.Joins Go.Deep

section
variable {H : Type} {enc : TypeId × Value → H} {w : World} {held : Bool}

/-- A slice whose elements are read one by one. -/
theorem rdRow_of {P : Program} {t e E : TypeId} {u : Ty} {fuel : Nat} {v : Value} {x : DataW H × List MemPlace} (ht : P.underlying t = some (.slice e)) (ce : P.cellsOf e = u.n) (hn : 0 < u.n)
    (each : ∀ (n : Nat) (cs : List Value) (y : DataW H × List MemPlace), cs.length = u.n → DataW.trod enc P w 0 (fun _ => true) held n e cs = some y → ∃ d, u.Rd w cs d)
    (h : DataW.trod enc P w 0 (fun _ => true) held fuel t [v] = some x) : ∃ d, (rowTy u E).Rd w [v] d := by
  rcases open_slice ht h with ⟨hcs, _⟩ | ⟨a, len, cap, m, n, D, Pl, hcs, _, hl, hm, hmm, _, hx⟩
  · simp at hcs
    subst hcs
    exact ⟨[], [], none, 0, rfl, by simp, by simp, .inl ⟨rfl, rfl, fun _ => rfl⟩⟩
  · simp at hcs
    subst hcs
    simp only [if_true] at hmm
    have one : ∀ i, i < len → ∃ cs : List Value, cs.length = u.n ∧ (∀ j, j < u.n → w.cell? (a.add (i * u.n + j)) = cs[j]?) ∧ ∃ d, u.Rd w cs d := by
      intro i hi
      obtain ⟨cs', h1, h2⟩ := hx i (by omega)
      rw [ce] at h1
      obtain ⟨_, hlen, hcell⟩ := World.cells?_some h1
      refine ⟨cs', hlen, fun j hj => ?_, each n cs' _ hlen h2⟩
      have := hcell j hj
      rw [add_add] at this
      exact this
    obtain ⟨q, hq⟩ := choose_lt one
    exact rd_row hl (by unfold maxLen at hm; omega) q hn (fun i hi => (hq i hi).1) (fun i hi => (hq i hi).2.1) (fun i hi => (hq i hi).2.2)

theorem rdMemS_of {fuel : Nat} {v : Value} {x : DataW H × List MemPlace} (h : DataW.trod enc Tryz.prog w 0 (fun _ => true) held fuel 24 [v] = some x) : ∃ d, (tMemS 141 80).Rd w [v] d := by
  refine rdRow_of (e := 80) Tryz.underlying24 (by kernel_rfl) (by decide) (fun n cs y hl hy => ?_) h
  match cs, hl with
  | [v0, v1, v2, v3], _ =>
    obtain ⟨xs, k, _, _, _, hxl, hf⟩ := DataW.trod_struct Tryz.underlying80 hy
    have c1 : Tryz.prog.cellsOf 77 = 1 := by kernel_rfl
    have c2 : Tryz.prog.cellsOf 78 = 1 := by kernel_rfl
    have c3 : Tryz.prog.cellsOf 4 = 1 := by kernel_rfl
    have c4 : Tryz.prog.cellsOf 48 = 1 := by kernel_rfl
    match xs, hxl with
    | [y0, y1, y2, y3], _ =>
      have g0 := hf 0 _ rfl
      have g1 := hf 1 _ rfl
      have g2 := hf 2 _ rfl
      have g3 := hf 3 _ rfl
      simp [c1] at g0
      simp [c2] at g1
      simp [c3] at g2
      simp [c4] at g3
      obtain ⟨ss, r0⟩ := rdIntSS_of Tryz.underlying77 Tryz.underlying48 Tryz.underlying3 (by kernel_rfl) (by kernel_rfl) g0
      obtain ⟨ws, r1⟩ := rdWrS_of (E := 141) Tryz.underlying78 Tryz.underlying141 (by kernel_rfl) rfl rfl (by kernel_rfl) (by kernel_rfl) Tryz.underlying3 Tryz.underlying48 Tryz.underlying3 (by kernel_rfl) g1
      obtain ⟨f, hfb, _⟩ := DataW.trod_bool Tryz.underlying4 g2
      obtain ⟨bs, r3⟩ := rdInts_of Tryz.underlying48 Tryz.underlying3 (by kernel_rfl) g3
      simp at hfb
      subst hfb
      exact ⟨(ss, ws, f, bs), pair_rd_of (vs := [v0]) r0 (pair_rd_of (vs := [v1]) r1 (pair_rd_of (t := boolTy) (vs := [.bool f]) ⟨[], rfl, rfl⟩ r3))⟩

set_option maxRecDepth 20000 in
theorem array13 {cs : Array Value} (h : cs.size = 13) : ∃ c0 c1 c2 c3 c4 c5 c6 c7 c8 c9 c10 c11 c12, cs = #[c0, c1, c2, c3, c4, c5, c6, c7, c8, c9, c10, c11, c12] := by
  obtain ⟨l⟩ := cs
  match l, h with
  | [c0, c1, c2, c3, c4, c5, c6, c7, c8, c9, c10, c11, c12], _ => exact ⟨c0, c1, c2, c3, c4, c5, c6, c7, c8, c9, c10, c11, c12, rfl⟩

set_option maxRecDepth 20000 in
set_option maxHeartbeats 1600000 in
theorem open_arr {r : Reach} {b0 : Nat} {v : Value} {d : DataW H} {p : List MemPlace} (hv : Value.okWide Tryz.prog w r b0 27 v) (h : DataW.Trod enc Tryz.prog w 0 (fun _ => true) held 27 v d p) :
    ∃ (x : ArrN) (am ad : Option Addr) (cm cd : Nat) (ms : List MemD) (ds : List (Int × List Int)), v = .agg #[.int .i64 x.id, .int .i64 x.n, .int .i64 x.s, .slice am ms.length cm, .int .i64 x.lost, .int .i64 x.built, .int .i64 x.seq, .int .i64 x.tail, .int .i64 x.gen, .slice ad ds.length cd, .int .i64 x.fuse, .bool x.down, .bool x.broken] ∧ (tMemS 141 80).Rd w [.slice am ms.length cm] ms ∧ (tWrS 82).Rd w [.slice ad ds.length cd] ds := by
  obtain ⟨cs, rfl, hsz⟩ := okWide_struct Tryz.underlying27 hv
  obtain ⟨c0, c1, c2, c3, c4, c5, c6, c7, c8, c9, c10, c11, c12, rfl⟩ := array13 (hsz.trans (by kernel_rfl))
  obtain ⟨fuel, hf⟩ := h
  obtain ⟨xs, n, _, _, _, hxl, hx⟩ := DataW.trod_struct Tryz.underlying27 hf
  have k3 : Tryz.prog.cellsOf 3 = 1 := by kernel_rfl
  have k4 : Tryz.prog.cellsOf 4 = 1 := by kernel_rfl
  have kG : Tryz.prog.cellsOf 23 = 2 := by kernel_rfl
  have kM : Tryz.prog.cellsOf 24 = 1 := by kernel_rfl
  have kE : Tryz.prog.cellsOf 25 = 1 := by kernel_rfl
  match xs, hxl with
  | [y0, y1, y2, y3, y4, y5, y6, y7, y8, y9, y10, y11], _ =>
    have g0 := hx 0 _ rfl
    have g1 := hx 1 _ rfl
    have g2 := hx 2 _ rfl
    have g3 := hx 3 _ rfl
    have g4 := hx 4 _ rfl
    have g5 := hx 5 _ rfl
    have g6 := hx 6 _ rfl
    have g7 := hx 7 _ rfl
    have g8 := hx 8 _ rfl
    have g9 := hx 9 _ rfl
    have g10 := hx 10 _ rfl
    have g11 := hx 11 _ rfl
    simp [Value.cells, k3] at g0
    simp [Value.cells, kG] at g1
    simp [Value.cells, kM] at g2
    simp [Value.cells, k3] at g3
    simp [Value.cells, k3] at g4
    simp [Value.cells, k3] at g5
    simp [Value.cells, k3] at g6
    simp [Value.cells, k3] at g7
    simp [Value.cells, kE] at g8
    simp [Value.cells, k3] at g9
    simp [Value.cells, k4] at g10
    simp [Value.cells, k4] at g11
    obtain ⟨n0, e0, _, _⟩ := DataW.trod_int Tryz.underlying3 g0
    simp at e0
    subst e0
    obtain ⟨zs, m, _, _, _, hzl, hz⟩ := DataW.trod_struct Tryz.underlying23 g1
    match zs, hzl with
    | [z0, z1], _ =>
    have q0 := hz 0 _ rfl
    have q1 := hz 1 _ rfl
    simp [k3] at q0 q1
    obtain ⟨nn, en, _, _⟩ := DataW.trod_int Tryz.underlying3 q0
    obtain ⟨ns, es, _, _⟩ := DataW.trod_int Tryz.underlying3 q1
    simp at en es
    subst en es
    obtain ⟨ms, r2⟩ := rdMemS_of g2
    obtain ⟨am, cm, rfl⟩ := row_shape r2
    obtain ⟨n3, e3, _, _⟩ := DataW.trod_int Tryz.underlying3 g3
    simp at e3
    subst e3
    obtain ⟨n4, e4, _, _⟩ := DataW.trod_int Tryz.underlying3 g4
    simp at e4
    subst e4
    obtain ⟨n5, e5, _, _⟩ := DataW.trod_int Tryz.underlying3 g5
    simp at e5
    subst e5
    obtain ⟨n6, e6, _, _⟩ := DataW.trod_int Tryz.underlying3 g6
    simp at e6
    subst e6
    obtain ⟨n7, e7, _, _⟩ := DataW.trod_int Tryz.underlying3 g7
    simp at e7
    subst e7
    obtain ⟨ds, r8⟩ := rdWrS_of (E := 82) Tryz.underlying25 Tryz.underlying82 (by kernel_rfl) rfl rfl (by kernel_rfl) (by kernel_rfl) Tryz.underlying3 Tryz.underlying48 Tryz.underlying3 (by kernel_rfl) g8
    obtain ⟨ad, cd, rfl⟩ := row_shape r8
    obtain ⟨n9, e9, _, _⟩ := DataW.trod_int Tryz.underlying3 g9
    simp at e9
    subst e9
    obtain ⟨n10, e10, _⟩ := DataW.trod_bool Tryz.underlying4 g10
    simp at e10
    subst e10
    obtain ⟨n11, e11, _⟩ := DataW.trod_bool Tryz.underlying4 g11
    simp at e11
    subst e11
    exact ⟨⟨n0, nn, ns, n3, n4, n5, n6, n7, n9, n10, n11⟩, am, ad, cm, cd, ms, ds, rfl, r2, r8⟩

end
end Go.Proofs.YtjmjianlcoleaaaGreat

namespace Go.Proofs.YtjmjianlcoleaaaGreat.fnExactSetBlock
open Go.ChangeShapes Go.WideShapes Go.ChangeAt Go.RowKit Go.Joins
open Go.ChangeMaps (open_string shut_string)
set_option linter.unusedVariables false

theorem own : ownKnob Tryz.prog.godebug = none := by kernel_rfl
theorem laidOut : laidOutB Tryz.prog = true := by kernel_rfl

set_option maxRecDepth 100000 in
theorem lifted (os : Os) (started : os.Started) (H : Type) (enc : TypeId × Value → H) :
    ReturnsInHanded {} Tryz.checked os 4 .any (Rows.fnExactSetBlockSpec.pre6 enc Tryz.prog Tryz.f4 Rows.fnExactSetBlockRow.domain false) (Rows.fnExactSetBlockSpec.post enc Tryz.prog Tryz.f4 false true false false) := by
  refine returnsInHanded_of_change (C := Tryz.checked) own started (by kernel_rfl) Tryz.func4
    (ChangeSpec.witness6 (enc := enc) (C := Tryz.checked) false ⟨#[], #[.agg #[.int .i64 0, .int .i64 0, .int .i64 0, .slice none 0 0, .int .i64 0, .int .i64 0, .int .i64 0, .int .i64 0, .int .i64 0, .slice none 0 0, .int .i64 0, .bool false, .bool false], .int .i64 0, .int .i64 0], []⟩ 8 (by kernel_rfl) (by kernel_rfl) (by kernel_rfl) (by kernel_rfl)) ?_
  intro W base args ds gs before hval0 hW hcnd _
  have hval : ∀ (j : Nat) t v, Tryz.f4.params[j]? = some t → args[j]? = some v → Value.okWide Tryz.prog W .any base t v := hval0
  have hW' := hW
  obtain ⟨p, q, hA0, hV, rfl, hfz, hnd⟩ := hW
  have hA : DataW.TrodAll enc Tryz.prog W 0 (fun _ => true) true Tryz.f4.params.toList args.toList ds p := hA0
  rw [Tryz.params4] at hA hval
  obtain ⟨v0, vs0, d0, ds0, p0, q0, hargs0, rfl, rfl, h0, r0⟩ := trodAll_cons hA
  obtain ⟨v1, vs1, d1, ds1, p1, q1, hargs1, rfl, rfl, h1, r1⟩ := trodAll_cons r0
  obtain ⟨v2, vs2, d2, ds2, p2, q2, hargs2, rfl, rfl, h2, r2⟩ := trodAll_cons r1
  obtain ⟨rfl, rfl, rfl⟩ := trodAll_nil r2
  obtain rfl : args = #[v0, v1, v2] := by cases args; simp_all
  obtain ⟨rfl, rfl⟩ := trodVars_none hV
  have k0 := h0
  have lt0 : ∀ x ∈ p0, x.block < W.heap.size := by obtain ⟨m, hm⟩ := k0; exact DataW.trod_lt m _ _ _ hm
  obtain ⟨x0, am0, ad0, cm0, cd0, ms0, ds0, rfl, g0m, g0d⟩ := open_arr (hval 0 27 v0 rfl rfl) h0
  have k1 := h1
  have lt1 : ∀ x ∈ p1, x.block < W.heap.size := by obtain ⟨m, hm⟩ := k1; exact DataW.trod_lt m _ _ _ hm
  obtain ⟨x1, hv1, _, _, wf1⟩ := open_int Tryz.underlying3 (hval 1 3 v1 rfl rfl) h1
  subst hv1
  have k2 := h2
  have lt2 : ∀ x ∈ p2, x.block < W.heap.size := by obtain ⟨m, hm⟩ := k2; exact DataW.trod_lt m _ _ _ hm
  obtain ⟨x2, hv2, _, _, wf2⟩ := open_int Tryz.underlying3 (hval 2 3 v2 rfl rfl) h2
  subst hv2
  clear hA0 hval0
  refine (fnExactSetBlock_walk x0 am0 ad0 ms0.length cm0 ds0.length cd0 ms0 ds0 x1 x2 W g0m g0d).mono fun e W' ⟨he, bel⟩ => ?_
  subst he
  exact ⟨_, rfl, _, _, _, [], _, [], hW', trodAll_mk1 (shut_bool Tryz.underlying4 _), (trodAll_cons_mk (Below.trod laidOut (by kernel_rfl) (of_decide_eq_true (by kernel_rfl)) k0 bel lt0) (trodAll_cons_mk (Below.trod laidOut (by kernel_rfl) (of_decide_eq_true (by kernel_rfl)) k1 bel lt1) (trodAll_cons_mk (Below.trod laidOut (by kernel_rfl) (of_decide_eq_true (by kernel_rfl)) k2 bel lt2) trodAll_mk0))), rfl, bel.frame _, fun h => by cases h⟩

theorem over : Rows.fnExactSetBlockRow.holds Tryz.pinned (OpenSpec.ofChange Rows.fnExactSetBlockSpec) :=
  OpenClaim.holds_of_wide 4 Tryz.f4 rfl rfl rfl rfl rfl rfl rfl ⟨rfl, rfl, rfl, rfl, rfl⟩ rfl rfl rfl rfl rfl (by kernel_rfl) Tryz.func4 (by kernel_rfl)
    (of_decide_eq_true (by kernel_rfl)) (by unfold Func.isWrapper; first | (rw [if_pos (by decide +kernel)]; kernel_rfl) | (rw [if_neg (by decide +kernel)]; exact ⟨rfl, rfl⟩))
    (fun os started H enc _ => lifted os started H enc)
end Go.Proofs.YtjmjianlcoleaaaGreat.fnExactSetBlock

namespace Go.Proofs.YtjmjianlcoleaaaGreat
/-- The given statement. -/
theorem fnExactSetBlock_holds : Rows.FnExactSetBlockSaid := fnExactSetBlock.over
#print axioms fnExactSetBlock_holds
end Go.Proofs.YtjmjianlcoleaaaGreat

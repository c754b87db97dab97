/-
  The exact law of ArrNew holds: for every number and every Geo the law returns true. No condition.
-/
import Derived.Test.YtccokaicipldcaaRowArrNewAll2
import Derived.Test.YtccokaicipldcaaWalkImplMemOk
import Derived.Test.YtccokaicipldcaaWalkGeo
import Derived.Test.YtccokaicipldcaaWalkSuper
import Derived.Test.YtccokaicipldcaaLawSlotOf
import Derived.Test.YtccokaicipldcaaOrder
import Derived.OrdersHeld
import Derived.RegionTactic
import Derived.Test.YtccokaicipldcaaStore
import Derived.Test.YtccokaicipldcaaWalkArr
import Derived.Test.YtccokaicipldcaaWalkMarkMems
import Derived.Test.YtccokaicipldcaaWalkToGeo
import Derived.Test.YtccokaicipldcaaRows
import Derived.Lib.SmallJoins
import Derived.WalkKit
import Derived.ProofKit
import Derived.OpenShut
import Derived.ShutString
import Derived.ChangeOld
import Derived.Below

/-
  The walks of the program's look whether an array is right: disk by disk, entry by entry, and as a whole. Condition: it weighs at most 2097152.
-/
namespace Go.Proofs.Ytccokaicipldcaa
open Go.RowKit

def recB6 (x : ArrN) : Bool := inB x.seq 0 60000 && (inB x.tail 0 60000 && inB (x.seq - x.tail) 0 4)
theorem lost_same6 {x : ArrN} (hg : geoB x.n x.s = true) : lostB x.n x.s x.lost x.built = lostB6 x := by
  obtain ⟨g1, g2, g3, g4⟩ := geoB_iff.1 hg
  rw [Bool.eq_iff_iff, lostB_iff]
  unfold lostB6
  simp only [Bool.and_eq_true, inB_iff, Bool.or_eq_true, Bool.not_eq_true', decide_eq_false_iff_not, decide_eq_true_eq]
  omega
theorem seq_same6 (x : ArrN) : seqB6 x = (inB x.gen 0 60000 && (inB x.fuse (-1) 1000 && recB6 x)) := by
  rw [Bool.eq_iff_iff]
  unfold seqB6 recB6
  simp only [Bool.and_eq_true, inB_iff, decide_eq_true_eq]
  omega
theorem arr_same6 {x : ArrN} {ms : List MemD} {ds : List (Int × List Int)} (hg : geoB x.n x.s = true) : arrB x ms ds = (inB x.id 1 60000 && (lostB x.n x.s x.lost x.built && (inB x.gen 0 60000 && (inB x.fuse (-1) 1000 && (memsB x ms && (recB6 x && entsB x ds)))))) := by
  unfold arrB
  rw [hg, lost_same6 hg, seq_same6]
  cases inB x.id 1 60000 <;> cases lostB6 x <;> cases inB x.gen 0 60000 <;> cases inB x.fuse (-1) 1000 <;> cases memsB x ms <;> cases recB6 x <;> cases entsB x ds <;> rfl
theorem stripe_in6 {x : ArrN} {y : Int} (hg : geoB x.n x.s = true) : stripeB x.n x.s y = inB y 0 (x.s - 1) := by unfold stripeB; rw [hg]; rfl
theorem sec_all6 {zs : List Int} (h : zs.length ≤ 12) : secB zs = allW zs := by unfold secB; simp [h]
theorem entAt_6 {x : ArrN} {ds : List (Int × List Int)} {p : Nat} {y : Int} {zs : List Int} {q : Int × List Int} (hq : ds[p]? = some q) (h : y ≤ q.1) : entAt x ds (p + 1) (y, zs) = false := by
  have : ds.getD (p + 1 - 1) (0, []) = q := by rw [Nat.add_sub_cancel, List.getD_eq_getElem?_getD, hq]; rfl
  unfold entAt
  rw [this]
  have h2 : ¬ q.1 < y := by omega
  simp [h2]

theorem sectorsOf_any (w : World) (n s : Int) (hs : 1 ≤ s ∧ s ≤ 8) : Calls Try.prog 66 #[.agg #[.int .i64 n, .int .i64 s]] w fun e w' => e = .returned (.int .i64 (6 + s)) ∧ Below w.heap.size w w' := by
  have hA := new_below w (.cells #[.int .i64 n, .int .i64 s] 24)
  obtain ⟨k0, k1⟩ := (Gbox.new w 24 n s).cells
  have hd : dataN s = 6 + s := by unfold dataN; split <;> omega
  have HD := hidden hd
  clear hd
  go_enter Try.func66, Try.ntmps66
  go_wp2_with fail
  refine (implDataAt_any _ _).mono ?_
  rintro e w1 ⟨rfl, h1⟩
  subst h1
  rw [HD.out]
  go_wp2
  go_ret
  exact ⟨rfl, hA⟩

set_option linter.unusedSimpArgs false in
set_option maxRecDepth 20000 in
set_option maxHeartbeats 3200000 in
theorem memsOk_any (w : World) (E F : TypeId) (x : ArrN) (am ad : Option Addr) (nm cm nd cd : Nat) (ms : List MemD) (h0 : (tMemS E F).Rd w [.slice am nm cm] ms) (hw : wtMemS ms ≤ 2097152) (hg : geoB x.n x.s = true) :
    Calls Try.prog 50 #[.agg #[.int .i64 x.id, .int .i64 x.n, .int .i64 x.s, .slice am nm cm, .int .i64 x.lost, .int .i64 x.built, .int .i64 x.seq, .int .i64 x.tail, .int .i64 x.gen, .slice ad nd cd, .int .i64 x.fuse, .bool x.down, .bool x.broken]] w fun e w' => e = .returned (.bool (memsB x ms)) ∧ Below w.heap.size w w' := by
  obtain ⟨hl, hc, hm⟩ := row_length h0
  obtain ⟨g1, g2, g3, g4⟩ := geoB_iff.1 hg
  have hA := new_below w (.cells #[.int .i64 x.id, .int .i64 x.n, .int .i64 x.s, .slice am nm cm, .int .i64 x.lost, .int .i64 x.built, .int .i64 x.seq, .int .i64 x.tail, .int .i64 x.gen, .slice ad nd cd, .int .i64 x.fuse, .bool x.down, .bool x.broken] 28)
  have X := Box.new w 28 #[.int .i64 x.id, .int .i64 x.n, .int .i64 x.s, .slice am nm cm, .int .i64 x.lost, .int .i64 x.built, .int .i64 x.seq, .int .i64 x.tail, .int .i64 x.gen, .slice ad nd cd, .int .i64 x.fuse, .bool x.down, .bool x.broken]
  have zA := X.lt
  have hnm : nm ≤ 2097152 := by unfold wtMemS at hw; omega
  have h1 := h0.below hA
  obtain ⟨k0, k1, k2, k3, k4, k5, k6, k7, k8, k9, k10, k11, k12⟩ := X.cells13
  by_cases hN : (nm : Int) = x.n
  · have hN1 : ((nm : Int) == x.n) = true := by simpa using hN
    have hN2 : ((nm : Int) != x.n) = false := by simpa using hN
    have HN := hidden hN
    clear hN
    go_enter Try.func50, Try.ntmps50
    go_wp2
    generalize w.alloc (.cells #[.int .i64 x.id, .int .i64 x.n, .int .i64 x.s, .slice am nm cm, .int .i64 x.lost, .int .i64 x.built, .int .i64 x.seq, .int .i64 x.tail, .int .i64 x.gen, .slice ad nd cd, .int .i64 x.fuse, .bool x.down, .bool x.broken] 28) = W at hA X zA h1 k0 k1 k2 k3 k4 k5 k6 k7 k8 k9 k10 k11 k12 ⊢
    clear k0 k1 k2 k3 k4 k5 k6 k7 k8 k9 k10 k11 k12
    go_loopw [15] (fun i wr => ∃ j : Nat, j ≤ nm ∧ i = .int .i64 j ∧ (∀ (q : Nat) (m : MemD), q < j → ms[q]? = some m → memAt x q m = true) ∧ Below W.heap.size W wr) (fun i _ => nm - (intOf i).toNat)
    case atStart => exact ⟨0, Nat.zero_le _, rfl, fun q m hq => by omega, Below.refl _ _⟩
    case round =>
      obtain ⟨j, hj, rfl, hall, hb⟩ := hrel
      have Xr := X.below hb zA
      by_cases hjn : j < nm
      · rcases quads_at rfl h1 with h0' | ⟨b, off, rfl, hbl, hcs⟩
        · omega
        have hdj : ms[j]? = some (ms[j]'(by omega)) := List.getElem?_eq_getElem (by omega)
        generalize ms[j]'(by omega) = m at hdj
        obtain ⟨v0, v1, v2, v3, hv0, hv1, hv2, hv3, hrv⟩ := hcs j m hdj
        obtain ⟨a0, c0, a1, c1, a3, c3, ss, cs, f, bs, rfl, rfl, rfl, rfl, rfl, r0, r1, r3⟩ := mem_at hrv
        have u0 := (hb.cell (p := ⟨b, off + j * 4, none⟩) hbl).trans hv0
        have u1 := (hb.cell (p := ⟨b, off + j * 4 + 1, none⟩) hbl).trans hv1
        have u2 := (hb.cell (p := ⟨b, off + j * 4 + 2, none⟩) hbl).trans hv2
        have u3 := (hb.cell (p := ⟨b, off + j * 4 + 3, none⟩) hbl).trans hv3
        have i1 : (0 : Int) ≤ (j : Int) := by omega
        have i2 : (j : Int) < (nm : Int) := by omega
        have hwm := Nat.le_trans (inner_leM hdj) hw
        have HDJ := hidden hdj
        clear hcs hv0 hv1 hv2 hv3 hrv hdj
        have b1 := new_below wr (.cells #[.slice a0 ss.length c0, .slice a1 cs.length c1, .bool f, .slice a3 bs.length c3] 55)
        have Y1 := Box.new wr 55 #[.slice a0 ss.length c0, .slice a1 cs.length c1, .bool f, .slice a3 bs.length c3]
        have X1 := Xr.below b1 Xr.lt
        have R0 := (r0.below hb).below b1
        have R1 := (r1.below hb).below b1
        have R3 := (r3.below hb).below b1
        have B1 := hb.trans (b1.mono hb.size)
        clear r0 r1 r3 b1
        obtain ⟨y0, y1, y2, y3⟩ := Y1.cells4
        obtain ⟨e0, e1, e2, e3, e4, e5, e6, e7, e8, e9, e10, e11, e12⟩ := X1.cells13
        have zy := Y1.lt
        have zx := X1.lt
        clear e0 e3 e5 e6 e7 e8 e9 e10 e11
        cases hM : memB ss cs bs
        · skip
          go_wp2_with fail
          generalize wr.alloc (.cells #[.slice a0 ss.length c0, .slice a1 cs.length c1, .bool f, .slice a3 bs.length c3] 55) = w1 at X1 Y1 R0 R1 R3 B1 y0 y1 y2 y3 e1 e2 e4 e12 zy zx ⊢
          refine wp_region_held_drew (S := fun w' => w'.cell? ⟨wr.heap.size, 0, none⟩ = some (.slice a0 ss.length c0) ∧ w'.cell? ⟨wr.heap.size, 1, none⟩ = some (.slice a1 cs.length c1) ∧ w'.cell? ⟨wr.heap.size, 2, none⟩ = some (.bool f) ∧ w'.cell? ⟨wr.heap.size, 3, none⟩ = some (.slice a3 bs.length c3) ∧ w'.cell? ⟨w.heap.size, 1, none⟩ = some (.int .i64 x.n) ∧ w'.cell? ⟨w.heap.size, 2, none⟩ = some (.int .i64 x.s)) (by kernel_rfl) ?_ (fun hHeld => ?_)
          · exact ⟨y0, y1, y2, y3, e1, e2⟩
          refine held_take (i := 0) (v := ?_) rfl (by kernel_rfl) (by kernel_rfl) (by kernel_rfl) (fun _ _ _ h => h) (by kernel_rfl) ?_ hHeld ?_
          rotate_left 1
          · (intro w hSw; (try dsimp only at hSw); go_split_ands; go_simp; first | done | with_reducible rfl)
          simp only [Act.put, List.setIfInBounds_toArray, List.set_cons_zero, List.set_cons_succ]
          refine held_one (i := 1) (by kernel_rfl) rfl (by kernel_rfl) (fun K hK => ?_)
          go_simp
          refine (implMemOk_any _ E _ _ _ _ _ _ _ _ _ ss cs f bs R0.drew R1.drew R3.drew hwm).mono ?_
          rintro e w2 ⟨rfl, b2⟩
          rw [hM]
          have b2' : Below w1.heap.size w1 w2 := (Below.refl w1.heap.size w1).drew.trans b2
          clear b2
          go_wp2_with fail
          clear hHeld
          refine hK.out _ _ ?_ (fun hHeld => ?_)
          · exact ⟨(b2'.cell (p := ⟨wr.heap.size, 0, none⟩) zy).trans y0, (b2'.cell (p := ⟨wr.heap.size, 1, none⟩) zy).trans y1, (b2'.cell (p := ⟨wr.heap.size, 2, none⟩) zy).trans y2, (b2'.cell (p := ⟨wr.heap.size, 3, none⟩) zy).trans y3, (b2'.cell (p := ⟨w.heap.size, 1, none⟩) zx).trans e1, (b2'.cell (p := ⟨w.heap.size, 2, none⟩) zx).trans e2⟩
          clear hK K
          refine held_take (i := 2) (v := ?_) rfl (by kernel_rfl) (by kernel_rfl) (by kernel_rfl) (fun _ _ _ h => h) (by kernel_rfl) ?_ hHeld ?_
          rotate_left 1
          · (intro w hSw; (try dsimp only at hSw); go_split_ands; go_simp; first | done | with_reducible rfl)
          simp only [Act.put, List.setIfInBounds_toArray, List.set_cons_zero, List.set_cons_succ]
          refine held_take (i := 3) (v := ?_) rfl (by kernel_rfl) (by kernel_rfl) (by kernel_rfl) (fun _ _ _ h => h) (by kernel_rfl) ?_ hHeld ?_
          rotate_left 1
          · (intro w hSw; (try dsimp only at hSw); go_split_ands; go_simp; first | done | with_reducible rfl)
          simp only [Act.put, List.setIfInBounds_toArray, List.set_cons_zero, List.set_cons_succ]
          refine held_pass (i := 4) rfl (by kernel_rfl) (by kernel_rfl) (by kernel_rfl) (fun _ _ _ h => h) (by kernel_rfl) hHeld ?_
          simp only [Act.put, List.setIfInBounds_toArray, List.set_cons_zero, List.set_cons_succ]
          refine held_pass (i := 5) rfl (by kernel_rfl) (by kernel_rfl) (by kernel_rfl) (fun _ _ _ h => h) (by kernel_rfl) hHeld ?_
          simp only [Act.put, List.setIfInBounds_toArray, List.set_cons_zero, List.set_cons_succ]
          refine held_pass (i := 6) rfl (by kernel_rfl) (by kernel_rfl) (by kernel_rfl) (fun _ _ _ h => h) (by kernel_rfl) hHeld ?_
          simp only [Act.put, List.setIfInBounds_toArray, List.set_cons_zero, List.set_cons_succ]
          refine held_pass (i := 7) rfl (by kernel_rfl) (by kernel_rfl) (by kernel_rfl) (fun _ _ _ h => h) (by kernel_rfl) hHeld ?_
          simp only [Act.put, List.setIfInBounds_toArray, List.set_cons_zero, List.set_cons_succ]
          refine held_pass (i := 8) rfl (by kernel_rfl) (by kernel_rfl) (by kernel_rfl) (fun _ _ _ h => h) (by kernel_rfl) hHeld ?_
          simp only [Act.put, List.setIfInBounds_toArray, List.set_cons_zero, List.set_cons_succ]
          refine held_none (i := 9) (by kernel_rfl) rfl (by kernel_rfl) hHeld ?_
          simp only [Act.put, List.setIfInBounds_toArray, List.set_cons_zero, List.set_cons_succ]
          refine held_pass (i := 10) rfl (by kernel_rfl) (by kernel_rfl) (by kernel_rfl) (fun _ _ _ h => h) (by kernel_rfl) hHeld ?_
          simp only [Act.put, List.setIfInBounds_toArray, List.set_cons_zero, List.set_cons_succ]
          refine held_take (i := 11) (v := ?_) rfl (by kernel_rfl) (by kernel_rfl) (by kernel_rfl) (fun _ _ _ h => h) (by kernel_rfl) ?_ hHeld ?_
          rotate_left 1
          · (intro w hSw; (try dsimp only at hSw); go_split_ands; go_simp; first | done | with_reducible rfl)
          simp only [Act.put, List.setIfInBounds_toArray, List.set_cons_zero, List.set_cons_succ]
          refine wpAnyH_done (by kernel_rfl) ?_ _
          clear hHeld
          have HB := hidden (hA.trans ((B1.trans (b2'.mono B1.size)).mono hA.size))
          go_wp2
          go_ret
          exact ⟨ret_bool (by rw [show memsB x ms = false from (by unfold memsB; rw [allIx_no HDJ.out (by unfold memAt; simp [hM])]; rfl)]), HB.out⟩
        · by_cases hS : (ss.length : Int) = 6 + x.s
          · have hS1 : ((ss.length : Int) == 6 + x.s) = true := by simpa using hS
            have hS2 : ((ss.length : Int) != 6 + x.s) = false := by simpa using hS
            have HS := hidden hS
            clear hS
            cases f
            · skip
              go_wp2_with fail
              generalize wr.alloc (.cells #[.slice a0 ss.length c0, .slice a1 cs.length c1, .bool false, .slice a3 bs.length c3] 55) = w1 at X1 Y1 R0 R1 R3 B1 y0 y1 y2 y3 e1 e2 e4 e12 zy zx ⊢
              refine wp_region_held_drew (S := fun w' => w'.cell? ⟨wr.heap.size, 0, none⟩ = some (.slice a0 ss.length c0) ∧ w'.cell? ⟨wr.heap.size, 1, none⟩ = some (.slice a1 cs.length c1) ∧ w'.cell? ⟨wr.heap.size, 2, none⟩ = some (.bool false) ∧ w'.cell? ⟨wr.heap.size, 3, none⟩ = some (.slice a3 bs.length c3) ∧ w'.cell? ⟨w.heap.size, 1, none⟩ = some (.int .i64 x.n) ∧ w'.cell? ⟨w.heap.size, 2, none⟩ = some (.int .i64 x.s)) (by kernel_rfl) ?_ (fun hHeld => ?_)
              · exact ⟨y0, y1, y2, y3, e1, e2⟩
              refine held_take (i := 0) (v := ?_) rfl (by kernel_rfl) (by kernel_rfl) (by kernel_rfl) (fun _ _ _ h => h) (by kernel_rfl) ?_ hHeld ?_
              rotate_left 1
              · (intro w hSw; (try dsimp only at hSw); go_split_ands; go_simp; first | done | with_reducible rfl)
              simp only [Act.put, List.setIfInBounds_toArray, List.set_cons_zero, List.set_cons_succ]
              refine held_one (i := 1) (by kernel_rfl) rfl (by kernel_rfl) (fun K hK => ?_)
              go_simp
              refine (implMemOk_any _ E _ _ _ _ _ _ _ _ _ ss cs false bs R0.drew R1.drew R3.drew hwm).mono ?_
              rintro e w2 ⟨rfl, b2⟩
              rw [hM]
              have b2' : Below w1.heap.size w1 w2 := (Below.refl w1.heap.size w1).drew.trans b2
              clear b2
              go_wp2_with fail
              clear hHeld
              refine hK.out _ _ ?_ (fun hHeld => ?_)
              · exact ⟨(b2'.cell (p := ⟨wr.heap.size, 0, none⟩) zy).trans y0, (b2'.cell (p := ⟨wr.heap.size, 1, none⟩) zy).trans y1, (b2'.cell (p := ⟨wr.heap.size, 2, none⟩) zy).trans y2, (b2'.cell (p := ⟨wr.heap.size, 3, none⟩) zy).trans y3, (b2'.cell (p := ⟨w.heap.size, 1, none⟩) zx).trans e1, (b2'.cell (p := ⟨w.heap.size, 2, none⟩) zx).trans e2⟩
              clear hK K
              refine held_take (i := 2) (v := ?_) rfl (by kernel_rfl) (by kernel_rfl) (by kernel_rfl) (fun _ _ _ h => h) (by kernel_rfl) ?_ hHeld ?_
              rotate_left 1
              · (intro w hSw; (try dsimp only at hSw); go_split_ands; go_simp; first | done | with_reducible rfl)
              simp only [Act.put, List.setIfInBounds_toArray, List.set_cons_zero, List.set_cons_succ]
              refine held_take (i := 3) (v := ?_) rfl (by kernel_rfl) (by kernel_rfl) (by kernel_rfl) (fun _ _ _ h => h) (by kernel_rfl) ?_ hHeld ?_
              rotate_left 1
              · (intro w hSw; (try dsimp only at hSw); go_split_ands; go_simp; first | done | with_reducible rfl)
              simp only [Act.put, List.setIfInBounds_toArray, List.set_cons_zero, List.set_cons_succ]
              refine held_take (i := 4) (v := ?_) rfl (by kernel_rfl) (by kernel_rfl) (by kernel_rfl) (fun _ _ _ h => h) (by kernel_rfl) ?_ hHeld ?_
              rotate_left 1
              · (intro w hSw; (try dsimp only at hSw); go_split_ands; go_simp; first | done | with_reducible rfl)
              simp only [Act.put, List.setIfInBounds_toArray, List.set_cons_zero, List.set_cons_succ]
              refine held_take (i := 5) (v := ?_) rfl (by kernel_rfl) (by kernel_rfl) (by kernel_rfl) (fun _ _ _ h => h) (by kernel_rfl) ?_ hHeld ?_
              rotate_left 1
              · (intro w hSw; (try dsimp only at hSw); go_split_ands; go_simp; first | done | with_reducible rfl)
              simp only [Act.put, List.setIfInBounds_toArray, List.set_cons_zero, List.set_cons_succ]
              refine held_take (i := 6) (v := ?_) rfl (by kernel_rfl) (by kernel_rfl) (by kernel_rfl) (fun _ _ _ h => h) (by kernel_rfl) ?_ hHeld ?_
              rotate_left 1
              · (intro w hSw; (try dsimp only at hSw); go_split_ands; go_simp; first | done | with_reducible rfl)
              simp only [Act.put, List.setIfInBounds_toArray, List.set_cons_zero, List.set_cons_succ]
              refine held_take (i := 7) (v := ?_) rfl (by kernel_rfl) (by kernel_rfl) (by kernel_rfl) (fun _ _ _ h => h) (by kernel_rfl) ?_ hHeld ?_
              rotate_left 1
              · (intro w hSw; (try dsimp only at hSw); go_split_ands; go_simp; first | done | with_reducible rfl)
              simp only [Act.put, List.setIfInBounds_toArray, List.set_cons_zero, List.set_cons_succ]
              refine held_take (i := 8) (v := ?_) rfl (by kernel_rfl) (by kernel_rfl) (by kernel_rfl) (fun _ _ _ h => h) (by kernel_rfl) ?_ hHeld ?_
              rotate_left 1
              · (intro w hSw; (try dsimp only at hSw); go_split_ands; go_simp; first | done | with_reducible rfl)
              simp only [Act.put, List.setIfInBounds_toArray, List.set_cons_zero, List.set_cons_succ]
              refine held_one (i := 9) (by kernel_rfl) rfl (by kernel_rfl) (fun K hK => ?_)
              go_simp
              refine (sectorsOf_any _ x.n x.s ⟨g3, g4⟩).mono ?_
              rintro e w3 ⟨rfl, b3⟩
              have b3' : Below w1.heap.size w1 w3 := Below.andThen b2' b3
              clear b3
              go_wp2_with fail
              clear hHeld
              refine hK.out _ _ ?_ (fun hHeld => ?_)
              · exact ⟨(b3'.cell (p := ⟨wr.heap.size, 0, none⟩) zy).trans y0, (b3'.cell (p := ⟨wr.heap.size, 1, none⟩) zy).trans y1, (b3'.cell (p := ⟨wr.heap.size, 2, none⟩) zy).trans y2, (b3'.cell (p := ⟨wr.heap.size, 3, none⟩) zy).trans y3, (b3'.cell (p := ⟨w.heap.size, 1, none⟩) zx).trans e1, (b3'.cell (p := ⟨w.heap.size, 2, none⟩) zx).trans e2⟩
              clear hK K
              refine held_take (i := 10) (v := ?_) rfl (by kernel_rfl) (by kernel_rfl) (by kernel_rfl) (fun _ _ _ h => h) (by kernel_rfl) ?_ hHeld ?_
              rotate_left 1
              · (intro w hSw; (try dsimp only at hSw); go_split_ands; go_simp; first | done | with_reducible rfl)
              simp only [Act.put, List.setIfInBounds_toArray, List.set_cons_zero, List.set_cons_succ]
              refine held_take (i := 11) (v := ?_) rfl (by kernel_rfl) (by kernel_rfl) (by kernel_rfl) (fun _ _ _ h => h) (by kernel_rfl) ?_ hHeld ?_
              rotate_left 1
              · (intro w hSw; (try dsimp only at hSw); go_split_ands; go_simp; first | done | with_reducible rfl)
              simp only [Act.put, List.setIfInBounds_toArray, List.set_cons_zero, List.set_cons_succ]
              refine wpAnyH_done (by kernel_rfl) ?_ _
              clear hHeld
              have n0 := (b3'.cell (p := ⟨w.heap.size, 4, none⟩) zx).trans e4
              have n1 := (b3'.cell (p := ⟨w.heap.size, 12, none⟩) zx).trans e12
              have n2 := (b3'.cell (p := ⟨wr.heap.size, 2, none⟩) zy).trans y2
              have HB := hidden (B1.trans (b3'.mono B1.size))
              have hat : memAt x j (ss, cs, false, bs) = true := (by unfold memAt; simp [hM, HS.out])
              go_wp2
              go_roundw
              case rel => exact ⟨j + 1, by omega, by go_num, fun q m hq hm' => by
                  rcases Nat.lt_or_ge q j with h | h
                  · exact hall q m h hm'
                  · obtain rfl : q = j := by omega
                    rw [HDJ.out] at hm'
                    cases hm'
                    exact hat, HB.out⟩
              case measure => simp [intOf]; omega
            · by_cases hL : (j : Int) = x.lost
              · have hL1 : ((j : Int) == x.lost) = true := by simpa using hL
                have hL2 : ((j : Int) != x.lost) = false := by simpa using hL
                have HL := hidden hL
                clear hL
                go_wp2_with fail
                generalize wr.alloc (.cells #[.slice a0 ss.length c0, .slice a1 cs.length c1, .bool true, .slice a3 bs.length c3] 55) = w1 at X1 Y1 R0 R1 R3 B1 y0 y1 y2 y3 e1 e2 e4 e12 zy zx ⊢
                refine wp_region_held_drew (S := fun w' => w'.cell? ⟨wr.heap.size, 0, none⟩ = some (.slice a0 ss.length c0) ∧ w'.cell? ⟨wr.heap.size, 1, none⟩ = some (.slice a1 cs.length c1) ∧ w'.cell? ⟨wr.heap.size, 2, none⟩ = some (.bool true) ∧ w'.cell? ⟨wr.heap.size, 3, none⟩ = some (.slice a3 bs.length c3) ∧ w'.cell? ⟨w.heap.size, 1, none⟩ = some (.int .i64 x.n) ∧ w'.cell? ⟨w.heap.size, 2, none⟩ = some (.int .i64 x.s)) (by kernel_rfl) ?_ (fun hHeld => ?_)
                · exact ⟨y0, y1, y2, y3, e1, e2⟩
                refine held_take (i := 0) (v := ?_) rfl (by kernel_rfl) (by kernel_rfl) (by kernel_rfl) (fun _ _ _ h => h) (by kernel_rfl) ?_ hHeld ?_
                rotate_left 1
                · (intro w hSw; (try dsimp only at hSw); go_split_ands; go_simp; first | done | with_reducible rfl)
                simp only [Act.put, List.setIfInBounds_toArray, List.set_cons_zero, List.set_cons_succ]
                refine held_one (i := 1) (by kernel_rfl) rfl (by kernel_rfl) (fun K hK => ?_)
                go_simp
                refine (implMemOk_any _ E _ _ _ _ _ _ _ _ _ ss cs true bs R0.drew R1.drew R3.drew hwm).mono ?_
                rintro e w2 ⟨rfl, b2⟩
                rw [hM]
                have b2' : Below w1.heap.size w1 w2 := (Below.refl w1.heap.size w1).drew.trans b2
                clear b2
                go_wp2_with fail
                clear hHeld
                refine hK.out _ _ ?_ (fun hHeld => ?_)
                · exact ⟨(b2'.cell (p := ⟨wr.heap.size, 0, none⟩) zy).trans y0, (b2'.cell (p := ⟨wr.heap.size, 1, none⟩) zy).trans y1, (b2'.cell (p := ⟨wr.heap.size, 2, none⟩) zy).trans y2, (b2'.cell (p := ⟨wr.heap.size, 3, none⟩) zy).trans y3, (b2'.cell (p := ⟨w.heap.size, 1, none⟩) zx).trans e1, (b2'.cell (p := ⟨w.heap.size, 2, none⟩) zx).trans e2⟩
                clear hK K
                refine held_take (i := 2) (v := ?_) rfl (by kernel_rfl) (by kernel_rfl) (by kernel_rfl) (fun _ _ _ h => h) (by kernel_rfl) ?_ hHeld ?_
                rotate_left 1
                · (intro w hSw; (try dsimp only at hSw); go_split_ands; go_simp; first | done | with_reducible rfl)
                simp only [Act.put, List.setIfInBounds_toArray, List.set_cons_zero, List.set_cons_succ]
                refine held_take (i := 3) (v := ?_) rfl (by kernel_rfl) (by kernel_rfl) (by kernel_rfl) (fun _ _ _ h => h) (by kernel_rfl) ?_ hHeld ?_
                rotate_left 1
                · (intro w hSw; (try dsimp only at hSw); go_split_ands; go_simp; first | done | with_reducible rfl)
                simp only [Act.put, List.setIfInBounds_toArray, List.set_cons_zero, List.set_cons_succ]
                refine held_take (i := 4) (v := ?_) rfl (by kernel_rfl) (by kernel_rfl) (by kernel_rfl) (fun _ _ _ h => h) (by kernel_rfl) ?_ hHeld ?_
                rotate_left 1
                · (intro w hSw; (try dsimp only at hSw); go_split_ands; go_simp; first | done | with_reducible rfl)
                simp only [Act.put, List.setIfInBounds_toArray, List.set_cons_zero, List.set_cons_succ]
                refine held_take (i := 5) (v := ?_) rfl (by kernel_rfl) (by kernel_rfl) (by kernel_rfl) (fun _ _ _ h => h) (by kernel_rfl) ?_ hHeld ?_
                rotate_left 1
                · (intro w hSw; (try dsimp only at hSw); go_split_ands; go_simp; first | done | with_reducible rfl)
                simp only [Act.put, List.setIfInBounds_toArray, List.set_cons_zero, List.set_cons_succ]
                refine held_take (i := 6) (v := ?_) rfl (by kernel_rfl) (by kernel_rfl) (by kernel_rfl) (fun _ _ _ h => h) (by kernel_rfl) ?_ hHeld ?_
                rotate_left 1
                · (intro w hSw; (try dsimp only at hSw); go_split_ands; go_simp; first | done | with_reducible rfl)
                simp only [Act.put, List.setIfInBounds_toArray, List.set_cons_zero, List.set_cons_succ]
                refine held_take (i := 7) (v := ?_) rfl (by kernel_rfl) (by kernel_rfl) (by kernel_rfl) (fun _ _ _ h => h) (by kernel_rfl) ?_ hHeld ?_
                rotate_left 1
                · (intro w hSw; (try dsimp only at hSw); go_split_ands; go_simp; first | done | with_reducible rfl)
                simp only [Act.put, List.setIfInBounds_toArray, List.set_cons_zero, List.set_cons_succ]
                refine held_take (i := 8) (v := ?_) rfl (by kernel_rfl) (by kernel_rfl) (by kernel_rfl) (fun _ _ _ h => h) (by kernel_rfl) ?_ hHeld ?_
                rotate_left 1
                · (intro w hSw; (try dsimp only at hSw); go_split_ands; go_simp; first | done | with_reducible rfl)
                simp only [Act.put, List.setIfInBounds_toArray, List.set_cons_zero, List.set_cons_succ]
                refine held_one (i := 9) (by kernel_rfl) rfl (by kernel_rfl) (fun K hK => ?_)
                go_simp
                refine (sectorsOf_any _ x.n x.s ⟨g3, g4⟩).mono ?_
                rintro e w3 ⟨rfl, b3⟩
                have b3' : Below w1.heap.size w1 w3 := Below.andThen b2' b3
                clear b3
                go_wp2_with fail
                clear hHeld
                refine hK.out _ _ ?_ (fun hHeld => ?_)
                · exact ⟨(b3'.cell (p := ⟨wr.heap.size, 0, none⟩) zy).trans y0, (b3'.cell (p := ⟨wr.heap.size, 1, none⟩) zy).trans y1, (b3'.cell (p := ⟨wr.heap.size, 2, none⟩) zy).trans y2, (b3'.cell (p := ⟨wr.heap.size, 3, none⟩) zy).trans y3, (b3'.cell (p := ⟨w.heap.size, 1, none⟩) zx).trans e1, (b3'.cell (p := ⟨w.heap.size, 2, none⟩) zx).trans e2⟩
                clear hK K
                refine held_take (i := 10) (v := ?_) rfl (by kernel_rfl) (by kernel_rfl) (by kernel_rfl) (fun _ _ _ h => h) (by kernel_rfl) ?_ hHeld ?_
                rotate_left 1
                · (intro w hSw; (try dsimp only at hSw); go_split_ands; go_simp; first | done | with_reducible rfl)
                simp only [Act.put, List.setIfInBounds_toArray, List.set_cons_zero, List.set_cons_succ]
                refine held_take (i := 11) (v := ?_) rfl (by kernel_rfl) (by kernel_rfl) (by kernel_rfl) (fun _ _ _ h => h) (by kernel_rfl) ?_ hHeld ?_
                rotate_left 1
                · (intro w hSw; (try dsimp only at hSw); go_split_ands; go_simp; first | done | with_reducible rfl)
                simp only [Act.put, List.setIfInBounds_toArray, List.set_cons_zero, List.set_cons_succ]
                refine wpAnyH_done (by kernel_rfl) ?_ _
                clear hHeld
                have n0 := (b3'.cell (p := ⟨w.heap.size, 4, none⟩) zx).trans e4
                have n1 := (b3'.cell (p := ⟨w.heap.size, 12, none⟩) zx).trans e12
                have n2 := (b3'.cell (p := ⟨wr.heap.size, 2, none⟩) zy).trans y2
                have HB := hidden (B1.trans (b3'.mono B1.size))
                have hat : memAt x j (ss, cs, true, bs) = true := (by unfold memAt; simp [hM, HS.out, HL.out])
                go_wp2
                go_roundw
                case rel => exact ⟨j + 1, by omega, by go_num, fun q m hq hm' => by
                    rcases Nat.lt_or_ge q j with h | h
                    · exact hall q m h hm'
                    · obtain rfl : q = j := by omega
                      rw [HDJ.out] at hm'
                      cases hm'
                      exact hat, HB.out⟩
                case measure => simp [intOf]; omega
              · have hL1 : ((j : Int) == x.lost) = false := by simpa using hL
                have hL2 : ((j : Int) != x.lost) = true := by simpa using hL
                have HL := hidden hL
                clear hL
                cases hBr : x.broken
                · rw [hBr] at e12
                  go_wp2_with fail
                  generalize wr.alloc (.cells #[.slice a0 ss.length c0, .slice a1 cs.length c1, .bool true, .slice a3 bs.length c3] 55) = w1 at X1 Y1 R0 R1 R3 B1 y0 y1 y2 y3 e1 e2 e4 e12 zy zx ⊢
                  refine wp_region_held_drew (S := fun w' => w'.cell? ⟨wr.heap.size, 0, none⟩ = some (.slice a0 ss.length c0) ∧ w'.cell? ⟨wr.heap.size, 1, none⟩ = some (.slice a1 cs.length c1) ∧ w'.cell? ⟨wr.heap.size, 2, none⟩ = some (.bool true) ∧ w'.cell? ⟨wr.heap.size, 3, none⟩ = some (.slice a3 bs.length c3) ∧ w'.cell? ⟨w.heap.size, 1, none⟩ = some (.int .i64 x.n) ∧ w'.cell? ⟨w.heap.size, 2, none⟩ = some (.int .i64 x.s)) (by kernel_rfl) ?_ (fun hHeld => ?_)
                  · exact ⟨y0, y1, y2, y3, e1, e2⟩
                  refine held_take (i := 0) (v := ?_) rfl (by kernel_rfl) (by kernel_rfl) (by kernel_rfl) (fun _ _ _ h => h) (by kernel_rfl) ?_ hHeld ?_
                  rotate_left 1
                  · (intro w hSw; (try dsimp only at hSw); go_split_ands; go_simp; first | done | with_reducible rfl)
                  simp only [Act.put, List.setIfInBounds_toArray, List.set_cons_zero, List.set_cons_succ]
                  refine held_one (i := 1) (by kernel_rfl) rfl (by kernel_rfl) (fun K hK => ?_)
                  go_simp
                  refine (implMemOk_any _ E _ _ _ _ _ _ _ _ _ ss cs true bs R0.drew R1.drew R3.drew hwm).mono ?_
                  rintro e w2 ⟨rfl, b2⟩
                  rw [hM]
                  have b2' : Below w1.heap.size w1 w2 := (Below.refl w1.heap.size w1).drew.trans b2
                  clear b2
                  go_wp2_with fail
                  clear hHeld
                  refine hK.out _ _ ?_ (fun hHeld => ?_)
                  · exact ⟨(b2'.cell (p := ⟨wr.heap.size, 0, none⟩) zy).trans y0, (b2'.cell (p := ⟨wr.heap.size, 1, none⟩) zy).trans y1, (b2'.cell (p := ⟨wr.heap.size, 2, none⟩) zy).trans y2, (b2'.cell (p := ⟨wr.heap.size, 3, none⟩) zy).trans y3, (b2'.cell (p := ⟨w.heap.size, 1, none⟩) zx).trans e1, (b2'.cell (p := ⟨w.heap.size, 2, none⟩) zx).trans e2⟩
                  clear hK K
                  refine held_take (i := 2) (v := ?_) rfl (by kernel_rfl) (by kernel_rfl) (by kernel_rfl) (fun _ _ _ h => h) (by kernel_rfl) ?_ hHeld ?_
                  rotate_left 1
                  · (intro w hSw; (try dsimp only at hSw); go_split_ands; go_simp; first | done | with_reducible rfl)
                  simp only [Act.put, List.setIfInBounds_toArray, List.set_cons_zero, List.set_cons_succ]
                  refine held_take (i := 3) (v := ?_) rfl (by kernel_rfl) (by kernel_rfl) (by kernel_rfl) (fun _ _ _ h => h) (by kernel_rfl) ?_ hHeld ?_
                  rotate_left 1
                  · (intro w hSw; (try dsimp only at hSw); go_split_ands; go_simp; first | done | with_reducible rfl)
                  simp only [Act.put, List.setIfInBounds_toArray, List.set_cons_zero, List.set_cons_succ]
                  refine held_take (i := 4) (v := ?_) rfl (by kernel_rfl) (by kernel_rfl) (by kernel_rfl) (fun _ _ _ h => h) (by kernel_rfl) ?_ hHeld ?_
                  rotate_left 1
                  · (intro w hSw; (try dsimp only at hSw); go_split_ands; go_simp; first | done | with_reducible rfl)
                  simp only [Act.put, List.setIfInBounds_toArray, List.set_cons_zero, List.set_cons_succ]
                  refine held_take (i := 5) (v := ?_) rfl (by kernel_rfl) (by kernel_rfl) (by kernel_rfl) (fun _ _ _ h => h) (by kernel_rfl) ?_ hHeld ?_
                  rotate_left 1
                  · (intro w hSw; (try dsimp only at hSw); go_split_ands; go_simp; first | done | with_reducible rfl)
                  simp only [Act.put, List.setIfInBounds_toArray, List.set_cons_zero, List.set_cons_succ]
                  refine held_take (i := 6) (v := ?_) rfl (by kernel_rfl) (by kernel_rfl) (by kernel_rfl) (fun _ _ _ h => h) (by kernel_rfl) ?_ hHeld ?_
                  rotate_left 1
                  · (intro w hSw; (try dsimp only at hSw); go_split_ands; go_simp; first | done | with_reducible rfl)
                  simp only [Act.put, List.setIfInBounds_toArray, List.set_cons_zero, List.set_cons_succ]
                  refine held_take (i := 7) (v := ?_) rfl (by kernel_rfl) (by kernel_rfl) (by kernel_rfl) (fun _ _ _ h => h) (by kernel_rfl) ?_ hHeld ?_
                  rotate_left 1
                  · (intro w hSw; (try dsimp only at hSw); go_split_ands; go_simp; first | done | with_reducible rfl)
                  simp only [Act.put, List.setIfInBounds_toArray, List.set_cons_zero, List.set_cons_succ]
                  refine held_take (i := 8) (v := ?_) rfl (by kernel_rfl) (by kernel_rfl) (by kernel_rfl) (fun _ _ _ h => h) (by kernel_rfl) ?_ hHeld ?_
                  rotate_left 1
                  · (intro w hSw; (try dsimp only at hSw); go_split_ands; go_simp; first | done | with_reducible rfl)
                  simp only [Act.put, List.setIfInBounds_toArray, List.set_cons_zero, List.set_cons_succ]
                  refine held_one (i := 9) (by kernel_rfl) rfl (by kernel_rfl) (fun K hK => ?_)
                  go_simp
                  refine (sectorsOf_any _ x.n x.s ⟨g3, g4⟩).mono ?_
                  rintro e w3 ⟨rfl, b3⟩
                  have b3' : Below w1.heap.size w1 w3 := Below.andThen b2' b3
                  clear b3
                  go_wp2_with fail
                  clear hHeld
                  refine hK.out _ _ ?_ (fun hHeld => ?_)
                  · exact ⟨(b3'.cell (p := ⟨wr.heap.size, 0, none⟩) zy).trans y0, (b3'.cell (p := ⟨wr.heap.size, 1, none⟩) zy).trans y1, (b3'.cell (p := ⟨wr.heap.size, 2, none⟩) zy).trans y2, (b3'.cell (p := ⟨wr.heap.size, 3, none⟩) zy).trans y3, (b3'.cell (p := ⟨w.heap.size, 1, none⟩) zx).trans e1, (b3'.cell (p := ⟨w.heap.size, 2, none⟩) zx).trans e2⟩
                  clear hK K
                  refine held_take (i := 10) (v := ?_) rfl (by kernel_rfl) (by kernel_rfl) (by kernel_rfl) (fun _ _ _ h => h) (by kernel_rfl) ?_ hHeld ?_
                  rotate_left 1
                  · (intro w hSw; (try dsimp only at hSw); go_split_ands; go_simp; first | done | with_reducible rfl)
                  simp only [Act.put, List.setIfInBounds_toArray, List.set_cons_zero, List.set_cons_succ]
                  refine held_take (i := 11) (v := ?_) rfl (by kernel_rfl) (by kernel_rfl) (by kernel_rfl) (fun _ _ _ h => h) (by kernel_rfl) ?_ hHeld ?_
                  rotate_left 1
                  · (intro w hSw; (try dsimp only at hSw); go_split_ands; go_simp; first | done | with_reducible rfl)
                  simp only [Act.put, List.setIfInBounds_toArray, List.set_cons_zero, List.set_cons_succ]
                  refine wpAnyH_done (by kernel_rfl) ?_ _
                  clear hHeld
                  have n0 := (b3'.cell (p := ⟨w.heap.size, 4, none⟩) zx).trans e4
                  have n1 := (b3'.cell (p := ⟨w.heap.size, 12, none⟩) zx).trans e12
                  have n2 := (b3'.cell (p := ⟨wr.heap.size, 2, none⟩) zy).trans y2
                  have HB := hidden (hA.trans ((B1.trans (b3'.mono B1.size)).mono hA.size))
                  go_wp2
                  go_ret
                  exact ⟨ret_bool (by rw [show memsB x ms = false from (by unfold memsB; rw [allIx_no HDJ.out (by unfold memAt; simp [HL.out, hBr])]; rfl)]), HB.out⟩
                · rw [hBr] at e12
                  go_wp2_with fail
                  generalize wr.alloc (.cells #[.slice a0 ss.length c0, .slice a1 cs.length c1, .bool true, .slice a3 bs.length c3] 55) = w1 at X1 Y1 R0 R1 R3 B1 y0 y1 y2 y3 e1 e2 e4 e12 zy zx ⊢
                  refine wp_region_held_drew (S := fun w' => w'.cell? ⟨wr.heap.size, 0, none⟩ = some (.slice a0 ss.length c0) ∧ w'.cell? ⟨wr.heap.size, 1, none⟩ = some (.slice a1 cs.length c1) ∧ w'.cell? ⟨wr.heap.size, 2, none⟩ = some (.bool true) ∧ w'.cell? ⟨wr.heap.size, 3, none⟩ = some (.slice a3 bs.length c3) ∧ w'.cell? ⟨w.heap.size, 1, none⟩ = some (.int .i64 x.n) ∧ w'.cell? ⟨w.heap.size, 2, none⟩ = some (.int .i64 x.s)) (by kernel_rfl) ?_ (fun hHeld => ?_)
                  · exact ⟨y0, y1, y2, y3, e1, e2⟩
                  refine held_take (i := 0) (v := ?_) rfl (by kernel_rfl) (by kernel_rfl) (by kernel_rfl) (fun _ _ _ h => h) (by kernel_rfl) ?_ hHeld ?_
                  rotate_left 1
                  · (intro w hSw; (try dsimp only at hSw); go_split_ands; go_simp; first | done | with_reducible rfl)
                  simp only [Act.put, List.setIfInBounds_toArray, List.set_cons_zero, List.set_cons_succ]
                  refine held_one (i := 1) (by kernel_rfl) rfl (by kernel_rfl) (fun K hK => ?_)
                  go_simp
                  refine (implMemOk_any _ E _ _ _ _ _ _ _ _ _ ss cs true bs R0.drew R1.drew R3.drew hwm).mono ?_
                  rintro e w2 ⟨rfl, b2⟩
                  rw [hM]
                  have b2' : Below w1.heap.size w1 w2 := (Below.refl w1.heap.size w1).drew.trans b2
                  clear b2
                  go_wp2_with fail
                  clear hHeld
                  refine hK.out _ _ ?_ (fun hHeld => ?_)
                  · exact ⟨(b2'.cell (p := ⟨wr.heap.size, 0, none⟩) zy).trans y0, (b2'.cell (p := ⟨wr.heap.size, 1, none⟩) zy).trans y1, (b2'.cell (p := ⟨wr.heap.size, 2, none⟩) zy).trans y2, (b2'.cell (p := ⟨wr.heap.size, 3, none⟩) zy).trans y3, (b2'.cell (p := ⟨w.heap.size, 1, none⟩) zx).trans e1, (b2'.cell (p := ⟨w.heap.size, 2, none⟩) zx).trans e2⟩
                  clear hK K
                  refine held_take (i := 2) (v := ?_) rfl (by kernel_rfl) (by kernel_rfl) (by kernel_rfl) (fun _ _ _ h => h) (by kernel_rfl) ?_ hHeld ?_
                  rotate_left 1
                  · (intro w hSw; (try dsimp only at hSw); go_split_ands; go_simp; first | done | with_reducible rfl)
                  simp only [Act.put, List.setIfInBounds_toArray, List.set_cons_zero, List.set_cons_succ]
                  refine held_take (i := 3) (v := ?_) rfl (by kernel_rfl) (by kernel_rfl) (by kernel_rfl) (fun _ _ _ h => h) (by kernel_rfl) ?_ hHeld ?_
                  rotate_left 1
                  · (intro w hSw; (try dsimp only at hSw); go_split_ands; go_simp; first | done | with_reducible rfl)
                  simp only [Act.put, List.setIfInBounds_toArray, List.set_cons_zero, List.set_cons_succ]
                  refine held_take (i := 4) (v := ?_) rfl (by kernel_rfl) (by kernel_rfl) (by kernel_rfl) (fun _ _ _ h => h) (by kernel_rfl) ?_ hHeld ?_
                  rotate_left 1
                  · (intro w hSw; (try dsimp only at hSw); go_split_ands; go_simp; first | done | with_reducible rfl)
                  simp only [Act.put, List.setIfInBounds_toArray, List.set_cons_zero, List.set_cons_succ]
                  refine held_take (i := 5) (v := ?_) rfl (by kernel_rfl) (by kernel_rfl) (by kernel_rfl) (fun _ _ _ h => h) (by kernel_rfl) ?_ hHeld ?_
                  rotate_left 1
                  · (intro w hSw; (try dsimp only at hSw); go_split_ands; go_simp; first | done | with_reducible rfl)
                  simp only [Act.put, List.setIfInBounds_toArray, List.set_cons_zero, List.set_cons_succ]
                  refine held_take (i := 6) (v := ?_) rfl (by kernel_rfl) (by kernel_rfl) (by kernel_rfl) (fun _ _ _ h => h) (by kernel_rfl) ?_ hHeld ?_
                  rotate_left 1
                  · (intro w hSw; (try dsimp only at hSw); go_split_ands; go_simp; first | done | with_reducible rfl)
                  simp only [Act.put, List.setIfInBounds_toArray, List.set_cons_zero, List.set_cons_succ]
                  refine held_take (i := 7) (v := ?_) rfl (by kernel_rfl) (by kernel_rfl) (by kernel_rfl) (fun _ _ _ h => h) (by kernel_rfl) ?_ hHeld ?_
                  rotate_left 1
                  · (intro w hSw; (try dsimp only at hSw); go_split_ands; go_simp; first | done | with_reducible rfl)
                  simp only [Act.put, List.setIfInBounds_toArray, List.set_cons_zero, List.set_cons_succ]
                  refine held_take (i := 8) (v := ?_) rfl (by kernel_rfl) (by kernel_rfl) (by kernel_rfl) (fun _ _ _ h => h) (by kernel_rfl) ?_ hHeld ?_
                  rotate_left 1
                  · (intro w hSw; (try dsimp only at hSw); go_split_ands; go_simp; first | done | with_reducible rfl)
                  simp only [Act.put, List.setIfInBounds_toArray, List.set_cons_zero, List.set_cons_succ]
                  refine held_one (i := 9) (by kernel_rfl) rfl (by kernel_rfl) (fun K hK => ?_)
                  go_simp
                  refine (sectorsOf_any _ x.n x.s ⟨g3, g4⟩).mono ?_
                  rintro e w3 ⟨rfl, b3⟩
                  have b3' : Below w1.heap.size w1 w3 := Below.andThen b2' b3
                  clear b3
                  go_wp2_with fail
                  clear hHeld
                  refine hK.out _ _ ?_ (fun hHeld => ?_)
                  · exact ⟨(b3'.cell (p := ⟨wr.heap.size, 0, none⟩) zy).trans y0, (b3'.cell (p := ⟨wr.heap.size, 1, none⟩) zy).trans y1, (b3'.cell (p := ⟨wr.heap.size, 2, none⟩) zy).trans y2, (b3'.cell (p := ⟨wr.heap.size, 3, none⟩) zy).trans y3, (b3'.cell (p := ⟨w.heap.size, 1, none⟩) zx).trans e1, (b3'.cell (p := ⟨w.heap.size, 2, none⟩) zx).trans e2⟩
                  clear hK K
                  refine held_take (i := 10) (v := ?_) rfl (by kernel_rfl) (by kernel_rfl) (by kernel_rfl) (fun _ _ _ h => h) (by kernel_rfl) ?_ hHeld ?_
                  rotate_left 1
                  · (intro w hSw; (try dsimp only at hSw); go_split_ands; go_simp; first | done | with_reducible rfl)
                  simp only [Act.put, List.setIfInBounds_toArray, List.set_cons_zero, List.set_cons_succ]
                  refine held_take (i := 11) (v := ?_) rfl (by kernel_rfl) (by kernel_rfl) (by kernel_rfl) (fun _ _ _ h => h) (by kernel_rfl) ?_ hHeld ?_
                  rotate_left 1
                  · (intro w hSw; (try dsimp only at hSw); go_split_ands; go_simp; first | done | with_reducible rfl)
                  simp only [Act.put, List.setIfInBounds_toArray, List.set_cons_zero, List.set_cons_succ]
                  refine wpAnyH_done (by kernel_rfl) ?_ _
                  clear hHeld
                  have n0 := (b3'.cell (p := ⟨w.heap.size, 4, none⟩) zx).trans e4
                  have n1 := (b3'.cell (p := ⟨w.heap.size, 12, none⟩) zx).trans e12
                  have n2 := (b3'.cell (p := ⟨wr.heap.size, 2, none⟩) zy).trans y2
                  have HB := hidden (B1.trans (b3'.mono B1.size))
                  have hat : memAt x j (ss, cs, true, bs) = true := (by unfold memAt; simp [hM, HS.out, hBr])
                  go_wp2
                  go_roundw
                  case rel => exact ⟨j + 1, by omega, by go_num, fun q m hq hm' => by
                      rcases Nat.lt_or_ge q j with h | h
                      · exact hall q m h hm'
                      · obtain rfl : q = j := by omega
                        rw [HDJ.out] at hm'
                        cases hm'
                        exact hat, HB.out⟩
                  case measure => simp [intOf]; omega
          · have hS1 : ((ss.length : Int) == 6 + x.s) = false := by simpa using hS
            have hS2 : ((ss.length : Int) != 6 + x.s) = true := by simpa using hS
            have HS := hidden hS
            clear hS
            go_wp2_with fail
            generalize wr.alloc (.cells #[.slice a0 ss.length c0, .slice a1 cs.length c1, .bool f, .slice a3 bs.length c3] 55) = w1 at X1 Y1 R0 R1 R3 B1 y0 y1 y2 y3 e1 e2 e4 e12 zy zx ⊢
            refine wp_region_held_drew (S := fun w' => w'.cell? ⟨wr.heap.size, 0, none⟩ = some (.slice a0 ss.length c0) ∧ w'.cell? ⟨wr.heap.size, 1, none⟩ = some (.slice a1 cs.length c1) ∧ w'.cell? ⟨wr.heap.size, 2, none⟩ = some (.bool f) ∧ w'.cell? ⟨wr.heap.size, 3, none⟩ = some (.slice a3 bs.length c3) ∧ w'.cell? ⟨w.heap.size, 1, none⟩ = some (.int .i64 x.n) ∧ w'.cell? ⟨w.heap.size, 2, none⟩ = some (.int .i64 x.s)) (by kernel_rfl) ?_ (fun hHeld => ?_)
            · exact ⟨y0, y1, y2, y3, e1, e2⟩
            refine held_take (i := 0) (v := ?_) rfl (by kernel_rfl) (by kernel_rfl) (by kernel_rfl) (fun _ _ _ h => h) (by kernel_rfl) ?_ hHeld ?_
            rotate_left 1
            · (intro w hSw; (try dsimp only at hSw); go_split_ands; go_simp; first | done | with_reducible rfl)
            simp only [Act.put, List.setIfInBounds_toArray, List.set_cons_zero, List.set_cons_succ]
            refine held_one (i := 1) (by kernel_rfl) rfl (by kernel_rfl) (fun K hK => ?_)
            go_simp
            refine (implMemOk_any _ E _ _ _ _ _ _ _ _ _ ss cs f bs R0.drew R1.drew R3.drew hwm).mono ?_
            rintro e w2 ⟨rfl, b2⟩
            rw [hM]
            have b2' : Below w1.heap.size w1 w2 := (Below.refl w1.heap.size w1).drew.trans b2
            clear b2
            go_wp2_with fail
            clear hHeld
            refine hK.out _ _ ?_ (fun hHeld => ?_)
            · exact ⟨(b2'.cell (p := ⟨wr.heap.size, 0, none⟩) zy).trans y0, (b2'.cell (p := ⟨wr.heap.size, 1, none⟩) zy).trans y1, (b2'.cell (p := ⟨wr.heap.size, 2, none⟩) zy).trans y2, (b2'.cell (p := ⟨wr.heap.size, 3, none⟩) zy).trans y3, (b2'.cell (p := ⟨w.heap.size, 1, none⟩) zx).trans e1, (b2'.cell (p := ⟨w.heap.size, 2, none⟩) zx).trans e2⟩
            clear hK K
            refine held_take (i := 2) (v := ?_) rfl (by kernel_rfl) (by kernel_rfl) (by kernel_rfl) (fun _ _ _ h => h) (by kernel_rfl) ?_ hHeld ?_
            rotate_left 1
            · (intro w hSw; (try dsimp only at hSw); go_split_ands; go_simp; first | done | with_reducible rfl)
            simp only [Act.put, List.setIfInBounds_toArray, List.set_cons_zero, List.set_cons_succ]
            refine held_take (i := 3) (v := ?_) rfl (by kernel_rfl) (by kernel_rfl) (by kernel_rfl) (fun _ _ _ h => h) (by kernel_rfl) ?_ hHeld ?_
            rotate_left 1
            · (intro w hSw; (try dsimp only at hSw); go_split_ands; go_simp; first | done | with_reducible rfl)
            simp only [Act.put, List.setIfInBounds_toArray, List.set_cons_zero, List.set_cons_succ]
            refine held_take (i := 4) (v := ?_) rfl (by kernel_rfl) (by kernel_rfl) (by kernel_rfl) (fun _ _ _ h => h) (by kernel_rfl) ?_ hHeld ?_
            rotate_left 1
            · (intro w hSw; (try dsimp only at hSw); go_split_ands; go_simp; first | done | with_reducible rfl)
            simp only [Act.put, List.setIfInBounds_toArray, List.set_cons_zero, List.set_cons_succ]
            refine held_take (i := 5) (v := ?_) rfl (by kernel_rfl) (by kernel_rfl) (by kernel_rfl) (fun _ _ _ h => h) (by kernel_rfl) ?_ hHeld ?_
            rotate_left 1
            · (intro w hSw; (try dsimp only at hSw); go_split_ands; go_simp; first | done | with_reducible rfl)
            simp only [Act.put, List.setIfInBounds_toArray, List.set_cons_zero, List.set_cons_succ]
            refine held_take (i := 6) (v := ?_) rfl (by kernel_rfl) (by kernel_rfl) (by kernel_rfl) (fun _ _ _ h => h) (by kernel_rfl) ?_ hHeld ?_
            rotate_left 1
            · (intro w hSw; (try dsimp only at hSw); go_split_ands; go_simp; first | done | with_reducible rfl)
            simp only [Act.put, List.setIfInBounds_toArray, List.set_cons_zero, List.set_cons_succ]
            refine held_take (i := 7) (v := ?_) rfl (by kernel_rfl) (by kernel_rfl) (by kernel_rfl) (fun _ _ _ h => h) (by kernel_rfl) ?_ hHeld ?_
            rotate_left 1
            · (intro w hSw; (try dsimp only at hSw); go_split_ands; go_simp; first | done | with_reducible rfl)
            simp only [Act.put, List.setIfInBounds_toArray, List.set_cons_zero, List.set_cons_succ]
            refine held_take (i := 8) (v := ?_) rfl (by kernel_rfl) (by kernel_rfl) (by kernel_rfl) (fun _ _ _ h => h) (by kernel_rfl) ?_ hHeld ?_
            rotate_left 1
            · (intro w hSw; (try dsimp only at hSw); go_split_ands; go_simp; first | done | with_reducible rfl)
            simp only [Act.put, List.setIfInBounds_toArray, List.set_cons_zero, List.set_cons_succ]
            refine held_one (i := 9) (by kernel_rfl) rfl (by kernel_rfl) (fun K hK => ?_)
            go_simp
            refine (sectorsOf_any _ x.n x.s ⟨g3, g4⟩).mono ?_
            rintro e w3 ⟨rfl, b3⟩
            have b3' : Below w1.heap.size w1 w3 := Below.andThen b2' b3
            clear b3
            go_wp2_with fail
            clear hHeld
            refine hK.out _ _ ?_ (fun hHeld => ?_)
            · exact ⟨(b3'.cell (p := ⟨wr.heap.size, 0, none⟩) zy).trans y0, (b3'.cell (p := ⟨wr.heap.size, 1, none⟩) zy).trans y1, (b3'.cell (p := ⟨wr.heap.size, 2, none⟩) zy).trans y2, (b3'.cell (p := ⟨wr.heap.size, 3, none⟩) zy).trans y3, (b3'.cell (p := ⟨w.heap.size, 1, none⟩) zx).trans e1, (b3'.cell (p := ⟨w.heap.size, 2, none⟩) zx).trans e2⟩
            clear hK K
            refine held_take (i := 10) (v := ?_) rfl (by kernel_rfl) (by kernel_rfl) (by kernel_rfl) (fun _ _ _ h => h) (by kernel_rfl) ?_ hHeld ?_
            rotate_left 1
            · (intro w hSw; (try dsimp only at hSw); go_split_ands; go_simp; first | done | with_reducible rfl)
            simp only [Act.put, List.setIfInBounds_toArray, List.set_cons_zero, List.set_cons_succ]
            refine held_take (i := 11) (v := ?_) rfl (by kernel_rfl) (by kernel_rfl) (by kernel_rfl) (fun _ _ _ h => h) (by kernel_rfl) ?_ hHeld ?_
            rotate_left 1
            · (intro w hSw; (try dsimp only at hSw); go_split_ands; go_simp; first | done | with_reducible rfl)
            simp only [Act.put, List.setIfInBounds_toArray, List.set_cons_zero, List.set_cons_succ]
            refine wpAnyH_done (by kernel_rfl) ?_ _
            clear hHeld
            have n0 := (b3'.cell (p := ⟨w.heap.size, 4, none⟩) zx).trans e4
            have n1 := (b3'.cell (p := ⟨w.heap.size, 12, none⟩) zx).trans e12
            have n2 := (b3'.cell (p := ⟨wr.heap.size, 2, none⟩) zy).trans y2
            have HB := hidden (hA.trans ((B1.trans (b3'.mono B1.size)).mono hA.size))
            go_wp2
            go_ret
            exact ⟨ret_bool (by rw [show memsB x ms = false from (by unfold memsB; rw [allIx_no HDJ.out (by unfold memAt; simp [HS.out])]; rfl)]), HB.out⟩
      · have e : j = nm := by omega
        subst e
        have hAll : allIx (memAt x) ms = true := allIx_iff.2 (fun q m hq => hall q m (by have := (List.getElem?_eq_some_iff.1 hq).1; omega) hq)
        have HB := hidden (hA.trans (hb.mono hA.size))
        have hR : memsB x ms = true := by unfold memsB; rw [hAll, hl]; simpa using HN.out
        go_wp2
        go_ret
        exact ⟨ret_bool hR.symm, HB.out⟩
  · have hN1 : ((nm : Int) == x.n) = false := by simpa using hN
    have hN2 : ((nm : Int) != x.n) = true := by simpa using hN
    have hR : memsB x ms = false := by unfold memsB; rw [hl]; simp [hN]
    have HR := hidden hR
    clear hN hR
    go_enter Try.func50, Try.ntmps50
    go_wp2
    go_ret
    exact ⟨ret_bool HR.out.symm, hA⟩

end Go.Proofs.Ytccokaicipldcaa

/-
  Plain lemmas on a region that draws its order and whose store may come up ahead of an operation that reads nothing: a condition on the world is held behind every operation as long as the store hasn't come up. No condition; nothing of the program is named here.
-/
namespace Go.Proofs.Ytccokaicipldcaa
open Go.RowKit

/-- Whatever comes up next from here on; behind each operation but number k this holds of the world, as long as k hasn't come up. -/
def Late (P : Program) (ops : Array Oper) (Q : Exit → Act → World → Prop) (S : World → Prop) (k : Nat) : Nat → Array Bool → Act → World → Prop
  | 0, l, a, w => Region.ready .any ops l = [] ∧ Q .normal a w
  | n + 1, l, a, w => (Region.ready .any ops l = [] → Q .normal a w) ∧ ∀ j ∈ Region.ready .any ops l, wpOp P ops Q j (fun a' w' => (j ≠ k → l.getD k true = false → S w') ∧ Late P ops Q S k n (l.setIfInBounds j true) a' w') a w

section
variable {P : Program} {ops : Array Oper} {Q : Exit → Act → World → Prop} {S : World → Prop} {k : Nat}

theorem Late.any : ∀ (n : Nat) (l : Array Bool) (a : Act) (w : World), Late P ops Q S k n l a w → wpAny P .any ops Q n l a w
  | 0, _, _, _, h => h
  | n + 1, _, _, _, h => ⟨h.1, fun j hj => wpOp_mono (fun a' w' h' => Late.any n _ a' w' h'.2) (h.2 j hj)⟩

/-- The beginning. -/
theorem Late.start {id : Nat} {a : Act} {w : World} (hm : P.follows .mixedOrders = true) (h : Late P ops Q S k ops.size (Array.replicate ops.size false) a w.drew) : (Code.region id ops true).wp P Q a w :=
  wp_region_any hm (Late.any _ _ _ _ h)

theorem Late.first {i : Nat} {oi ok : Oper} {v : Value} (hi : ops[i]? = some oi) (hk : ops[k]? = some ok) (hki : ∃ e ∈ ok.after, Region.binds .any e = true ∧ e.on = i)
    (hsel : ∀ (j : Nat) (o : Oper) cs b, ops[j]? = some o → o.op ≠ .select cs b) (hQ : ∀ c a w, Q (.panic c) (a.put oi.dst v) w → Q (.panic c) a w) (n : Nat) :
    ∀ (l : Array Bool) (a : Act) (w : World),
      (∀ j oj, ops[j]? = some oj → j ≠ i → l.getD j true = false → (∀ e ∈ oj.after, Region.binds .any e = true → e.on ≠ i) → oi.apart ops oj = true) →
      l.getD k true = false → i ∈ Region.ready .any ops l → YieldsIf P ops S oi v a → S w → Late P ops Q S k n (l.setIfInBounds i true) (a.put oi.dst v) w → Late P ops Q S k (n + 1) l a w := by
  induction n with
  | zero =>
    intro l a w _ hkl hr hy hS H
    constructor
    · intro h
      rw [h] at hr
      simp at hr
    · intro j hj
      by_cases hji : j = i
      · rw [hji]
        exact hy.wpOp hi hS ⟨fun _ _ => hS, H⟩
      · have h2 := ready_mono (i := i) hj hji
        rw [H.1] at h2
        simp at h2
  | succ n ih =>
    intro l a w hfree hkl hr hy hS H
    constructor
    · intro h
      rw [h] at hr
      simp at hr
    · intro j hj
      by_cases hji : j = i
      · rw [hji]
        exact hy.wpOp hi hS ⟨fun _ _ => hS, H⟩
      · obtain ⟨hju, oj, hoj, hall⟩ := mem_ready.1 hj
        have hiu := (mem_ready.1 hr).1
        have hno : ∀ e ∈ oj.after, Region.binds .any e = true → e.on ≠ i := fun e he hb hon => unlisted hiu (hon ▸ hall e he hb)
        have hjk : j ≠ k := by
          intro hjk
          rw [hjk, hk] at hoj
          obtain ⟨e, he, hb, hon⟩ := hki
          cases hoj
          exact hno e he hb hon
        have h1 := H.2 j (ready_mono hj hji)
        have h2 := wpOp_putIf hoj (hfree j oj hoj hji hju hno) (fun cs b => hsel i oi cs b hi) (fun cs b => hsel j oj cs b hoj) hQ hy h1
        refine wpOp_mono ?_ h2
        intro a' w' h3
        have hik : i ≠ k := by
          intro hik
          obtain ⟨_, ok', hok', hall'⟩ := mem_ready.1 hr
          rw [hik, hk] at hok'
          obtain ⟨e, he, hb, hon⟩ := hki
          cases hok'
          exact unlisted hiu (hon ▸ hall' e he hb)
        have hS' := h3.2.1 hjk (by rw [getD_set_ne true hik]; exact hkl)
        refine ⟨fun _ _ => hS', ih _ a' w' ?_ (by rw [getD_set_ne true hjk]; exact hkl) (ready_mono hr (Ne.symm hji)) h3.1 hS' ?_⟩
        · intro m om hm hmi hun hnm
          refine hfree m om hm hmi ?_ hnm
          by_cases hjm : j = m
          · rw [← hjm]
            exact hju
          · rw [getD_set_ne true hjm] at hun
            exact hun
        · rw [Array.setIfInBounds_comm _ _ hji]
          exact h3.2.2

/-- Number i may be taken first: what it yields hangs on the condition alone. -/
theorem Late.take {i : Nat} {oi : Oper} {v : Value} {n : Nat} {l : Array Bool} {a : Act} {w : World} {tl : List Oper} (hi' : ops.toList.drop i = oi :: tl)
    (hki : ((ops[k]?).map fun o => o.after.any fun e => Region.binds .any e && e.on == i) = some true) (hs : Region.noSelect ops = true) (hf : Region.free .any ops l i = true) (hr : (Region.ready .any ops l).contains i = true)
    (hQ : ∀ c a w, Q (.panic c) (a.put oi.dst v) w → Q (.panic c) a w) (hy : YieldsIf P ops S oi v a) (hS : S w) (h : Late P ops Q S k n (l.setIfInBounds i true) (a.put oi.dst v) w) (hkl : l.getD k true = false := by kernel_rfl) : Late P ops Q S k (n + 1) l a w := by
  have hi := op_at hi'
  cases hk : ops[k]? with
  | none => rw [hk] at hki; cases hki
  | some ok =>
    rw [hk] at hki
    simp only [Option.map_some, Option.some.injEq, Array.any_eq_true', Bool.and_eq_true, beq_iff_eq] at hki
    exact Late.first hi hk hki (Region.noSelect_spec hs) hQ n l a w (Region.free_spec hi hf) hkl (by simpa using hr) hy hS h

/-- One alone may come up. -/
theorem Late.one {i : Nat} {o : Oper} {n : Nat} {l : Array Bool} {a : Act} {w : World} {tl : List Oper} (hr : Region.ready .any ops l = [i]) (ho : ops.toList.drop i = o :: tl)
    (h : ∀ K' : Act → World → Prop, Shut (∀ a w, (i ≠ k → S w) → Late P ops Q S k n (l.setIfInBounds i true) a w → K' a w) → if Region.wanted o (yielded ops a.tmps) = true then Oper.wp P o a w K' Q else K' (a.put o.dst undef) w) : Late P ops Q S k (n + 1) l a w := by
  constructor
  · intro h0
    rw [hr] at h0
    simp at h0
  · intro j hj
    rw [hr] at hj
    simp at hj
    rw [hj]
    exact wpOp_step (op_at ho) (fun K' hK => h K' (fun a w hS hW => hK a w ⟨fun h _ => hS h, hW⟩))

/-- One alone may come up, behind the store. -/
theorem Late.late {i : Nat} {o : Oper} {n : Nat} {l : Array Bool} {a : Act} {w : World} {tl : List Oper} (hr : Region.ready .any ops l = [i]) (ho : ops.toList.drop i = o :: tl) (hl : l.getD k true = true)
    (h : ∀ K' : Act → World → Prop, Shut (∀ a w, Late P ops Q S k n (l.setIfInBounds i true) a w → K' a w) → if Region.wanted o (yielded ops a.tmps) = true then Oper.wp P o a w K' Q else K' (a.put o.dst undef) w) : Late P ops Q S k (n + 1) l a w := by
  constructor
  · intro h0
    rw [hr] at h0
    simp at h0
  · intro j hj
    rw [hr] at hj
    simp at hj
    rw [hj]
    exact wpOp_step (op_at ho) (fun K' hK => h K' (fun a w hW => hK a w ⟨fun _ h0 => (by rw [hl] at h0; cases h0), hW⟩))

/-- One of two may come up. -/
theorem Late.two {i i' : Nat} {o o' : Oper} {n : Nat} {l : Array Bool} {a : Act} {w : World} {tl tl' : List Oper} (hr : Region.ready .any ops l = [i, i']) (ho : ops.toList.drop i = o :: tl) (ho' : ops.toList.drop i' = o' :: tl')
    (h : ∀ K' : Act → World → Prop, Shut (∀ a w, (i ≠ k → S w) → Late P ops Q S k n (l.setIfInBounds i true) a w → K' a w) → if Region.wanted o (yielded ops a.tmps) = true then Oper.wp P o a w K' Q else K' (a.put o.dst undef) w)
    (h' : ∀ K' : Act → World → Prop, Shut (∀ a w, (i' ≠ k → S w) → Late P ops Q S k n (l.setIfInBounds i' true) a w → K' a w) → if Region.wanted o' (yielded ops a.tmps) = true then Oper.wp P o' a w K' Q else K' (a.put o'.dst undef) w) : Late P ops Q S k (n + 1) l a w := by
  constructor
  · intro h0
    rw [hr] at h0
    simp at h0
  · intro j hj
    rw [hr] at hj
    simp only [List.mem_cons, List.not_mem_nil, or_false] at hj
    rcases hj with hj | hj
    · rw [hj]
      exact wpOp_step (op_at ho) (fun K' hK => h K' (fun a w hS hW => hK a w ⟨fun h _ => hS h, hW⟩))
    · rw [hj]
      exact wpOp_step (op_at ho') (fun K' hK => h' K' (fun a w hS hW => hK a w ⟨fun h _ => hS h, hW⟩))

/-- All have come up. -/
theorem Late.done {l : Array Bool} {a : Act} {w : World} (hr : Region.ready .any ops l = []) (h : Q .normal a w) : ∀ n, Late P ops Q S k n l a w
  | 0 => ⟨hr, h⟩
  | _ + 1 => ⟨fun _ => h, by rw [hr]; simp⟩

end

end Go.Proofs.Ytccokaicipldcaa

/-
  The walk of the program's newMem: a disk of a new array, in memory of its own. Condition: the array's numbers are right.
-/
namespace Go.Proofs.Ytccokaicipldcaa
open Go.RowKit

theorem with_key_new {G A : Nat → World → Option Addr → Nat → Option Addr → Nat → Nat → Option Addr → Nat → Nat → Option Addr → Nat → Nat → Prop} {C : Prop} (main : ∀ BO WF x0 x1 x2 x3 x4 x5 x6 x7 x8 x9 x10, A BO WF x0 x1 x2 x3 x4 x5 x6 x7 x8 x9 x10 → G BO WF x0 x1 x2 x3 x4 x5 x6 x7 x8 x9 x10) (use : Hid (∀ BO WF x0 x1 x2 x3 x4 x5 x6 x7 x8 x9 x10, A BO WF x0 x1 x2 x3 x4 x5 x6 x7 x8 x9 x10 → G BO WF x0 x1 x2 x3 x4 x5 x6 x7 x8 x9 x10) → C) : C := use main

/-- A new disk in its box, j of its stripes written; the boxes of the call beside it. -/
def NewSt (w : World) (n : Int) (k : Nat) (P : List Int) (B : Nat) (wr : World) (j : Nat) : Prop :=
  ∃ (v0 v1 v3 : Value) (lo hi : Nat), Box wr B 55 #[v0, v1, .bool false, v3] ∧ (tMem 116).Own wr lo hi [v0, v1, .bool false, v3] (newSS (6 + (k : Int)), newCS P j, false, []) ∧ w.heap.size + 1 < lo ∧ hi ≤ wr.heap.size ∧ (hi ≤ B ∨ B < lo) ∧ w.heap.size + 1 < B ∧
    Box wr (w.heap.size + 1) 55 #[.slice none 0 0, .slice none 0 0, .bool false, .slice none 0 0] ∧ Gbox wr w.heap.size 24 n (k : Int) ∧ Below w.heap.size w wr

theorem new_next {w w6 : World} {n : Int} {k : Nat} {P : List Int} {B j : Nat} {v0 v1 v3 u0 u1 u3 : Value} {lo hi : Nat} (xb : Box w6 B 55 #[v0, v1, .bool false, v3]) (o : (tMem 116).Own w6 lo hi [u0, u1, .bool false, u3] (newSS (6 + (k : Int)), newCS P j, false, []))
    (r1 : w.heap.size + 1 < lo) (r2 : hi ≤ w6.heap.size) (r3 : hi ≤ B ∨ B < lo) (r4 : w.heap.size + 1 < B) (xr : Box w6 (w.heap.size + 1) 55 #[.slice none 0 0, .slice none 0 0, .bool false, .slice none 0 0]) (g : Gbox w6 w.heap.size 24 n (k : Int)) (hb : Below w.heap.size w w6) : NewSt w n k P B (set4 w6 B u0 u1 (.bool false) u3) j := by
  have hbt := set4_but w6 B u0 u1 (.bool false) u3
  have hz := hbt.size
  have hbl : Below B w6 (set4 w6 B u0 u1 (.bool false) u3) := ⟨hbt.os, hbt.tape, hbt.output, hbt.size, fun k hk => hbt.block k (by have := xb.lt; omega) (.inl hk)⟩
  exact ⟨u0, u1, u3, lo, hi, set4_box xb _ _ _ _, o.but hbt (by omega), r1, by omega, r3, r4, xr.below hbl r4, g.below hbl (by omega), hb.trans (hbl.mono (by omega))⟩

set_option linter.unusedSimpArgs false in
set_option maxRecDepth 20000 in
set_option maxHeartbeats 4000000 in
theorem newMem_any (w : World) (id n role : Int) (k : Nat) (hg : geoB n (k : Int) = true) (hid : inB id 1 60000 = true) (hr0 : 0 ≤ role) (hr1 : role < n) :
    Calls Try.prog 35 #[.int .i64 id, .agg #[.int .i64 n, .int .i64 (k : Int)], .int .i64 role] w fun e w' => ∃ v0 v1 v3, e = .returned (.agg #[v0, v1, .bool false, v3]) ∧ (tMem 116).Own w' w.heap.size w'.heap.size [v0, v1, .bool false, v3] (newPD (putD (newSup id n (k : Int) role)) k k, [], false, []) ∧ Below w.heap.size w w' := by
  obtain ⟨g1, g2, g3, g4⟩ := geoB_iff.1 hg
  have hk8 : k ≤ 8 := by omega
  have hk1 : 1 ≤ k := by omega
  have hsup := newSup_ok hg hid hr0 hr1
  obtain ⟨hn1, hn2⟩ := new_super (k := k) hk8 hsup rfl
  have hP := put_sec hsup
  generalize hPP : putD (newSup id n (k : Int) role) = P at hn1 hn2 hP ⊢
  have HN := hidden (And.intro hn1 hn2)
  have HP := hidden hP
  have HWT0 : Hid (wtMem (newSS (6 + (k : Int)), [], false, []) ≤ 2097152) := by
    have h := new_wt (j := 0) hP hk8 (Nat.zero_le _)
    unfold Hid
    unfold wtMem wtWrS at h ⊢
    simp only [List.length_nil, List.map_nil, show sumL [] = 0 from rfl] at h ⊢
    omega
  clear hn1 hn2 hP hPP hsup
  have hA := (new_below w (.cells #[.int .i64 n, .int .i64 (k : Int)] 24)).alloc (by simp) (.cells #[.slice none 0 0, .slice none 0 0, .bool false, .slice none 0 0] 55)
  have G0 : Gbox ((w.alloc (.cells #[.int .i64 n, .int .i64 (k : Int)] 24)).alloc (.cells #[.slice none 0 0, .slice none 0 0, .bool false, .slice none 0 0] 55)) w.heap.size 24 n (k : Int) := (Gbox.new w 24 n (k : Int)).below (new_below _ _) (by simp)
  have X0 := Box.new (w.alloc (.cells #[.int .i64 n, .int .i64 (k : Int)] 24)) 55 #[.slice none 0 0, .slice none 0 0, .bool false, .slice none 0 0]
  rw [World.size_alloc] at X0
  have zG := G0.lt
  have zX := X0.lt
  obtain ⟨k0, k1⟩ := G0.cells
  go_enter Try.func35, Try.ntmps35
  go_wp2_with fail
  generalize (w.alloc (.cells #[.int .i64 n, .int .i64 (k : Int)] 24)).alloc (.cells #[.slice none 0 0, .slice none 0 0, .bool false, .slice none 0 0] 55) = W at hA G0 X0 zG zX k0 k1 ⊢
  refine' with_key_new (G := _) (A := fun BO WF xa xc ya0 yl0 yc0 ya1 yl1 yc1 ya3 yl3 yc3 => Below W.heap.size W WF ∧ Box WF BO 55 #[.slice ya0 yl0 yc0, .slice ya1 yl1 yc1, .bool false, .slice ya3 yl3 yc3] ∧ ∃ lo hi, (tMem 116).Own WF lo hi [.slice ya0 yl0 yc0, .slice ya1 yl1 yc1, .bool false, .slice ya3 yl3 yc3] (newSS (6 + (k : Int)), newCS P 0, false, []) ∧ W.heap.size ≤ BO ∧ BO < WF.heap.size ∧ (BO < lo ∨ hi ≤ BO) ∧ W.heap.size ≤ lo ∧ hi ≤ WF.heap.size) ?main1 (fun key => ?use1)
  case use1 =>
    have K0 : Hid (W.drew.cell? ⟨w.heap.size, 0, none⟩ = some (.int .i64 n) ∧ W.drew.cell? ⟨w.heap.size, 1, none⟩ = some (.int .i64 (k : Int))) := ⟨k0, k1⟩
    have KA : Hid ((W.alloc (.cells #[.slice none 0 0, .slice none 0 0, .bool false, .slice none 0 0] 55)).drew.cell? ⟨w.heap.size, 0, none⟩ = some (.int .i64 n) ∧ (W.alloc (.cells #[.slice none 0 0, .slice none 0 0, .bool false, .slice none 0 0] 55)).drew.cell? ⟨w.heap.size, 1, none⟩ = some (.int .i64 (k : Int))) := ⟨(((new_below W (.cells #[.slice none 0 0, .slice none 0 0, .bool false, .slice none 0 0] 55))).cell (p := ⟨w.heap.size, 0, none⟩) zG).trans k0, (((new_below W (.cells #[.slice none 0 0, .slice none 0 0, .bool false, .slice none 0 0] 55))).cell (p := ⟨w.heap.size, 1, none⟩) zG).trans k1⟩
    go_region_held3 (fun w' => w'.cell? ⟨w.heap.size, 0, none⟩ = some (.int .i64 n) ∧ w'.cell? ⟨w.heap.size, 1, none⟩ = some (.int .i64 (k : Int)))
      (first | (with_reducible exact ⟨((FHB.out).cell (p := ⟨w.heap.size, 0, none⟩) zG).trans k0, ((FHB.out).cell (p := ⟨w.heap.size, 1, none⟩) zG).trans k1⟩) | (with_reducible exact ⟨((hbva3.out).cell (p := ⟨w.heap.size, 0, none⟩) zG).trans k0, ((hbva3.out).cell (p := ⟨w.heap.size, 1, none⟩) zG).trans k1⟩) | (with_reducible exact ⟨((hbva3.out.alloc hbva3.out.size (.cells #[.slice none 0 0, .slice none 0 0, .bool false, .slice none 0 0] 55)).cell (p := ⟨w.heap.size, 0, none⟩) zG).trans k0, ((hbva3.out.alloc hbva3.out.size (.cells #[.slice none 0 0, .slice none 0 0, .bool false, .slice none 0 0] 55)).cell (p := ⟨w.heap.size, 1, none⟩) zG).trans k1⟩) | (with_reducible exact ⟨((hbva2.out).cell (p := ⟨w.heap.size, 0, none⟩) zG).trans k0, ((hbva2.out).cell (p := ⟨w.heap.size, 1, none⟩) zG).trans k1⟩) | (with_reducible exact ⟨((hbva2.out.alloc hbva2.out.size (.cells #[.slice none 0 0, .slice none 0 0, .bool false, .slice none 0 0] 55)).cell (p := ⟨w.heap.size, 0, none⟩) zG).trans k0, ((hbva2.out.alloc hbva2.out.size (.cells #[.slice none 0 0, .slice none 0 0, .bool false, .slice none 0 0] 55)).cell (p := ⟨w.heap.size, 1, none⟩) zG).trans k1⟩) | (with_reducible exact ⟨((hbva1.out).cell (p := ⟨w.heap.size, 0, none⟩) zG).trans k0, ((hbva1.out).cell (p := ⟨w.heap.size, 1, none⟩) zG).trans k1⟩) | (with_reducible exact ⟨((hbva1.out.alloc hbva1.out.size (.cells #[.slice none 0 0, .slice none 0 0, .bool false, .slice none 0 0] 55)).cell (p := ⟨w.heap.size, 0, none⟩) zG).trans k0, ((hbva1.out.alloc hbva1.out.size (.cells #[.slice none 0 0, .slice none 0 0, .bool false, .slice none 0 0] 55)).cell (p := ⟨w.heap.size, 1, none⟩) zG).trans k1⟩) | (with_reducible exact K0.out) | (with_reducible exact KA.out) | go_keep)
      (first
        | (go_at_call 66; refine (sectorsOf_any _ n (k : Int) ⟨g3, g4⟩).mono ?_; rintro e va1 ⟨rfl, cc⟩; have cc1 : Below W.drew.heap.size W.drew va1 := (by with_reducible exact cc); have b' : Below W.heap.size W va1 := Below.andThen ((Below.refl W.heap.size W).drew) cc1; have hbva1 := hidden b'; clear cc cc1 b')
        | (go_at_call 66; refine (sectorsOf_any _ n (k : Int) ⟨g3, g4⟩).mono ?_; rintro e va1 ⟨rfl, cc⟩; have cc1 : Below (W.alloc (.cells #[.slice none 0 0, .slice none 0 0, .bool false, .slice none 0 0] 55)).drew.heap.size (W.alloc (.cells #[.slice none 0 0, .slice none 0 0, .bool false, .slice none 0 0] 55)).drew va1 := (by with_reducible exact cc); have b' : Below W.heap.size W va1 := Below.andThen ((new_below W (.cells #[.slice none 0 0, .slice none 0 0, .bool false, .slice none 0 0] 55)).drew) cc1; have xo' := (show Box (W.alloc (.cells #[.slice none 0 0, .slice none 0 0, .bool false, .slice none 0 0] 55)).drew W.heap.size 55 #[.slice none 0 0, .slice none 0 0, .bool false, .slice none 0 0] from Box.new W _ _).below cc1 (by simp); have XOva1 := hidden xo'; have hbva1 := hidden b'; clear cc cc1 b' xo')
        | (go_at_call 65; have xo := XOva1.out; refine (implMemNew_any _ (6 + (k : Int))).mono ?_; rintro e va2 ⟨xa, xc, rfl, o, cc⟩; have cc1 : Below va1.heap.size va1 va2 := (by with_reducible exact cc); have b' : Below W.heap.size W va2 := Below.andThen (hbva1.out) cc1; have Yva2 := hidden o; have xo' := xo.below cc1 xo.lt; have XOva2 := hidden xo'; have hbva2 := hidden b'; clear cc cc1 b' o xo xo')
        | (go_at_call 65; refine (implMemNew_any _ (6 + (k : Int))).mono ?_; rintro e va2 ⟨xa, xc, rfl, o, cc⟩; have cc1 : Below va1.heap.size va1 va2 := (by with_reducible exact cc); have b' : Below W.heap.size W va2 := Below.andThen (hbva1.out) cc1; have Yva2 := hidden o; have hbva2 := hidden b'; clear cc cc1 b' o)
        | (go_at_call 65; refine (implMemNew_any _ (6 + (k : Int))).mono ?_; rintro e va2 ⟨xa, xc, rfl, o, cc⟩; have cc1 : Below (va1.alloc (.cells #[.slice none 0 0, .slice none 0 0, .bool false, .slice none 0 0] 55)).heap.size (va1.alloc (.cells #[.slice none 0 0, .slice none 0 0, .bool false, .slice none 0 0] 55)) va2 := (by with_reducible exact cc); have b' : Below W.heap.size W va2 := Below.andThen ((hbva1.out.alloc hbva1.out.size (.cells #[.slice none 0 0, .slice none 0 0, .bool false, .slice none 0 0] 55))) cc1; have Yva2 := hidden o; have xo' := (show Box (va1.alloc (.cells #[.slice none 0 0, .slice none 0 0, .bool false, .slice none 0 0] 55)) va1.heap.size 55 #[.slice none 0 0, .slice none 0 0, .bool false, .slice none 0 0] from Box.new va1 _ _).below cc1 (by simp); have XOva2 := hidden xo'; have hbva2 := hidden b'; clear cc cc1 b' o xo')
        | (go_at_call 64; have xo : Box va2 W.heap.size 55 #[.slice none 0 0, .slice none 0 0, .bool false, .slice none 0 0] := (by with_reducible exact XOva2.out); refine (implWriteSuper_any _ 116 _ _ _ _ _ _ _ _ _ (newSS (6 + (k : Int))) [] false [] (newSup id n (k : Int) role) (by with_reducible exact (Yva2.out).rd) (nil_own _ 0 0).rd (nil_own _ 0 0).rd HWT0.out).mono ?_; rintro e va3 ⟨u0, u1, u3, rfl, o, cc⟩; have cc1 : Below va2.heap.size va2 va3 := (by with_reducible exact cc); rw [HN.out.1, HN.out.2] at o; obtain ⟨ya0, yl0, yc0, ya1, yl1, yc1, ya3, yl3, yc3, hv0, hv1, hv3⟩ := mem_letters2 o; subst hv0 hv1 hv3; have b' : Below W.heap.size W va3 := Below.andThen (hbva2.out) cc1; have Yva3 := hidden ((Yva2.out).below cc1); have xo' := xo.below cc1 xo.lt; have hbva3 := hidden b'; have zb := (hbva2.out).size; have zc := cc1.size; have zx := xo'.lt; have zd := XOva2.out.lt; obtain ⟨s0, s1, s2, s3⟩ := xo'.cells4; have u0 := xo'.frozen 0; have u1 := xo'.frozen 1; have u2 := xo'.frozen 2; have u3 := xo'.frozen 3; have hbs := set4_but va3 (W.heap.size) (.slice ya0 yl0 yc0) (.slice ya1 yl1 yc1) (.bool false) (.slice ya3 yl3 yc3); have zs := hbs.size; have FHB := hidden (b'.trans (hbs.below (B := W.heap.size) (by omega) (by omega))); have FXB := hidden (set4_box xo' (.slice ya0 yl0 yc0) (.slice ya1 yl1 yc1) (.bool false) (.slice ya3 yl3 yc3)); have FOW := hidden (o.but hbs (.inr (by omega))); have FZ : Hid (W.heap.size ≤ W.heap.size ∧ W.heap.size < (set4 va3 (W.heap.size) (.slice ya0 yl0 yc0) (.slice ya1 yl1 yc1) (.bool false) (.slice ya3 yl3 yc3)).heap.size ∧ (W.heap.size < va2.heap.size ∨ va3.heap.size ≤ W.heap.size) ∧ W.heap.size ≤ va2.heap.size ∧ va3.heap.size ≤ (set4 va3 (W.heap.size) (.slice ya0 yl0 yc0) (.slice ya1 yl1 yc1) (.bool false) (.slice ya3 yl3 yc3)).heap.size) := (by unfold Hid; omega); unfold set4 at FHB FXB FOW FZ; clear cc cc1 b' xo xo' zb zc o zd zx hbs zs)
        | (go_at_call 64; have xo : Box va2 va1.heap.size 55 #[.slice none 0 0, .slice none 0 0, .bool false, .slice none 0 0] := (by with_reducible exact XOva2.out); refine (implWriteSuper_any _ 116 _ _ _ _ _ _ _ _ _ (newSS (6 + (k : Int))) [] false [] (newSup id n (k : Int) role) (by with_reducible exact (Yva2.out).rd) (nil_own _ 0 0).rd (nil_own _ 0 0).rd HWT0.out).mono ?_; rintro e va3 ⟨u0, u1, u3, rfl, o, cc⟩; have cc1 : Below va2.heap.size va2 va3 := (by with_reducible exact cc); rw [HN.out.1, HN.out.2] at o; obtain ⟨ya0, yl0, yc0, ya1, yl1, yc1, ya3, yl3, yc3, hv0, hv1, hv3⟩ := mem_letters2 o; subst hv0 hv1 hv3; have b' : Below W.heap.size W va3 := Below.andThen (hbva2.out) cc1; have Yva3 := hidden ((Yva2.out).below cc1); have xo' := xo.below cc1 xo.lt; have hbva3 := hidden b'; have zb := (hbva2.out).size; have zc := cc1.size; have zx := xo'.lt; have zd := XOva2.out.lt; obtain ⟨s0, s1, s2, s3⟩ := xo'.cells4; have u0 := xo'.frozen 0; have u1 := xo'.frozen 1; have u2 := xo'.frozen 2; have u3 := xo'.frozen 3; have hbs := set4_but va3 (va1.heap.size) (.slice ya0 yl0 yc0) (.slice ya1 yl1 yc1) (.bool false) (.slice ya3 yl3 yc3); have zs := hbs.size; have zq := hbva1.out.size; have FHB := hidden (b'.trans (hbs.below (B := W.heap.size) (by omega) (by omega))); have FXB := hidden (set4_box xo' (.slice ya0 yl0 yc0) (.slice ya1 yl1 yc1) (.bool false) (.slice ya3 yl3 yc3)); have FOW := hidden (o.but hbs (.inr (by omega))); have FZ : Hid (W.heap.size ≤ va1.heap.size ∧ va1.heap.size < (set4 va3 (va1.heap.size) (.slice ya0 yl0 yc0) (.slice ya1 yl1 yc1) (.bool false) (.slice ya3 yl3 yc3)).heap.size ∧ (va1.heap.size < va2.heap.size ∨ va3.heap.size ≤ va1.heap.size) ∧ W.heap.size ≤ va2.heap.size ∧ va3.heap.size ≤ (set4 va3 (va1.heap.size) (.slice ya0 yl0 yc0) (.slice ya1 yl1 yc1) (.bool false) (.slice ya3 yl3 yc3)).heap.size) := (by unfold Hid; omega); unfold set4 at FHB FXB FOW FZ; clear cc cc1 b' xo xo' zb zc o zd zx hbs zs zq)
        | (go_at_call 64; refine (implWriteSuper_any _ 116 _ _ _ _ _ _ _ _ _ (newSS (6 + (k : Int))) [] false [] (newSup id n (k : Int) role) (by with_reducible exact (Yva2.out).rd) (nil_own _ 0 0).rd (nil_own _ 0 0).rd HWT0.out).mono ?_; rintro e va3 ⟨u0, u1, u3, rfl, o, cc⟩; have cc1 : Below va2.heap.size va2 va3 := (by with_reducible exact cc); rw [HN.out.1, HN.out.2] at o; obtain ⟨ya0, yl0, yc0, ya1, yl1, yc1, ya3, yl3, yc3, hv0, hv1, hv3⟩ := mem_letters2 o; subst hv0 hv1 hv3; have b' : Below W.heap.size W va3 := Below.andThen (hbva2.out) cc1; have Yva3 := hidden ((Yva2.out).below cc1); have hbva3 := hidden b'; have zb := (hbva2.out).size; have zc := cc1.size; have zf : (va3.alloc (.cells #[.slice ya0 yl0 yc0, .slice ya1 yl1 yc1, .bool false, .slice ya3 yl3 yc3] 55)).heap.size = va3.heap.size + 1 := (by simp); have FHB := hidden (b'.alloc b'.size (.cells #[.slice ya0 yl0 yc0, .slice ya1 yl1 yc1, .bool false, .slice ya3 yl3 yc3] 55)); have FXB := hidden (Box.new va3 55 #[.slice ya0 yl0 yc0, .slice ya1 yl1 yc1, .bool false, .slice ya3 yl3 yc3]); have FOW := hidden (o.below (new_below va3 (.cells #[.slice ya0 yl0 yc0, .slice ya1 yl1 yc1, .bool false, .slice ya3 yl3 yc3] 55))); have FZ : Hid (W.heap.size ≤ va3.heap.size ∧ va3.heap.size < (va3.alloc (.cells #[.slice ya0 yl0 yc0, .slice ya1 yl1 yc1, .bool false, .slice ya3 yl3 yc3] 55)).heap.size ∧ (va3.heap.size < va2.heap.size ∨ va3.heap.size ≤ va3.heap.size) ∧ W.heap.size ≤ va2.heap.size ∧ va3.heap.size ≤ (va3.alloc (.cells #[.slice ya0 yl0 yc0, .slice ya1 yl1 yc1, .bool false, .slice ya3 yl3 yc3] 55)).heap.size) := (by unfold Hid; omega); clear cc cc1 b' zb zc o zf)
        | (go_at_call 64; refine (implWriteSuper_any _ 116 _ _ _ _ _ _ _ _ _ (newSS (6 + (k : Int))) [] false [] (newSup id n (k : Int) role) (by with_reducible exact ((Yva2.out.below (new_below va2 (.cells #[.slice none 0 0, .slice none 0 0, .bool false, .slice none 0 0] 55)))).rd) (nil_own _ 0 0).rd (nil_own _ 0 0).rd HWT0.out).mono ?_; rintro e va3 ⟨u0, u1, u3, rfl, o, cc⟩; have cc1 : Below (va2.alloc (.cells #[.slice none 0 0, .slice none 0 0, .bool false, .slice none 0 0] 55)).heap.size (va2.alloc (.cells #[.slice none 0 0, .slice none 0 0, .bool false, .slice none 0 0] 55)) va3 := (by with_reducible exact cc); rw [HN.out.1, HN.out.2] at o; obtain ⟨ya0, yl0, yc0, ya1, yl1, yc1, ya3, yl3, yc3, hv0, hv1, hv3⟩ := mem_letters2 o; subst hv0 hv1 hv3; have b' : Below W.heap.size W va3 := Below.andThen ((hbva2.out.alloc hbva2.out.size (.cells #[.slice none 0 0, .slice none 0 0, .bool false, .slice none 0 0] 55))) cc1; have Yva3 := hidden (((Yva2.out.below (new_below va2 (.cells #[.slice none 0 0, .slice none 0 0, .bool false, .slice none 0 0] 55)))).below cc1); have xo' := (show Box (va2.alloc (.cells #[.slice none 0 0, .slice none 0 0, .bool false, .slice none 0 0] 55)) va2.heap.size 55 #[.slice none 0 0, .slice none 0 0, .bool false, .slice none 0 0] from Box.new va2 _ _).below cc1 (by simp); have hbva3 := hidden b'; have zb := ((hbva2.out.alloc hbva2.out.size (.cells #[.slice none 0 0, .slice none 0 0, .bool false, .slice none 0 0] 55))).size; have zc := cc1.size; have zx := xo'.lt; have zj : (va2.alloc (.cells #[.slice none 0 0, .slice none 0 0, .bool false, .slice none 0 0] 55)).heap.size = va2.heap.size + 1 := (by simp); obtain ⟨s0, s1, s2, s3⟩ := xo'.cells4; have u0 := xo'.frozen 0; have u1 := xo'.frozen 1; have u2 := xo'.frozen 2; have u3 := xo'.frozen 3; have hbs := set4_but va3 (va2.heap.size) (.slice ya0 yl0 yc0) (.slice ya1 yl1 yc1) (.bool false) (.slice ya3 yl3 yc3); have zs := hbs.size; have zq := hbva2.out.size; have FHB := hidden (b'.trans (hbs.below (B := W.heap.size) (by omega) (by omega))); have FXB := hidden (set4_box xo' (.slice ya0 yl0 yc0) (.slice ya1 yl1 yc1) (.bool false) (.slice ya3 yl3 yc3)); have FOW := hidden (o.but hbs (.inr (by omega))); have FZ : Hid (W.heap.size ≤ va2.heap.size ∧ va2.heap.size < (set4 va3 (va2.heap.size) (.slice ya0 yl0 yc0) (.slice ya1 yl1 yc1) (.bool false) (.slice ya3 yl3 yc3)).heap.size ∧ (va2.heap.size < (va2.alloc (.cells #[.slice none 0 0, .slice none 0 0, .bool false, .slice none 0 0] 55)).heap.size ∨ va3.heap.size ≤ va2.heap.size) ∧ W.heap.size ≤ (va2.alloc (.cells #[.slice none 0 0, .slice none 0 0, .bool false, .slice none 0 0] 55)).heap.size ∧ va3.heap.size ≤ (set4 va3 (va2.heap.size) (.slice ya0 yl0 yc0) (.slice ya1 yl1 yc1) (.bool false) (.slice ya3 yl3 yc3)).heap.size) := (by unfold Hid; omega); unfold set4 at FHB FXB FOW FZ; clear cc cc1 b' xo' zb zc o zj zx hbs zs zq)
      )
    · generalize va3.alloc (.cells #[.slice ya0 yl0 yc0, .slice ya1 yl1 yc1, .bool false, .slice ya3 yl3 yc3] 55) = WN at FHB FXB FOW FZ ⊢
      generalize hBN : va3.heap.size = BN at FXB FZ FOW ⊢
      exact key.out BN WN xa xc ya0 yl0 yc0 ya1 yl1 yc1 ya3 yl3 yc3 ⟨FHB.out, FXB.out, _, _, FOW.out, by first | exact FZ.out | (have fz := FZ.out; have z1 := FHB.out.size; omega)⟩
    · generalize ((((va3).setCell ⟨va2.heap.size, 0, none⟩ (.slice ya0 yl0 yc0)).setCell ⟨va2.heap.size, 1, none⟩ (.slice ya1 yl1 yc1)).setCell ⟨va2.heap.size, 2, none⟩ (.bool false)).setCell ⟨va2.heap.size, 3, none⟩ (.slice ya3 yl3 yc3) = WN at FHB FXB FOW FZ ⊢
      generalize hBN : va2.heap.size = BN at FXB FZ FOW ⊢
      exact key.out BN WN xa xc ya0 yl0 yc0 ya1 yl1 yc1 ya3 yl3 yc3 ⟨FHB.out, FXB.out, _, _, FOW.out, by first | exact FZ.out | (have fz := FZ.out; have z1 := FHB.out.size; omega)⟩
    · generalize ((((va3).setCell ⟨va1.heap.size, 0, none⟩ (.slice ya0 yl0 yc0)).setCell ⟨va1.heap.size, 1, none⟩ (.slice ya1 yl1 yc1)).setCell ⟨va1.heap.size, 2, none⟩ (.bool false)).setCell ⟨va1.heap.size, 3, none⟩ (.slice ya3 yl3 yc3) = WN at FHB FXB FOW FZ ⊢
      generalize hBN : va1.heap.size = BN at FXB FZ FOW ⊢
      exact key.out BN WN xa xc ya0 yl0 yc0 ya1 yl1 yc1 ya3 yl3 yc3 ⟨FHB.out, FXB.out, _, _, FOW.out, by first | exact FZ.out | (have fz := FZ.out; have z1 := FHB.out.size; omega)⟩
    · generalize ((((va3).setCell ⟨W.heap.size, 0, none⟩ (.slice ya0 yl0 yc0)).setCell ⟨W.heap.size, 1, none⟩ (.slice ya1 yl1 yc1)).setCell ⟨W.heap.size, 2, none⟩ (.bool false)).setCell ⟨W.heap.size, 3, none⟩ (.slice ya3 yl3 yc3) = WN at FHB FXB FOW FZ ⊢
      generalize hBN : W.heap.size = BN at FXB FZ FOW ⊢
      exact key.out BN WN xa xc ya0 yl0 yc0 ya1 yl1 yc1 ya3 yl3 yc3 ⟨FHB.out, FXB.out, _, _, FOW.out, by first | exact FZ.out | (have fz := FZ.out; have z1 := FHB.out.size; omega)⟩
  case main1 =>
    rintro BO WF xa xc ya0 yl0 yc0 ya1 yl1 yc1 ya3 yl3 yc3 ⟨hb, xb, lo, hi, ow, zr1, zr2, zr3, zr4, zr5⟩
    have zW : w.heap.size + 1 < W.heap.size := zX
    have S0 : NewSt w n k P BO WF 0 := ⟨_, _, _, lo, hi, xb, ow, by omega, zr5, by omega, by omega, X0.below hb zX, G0.below hb zG, Below.andThen hA hb⟩
    obtain ⟨p0, p1⟩ := (G0.below hb zG).cells
    clear hb xb ow zr3 zr4 zr5 X0 G0 hA k0 k1
    go_wp2
    clear p0 p1
    go_loopw [22] (fun i wr => ∃ j : Nat, j ≤ k ∧ i = .int .i64 j ∧ NewSt w n k P BO wr j) (fun i _ => k - (intOf i).toNat)
    case atStart => exact ⟨0, Nat.zero_le _, rfl, S0⟩
    case round =>
      clear S0
      obtain ⟨j, hj, rfl, v0, v1, v3, lo2, hi2, xb, ob, r1, r2, r3, r4, xr, gb, hb⟩ := hrel
      obtain ⟨a0, l0, c0, a1, l1, c1, a3, l3, c3, hv0, hv1, hv3⟩ := mem_letters2 ob
      subst hv0 hv1 hv3
      have zb := xb.lt
      have zw := hb.size
      by_cases hjk : j < k
      · have i2 : (j : Int) < (k : Int) := by omega
        have xn := xb.alloc (.cells #[.int .i64 0] 3)
        have bn := new_below wr (.cells #[.int .i64 0] 3)
        have hS : wr.drew.cell? ⟨BO, 0, none⟩ = some (.slice a0 l0 c0) ∧ wr.drew.cell? ⟨BO, 1, none⟩ = some (.slice a1 l1 c1) ∧ wr.drew.cell? ⟨BO, 2, none⟩ = some (.bool false) ∧ wr.drew.cell? ⟨BO, 3, none⟩ = some (.slice a3 l3 c3) := xb.cells4
        have hS1 : (wr.alloc (.cells #[.int .i64 0] 3)).drew.cell? ⟨BO, 0, none⟩ = some (.slice a0 l0 c0) ∧ (wr.alloc (.cells #[.int .i64 0] 3)).drew.cell? ⟨BO, 1, none⟩ = some (.slice a1 l1 c1) ∧ (wr.alloc (.cells #[.int .i64 0] 3)).drew.cell? ⟨BO, 2, none⟩ = some (.bool false) ∧ (wr.alloc (.cells #[.int .i64 0] 3)).drew.cell? ⟨BO, 3, none⟩ = some (.slice a3 l3 c3) := xn.cells4
        have OB := hidden (ob.below bn)
        have XB := hidden xn
        have XR := hidden (xr.below bn (by omega))
        have GB := hidden (gb.below bn (by omega))
        have HB := hidden (hb.trans (bn.mono zw))
        have RL : Hid (tIntS.Rd (wr.alloc (.cells #[.int .i64 0] 3)) [.slice (some ⟨wr.heap.size, 0, none⟩) 1 1] [0]) := (own_ints (Owns.lit .i64 3 wr [0] 1 #[.int .i64 0] rfl rfl (by unfold maxLen; omega))).rd
        have HWT := hidden (new_wt (j := j) HP.out hk8 hj)
        have HNW := hidden (new_write HP.out hk8 hjk)
        have zn : (wr.alloc (.cells #[.int .i64 0] 3)).heap.size = wr.heap.size + 1 := by simp
        clear xb ob xr gb hb xn bn
        go_wp2_with fail
        refine Late.start (S := fun w' => w'.cell? ⟨BO, 0, none⟩ = some (.slice a0 l0 c0) ∧ w'.cell? ⟨BO, 1, none⟩ = some (.slice a1 l1 c1) ∧ w'.cell? ⟨BO, 2, none⟩ = some (.bool false) ∧ w'.cell? ⟨BO, 3, none⟩ = some (.slice a3 l3 c3)) (k := 8) (by kernel_rfl) ?_
        refine Late.take (i := 0) (v := ?_) rfl (by kernel_rfl) (by kernel_rfl) (by kernel_rfl) (by kernel_rfl) (fun _ _ _ h => h) (Or.inl ⟨by rfl, ?_⟩) hS ?_
        rotate_left 1
        · (intro w hSw; (try dsimp only at hSw); go_split_ands; go_simp; first | done | with_reducible rfl)
        simp only [Act.put, List.setIfInBounds_toArray, List.set_cons_zero, List.set_cons_succ]
        refine Late.take (i := 1) (v := ?_) rfl (by kernel_rfl) (by kernel_rfl) (by kernel_rfl) (by kernel_rfl) (fun _ _ _ h => h) (Or.inl ⟨by rfl, ?_⟩) hS ?_
        rotate_left 1
        · (intro w hSw; (try dsimp only at hSw); go_split_ands; go_simp; first | done | with_reducible rfl)
        simp only [Act.put, List.setIfInBounds_toArray, List.set_cons_zero, List.set_cons_succ]
        refine Late.two (i := 2) (i' := 3) (by kernel_rfl) rfl rfl (fun K hK => ?_) (fun K hK => ?_)
        · go_simp
          refine (implDataAt_any _ _).mono ?_
          rintro e w5 ⟨rfl, h5⟩
          subst h5
          go_wp2_with fail
          refine hK.out _ _ (fun _ => hS) ?_
          clear hK K
          refine Late.one (i := 3) (by kernel_rfl) rfl (fun K hK => ?_)
          go_simp
          refine hK.out _ _ (fun _ => hS1) ?_
          clear hK K
          refine Late.one (i := 4) (by kernel_rfl) rfl (fun K hK => ?_)
          go_simp
          obtain ⟨p0, p1, p3⟩ := mem_parts OB.out
          refine (implWriteSec_any _ 116 _ _ _ _ _ _ _ _ _ _ _ _ (newSS (6 + (k : Int))) (newCS P j) false [] (dataN (j : Int)) [0] p0.drew p1.drew p3.drew RL.out.drew HWT.out (by omega)).mono ?_
          rintro e w7 ⟨u0, u1, u3, rfl, o7, hb7'⟩
          have hb7 : Below (wr.alloc (.cells #[.int .i64 0] 3)).heap.size (wr.alloc (.cells #[.int .i64 0] 3)) w7 := (Below.refl _ _).drew.trans hb7'
          have zd : (wr.alloc (.cells #[.int .i64 0] 3)).drew.heap.size = (wr.alloc (.cells #[.int .i64 0] 3)).heap.size := rfl
          rw [HNW.out.1, HNW.out.2, zd] at o7
          obtain ⟨d0, k0, f0, d1, k1, f1, d3, k3, f3, hv0, hv1, hv3⟩ := mem_letters2 o7
          subst hv0 hv1 hv3
          have z7 := hb7.size
          have xb7 := XB.out.below hb7 (by omega)
          have RN := hidden (new_next xb7 o7 (by omega) (Nat.le_refl _) (.inr (by omega)) r4 (XR.out.below hb7 (by omega)) (GB.out.below hb7 (by omega)) (HB.out.trans (hb7.mono (by omega))))
          unfold set4 at RN
          have hS7 : w7.cell? ⟨BO, 0, none⟩ = some (.slice a0 l0 c0) ∧ w7.cell? ⟨BO, 1, none⟩ = some (.slice a1 l1 c1) ∧ w7.cell? ⟨BO, 2, none⟩ = some (.bool false) ∧ w7.cell? ⟨BO, 3, none⟩ = some (.slice a3 l3 c3) := xb7.cells4
          obtain ⟨q0, q1, q2, q3⟩ := xb7.cells4
          have fz := xb7.frozen
          clear o7 hb7 hb7' xb7 p0 p1 p3 OB XB XR GB HB RL HWT HNW zd
          go_wp2_with fail
          refine hK.out _ _ (fun _ => hS7) ?_
          clear hK K
          refine Late.take (i := 5) (v := ?_) rfl (by kernel_rfl) (by kernel_rfl) (by kernel_rfl) (by kernel_rfl) (fun _ _ _ h => h) (Or.inl ⟨by rfl, ?_⟩) hS7 ?_
          rotate_left 1
          · (intro w hSw; (try dsimp only at hSw); go_split_ands; go_simp; first | done | with_reducible rfl)
          simp only [Act.put, List.setIfInBounds_toArray, List.set_cons_zero, List.set_cons_succ]
          refine Late.take (i := 6) (v := ?_) rfl (by kernel_rfl) (by kernel_rfl) (by kernel_rfl) (by kernel_rfl) (fun _ _ _ h => h) (Or.inl ⟨by rfl, ?_⟩) hS7 ?_
          rotate_left 1
          · (intro w hSw; (try dsimp only at hSw); go_split_ands; go_simp; first | done | with_reducible rfl)
          simp only [Act.put, List.setIfInBounds_toArray, List.set_cons_zero, List.set_cons_succ]
          refine Late.two (i := 7) (i' := 8) (by kernel_rfl) rfl rfl (fun K hK => ?_) (fun K hK => ?_)
          · go_simp
            refine hK.out _ _ (fun _ => hS7) ?_
            clear hK K
            refine Late.one (i := 8) (by kernel_rfl) rfl (fun K hK => ?_)
            go_simp
            refine hK.out _ _ (fun h => absurd rfl h) ?_
            clear hK K
            refine Late.done (by kernel_rfl) ?_ _
            go_wp2
            go_roundw
            case rel => exact ⟨j + 1, by omega, by go_num, RN.out⟩
            case measure => simp [intOf]; omega
          · go_simp
            refine hK.out _ _ (fun h => absurd rfl h) ?_
            clear hK K
            refine Late.late (i := 7) (by kernel_rfl) rfl (by kernel_rfl) (fun K hK => ?_)
            go_simp
            refine hK.out _ _ ?_
            clear hK K
            refine Late.done (by kernel_rfl) ?_ _
            go_wp2
            go_roundw
            case rel => exact ⟨j + 1, by omega, by go_num, RN.out⟩
            case measure => simp [intOf]; omega
        · go_simp
          refine hK.out _ _ (fun _ => hS1) ?_
          clear hK K
          refine Late.one (i := 2) (by kernel_rfl) rfl (fun K hK => ?_)
          go_simp
          refine (implDataAt_any _ _).mono ?_
          rintro e w5 ⟨rfl, h5⟩
          subst h5
          go_wp2_with fail
          refine hK.out _ _ (fun _ => hS1) ?_
          clear hK K
          refine Late.one (i := 4) (by kernel_rfl) rfl (fun K hK => ?_)
          go_simp
          obtain ⟨p0, p1, p3⟩ := mem_parts OB.out
          refine (implWriteSec_any _ 116 _ _ _ _ _ _ _ _ _ _ _ _ (newSS (6 + (k : Int))) (newCS P j) false [] (dataN (j : Int)) [0] p0.drew p1.drew p3.drew RL.out.drew HWT.out (by omega)).mono ?_
          rintro e w7 ⟨u0, u1, u3, rfl, o7, hb7'⟩
          have hb7 : Below (wr.alloc (.cells #[.int .i64 0] 3)).heap.size (wr.alloc (.cells #[.int .i64 0] 3)) w7 := (Below.refl _ _).drew.trans hb7'
          have zd : (wr.alloc (.cells #[.int .i64 0] 3)).drew.heap.size = (wr.alloc (.cells #[.int .i64 0] 3)).heap.size := rfl
          rw [HNW.out.1, HNW.out.2, zd] at o7
          obtain ⟨d0, k0, f0, d1, k1, f1, d3, k3, f3, hv0, hv1, hv3⟩ := mem_letters2 o7
          subst hv0 hv1 hv3
          have z7 := hb7.size
          have xb7 := XB.out.below hb7 (by omega)
          have RN := hidden (new_next xb7 o7 (by omega) (Nat.le_refl _) (.inr (by omega)) r4 (XR.out.below hb7 (by omega)) (GB.out.below hb7 (by omega)) (HB.out.trans (hb7.mono (by omega))))
          unfold set4 at RN
          have hS7 : w7.cell? ⟨BO, 0, none⟩ = some (.slice a0 l0 c0) ∧ w7.cell? ⟨BO, 1, none⟩ = some (.slice a1 l1 c1) ∧ w7.cell? ⟨BO, 2, none⟩ = some (.bool false) ∧ w7.cell? ⟨BO, 3, none⟩ = some (.slice a3 l3 c3) := xb7.cells4
          obtain ⟨q0, q1, q2, q3⟩ := xb7.cells4
          have fz := xb7.frozen
          clear o7 hb7 hb7' xb7 p0 p1 p3 OB XB XR GB HB RL HWT HNW zd
          go_wp2_with fail
          refine hK.out _ _ (fun _ => hS7) ?_
          clear hK K
          refine Late.take (i := 5) (v := ?_) rfl (by kernel_rfl) (by kernel_rfl) (by kernel_rfl) (by kernel_rfl) (fun _ _ _ h => h) (Or.inl ⟨by rfl, ?_⟩) hS7 ?_
          rotate_left 1
          · (intro w hSw; (try dsimp only at hSw); go_split_ands; go_simp; first | done | with_reducible rfl)
          simp only [Act.put, List.setIfInBounds_toArray, List.set_cons_zero, List.set_cons_succ]
          refine Late.take (i := 6) (v := ?_) rfl (by kernel_rfl) (by kernel_rfl) (by kernel_rfl) (by kernel_rfl) (fun _ _ _ h => h) (Or.inl ⟨by rfl, ?_⟩) hS7 ?_
          rotate_left 1
          · (intro w hSw; (try dsimp only at hSw); go_split_ands; go_simp; first | done | with_reducible rfl)
          simp only [Act.put, List.setIfInBounds_toArray, List.set_cons_zero, List.set_cons_succ]
          refine Late.two (i := 7) (i' := 8) (by kernel_rfl) rfl rfl (fun K hK => ?_) (fun K hK => ?_)
          · go_simp
            refine hK.out _ _ (fun _ => hS7) ?_
            clear hK K
            refine Late.one (i := 8) (by kernel_rfl) rfl (fun K hK => ?_)
            go_simp
            refine hK.out _ _ (fun h => absurd rfl h) ?_
            clear hK K
            refine Late.done (by kernel_rfl) ?_ _
            go_wp2
            go_roundw
            case rel => exact ⟨j + 1, by omega, by go_num, RN.out⟩
            case measure => simp [intOf]; omega
          · go_simp
            refine hK.out _ _ (fun h => absurd rfl h) ?_
            clear hK K
            refine Late.late (i := 7) (by kernel_rfl) rfl (by kernel_rfl) (fun K hK => ?_)
            go_simp
            refine hK.out _ _ ?_
            clear hK K
            refine Late.done (by kernel_rfl) ?_ _
            go_wp2
            go_roundw
            case rel => exact ⟨j + 1, by omega, by go_num, RN.out⟩
            case measure => simp [intOf]; omega
      · have ej : j = k := by omega
        subst ej
        obtain ⟨q0, q1, q2, q3⟩ := xb.cells4
        have HF := hidden (new_flush HP.out hk8)
        have hwt := new_wt (j := j) HP.out hk8 (Nat.le_refl _)
        obtain ⟨p0, p1, p3⟩ := mem_parts ob
        go_wp2_with fail
        refine (implFlushMem_any _ 116 _ _ _ _ _ _ _ _ _ (newSS (6 + (j : Int))) (newCS P j) false [] p0 p1 p3 hwt).mono ?_
        rintro e w8 ⟨u0, u1, u3, rfl, o8, b8⟩
        rw [HF.out.1, HF.out.2] at o8
        obtain ⟨d0, k0, f0, d1, k1, f1, d3, k3, f3, hv0, hv1, hv3⟩ := mem_letters2 o8
        subst hv0 hv1 hv3
        have x8 := xr.below b8 (by omega)
        obtain ⟨s0, s1, s2, s3⟩ := x8.cells4
        have fz := x8.frozen
        have hbt := set4_but w8 (w.heap.size + 1) (.slice d0 k0 f0) (.slice d1 k1 f1) (.bool false) (.slice d3 k3 f3)
        have z8 := b8.size
        have zt := hbt.size
        have FO := hidden ((o8.but hbt (.inr (by omega))).widen (lo' := w.heap.size) (hi' := (set4 w8 (w.heap.size + 1) (.slice d0 k0 f0) (.slice d1 k1 f1) (.bool false) (.slice d3 k3 f3)).heap.size) (by omega) hbt.size)
        have FB := hidden (Below.andBut (hb.trans (b8.mono zw)) hbt (by omega))
        unfold set4 at FO FB
        clear hbt o8 b8 x8 xb ob xr gb hb p0 p1 p3 q0 q1 q2 q3 zt
        go_wp2
        refine bodyPost_ret (v := .agg #[.slice d0 k0 f0, .slice d1 k1 f1, .bool false, .slice d3 k3 f3]) (by simp [results, Try.results35, go_sem, s0, s1, s2, s3]) rfl ?_
        exact ⟨_, _, _, rfl, FO.out, FB.out⟩

end Go.Proofs.Ytccokaicipldcaa

/-
  The walk of the program's ArrNew: a new array in memory of its own. No condition.
-/
namespace Go.Proofs.Ytccokaicipldcaa
open Go.RowKit

theorem new_no {id n s : Int} (h : newB id n s = false) : newX id n s = ⟨0, 0, 0, 0, 0, 0, 0, 0, 0, false, false⟩ ∧ newAM id n s = [] := by
  unfold newX newAM
  rw [if_neg (by simp [h]), if_neg (by simp [h])]
  exact ⟨rfl, rfl⟩
theorem new_yes {id n s : Int} (h : newB id n s = true) : newX id n s = ⟨id, n, s, -1, 0, 0, 0, 0, -1, false, false⟩ ∧ newAM id n s = newMS id n s n.toNat := by
  unfold newX newAM
  rw [if_pos h, if_pos h]
  exact ⟨rfl, rfl⟩
theorem newMD_nat (id n : Int) (k i : Nat) : newMD id n (k : Int) i = (newPD (putD (newSup id n (k : Int) (i : Int))) k k, [], false, []) := by unfold newMD; rw [Int.toNat_natCast]

set_option linter.unusedSimpArgs false in
set_option maxRecDepth 20000 in
set_option maxHeartbeats 4000000 in
theorem implArrNew_any (w : World) (id n s : Int) :
    Calls Try.prog 10 #[.int .i64 id, .agg #[.int .i64 n, .int .i64 s]] w fun e w' => ∃ am cm, e = .returned (.agg #[.int .i64 (newX id n s).id, .int .i64 (newX id n s).n, .int .i64 (newX id n s).s, .slice am (newAM id n s).length cm, .int .i64 (newX id n s).lost, .int .i64 (newX id n s).built, .int .i64 (newX id n s).seq, .int .i64 (newX id n s).tail, .int .i64 (newX id n s).gen, .slice none 0 0, .int .i64 (newX id n s).fuse, .bool (newX id n s).down, .bool (newX id n s).broken]) ∧ (tMemS 116 55).Own w' w.heap.size w'.heap.size [.slice am (newAM id n s).length cm] (newAM id n s) ∧ Below w.heap.size w w' := by
  obtain ⟨i4, hi4, hz0, hz1, hz2⟩ := info_parts Try.infoMem
  have hA := (new_below w (.cells #[.int .i64 n, .int .i64 s] 24)).alloc (by simp) (.cells #[.int .i64 0, .int .i64 0, .int .i64 0, .slice none 0 0, .int .i64 0, .int .i64 0, .int .i64 0, .int .i64 0, .int .i64 0, .slice none 0 0, .int .i64 0, .bool false, .bool false] 28)
  have G0 : Gbox ((w.alloc (.cells #[.int .i64 n, .int .i64 s] 24)).alloc (.cells #[.int .i64 0, .int .i64 0, .int .i64 0, .slice none 0 0, .int .i64 0, .int .i64 0, .int .i64 0, .int .i64 0, .int .i64 0, .slice none 0 0, .int .i64 0, .bool false, .bool false] 28)) w.heap.size 24 n s := (Gbox.new w 24 n s).below (new_below _ _) (by simp)
  have X0 := Box.new (w.alloc (.cells #[.int .i64 n, .int .i64 s] 24)) 28 #[.int .i64 0, .int .i64 0, .int .i64 0, .slice none 0 0, .int .i64 0, .int .i64 0, .int .i64 0, .int .i64 0, .int .i64 0, .slice none 0 0, .int .i64 0, .bool false, .bool false]
  rw [World.size_alloc] at X0
  have zG := G0.lt
  have zX := X0.lt
  obtain ⟨q0, q1⟩ := G0.cells
  go_enter Try.func10, Try.ntmps10
  go_wp2_with fail
  generalize (w.alloc (.cells #[.int .i64 n, .int .i64 s] 24)).alloc (.cells #[.int .i64 0, .int .i64 0, .int .i64 0, .slice none 0 0, .int .i64 0, .int .i64 0, .int .i64 0, .int .i64 0, .int .i64 0, .slice none 0 0, .int .i64 0, .bool false, .bool false] 28) = W at hA G0 X0 zG zX q0 q1 ⊢
  refine (implGeoOk_any _ _ _).mono ?_
  rintro e w1 ⟨rfl, b1⟩
  have B1 := Below.andThen hA b1
  have G1 := G0.below b1 zG
  have X1 := X0.below b1 zX
  have z1 := b1.size
  clear q0 q1 hA G0 X0 b1
  cases hg : geoB n s
  · have HZ := hidden (new_no (id := id) (n := n) (s := s) (by unfold newB; rw [hg]; rfl))
    obtain ⟨p0, p1, p2, p3, p4, p5, p6, p7, p8, p9, p10, p11, p12⟩ := X1.cells13
    have fz := X1.frozen
    have hbt := puts_but (w.heap.size + 1) [(0, .int .i64 0), (1, .int .i64 0), (2, .int .i64 0), (3, .slice none 0 0), (4, .int .i64 0), (5, .int .i64 0), (6, .int .i64 0), (7, .int .i64 0), (8, .int .i64 0), (9, .slice none 0 0), (10, .int .i64 0), (11, .bool false), (12, .bool false)] w1
    have FB := hidden (Below.andBut B1 hbt (by omega))
    simp only [puts] at FB
    clear hbt X1 G1 B1
    go_wp2
    refine bodyPost_ret (v := .agg #[.int .i64 0, .int .i64 0, .int .i64 0, .slice none 0 0, .int .i64 0, .int .i64 0, .int .i64 0, .int .i64 0, .int .i64 0, .slice none 0 0, .int .i64 0, .bool false, .bool false]) (by simp [results, Try.results10, go_sem, p0, p1, p2, p3, p4, p5, p6, p7, p8, p9, p10, p11, p12]) rfl ?_
    exact ⟨none, 0, by rw [HZ.out.1, HZ.out.2]; rfl, by rw [HZ.out.2]; exact nil_own _ _ _, FB.out⟩
  · go_wp2_with fail
    refine (within_any _ _ _ _).mono ?_
    rintro e wq ⟨rfl, hq⟩
    obtain rfl := hq.symm
    cases hid : inB id 1 60000
    · have HZ := hidden (new_no (id := id) (n := n) (s := s) (by unfold newB; rw [hg, hid]; rfl))
      obtain ⟨p0, p1, p2, p3, p4, p5, p6, p7, p8, p9, p10, p11, p12⟩ := X1.cells13
      have fz := X1.frozen
      have hbt := puts_but (w.heap.size + 1) [(0, .int .i64 0), (1, .int .i64 0), (2, .int .i64 0), (3, .slice none 0 0), (4, .int .i64 0), (5, .int .i64 0), (6, .int .i64 0), (7, .int .i64 0), (8, .int .i64 0), (9, .slice none 0 0), (10, .int .i64 0), (11, .bool false), (12, .bool false)] w1
      have FB := hidden (Below.andBut B1 hbt (by omega))
      simp only [puts] at FB
      clear hbt X1 G1 B1
      go_wp2
      refine bodyPost_ret (v := .agg #[.int .i64 0, .int .i64 0, .int .i64 0, .slice none 0 0, .int .i64 0, .int .i64 0, .int .i64 0, .int .i64 0, .int .i64 0, .slice none 0 0, .int .i64 0, .bool false, .bool false]) (by simp [results, Try.results10, go_sem, p0, p1, p2, p3, p4, p5, p6, p7, p8, p9, p10, p11, p12]) rfl ?_
      exact ⟨none, 0, by rw [HZ.out.1, HZ.out.2]; rfl, by rw [HZ.out.2]; exact nil_own _ _ _, FB.out⟩
    · have HY := hidden (new_yes (id := id) (n := n) (s := s) (by unfold newB; rw [hg, hid]; rfl))
      obtain ⟨g1, g2, g3, g4⟩ := geoB_iff.1 hg
      obtain ⟨k, rfl⟩ : ∃ k : Nat, s = (k : Int) := ⟨s.toNat, by omega⟩
      obtain ⟨N, rfl⟩ : ∃ N : Nat, n = (N : Int) := ⟨n.toNat, by omega⟩
      have HG := hidden hg
      have HID := hidden hid
      clear hg hid
      have bn := new_below w1 (.cells #[.int .i64 id, .int .i64 (N : Int), .int .i64 (k : Int), .slice none 0 0, .int .i64 (-1), .int .i64 0, .int .i64 0, .int .i64 0, .int .i64 0, .slice none 0 0, .int .i64 (-1), .bool false, .bool false] 28)
      have zn : (w1.alloc (.cells #[.int .i64 id, .int .i64 (N : Int), .int .i64 (k : Int), .slice none 0 0, .int .i64 (-1), .int .i64 0, .int .i64 0, .int .i64 0, .int .i64 0, .slice none 0 0, .int .i64 (-1), .bool false, .bool false] 28)).heap.size = w1.heap.size + 1 := by simp
      have G2 := G1.below bn (by omega)
      have X2 := X1.below bn (by omega)
      have Y2 := Box.new w1 28 #[.int .i64 id, .int .i64 (N : Int), .int .i64 (k : Int), .slice none 0 0, .int .i64 (-1), .int .i64 0, .int .i64 0, .int .i64 0, .int .i64 0, .slice none 0 0, .int .i64 (-1), .bool false, .bool false]
      have B2 := Below.andThen B1 bn
      obtain ⟨q0, q1⟩ := G1.cells
      obtain ⟨r0, r1⟩ := G2.cells
      clear G1 X1 B1 bn
      go_wp2
      generalize w1.alloc (.cells #[.int .i64 id, .int .i64 (N : Int), .int .i64 (k : Int), .slice none 0 0, .int .i64 (-1), .int .i64 0, .int .i64 0, .int .i64 0, .int .i64 0, .slice none 0 0, .int .i64 (-1), .bool false, .bool false] 28) = W2 at zn G2 X2 Y2 B2 r0 r1 ⊢
      obtain ⟨BO, hBO⟩ : ∃ BO, w1.heap.size = BO := ⟨_, rfl⟩
      rw [hBO] at zn Y2 z1 ⊢
      clear hBO q0 q1 r0 r1
      obtain ⟨LB, hLB⟩ : ∃ LB, W2.heap.size = LB := ⟨_, rfl⟩
      have zLB : LB ≤ BO + 1 ∧ BO + 1 ≤ LB ∧ LB ≤ W2.heap.size ∧ W2.heap.size ≤ LB := by omega
      clear hLB zn
      have XR2 := hidden X2
      have XO2 := hidden Y2
      have GB2 := hidden G2
      have HB2 := hidden B2
      clear X2 Y2 G2 B2
      go_loopw [21] (fun i wr => ∃ (j : Nat) (v0 : Value) (fp0 : List Nat), j ≤ N ∧ i = .int .i64 j ∧ Fr LB BO W2 wr ∧ Box wr BO 28 #[.int .i64 id, .int .i64 (N : Int), .int .i64 (k : Int), v0, .int .i64 (-1), .int .i64 0, .int .i64 0, .int .i64 0, .int .i64 0, .slice none 0 0, .int .i64 (-1), .bool false, .bool false] ∧ (tMemS 116 55).Mine wr [v0] (newMS id (N : Int) (k : Int) j) fp0 ∧ (∀ b ∈ fp0, LB ≤ b)) (fun i _ => N - (intOf i).toNat)
      case atStart => exact ⟨0, _, [], Nat.zero_le _, rfl, Fr.refl _ _ _, XO2.out, nil_mine _, by simp⟩
      case round =>
        obtain ⟨j, v0, fp0, hj, rfl, fr, xo, hm, hfp⟩ := hrel
        have hs := fr.size
        have hb := HB2.out.trans (fr.below (M := w.heap.size) (by omega) (by omega))
        have gb : Gbox wr w.heap.size 24 (N : Int) (k : Int) := (fr.block _ (by omega) (by omega)).trans GB2.out
        by_cases hjn : j < N
        · have k2 : (j : Int) < (N : Int) := by omega
          have HTK := hidden (newMS_succ id (N : Int) (k : Int) j)
          rw [newMD_nat] at HTK
          have HL := hidden (newMS_len id (N : Int) (k : Int) j)
          have XO := hidden xo
          have GBR := hidden gb
          have FRR := hidden fr
          have HM := hidden hm
          have HFP := hidden hfp
          have L1 : Hid ((newMS id (N : Int) (k : Int) j).length + 1 ≤ maxLen) := by unfold Hid; rw [HL.out]; unfold maxLen; omega
          have L2 : Hid (((newMS id (N : Int) (k : Int) j).length + 1) * 80 ≤ 140737488355328) := by unfold Hid; rw [HL.out]; omega
          have mk : Hid (∀ w', Box w' BO 28 #[.int .i64 id, .int .i64 (N : Int), .int .i64 (k : Int), v0, .int .i64 (-1), .int .i64 0, .int .i64 0, .int .i64 0, .int .i64 0, .slice none 0 0, .int .i64 (-1), .bool false, .bool false] → Gbox w' w.heap.size 24 (N : Int) (k : Int) → w'.cell? ⟨BO, 3, none⟩ = some (v0) ∧ w'.cell? ⟨w.heap.size, 0, none⟩ = some (.int .i64 (N : Int)) ∧ w'.cell? ⟨w.heap.size, 1, none⟩ = some (.int .i64 (k : Int))) := fun w' h1 h2 => ⟨h1.cell 3, h2.cells.1, h2.cells.2⟩
          have hS : wr.drew.cell? ⟨BO, 3, none⟩ = some (v0) ∧ wr.drew.cell? ⟨w.heap.size, 0, none⟩ = some (.int .i64 (N : Int)) ∧ wr.drew.cell? ⟨w.heap.size, 1, none⟩ = some (.int .i64 (k : Int)) := mk.out wr.drew xo gb
          have zLw : LB ≤ wr.heap.size := by omega
          clear xo hm hfp hb fr gb
          go_wp2_with fail
          refine Upto.start (S := fun w' => w'.cell? ⟨BO, 3, none⟩ = some (v0) ∧ w'.cell? ⟨w.heap.size, 0, none⟩ = some (.int .i64 (N : Int)) ∧ w'.cell? ⟨w.heap.size, 1, none⟩ = some (.int .i64 (k : Int))) (k := 9) (by kernel_rfl) ?_
          refine Upto.take (i := 0) (v := ?_) rfl (by kernel_rfl) (by kernel_rfl) (by kernel_rfl) (by kernel_rfl) (fun _ _ _ h => h) (Or.inl ⟨by rfl, ?_⟩) hS ?_
          rotate_left 1
          · (intro w hSw; (try dsimp only at hSw); go_split_ands; go_simp; first | done | with_reducible rfl)
          simp only [Act.put, List.setIfInBounds_toArray, List.set_cons_zero, List.set_cons_succ]
          refine Upto.take (i := 1) (v := ?_) rfl (by kernel_rfl) (by kernel_rfl) (by kernel_rfl) (by kernel_rfl) (fun _ _ _ h => h) (Or.inl ⟨by rfl, ?_⟩) hS ?_
          rotate_left 1
          · (intro w hSw; (try dsimp only at hSw); go_split_ands; go_simp; first | done | with_reducible rfl)
          simp only [Act.put, List.setIfInBounds_toArray, List.set_cons_zero, List.set_cons_succ]
          refine Upto.take (i := 2) (v := ?_) rfl (by kernel_rfl) (by kernel_rfl) (by kernel_rfl) (by kernel_rfl) (fun _ _ _ h => h) (Or.inl ⟨by rfl, ?_⟩) hS ?_
          rotate_left 1
          · (intro w hSw; (try dsimp only at hSw); go_split_ands; go_simp; first | done | with_reducible rfl)
          simp only [Act.put, List.setIfInBounds_toArray, List.set_cons_zero, List.set_cons_succ]
          refine Upto.take (i := 3) (v := ?_) rfl (by kernel_rfl) (by kernel_rfl) (by kernel_rfl) (by kernel_rfl) (fun _ _ _ h => h) (Or.inl ⟨by rfl, ?_⟩) hS ?_
          rotate_left 1
          · (intro w hSw; (try dsimp only at hSw); go_split_ands; go_simp; first | done | with_reducible rfl)
          simp only [Act.put, List.setIfInBounds_toArray, List.set_cons_zero, List.set_cons_succ]
          refine Upto.take (i := 4) (v := ?_) rfl (by kernel_rfl) (by kernel_rfl) (by kernel_rfl) (by kernel_rfl) (fun _ _ _ h => h) (Or.inl ⟨by rfl, ?_⟩) hS ?_
          rotate_left 1
          · (intro w hSw; (try dsimp only at hSw); go_split_ands; go_simp; first | done | with_reducible rfl)
          simp only [Act.put, List.setIfInBounds_toArray, List.set_cons_zero, List.set_cons_succ]
          refine Upto.one (i := 5) (by kernel_rfl) rfl (fun K hK => ?_)
          go_simp
          refine (newMem_any _ id (N : Int) (j : Int) k HG.out HID.out (by omega) k2).mono ?_
          rintro e wc ⟨y0, y1, y3, rfl, om, bc⟩
          have hbc' : Below wr.heap.size wr wc := (Below.refl wr.heap.size wr).drew.trans bc
          have om2 : (tMem 116).Own wc wr.heap.size wc.heap.size [y0, y1, .bool false, y3] _ := om
          obtain ⟨d0, k0, f0, d1, k1, f1, d3, k3, f3, hv0, hv1, hv3⟩ := mem_letters2 om2
          subst hv0 hv1 hv3
          obtain ⟨fpx, mx, rx⟩ := om2.mine
          have xoc := XO.out.below hbc' (by omega)
          have gbc := GBR.out.below hbc' (by omega)
          have hS3 : wc.cell? ⟨BO, 3, none⟩ = some (v0) ∧ wc.cell? ⟨w.heap.size, 0, none⟩ = some (.int .i64 (N : Int)) ∧ wc.cell? ⟨w.heap.size, 1, none⟩ = some (.int .i64 (k : Int)) := mk.out wc xoc gbc
          have zc := hbc'.size
          have hS4 : (wc.alloc (.cells #[.slice d0 k0 f0, .slice d1 k1 f1, .bool false, .slice d3 k3 f3] 55)).cell? ⟨BO, 3, none⟩ = some (v0) ∧ (wc.alloc (.cells #[.slice d0 k0 f0, .slice d1 k1 f1, .bool false, .slice d3 k3 f3] 55)).cell? ⟨w.heap.size, 0, none⟩ = some (.int .i64 (N : Int)) ∧ (wc.alloc (.cells #[.slice d0 k0 f0, .slice d1 k1 f1, .bool false, .slice d3 k3 f3] 55)).cell? ⟨w.heap.size, 1, none⟩ = some (.int .i64 (k : Int)) := mk.out _ (xoc.alloc _) (gbc.below (new_below _ _) gbc.lt)
          have XOC := hidden xoc
          have GBC := hidden gbc
          have MX := hidden mx
          have RX := hidden rx
          have HBC := hidden hbc'
          clear xoc gbc mx rx hbc' bc om om2
          go_wp2_with fail
          refine hK.out _ _ (fun _ => hS3) ?_
          clear hK K
          refine Upto.one (i := 6) (by kernel_rfl) rfl (fun K hK => ?_)
          go_simp
          refine hK.out _ _ (fun _ => hS4) ?_
          clear hK K
          refine Upto.one (i := 7) (by kernel_rfl) rfl (fun K hK => ?_)
          refine step_appT (tMem 116) (by rfl) _ _ 25 (by rfl) 55 i4 (.agg #[.slice none 0 0, .slice none 0 0, .bool false, .slice none 0 0]) 80 Try.underlying25 hi4 hz0 hz1 hz2 rfl (by decide) v0 (newMS id (N : Int) (k : Int) j) fp0 (by rfl) ?_ ⟨wc.heap.size, 0, none⟩ 1 [.slice d0 k0 f0, .slice d1 k1 f1, .bool false, .slice d3 k3 f3] (newPD (putD (newSup id (N : Int) (k : Int) (j : Int))) k k, [], false, []) fpx (by rfl) ?_ ?_ ?_ ?_ L1.out L2.out ?_
          · exact (HM.out.below HBC.out).alloc _
          · exact MX.out.alloc _
          · intro b hb hb'
            have h1 := HM.out.lt b hb
            have h2 := RX.out b hb'
            omega
          · exact news_new _ _ _
          · intro u hu
            simp at hu
            rcases hu with hu | hu | hu | hu <;> (rw [hu]; rfl)
          intro g cap wA fpA m1 m2 m3
          rw [HL.out] at m1 ⊢
          rw [← HTK.out] at m1
          have ya := (XOC.out.alloc (.cells #[.slice d0 k0 f0, .slice d1 k1 f1, .bool false, .slice d3 k3 f3] 55)).turned m3 (fun hm => by have := HFP.out _ hm; omega)
          have zB : (wc.alloc (.cells #[.slice d0 k0 f0, .slice d1 k1 f1, .bool false, .slice d3 k3 f3] 55)).heap.size = wc.heap.size + 1 := by simp
          have ga : Gbox wA w.heap.size 24 (N : Int) (k : Int) := (m3.block _ (by omega) (fun hm => by have := HFP.out _ hm; omega)).trans (GBC.out.below (new_below _ _) GBC.out.lt)
          have hS5 : wA.cell? ⟨BO, 3, none⟩ = some (v0) ∧ wA.cell? ⟨w.heap.size, 0, none⟩ = some (.int .i64 (N : Int)) ∧ wA.cell? ⟨w.heap.size, 1, none⟩ = some (.int .i64 (k : Int)) := mk.out wA ya ga
          have rr0 := hS5.1
          have fz := ya.frozen 3
          have YA := hidden ya
          have M1 := hidden m1
          have M2 := hidden m2
          have M3 := hidden m3
          clear ya ga m1 m2 m3 zB
          refine hK.out _ _ (fun _ => hS5) ?_
          clear hK K
          simp only [Act.put, List.setIfInBounds_toArray, List.set_cons_zero, List.set_cons_succ]
          refine Upto.take (i := 8) (v := ?_) rfl (by kernel_rfl) (by kernel_rfl) (by kernel_rfl) (by kernel_rfl) (fun _ _ _ h => h) (Or.inl ⟨by rfl, ?_⟩) hS5 ?_
          rotate_left 1
          · (intro w hSw; (try dsimp only at hSw); go_split_ands; go_simp; first | done | with_reducible rfl)
          simp only [Act.put, List.setIfInBounds_toArray, List.set_cons_zero, List.set_cons_succ]
          refine Upto.one (i := 9) (by kernel_rfl) rfl (fun K hK => ?_)
          go_simp
          refine hK.out _ _ (fun h => absurd rfl h) ?_
          clear hK K
          refine Upto.done (by kernel_rfl) ?_ _
          have HFA := hidden (round_fp (N := LB) zLw HBC.out HFP.out RX.out M2.out)
          have FRA := hidden (Fr.round FRR.out zLw HBC.out _ M3.out HFP.out 3 (.slice (some ⟨g, 0, none⟩) (j + 1) cap))
          have MA := hidden (M1.out.setCell (g := BO) (j := 3) (fun hm => by have := HFA.out _ hm; omega) (.slice (some ⟨g, 0, none⟩) (j + 1) cap))
          have YA' := hidden (YA.out.set 3 (.slice (some ⟨g, 0, none⟩) (j + 1) cap))
          clear hS hS3 hS4 hS5 rr0 YA M1 M2 M3 XOC GBC MX RX HBC HFP HM FRR XO GBR mk
          go_wp2
          go_roundw
          case rel => exact ⟨j + 1, _, fpA, by omega, by go_num, FRA.out, YA'.out, MA.out, HFA.out⟩
          case measure => simp [intOf]; omega
        · have ej : j = N := by omega
          subst ej
          have hlt := hm.lt
          obtain ⟨eM, gM, hvM⟩ := row_shape hm.rd
          rw [newMS_len] at hvM
          subst hvM
          have KM := hm.own (lo := LB) (hi := wr.heap.size) (fun b hb => ⟨hfp b hb, hlt b hb⟩)
          have xr := fr.box XR2.out (by omega) (by omega)
          have hbt := puts_but (w.heap.size + 1) [(0, .int .i64 id), (1, .int .i64 (j : Int)), (2, .int .i64 (k : Int)), (3, .slice eM j gM), (4, .int .i64 (-1)), (5, .int .i64 0), (6, .int .i64 0), (7, .int .i64 0), (8, .int .i64 0), (9, .slice none 0 0), (10, .int .i64 (-1)), (11, .bool false), (12, .bool false)] wr
          have hsz := hbt.size
          have FO := hidden ((KM.but hbt (.inr (by omega))).widen (lo' := w.heap.size) (by omega) hsz)
          have FB := hidden (Below.andBut hb hbt (by omega))
          simp only [puts] at FO FB
          obtain ⟨p0, p1, p2, p3, p4, p5, p6, p7, p8, p9, p10, p11, p12⟩ := xr.cells13
          have fz := xr.frozen
          obtain ⟨r0, r1, r2, r3, r4, r5, r6, r7, r8, r9, r10, r11, r12⟩ := xo.cells13
          clear fr xo hb hm hfp hlt xr KM hbt hsz gb hj hs
          go_wp2
          refine bodyPost_ret (v := .agg #[.int .i64 id, .int .i64 (j : Int), .int .i64 (k : Int), .slice eM j gM, .int .i64 (-1), .int .i64 0, .int .i64 0, .int .i64 0, .int .i64 0, .slice none 0 0, .int .i64 (-1), .bool false, .bool false]) (by simp [results, Try.results10, go_sem, p0, p1, p2, p3, p4, p5, p6, p7, p8, p9, p10, p11, p12]) rfl ?_
          have hnl : (newMS id (j : Int) (k : Int) (j : Int).toNat).length = j := by rw [newMS_len]; simp
          exact ⟨eM, gM, by rw [HY.out.1, HY.out.2, hnl], by rw [HY.out.2, hnl, Int.toNat_natCast]; exact FO.out, FB.out⟩

end Go.Proofs.Ytccokaicipldcaa

/-
  The walk of the specification's ArrNew: a new array in memory of its own. No condition.
-/
namespace Go.Proofs.Ytccokaicipldcaa
open Go.RowKit

theorem row_head {t : Ty} {E : TypeId} {w : World} {a : Option Addr} {n cap : Nat} {d : List t.D} {fp : List Nat} (h : (rowTy t E).Mine w [.slice a n cap] d fp) (hn : 0 < n) : ∃ g, a = some ⟨g, 0, none⟩ := by
  obtain ⟨h, _⟩ := h
  rcases h with ⟨h1, _⟩ | ⟨b, cap', cur, fps, h1, _⟩
  · simp at h1
    omega
  · simp at h1
    exact ⟨b, h1.1⟩

set_option linter.unusedSimpArgs false in
set_option maxRecDepth 20000 in
set_option maxHeartbeats 4000000 in
theorem specArrNew_any (w : World) (id n s : Int) :
    Calls Try.prog 8 #[.int .i64 id, .agg #[.int .i64 n, .int .i64 s]] w fun e w' => ∃ am cm, e = .returned (.agg #[.int .i64 (newX id n s).id, .int .i64 (newX id n s).n, .int .i64 (newX id n s).s, .slice am (newAM id n s).length cm, .int .i64 (newX id n s).lost, .int .i64 (newX id n s).built, .int .i64 (newX id n s).seq, .int .i64 (newX id n s).tail, .int .i64 (newX id n s).gen, .slice none 0 0, .int .i64 (newX id n s).fuse, .bool (newX id n s).down, .bool (newX id n s).broken]) ∧ (tMemS 116 55).Own w' w.heap.size w'.heap.size [.slice am (newAM id n s).length cm] (newAM id n s) ∧ Below w.heap.size w w' := by
  obtain ⟨i4, hi4, hz0, hz1, hz2⟩ := info_parts Try.infoMem
  have hA := (new_below w (.cells #[.int .i64 n, .int .i64 s] 24)).alloc (by simp) (.cells #[.int .i64 0, .int .i64 0, .int .i64 0, .slice none 0 0, .int .i64 0, .int .i64 0, .int .i64 0, .int .i64 0, .int .i64 0, .slice none 0 0, .int .i64 0, .bool false, .bool false] 28)
  have G0 : Gbox ((w.alloc (.cells #[.int .i64 n, .int .i64 s] 24)).alloc (.cells #[.int .i64 0, .int .i64 0, .int .i64 0, .slice none 0 0, .int .i64 0, .int .i64 0, .int .i64 0, .int .i64 0, .int .i64 0, .slice none 0 0, .int .i64 0, .bool false, .bool false] 28)) w.heap.size 24 n s := (Gbox.new w 24 n s).below (new_below _ _) (by simp)
  have X0 := Box.new (w.alloc (.cells #[.int .i64 n, .int .i64 s] 24)) 28 #[.int .i64 0, .int .i64 0, .int .i64 0, .slice none 0 0, .int .i64 0, .int .i64 0, .int .i64 0, .int .i64 0, .int .i64 0, .slice none 0 0, .int .i64 0, .bool false, .bool false]
  rw [World.size_alloc] at X0
  have zG := G0.lt
  have zX := X0.lt
  obtain ⟨q0, q1⟩ := G0.cells
  go_enter Try.func8, Try.ntmps8
  go_wp2_with fail
  generalize (w.alloc (.cells #[.int .i64 n, .int .i64 s] 24)).alloc (.cells #[.int .i64 0, .int .i64 0, .int .i64 0, .slice none 0 0, .int .i64 0, .int .i64 0, .int .i64 0, .int .i64 0, .int .i64 0, .slice none 0 0, .int .i64 0, .bool false, .bool false] 28) = W at hA G0 X0 zG zX q0 q1 ⊢
  refine (specGeoOk_any _ _ _).mono ?_
  rintro e w1 ⟨rfl, b1⟩
  have B1 := Below.andThen hA b1
  have G1 := G0.below b1 zG
  have X1 := X0.below b1 zX
  have z1 := b1.size
  clear q0 q1 hA G0 X0 b1
  cases hg : geoB n s
  · have HZ := hidden (new_no (id := id) (n := n) (s := s) (by unfold newB; rw [hg]; rfl))
    obtain ⟨p0, p1, p2, p3, p4, p5, p6, p7, p8, p9, p10, p11, p12⟩ := X1.cells13
    have fz := X1.frozen
    have hbt := puts_but (w.heap.size + 1) [(0, .int .i64 0), (1, .int .i64 0), (2, .int .i64 0), (3, .slice none 0 0), (4, .int .i64 0), (5, .int .i64 0), (6, .int .i64 0), (7, .int .i64 0), (8, .int .i64 0), (9, .slice none 0 0), (10, .int .i64 0), (11, .bool false), (12, .bool false)] w1
    have FB := hidden (Below.andBut B1 hbt (by omega))
    simp only [puts] at FB
    clear hbt X1 G1 B1
    go_wp2
    refine bodyPost_ret (v := .agg #[.int .i64 0, .int .i64 0, .int .i64 0, .slice none 0 0, .int .i64 0, .int .i64 0, .int .i64 0, .int .i64 0, .int .i64 0, .slice none 0 0, .int .i64 0, .bool false, .bool false]) (by simp [results, Try.results8, go_sem, p0, p1, p2, p3, p4, p5, p6, p7, p8, p9, p10, p11, p12]) rfl ?_
    exact ⟨none, 0, by rw [HZ.out.1, HZ.out.2]; rfl, by rw [HZ.out.2]; exact nil_own _ _ _, FB.out⟩
  · go_wp2_with fail
    refine (l1In_any _ _ _ _).mono ?_
    rintro e wq ⟨rfl, hq⟩
    obtain rfl := hq.symm
    cases hid : inB id 1 60000
    · have HZ := hidden (new_no (id := id) (n := n) (s := s) (by unfold newB; rw [hg, hid]; rfl))
      obtain ⟨p0, p1, p2, p3, p4, p5, p6, p7, p8, p9, p10, p11, p12⟩ := X1.cells13
      have fz := X1.frozen
      have hbt := puts_but (w.heap.size + 1) [(0, .int .i64 0), (1, .int .i64 0), (2, .int .i64 0), (3, .slice none 0 0), (4, .int .i64 0), (5, .int .i64 0), (6, .int .i64 0), (7, .int .i64 0), (8, .int .i64 0), (9, .slice none 0 0), (10, .int .i64 0), (11, .bool false), (12, .bool false)] w1
      have FB := hidden (Below.andBut B1 hbt (by omega))
      simp only [puts] at FB
      clear hbt X1 G1 B1
      go_wp2
      refine bodyPost_ret (v := .agg #[.int .i64 0, .int .i64 0, .int .i64 0, .slice none 0 0, .int .i64 0, .int .i64 0, .int .i64 0, .int .i64 0, .int .i64 0, .slice none 0 0, .int .i64 0, .bool false, .bool false]) (by simp [results, Try.results8, go_sem, p0, p1, p2, p3, p4, p5, p6, p7, p8, p9, p10, p11, p12]) rfl ?_
      exact ⟨none, 0, by rw [HZ.out.1, HZ.out.2]; rfl, by rw [HZ.out.2]; exact nil_own _ _ _, FB.out⟩
    · have HY := hidden (new_yes (id := id) (n := n) (s := s) (by unfold newB; rw [hg, hid]; rfl))
      obtain ⟨g1, g2, g3, g4⟩ := geoB_iff.1 hg
      obtain ⟨k, rfl⟩ : ∃ k : Nat, s = (k : Int) := ⟨s.toNat, by omega⟩
      obtain ⟨N, rfl⟩ : ∃ N : Nat, n = (N : Int) := ⟨n.toNat, by omega⟩
      have hk8 : k ≤ 8 := by omega
      have HG := hidden hg
      have HID := hidden hid
      clear hg hid
      have bn := new_below w1 (.cells #[.int .i64 id, .int .i64 (N : Int), .int .i64 (k : Int), .slice none 0 0, .int .i64 (-1), .int .i64 0, .int .i64 0, .int .i64 0, .int .i64 0, .slice none 0 0, .int .i64 (-1), .bool false, .bool false] 28)
      have zn : (w1.alloc (.cells #[.int .i64 id, .int .i64 (N : Int), .int .i64 (k : Int), .slice none 0 0, .int .i64 (-1), .int .i64 0, .int .i64 0, .int .i64 0, .int .i64 0, .slice none 0 0, .int .i64 (-1), .bool false, .bool false] 28)).heap.size = w1.heap.size + 1 := by simp
      have G2 := G1.below bn (by omega)
      have X2 := X1.below bn (by omega)
      have Y2 := Box.new w1 28 #[.int .i64 id, .int .i64 (N : Int), .int .i64 (k : Int), .slice none 0 0, .int .i64 (-1), .int .i64 0, .int .i64 0, .int .i64 0, .int .i64 0, .slice none 0 0, .int .i64 (-1), .bool false, .bool false]
      have B2 := Below.andThen B1 bn
      obtain ⟨q0, q1⟩ := G1.cells
      clear G1 X1 B1 bn
      go_wp2
      generalize w1.alloc (.cells #[.int .i64 id, .int .i64 (N : Int), .int .i64 (k : Int), .slice none 0 0, .int .i64 (-1), .int .i64 0, .int .i64 0, .int .i64 0, .int .i64 0, .slice none 0 0, .int .i64 (-1), .bool false, .bool false] 28) = W2 at zn G2 X2 Y2 B2 ⊢
      obtain ⟨BO, hBO⟩ : ∃ BO, w1.heap.size = BO := ⟨_, rfl⟩
      rw [hBO] at zn Y2 z1 ⊢
      clear hBO q0 q1
      obtain ⟨LB, hLB⟩ : ∃ LB, W2.heap.size = LB := ⟨_, rfl⟩
      have zLB : LB ≤ BO + 1 ∧ BO + 1 ≤ LB ∧ LB ≤ W2.heap.size ∧ W2.heap.size ≤ LB := by omega
      clear hLB zn
      have XR2 := hidden X2
      have XO2 := hidden Y2
      have GB2 := hidden G2
      have HB2 := hidden B2
      clear X2 Y2 G2 B2
      go_loopw [6] (fun i wr => ∃ (j : Nat) (v0 : Value) (fp0 : List Nat), j ≤ N ∧ i = .int .i64 j ∧ Fr LB BO W2 wr ∧ Box wr BO 28 #[.int .i64 id, .int .i64 (N : Int), .int .i64 (k : Int), v0, .int .i64 (-1), .int .i64 0, .int .i64 0, .int .i64 0, .int .i64 0, .slice none 0 0, .int .i64 (-1), .bool false, .bool false] ∧ (tMemS 116 55).Mine wr [v0] (newMS id (N : Int) (k : Int) j) fp0 ∧ (∀ b ∈ fp0, LB ≤ b)) (fun i _ => N - (intOf i).toNat)
      case atStart => exact ⟨0, _, [], Nat.zero_le _, rfl, Fr.refl _ _ _, XO2.out, nil_mine _, by simp⟩
      case round =>
        obtain ⟨wo, hwo⟩ : ∃ x : World, x = wr := ⟨_, rfl⟩
        subst hwo
        obtain ⟨j, v0, fp0, hj, rfl, fr, xo, hm, hfp⟩ := hrel
        have hs := fr.size
        have hb := HB2.out.trans (fr.below (M := w.heap.size) (by omega) (by omega))
        have gb : Gbox wo w.heap.size 24 (N : Int) (k : Int) := (fr.block _ (by omega) (by omega)).trans GB2.out
        obtain ⟨q0, q1⟩ := gb.cells
        by_cases hjn : j < N
        · have k2 : (j : Int) < (N : Int) := by omega
          have HTK := hidden (newMS_succ id (N : Int) (k : Int) j)
          rw [newMD_nat] at HTK
          have HL := hidden (newMS_len id (N : Int) (k : Int) j)
          have XO := hidden xo
          have GBR := hidden gb
          have FRR := hidden fr
          have HM := hidden hm
          have HFP := hidden hfp
          have L1 : Hid ((newMS id (N : Int) (k : Int) j).length + 1 ≤ maxLen) := by unfold Hid; rw [HL.out]; unfold maxLen; omega
          have L2 : Hid (((newMS id (N : Int) (k : Int) j).length + 1) * 80 ≤ 140737488355328) := by unfold Hid; rw [HL.out]; omega
          have zLw : LB ≤ wo.heap.size := by omega
          clear xo hm hfp hb fr gb
          go_wp2_with fail
          refine (l6Secs_any _ (N : Int) (k : Int) ⟨g3, g4⟩).mono ?_
          rintro e w3 ⟨rfl, b3⟩
          clear q0 q1
          go_wp2_with fail
          refine (specMemNew_any _ (6 + (k : Int))).mono ?_
          rintro e w4 ⟨a0, c0, rfl, o4, b4⟩
          have hln : (newSS (6 + (k : Int))).length = 6 + k := by rw [newSS_rep hk8]; simp
          obtain ⟨L, hL⟩ : ∃ L : Nat, 6 + k = L := ⟨_, rfl⟩
          rw [hL] at hln
          have zL : 6 + k ≤ L ∧ L ≤ 6 + k := by omega
          have zL2 : (0 : Int) < (L : Int) := by omega
          have zL3 : 0 < L := by omega
          clear hL
          rw [hln] at o4 ⊢
          obtain ⟨fp4, m4, r4⟩ := o4.mine
          obtain ⟨g, rfl⟩ := row_head m4 (by omega)
          have b34 : Below wo.heap.size wo w4 := Below.andThen b3 b4
          have z3 := b3.size
          have z4 := b4.size
          have b5 := new_below w4 (.cells #[.slice (some ⟨g, 0, none⟩) L c0, .slice none 0 0, .bool false, .slice none 0 0] 55)
          have B5 : Below wo.heap.size wo (w4.alloc (.cells #[.slice (some ⟨g, 0, none⟩) L c0, .slice none 0 0, .bool false, .slice none 0 0] 55)) := Below.andThen b34 b5
          have G5 := GBR.out.below B5 GBR.out.lt
          have Y5 := Box.new w4 55 #[.slice (some ⟨g, 0, none⟩) L c0, .slice none 0 0, .bool false, .slice none 0 0]
          have z5 : (w4.alloc (.cells #[.slice (some ⟨g, 0, none⟩) L c0, .slice none 0 0, .bool false, .slice none 0 0] 55)).heap.size = w4.heap.size + 1 := by simp
          have M5 := m4.alloc (.cells #[.slice (some ⟨g, 0, none⟩) L c0, .slice none 0 0, .bool false, .slice none 0 0] 55)
          have R5 : ∀ b ∈ fp4, wo.heap.size ≤ b ∧ b < w4.heap.size := fun b hb => by have := r4 b hb; omega
          have hsup := newSup_ok HG.out HID.out (Int.natCast_nonneg j) k2
          clear b3 b4 o4 m4 r4 b34 b5
          go_wp2_with fail
          generalize w4.alloc (.cells #[.slice (some ⟨g, 0, none⟩) L c0, .slice none 0 0, .bool false, .slice none 0 0] 55) = w5 at B5 G5 Y5 z5 M5 ⊢
          obtain ⟨MBN, hMB⟩ : ∃ B, w4.heap.size = B := ⟨_, rfl⟩
          rw [hMB] at Y5 z5 R5 ⊢
          have zMB : wo.heap.size ≤ MBN := by omega
          clear hMB
          have mk : Hid (∀ w', Box w' MBN 55 #[.slice (some ⟨g, 0, none⟩) L c0, .slice none 0 0, .bool false, .slice none 0 0] → Gbox w' w.heap.size 24 (N : Int) (k : Int) → w'.cell? ⟨MBN, 0, none⟩ = some (.slice (some ⟨g, 0, none⟩) L c0) ∧ w'.cell? ⟨w.heap.size, 0, none⟩ = some (.int .i64 (N : Int)) ∧ w'.cell? ⟨w.heap.size, 1, none⟩ = some (.int .i64 (k : Int))) := fun w' h1 h2 => ⟨h1.cell 0, h2.cells.1, h2.cells.2⟩
          have hS : w5.drew.cell? ⟨MBN, 0, none⟩ = some (.slice (some ⟨g, 0, none⟩) L c0) ∧ w5.drew.cell? ⟨w.heap.size, 0, none⟩ = some (.int .i64 (N : Int)) ∧ w5.drew.cell? ⟨w.heap.size, 1, none⟩ = some (.int .i64 (k : Int)) := mk.out w5.drew Y5 G5
          have Y5H := hidden Y5
          have G5H := hidden G5
          have M5H := hidden M5
          have B5H := hidden B5
          have R5H := hidden R5
          clear Y5 G5 M5 B5 R5
          generalize hPP : putD (newSup id (N : Int) (k : Int) (j : Int)) = P at HTK
          refine Upto.start (S := fun w' => w'.cell? ⟨MBN, 0, none⟩ = some (.slice (some ⟨g, 0, none⟩) L c0) ∧ w'.cell? ⟨w.heap.size, 0, none⟩ = some (.int .i64 (N : Int)) ∧ w'.cell? ⟨w.heap.size, 1, none⟩ = some (.int .i64 (k : Int))) (k := 11) (by kernel_rfl) ?_
          refine Upto.take (i := 0) (v := ?_) rfl (by kernel_rfl) (by kernel_rfl) (by kernel_rfl) (by kernel_rfl) (fun _ _ _ h => h) (Or.inl ⟨by rfl, ?_⟩) hS ?_
          rotate_left 1
          · (intro w hSw; (try dsimp only at hSw); go_split_ands; go_simp; first | done | with_reducible rfl)
          simp only [Act.put, List.setIfInBounds_toArray, List.set_cons_zero, List.set_cons_succ]
          refine Upto.take (i := 1) (v := ?_) rfl (by kernel_rfl) (by kernel_rfl) (by kernel_rfl) (by kernel_rfl) (fun _ _ _ h => h) (Or.inl ⟨by rfl, ?_⟩) hS ?_
          rotate_left 1
          · (intro w hSw; (try dsimp only at hSw); go_split_ands; go_simp; first | done | with_reducible rfl)
          simp only [Act.put, List.setIfInBounds_toArray, List.set_cons_zero, List.set_cons_succ]
          refine Upto.take (i := 2) (v := ?_) rfl (by kernel_rfl) (by kernel_rfl) (by kernel_rfl) (by kernel_rfl) (fun _ _ _ h => h) (Or.inl ⟨by rfl, ?_⟩) hS ?_
          rotate_left 1
          · (intro w hSw; (try dsimp only at hSw); go_split_ands; go_simp; first | done | with_reducible rfl)
          simp only [Act.put, List.setIfInBounds_toArray, List.set_cons_zero, List.set_cons_succ]
          refine Upto.take (i := 3) (v := ?_) rfl (by kernel_rfl) (by kernel_rfl) (by kernel_rfl) (by kernel_rfl) (fun _ _ _ h => h) (Or.inl ⟨by rfl, ?_⟩) hS ?_
          rotate_left 1
          · (intro w hSw; (try dsimp only at hSw); go_split_ands; go_simp; first | done | with_reducible rfl)
          simp only [Act.put, List.setIfInBounds_toArray, List.set_cons_zero, List.set_cons_succ]
          refine Upto.take (i := 4) (v := ?_) rfl (by kernel_rfl) (by kernel_rfl) (by kernel_rfl) (by kernel_rfl) (fun _ _ _ h => h) (Or.inl ⟨by rfl, ?_⟩) hS ?_
          rotate_left 1
          · (intro w hSw; (try dsimp only at hSw); go_split_ands; go_simp; first | done | with_reducible rfl)
          simp only [Act.put, List.setIfInBounds_toArray, List.set_cons_zero, List.set_cons_succ]
          refine Upto.take (i := 5) (v := ?_) rfl (by kernel_rfl) (by kernel_rfl) (by kernel_rfl) (by kernel_rfl) (fun _ _ _ h => h) (Or.inl ⟨by rfl, ?_⟩) hS ?_
          rotate_left 1
          · (intro w hSw; (try dsimp only at hSw); go_split_ands; go_simp; first | done | with_reducible rfl)
          simp only [Act.put, List.setIfInBounds_toArray, List.set_cons_zero, List.set_cons_succ]
          refine Upto.take (i := 6) (v := ?_) rfl (by kernel_rfl) (by kernel_rfl) (by kernel_rfl) (by kernel_rfl) (fun _ _ _ h => h) (Or.inl ⟨by rfl, ?_⟩) hS ?_
          rotate_left 1
          · (intro w hSw; (try dsimp only at hSw); go_split_ands; go_simp; first | done | with_reducible rfl)
          simp only [Act.put, List.setIfInBounds_toArray, List.set_cons_zero, List.set_cons_succ]
          refine Upto.take (i := 7) (v := ?_) rfl (by kernel_rfl) (by kernel_rfl) (by kernel_rfl) (by kernel_rfl) (fun _ _ _ h => h) (Or.inl ⟨by rfl, ?_⟩) hS ?_
          rotate_left 1
          · (intro w hSw; (try dsimp only at hSw); go_split_ands; go_simp; first | done | with_reducible rfl)
          simp only [Act.put, List.setIfInBounds_toArray, List.set_cons_zero, List.set_cons_succ]
          refine Upto.take (i := 8) (v := ?_) rfl (by kernel_rfl) (by kernel_rfl) (by kernel_rfl) (by kernel_rfl) (fun _ _ _ h => h) (Or.inl ⟨by rfl, ?_⟩) hS ?_
          rotate_left 1
          · (intro w hSw; (try dsimp only at hSw); go_split_ands; go_simp; first | done | with_reducible rfl)
          simp only [Act.put, List.setIfInBounds_toArray, List.set_cons_zero, List.set_cons_succ]
          refine Upto.one (i := 9) (by kernel_rfl) rfl (fun K hK => ?_)
          go_simp
          refine (specPutSuper_any _ (newSup id (N : Int) (k : Int) (j : Int))).mono ?_
          rintro e w6 ⟨ap, lp, cp, rfl, o6, b6'⟩
          have b6 : Below w5.heap.size w5 w6 := (Below.refl w5.heap.size w5).drew.trans b6'
          have o6b : tIntS.Own w6 w5.heap.size w6.heap.size [.slice ap lp cp] P := by rw [← hPP]; exact o6
          have HPP := hidden hPP
          clear hPP
          obtain ⟨fpp, mp, rp⟩ := o6b.mine
          have z6 := b6.size
          have Y6 := Y5H.out.below b6 (by omega)
          have G6 := G5H.out.below b6 (by omega)
          have M6 := M5H.out.below b6
          have hS6 : w6.cell? ⟨MBN, 0, none⟩ = some (.slice (some ⟨g, 0, none⟩) L c0) ∧ w6.cell? ⟨w.heap.size, 0, none⟩ = some (.int .i64 (N : Int)) ∧ w6.cell? ⟨w.heap.size, 1, none⟩ = some (.int .i64 (k : Int)) := mk.out w6 Y6 G6
          obtain ⟨⟨old, cOld⟩, fz, hgm, fpA, mA, rA⟩ := row_set1 (j := 0) rfl M6 (by omega) mp (fun b hb hb' => by have h1 := rp b hb; have h2 := R5H.out b hb'; omega)
          rw [newPD_zero hk8] at mA
          have hgr := R5H.out g hgm
          have nMg : ¬ MBN = g := by omega
          have nMg2 : ¬ g = MBN := by omega
          have Y7 : Box (w6.setCell ⟨g, 0, none⟩ (.slice ap lp cp)) MBN 55 #[.slice (some ⟨g, 0, none⟩) L c0, .slice none 0 0, .bool false, .slice none 0 0] := Y6.other (by omega) 0 _
          have B7 : Below wo.heap.size wo (w6.setCell ⟨g, 0, none⟩ (.slice ap lp cp)) := ((B5H.out.trans (b6.mono (by omega))).setCell (show wo.heap.size ≤ g by omega) _)
          have R7 : ∀ b ∈ fpA, wo.heap.size ≤ b ∧ b ≠ MBN := fun b hb => by
            rcases rA b hb with h | h
            · have := R5H.out b h; omega
            · have := rp b h; omega
          have z7 : MBN < (w6.setCell ⟨g, 0, none⟩ (.slice ap lp cp)).heap.size := Y7.lt
          have Y7H := hidden Y7
          have B7H := hidden B7
          have M7H := hidden mA
          have R7H := hidden R7
          clear Y6 G6 M6 mp rp o6 o6b b6 b6' mA rA Y7 B7 R7 Y5H G5H M5H B5H R5H
          go_wp2_with fail
          refine hK.out _ _ (fun _ => hS6) ?_
          clear hK K
          refine Upto.take (i := 10) (v := ?_) rfl (by kernel_rfl) (by kernel_rfl) (by kernel_rfl) (by kernel_rfl) (fun _ _ _ h => h) (Or.inl ⟨by rfl, ?_⟩) hS6 ?_
          rotate_left 1
          · (intro w hSw; (try dsimp only at hSw); go_split_ands; go_simp; first | done | with_reducible rfl)
          simp only [Act.put, List.setIfInBounds_toArray, List.set_cons_zero, List.set_cons_succ]
          refine Upto.one (i := 11) (by kernel_rfl) rfl (fun K hK => ?_)
          go_simp
          refine hK.out _ _ (fun h => absurd rfl h) ?_
          clear hK K
          refine Upto.done (by kernel_rfl) ?_ _
          clear hS hS6 cOld fz mk
          generalize w6.setCell ⟨g, 0, none⟩ (.slice ap lp cp) = w7 at Y7H B7H M7H z7 ⊢
          have zm7 := B7H.out.size
          go_wp2
          go_loopw [8] (fun i wi => ∃ (q : Nat) (fq : List Nat), q ≤ k ∧ i = .int .i64 q ∧ Below wo.heap.size wo wi ∧ Box wi MBN 55 #[.slice (some ⟨g, 0, none⟩) L c0, .slice none 0 0, .bool false, .slice none 0 0] ∧ tIntSS.Mine wi [.slice (some ⟨g, 0, none⟩) L c0] (newPD P k q) fq ∧ (∀ b ∈ fq, wo.heap.size ≤ b ∧ b ≠ MBN)) (fun i _ => k - (intOf i).toNat)
          case atStart => exact ⟨0, _, Nat.zero_le _, rfl, B7H.out, Y7H.out, M7H.out, R7H.out⟩
          case round =>
            obtain ⟨q, fq, hq, rfl, bi, yi, mi, ri⟩ := hrel
            have gi := GBR.out.below bi GBR.out.lt
            obtain ⟨q0, q1⟩ := gi.cells
            have zi := bi.size
            have zy := yi.lt
            by_cases hqk : q < k
            · have k3 : (q : Int) < (k : Int) := by omega
              obtain ⟨Q, hQ⟩ : ∃ Q : Nat, 6 + q = Q := ⟨_, rfl⟩
              have hd : dataN (q : Int) = (Q : Int) := by unfold dataN; rw [if_pos (by omega)]; omega
              have bl := new_below wr (.cells #[.int .i64 0] 3)
              have zl : (wr.alloc (.cells #[.int .i64 0] 3)).heap.size = wr.heap.size + 1 := by simp
              have ol := own_ints (Owns.lit .i64 3 wr [0] 1 #[.int .i64 0] rfl rfl (by unfold maxLen; omega))
              obtain ⟨fl, ml, rl⟩ := ol.mine
              have yl := yi.alloc (.cells #[.int .i64 0] 3)
              obtain ⟨⟨old, cOld⟩, fz, hgm, fpA, mA, rA⟩ := row_set1 (j := Q) rfl (mi.alloc (.cells #[.int .i64 0] 3)) (by omega) ml (fun b hb hb' => by have h1 := rl b hb; have h2 := mi.lt b hb'; omega)
              rw [← hQ, newPD_set hqk, hQ] at mA
              have hgr := ri g hgm
              have nMg : ¬ MBN = g := by omega
              have nMg2 : ¬ g = MBN := by omega
              have YN : Hid (Box ((wr.alloc (.cells #[.int .i64 0] 3)).setCell ⟨g, Q, none⟩ (.slice (some ⟨wr.heap.size, 0, none⟩) 1 1)) MBN 55 #[.slice (some ⟨g, 0, none⟩) L c0, .slice none 0 0, .bool false, .slice none 0 0]) := yl.other (by omega) _ _
              have BN : Hid (Below wo.heap.size wo ((wr.alloc (.cells #[.int .i64 0] 3)).setCell ⟨g, Q, none⟩ (.slice (some ⟨wr.heap.size, 0, none⟩) 1 1))) := ((bi.trans (bl.mono zi)).setCell (show wo.heap.size ≤ g by omega) _)
              have RN : Hid (∀ b ∈ fpA, wo.heap.size ≤ b ∧ b ≠ MBN) := fun b hb => by
                rcases rA b hb with h | h
                · exact ri b h
                · have := rl b h; omega
              have MN := hidden mA
              have hS : wr.drew.cell? ⟨MBN, 0, none⟩ = some (.slice (some ⟨g, 0, none⟩) L c0) := yi.cell 0
              have hS1 : (wr.alloc (.cells #[.int .i64 0] 3)).drew.cell? ⟨MBN, 0, none⟩ = some (.slice (some ⟨g, 0, none⟩) L c0) := yl.cell 0
              have i1 : (0 : Int) ≤ (Q : Int) := by omega
              have i2 : (Q : Int) < (L : Int) := by omega
              have i3 : Q < L := by omega
              have HD := hidden hd
              clear mA rA ml rl ol bl yl yi mi ri bi gi hd hQ
              go_wp2_with fail
              refine Late.start (S := fun w' => w'.cell? ⟨MBN, 0, none⟩ = some (.slice (some ⟨g, 0, none⟩) L c0)) (k := 6) (by kernel_rfl) ?_
              refine Late.take (i := 0) (v := ?_) rfl (by kernel_rfl) (by kernel_rfl) (by kernel_rfl) (by kernel_rfl) (fun _ _ _ h => h) (Or.inl ⟨by rfl, ?_⟩) hS ?_
              rotate_left 1
              · (intro w hSw; (try dsimp only at hSw); go_split_ands; go_simp; first | done | with_reducible rfl)
              simp only [Act.put, List.setIfInBounds_toArray, List.set_cons_zero, List.set_cons_succ]
              refine Late.take (i := 1) (v := ?_) rfl (by kernel_rfl) (by kernel_rfl) (by kernel_rfl) (by kernel_rfl) (fun _ _ _ h => h) (Or.inl ⟨by rfl, ?_⟩) hS ?_
              rotate_left 1
              · (intro w hSw; (try dsimp only at hSw); go_split_ands; go_simp; first | done | with_reducible rfl)
              simp only [Act.put, List.setIfInBounds_toArray, List.set_cons_zero, List.set_cons_succ]
              refine Late.take (i := 2) (v := ?_) rfl (by kernel_rfl) (by kernel_rfl) (by kernel_rfl) (by kernel_rfl) (fun _ _ _ h => h) (Or.inl ⟨by rfl, ?_⟩) hS ?_
              rotate_left 1
              · (intro w hSw; (try dsimp only at hSw); go_split_ands; go_simp; first | done | with_reducible rfl)
              simp only [Act.put, List.setIfInBounds_toArray, List.set_cons_zero, List.set_cons_succ]
              refine Late.two (i := 3) (i' := 4) (by kernel_rfl) rfl rfl (fun K hK => ?_) (fun K hK => ?_)
              · go_simp
                refine (specDataAt_any _ _).mono ?_
                rintro e w9 ⟨rfl, h9⟩
                subst h9
                rw [HD.out]
                go_wp2_with fail
                refine hK.out _ _ (fun _ => hS) ?_
                clear hK K
                refine Late.one (i := 4) (by kernel_rfl) rfl (fun K hK => ?_)
                go_simp
                refine hK.out _ _ (fun _ => hS1) ?_
                clear hK K
                refine Late.take (i := 5) (v := ?_) rfl (by kernel_rfl) (by kernel_rfl) (by kernel_rfl) (by kernel_rfl) (fun _ _ _ h => h) (Or.inl ⟨by rfl, ?_⟩) hS1 ?_
                rotate_left 1
                · (intro w hSw; (try dsimp only at hSw); go_split_ands; go_simp; first | done | with_reducible rfl)
                simp only [Act.put, List.setIfInBounds_toArray, List.set_cons_zero, List.set_cons_succ]
                refine Late.one (i := 6) (by kernel_rfl) rfl (fun K hK => ?_)
                go_simp
                refine hK.out _ _ (fun h => absurd rfl h) ?_
                clear hK K
                refine Late.done (by kernel_rfl) ?_ _
                go_wp2
                go_roundw
                case rel => exact ⟨q + 1, fpA, by omega, by go_num, BN.out.drew, YN.out, MN.out, RN.out⟩
                case measure => simp [intOf]; omega
              · go_simp
                refine hK.out _ _ (fun _ => hS1) ?_
                clear hK K
                refine Late.one (i := 3) (by kernel_rfl) rfl (fun K hK => ?_)
                go_simp
                refine (specDataAt_any _ _).mono ?_
                rintro e w9 ⟨rfl, h9⟩
                subst h9
                rw [HD.out]
                go_wp2_with fail
                refine hK.out _ _ (fun _ => hS1) ?_
                clear hK K
                refine Late.take (i := 5) (v := ?_) rfl (by kernel_rfl) (by kernel_rfl) (by kernel_rfl) (by kernel_rfl) (fun _ _ _ h => h) (Or.inl ⟨by rfl, ?_⟩) hS1 ?_
                rotate_left 1
                · (intro w hSw; (try dsimp only at hSw); go_split_ands; go_simp; first | done | with_reducible rfl)
                simp only [Act.put, List.setIfInBounds_toArray, List.set_cons_zero, List.set_cons_succ]
                refine Late.one (i := 6) (by kernel_rfl) rfl (fun K hK => ?_)
                go_simp
                refine hK.out _ _ (fun h => absurd rfl h) ?_
                clear hK K
                refine Late.done (by kernel_rfl) ?_ _
                go_wp2
                go_roundw
                case rel => exact ⟨q + 1, fpA, by omega, by go_num, BN.out.drew, YN.out, MN.out, RN.out⟩
                case measure => simp [intOf]; omega
            · have eq : q = k := by omega
              subst eq
              have om := mem_own3 (E := 116) (f := false) (lo := wo.heap.size) (hi := wr.heap.size) (l1 := wr.heap.size) (u1 := wr.heap.size) (l3 := wr.heap.size) (u3 := wr.heap.size) (mi.own (lo := wo.heap.size) (hi := wr.heap.size) (fun b hb => ⟨(ri b hb).1, mi.lt b hb⟩)) (nil_own _ _ _) (nil_own _ _ _) (.inl (Nat.le_refl _)) (.inl (Nat.le_refl _)) (.inl (Nat.le_refl _)) ⟨Nat.le_refl _, Nat.le_refl _⟩ ⟨zi, Nat.le_refl _⟩ ⟨zi, Nat.le_refl _⟩
              obtain ⟨fpx, mx, rx⟩ := om.mine
              have xoc := XO.out.below bi (by omega)
              obtain ⟨r0, r1, r2, r3, r4, r5, r6, r7, r8, r9, r10, r11, r12⟩ := xoc.cells13
              obtain ⟨y0, y1, y2, y3⟩ := yi.cells4
              have XOC := hidden xoc
              have MX := hidden mx
              have RX := hidden rx
              have HBC := hidden bi
              have zB : (wr.alloc (.cells #[.slice (some ⟨g, 0, none⟩) L c0, .slice none 0 0, .bool false, .slice none 0 0] 55)).heap.size = wr.heap.size + 1 := by simp
              clear xoc mx rx om yi mi ri gi bi
              go_wp2_with (at_builtin; refine wpList_appT (tMem 116) rfl _ _ 25 rfl 55 i4 (.agg #[.slice none 0 0, .slice none 0 0, .bool false, .slice none 0 0]) 80 Try.underlying25 hi4 hz0 hz1 hz2 rfl (by decide) v0 (newMS id (N : Int) (q : Int) j) fp0 rfl ?_ ⟨wr.heap.size, 0, none⟩ 1 [.slice (some ⟨g, 0, none⟩) L c0, .slice none 0 0, .bool false, .slice none 0 0] (newPD P q q, [], false, []) fpx rfl ?_ ?_ ?_ ?_ ?_ ?_ ?_; exact (HM.out.below HBC.out).alloc _; exact MX.out.alloc _; (intro b hb hb'; have h1 := HM.out.lt b hb; have h2 := RX.out b hb'; omega); exact news_new _ _ _; (intro u hu; simp at hu; rcases hu with hu | hu | hu | hu <;> (rw [hu]; rfl)); exact L1.out; exact L2.out; intro v9 wA fpA m1 m2 m3; rw [← HTK.out] at m1; obtain ⟨ea, ca, hv9⟩ := row_shape m1.rd; rw [newMS_len] at hv9; subst hv9; have ya := (XOC.out.alloc (.cells #[.slice (some ⟨g, 0, none⟩) L c0, .slice none 0 0, .bool false, .slice none 0 0] 55)).turned m3 (fun hm => by have := HFP.out _ hm; omega); have rr3 : wA.cell? ⟨BO, 3, none⟩ = some v0 := ya.cell 3; have fz := ya.frozen 3; have YA := hidden ya; have M1 := hidden m1; have M2 := hidden m2; have M3 := hidden m3; clear ya m1 m2 m3)
              have HFA := hidden (round_fp (N := LB) zLw HBC.out HFP.out RX.out M2.out)
              have FRA := hidden (Fr.round FRR.out zLw HBC.out _ M3.out HFP.out 3 (.slice ea (j + 1) ca))
              have MA := hidden (M1.out.setCell (g := BO) (j := 3) (fun hm => by have := HFA.out _ hm; omega) (.slice ea (j + 1) ca))
              have YA' := hidden (YA.out.set 3 (.slice ea (j + 1) ca))
              go_roundw
              case rel => exact ⟨j + 1, _, fpA, by omega, by go_num, FRA.out, YA'.out, MA.out, HFA.out⟩
              case measure => simp [intOf]; omega
        · have ej : j = N := by omega
          subst ej
          have hlt := hm.lt
          obtain ⟨eM, gM, hvM⟩ := row_shape hm.rd
          rw [newMS_len] at hvM
          subst hvM
          have KM := hm.own (lo := LB) (hi := wo.heap.size) (fun b hb => ⟨hfp b hb, hlt b hb⟩)
          have xr := fr.box XR2.out (by omega) (by omega)
          have hbt := puts_but (w.heap.size + 1) [(0, .int .i64 id), (1, .int .i64 (j : Int)), (2, .int .i64 (k : Int)), (3, .slice eM j gM), (4, .int .i64 (-1)), (5, .int .i64 0), (6, .int .i64 0), (7, .int .i64 0), (8, .int .i64 0), (9, .slice none 0 0), (10, .int .i64 (-1)), (11, .bool false), (12, .bool false)] wo
          have hsz := hbt.size
          have FO := hidden ((KM.but hbt (.inr (by omega))).widen (lo' := w.heap.size) (by omega) hsz)
          have FB := hidden (Below.andBut hb hbt (by omega))
          simp only [puts] at FO FB
          obtain ⟨p0, p1, p2, p3, p4, p5, p6, p7, p8, p9, p10, p11, p12⟩ := xr.cells13
          have fz := xr.frozen
          obtain ⟨r0, r1, r2, r3, r4, r5, r6, r7, r8, r9, r10, r11, r12⟩ := xo.cells13
          clear fr xo hb hm hfp hlt xr KM hbt hsz gb hj hs
          go_wp2
          refine bodyPost_ret (v := .agg #[.int .i64 id, .int .i64 (j : Int), .int .i64 (k : Int), .slice eM j gM, .int .i64 (-1), .int .i64 0, .int .i64 0, .int .i64 0, .int .i64 0, .slice none 0 0, .int .i64 (-1), .bool false, .bool false]) (by simp [results, Try.results8, go_sem, p0, p1, p2, p3, p4, p5, p6, p7, p8, p9, p10, p11, p12]) rfl ?_
          have hnl : (newMS id (j : Int) (k : Int) (j : Int).toNat).length = j := by rw [newMS_len]; simp
          exact ⟨eM, gM, by rw [HY.out.1, HY.out.2, hnl], by rw [HY.out.2, hnl, Int.toNat_natCast]; exact FO.out, FB.out⟩

end Go.Proofs.Ytccokaicipldcaa

/-
  The walk of the laws' mark over an array: its disks and stripes are marked in place. Condition: it weighs at most 2097152.
-/
namespace Go.Proofs.Ytccokaicipldcaa
open Go.RowKit

set_option maxHeartbeats 1600000 in
theorem markArr_own (w : World) (lo m hi : Nat) (x : ArrN) (bm bd : Option Addr) (nm cm nd cd : Nat) (ms : List MemD) (ds : List (Int × List Int)) (h0 : (tMemS 116 55).Own w lo m [.slice bm nm cm] ms) (h1 : (tWrS 90).Own w m hi [.slice bd nd cd] ds) (hlm : lo ≤ m) (hmh : m ≤ hi) (hhi : hi ≤ w.heap.size) (hw : wtArr ms ds ≤ 2097152) :
    Calls Try.prog 12 #[.agg #[.int .i64 x.id, .int .i64 x.n, .int .i64 x.s, .slice bm nm cm, .int .i64 x.lost, .int .i64 x.built, .int .i64 x.seq, .int .i64 x.tail, .int .i64 x.gen, .slice bd nd cd, .int .i64 x.fuse, .bool x.down, .bool x.broken], .int .i64 1] w fun e w' => e = .returned (.int .i64 (1 + (cntMS ms : Int) + (cntWS ds : Int))) ∧ (tMemS 116 55).Own w' lo m [.slice bm nm cm] (markMS 1 ms) ∧ (tWrS 90).Own w' m hi [.slice bd nd cd] (markW (1 + (cntMS ms : Int)) ds) ∧ But lo hi w w' := by
  have hw0 : wtMemS ms ≤ 2097152 := by unfold wtArr at hw; omega
  have hw1 : wtWrS ds ≤ 2097152 := by unfold wtArr at hw; omega
  have hcm := cntMS_le ms
  have hA := new_below w (.cells #[.int .i64 x.id, .int .i64 x.n, .int .i64 x.s, .slice bm nm cm, .int .i64 x.lost, .int .i64 x.built, .int .i64 x.seq, .int .i64 x.tail, .int .i64 x.gen, .slice bd nd cd, .int .i64 x.fuse, .bool x.down, .bool x.broken] 28)
  have A := Box.new w 28 #[.int .i64 x.id, .int .i64 x.n, .int .i64 x.s, .slice bm nm cm, .int .i64 x.lost, .int .i64 x.built, .int .i64 x.seq, .int .i64 x.tail, .int .i64 x.gen, .slice bd nd cd, .int .i64 x.fuse, .bool x.down, .bool x.broken]
  obtain ⟨k0, k1, k2, k3, k4, k5, k6, k7, k8, k9, k10, k11, k12⟩ := A.cells13
  have o0 := h0.below hA
  have o1 := h1.below hA
  have zA := A.lt
  go_enter Try.func12, Try.ntmps12
  go_wp2_with fail
  generalize w.alloc (.cells #[.int .i64 x.id, .int .i64 x.n, .int .i64 x.s, .slice bm nm cm, .int .i64 x.lost, .int .i64 x.built, .int .i64 x.seq, .int .i64 x.tail, .int .i64 x.gen, .slice bd nd cd, .int .i64 x.fuse, .bool x.down, .bool x.broken] 28) = W at hA A o0 o1 zA k0 k1 k2 k3 k4 k5 k6 k7 k8 k9 k10 k11 k12 ⊢
  obtain ⟨f0, m0, r0⟩ := o0.mine
  refine (markMemS_fp _ _ _ _ ms 1 f0 m0 hw0 (by omega) (by omega)).mono ?_
  rintro e w1 ⟨rfl, p0, t1⟩
  have hb1 := t1.but (lo := lo) (hi := m) r0
  have q0 := p0.own r0
  have q1 := o1.but hb1 (.inr (Nat.le_refl _))
  have A1 := A.kept (hb1.block _ zA (by omega))
  have B1 := (But.of_below (lo := lo) (hi := hi) hA).trans ⟨hb1.os, hb1.tape, hb1.output, hb1.size, fun k hk ho => hb1.block k hk (by omega)⟩
  clear k0 k1 k2 k3 k4 k5 k6 k7 k8 k9 k10 k11 k12 A hb1 t1 p0 m0 o0 o1 hA
  obtain ⟨k0, k1, k2, k3, k4, k5, k6, k7, k8, k9, k10, k11, k12⟩ := A1.cells13
  obtain ⟨f1, m1, r1⟩ := q1.mine
  have hwa : (wtMemS ms : Int) + (wtWrS ds : Int) ≤ 2097152 := by unfold wtArr at hw; omega
  go_wp2_with fail
  refine (markEntS_fp _ _ _ _ ds (1 + (cntMS ms : Int)) f1 m1 hw1 (by omega) (by omega)).mono ?_
  rintro e w2 ⟨rfl, p1, t2⟩
  have hb2 := t2.but (lo := m) (hi := hi) r1
  have s1 := hidden (p1.own r1)
  have s0 := hidden (q0.but hb2 (.inl (Nat.le_refl _)))
  have B2 := hidden (B1.trans ⟨hb2.os, hb2.tape, hb2.output, hb2.size, fun k hk ho => hb2.block k hk (by omega)⟩)
  clear k0 k1 k2 k3 k4 k5 k6 k7 k8 k9 k10 k11 k12 A1 hb2 t2 p1 m1 q0 q1 B1
  go_wp2
  go_ret
  exact ⟨rfl, s0.out, s1.out, B2.out⟩

end Go.Proofs.Ytccokaicipldcaa

/-
  The walks of the laws' helpers that ask whether the marks of an array's disks, and of the array, are held. Conditions: it weighs at most 2097152, the marks from 0 on to 2097153.
-/
namespace Go.Proofs.Ytccokaicipldcaa
open Go.RowKit

set_option maxRecDepth 20000 in
set_option maxHeartbeats 1600000 in
theorem heldMemS_any (w : World) (E F : TypeId) (a : Option Addr) (n cap : Nat) (d : List MemD) (k0 : Int) (h : (tMemS E F).Rd w [.slice a n cap] (markMS k0 d)) (hw : wtMemS d ≤ 2097152) (hk : 0 ≤ k0) (hk' : k0 + (wtMemS d : Int) ≤ 2097153) :
    Calls Try.prog 41 #[.slice a n cap, .int .i64 k0] w fun e w' => e = .returned (.int .i64 (k0 + (cntMS d : Int))) ∧ Same w w' := by
  obtain ⟨hl, hc, hm⟩ := row_length h
  have hmL : (markMS k0 d).length = d.length := markL_length _ _ _ _
  rw [hmL] at hl
  have hnn : n ≤ 2097152 := by unfold wtMemS at hw; omega
  have hwt := cntMS_le d
  go_enter Try.func41, Try.ntmps41
  go_wp2
  go_loopw [1, 5] (fun kk i wr => ∃ j : Nat, j ≤ n ∧ i = .int .i64 j ∧ kk = .int .i64 (k0 + (sumL ((d.map cntMD).take j) : Int)) ∧ Same w wr) (fun _ i _ => n - (intOf i).toNat)
  case atStart => exact ⟨0, Nat.zero_le _, rfl, by simp [sumL], Same.refl _⟩
  case round =>
    obtain ⟨j, hj, rfl, rfl, hs⟩ := hrel
    by_cases hjn : j < n
    · have hdj : d[j]? = some (d[j]'(by omega)) := List.getElem?_eq_getElem (by omega)
      generalize d[j]'(by omega) = x at hdj
      have hst := sumL_take (l := d.map cntMD) (j := j) (x := cntMD x) (by rw [List.getElem?_map, hdj]; rfl)
      have hle := sumL_le (l := d.map cntMD) (j + 1)
      have hin := Nat.le_trans (inner_leM hdj) hw
      unfold cntMS at hwt
      have hmj := markL_at (c := cntMD) (mk := markMD) (k := k0) hdj
      have HW := hidden hst
      generalize sumL ((d.map cntMD).take j) = S at hst hmj HW
      rcases quads_at rfl h with h0' | ⟨b, off, rfl, hbl, hcs⟩
      · omega
      obtain ⟨v0, v1, v2, v3, hv0, hv1, hv2, hv3, hrv⟩ := hcs j _ hmj
      obtain ⟨ss, cs, f, bs⟩ := x
      obtain ⟨a0, c0, a1, c1, a3, c3, ss', cs', f', bs', hx, rfl, rfl, rfl, rfl, r0, r1, r3⟩ := mem_at hrv
      have hcx : cntMD (ss, cs, f, bs) = cntSS ss + cntWS cs + 1 + bs.length := rfl
      have hin0 : wtIntSS ss ≤ 2097152 := by unfold wtMem at hin; simp only at hin; omega
      have hin1 : wtWrS cs ≤ 2097152 := by unfold wtMem at hin; simp only at hin; omega
      have hin3 : bs.length ≤ 2097152 := by unfold wtMem at hin; simp only at hin; omega
      have hcw := Nat.le_of_eq (cntWS_wt cs)
      have hcw' := Nat.le_of_eq (cntWS_wt cs).symm
      have hS : k0 + (S : Int) + (cntSS ss : Int) + (cntWS cs : Int) + 1 + (bs.length : Int) ≤ 2097153 := by omega
      unfold markMD at hx
      simp only [Prod.mk.injEq] at hx
      obtain ⟨e0, e1, e2, e3⟩ := hx
      subst e0
      subst e1
      subst e3
      rw [marks_length] at hv3 r3
      have w0 := (hs.cell _).trans hv0
      have w1 := (hs.cell _).trans hv1
      have w2 := (hs.cell _).trans hv2
      have w3 := (hs.cell _).trans hv3
      have HE2 := hidden e2
      have i1 : (0 : Int) ≤ (j : Int) := by omega
      have i2 : (j : Int) < (n : Int) := by omega
      have R0 := r0.same hs
      have R1 := r1.same hs
      have R3 := r3.same hs
      clear hcs hst hdj hv0 hv1 hv2 hv3 hrv hmj e2 r0 r1 r3
      go_wp2_with fail
      refine (heldIntSS_any _ _ _ _ ss _ R0 hin0 (by omega) (by omega)).mono ?_
      rintro e u1 ⟨rfl, s1⟩
      have w1' := (s1.cell _).trans w1
      have w2' := (s1.cell _).trans w2
      have w3' := (s1.cell _).trans w3
      have R1' := R1.same s1
      have R3' := R3.same s1
      clear w0 w1 w2 w3 R0 R1 R3
      have p1 : ¬ k0 + (S : Int) + (cntSS ss : Int) < 0 := by omega
      go_wp2_with fail
      refine (heldWrS_any _ E _ _ _ cs _ R1' hin1 (by omega) (by omega)).mono ?_
      rintro e u2 ⟨rfl, s2⟩
      have w2 := (s2.cell _).trans w2'
      have w3 := (s2.cell _).trans w3'
      have R3 := ints_rd (R3'.same s2)
      clear w1' w2' w3' R1' R3'
      have hK : 0 ≤ k0 + (S : Int) + (cntSS ss : Int) + (cntWS cs : Int) ∧ k0 + (S : Int) + (cntSS ss : Int) + (cntWS cs : Int) ≤ 2097153 := by omega
      have HKK : Hid (k0 + (S : Int) + (cntSS ss : Int) + (cntWS cs : Int) + 1 + (bs.length : Int) = k0 + ((S + cntMD (ss, cs, f, bs) : Nat) : Int)) := by unfold Hid; rw [hcx]; omega
      generalize hKd : k0 + (S : Int) + (cntSS ss : Int) + (cntWS cs : Int) = K at hK HKK HE2 R3 hS ⊢
      clear hKd
      have p2 : ¬ K < 0 := by omega
      have t1 : K.tmod 3 = K % 3 := Int.tmod_eq_emod_of_nonneg hK.1
      have t2 : IntKind.i64.wrap (K % 3) = K % 3 := IntWalk.i64_in _ (by omega)
      have t3 : IntKind.i64.wrap (K + 1) = K + 1 := IntWalk.i64_in _ (by omega)
      have p3 : ¬ K + 1 + (bs.length : Int) < 0 := by omega
      have t4 : f' = (K % 3 == 0) := by rw [← HE2.out]; rfl
      have t5 : ((K % 3 == 0) != (K % 3 == 0)) = false := by simp
      have t6 : ((K % 3 == 0) == (K % 3 == 0)) = true := by simp
      subst t4
      clear HE2
      go_wp2_with fail
      refine (heldIntS_any _ _ _ _ _ R3.1 (by omega) (by omega) (by omega)).mono ?_
      rintro e u3 ⟨rfl, s3⟩
      have HS := hidden (((hs.trans s1).trans s2).trans s3)
      clear s1 s2 s3 hs R3 w2 w3
      go_wp2
      go_roundw
      case rel => exact ⟨j + 1, by omega, by go_num, by rw [HW.out, HKK.out], HS.out⟩
      case measure => simp [intOf]; omega
    · have ej : j = n := by omega
      subst ej
      have ht : (d.map cntMD).take j = d.map cntMD := List.take_of_length_le (by simp; omega)
      have HT : Hid (k0 + (sumL ((d.map cntMD).take j) : Int) = k0 + (cntMS d : Int)) := by unfold Hid cntMS; rw [ht]
      clear ht
      go_wp2
      go_ret
      exact ⟨ret_int HT.out, hs⟩

set_option maxRecDepth 20000 in
set_option maxHeartbeats 1600000 in
theorem heldArr_any (w : World) (E F G : TypeId) (x : ArrN) (bm bd : Option Addr) (nm cm nd cd : Nat) (ms : List MemD) (ds : List (Int × List Int)) (h0 : (tMemS E F).Rd w [.slice bm nm cm] (markMS 1 ms)) (h1 : (tWrS G).Rd w [.slice bd nd cd] (markW (1 + (cntMS ms : Int)) ds)) (hw : wtArr ms ds ≤ 2097152) :
    Calls Try.prog 13 #[.agg #[.int .i64 x.id, .int .i64 x.n, .int .i64 x.s, .slice bm nm cm, .int .i64 x.lost, .int .i64 x.built, .int .i64 x.seq, .int .i64 x.tail, .int .i64 x.gen, .slice bd nd cd, .int .i64 x.fuse, .bool x.down, .bool x.broken], .int .i64 1] w fun e w' => e = .returned (.int .i64 (1 + (cntMS ms : Int) + (cntWS ds : Int))) ∧ Below w.heap.size w w' := by
  have hw0 : wtMemS ms ≤ 2097152 := by unfold wtArr at hw; omega
  have hw1 : wtWrS ds ≤ 2097152 := by unfold wtArr at hw; omega
  have hws : wtMemS ms + wtWrS ds ≤ 2097152 := by unfold wtArr at hw; omega
  have hcm := cntMS_le ms
  have hA := new_below w (.cells #[.int .i64 x.id, .int .i64 x.n, .int .i64 x.s, .slice bm nm cm, .int .i64 x.lost, .int .i64 x.built, .int .i64 x.seq, .int .i64 x.tail, .int .i64 x.gen, .slice bd nd cd, .int .i64 x.fuse, .bool x.down, .bool x.broken] 28)
  have X := Box.new w 28 #[.int .i64 x.id, .int .i64 x.n, .int .i64 x.s, .slice bm nm cm, .int .i64 x.lost, .int .i64 x.built, .int .i64 x.seq, .int .i64 x.tail, .int .i64 x.gen, .slice bd nd cd, .int .i64 x.fuse, .bool x.down, .bool x.broken]
  obtain ⟨k0, k1, k2, k3, k4, k5, k6, k7, k8, k9, k10, k11, k12⟩ := X.cells13
  have r0 := h0.below hA
  have r1 := h1.below hA
  go_enter Try.func13, Try.ntmps13
  go_wp2_with fail
  generalize w.alloc (.cells #[.int .i64 x.id, .int .i64 x.n, .int .i64 x.s, .slice bm nm cm, .int .i64 x.lost, .int .i64 x.built, .int .i64 x.seq, .int .i64 x.tail, .int .i64 x.gen, .slice bd nd cd, .int .i64 x.fuse, .bool x.down, .bool x.broken] 28) = W at hA X r0 r1 k0 k1 k2 k3 k4 k5 k6 k7 k8 k9 k10 k11 k12 ⊢
  refine (heldMemS_any _ E F _ _ _ ms _ r0 hw0 (by omega) (by omega)).mono ?_
  rintro e w1 ⟨rfl, s1⟩
  have X1 := X.same s1
  have r2 := r1.same s1
  have B1 := Below.andSame hA s1
  clear k0 k1 k2 k3 k4 k5 k6 k7 k8 k9 k10 k11 k12 X r0 r1 s1 hA
  obtain ⟨k0, k1, k2, k3, k4, k5, k6, k7, k8, k9, k10, k11, k12⟩ := X1.cells13
  have p1 : ¬ 1 + (cntMS ms : Int) < 0 := by omega
  go_wp2_with fail
  refine (heldEntS_any _ G _ _ _ ds _ r2 hw1 (by omega) (by omega)).mono ?_
  rintro e w2 ⟨rfl, s2⟩
  have B2 := Below.andSame B1 s2
  have p2 : ¬ 1 + (cntMS ms : Int) + (cntWS ds : Int) < 0 := by omega
  clear k0 k1 k2 k3 k4 k5 k6 k7 k8 k9 k10 k11 k12 X1 r2 s2 B1
  go_wp2
  go_ret
  exact ⟨rfl, B2⟩

end Go.Proofs.Ytccokaicipldcaa

/-
  The walk of the exact law of ArrNew: at every number and every Geo it answers true, and nothing that was there has turned. No condition.
-/
namespace Go.Proofs.Ytccokaicipldcaa
open Go.RowKit

theorem Gbox.kept {w w' : World} {B : Nat} {T : TypeId} {n s : Int} (h : Gbox w B T n s) (hk : w'.heap[B]? = w.heap[B]?) : Gbox w' B T n s := hk.trans h

set_option linter.unusedSimpArgs false in
set_option maxRecDepth 20000 in
set_option maxHeartbeats 4000000 in
theorem fnExactArrNew_walk (id n s : Int) (w : World) :
    Calls Try.prog 3 #[.int .i64 id, .agg #[.int .i64 n, .int .i64 s]] w fun e w' => e = .returned (.bool true) ∧ Below w.heap.size w w' := by
  have hwt := newAM_wt id n s
  obtain ⟨x, ms, hsp, him, hwt2⟩ : ∃ (x : ArrN) (ms : List MemD), (∀ w : World, Calls Try.prog 8 #[.int .i64 id, .agg #[.int .i64 n, .int .i64 s]] w fun e w' => ∃ am cm, e = .returned (.agg #[.int .i64 x.id, .int .i64 x.n, .int .i64 x.s, .slice am ms.length cm, .int .i64 x.lost, .int .i64 x.built, .int .i64 x.seq, .int .i64 x.tail, .int .i64 x.gen, .slice none 0 0, .int .i64 x.fuse, .bool x.down, .bool x.broken]) ∧ (tMemS 116 55).Own w' w.heap.size w'.heap.size [.slice am ms.length cm] ms ∧ Below w.heap.size w w') ∧ (∀ w : World, Calls Try.prog 10 #[.int .i64 id, .agg #[.int .i64 n, .int .i64 s]] w fun e w' => ∃ am cm, e = .returned (.agg #[.int .i64 x.id, .int .i64 x.n, .int .i64 x.s, .slice am ms.length cm, .int .i64 x.lost, .int .i64 x.built, .int .i64 x.seq, .int .i64 x.tail, .int .i64 x.gen, .slice none 0 0, .int .i64 x.fuse, .bool x.down, .bool x.broken]) ∧ (tMemS 116 55).Own w' w.heap.size w'.heap.size [.slice am ms.length cm] ms ∧ Below w.heap.size w w') ∧ wtArr ms [] ≤ 2097152 :=
    ⟨newX id n s, newAM id n s, fun w => specArrNew_any w id n s, fun w => implArrNew_any w id n s, hwt⟩
  have HSP := hidden hsp
  have HIM := hidden him
  clear hsp him hwt
  have hA := new_below w (.cells #[.int .i64 n, .int .i64 s] 23)
  have X := Gbox.new w 23 n s
  have z0 := X.lt
  have B0 := hidden hA
  have GG0 := hidden X
  obtain ⟨l0, l1⟩ := X.cells
  go_enter Try.func3, Try.ntmps3
  go_wp2_with fail
  generalize w.alloc (.cells #[.int .i64 n, .int .i64 s] 23) = w0 at hA X z0 B0 GG0 l0 l1 ⊢
  clear hA X
  refine (toGeo_any _ _ _).mono ?_
  rintro e w1 ⟨rfl, hb1⟩
  clear l0 l1
  have B1 := hidden (Below.andThen B0.out hb1)
  have GG1 := hidden (GG0.out.below hb1 (by omega))
  have z1 := hb1.size
  clear B0 GG0 hb1
  go_wp2_with fail
  refine (HSP.out _).mono ?_
  rintro e w2 ⟨a2, c2, rfl, o2, hb2⟩
  have B2 := hidden (Below.andThen B1.out hb2)
  have GG2 := hidden (GG1.out.below hb2 (by omega))
  have z2 := hb2.size
  clear B1 GG1 hb2
  have W2 := hidden o2
  clear o2
  have ba : Below w2.heap.size w2 (w2.alloc (.cells #[.int .i64 x.id, .int .i64 x.n, .int .i64 x.s, .slice a2 ms.length c2, .int .i64 x.lost, .int .i64 x.built, .int .i64 x.seq, .int .i64 x.tail, .int .i64 x.gen, .slice none 0 0, .int .i64 x.fuse, .bool x.down, .bool x.broken] 28)) := (Below.refl _ _).alloc (Nat.le_refl _) _
  have xb := Box.new w2 28 #[.int .i64 x.id, .int .i64 x.n, .int .i64 x.s, .slice a2 ms.length c2, .int .i64 x.lost, .int .i64 x.built, .int .i64 x.seq, .int .i64 x.tail, .int .i64 x.gen, .slice none 0 0, .int .i64 x.fuse, .bool x.down, .bool x.broken]
  have zx3 := xb.lt
  have B3 := hidden (Below.andThen B2.out ba)
  have GG3 := hidden (GG2.out.below ba (by omega))
  have W3 := hidden (W2.out.below ba)
  have z3 := ba.size
  clear B2 GG2 W2 ba
  have WB3 := hidden xb
  clear xb
  obtain ⟨l0, l1⟩ := GG3.out.cells
  go_wp2_with fail
  generalize w2.alloc (.cells #[.int .i64 x.id, .int .i64 x.n, .int .i64 x.s, .slice a2 ms.length c2, .int .i64 x.lost, .int .i64 x.built, .int .i64 x.seq, .int .i64 x.tail, .int .i64 x.gen, .slice none 0 0, .int .i64 x.fuse, .bool x.down, .bool x.broken] 28) = w3 at B3 GG3 W3 WB3 z3 zx3 l0 l1 ⊢
  refine (toGeo_any _ _ _).mono ?_
  rintro e w4 ⟨rfl, hb4⟩
  clear l0 l1
  have B4 := hidden (Below.andThen B3.out hb4)
  have GG4 := hidden (GG3.out.below hb4 (by omega))
  have W4 := hidden (W3.out.below hb4)
  have WB4 := hidden (WB3.out.below hb4 (by omega))
  have z4 := hb4.size
  clear B3 GG3 W3 WB3 hb4
  go_wp2_with fail
  refine (HIM.out _).mono ?_
  rintro e w5 ⟨a5, c5, rfl, o5, hb5⟩
  have B5 := hidden (Below.andThen B4.out hb5)
  have GG5 := hidden (GG4.out.below hb5 (by omega))
  have W5 := hidden (W4.out.below hb5)
  have WB5 := hidden (WB4.out.below hb5 (by omega))
  have z5 := hb5.size
  clear B4 GG4 W4 WB4 hb5
  have G5 := hidden o5
  clear o5
  have ba : Below w5.heap.size w5 (w5.alloc (.cells #[.int .i64 x.id, .int .i64 x.n, .int .i64 x.s, .slice a5 ms.length c5, .int .i64 x.lost, .int .i64 x.built, .int .i64 x.seq, .int .i64 x.tail, .int .i64 x.gen, .slice none 0 0, .int .i64 x.fuse, .bool x.down, .bool x.broken] 28)) := (Below.refl _ _).alloc (Nat.le_refl _) _
  have xb := Box.new w5 28 #[.int .i64 x.id, .int .i64 x.n, .int .i64 x.s, .slice a5 ms.length c5, .int .i64 x.lost, .int .i64 x.built, .int .i64 x.seq, .int .i64 x.tail, .int .i64 x.gen, .slice none 0 0, .int .i64 x.fuse, .bool x.down, .bool x.broken]
  have zx6 := xb.lt
  have B6 := hidden (Below.andThen B5.out ba)
  have GG6 := hidden (GG5.out.below ba (by omega))
  have W6 := hidden (W5.out.below ba)
  have WB6 := hidden (WB5.out.below ba (by omega))
  have G6 := hidden (G5.out.below ba)
  have z6 := ba.size
  clear B5 GG5 W5 WB5 G5 ba
  have GB6 := hidden xb
  clear xb
  obtain ⟨p0, p1, p2, p3, p4, p5, p6, p7, p8, p9, p10, p11, p12⟩ := GB6.out.cells13
  obtain ⟨q0, q1, q2, q3, q4, q5, q6, q7, q8, q9, q10, q11, q12⟩ := WB6.out.cells13
  go_wp2_with fail
  generalize w5.alloc (.cells #[.int .i64 x.id, .int .i64 x.n, .int .i64 x.s, .slice a5 ms.length c5, .int .i64 x.lost, .int .i64 x.built, .int .i64 x.seq, .int .i64 x.tail, .int .i64 x.gen, .slice none 0 0, .int .i64 x.fuse, .bool x.down, .bool x.broken] 28) = w6 at B6 GG6 W6 WB6 G6 GB6 z6 zx6 p0 p1 p2 p3 p4 p5 p6 p7 p8 p9 p10 p11 p12 q0 q1 q2 q3 q4 q5 q6 q7 q8 q9 q10 q11 q12 ⊢
  refine (eqArr_same _ 116 116 55 55 90 90 x _ _ _ _ _ _ _ _ _ _ _ _ ms [] G6.out.rd (nil_own _ 0 0).rd W6.out.rd (nil_own _ 0 0).rd hwt2).mono ?_
  rintro e w7 ⟨rfl, hb7⟩
  clear p0 p1 p2 p3 p4 p5 p6 p7 p8 p9 p10 p11 p12 q0 q1 q2 q3 q4 q5 q6 q7 q8 q9 q10 q11 q12
  have B7 := hidden (Below.andThen B6.out hb7)
  have GG7 := hidden (GG6.out.below hb7 (by omega))
  have W7 := hidden (W6.out.below hb7)
  have WB7 := hidden (WB6.out.below hb7 (by omega))
  have G7 := hidden (G6.out.below hb7)
  have GB7 := hidden (GB6.out.below hb7 (by omega))
  have z7 := hb7.size
  clear B6 GG6 W6 WB6 G6 GB6 hb7
  obtain ⟨p0, p1, p2, p3, p4, p5, p6, p7, p8, p9, p10, p11, p12⟩ := GB7.out.cells13
  go_wp2_with fail
  refine (markArr_own _ w4.heap.size w5.heap.size w5.heap.size x _ _ _ _ _ _ ms [] G7.out (nil_own _ _ _) z5 (Nat.le_refl _) (by omega) hwt2).mono ?_
  rintro e w8 ⟨rfl, om8, od8, hb8⟩
  clear p0 p1 p2 p3 p4 p5 p6 p7 p8 p9 p10 p11 p12
  clear G7
  have B8 := hidden (Below.andBut B7.out hb8 (by omega))
  have GG8 := hidden (GG7.out.kept (hb8.block _ (by omega) (by omega)))
  have W8 := hidden (W7.out.but hb8 (by omega))
  have WB8 := hidden (WB7.out.kept (hb8.block _ (by omega) (by omega)))
  have GB8 := hidden (GB7.out.kept (hb8.block _ (by omega) (by omega)))
  have z8 := hb8.size
  clear B7 GG7 W7 WB7 GB7 hb8
  have G8 := hidden om8
  have D8 := hidden od8
  clear om8 od8
  obtain ⟨p0, p1, p2, p3, p4, p5, p6, p7, p8, p9, p10, p11, p12⟩ := GB8.out.cells13
  go_wp2_with fail
  refine (heldArr_any _ 116 55 90 x _ _ _ _ _ _ ms [] G8.out.rd D8.out.rd hwt2).mono ?_
  rintro e w9 ⟨rfl, hb9⟩
  clear p0 p1 p2 p3 p4 p5 p6 p7 p8 p9 p10 p11 p12
  have B9 := hidden (Below.andThen B8.out hb9)
  have GG9 := hidden (GG8.out.below hb9 (by omega))
  have W9 := hidden (W8.out.below hb9)
  have WB9 := hidden (WB8.out.below hb9 (by omega))
  have GB9 := hidden (GB8.out.below hb9 (by omega))
  have G9 := hidden (G8.out.below hb9)
  have D9 := hidden (D8.out.below hb9)
  have z9 := hb9.size
  clear B8 GG8 W8 WB8 GB8 G8 D8 hb9
  have hcn : (0 : Int) ≤ 1 + (cntMS ms : Int) + (cntWS [] : Int) := by omega
  generalize hCN : 1 + (cntMS ms : Int) + (cntWS [] : Int) = cn at hcn ⊢
  have HCN := hidden hCN
  clear hCN
  obtain ⟨l0, l1⟩ := GG9.out.cells
  go_wp2_with fail
  refine (toGeo_any _ _ _).mono ?_
  rintro e w10 ⟨rfl, hb10⟩
  clear l0 l1
  have B10 := hidden (Below.andThen B9.out hb10)
  have GG10 := hidden (GG9.out.below hb10 (by omega))
  have W10 := hidden (W9.out.below hb10)
  have WB10 := hidden (WB9.out.below hb10 (by omega))
  have GB10 := hidden (GB9.out.below hb10 (by omega))
  have G10 := hidden (G9.out.below hb10)
  have D10 := hidden (D9.out.below hb10)
  have z10 := hb10.size
  clear B9 GG9 W9 WB9 GB9 G9 D9 hb10
  go_wp2_with fail
  refine (HIM.out _).mono ?_
  rintro e w11 ⟨a11, c11, rfl, o11, hb11⟩
  have B11 := hidden (Below.andThen B10.out hb11)
  have GG11 := hidden (GG10.out.below hb11 (by omega))
  have W11 := hidden (W10.out.below hb11)
  have WB11 := hidden (WB10.out.below hb11 (by omega))
  have GB11 := hidden (GB10.out.below hb11 (by omega))
  have G11 := hidden (G10.out.below hb11)
  have D11 := hidden (D10.out.below hb11)
  have z11 := hb11.size
  clear B10 GG10 W10 WB10 GB10 G10 D10 hb11
  have H11 := hidden o11
  clear o11
  have ba : Below w11.heap.size w11 (w11.alloc (.cells #[.int .i64 x.id, .int .i64 x.n, .int .i64 x.s, .slice a11 ms.length c11, .int .i64 x.lost, .int .i64 x.built, .int .i64 x.seq, .int .i64 x.tail, .int .i64 x.gen, .slice none 0 0, .int .i64 x.fuse, .bool x.down, .bool x.broken] 28)) := (Below.refl _ _).alloc (Nat.le_refl _) _
  have xb := Box.new w11 28 #[.int .i64 x.id, .int .i64 x.n, .int .i64 x.s, .slice a11 ms.length c11, .int .i64 x.lost, .int .i64 x.built, .int .i64 x.seq, .int .i64 x.tail, .int .i64 x.gen, .slice none 0 0, .int .i64 x.fuse, .bool x.down, .bool x.broken]
  have zx12 := xb.lt
  have B12 := hidden (Below.andThen B11.out ba)
  have GG12 := hidden (GG11.out.below ba (by omega))
  have W12 := hidden (W11.out.below ba)
  have WB12 := hidden (WB11.out.below ba (by omega))
  have GB12 := hidden (GB11.out.below ba (by omega))
  have G12 := hidden (G11.out.below ba)
  have D12 := hidden (D11.out.below ba)
  have H12 := hidden (H11.out.below ba)
  have z12 := ba.size
  clear B11 GG11 W11 WB11 GB11 G11 D11 H11 ba
  have HB12 := hidden xb
  clear xb
  obtain ⟨p0, p1, p2, p3, p4, p5, p6, p7, p8, p9, p10, p11, p12⟩ := HB12.out.cells13
  obtain ⟨q0, q1, q2, q3, q4, q5, q6, q7, q8, q9, q10, q11, q12⟩ := WB12.out.cells13
  go_wp2_with fail
  generalize w11.alloc (.cells #[.int .i64 x.id, .int .i64 x.n, .int .i64 x.s, .slice a11 ms.length c11, .int .i64 x.lost, .int .i64 x.built, .int .i64 x.seq, .int .i64 x.tail, .int .i64 x.gen, .slice none 0 0, .int .i64 x.fuse, .bool x.down, .bool x.broken] 28) = w12 at B12 GG12 W12 WB12 GB12 G12 D12 H12 HB12 z12 zx12 p0 p1 p2 p3 p4 p5 p6 p7 p8 p9 p10 p11 p12 q0 q1 q2 q3 q4 q5 q6 q7 q8 q9 q10 q11 q12 ⊢
  refine (eqArr_same _ 116 116 55 55 90 90 x _ _ _ _ _ _ _ _ _ _ _ _ ms [] H12.out.rd (nil_own _ 0 0).rd W12.out.rd (nil_own _ 0 0).rd hwt2).mono ?_
  rintro e w13 ⟨rfl, hb13⟩
  clear p0 p1 p2 p3 p4 p5 p6 p7 p8 p9 p10 p11 p12 q0 q1 q2 q3 q4 q5 q6 q7 q8 q9 q10 q11 q12
  have B13 := hidden (Below.andThen B12.out hb13)
  have GG13 := hidden (GG12.out.below hb13 (by omega))
  have W13 := hidden (W12.out.below hb13)
  have WB13 := hidden (WB12.out.below hb13 (by omega))
  have GB13 := hidden (GB12.out.below hb13 (by omega))
  have G13 := hidden (G12.out.below hb13)
  have D13 := hidden (D12.out.below hb13)
  have H13 := hidden (H12.out.below hb13)
  have HB13 := hidden (HB12.out.below hb13 (by omega))
  have z13 := hb13.size
  clear B12 GG12 W12 WB12 GB12 G12 D12 H12 HB12 hb13
  clear H13
  clear HB13
  clear W13
  clear WB13
  obtain ⟨p0, p1, p2, p3, p4, p5, p6, p7, p8, p9, p10, p11, p12⟩ := GB13.out.cells13
  go_wp2_with fail
  refine (heldArr_any _ 116 55 90 x _ _ _ _ _ _ ms [] G13.out.rd D13.out.rd hwt2).mono ?_
  rintro e w14 ⟨rfl, hb14⟩
  clear p0 p1 p2 p3 p4 p5 p6 p7 p8 p9 p10 p11 p12
  have B14 := hidden (Below.andThen B13.out hb14)
  have GG14 := hidden (GG13.out.below hb14 (by omega))
  have GB14 := hidden (GB13.out.below hb14 (by omega))
  have G14 := hidden (G13.out.below hb14)
  have D14 := hidden (D13.out.below hb14)
  have z14 := hb14.size
  clear B13 GG13 GB13 G13 D13 hb14
  rw [HCN.out]
  go_wp2
  go_ret
  exact ⟨rfl, B14.out⟩

end Go.Proofs.Ytccokaicipldcaa

namespace Go.Proofs.Ytccokaicipldcaa.fnExactArrNew
open Go.ChangeShapes Go.WideShapes Go.ChangeAt Go.RowKit Go.Joins
open Go.ChangeMaps (open_string shut_string)
set_option linter.unusedVariables false

theorem own : ownKnob Try.prog.godebug = none := by kernel_rfl
theorem laidOut : laidOutB Try.prog = true := by kernel_rfl

set_option maxRecDepth 100000 in
theorem lifted (os : Os) (started : os.Started) (H : Type) (enc : TypeId × Value → H) :
    ReturnsInHanded {} Try.checked os 3 .any (Rows.fnExactArrNewSpec.pre6 enc Try.prog Try.f3 Rows.fnExactArrNewRow.domain false) (Rows.fnExactArrNewSpec.post enc Try.prog Try.f3 false true false false) := by
  refine returnsInHanded_of_change (C := Try.checked) own started (by kernel_rfl) Try.func3
    (ChangeSpec.witness6 (enc := enc) (C := Try.checked) false ⟨#[], #[.int .i64 0, .agg #[.int .i64 0, .int .i64 0]], []⟩ 8 (by kernel_rfl) (by kernel_rfl) (by kernel_rfl) (by kernel_rfl)) ?_
  intro W base args ds gs before hval0 hW hcnd _
  have hval : ∀ (j : Nat) t v, Try.f3.params[j]? = some t → args[j]? = some v → Value.okWide Try.prog W .any base t v := hval0
  have hW' := hW
  obtain ⟨p, q, hA0, hV, rfl, hfz, hnd⟩ := hW
  have hA : DataW.TrodAll enc Try.prog W 0 (fun _ => true) true Try.f3.params.toList args.toList ds p := hA0
  rw [Try.params3] at hA hval
  obtain ⟨v0, vs0, d0, ds0, p0, q0, hargs0, rfl, rfl, h0, r0⟩ := trodAll_cons hA
  obtain ⟨v1, vs1, d1, ds1, p1, q1, hargs1, rfl, rfl, h1, r1⟩ := trodAll_cons r0
  obtain ⟨rfl, rfl, rfl⟩ := trodAll_nil r1
  obtain rfl : args = #[v0, v1] := by cases args; simp_all
  obtain ⟨rfl, rfl⟩ := trodVars_none hV
  have k0 := h0
  have lt0 : ∀ x ∈ p0, x.block < W.heap.size := by obtain ⟨m, hm⟩ := k0; exact DataW.trod_lt m _ _ _ hm
  obtain ⟨x0, hv0, _, _, wf0⟩ := open_int Try.underlying3 (hval 0 3 v0 rfl rfl) h0
  subst hv0
  have k1 := h1
  have lt1 : ∀ x ∈ p1, x.block < W.heap.size := by obtain ⟨m, hm⟩ := k1; exact DataW.trod_lt m _ _ _ hm
  obtain ⟨u1_0, u1_1, y1_0, y1_1, nn1, rfl, _, _, t1_0, t1_1⟩ := open_agg2 Try.underlying23 (by kernel_rfl) (by kernel_rfl) (hval 1 23 v1 rfl rfl) h1
  obtain ⟨x1_0, hx1_0, _, _⟩ := DataW.trod_int Try.underlying3 t1_0
  simp at hx1_0
  subst hx1_0
  obtain ⟨x1_1, hx1_1, _, _⟩ := DataW.trod_int Try.underlying3 t1_1
  simp at hx1_1
  subst hx1_1
  clear hA0 hval0
  refine (fnExactArrNew_walk x0 x1_0 x1_1 W).mono fun e W' ⟨he, bel⟩ => ?_
  subst he
  exact ⟨_, rfl, _, _, _, [], _, [], hW', trodAll_mk1 (shut_bool Try.underlying4 _), (trodAll_cons_mk (Below.trod laidOut (by kernel_rfl) (of_decide_eq_true (by kernel_rfl)) k0 bel lt0) (trodAll_cons_mk (Below.trod laidOut (by kernel_rfl) (of_decide_eq_true (by kernel_rfl)) k1 bel lt1) trodAll_mk0)), rfl, bel.frame _, fun h => by cases h⟩

theorem over : Rows.fnExactArrNewRow.holds Try.pinned (OpenSpec.ofChange Rows.fnExactArrNewSpec) :=
  OpenClaim.holds_of_wide 3 Try.f3 rfl rfl rfl rfl rfl rfl rfl ⟨rfl, rfl, rfl, rfl, rfl⟩ rfl rfl rfl rfl rfl (by kernel_rfl) Try.func3 (by kernel_rfl)
    (of_decide_eq_true (by kernel_rfl)) (by unfold Func.isWrapper; first | (rw [if_pos (by decide +kernel)]; kernel_rfl) | (rw [if_neg (by decide +kernel)]; exact ⟨rfl, rfl⟩))
    (fun os started H enc _ => lifted os started H enc)
end Go.Proofs.Ytccokaicipldcaa.fnExactArrNew

namespace Go.Proofs.Ytccokaicipldcaa
/-- The given statement. -/
theorem fnExactArrNew_holds : Rows.FnExactArrNewSaid := fnExactArrNew.over
#print axioms fnExactArrNew_holds
end Go.Proofs.Ytccokaicipldcaa

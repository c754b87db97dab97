/-
  The walk of the specification's l2Copy: the same disk in memory of its own. Condition: it weighs at most 2097152.
-/
import Derived.Test.YtjmjianlcoleaaaGreatHeld
import Derived.Test.YtjmjianlcoleaaaGreatWalkArrOk2
import Derived.Test.YtjmjianlcoleaaaGreatWalkImplMemOk
import Derived.Test.YtjmjianlcoleaaaGreatWalkGeo
import Derived.Test.YtjmjianlcoleaaaGreatRowSetBlockAll3
import Derived.Test.YtjmjianlcoleaaaGreatLawSlotOf
import Derived.Test.YtjmjianlcoleaaaGreatWalkWords2
import Derived.Test.YtjmjianlcoleaaaGreatWalkWords3
import Derived.Test.YtjmjianlcoleaaaGreatWalkCopyWords
import Derived.Test.YtjmjianlcoleaaaGreatWalkArrOk3
import Derived.Test.YtjmjianlcoleaaaGreatFrame
import Derived.Test.YtjmjianlcoleaaaGreatOrder

/-
  The walks of the program's look whether an array is right: disk by disk, entry by entry, and as a whole. Condition: it weighs at most 2097152.
-/
namespace Go.Proofs.YtjmjianlcoleaaaGreat
open Go.RowKit

def recB6 (x : ArrN) : Bool := inB x.seq 0 60000 && (inB x.tail 0 60000 && inB (x.seq - x.tail) 0 4)
theorem lost_same6 {x : ArrN} (hg : geoB x.n x.s = true) : lostB x.n x.s x.lost x.built = lostB6 x := by
  obtain ⟨g1, g2, g3, g4⟩ := geoB_iff.1 hg
  rw [Bool.eq_iff_iff, lostB_iff]
  unfold lostB6
  simp only [Bool.and_eq_true, inB_iff, Bool.or_eq_true, Bool.not_eq_true', decide_eq_false_iff_not, decide_eq_true_eq]
  omega
theorem seq_same6 (x : ArrN) : seqB6 x = (inB x.gen 0 60000 && (inB x.fuse (-1) 1000 && recB6 x)) := by
  rw [Bool.eq_iff_iff]
  unfold seqB6 recB6
  simp only [Bool.and_eq_true, inB_iff, decide_eq_true_eq]
  omega
theorem arr_same6 {x : ArrN} {ms : List MemD} {ds : List (Int × List Int)} (hg : geoB x.n x.s = true) : arrB x ms ds = (inB x.id 1 60000 && (lostB x.n x.s x.lost x.built && (inB x.gen 0 60000 && (inB x.fuse (-1) 1000 && (memsB x ms && (recB6 x && entsB x ds)))))) := by
  unfold arrB
  rw [hg, lost_same6 hg, seq_same6]
  cases inB x.id 1 60000 <;> cases lostB6 x <;> cases inB x.gen 0 60000 <;> cases inB x.fuse (-1) 1000 <;> cases memsB x ms <;> cases recB6 x <;> cases entsB x ds <;> rfl
theorem stripe_in6 {x : ArrN} {y : Int} (hg : geoB x.n x.s = true) : stripeB x.n x.s y = inB y 0 (x.s - 1) := by unfold stripeB; rw [hg]; rfl
theorem sec_all6 {zs : List Int} (h : zs.length ≤ 12) : secB zs = allW zs := by unfold secB; simp [h]
theorem entAt_6 {x : ArrN} {ds : List (Int × List Int)} {p : Nat} {y : Int} {zs : List Int} {q : Int × List Int} (hq : ds[p]? = some q) (h : y ≤ q.1) : entAt x ds (p + 1) (y, zs) = false := by
  have : ds.getD (p + 1 - 1) (0, []) = q := by rw [Nat.add_sub_cancel, List.getD_eq_getElem?_getD, hq]; rfl
  unfold entAt
  rw [this]
  have h2 : ¬ q.1 < y := by omega
  simp [h2]

theorem sectorsOf_any (w : World) (n s : Int) (hs : 1 ≤ s ∧ s ≤ 8) : Calls Tryz.prog 163 #[.agg #[.int .i64 n, .int .i64 s]] w fun e w' => e = .returned (.int .i64 (6 + s)) ∧ Below w.heap.size w w' := by
  have hA := new_below w (.cells #[.int .i64 n, .int .i64 s] 31)
  obtain ⟨k0, k1⟩ := (Gbox.new w 31 n s).cells
  have hd : dataN s = 6 + s := by unfold dataN; split <;> omega
  have HD := hidden hd
  clear hd
  go_enter Tryz.func163, Tryz.ntmps163
  go_wp2_with fail
  refine (implDataAt_any _ _).mono ?_
  rintro e w1 ⟨rfl, h1⟩
  subst h1
  rw [HD.out]
  go_wp2
  go_ret
  exact ⟨rfl, hA⟩

set_option linter.unusedSimpArgs false in
set_option maxRecDepth 20000 in
set_option maxHeartbeats 3200000 in
theorem memsOk_any (w : World) (E F : TypeId) (x : ArrN) (am ad : Option Addr) (nm cm nd cd : Nat) (ms : List MemD) (h0 : (tMemS E F).Rd w [.slice am nm cm] ms) (hw : wtMemS ms ≤ 2097152) (hg : geoB x.n x.s = true) :
    Calls Tryz.prog 126 #[.agg #[.int .i64 x.id, .int .i64 x.n, .int .i64 x.s, .slice am nm cm, .int .i64 x.lost, .int .i64 x.built, .int .i64 x.seq, .int .i64 x.tail, .int .i64 x.gen, .slice ad nd cd, .int .i64 x.fuse, .bool x.down, .bool x.broken]] w fun e w' => e = .returned (.bool (memsB x ms)) ∧ Below w.heap.size w w' := by
  obtain ⟨hl, hc, hm⟩ := row_length h0
  obtain ⟨g1, g2, g3, g4⟩ := geoB_iff.1 hg
  have hA := new_below w (.cells #[.int .i64 x.id, .int .i64 x.n, .int .i64 x.s, .slice am nm cm, .int .i64 x.lost, .int .i64 x.built, .int .i64 x.seq, .int .i64 x.tail, .int .i64 x.gen, .slice ad nd cd, .int .i64 x.fuse, .bool x.down, .bool x.broken] 35)
  have X := Box.new w 35 #[.int .i64 x.id, .int .i64 x.n, .int .i64 x.s, .slice am nm cm, .int .i64 x.lost, .int .i64 x.built, .int .i64 x.seq, .int .i64 x.tail, .int .i64 x.gen, .slice ad nd cd, .int .i64 x.fuse, .bool x.down, .bool x.broken]
  have zA := X.lt
  have hnm : nm ≤ 2097152 := by unfold wtMemS at hw; omega
  have h1 := h0.below hA
  obtain ⟨k0, k1, k2, k3, k4, k5, k6, k7, k8, k9, k10, k11, k12⟩ := X.cells13
  by_cases hN : (nm : Int) = x.n
  · have hN1 : ((nm : Int) == x.n) = true := by simpa using hN
    have hN2 : ((nm : Int) != x.n) = false := by simpa using hN
    have HN := hidden hN
    clear hN
    go_enter Tryz.func126, Tryz.ntmps126
    go_wp2
    generalize w.alloc (.cells #[.int .i64 x.id, .int .i64 x.n, .int .i64 x.s, .slice am nm cm, .int .i64 x.lost, .int .i64 x.built, .int .i64 x.seq, .int .i64 x.tail, .int .i64 x.gen, .slice ad nd cd, .int .i64 x.fuse, .bool x.down, .bool x.broken] 35) = W at hA X zA h1 k0 k1 k2 k3 k4 k5 k6 k7 k8 k9 k10 k11 k12 ⊢
    clear k0 k1 k2 k3 k4 k5 k6 k7 k8 k9 k10 k11 k12
    go_loopw [15] (fun i wr => ∃ j : Nat, j ≤ nm ∧ i = .int .i64 j ∧ (∀ (q : Nat) (m : MemD), q < j → ms[q]? = some m → memAt x q m = true) ∧ Below W.heap.size W wr) (fun i _ => nm - (intOf i).toNat)
    case atStart => exact ⟨0, Nat.zero_le _, rfl, fun q m hq => by omega, Below.refl _ _⟩
    case round =>
      obtain ⟨j, hj, rfl, hall, hb⟩ := hrel
      have Xr := X.below hb zA
      by_cases hjn : j < nm
      · rcases quads_at rfl h1 with h0' | ⟨b, off, rfl, hbl, hcs⟩
        · omega
        have hdj : ms[j]? = some (ms[j]'(by omega)) := List.getElem?_eq_getElem (by omega)
        generalize ms[j]'(by omega) = m at hdj
        obtain ⟨v0, v1, v2, v3, hv0, hv1, hv2, hv3, hrv⟩ := hcs j m hdj
        obtain ⟨a0, c0, a1, c1, a3, c3, ss, cs, f, bs, rfl, rfl, rfl, rfl, rfl, r0, r1, r3⟩ := mem_at hrv
        have u0 := (hb.cell (p := ⟨b, off + j * 4, none⟩) hbl).trans hv0
        have u1 := (hb.cell (p := ⟨b, off + j * 4 + 1, none⟩) hbl).trans hv1
        have u2 := (hb.cell (p := ⟨b, off + j * 4 + 2, none⟩) hbl).trans hv2
        have u3 := (hb.cell (p := ⟨b, off + j * 4 + 3, none⟩) hbl).trans hv3
        have i1 : (0 : Int) ≤ (j : Int) := by omega
        have i2 : (j : Int) < (nm : Int) := by omega
        have hwm := Nat.le_trans (inner_leM hdj) hw
        have HDJ := hidden hdj
        clear hcs hv0 hv1 hv2 hv3 hrv hdj
        have b1 := new_below wr (.cells #[.slice a0 ss.length c0, .slice a1 cs.length c1, .bool f, .slice a3 bs.length c3] 87)
        have Y1 := Box.new wr 87 #[.slice a0 ss.length c0, .slice a1 cs.length c1, .bool f, .slice a3 bs.length c3]
        have X1 := Xr.below b1 Xr.lt
        have R0 := (r0.below hb).below b1
        have R1 := (r1.below hb).below b1
        have R3 := (r3.below hb).below b1
        have B1 := hb.trans (b1.mono hb.size)
        clear r0 r1 r3 b1
        obtain ⟨y0, y1, y2, y3⟩ := Y1.cells4
        obtain ⟨e0, e1, e2, e3, e4, e5, e6, e7, e8, e9, e10, e11, e12⟩ := X1.cells13
        have zy := Y1.lt
        have zx := X1.lt
        clear e0 e3 e5 e6 e7 e8 e9 e10 e11
        cases hM : memB ss cs bs
        · skip
          go_wp2_with fail
          generalize wr.alloc (.cells #[.slice a0 ss.length c0, .slice a1 cs.length c1, .bool f, .slice a3 bs.length c3] 87) = w1 at X1 Y1 R0 R1 R3 B1 y0 y1 y2 y3 e1 e2 e4 e12 zy zx ⊢
          refine wp_region_held_drew (S := fun w' => w'.cell? ⟨wr.heap.size, 0, none⟩ = some (.slice a0 ss.length c0) ∧ w'.cell? ⟨wr.heap.size, 1, none⟩ = some (.slice a1 cs.length c1) ∧ w'.cell? ⟨wr.heap.size, 2, none⟩ = some (.bool f) ∧ w'.cell? ⟨wr.heap.size, 3, none⟩ = some (.slice a3 bs.length c3) ∧ w'.cell? ⟨w.heap.size, 1, none⟩ = some (.int .i64 x.n) ∧ w'.cell? ⟨w.heap.size, 2, none⟩ = some (.int .i64 x.s)) (by kernel_rfl) ?_ (fun hHeld => ?_)
          · exact ⟨y0, y1, y2, y3, e1, e2⟩
          refine held_t 0 hHeld ?_
          refine held_one (i := 1) (by kernel_rfl) rfl (by kernel_rfl) (fun K hK => ?_)
          go_simp
          refine (implMemOk_any _ E _ _ _ _ _ _ _ _ _ ss cs f bs R0.drew R1.drew R3.drew hwm).mono ?_
          rintro e w2 ⟨rfl, b2⟩
          rw [hM]
          have b2' : Below w1.heap.size w1 w2 := (Below.refl w1.heap.size w1).drew.trans b2
          clear b2
          go_wp2_with fail
          clear hHeld
          refine hK.out _ _ ?_ (fun hHeld => ?_)
          · exact ⟨(b2'.cell (p := ⟨wr.heap.size, 0, none⟩) zy).trans y0, (b2'.cell (p := ⟨wr.heap.size, 1, none⟩) zy).trans y1, (b2'.cell (p := ⟨wr.heap.size, 2, none⟩) zy).trans y2, (b2'.cell (p := ⟨wr.heap.size, 3, none⟩) zy).trans y3, (b2'.cell (p := ⟨w.heap.size, 1, none⟩) zx).trans e1, (b2'.cell (p := ⟨w.heap.size, 2, none⟩) zx).trans e2⟩
          clear hK K
          refine held_t 2 hHeld ?_
          refine held_t 3 hHeld ?_
          refine held_p 4 hHeld ?_
          refine held_p 5 hHeld ?_
          refine held_p 6 hHeld ?_
          refine held_p 7 hHeld ?_
          refine held_p 8 hHeld ?_
          refine held_none (i := 9) (by kernel_rfl) rfl (by kernel_rfl) hHeld ?_
          simp only [Act.put, List.setIfInBounds_toArray, List.set_cons_zero, List.set_cons_succ]
          refine held_p 10 hHeld ?_
          refine held_t 11 hHeld ?_
          refine wpAnyH_done (by kernel_rfl) ?_ _
          clear hHeld
          have HB := hidden (hA.trans ((B1.trans (b2'.mono B1.size)).mono hA.size))
          go_wp2
          go_ret
          exact ⟨ret_bool (by rw [show memsB x ms = false from (by unfold memsB; rw [allIx_no HDJ.out (by unfold memAt; simp [hM])]; rfl)]), HB.out⟩
        · by_cases hS : (ss.length : Int) = 6 + x.s
          · have hS1 : ((ss.length : Int) == 6 + x.s) = true := by simpa using hS
            have hS2 : ((ss.length : Int) != 6 + x.s) = false := by simpa using hS
            have HS := hidden hS
            clear hS
            cases f
            · skip
              go_wp2_with fail
              generalize wr.alloc (.cells #[.slice a0 ss.length c0, .slice a1 cs.length c1, .bool false, .slice a3 bs.length c3] 87) = w1 at X1 Y1 R0 R1 R3 B1 y0 y1 y2 y3 e1 e2 e4 e12 zy zx ⊢
              refine wp_region_held_drew (S := fun w' => w'.cell? ⟨wr.heap.size, 0, none⟩ = some (.slice a0 ss.length c0) ∧ w'.cell? ⟨wr.heap.size, 1, none⟩ = some (.slice a1 cs.length c1) ∧ w'.cell? ⟨wr.heap.size, 2, none⟩ = some (.bool false) ∧ w'.cell? ⟨wr.heap.size, 3, none⟩ = some (.slice a3 bs.length c3) ∧ w'.cell? ⟨w.heap.size, 1, none⟩ = some (.int .i64 x.n) ∧ w'.cell? ⟨w.heap.size, 2, none⟩ = some (.int .i64 x.s)) (by kernel_rfl) ?_ (fun hHeld => ?_)
              · exact ⟨y0, y1, y2, y3, e1, e2⟩
              refine held_t 0 hHeld ?_
              refine held_one (i := 1) (by kernel_rfl) rfl (by kernel_rfl) (fun K hK => ?_)
              go_simp
              refine (implMemOk_any _ E _ _ _ _ _ _ _ _ _ ss cs false bs R0.drew R1.drew R3.drew hwm).mono ?_
              rintro e w2 ⟨rfl, b2⟩
              rw [hM]
              have b2' : Below w1.heap.size w1 w2 := (Below.refl w1.heap.size w1).drew.trans b2
              clear b2
              go_wp2_with fail
              clear hHeld
              refine hK.out _ _ ?_ (fun hHeld => ?_)
              · exact ⟨(b2'.cell (p := ⟨wr.heap.size, 0, none⟩) zy).trans y0, (b2'.cell (p := ⟨wr.heap.size, 1, none⟩) zy).trans y1, (b2'.cell (p := ⟨wr.heap.size, 2, none⟩) zy).trans y2, (b2'.cell (p := ⟨wr.heap.size, 3, none⟩) zy).trans y3, (b2'.cell (p := ⟨w.heap.size, 1, none⟩) zx).trans e1, (b2'.cell (p := ⟨w.heap.size, 2, none⟩) zx).trans e2⟩
              clear hK K
              refine held_t 2 hHeld ?_
              refine held_t 3 hHeld ?_
              refine held_t 4 hHeld ?_
              refine held_t 5 hHeld ?_
              refine held_t 6 hHeld ?_
              refine held_t 7 hHeld ?_
              refine held_t 8 hHeld ?_
              refine held_one (i := 9) (by kernel_rfl) rfl (by kernel_rfl) (fun K hK => ?_)
              go_simp
              refine (sectorsOf_any _ x.n x.s ⟨g3, g4⟩).mono ?_
              rintro e w3 ⟨rfl, b3⟩
              have b3' : Below w1.heap.size w1 w3 := Below.andThen b2' b3
              clear b3
              go_wp2_with fail
              clear hHeld
              refine hK.out _ _ ?_ (fun hHeld => ?_)
              · exact ⟨(b3'.cell (p := ⟨wr.heap.size, 0, none⟩) zy).trans y0, (b3'.cell (p := ⟨wr.heap.size, 1, none⟩) zy).trans y1, (b3'.cell (p := ⟨wr.heap.size, 2, none⟩) zy).trans y2, (b3'.cell (p := ⟨wr.heap.size, 3, none⟩) zy).trans y3, (b3'.cell (p := ⟨w.heap.size, 1, none⟩) zx).trans e1, (b3'.cell (p := ⟨w.heap.size, 2, none⟩) zx).trans e2⟩
              clear hK K
              refine held_t 10 hHeld ?_
              refine held_t 11 hHeld ?_
              refine wpAnyH_done (by kernel_rfl) ?_ _
              clear hHeld
              have n0 := (b3'.cell (p := ⟨w.heap.size, 4, none⟩) zx).trans e4
              have n1 := (b3'.cell (p := ⟨w.heap.size, 12, none⟩) zx).trans e12
              have n2 := (b3'.cell (p := ⟨wr.heap.size, 2, none⟩) zy).trans y2
              have HB := hidden (B1.trans (b3'.mono B1.size))
              have hat : memAt x j (ss, cs, false, bs) = true := (by unfold memAt; simp [hM, HS.out])
              go_wp2
              go_roundw
              case rel => exact ⟨j + 1, by omega, by go_num, fun q m hq hm' => by
                  rcases Nat.lt_or_ge q j with h | h
                  · exact hall q m h hm'
                  · obtain rfl : q = j := by omega
                    rw [HDJ.out] at hm'
                    cases hm'
                    exact hat, HB.out⟩
              case measure => simp [intOf]; omega
            · by_cases hL : (j : Int) = x.lost
              · have hL1 : ((j : Int) == x.lost) = true := by simpa using hL
                have hL2 : ((j : Int) != x.lost) = false := by simpa using hL
                have HL := hidden hL
                clear hL
                go_wp2_with fail
                generalize wr.alloc (.cells #[.slice a0 ss.length c0, .slice a1 cs.length c1, .bool true, .slice a3 bs.length c3] 87) = w1 at X1 Y1 R0 R1 R3 B1 y0 y1 y2 y3 e1 e2 e4 e12 zy zx ⊢
                refine wp_region_held_drew (S := fun w' => w'.cell? ⟨wr.heap.size, 0, none⟩ = some (.slice a0 ss.length c0) ∧ w'.cell? ⟨wr.heap.size, 1, none⟩ = some (.slice a1 cs.length c1) ∧ w'.cell? ⟨wr.heap.size, 2, none⟩ = some (.bool true) ∧ w'.cell? ⟨wr.heap.size, 3, none⟩ = some (.slice a3 bs.length c3) ∧ w'.cell? ⟨w.heap.size, 1, none⟩ = some (.int .i64 x.n) ∧ w'.cell? ⟨w.heap.size, 2, none⟩ = some (.int .i64 x.s)) (by kernel_rfl) ?_ (fun hHeld => ?_)
                · exact ⟨y0, y1, y2, y3, e1, e2⟩
                refine held_t 0 hHeld ?_
                refine held_one (i := 1) (by kernel_rfl) rfl (by kernel_rfl) (fun K hK => ?_)
                go_simp
                refine (implMemOk_any _ E _ _ _ _ _ _ _ _ _ ss cs true bs R0.drew R1.drew R3.drew hwm).mono ?_
                rintro e w2 ⟨rfl, b2⟩
                rw [hM]
                have b2' : Below w1.heap.size w1 w2 := (Below.refl w1.heap.size w1).drew.trans b2
                clear b2
                go_wp2_with fail
                clear hHeld
                refine hK.out _ _ ?_ (fun hHeld => ?_)
                · exact ⟨(b2'.cell (p := ⟨wr.heap.size, 0, none⟩) zy).trans y0, (b2'.cell (p := ⟨wr.heap.size, 1, none⟩) zy).trans y1, (b2'.cell (p := ⟨wr.heap.size, 2, none⟩) zy).trans y2, (b2'.cell (p := ⟨wr.heap.size, 3, none⟩) zy).trans y3, (b2'.cell (p := ⟨w.heap.size, 1, none⟩) zx).trans e1, (b2'.cell (p := ⟨w.heap.size, 2, none⟩) zx).trans e2⟩
                clear hK K
                refine held_t 2 hHeld ?_
                refine held_t 3 hHeld ?_
                refine held_t 4 hHeld ?_
                refine held_t 5 hHeld ?_
                refine held_t 6 hHeld ?_
                refine held_t 7 hHeld ?_
                refine held_t 8 hHeld ?_
                refine held_one (i := 9) (by kernel_rfl) rfl (by kernel_rfl) (fun K hK => ?_)
                go_simp
                refine (sectorsOf_any _ x.n x.s ⟨g3, g4⟩).mono ?_
                rintro e w3 ⟨rfl, b3⟩
                have b3' : Below w1.heap.size w1 w3 := Below.andThen b2' b3
                clear b3
                go_wp2_with fail
                clear hHeld
                refine hK.out _ _ ?_ (fun hHeld => ?_)
                · exact ⟨(b3'.cell (p := ⟨wr.heap.size, 0, none⟩) zy).trans y0, (b3'.cell (p := ⟨wr.heap.size, 1, none⟩) zy).trans y1, (b3'.cell (p := ⟨wr.heap.size, 2, none⟩) zy).trans y2, (b3'.cell (p := ⟨wr.heap.size, 3, none⟩) zy).trans y3, (b3'.cell (p := ⟨w.heap.size, 1, none⟩) zx).trans e1, (b3'.cell (p := ⟨w.heap.size, 2, none⟩) zx).trans e2⟩
                clear hK K
                refine held_t 10 hHeld ?_
                refine held_t 11 hHeld ?_
                refine wpAnyH_done (by kernel_rfl) ?_ _
                clear hHeld
                have n0 := (b3'.cell (p := ⟨w.heap.size, 4, none⟩) zx).trans e4
                have n1 := (b3'.cell (p := ⟨w.heap.size, 12, none⟩) zx).trans e12
                have n2 := (b3'.cell (p := ⟨wr.heap.size, 2, none⟩) zy).trans y2
                have HB := hidden (B1.trans (b3'.mono B1.size))
                have hat : memAt x j (ss, cs, true, bs) = true := (by unfold memAt; simp [hM, HS.out, HL.out])
                go_wp2
                go_roundw
                case rel => exact ⟨j + 1, by omega, by go_num, fun q m hq hm' => by
                    rcases Nat.lt_or_ge q j with h | h
                    · exact hall q m h hm'
                    · obtain rfl : q = j := by omega
                      rw [HDJ.out] at hm'
                      cases hm'
                      exact hat, HB.out⟩
                case measure => simp [intOf]; omega
              · have hL1 : ((j : Int) == x.lost) = false := by simpa using hL
                have hL2 : ((j : Int) != x.lost) = true := by simpa using hL
                have HL := hidden hL
                clear hL
                cases hBr : x.broken
                · rw [hBr] at e12
                  go_wp2_with fail
                  generalize wr.alloc (.cells #[.slice a0 ss.length c0, .slice a1 cs.length c1, .bool true, .slice a3 bs.length c3] 87) = w1 at X1 Y1 R0 R1 R3 B1 y0 y1 y2 y3 e1 e2 e4 e12 zy zx ⊢
                  refine wp_region_held_drew (S := fun w' => w'.cell? ⟨wr.heap.size, 0, none⟩ = some (.slice a0 ss.length c0) ∧ w'.cell? ⟨wr.heap.size, 1, none⟩ = some (.slice a1 cs.length c1) ∧ w'.cell? ⟨wr.heap.size, 2, none⟩ = some (.bool true) ∧ w'.cell? ⟨wr.heap.size, 3, none⟩ = some (.slice a3 bs.length c3) ∧ w'.cell? ⟨w.heap.size, 1, none⟩ = some (.int .i64 x.n) ∧ w'.cell? ⟨w.heap.size, 2, none⟩ = some (.int .i64 x.s)) (by kernel_rfl) ?_ (fun hHeld => ?_)
                  · exact ⟨y0, y1, y2, y3, e1, e2⟩
                  refine held_t 0 hHeld ?_
                  refine held_one (i := 1) (by kernel_rfl) rfl (by kernel_rfl) (fun K hK => ?_)
                  go_simp
                  refine (implMemOk_any _ E _ _ _ _ _ _ _ _ _ ss cs true bs R0.drew R1.drew R3.drew hwm).mono ?_
                  rintro e w2 ⟨rfl, b2⟩
                  rw [hM]
                  have b2' : Below w1.heap.size w1 w2 := (Below.refl w1.heap.size w1).drew.trans b2
                  clear b2
                  go_wp2_with fail
                  clear hHeld
                  refine hK.out _ _ ?_ (fun hHeld => ?_)
                  · exact ⟨(b2'.cell (p := ⟨wr.heap.size, 0, none⟩) zy).trans y0, (b2'.cell (p := ⟨wr.heap.size, 1, none⟩) zy).trans y1, (b2'.cell (p := ⟨wr.heap.size, 2, none⟩) zy).trans y2, (b2'.cell (p := ⟨wr.heap.size, 3, none⟩) zy).trans y3, (b2'.cell (p := ⟨w.heap.size, 1, none⟩) zx).trans e1, (b2'.cell (p := ⟨w.heap.size, 2, none⟩) zx).trans e2⟩
                  clear hK K
                  refine held_t 2 hHeld ?_
                  refine held_t 3 hHeld ?_
                  refine held_t 4 hHeld ?_
                  refine held_t 5 hHeld ?_
                  refine held_t 6 hHeld ?_
                  refine held_t 7 hHeld ?_
                  refine held_t 8 hHeld ?_
                  refine held_one (i := 9) (by kernel_rfl) rfl (by kernel_rfl) (fun K hK => ?_)
                  go_simp
                  refine (sectorsOf_any _ x.n x.s ⟨g3, g4⟩).mono ?_
                  rintro e w3 ⟨rfl, b3⟩
                  have b3' : Below w1.heap.size w1 w3 := Below.andThen b2' b3
                  clear b3
                  go_wp2_with fail
                  clear hHeld
                  refine hK.out _ _ ?_ (fun hHeld => ?_)
                  · exact ⟨(b3'.cell (p := ⟨wr.heap.size, 0, none⟩) zy).trans y0, (b3'.cell (p := ⟨wr.heap.size, 1, none⟩) zy).trans y1, (b3'.cell (p := ⟨wr.heap.size, 2, none⟩) zy).trans y2, (b3'.cell (p := ⟨wr.heap.size, 3, none⟩) zy).trans y3, (b3'.cell (p := ⟨w.heap.size, 1, none⟩) zx).trans e1, (b3'.cell (p := ⟨w.heap.size, 2, none⟩) zx).trans e2⟩
                  clear hK K
                  refine held_t 10 hHeld ?_
                  refine held_t 11 hHeld ?_
                  refine wpAnyH_done (by kernel_rfl) ?_ _
                  clear hHeld
                  have n0 := (b3'.cell (p := ⟨w.heap.size, 4, none⟩) zx).trans e4
                  have n1 := (b3'.cell (p := ⟨w.heap.size, 12, none⟩) zx).trans e12
                  have n2 := (b3'.cell (p := ⟨wr.heap.size, 2, none⟩) zy).trans y2
                  have HB := hidden (hA.trans ((B1.trans (b3'.mono B1.size)).mono hA.size))
                  go_wp2
                  go_ret
                  exact ⟨ret_bool (by rw [show memsB x ms = false from (by unfold memsB; rw [allIx_no HDJ.out (by unfold memAt; simp [HL.out, hBr])]; rfl)]), HB.out⟩
                · rw [hBr] at e12
                  go_wp2_with fail
                  generalize wr.alloc (.cells #[.slice a0 ss.length c0, .slice a1 cs.length c1, .bool true, .slice a3 bs.length c3] 87) = w1 at X1 Y1 R0 R1 R3 B1 y0 y1 y2 y3 e1 e2 e4 e12 zy zx ⊢
                  refine wp_region_held_drew (S := fun w' => w'.cell? ⟨wr.heap.size, 0, none⟩ = some (.slice a0 ss.length c0) ∧ w'.cell? ⟨wr.heap.size, 1, none⟩ = some (.slice a1 cs.length c1) ∧ w'.cell? ⟨wr.heap.size, 2, none⟩ = some (.bool true) ∧ w'.cell? ⟨wr.heap.size, 3, none⟩ = some (.slice a3 bs.length c3) ∧ w'.cell? ⟨w.heap.size, 1, none⟩ = some (.int .i64 x.n) ∧ w'.cell? ⟨w.heap.size, 2, none⟩ = some (.int .i64 x.s)) (by kernel_rfl) ?_ (fun hHeld => ?_)
                  · exact ⟨y0, y1, y2, y3, e1, e2⟩
                  refine held_t 0 hHeld ?_
                  refine held_one (i := 1) (by kernel_rfl) rfl (by kernel_rfl) (fun K hK => ?_)
                  go_simp
                  refine (implMemOk_any _ E _ _ _ _ _ _ _ _ _ ss cs true bs R0.drew R1.drew R3.drew hwm).mono ?_
                  rintro e w2 ⟨rfl, b2⟩
                  rw [hM]
                  have b2' : Below w1.heap.size w1 w2 := (Below.refl w1.heap.size w1).drew.trans b2
                  clear b2
                  go_wp2_with fail
                  clear hHeld
                  refine hK.out _ _ ?_ (fun hHeld => ?_)
                  · exact ⟨(b2'.cell (p := ⟨wr.heap.size, 0, none⟩) zy).trans y0, (b2'.cell (p := ⟨wr.heap.size, 1, none⟩) zy).trans y1, (b2'.cell (p := ⟨wr.heap.size, 2, none⟩) zy).trans y2, (b2'.cell (p := ⟨wr.heap.size, 3, none⟩) zy).trans y3, (b2'.cell (p := ⟨w.heap.size, 1, none⟩) zx).trans e1, (b2'.cell (p := ⟨w.heap.size, 2, none⟩) zx).trans e2⟩
                  clear hK K
                  refine held_t 2 hHeld ?_
                  refine held_t 3 hHeld ?_
                  refine held_t 4 hHeld ?_
                  refine held_t 5 hHeld ?_
                  refine held_t 6 hHeld ?_
                  refine held_t 7 hHeld ?_
                  refine held_t 8 hHeld ?_
                  refine held_one (i := 9) (by kernel_rfl) rfl (by kernel_rfl) (fun K hK => ?_)
                  go_simp
                  refine (sectorsOf_any _ x.n x.s ⟨g3, g4⟩).mono ?_
                  rintro e w3 ⟨rfl, b3⟩
                  have b3' : Below w1.heap.size w1 w3 := Below.andThen b2' b3
                  clear b3
                  go_wp2_with fail
                  clear hHeld
                  refine hK.out _ _ ?_ (fun hHeld => ?_)
                  · exact ⟨(b3'.cell (p := ⟨wr.heap.size, 0, none⟩) zy).trans y0, (b3'.cell (p := ⟨wr.heap.size, 1, none⟩) zy).trans y1, (b3'.cell (p := ⟨wr.heap.size, 2, none⟩) zy).trans y2, (b3'.cell (p := ⟨wr.heap.size, 3, none⟩) zy).trans y3, (b3'.cell (p := ⟨w.heap.size, 1, none⟩) zx).trans e1, (b3'.cell (p := ⟨w.heap.size, 2, none⟩) zx).trans e2⟩
                  clear hK K
                  refine held_t 10 hHeld ?_
                  refine held_t 11 hHeld ?_
                  refine wpAnyH_done (by kernel_rfl) ?_ _
                  clear hHeld
                  have n0 := (b3'.cell (p := ⟨w.heap.size, 4, none⟩) zx).trans e4
                  have n1 := (b3'.cell (p := ⟨w.heap.size, 12, none⟩) zx).trans e12
                  have n2 := (b3'.cell (p := ⟨wr.heap.size, 2, none⟩) zy).trans y2
                  have HB := hidden (B1.trans (b3'.mono B1.size))
                  have hat : memAt x j (ss, cs, true, bs) = true := (by unfold memAt; simp [hM, HS.out, hBr])
                  go_wp2
                  go_roundw
                  case rel => exact ⟨j + 1, by omega, by go_num, fun q m hq hm' => by
                      rcases Nat.lt_or_ge q j with h | h
                      · exact hall q m h hm'
                      · obtain rfl : q = j := by omega
                        rw [HDJ.out] at hm'
                        cases hm'
                        exact hat, HB.out⟩
                  case measure => simp [intOf]; omega
          · have hS1 : ((ss.length : Int) == 6 + x.s) = false := by simpa using hS
            have hS2 : ((ss.length : Int) != 6 + x.s) = true := by simpa using hS
            have HS := hidden hS
            clear hS
            go_wp2_with fail
            generalize wr.alloc (.cells #[.slice a0 ss.length c0, .slice a1 cs.length c1, .bool f, .slice a3 bs.length c3] 87) = w1 at X1 Y1 R0 R1 R3 B1 y0 y1 y2 y3 e1 e2 e4 e12 zy zx ⊢
            refine wp_region_held_drew (S := fun w' => w'.cell? ⟨wr.heap.size, 0, none⟩ = some (.slice a0 ss.length c0) ∧ w'.cell? ⟨wr.heap.size, 1, none⟩ = some (.slice a1 cs.length c1) ∧ w'.cell? ⟨wr.heap.size, 2, none⟩ = some (.bool f) ∧ w'.cell? ⟨wr.heap.size, 3, none⟩ = some (.slice a3 bs.length c3) ∧ w'.cell? ⟨w.heap.size, 1, none⟩ = some (.int .i64 x.n) ∧ w'.cell? ⟨w.heap.size, 2, none⟩ = some (.int .i64 x.s)) (by kernel_rfl) ?_ (fun hHeld => ?_)
            · exact ⟨y0, y1, y2, y3, e1, e2⟩
            refine held_t 0 hHeld ?_
            refine held_one (i := 1) (by kernel_rfl) rfl (by kernel_rfl) (fun K hK => ?_)
            go_simp
            refine (implMemOk_any _ E _ _ _ _ _ _ _ _ _ ss cs f bs R0.drew R1.drew R3.drew hwm).mono ?_
            rintro e w2 ⟨rfl, b2⟩
            rw [hM]
            have b2' : Below w1.heap.size w1 w2 := (Below.refl w1.heap.size w1).drew.trans b2
            clear b2
            go_wp2_with fail
            clear hHeld
            refine hK.out _ _ ?_ (fun hHeld => ?_)
            · exact ⟨(b2'.cell (p := ⟨wr.heap.size, 0, none⟩) zy).trans y0, (b2'.cell (p := ⟨wr.heap.size, 1, none⟩) zy).trans y1, (b2'.cell (p := ⟨wr.heap.size, 2, none⟩) zy).trans y2, (b2'.cell (p := ⟨wr.heap.size, 3, none⟩) zy).trans y3, (b2'.cell (p := ⟨w.heap.size, 1, none⟩) zx).trans e1, (b2'.cell (p := ⟨w.heap.size, 2, none⟩) zx).trans e2⟩
            clear hK K
            refine held_t 2 hHeld ?_
            refine held_t 3 hHeld ?_
            refine held_t 4 hHeld ?_
            refine held_t 5 hHeld ?_
            refine held_t 6 hHeld ?_
            refine held_t 7 hHeld ?_
            refine held_t 8 hHeld ?_
            refine held_one (i := 9) (by kernel_rfl) rfl (by kernel_rfl) (fun K hK => ?_)
            go_simp
            refine (sectorsOf_any _ x.n x.s ⟨g3, g4⟩).mono ?_
            rintro e w3 ⟨rfl, b3⟩
            have b3' : Below w1.heap.size w1 w3 := Below.andThen b2' b3
            clear b3
            go_wp2_with fail
            clear hHeld
            refine hK.out _ _ ?_ (fun hHeld => ?_)
            · exact ⟨(b3'.cell (p := ⟨wr.heap.size, 0, none⟩) zy).trans y0, (b3'.cell (p := ⟨wr.heap.size, 1, none⟩) zy).trans y1, (b3'.cell (p := ⟨wr.heap.size, 2, none⟩) zy).trans y2, (b3'.cell (p := ⟨wr.heap.size, 3, none⟩) zy).trans y3, (b3'.cell (p := ⟨w.heap.size, 1, none⟩) zx).trans e1, (b3'.cell (p := ⟨w.heap.size, 2, none⟩) zx).trans e2⟩
            clear hK K
            refine held_t 10 hHeld ?_
            refine held_t 11 hHeld ?_
            refine wpAnyH_done (by kernel_rfl) ?_ _
            clear hHeld
            have n0 := (b3'.cell (p := ⟨w.heap.size, 4, none⟩) zx).trans e4
            have n1 := (b3'.cell (p := ⟨w.heap.size, 12, none⟩) zx).trans e12
            have n2 := (b3'.cell (p := ⟨wr.heap.size, 2, none⟩) zy).trans y2
            have HB := hidden (hA.trans ((B1.trans (b3'.mono B1.size)).mono hA.size))
            go_wp2
            go_ret
            exact ⟨ret_bool (by rw [show memsB x ms = false from (by unfold memsB; rw [allIx_no HDJ.out (by unfold memAt; simp [HS.out])]; rfl)]), HB.out⟩
      · have e : j = nm := by omega
        subst e
        have hAll : allIx (memAt x) ms = true := allIx_iff.2 (fun q m hq => hall q m (by have := (List.getElem?_eq_some_iff.1 hq).1; omega) hq)
        have HB := hidden (hA.trans (hb.mono hA.size))
        have hR : memsB x ms = true := by unfold memsB; rw [hAll, hl]; simpa using HN.out
        go_wp2
        go_ret
        exact ⟨ret_bool hR.symm, HB.out⟩
  · have hN1 : ((nm : Int) == x.n) = false := by simpa using hN
    have hN2 : ((nm : Int) != x.n) = true := by simpa using hN
    have hR : memsB x ms = false := by unfold memsB; rw [hl]; simp [hN]
    have HR := hidden hR
    clear hN hR
    go_enter Tryz.func126, Tryz.ntmps126
    go_wp2
    go_ret
    exact ⟨ret_bool HR.out.symm, hA⟩

end Go.Proofs.YtjmjianlcoleaaaGreat

/-
  The walks of both Blocks and of what tells a stripe (the program's and the specification's). No condition.
-/
namespace Go.Proofs.YtjmjianlcoleaaaGreat
open Go.RowKit

theorem perStripe_any (w : World) (n s : Int) (h1 : 3 ≤ n) (h2 : n ≤ 5) : Calls Tryz.prog 101 #[.agg #[.int .i64 n, .int .i64 s]] w fun e w' => e = .returned (.int .i64 (n - 1)) ∧ Below w.heap.size w w' := by
  have hA := new_below w (.cells #[.int .i64 n, .int .i64 s] 31)
  obtain ⟨k0, k1⟩ := (Gbox.new w 31 n s).cells
  go_enter Tryz.func101, Tryz.ntmps101
  go_wp2
  go_ret
  exact ⟨ret_int (by first | rfl | omega), hA⟩

set_option maxHeartbeats 800000 in
theorem implBlocks_any (w : World) (n s : Int) : Calls Tryz.prog 100 #[.agg #[.int .i64 n, .int .i64 s]] w fun e w' => e = .returned (.int .i64 (blocksN n s)) ∧ Below w.heap.size w w' := by
  have hA := new_below w (.cells #[.int .i64 n, .int .i64 s] 31)
  have X := Gbox.new w 31 n s
  obtain ⟨k0, k1⟩ := X.cells
  have zA := X.lt
  go_enter Tryz.func100, Tryz.ntmps100
  go_wp2_with fail
  refine (implGeoOk_any _ _ _).mono ?_
  rintro e w1 ⟨rfl, b1⟩
  have X1 := X.below b1 zA
  have z1 := X1.lt
  obtain ⟨p0, p1⟩ := X1.cells
  have B1 := Below.andThen hA b1
  clear k0 k1 X b1 hA zA
  by_cases hg : geoB n s = true
  · obtain ⟨h1, h2, h3, h4⟩ := geoB_iff.1 hg
    have hm := geoB_blocks hg
    have HB := hidden (blocksN_of hg)
    have gw : IntKind.i64.wrap (s * (n - 1)) = s * (n - 1) := IntWalk.i64_in _ (by omega)
    go_wp2_with fail
    go_region_held3 (fun w' => w'.cell? ⟨w.heap.size, 0, none⟩ = some (.int .i64 n) ∧ w'.cell? ⟨w.heap.size, 1, none⟩ = some (.int .i64 s))
      (first | (exact ⟨(b2.cell (p := ⟨w.heap.size, 0, none⟩) z1).trans p0, (b2.cell (p := ⟨w.heap.size, 1, none⟩) z1).trans p1⟩) | (exact ⟨p0, p1⟩) | go_keep)
      (first
        | (go_at_call 101; refine (perStripe_any _ _ _ h1 h2).mono ?_; rintro e w2 ⟨rfl, b2'⟩; have b2 : Below w1.heap.size w1 w2 := (by exact (Below.refl w1.heap.size w1).drew.trans b2')))
    go_wp2
    go_ret
    exact ⟨ret_int (by rw [HB.out]), Below.andThen B1 b2⟩
  · have hg : geoB n s = false := by simpa using hg
    go_wp2
    go_ret
    exact ⟨ret_int (blocksN_not hg).symm, B1⟩

theorem stripeB_of {n s t : Int} : stripeB n s t = true ↔ geoB n s = true ∧ 0 ≤ t ∧ t < s := by unfold stripeB; rw [Bool.and_eq_true, inB_iff]; constructor <;> (rintro ⟨a, b⟩; exact ⟨a, by omega⟩)
theorem stripeB_not {n s t : Int} : stripeB n s t = false ↔ ¬ (geoB n s = true ∧ 0 ≤ t ∧ t < s) := by rw [← stripeB_of]; simp

set_option maxHeartbeats 800000 in
theorem hasStripe_any (w : World) (n s t : Int) : Calls Tryz.prog 63 #[.agg #[.int .i64 n, .int .i64 s], .int .i64 t] w fun e w' => e = .returned (.bool (stripeB n s t)) ∧ Below w.heap.size w w' := by
  have hA := new_below w (.cells #[.int .i64 n, .int .i64 s] 31)
  have X := Gbox.new w 31 n s
  obtain ⟨k0, k1⟩ := X.cells
  have zA := X.lt
  go_enter Tryz.func63, Tryz.ntmps63
  go_wp2_with fail
  refine (implGeoOk_any _ _ _).mono ?_
  rintro e w1 ⟨rfl, b1⟩
  have X1 := X.below b1 zA
  obtain ⟨p0, p1⟩ := X1.cells
  have B1 := Below.andThen hA b1
  clear k0 k1 X b1 hA zA
  by_cases hg : geoB n s = true
  · by_cases h1 : 0 ≤ t
    · by_cases h2 : t < s
      · go_wp2
        go_ret
        exact ⟨ret_bool (by symm; rw [stripeB_of]; exact ⟨hg, h1, h2⟩), B1⟩
      · go_wp2
        go_ret
        exact ⟨ret_bool (by first | (exact (stripeB_not.2 (by omega)).symm) | (rw [stripeB_not.2 (by omega)]; simp; omega)), B1⟩
    · go_wp2
      go_ret
      exact ⟨ret_bool (by first | (exact (stripeB_not.2 (by omega)).symm) | (rw [stripeB_not.2 (by omega)]; simp; omega)), B1⟩
  · have hg : geoB n s = false := by simpa using hg
    go_wp2
    go_ret
    exact ⟨ret_bool (by symm; rw [stripeB_not]; simp [hg]), B1⟩

set_option maxHeartbeats 800000 in
theorem implParityOf_any (w : World) (n s t : Int) : Calls Tryz.prog 141 #[.agg #[.int .i64 n, .int .i64 s], .int .i64 t] w fun e w' => e = .returned (.int .i64 (parN n s t)) ∧ Below w.heap.size w w' := by
  have hA := new_below w (.cells #[.int .i64 n, .int .i64 s] 31)
  have X := Gbox.new w 31 n s
  obtain ⟨k0, k1⟩ := X.cells
  have zA := X.lt
  go_enter Tryz.func141, Tryz.ntmps141
  go_wp2_with fail
  refine (hasStripe_any _ _ _ _).mono ?_
  rintro e w1 ⟨rfl, b1⟩
  have X1 := X.below b1 zA
  obtain ⟨p0, p1⟩ := X1.cells
  have B1 := Below.andThen hA b1
  clear k0 k1 X b1 hA zA
  by_cases hg : stripeB n s t = true
  · obtain ⟨hg1, h1, h2⟩ := stripeB_of.1 hg
    obtain ⟨g1, g2, g3, g4⟩ := geoB_iff.1 hg1
    have hm1 : 0 ≤ t % n := Int.emod_nonneg _ (by omega)
    have hm2 : t % n < n := Int.emod_lt_of_pos _ (by omega)
    have HB : Hid (parN n s t = n - 1 - t % n) := by unfold Hid parN; rw [if_pos hg]
    go_wp2_with fail
    go_quiet (fail)
    go_wp2
    go_ret
    exact ⟨ret_int (by rw [HB.out]), Below.andSame B1 ((Same.refl _).drewN _)⟩
  · have hg' : stripeB n s t = false := by simpa using hg
    go_wp2
    go_ret
    exact ⟨ret_int (by unfold parN; rw [if_neg hg]), B1⟩

theorem blockB_of {n s b : Int} : blockB n s b = true ↔ 0 ≤ b ∧ b < blocksN n s := by unfold blockB; rw [inB_iff]; omega
theorem blockB_not {n s b : Int} : blockB n s b = false ↔ ¬ (0 ≤ b ∧ b < blocksN n s) := by rw [← blockB_of]; simp
theorem blockB_geo {n s b : Int} (h : blockB n s b = true) : geoB n s = true := by
  rw [blockB_of] at h
  by_cases hg : geoB n s = true
  · exact hg
  · rw [blocksN_not (by simpa using hg)] at h
    omega

set_option maxHeartbeats 1600000 in
theorem placeOf_any (w : World) (n s b : Int) : Calls Tryz.prog 62 #[.agg #[.int .i64 n, .int .i64 s], .int .i64 b] w fun e w' => e = .returned (.agg #[.int .i64 (stripeN n s b), .int .i64 (indexN n s b)]) ∧ Below w.heap.size w w' := by
  have hA : Below w.heap.size w ((w.alloc (.cells #[.int .i64 n, .int .i64 s] 31)).alloc (.cells #[.int .i64 0, .int .i64 0] 91)) := (new_below w _).alloc (by simp) _
  have X : Gbox ((w.alloc (.cells #[.int .i64 n, .int .i64 s] 31)).alloc (.cells #[.int .i64 0, .int .i64 0] 91)) w.heap.size 31 n s := (Gbox.new w 31 n s).below (new_below _ _) (by simp)
  have Y : Gbox ((w.alloc (.cells #[.int .i64 n, .int .i64 s] 31)).alloc (.cells #[.int .i64 0, .int .i64 0] 91)) (w.heap.size + 1) 91 0 0 := by
    have := Gbox.new (w.alloc (.cells #[.int .i64 n, .int .i64 s] 31)) 91 0 0
    simpa using this
  obtain ⟨k0, k1⟩ := X.cells
  obtain ⟨j0, j1⟩ := Y.cells
  have f0 := Y.frozen 0
  have f1 := Y.frozen 1
  go_enter Tryz.func62, Tryz.ntmps62
  by_cases h0 : 0 ≤ b
  · go_wp2_with fail
    refine (implBlocks_any _ _ _).mono ?_
    rintro e w1 ⟨rfl, b1⟩
    have hz : w.heap.size + 1 < ((w.alloc (.cells #[.int .i64 n, .int .i64 s] 31)).alloc (.cells #[.int .i64 0, .int .i64 0] 91)).heap.size := by simp
    have X1 := X.below b1 (by omega)
    have Y1 := Y.below b1 hz
    have B1 := hA.trans (b1.mono hA.size)
    have hr := blocksN_range n s
    clear k0 k1 j0 j1 f0 f1 X Y hA b1 hz
    obtain ⟨k0, k1⟩ := X1.cells
    obtain ⟨j0, j1⟩ := Y1.cells
    have f0 := Y1.frozen 0
    have f1 := Y1.frozen 1
    have z1 := Y1.lt
    by_cases h1 : b < blocksN n s
    · have hb := blockB_of.2 ⟨h0, h1⟩
      obtain ⟨g1, g2, g3, g4⟩ := geoB_iff.1 (blockB_geo hb)
      have HS : Hid (stripeN n s b = b / (n - 1)) := by unfold Hid stripeN; rw [if_pos hb]
      have HI : Hid (indexN n s b = b % (n - 1)) := by unfold Hid indexN; rw [if_pos hb]
      have d1 : 0 ≤ b / (n - 1) := Int.ediv_nonneg (by omega) (by omega)
      have d2 : b / (n - 1) ≤ b := Int.ediv_le_self _ (by omega)
      have d3 : 0 ≤ b % (n - 1) := Int.emod_nonneg _ (by omega)
      have d4 : b % (n - 1) < n - 1 := Int.emod_lt_of_pos _ (by omega)
      have e1 : ¬ n - 1 = 0 := by omega
      have e3 : b.tmod (n - 1) = b % (n - 1) := Int.tmod_eq_emod_of_nonneg h0
      have e2 : IntKind.i64.wrap (b.tdiv (n - 1)) = b / (n - 1) := by rw [Int.tdiv_eq_ediv_of_nonneg h0]; exact IntWalk.i64_in _ (by omega)
      go_wp2_with fail
      go_region_held3 (fun w' => w'.cell? ⟨w.heap.size, 0, none⟩ = some (.int .i64 n) ∧ w'.cell? ⟨w.heap.size, 1, none⟩ = some (.int .i64 s))
        (first | (exact X3.cells) | (exact X2.cells) | (exact X1.cells) | go_keep)
        (first
          | (go_at_call 101; refine (perStripe_any _ _ _ g1 g2).mono ?_; rintro e w3 ⟨rfl, b3⟩; have B3 := Below.andThen B2 b3; have X3 := X2.below b3 X2.lt; have Y3 := Y2.below b3 Y2.lt; obtain ⟨k0, k1⟩ := X3.cells; obtain ⟨j0, j1⟩ := Y3.cells; have f0 := Y3.frozen 0; have f1 := Y3.frozen 1)
          | (go_at_call 101; refine (perStripe_any _ _ _ g1 g2).mono ?_; rintro e w2 ⟨rfl, b2⟩; have B2 := Below.andThen B1.drew b2; have X2 := X1.drew.below b2 X1.lt; have Y2 := Y1.drew.below b2 Y1.lt; obtain ⟨k0, k1⟩ := X2.cells))
      have Z := Y3.set2 (b / (n - 1)) (b % (n - 1))
      have BZ := (B3.setCell (p := ⟨w.heap.size + 1, 0, none⟩) (by simp) (.int .i64 (b / (n - 1)))).setCell (p := ⟨w.heap.size + 1, 1, none⟩) (by simp) (.int .i64 (b % (n - 1)))
      generalize ((w3.setCell ⟨w.heap.size + 1, 0, none⟩ (.int .i64 (b / (n - 1)))).setCell ⟨w.heap.size + 1, 1, none⟩ (.int .i64 (b % (n - 1)))) = w4 at Z BZ ⊢
      obtain ⟨q0, q1⟩ := Z.cells
      go_wp2
      refine bodyPost_ret (v := .agg #[.int .i64 (b / (n - 1)), .int .i64 (b % (n - 1))]) (by simp [results, Tryz.results62, go_sem, q0, q1]) rfl ?_
      exact ⟨by rw [HS.out, HI.out], BZ⟩
    · have HN : blockB n s b = false := blockB_not.2 (fun h => h1 h.2)
      have Z := Y1.set2 (-1) (-1)
      have BZ := (B1.setCell (p := ⟨w.heap.size + 1, 0, none⟩) (by simp) (.int .i64 (-1))).setCell (p := ⟨w.heap.size + 1, 1, none⟩) (by simp) (.int .i64 (-1))
      obtain ⟨q0, q1⟩ := Z.cells
      go_wp2
      refine bodyPost_ret (v := .agg #[.int .i64 (-1), .int .i64 (-1)]) (by simp [results, Tryz.results62, go_sem, q0, q1]) rfl ?_
      exact ⟨by unfold stripeN indexN; rw [HN]; rfl, BZ⟩
  · have HN : blockB n s b = false := blockB_not.2 (fun h => h0 h.1)
    clear j0 j1 k0 k1 f0 f1
    go_wp2
    refine bodyPost_ret (v := .agg #[.int .i64 (-1), .int .i64 (-1)]) (by simp [results, Tryz.results62, go_sem]) rfl ?_
    exact ⟨by unfold stripeN indexN; rw [HN]; rfl, (new_below w _).alloc (by simp) _⟩

end Go.Proofs.YtjmjianlcoleaaaGreat

/-
  The walks of the program's looks at an array's entries, at its records, and at the array as a whole. Condition: it weighs at most 2097152.
-/
namespace Go.Proofs.YtjmjianlcoleaaaGreat
open Go.RowKit

set_option linter.unusedSimpArgs false in
set_option maxRecDepth 20000 in
set_option maxHeartbeats 3200000 in
theorem dirtyOk_any (w : World) (G : TypeId) (x : ArrN) (am ad : Option Addr) (nm cm nd cd : Nat) (ds : List (Int × List Int)) (h0 : (tWrS G).Rd w [.slice ad nd cd] ds) (hw : wtWrS ds ≤ 2097152) (hg : geoB x.n x.s = true) :
    Calls Tryz.prog 128 #[.agg #[.int .i64 x.id, .int .i64 x.n, .int .i64 x.s, .slice am nm cm, .int .i64 x.lost, .int .i64 x.built, .int .i64 x.seq, .int .i64 x.tail, .int .i64 x.gen, .slice ad nd cd, .int .i64 x.fuse, .bool x.down, .bool x.broken]] w fun e w' => e = .returned (.bool (entsB x ds)) ∧ Below w.heap.size w w' := by
  obtain ⟨hl, hc, hm⟩ := row_length h0
  obtain ⟨g1, g2, g3, g4⟩ := geoB_iff.1 hg
  have hA := new_below w (.cells #[.int .i64 x.id, .int .i64 x.n, .int .i64 x.s, .slice am nm cm, .int .i64 x.lost, .int .i64 x.built, .int .i64 x.seq, .int .i64 x.tail, .int .i64 x.gen, .slice ad nd cd, .int .i64 x.fuse, .bool x.down, .bool x.broken] 35)
  have X := Box.new w 35 #[.int .i64 x.id, .int .i64 x.n, .int .i64 x.s, .slice am nm cm, .int .i64 x.lost, .int .i64 x.built, .int .i64 x.seq, .int .i64 x.tail, .int .i64 x.gen, .slice ad nd cd, .int .i64 x.fuse, .bool x.down, .bool x.broken]
  have zA := X.lt
  have hnd : nd ≤ 2097152 := by unfold wtWrS at hw; omega
  have h1 := h0.below hA
  obtain ⟨k0, k1, k2, k3, k4, k5, k6, k7, k8, k9, k10, k11, k12⟩ := X.cells13
  go_enter Tryz.func128, Tryz.ntmps128
  go_wp2
  generalize w.alloc (.cells #[.int .i64 x.id, .int .i64 x.n, .int .i64 x.s, .slice am nm cm, .int .i64 x.lost, .int .i64 x.built, .int .i64 x.seq, .int .i64 x.tail, .int .i64 x.gen, .slice ad nd cd, .int .i64 x.fuse, .bool x.down, .bool x.broken] 35) = W at hA X zA h1 k0 k1 k2 k3 k4 k5 k6 k7 k8 k9 k10 k11 k12 ⊢
  clear k0 k1 k2 k3 k4 k5 k6 k7 k8 k9 k10 k11 k12
  go_loopw [8] (fun i wr => ∃ j : Nat, j ≤ nd ∧ i = .int .i64 j ∧ (∀ (q : Nat) (d : Int × List Int), q < j → ds[q]? = some d → entAt x ds q d = true) ∧ Below W.heap.size W wr) (fun i _ => nd - (intOf i).toNat)
  case atStart => exact ⟨0, Nat.zero_le _, rfl, fun q d hq => by omega, Below.refl _ _⟩
  case round =>
    obtain ⟨j, hj, rfl, hall, hb⟩ := hrel
    have Xr := X.below hb zA
    by_cases hjn : j < nd
    · rcases pairs_at rfl h1 with h0' | ⟨b, off, rfl, hbl, hcs⟩
      · omega
      have hdj : ds[j]? = some (ds[j]'(by omega)) := List.getElem?_eq_getElem (by omega)
      generalize ds[j]'(by omega) = d at hdj
      obtain ⟨v0, v1, hv0, hv1, hrv⟩ := hcs j d hdj
      obtain ⟨rfl, hrw⟩ := wr_rd hrv
      obtain ⟨av, cv, rfl⟩ := row_shape hrw
      obtain ⟨y, zs⟩ := d
      simp only at hv0 hv1 hrw hrv
      have u0 := (hb.cell (p := ⟨b, off + j * 2, none⟩) hbl).trans hv0
      have u1 := (hb.cell (p := ⟨b, off + j * 2 + 1, none⟩) hbl).trans hv1
      have i1 : (0 : Int) ≤ (j : Int) := by omega
      have i2 : (j : Int) < (nd : Int) := by omega
      have hwz : zs.length ≤ 2097152 := Nat.le_trans (inner_le' hdj) hw
      have HDJ := hidden hdj
      have b1 := new_below wr (.cells #[.int .i64 y, .slice av zs.length cv] 65)
      have Y1 := Box.new wr 65 #[.int .i64 y, .slice av zs.length cv]
      have X1 := Xr.below b1 Xr.lt
      have RZ := (hrw.below hb).below b1
      have B1 := hb.trans (b1.mono hb.size)
      obtain ⟨y0, y1⟩ := Y1.cells2
      obtain ⟨e0, e1, e2, e3, e4, e5, e6, e7, e8, e9, e10, e11, e12⟩ := X1.cells13
      have zy := Y1.lt
      have zx := X1.lt
      have zb : b < (wr.alloc (.cells #[.int .i64 y, .slice av zs.length cv] 65)).heap.size := Nat.lt_of_lt_of_le hbl B1.size
      have hq : ∀ (p : Nat) (q : Int × List Int), ds[p]? = some q → (wr.alloc (.cells #[.int .i64 y, .slice av zs.length cv] 65)).cell? ⟨b, off + p * 2, none⟩ = some (.int .i64 q.1) := fun p q hpq => by
        obtain ⟨c0, c1, hc0, hc1, hrc⟩ := hcs p q hpq
        obtain ⟨rfl, _⟩ := wr_rd hrc
        exact (B1.cell (p := ⟨b, off + p * 2, none⟩) hbl).trans hc0
      have HQ := hidden hq
      clear hcs hv0 hv1 hrv hrw hdj hq b1 e0 e3 e4 e5 e6 e7 e8 e10 e11 e12
      cases hI : stripeB x.n x.s y
      · skip
        go_wp2_with fail
        generalize wr.alloc (.cells #[.int .i64 y, .slice av zs.length cv] 65) = w1 at X1 Y1 RZ B1 y0 y1 e1 e2 e9 zy zx zb HQ  ⊢
        refine wp_region_held_drew (S := fun w' => w'.cell? ⟨wr.heap.size, 0, none⟩ = some (.int .i64 y) ∧ w'.cell? ⟨w.heap.size, 1, none⟩ = some (.int .i64 x.n) ∧ w'.cell? ⟨w.heap.size, 2, none⟩ = some (.int .i64 x.s) ∧ w'.cell? ⟨w.heap.size, 9, none⟩ = some (.slice (some ⟨b, off, none⟩) nd cd)) (by kernel_rfl) ?_ (fun hHeld => ?_)
        · exact ⟨y0, e1, e2, e9⟩
        refine held_t 0 hHeld ?_
        refine held_t 1 hHeld ?_
        refine held_t 2 hHeld ?_
        refine held_t 3 hHeld ?_
        refine held_one (i := 4) (by kernel_rfl) rfl (by kernel_rfl) (fun K hK => ?_)
        go_simp
        refine (hasStripe_any _ x.n x.s y).mono ?_
        rintro e w2 ⟨rfl, b2⟩
        have b2' : Below w1.heap.size w1 w2 := (Below.refl w1.heap.size w1).drew.trans b2
        clear b2
        rw [hI]
        go_wp2_with fail
        clear hHeld
        refine hK.out _ _ ?_ (fun hHeld => ?_)
        · exact ⟨(b2'.cell (p := ⟨wr.heap.size, 0, none⟩) zy).trans y0, (b2'.cell (p := ⟨w.heap.size, 1, none⟩) zx).trans e1, (b2'.cell (p := ⟨w.heap.size, 2, none⟩) zx).trans e2, (b2'.cell (p := ⟨w.heap.size, 9, none⟩) zx).trans e9⟩
        clear hK K
        refine held_t 5 hHeld ?_
        refine held_t 6 hHeld ?_
        refine held_p 7 hHeld ?_
        refine held_p 8 hHeld ?_
        refine held_p 9 hHeld ?_
        refine held_p 10 hHeld ?_
        refine held_p 11 hHeld ?_
        refine held_p 12 hHeld ?_
        refine held_p 13 hHeld ?_
        refine held_p 14 hHeld ?_
        refine held_p 15 hHeld ?_
        refine held_p 16 hHeld ?_
        refine held_p 17 hHeld ?_
        refine held_p 18 hHeld ?_
        refine held_p 19 hHeld ?_
        refine held_p 20 hHeld ?_
        refine held_t 21 hHeld ?_
        refine wpAnyH_done (by kernel_rfl) ?_ _
        clear hHeld
        have HB := hidden (hA.trans ((B1.trans (b2'.mono B1.size)).mono hA.size))
        have HE := hidden (entsB_no (x := x) HDJ.out (entAt_1 (by rw [← stripe_in6 hg]; exact hI)))
        go_wp2
        go_ret
        exact ⟨ret_bool HE.out.symm, HB.out⟩
      · have HI := hidden ((stripe_in6 hg).symm.trans hI)
        by_cases hj0 : j = 0
        · subst hj0
          simp only [Nat.zero_mul, Nat.add_zero] at u0 u1
          by_cases hL : (zs.length : Int) = x.n - 1
          · have hL1 : ((zs.length : Int) == x.n - 1) = true := by simpa using hL
            have hL2 : ((zs.length : Int) != x.n - 1) = false := by simpa using hL
            have HL := hidden hL
            have hsa : secB zs = allW zs := sec_all6 (by omega)
            have HSA := hidden hsa
            clear hL hsa
            cases hZ : secB zs
            · have HZ := hidden (HSA.out.symm.trans hZ)
              go_wp2_with fail
              generalize wr.alloc (.cells #[.int .i64 y, .slice av zs.length cv] 65) = w1 at X1 Y1 RZ B1 y0 y1 e1 e2 e9 zy zx zb HQ  ⊢
              refine wp_region_held_drew (S := fun w' => w'.cell? ⟨wr.heap.size, 0, none⟩ = some (.int .i64 y) ∧ w'.cell? ⟨w.heap.size, 1, none⟩ = some (.int .i64 x.n) ∧ w'.cell? ⟨w.heap.size, 2, none⟩ = some (.int .i64 x.s) ∧ w'.cell? ⟨w.heap.size, 9, none⟩ = some (.slice (some ⟨b, off, none⟩) nd cd)) (by kernel_rfl) ?_ (fun hHeld => ?_)
              · exact ⟨y0, e1, e2, e9⟩
              refine held_t 0 hHeld ?_
              refine held_t 1 hHeld ?_
              refine held_t 2 hHeld ?_
              refine held_t 3 hHeld ?_
              refine held_one (i := 4) (by kernel_rfl) rfl (by kernel_rfl) (fun K hK => ?_)
              go_simp
              refine (hasStripe_any _ x.n x.s y).mono ?_
              rintro e w2 ⟨rfl, b2⟩
              have b2' : Below w1.heap.size w1 w2 := (Below.refl w1.heap.size w1).drew.trans b2
              clear b2
              rw [hI]
              go_wp2_with fail
              clear hHeld
              refine hK.out _ _ ?_ (fun hHeld => ?_)
              · exact ⟨(b2'.cell (p := ⟨wr.heap.size, 0, none⟩) zy).trans y0, (b2'.cell (p := ⟨w.heap.size, 1, none⟩) zx).trans e1, (b2'.cell (p := ⟨w.heap.size, 2, none⟩) zx).trans e2, (b2'.cell (p := ⟨w.heap.size, 9, none⟩) zx).trans e9⟩
              clear hK K
              refine held_t 5 hHeld ?_
              refine held_t 6 hHeld ?_
              refine held_t 7 hHeld ?_
              refine held_t 8 hHeld ?_
              refine held_t 9 hHeld ?_
              refine held_p 10 hHeld ?_
              refine held_p 11 hHeld ?_
              refine held_p 12 hHeld ?_
              refine held_p 13 hHeld ?_
              refine held_p 14 hHeld ?_
              refine held_p 15 hHeld ?_
              refine held_p 16 hHeld ?_
              refine held_p 17 hHeld ?_
              refine held_p 18 hHeld ?_
              refine held_p 19 hHeld ?_
              refine held_t 20 hHeld ?_
              refine held_t 21 hHeld ?_
              refine wpAnyH_done (by kernel_rfl) ?_ _
              clear hHeld
              have my1 := (b2'.cell (p := ⟨wr.heap.size, 1, none⟩) zy).trans y1
              have me1 := (b2'.cell (p := ⟨w.heap.size, 1, none⟩) zx).trans e1
              have me2 := (b2'.cell (p := ⟨w.heap.size, 2, none⟩) zx).trans e2
              have my := Nat.lt_of_lt_of_le zy b2'.size
              have mx := Nat.lt_of_lt_of_le zx b2'.size
              have RZ2 := RZ.below b2'
              go_wp2_with fail
              refine wp_region_held_drew (S := fun w' => w'.cell? ⟨wr.heap.size, 1, none⟩ = some (.slice av zs.length cv) ∧ w'.cell? ⟨w.heap.size, 1, none⟩ = some (.int .i64 x.n) ∧ w'.cell? ⟨w.heap.size, 2, none⟩ = some (.int .i64 x.s)) (by kernel_rfl) ?_ (fun hHeld => ?_)
              · exact ⟨my1, me1, me2⟩
              refine held_t 0 hHeld ?_
              refine held_t 1 hHeld ?_
              refine held_t 2 hHeld ?_
              refine held_t 3 hHeld ?_
              refine held_t 4 hHeld ?_
              refine held_one (i := 5) (by kernel_rfl) rfl (by kernel_rfl) (fun K hK => ?_)
              go_simp
              refine (perStripe_any _ x.n x.s g1 g2).mono ?_
              rintro e w3 ⟨rfl, b3⟩
              have b3' : Below w2.heap.size w2 w3 := (Below.refl w2.heap.size w2).drew.trans b3
              clear b3
              go_wp2_with fail
              clear hHeld
              refine hK.out _ _ ?_ (fun hHeld => ?_)
              · exact ⟨(b3'.cell (p := ⟨wr.heap.size, 1, none⟩) my).trans my1, (b3'.cell (p := ⟨w.heap.size, 1, none⟩) mx).trans me1, (b3'.cell (p := ⟨w.heap.size, 2, none⟩) mx).trans me2⟩
              clear hK K
              refine held_t 6 hHeld ?_
              refine held_t 7 hHeld ?_
              refine held_t 8 hHeld ?_
              refine held_t 9 hHeld ?_
              refine held_one (i := 10) (by kernel_rfl) rfl (by kernel_rfl) (fun K hK => ?_)
              go_simp
              refine (implSecOk_any _ _ _ _ zs rfl (ints_rd (RZ2.below b3')).1 hwz).mono ?_
              rintro e w4 ⟨rfl, s4⟩
              have b4' : Below w2.heap.size w2 w4 := Below.andThen b3' (s4.below _)
              clear s4
              rw [hZ]
              go_wp2_with fail
              clear hHeld
              refine hK.out _ _ ?_ (fun hHeld => ?_)
              · exact ⟨(b4'.cell (p := ⟨wr.heap.size, 1, none⟩) my).trans my1, (b4'.cell (p := ⟨w.heap.size, 1, none⟩) mx).trans me1, (b4'.cell (p := ⟨w.heap.size, 2, none⟩) mx).trans me2⟩
              clear hK K
              refine held_t 11 hHeld ?_
              refine held_t 12 hHeld ?_
              refine wpAnyH_done (by kernel_rfl) ?_ _
              clear hHeld
              have HB := hidden (hA.trans ((B1.trans ((Below.andThen b2' b4').mono B1.size)).mono hA.size))
              have HE := hidden (entsB_no (x := x) HDJ.out (entAt_3 HZ.out))
              go_wp2
              go_ret
              exact ⟨ret_bool HE.out.symm, HB.out⟩
            · have HZ := hidden (HSA.out.symm.trans hZ)
              go_wp2_with fail
              generalize wr.alloc (.cells #[.int .i64 y, .slice av zs.length cv] 65) = w1 at X1 Y1 RZ B1 y0 y1 e1 e2 e9 zy zx zb HQ  ⊢
              refine wp_region_held_drew (S := fun w' => w'.cell? ⟨wr.heap.size, 0, none⟩ = some (.int .i64 y) ∧ w'.cell? ⟨w.heap.size, 1, none⟩ = some (.int .i64 x.n) ∧ w'.cell? ⟨w.heap.size, 2, none⟩ = some (.int .i64 x.s) ∧ w'.cell? ⟨w.heap.size, 9, none⟩ = some (.slice (some ⟨b, off, none⟩) nd cd)) (by kernel_rfl) ?_ (fun hHeld => ?_)
              · exact ⟨y0, e1, e2, e9⟩
              refine held_t 0 hHeld ?_
              refine held_t 1 hHeld ?_
              refine held_t 2 hHeld ?_
              refine held_t 3 hHeld ?_
              refine held_one (i := 4) (by kernel_rfl) rfl (by kernel_rfl) (fun K hK => ?_)
              go_simp
              refine (hasStripe_any _ x.n x.s y).mono ?_
              rintro e w2 ⟨rfl, b2⟩
              have b2' : Below w1.heap.size w1 w2 := (Below.refl w1.heap.size w1).drew.trans b2
              clear b2
              rw [hI]
              go_wp2_with fail
              clear hHeld
              refine hK.out _ _ ?_ (fun hHeld => ?_)
              · exact ⟨(b2'.cell (p := ⟨wr.heap.size, 0, none⟩) zy).trans y0, (b2'.cell (p := ⟨w.heap.size, 1, none⟩) zx).trans e1, (b2'.cell (p := ⟨w.heap.size, 2, none⟩) zx).trans e2, (b2'.cell (p := ⟨w.heap.size, 9, none⟩) zx).trans e9⟩
              clear hK K
              refine held_t 5 hHeld ?_
              refine held_t 6 hHeld ?_
              refine held_t 7 hHeld ?_
              refine held_t 8 hHeld ?_
              refine held_t 9 hHeld ?_
              refine held_p 10 hHeld ?_
              refine held_p 11 hHeld ?_
              refine held_p 12 hHeld ?_
              refine held_p 13 hHeld ?_
              refine held_p 14 hHeld ?_
              refine held_p 15 hHeld ?_
              refine held_p 16 hHeld ?_
              refine held_p 17 hHeld ?_
              refine held_p 18 hHeld ?_
              refine held_p 19 hHeld ?_
              refine held_t 20 hHeld ?_
              refine held_t 21 hHeld ?_
              refine wpAnyH_done (by kernel_rfl) ?_ _
              clear hHeld
              have my1 := (b2'.cell (p := ⟨wr.heap.size, 1, none⟩) zy).trans y1
              have me1 := (b2'.cell (p := ⟨w.heap.size, 1, none⟩) zx).trans e1
              have me2 := (b2'.cell (p := ⟨w.heap.size, 2, none⟩) zx).trans e2
              have my := Nat.lt_of_lt_of_le zy b2'.size
              have mx := Nat.lt_of_lt_of_le zx b2'.size
              have RZ2 := RZ.below b2'
              go_wp2_with fail
              refine wp_region_held_drew (S := fun w' => w'.cell? ⟨wr.heap.size, 1, none⟩ = some (.slice av zs.length cv) ∧ w'.cell? ⟨w.heap.size, 1, none⟩ = some (.int .i64 x.n) ∧ w'.cell? ⟨w.heap.size, 2, none⟩ = some (.int .i64 x.s)) (by kernel_rfl) ?_ (fun hHeld => ?_)
              · exact ⟨my1, me1, me2⟩
              refine held_t 0 hHeld ?_
              refine held_t 1 hHeld ?_
              refine held_t 2 hHeld ?_
              refine held_t 3 hHeld ?_
              refine held_t 4 hHeld ?_
              refine held_one (i := 5) (by kernel_rfl) rfl (by kernel_rfl) (fun K hK => ?_)
              go_simp
              refine (perStripe_any _ x.n x.s g1 g2).mono ?_
              rintro e w3 ⟨rfl, b3⟩
              have b3' : Below w2.heap.size w2 w3 := (Below.refl w2.heap.size w2).drew.trans b3
              clear b3
              go_wp2_with fail
              clear hHeld
              refine hK.out _ _ ?_ (fun hHeld => ?_)
              · exact ⟨(b3'.cell (p := ⟨wr.heap.size, 1, none⟩) my).trans my1, (b3'.cell (p := ⟨w.heap.size, 1, none⟩) mx).trans me1, (b3'.cell (p := ⟨w.heap.size, 2, none⟩) mx).trans me2⟩
              clear hK K
              refine held_t 6 hHeld ?_
              refine held_t 7 hHeld ?_
              refine held_t 8 hHeld ?_
              refine held_t 9 hHeld ?_
              refine held_one (i := 10) (by kernel_rfl) rfl (by kernel_rfl) (fun K hK => ?_)
              go_simp
              refine (implSecOk_any _ _ _ _ zs rfl (ints_rd (RZ2.below b3')).1 hwz).mono ?_
              rintro e w4 ⟨rfl, s4⟩
              have b4' : Below w2.heap.size w2 w4 := Below.andThen b3' (s4.below _)
              clear s4
              rw [hZ]
              go_wp2_with fail
              clear hHeld
              refine hK.out _ _ ?_ (fun hHeld => ?_)
              · exact ⟨(b4'.cell (p := ⟨wr.heap.size, 1, none⟩) my).trans my1, (b4'.cell (p := ⟨w.heap.size, 1, none⟩) mx).trans me1, (b4'.cell (p := ⟨w.heap.size, 2, none⟩) mx).trans me2⟩
              clear hK K
              refine held_t 11 hHeld ?_
              refine held_t 12 hHeld ?_
              refine wpAnyH_done (by kernel_rfl) ?_ _
              clear hHeld
              have HB := hidden (B1.trans ((Below.andThen b2' b4').mono B1.size))
              have hat : entAt x ds (0) (y, zs) = true := entAt_4 HI.out HL.out HZ.out
              go_wp2
              go_roundw
              case rel => exact ⟨0 + 1, by omega, by go_num, fun q d hq hm' => by
                  rcases Nat.lt_or_ge q (0) with h | h
                  · exact hall q d h hm'
                  · obtain rfl : q = 0 := by omega
                    rw [HDJ.out] at hm'
                    cases hm'
                    exact hat, HB.out⟩
              case measure => simp [intOf]; omega
          · have hL1 : ((zs.length : Int) == x.n - 1) = false := by simpa using hL
            have hL2 : ((zs.length : Int) != x.n - 1) = true := by simpa using hL
            have HL := hidden hL
            clear hL
            go_wp2_with fail
            generalize wr.alloc (.cells #[.int .i64 y, .slice av zs.length cv] 65) = w1 at X1 Y1 RZ B1 y0 y1 e1 e2 e9 zy zx zb HQ  ⊢
            refine wp_region_held_drew (S := fun w' => w'.cell? ⟨wr.heap.size, 0, none⟩ = some (.int .i64 y) ∧ w'.cell? ⟨w.heap.size, 1, none⟩ = some (.int .i64 x.n) ∧ w'.cell? ⟨w.heap.size, 2, none⟩ = some (.int .i64 x.s) ∧ w'.cell? ⟨w.heap.size, 9, none⟩ = some (.slice (some ⟨b, off, none⟩) nd cd)) (by kernel_rfl) ?_ (fun hHeld => ?_)
            · exact ⟨y0, e1, e2, e9⟩
            refine held_t 0 hHeld ?_
            refine held_t 1 hHeld ?_
            refine held_t 2 hHeld ?_
            refine held_t 3 hHeld ?_
            refine held_one (i := 4) (by kernel_rfl) rfl (by kernel_rfl) (fun K hK => ?_)
            go_simp
            refine (hasStripe_any _ x.n x.s y).mono ?_
            rintro e w2 ⟨rfl, b2⟩
            have b2' : Below w1.heap.size w1 w2 := (Below.refl w1.heap.size w1).drew.trans b2
            clear b2
            rw [hI]
            go_wp2_with fail
            clear hHeld
            refine hK.out _ _ ?_ (fun hHeld => ?_)
            · exact ⟨(b2'.cell (p := ⟨wr.heap.size, 0, none⟩) zy).trans y0, (b2'.cell (p := ⟨w.heap.size, 1, none⟩) zx).trans e1, (b2'.cell (p := ⟨w.heap.size, 2, none⟩) zx).trans e2, (b2'.cell (p := ⟨w.heap.size, 9, none⟩) zx).trans e9⟩
            clear hK K
            refine held_t 5 hHeld ?_
            refine held_t 6 hHeld ?_
            refine held_t 7 hHeld ?_
            refine held_t 8 hHeld ?_
            refine held_t 9 hHeld ?_
            refine held_p 10 hHeld ?_
            refine held_p 11 hHeld ?_
            refine held_p 12 hHeld ?_
            refine held_p 13 hHeld ?_
            refine held_p 14 hHeld ?_
            refine held_p 15 hHeld ?_
            refine held_p 16 hHeld ?_
            refine held_p 17 hHeld ?_
            refine held_p 18 hHeld ?_
            refine held_p 19 hHeld ?_
            refine held_t 20 hHeld ?_
            refine held_t 21 hHeld ?_
            refine wpAnyH_done (by kernel_rfl) ?_ _
            clear hHeld
            have my1 := (b2'.cell (p := ⟨wr.heap.size, 1, none⟩) zy).trans y1
            have me1 := (b2'.cell (p := ⟨w.heap.size, 1, none⟩) zx).trans e1
            have me2 := (b2'.cell (p := ⟨w.heap.size, 2, none⟩) zx).trans e2
            have my := Nat.lt_of_lt_of_le zy b2'.size
            have mx := Nat.lt_of_lt_of_le zx b2'.size
            have RZ2 := RZ.below b2'
            go_wp2_with fail
            refine wp_region_held_drew (S := fun w' => w'.cell? ⟨wr.heap.size, 1, none⟩ = some (.slice av zs.length cv) ∧ w'.cell? ⟨w.heap.size, 1, none⟩ = some (.int .i64 x.n) ∧ w'.cell? ⟨w.heap.size, 2, none⟩ = some (.int .i64 x.s)) (by kernel_rfl) ?_ (fun hHeld => ?_)
            · exact ⟨my1, me1, me2⟩
            refine held_t 0 hHeld ?_
            refine held_t 1 hHeld ?_
            refine held_t 2 hHeld ?_
            refine held_t 3 hHeld ?_
            refine held_t 4 hHeld ?_
            refine held_one (i := 5) (by kernel_rfl) rfl (by kernel_rfl) (fun K hK => ?_)
            go_simp
            refine (perStripe_any _ x.n x.s g1 g2).mono ?_
            rintro e w3 ⟨rfl, b3⟩
            have b3' : Below w2.heap.size w2 w3 := (Below.refl w2.heap.size w2).drew.trans b3
            clear b3
            go_wp2_with fail
            clear hHeld
            refine hK.out _ _ ?_ (fun hHeld => ?_)
            · exact ⟨(b3'.cell (p := ⟨wr.heap.size, 1, none⟩) my).trans my1, (b3'.cell (p := ⟨w.heap.size, 1, none⟩) mx).trans me1, (b3'.cell (p := ⟨w.heap.size, 2, none⟩) mx).trans me2⟩
            clear hK K
            refine held_t 6 hHeld ?_
            refine held_t 7 hHeld ?_
            refine held_p 8 hHeld ?_
            refine held_p 9 hHeld ?_
            refine held_none (i := 10) (by kernel_rfl) rfl (by kernel_rfl) hHeld ?_
            simp only [Act.put, List.setIfInBounds_toArray, List.set_cons_zero, List.set_cons_succ]
            refine held_p 11 hHeld ?_
            refine held_t 12 hHeld ?_
            refine wpAnyH_done (by kernel_rfl) ?_ _
            clear hHeld
            have HB := hidden (hA.trans ((B1.trans ((Below.andThen b2' b3').mono B1.size)).mono hA.size))
            have HE := hidden (entsB_no (x := x) HDJ.out (entAt_2 HL.out))
            go_wp2
            go_ret
            exact ⟨ret_bool HE.out.symm, HB.out⟩
        · obtain ⟨p, rfl⟩ : ∃ p, j = p + 1 := ⟨j - 1, by omega⟩
          have hpq : ds[p]? = some (ds[p]'(by omega)) := List.getElem?_eq_getElem (by omega)
          generalize ds[p]'(by omega) = q at hpq
          have qc := HQ.out p q hpq
          obtain ⟨s, zq⟩ := q
          simp only at qc
          have HPQ := hidden hpq
          clear hpq
          have j1 : IntKind.i64.wrap (((p + 1 : Nat) : Int) - 1) = (p : Int) := by rw [IntWalk.i64_in _ (by omega)]; omega
          have j2 : IntKind.i64.wrap ((p : Int) + 1 - 1) = (p : Int) := by rw [IntWalk.i64_in _ (by omega)]; omega
          have j3 : IntKind.i64.wrap (p : Int) = (p : Int) := IntWalk.i64_in _ (by omega)
          have j4 : (0 : Int) ≤ (p : Int) := by omega
          have j5 : (p : Int) < (nd : Int) := by omega
          have j6 : (0 : Int) < ((p + 1 : Nat) : Int) := by omega
          by_cases hlt : s < y
          · have hge : ¬ y ≤ s := by omega
            by_cases hL : (zs.length : Int) = x.n - 1
            · have hL1 : ((zs.length : Int) == x.n - 1) = true := by simpa using hL
              have hL2 : ((zs.length : Int) != x.n - 1) = false := by simpa using hL
              have HL := hidden hL
              have hsa : secB zs = allW zs := sec_all6 (by omega)
              have HSA := hidden hsa
              clear hL hsa
              cases hZ : secB zs
              · have HZ := hidden (HSA.out.symm.trans hZ)
                go_wp2_with fail
                generalize wr.alloc (.cells #[.int .i64 y, .slice av zs.length cv] 65) = w1 at X1 Y1 RZ B1 y0 y1 e1 e2 e9 zy zx zb HQ qc ⊢
                refine wp_region_held_drew (S := fun w' => w'.cell? ⟨wr.heap.size, 0, none⟩ = some (.int .i64 y) ∧ w'.cell? ⟨w.heap.size, 1, none⟩ = some (.int .i64 x.n) ∧ w'.cell? ⟨w.heap.size, 2, none⟩ = some (.int .i64 x.s) ∧ w'.cell? ⟨w.heap.size, 9, none⟩ = some (.slice (some ⟨b, off, none⟩) nd cd) ∧ w'.cell? ⟨b, off + p * 2, none⟩ = some (.int .i64 s)) (by kernel_rfl) ?_ (fun hHeld => ?_)
                · exact ⟨y0, e1, e2, e9, qc⟩
                refine held_t 0 hHeld ?_
                refine held_t 1 hHeld ?_
                refine held_t 2 hHeld ?_
                refine held_t 3 hHeld ?_
                refine held_one (i := 4) (by kernel_rfl) rfl (by kernel_rfl) (fun K hK => ?_)
                go_simp
                refine (hasStripe_any _ x.n x.s y).mono ?_
                rintro e w2 ⟨rfl, b2⟩
                have b2' : Below w1.heap.size w1 w2 := (Below.refl w1.heap.size w1).drew.trans b2
                clear b2
                rw [hI]
                go_wp2_with fail
                clear hHeld
                refine hK.out _ _ ?_ (fun hHeld => ?_)
                · exact ⟨(b2'.cell (p := ⟨wr.heap.size, 0, none⟩) zy).trans y0, (b2'.cell (p := ⟨w.heap.size, 1, none⟩) zx).trans e1, (b2'.cell (p := ⟨w.heap.size, 2, none⟩) zx).trans e2, (b2'.cell (p := ⟨w.heap.size, 9, none⟩) zx).trans e9, (b2'.cell (p := ⟨b, off + p * 2, none⟩) zb).trans qc⟩
                clear hK K
                refine held_t 5 hHeld ?_
                refine held_t 6 hHeld ?_
                refine held_t 7 hHeld ?_
                refine held_t 8 hHeld ?_
                refine held_t 9 hHeld ?_
                refine held_t 10 hHeld ?_
                refine held_t 11 hHeld ?_
                refine held_t 12 hHeld ?_
                refine held_t 13 hHeld ?_
                refine held_t 14 hHeld ?_
                refine held_t 15 hHeld ?_
                refine held_t 16 hHeld ?_
                refine held_t 17 hHeld ?_
                refine held_t 18 hHeld ?_
                refine held_t 19 hHeld ?_
                refine held_t 20 hHeld ?_
                refine held_t 21 hHeld ?_
                refine wpAnyH_done (by kernel_rfl) ?_ _
                clear hHeld
                have my1 := (b2'.cell (p := ⟨wr.heap.size, 1, none⟩) zy).trans y1
                have me1 := (b2'.cell (p := ⟨w.heap.size, 1, none⟩) zx).trans e1
                have me2 := (b2'.cell (p := ⟨w.heap.size, 2, none⟩) zx).trans e2
                have my := Nat.lt_of_lt_of_le zy b2'.size
                have mx := Nat.lt_of_lt_of_le zx b2'.size
                have RZ2 := RZ.below b2'
                go_wp2_with fail
                refine wp_region_held_drew (S := fun w' => w'.cell? ⟨wr.heap.size, 1, none⟩ = some (.slice av zs.length cv) ∧ w'.cell? ⟨w.heap.size, 1, none⟩ = some (.int .i64 x.n) ∧ w'.cell? ⟨w.heap.size, 2, none⟩ = some (.int .i64 x.s)) (by kernel_rfl) ?_ (fun hHeld => ?_)
                · exact ⟨my1, me1, me2⟩
                refine held_t 0 hHeld ?_
                refine held_t 1 hHeld ?_
                refine held_t 2 hHeld ?_
                refine held_t 3 hHeld ?_
                refine held_t 4 hHeld ?_
                refine held_one (i := 5) (by kernel_rfl) rfl (by kernel_rfl) (fun K hK => ?_)
                go_simp
                refine (perStripe_any _ x.n x.s g1 g2).mono ?_
                rintro e w3 ⟨rfl, b3⟩
                have b3' : Below w2.heap.size w2 w3 := (Below.refl w2.heap.size w2).drew.trans b3
                clear b3
                go_wp2_with fail
                clear hHeld
                refine hK.out _ _ ?_ (fun hHeld => ?_)
                · exact ⟨(b3'.cell (p := ⟨wr.heap.size, 1, none⟩) my).trans my1, (b3'.cell (p := ⟨w.heap.size, 1, none⟩) mx).trans me1, (b3'.cell (p := ⟨w.heap.size, 2, none⟩) mx).trans me2⟩
                clear hK K
                refine held_t 6 hHeld ?_
                refine held_t 7 hHeld ?_
                refine held_t 8 hHeld ?_
                refine held_t 9 hHeld ?_
                refine held_one (i := 10) (by kernel_rfl) rfl (by kernel_rfl) (fun K hK => ?_)
                go_simp
                refine (implSecOk_any _ _ _ _ zs rfl (ints_rd (RZ2.below b3')).1 hwz).mono ?_
                rintro e w4 ⟨rfl, s4⟩
                have b4' : Below w2.heap.size w2 w4 := Below.andThen b3' (s4.below _)
                clear s4
                rw [hZ]
                go_wp2_with fail
                clear hHeld
                refine hK.out _ _ ?_ (fun hHeld => ?_)
                · exact ⟨(b4'.cell (p := ⟨wr.heap.size, 1, none⟩) my).trans my1, (b4'.cell (p := ⟨w.heap.size, 1, none⟩) mx).trans me1, (b4'.cell (p := ⟨w.heap.size, 2, none⟩) mx).trans me2⟩
                clear hK K
                refine held_t 11 hHeld ?_
                refine held_t 12 hHeld ?_
                refine wpAnyH_done (by kernel_rfl) ?_ _
                clear hHeld
                have HB := hidden (hA.trans ((B1.trans ((Below.andThen b2' b4').mono B1.size)).mono hA.size))
                have HE := hidden (entsB_no (x := x) HDJ.out (entAt_3 HZ.out))
                go_wp2
                go_ret
                exact ⟨ret_bool HE.out.symm, HB.out⟩
              · have HZ := hidden (HSA.out.symm.trans hZ)
                go_wp2_with fail
                generalize wr.alloc (.cells #[.int .i64 y, .slice av zs.length cv] 65) = w1 at X1 Y1 RZ B1 y0 y1 e1 e2 e9 zy zx zb HQ qc ⊢
                refine wp_region_held_drew (S := fun w' => w'.cell? ⟨wr.heap.size, 0, none⟩ = some (.int .i64 y) ∧ w'.cell? ⟨w.heap.size, 1, none⟩ = some (.int .i64 x.n) ∧ w'.cell? ⟨w.heap.size, 2, none⟩ = some (.int .i64 x.s) ∧ w'.cell? ⟨w.heap.size, 9, none⟩ = some (.slice (some ⟨b, off, none⟩) nd cd) ∧ w'.cell? ⟨b, off + p * 2, none⟩ = some (.int .i64 s)) (by kernel_rfl) ?_ (fun hHeld => ?_)
                · exact ⟨y0, e1, e2, e9, qc⟩
                refine held_t 0 hHeld ?_
                refine held_t 1 hHeld ?_
                refine held_t 2 hHeld ?_
                refine held_t 3 hHeld ?_
                refine held_one (i := 4) (by kernel_rfl) rfl (by kernel_rfl) (fun K hK => ?_)
                go_simp
                refine (hasStripe_any _ x.n x.s y).mono ?_
                rintro e w2 ⟨rfl, b2⟩
                have b2' : Below w1.heap.size w1 w2 := (Below.refl w1.heap.size w1).drew.trans b2
                clear b2
                rw [hI]
                go_wp2_with fail
                clear hHeld
                refine hK.out _ _ ?_ (fun hHeld => ?_)
                · exact ⟨(b2'.cell (p := ⟨wr.heap.size, 0, none⟩) zy).trans y0, (b2'.cell (p := ⟨w.heap.size, 1, none⟩) zx).trans e1, (b2'.cell (p := ⟨w.heap.size, 2, none⟩) zx).trans e2, (b2'.cell (p := ⟨w.heap.size, 9, none⟩) zx).trans e9, (b2'.cell (p := ⟨b, off + p * 2, none⟩) zb).trans qc⟩
                clear hK K
                refine held_t 5 hHeld ?_
                refine held_t 6 hHeld ?_
                refine held_t 7 hHeld ?_
                refine held_t 8 hHeld ?_
                refine held_t 9 hHeld ?_
                refine held_t 10 hHeld ?_
                refine held_t 11 hHeld ?_
                refine held_t 12 hHeld ?_
                refine held_t 13 hHeld ?_
                refine held_t 14 hHeld ?_
                refine held_t 15 hHeld ?_
                refine held_t 16 hHeld ?_
                refine held_t 17 hHeld ?_
                refine held_t 18 hHeld ?_
                refine held_t 19 hHeld ?_
                refine held_t 20 hHeld ?_
                refine held_t 21 hHeld ?_
                refine wpAnyH_done (by kernel_rfl) ?_ _
                clear hHeld
                have my1 := (b2'.cell (p := ⟨wr.heap.size, 1, none⟩) zy).trans y1
                have me1 := (b2'.cell (p := ⟨w.heap.size, 1, none⟩) zx).trans e1
                have me2 := (b2'.cell (p := ⟨w.heap.size, 2, none⟩) zx).trans e2
                have my := Nat.lt_of_lt_of_le zy b2'.size
                have mx := Nat.lt_of_lt_of_le zx b2'.size
                have RZ2 := RZ.below b2'
                go_wp2_with fail
                refine wp_region_held_drew (S := fun w' => w'.cell? ⟨wr.heap.size, 1, none⟩ = some (.slice av zs.length cv) ∧ w'.cell? ⟨w.heap.size, 1, none⟩ = some (.int .i64 x.n) ∧ w'.cell? ⟨w.heap.size, 2, none⟩ = some (.int .i64 x.s)) (by kernel_rfl) ?_ (fun hHeld => ?_)
                · exact ⟨my1, me1, me2⟩
                refine held_t 0 hHeld ?_
                refine held_t 1 hHeld ?_
                refine held_t 2 hHeld ?_
                refine held_t 3 hHeld ?_
                refine held_t 4 hHeld ?_
                refine held_one (i := 5) (by kernel_rfl) rfl (by kernel_rfl) (fun K hK => ?_)
                go_simp
                refine (perStripe_any _ x.n x.s g1 g2).mono ?_
                rintro e w3 ⟨rfl, b3⟩
                have b3' : Below w2.heap.size w2 w3 := (Below.refl w2.heap.size w2).drew.trans b3
                clear b3
                go_wp2_with fail
                clear hHeld
                refine hK.out _ _ ?_ (fun hHeld => ?_)
                · exact ⟨(b3'.cell (p := ⟨wr.heap.size, 1, none⟩) my).trans my1, (b3'.cell (p := ⟨w.heap.size, 1, none⟩) mx).trans me1, (b3'.cell (p := ⟨w.heap.size, 2, none⟩) mx).trans me2⟩
                clear hK K
                refine held_t 6 hHeld ?_
                refine held_t 7 hHeld ?_
                refine held_t 8 hHeld ?_
                refine held_t 9 hHeld ?_
                refine held_one (i := 10) (by kernel_rfl) rfl (by kernel_rfl) (fun K hK => ?_)
                go_simp
                refine (implSecOk_any _ _ _ _ zs rfl (ints_rd (RZ2.below b3')).1 hwz).mono ?_
                rintro e w4 ⟨rfl, s4⟩
                have b4' : Below w2.heap.size w2 w4 := Below.andThen b3' (s4.below _)
                clear s4
                rw [hZ]
                go_wp2_with fail
                clear hHeld
                refine hK.out _ _ ?_ (fun hHeld => ?_)
                · exact ⟨(b4'.cell (p := ⟨wr.heap.size, 1, none⟩) my).trans my1, (b4'.cell (p := ⟨w.heap.size, 1, none⟩) mx).trans me1, (b4'.cell (p := ⟨w.heap.size, 2, none⟩) mx).trans me2⟩
                clear hK K
                refine held_t 11 hHeld ?_
                refine held_t 12 hHeld ?_
                refine wpAnyH_done (by kernel_rfl) ?_ _
                clear hHeld
                have HB := hidden (B1.trans ((Below.andThen b2' b4').mono B1.size))
                have hat : entAt x ds (p + 1) (y, zs) = true := (entAt_5 HI.out HL.out HZ.out HPQ.out).trans (by simpa using hlt)
                go_wp2
                go_roundw
                case rel => exact ⟨p + 1 + 1, by omega, by go_num, fun q d hq hm' => by
                    rcases Nat.lt_or_ge q (p + 1) with h | h
                    · exact hall q d h hm'
                    · obtain rfl : q = p + 1 := by omega
                      rw [HDJ.out] at hm'
                      cases hm'
                      exact hat, HB.out⟩
                case measure => simp [intOf]; omega
            · have hL1 : ((zs.length : Int) == x.n - 1) = false := by simpa using hL
              have hL2 : ((zs.length : Int) != x.n - 1) = true := by simpa using hL
              have HL := hidden hL
              clear hL
              go_wp2_with fail
              generalize wr.alloc (.cells #[.int .i64 y, .slice av zs.length cv] 65) = w1 at X1 Y1 RZ B1 y0 y1 e1 e2 e9 zy zx zb HQ qc ⊢
              refine wp_region_held_drew (S := fun w' => w'.cell? ⟨wr.heap.size, 0, none⟩ = some (.int .i64 y) ∧ w'.cell? ⟨w.heap.size, 1, none⟩ = some (.int .i64 x.n) ∧ w'.cell? ⟨w.heap.size, 2, none⟩ = some (.int .i64 x.s) ∧ w'.cell? ⟨w.heap.size, 9, none⟩ = some (.slice (some ⟨b, off, none⟩) nd cd) ∧ w'.cell? ⟨b, off + p * 2, none⟩ = some (.int .i64 s)) (by kernel_rfl) ?_ (fun hHeld => ?_)
              · exact ⟨y0, e1, e2, e9, qc⟩
              refine held_t 0 hHeld ?_
              refine held_t 1 hHeld ?_
              refine held_t 2 hHeld ?_
              refine held_t 3 hHeld ?_
              refine held_one (i := 4) (by kernel_rfl) rfl (by kernel_rfl) (fun K hK => ?_)
              go_simp
              refine (hasStripe_any _ x.n x.s y).mono ?_
              rintro e w2 ⟨rfl, b2⟩
              have b2' : Below w1.heap.size w1 w2 := (Below.refl w1.heap.size w1).drew.trans b2
              clear b2
              rw [hI]
              go_wp2_with fail
              clear hHeld
              refine hK.out _ _ ?_ (fun hHeld => ?_)
              · exact ⟨(b2'.cell (p := ⟨wr.heap.size, 0, none⟩) zy).trans y0, (b2'.cell (p := ⟨w.heap.size, 1, none⟩) zx).trans e1, (b2'.cell (p := ⟨w.heap.size, 2, none⟩) zx).trans e2, (b2'.cell (p := ⟨w.heap.size, 9, none⟩) zx).trans e9, (b2'.cell (p := ⟨b, off + p * 2, none⟩) zb).trans qc⟩
              clear hK K
              refine held_t 5 hHeld ?_
              refine held_t 6 hHeld ?_
              refine held_t 7 hHeld ?_
              refine held_t 8 hHeld ?_
              refine held_t 9 hHeld ?_
              refine held_t 10 hHeld ?_
              refine held_t 11 hHeld ?_
              refine held_t 12 hHeld ?_
              refine held_t 13 hHeld ?_
              refine held_t 14 hHeld ?_
              refine held_t 15 hHeld ?_
              refine held_t 16 hHeld ?_
              refine held_t 17 hHeld ?_
              refine held_t 18 hHeld ?_
              refine held_t 19 hHeld ?_
              refine held_t 20 hHeld ?_
              refine held_t 21 hHeld ?_
              refine wpAnyH_done (by kernel_rfl) ?_ _
              clear hHeld
              have my1 := (b2'.cell (p := ⟨wr.heap.size, 1, none⟩) zy).trans y1
              have me1 := (b2'.cell (p := ⟨w.heap.size, 1, none⟩) zx).trans e1
              have me2 := (b2'.cell (p := ⟨w.heap.size, 2, none⟩) zx).trans e2
              have my := Nat.lt_of_lt_of_le zy b2'.size
              have mx := Nat.lt_of_lt_of_le zx b2'.size
              have RZ2 := RZ.below b2'
              go_wp2_with fail
              refine wp_region_held_drew (S := fun w' => w'.cell? ⟨wr.heap.size, 1, none⟩ = some (.slice av zs.length cv) ∧ w'.cell? ⟨w.heap.size, 1, none⟩ = some (.int .i64 x.n) ∧ w'.cell? ⟨w.heap.size, 2, none⟩ = some (.int .i64 x.s)) (by kernel_rfl) ?_ (fun hHeld => ?_)
              · exact ⟨my1, me1, me2⟩
              refine held_t 0 hHeld ?_
              refine held_t 1 hHeld ?_
              refine held_t 2 hHeld ?_
              refine held_t 3 hHeld ?_
              refine held_t 4 hHeld ?_
              refine held_one (i := 5) (by kernel_rfl) rfl (by kernel_rfl) (fun K hK => ?_)
              go_simp
              refine (perStripe_any _ x.n x.s g1 g2).mono ?_
              rintro e w3 ⟨rfl, b3⟩
              have b3' : Below w2.heap.size w2 w3 := (Below.refl w2.heap.size w2).drew.trans b3
              clear b3
              go_wp2_with fail
              clear hHeld
              refine hK.out _ _ ?_ (fun hHeld => ?_)
              · exact ⟨(b3'.cell (p := ⟨wr.heap.size, 1, none⟩) my).trans my1, (b3'.cell (p := ⟨w.heap.size, 1, none⟩) mx).trans me1, (b3'.cell (p := ⟨w.heap.size, 2, none⟩) mx).trans me2⟩
              clear hK K
              refine held_t 6 hHeld ?_
              refine held_t 7 hHeld ?_
              refine held_p 8 hHeld ?_
              refine held_p 9 hHeld ?_
              refine held_none (i := 10) (by kernel_rfl) rfl (by kernel_rfl) hHeld ?_
              simp only [Act.put, List.setIfInBounds_toArray, List.set_cons_zero, List.set_cons_succ]
              refine held_p 11 hHeld ?_
              refine held_t 12 hHeld ?_
              refine wpAnyH_done (by kernel_rfl) ?_ _
              clear hHeld
              have HB := hidden (hA.trans ((B1.trans ((Below.andThen b2' b3').mono B1.size)).mono hA.size))
              have HE := hidden (entsB_no (x := x) HDJ.out (entAt_2 HL.out))
              go_wp2
              go_ret
              exact ⟨ret_bool HE.out.symm, HB.out⟩
          · have hge : y ≤ s := by omega
            go_wp2_with fail
            generalize wr.alloc (.cells #[.int .i64 y, .slice av zs.length cv] 65) = w1 at X1 Y1 RZ B1 y0 y1 e1 e2 e9 zy zx zb HQ qc ⊢
            refine wp_region_held_drew (S := fun w' => w'.cell? ⟨wr.heap.size, 0, none⟩ = some (.int .i64 y) ∧ w'.cell? ⟨w.heap.size, 1, none⟩ = some (.int .i64 x.n) ∧ w'.cell? ⟨w.heap.size, 2, none⟩ = some (.int .i64 x.s) ∧ w'.cell? ⟨w.heap.size, 9, none⟩ = some (.slice (some ⟨b, off, none⟩) nd cd) ∧ w'.cell? ⟨b, off + p * 2, none⟩ = some (.int .i64 s)) (by kernel_rfl) ?_ (fun hHeld => ?_)
            · exact ⟨y0, e1, e2, e9, qc⟩
            refine held_t 0 hHeld ?_
            refine held_t 1 hHeld ?_
            refine held_t 2 hHeld ?_
            refine held_t 3 hHeld ?_
            refine held_one (i := 4) (by kernel_rfl) rfl (by kernel_rfl) (fun K hK => ?_)
            go_simp
            refine (hasStripe_any _ x.n x.s y).mono ?_
            rintro e w2 ⟨rfl, b2⟩
            have b2' : Below w1.heap.size w1 w2 := (Below.refl w1.heap.size w1).drew.trans b2
            clear b2
            rw [hI]
            go_wp2_with fail
            clear hHeld
            refine hK.out _ _ ?_ (fun hHeld => ?_)
            · exact ⟨(b2'.cell (p := ⟨wr.heap.size, 0, none⟩) zy).trans y0, (b2'.cell (p := ⟨w.heap.size, 1, none⟩) zx).trans e1, (b2'.cell (p := ⟨w.heap.size, 2, none⟩) zx).trans e2, (b2'.cell (p := ⟨w.heap.size, 9, none⟩) zx).trans e9, (b2'.cell (p := ⟨b, off + p * 2, none⟩) zb).trans qc⟩
            clear hK K
            refine held_t 5 hHeld ?_
            refine held_t 6 hHeld ?_
            refine held_t 7 hHeld ?_
            refine held_t 8 hHeld ?_
            refine held_t 9 hHeld ?_
            refine held_t 10 hHeld ?_
            refine held_t 11 hHeld ?_
            refine held_t 12 hHeld ?_
            refine held_t 13 hHeld ?_
            refine held_t 14 hHeld ?_
            refine held_t 15 hHeld ?_
            refine held_t 16 hHeld ?_
            refine held_t 17 hHeld ?_
            refine held_t 18 hHeld ?_
            refine held_t 19 hHeld ?_
            refine held_t 20 hHeld ?_
            refine held_t 21 hHeld ?_
            refine wpAnyH_done (by kernel_rfl) ?_ _
            clear hHeld
            have HB := hidden (hA.trans ((B1.trans (b2'.mono B1.size)).mono hA.size))
            have HE := hidden (entsB_no (x := x) HDJ.out (entAt_6 HPQ.out hge))
            go_wp2
            go_ret
            exact ⟨ret_bool HE.out.symm, HB.out⟩
    · have ej : j = nd := by omega
      subst ej
      have hAll : entsB x ds = true := allIx_iff.2 (fun q d hq => hall q d (by have := (List.getElem?_eq_some_iff.1 hq).1; omega) hq)
      have HB := hidden (hA.trans (hb.mono hA.size))
      go_wp2
      go_ret
      exact ⟨ret_bool hAll.symm, HB.out⟩

set_option maxHeartbeats 1600000 in
theorem recsOk_any (w : World) (x : ArrN) (am ad : Option Addr) (nm cm nd cd : Nat) :
    Calls Tryz.prog 127 #[.agg #[.int .i64 x.id, .int .i64 x.n, .int .i64 x.s, .slice am nm cm, .int .i64 x.lost, .int .i64 x.built, .int .i64 x.seq, .int .i64 x.tail, .int .i64 x.gen, .slice ad nd cd, .int .i64 x.fuse, .bool x.down, .bool x.broken]] w fun e w' => e = .returned (.bool (recB6 x)) ∧ Below w.heap.size w w' := by
  have hA := new_below w (.cells #[.int .i64 x.id, .int .i64 x.n, .int .i64 x.s, .slice am nm cm, .int .i64 x.lost, .int .i64 x.built, .int .i64 x.seq, .int .i64 x.tail, .int .i64 x.gen, .slice ad nd cd, .int .i64 x.fuse, .bool x.down, .bool x.broken] 35)
  have X := Box.new w 35 #[.int .i64 x.id, .int .i64 x.n, .int .i64 x.s, .slice am nm cm, .int .i64 x.lost, .int .i64 x.built, .int .i64 x.seq, .int .i64 x.tail, .int .i64 x.gen, .slice ad nd cd, .int .i64 x.fuse, .bool x.down, .bool x.broken]
  obtain ⟨k0, k1, k2, k3, k4, k5, k6, k7, k8, k9, k10, k11, k12⟩ := X.cells13
  clear k0 k1 k2 k3 k4 k5 k8 k9 k10 k11 k12 X
  go_enter Tryz.func127, Tryz.ntmps127
  go_wp2_with fail
  refine (within_any _ _ _ _).mono ?_
  rintro e wq ⟨rfl, hq⟩
  obtain rfl := hq.symm
  cases hs : inB x.seq 0 60000
  · have HF : Hid (recB6 x = false) := by unfold Hid recB6; rw [hs]; rfl
    go_wp2
    go_ret
    exact ⟨ret_bool HF.out.symm, hA⟩
  · go_wp2_with fail
    refine (within_any _ _ _ _).mono ?_
    rintro e wq ⟨rfl, hq⟩
    obtain rfl := hq.symm
    cases ht : inB x.tail 0 60000
    · have HF : Hid (recB6 x = false) := by unfold Hid recB6; rw [hs, ht]; rfl
      go_wp2
      go_ret
      exact ⟨ret_bool HF.out.symm, hA⟩
    · have HF : Hid (recB6 x = inB (x.seq - x.tail) 0 4) := by unfold Hid recB6; rw [hs, ht]; rfl
      obtain ⟨s1, s2⟩ := inB_iff.1 hs
      obtain ⟨t1, t2⟩ := inB_iff.1 ht
      have hw : IntKind.i64.wrap (x.seq - x.tail) = x.seq - x.tail := IntWalk.i64_in _ (by omega)
      go_wp2_with fail
      refine (within_any _ _ _ _).mono ?_
      rintro e wq ⟨rfl, hq⟩
      obtain rfl := hq.symm
      cases hd : inB (x.seq - x.tail) 0 4
      · go_wp2
        go_ret
        exact ⟨ret_bool (by rw [HF.out, hd]), hA⟩
      · go_wp2
        go_ret
        exact ⟨ret_bool (by rw [HF.out, hd]), hA⟩

set_option maxRecDepth 20000 in
set_option maxHeartbeats 3200000 in
theorem implArrOk_any (w : World) (E F G : TypeId) (x : ArrN) (am ad : Option Addr) (nm cm nd cd : Nat) (ms : List MemD) (ds : List (Int × List Int)) (h0 : (tMemS E F).Rd w [.slice am nm cm] ms) (h1 : (tWrS G).Rd w [.slice ad nd cd] ds) (hw : wtArr ms ds ≤ 2097152) :
    Calls Tryz.prog 88 #[.agg #[.int .i64 x.id, .int .i64 x.n, .int .i64 x.s, .slice am nm cm, .int .i64 x.lost, .int .i64 x.built, .int .i64 x.seq, .int .i64 x.tail, .int .i64 x.gen, .slice ad nd cd, .int .i64 x.fuse, .bool x.down, .bool x.broken]] w fun e w' => e = .returned (.bool (arrB x ms ds)) ∧ Below w.heap.size w w' := by
  have hwm : wtMemS ms ≤ 2097152 := by unfold wtArr at hw; omega
  have hwd : wtWrS ds ≤ 2097152 := by unfold wtArr at hw; omega
  have hA := new_below w (.cells #[.int .i64 x.id, .int .i64 x.n, .int .i64 x.s, .slice am nm cm, .int .i64 x.lost, .int .i64 x.built, .int .i64 x.seq, .int .i64 x.tail, .int .i64 x.gen, .slice ad nd cd, .int .i64 x.fuse, .bool x.down, .bool x.broken] 35)
  have X := Box.new w 35 #[.int .i64 x.id, .int .i64 x.n, .int .i64 x.s, .slice am nm cm, .int .i64 x.lost, .int .i64 x.built, .int .i64 x.seq, .int .i64 x.tail, .int .i64 x.gen, .slice ad nd cd, .int .i64 x.fuse, .bool x.down, .bool x.broken]
  obtain ⟨k0, k1, k2, k3, k4, k5, k6, k7, k8, k9, k10, k11, k12⟩ := X.cells13
  have zA := X.lt
  have r0 := h0.below hA
  have r1 := h1.below hA
  go_enter Tryz.func88, Tryz.ntmps88
  go_wp2_with fail
  generalize w.alloc (.cells #[.int .i64 x.id, .int .i64 x.n, .int .i64 x.s, .slice am nm cm, .int .i64 x.lost, .int .i64 x.built, .int .i64 x.seq, .int .i64 x.tail, .int .i64 x.gen, .slice ad nd cd, .int .i64 x.fuse, .bool x.down, .bool x.broken] 35) = W at hA X zA r0 r1 k0 k1 k2 k3 k4 k5 k6 k7 k8 k9 k10 k11 k12 ⊢
  refine (implGeoOk_any _ _ _).mono ?_
  rintro e w1 ⟨rfl, b1⟩
  have X1 := X.below b1 X.lt
  have B1 := Below.andThen hA b1
  have q1 := r0.below b1
  have t1 := r1.below b1
  clear k0 k1 k2 k3 k4 k5 k6 k7 k8 k9 k10 k11 k12 b1 X hA r0 r1
  obtain ⟨k0, k1, k2, k3, k4, k5, k6, k7, k8, k9, k10, k11, k12⟩ := X1.cells13
  cases hg : geoB x.n x.s
  · have HF : Hid (arrB x ms ds = false) := by
      unfold Hid
      unfold arrB; rw [hg]; rfl
    go_wp2
    go_ret
    exact ⟨ret_bool HF.out.symm, B1⟩
  · have HE := hidden (arr_same6 (ms := ms) (ds := ds) hg)
    obtain ⟨g1, g2, g3, g4⟩ := geoB_iff.1 hg
    go_wp2_with fail
    refine (within_any _ _ _ _).mono ?_
    rintro e wq ⟨rfl, hq⟩
    obtain rfl := hq.symm
    cases hid : inB x.id 1 60000
    · have HF : Hid (arrB x ms ds = false) := by
        unfold Hid
        rw [HE.out, hid]; rfl
      go_wp2
      go_ret
      exact ⟨ret_bool HF.out.symm, B1⟩
    · go_wp2_with fail
      refine (lostOk_any _ x.n x.s x.lost x.built ⟨g1, g2⟩).mono ?_
      rintro e w2 ⟨rfl, b2⟩
      have X2 := X1.below b2 X1.lt
      have B2 := Below.andThen B1 b2
      have q2 := q1.below b2
      have t2 := t1.below b2
      clear k0 k1 k2 k3 k4 k5 k6 k7 k8 k9 k10 k11 k12 b2 X1 B1 q1 t1
      obtain ⟨k0, k1, k2, k3, k4, k5, k6, k7, k8, k9, k10, k11, k12⟩ := X2.cells13
      cases hlo : lostB x.n x.s x.lost x.built
      · have HF : Hid (arrB x ms ds = false) := by
          unfold Hid
          rw [HE.out, hid, hlo]; rfl
        go_wp2
        go_ret
        exact ⟨ret_bool HF.out.symm, B2⟩
      · skip
        go_wp2_with fail
        refine (within_any _ _ _ _).mono ?_
        rintro e wq ⟨rfl, hq⟩
        obtain rfl := hq.symm
        cases hge : inB x.gen 0 60000
        · have HF : Hid (arrB x ms ds = false) := by
            unfold Hid
            rw [HE.out, hid, hlo, hge]; rfl
          go_wp2
          go_ret
          exact ⟨ret_bool HF.out.symm, B2⟩
        · skip
          go_wp2_with fail
          refine (within_any _ _ _ _).mono ?_
          rintro e wq ⟨rfl, hq⟩
          obtain rfl := hq.symm
          cases hfu : inB x.fuse (-1) 1000
          · have HF : Hid (arrB x ms ds = false) := by
              unfold Hid
              rw [HE.out, hid, hlo, hge, hfu]; rfl
            go_wp2
            go_ret
            exact ⟨ret_bool HF.out.symm, B2⟩
          · go_wp2_with fail
            refine (memsOk_any _ E F x _ _ _ _ _ _ ms q2 hwm hg).mono ?_
            rintro e w3 ⟨rfl, b3⟩
            have X3 := X2.below b3 X2.lt
            have B3 := Below.andThen B2 b3
            have q3 := q2.below b3
            have t3 := t2.below b3
            clear k0 k1 k2 k3 k4 k5 k6 k7 k8 k9 k10 k11 k12 b3 X2 B2 q2 t2
            obtain ⟨k0, k1, k2, k3, k4, k5, k6, k7, k8, k9, k10, k11, k12⟩ := X3.cells13
            cases hms : memsB x ms
            · have HF : Hid (arrB x ms ds = false) := by
                unfold Hid
                rw [HE.out, hid, hlo, hge, hfu, hms]; rfl
              go_wp2
              go_ret
              exact ⟨ret_bool HF.out.symm, B3⟩
            · go_wp2_with fail
              refine (recsOk_any _ x _ _ _ _ _ _).mono ?_
              rintro e w4 ⟨rfl, b4⟩
              have X4 := X3.below b4 X3.lt
              have B4 := Below.andThen B3 b4
              have q4 := q3.below b4
              have t4 := t3.below b4
              clear k0 k1 k2 k3 k4 k5 k6 k7 k8 k9 k10 k11 k12 b4 X3 B3 q3 t3
              obtain ⟨k0, k1, k2, k3, k4, k5, k6, k7, k8, k9, k10, k11, k12⟩ := X4.cells13
              cases hre : recB6 x
              · have HF : Hid (arrB x ms ds = false) := by
                  unfold Hid
                  rw [HE.out, hid, hlo, hge, hfu, hms, hre]; rfl
                go_wp2
                go_ret
                exact ⟨ret_bool HF.out.symm, B4⟩
              · have HF : Hid (arrB x ms ds = entsB x ds) := by
                  unfold Hid
                  rw [HE.out, hid, hlo, hge, hfu, hms, hre]; rfl
                go_wp2_with fail
                refine (dirtyOk_any _ G x _ _ _ _ _ _ ds t4 hwd hg).mono ?_
                rintro e w5 ⟨rfl, b5⟩
                have X5 := X4.below b5 X4.lt
                have B5 := Below.andThen B4 b5
                have q5 := q4.below b5
                have t5 := t4.below b5
                clear k0 k1 k2 k3 k4 k5 k6 k7 k8 k9 k10 k11 k12 b5 X4 B4 q4 t4
                obtain ⟨k0, k1, k2, k3, k4, k5, k6, k7, k8, k9, k10, k11, k12⟩ := X5.cells13
                cases hds : entsB x ds
                · go_wp2
                  go_ret
                  exact ⟨ret_bool (by rw [HF.out, hds]), B5⟩
                · go_wp2
                  go_ret
                  exact ⟨ret_bool (by rw [HF.out, hds]), B5⟩

end Go.Proofs.YtjmjianlcoleaaaGreat

/-
  The walks of the program's look whether a disk lives at a stripe, and of a stripe's words. Condition: the array weighs at most 2097152.
-/
namespace Go.Proofs.YtjmjianlcoleaaaGreat
open Go.RowKit

theorem wordOn_any (w : World) (E : TypeId) (x : ArrN) (ms : List MemD) (j : Nat) (v : Value) (s : Int) (hd : DiskV w E x ms j v) (hw : wtMemS ms ≤ 2097152) :
    Calls Tryz.prog 137 #[v, .int .i64 s] w fun e w' => e = .returned (.tuple #[.int .i64 (word6 x ms (j : Int) s), .bool (has6 x ms (j : Int) s)]) ∧ Below w.heap.size w w' := by
  obtain ⟨a0, a1, a3, c0, c1, c3, ss, cs, f, bs, hj, r0, r1, r3, h⟩ := hd
  have hwm := Nat.le_trans (inner_leM hj) hw
  obtain ⟨hh, hv⟩ := has_at6 (x := x) (s := s) hj
  have hl := live_at6 (x := x) (s := s) hj
  rcases h with ⟨rfl, rfl⟩ | ⟨rfl, hx, rfl⟩ | ⟨rfl, hx, rfl⟩
  · exact wordOn_failed w x ms j s (by rw [hh, hl]; rfl)
  · exact wordOn_lost w E x ms j s a0 a1 a3 c0 c1 c3 ss cs bs r0 r1 r3 hwm (by rw [hh, hl]; simp [hx]) hv
  · exact wordOn_sound w E x ms j s a0 a1 a3 c0 c1 c3 ss cs bs r0 r1 r3 hwm (by rw [hh, hl]; simp [hx]) hv

theorem bears_any (w : World) (E : TypeId) (x : ArrN) (ms : List MemD) (j : Nat) (v : Value) (s : Int) (hd : DiskV w E x ms j v) :
    Calls Tryz.prog 166 #[v, .int .i64 s] w fun e w' => e = .returned (.bool (liveB x ms (j : Int) s)) ∧ Below w.heap.size w w' := by
  obtain ⟨a0, a1, a3, c0, c1, c3, ss, cs, f, bs, hj, r0, r1, r3, h⟩ := hd
  have hl := live_at6 (x := x) (s := s) hj
  rcases h with ⟨rfl, rfl⟩ | ⟨rfl, hx, rfl⟩ | ⟨rfl, hx, rfl⟩
  · refine (bears_failed w s).mono ?_
    rintro e w' ⟨rfl, rfl⟩
    exact ⟨ret_bool (by rw [hl]; rfl), Below.refl _ _⟩
  · refine (bears_lost w _ _ _ _ _ _ _ _ _ _ _ _).mono ?_
    rintro e w' ⟨rfl, b⟩
    exact ⟨ret_bool (by rw [hl]; simp [hx]), b⟩
  · refine (bears_sound w _ _ _ _ _ _ _ _ _ _ _).mono ?_
    rintro e w' ⟨rfl, b⟩
    exact ⟨ret_bool (by rw [hl]; simp [hx]), b⟩

set_option maxRecDepth 20000 in
set_option maxHeartbeats 1600000 in
theorem implLiveAt_any (w : World) (E F G : TypeId) (x : ArrN) (am ad : Option Addr) (nm cm nd cd : Nat) (ms : List MemD) (ds : List (Int × List Int)) (m s : Int) (h0 : (tMemS E F).Rd w [.slice am nm cm] ms) (_ : (tWrS G).Rd w [.slice ad nd cd] ds) (hw : wtArr ms ds ≤ 2097152) :
    Calls Tryz.prog 160 #[.agg #[.int .i64 x.id, .int .i64 x.n, .int .i64 x.s, .slice am nm cm, .int .i64 x.lost, .int .i64 x.built, .int .i64 x.seq, .int .i64 x.tail, .int .i64 x.gen, .slice ad nd cd, .int .i64 x.fuse, .bool x.down, .bool x.broken], .int .i64 m, .int .i64 s] w fun e w' => e = .returned (.bool (liveB x ms m s)) ∧ Below w.heap.size w w' := by
  have hwm : wtMemS ms ≤ 2097152 := by unfold wtArr at hw; omega
  obtain ⟨hl, hc, hm⟩ := row_length h0
  have hA := new_below w (.cells #[.int .i64 x.id, .int .i64 x.n, .int .i64 x.s, .slice am nm cm, .int .i64 x.lost, .int .i64 x.built, .int .i64 x.seq, .int .i64 x.tail, .int .i64 x.gen, .slice ad nd cd, .int .i64 x.fuse, .bool x.down, .bool x.broken] 35)
  have X := Box.new w 35 #[.int .i64 x.id, .int .i64 x.n, .int .i64 x.s, .slice am nm cm, .int .i64 x.lost, .int .i64 x.built, .int .i64 x.seq, .int .i64 x.tail, .int .i64 x.gen, .slice ad nd cd, .int .i64 x.fuse, .bool x.down, .bool x.broken]
  obtain ⟨k0, k1, k2, k3, k4, k5, k6, k7, k8, k9, k10, k11, k12⟩ := X.cells13
  have r0 := h0.below hA
  have zA := X.lt
  go_enter Tryz.func160, Tryz.ntmps160
  go_wp2_with fail
  generalize w.alloc (.cells #[.int .i64 x.id, .int .i64 x.n, .int .i64 x.s, .slice am nm cm, .int .i64 x.lost, .int .i64 x.built, .int .i64 x.seq, .int .i64 x.tail, .int .i64 x.gen, .slice ad nd cd, .int .i64 x.fuse, .bool x.down, .bool x.broken] 35) = W at hA X zA r0 k0 k1 k2 k3 k4 k5 k6 k7 k8 k9 k10 k11 k12 ⊢
  refine (hasDisk_any _ x _ _ _ _ _ _ m).mono ?_
  rintro e w1 ⟨rfl, b1⟩
  have X1 := X.below b1 zA
  have B1 := Below.andThen hA b1
  have q1 := r0.below b1
  clear k0 k1 k2 k3 k4 k5 k6 k7 k8 k9 k10 k11 k12 X b1 hA zA r0
  obtain ⟨k0, k1, k2, k3, k4, k5, k6, k7, k8, k9, k10, k11, k12⟩ := X1.cells13
  cases hi : inB m 0 ((nm : Int) - 1)
  · have HF : Hid (liveB x ms m s = false) := by unfold Hid liveB; rw [hl, hi]; rfl
    go_wp2
    go_ret
    exact ⟨ret_bool HF.out.symm, B1⟩
  · have hi2 := inB_iff.1 hi
    obtain ⟨j, rfl⟩ := Int.eq_ofNat_of_zero_le hi2.1
    go_wp2_with fail
    refine (diskAt_any _ E F x _ _ _ _ _ _ ms j q1 hwm (by omega)).mono ?_
    rintro e w2 ⟨v, rfl, hd, b2⟩
    have B2 := Below.andThen B1 b2
    clear k0 k1 k2 k3 k4 k5 k6 k7 k8 k9 k10 k11 k12 X1 b2 B1 q1
    go_wp2_with fail
    refine (bears_any _ E x ms j v s hd).mono ?_
    rintro e w3 ⟨rfl, b3⟩
    have B3 := Below.andThen B2 b3
    clear b3 B2 hd
    go_wp2
    go_ret
    exact ⟨rfl, B3⟩

theorem fill6 (x : ArrN) (ms : List MemD) (s : Int) (n j : Nat) (h : j < n) : (wordL x ms s j ++ List.replicate (n - j) (0 : Int)).set j (word6 x ms (j : Int) s) = wordL x ms s (j + 1) ++ List.replicate (n - (j + 1)) (0 : Int) := by
  have e : n - j = (n - (j + 1)) + 1 := by omega
  rw [List.set_append, if_neg (by rw [wordL_len]; omega), wordL_len, Nat.sub_self, e, List.replicate_succ, List.set_cons_zero, wordL_succ, List.append_assoc]
  rfl

set_option maxRecDepth 20000 in
set_option maxHeartbeats 3200000 in
theorem implWords_any (w : World) (E F G : TypeId) (x : ArrN) (am ad : Option Addr) (nm cm nd cd : Nat) (ms : List MemD) (ds : List (Int × List Int)) (s : Int) (h0 : (tMemS E F).Rd w [.slice am nm cm] ms) (h1 : (tWrS G).Rd w [.slice ad nd cd] ds) (hw : wtArr ms ds ≤ 2097152) :
    Calls Tryz.prog 103 #[.agg #[.int .i64 x.id, .int .i64 x.n, .int .i64 x.s, .slice am nm cm, .int .i64 x.lost, .int .i64 x.built, .int .i64 x.seq, .int .i64 x.tail, .int .i64 x.gen, .slice ad nd cd, .int .i64 x.fuse, .bool x.down, .bool x.broken], .int .i64 s] w fun e w' => ∃ a' l' c', e = .returned (.tuple #[.slice a' l' c', .bool (wordsOk6 x ms ds s)]) ∧ tIntS.Own w' w.heap.size w'.heap.size [.slice a' l' c'] (wordsL6 x ms ds s) ∧ Below w.heap.size w w' := by
  have hwm : wtMemS ms ≤ 2097152 := by unfold wtArr at hw; omega
  obtain ⟨hl, hc, hm⟩ := row_length h0
  obtain ⟨i0, hi, hz0, hz1, hz2⟩ := info_parts Tryz.info3
  have hA := new_below w (.cells #[.int .i64 x.id, .int .i64 x.n, .int .i64 x.s, .slice am nm cm, .int .i64 x.lost, .int .i64 x.built, .int .i64 x.seq, .int .i64 x.tail, .int .i64 x.gen, .slice ad nd cd, .int .i64 x.fuse, .bool x.down, .bool x.broken] 35)
  have X := Box.new w 35 #[.int .i64 x.id, .int .i64 x.n, .int .i64 x.s, .slice am nm cm, .int .i64 x.lost, .int .i64 x.built, .int .i64 x.seq, .int .i64 x.tail, .int .i64 x.gen, .slice ad nd cd, .int .i64 x.fuse, .bool x.down, .bool x.broken]
  obtain ⟨k0, k1, k2, k3, k4, k5, k6, k7, k8, k9, k10, k11, k12⟩ := X.cells13
  have zA := X.lt
  have r0 := h0.below hA
  have r1 := h1.below hA
  go_enter Tryz.func103, Tryz.ntmps103
  go_wp2_with fail
  generalize w.alloc (.cells #[.int .i64 x.id, .int .i64 x.n, .int .i64 x.s, .slice am nm cm, .int .i64 x.lost, .int .i64 x.built, .int .i64 x.seq, .int .i64 x.tail, .int .i64 x.gen, .slice ad nd cd, .int .i64 x.fuse, .bool x.down, .bool x.broken] 35) = W at hA X zA r0 r1 k0 k1 k2 k3 k4 k5 k6 k7 k8 k9 k10 k11 k12 ⊢
  refine (implArrOk_any _ E F G x _ _ _ _ _ _ ms ds r0 r1 hw).mono ?_
  rintro e w1 ⟨rfl, b1⟩
  have X1 := X.below b1 zA
  have B1 := Below.andThen hA b1
  have q1 := r0.below b1
  clear k0 k1 k2 k3 k4 k5 k6 k7 k8 k9 k10 k11 k12 X b1 hA zA r0 r1
  obtain ⟨k0, k1, k2, k3, k4, k5, k6, k7, k8, k9, k10, k11, k12⟩ := X1.cells13
  cases ha : arrB x ms ds
  · skip
    have HF : Hid (wordsOk6 x ms ds s = false ∧ wordsL6 x ms ds s = []) := by unfold Hid wordsOk6 wordsL6 okB6; simp [ha]
    have FO := hidden ((own_ints (Owns.lit .i64 3 w1 [] 0 #[] rfl rfl (by unfold maxLen; omega))).widen (lo' := w.heap.size) B1.size (Nat.le_refl _))
    have FB := hidden (B1.alloc B1.size (.cells #[] 3))
    go_wp2
    refine bodyPost_ret (v := .tuple #[.slice (some ⟨w1.heap.size, 0, none⟩) 0 0, .bool false]) (by simp [results, Tryz.results103, go_sem]) rfl ?_
    exact ⟨_, _, _, by rw [HF.out.1], by rw [HF.out.2]; exact FO.out, FB.out⟩
  · have hg : geoB x.n x.s = true := by unfold arrB at ha; simp only [Bool.and_eq_true] at ha; exact ha.1
    have hmn : (ms.length : Int) = x.n := by unfold arrB memsB at ha; simp only [Bool.and_eq_true, decide_eq_true_eq] at ha; exact ha.2.2.1.2
    have HMN := hidden hmn
    clear hmn
    obtain ⟨g1, g2, g3, g4⟩ := geoB_iff.1 hg
    cases hbr : x.broken
    · rw [hbr] at k12
      go_wp2_with fail
      refine (hasStripe_any _ x.n x.s s).mono ?_
      rintro e w2 ⟨rfl, b2⟩
      have X2 := X1.below b2 X1.lt
      have B2 := Below.andThen B1 b2
      have q2 := q1.below b2
      clear k0 k1 k2 k3 k4 k5 k6 k7 k8 k9 k10 k11 k12 X1 b2 B1 q1
      have hst := stripe_in6 (x := x) (y := s) hg
      cases hin : stripeB x.n x.s s
      · skip
        have HF : Hid (wordsOk6 x ms ds s = false ∧ wordsL6 x ms ds s = []) := by unfold Hid wordsOk6 wordsL6 okB6; rw [← hst, hin]; simp
        have FO := hidden ((own_ints (Owns.lit .i64 3 w2 [] 0 #[] rfl rfl (by unfold maxLen; omega))).widen (lo' := w.heap.size) B2.size (Nat.le_refl _))
        have FB := hidden (B2.alloc B2.size (.cells #[] 3))
        go_wp2
        refine bodyPost_ret (v := .tuple #[.slice (some ⟨w2.heap.size, 0, none⟩) 0 0, .bool false]) (by simp [results, Tryz.results103, go_sem]) rfl ?_
        exact ⟨_, _, _, by rw [HF.out.1], by rw [HF.out.2]; exact FO.out, FB.out⟩
      · have HF : Hid (wordsOk6 x ms ds s = wordsB x ms s ∧ wordsL6 x ms ds s = words6 x ms s) := by unfold Hid wordsOk6 wordsL6 okB6; rw [ha, hbr, ← hst, hin]; exact ⟨rfl, rfl⟩
        clear hst hbr ha hin
        obtain ⟨n, hn⟩ : ∃ n : Nat, x.n = (n : Int) := ⟨x.n.toNat, by omega⟩
        have HN := hidden hn
        have HNT : Hid (x.n.toNat = n) := by unfold Hid; omega
        have hn5 : n ≤ 5 := by omega
        have hn3 : 3 ≤ n := by omega
        have hnm : n = nm := by have := HMN.out; omega
        have HNM := hidden hnm
        clear hnm
        obtain ⟨k0, k1, k2, k3, k4, k5, k6, k7, k8, k9, k10, k11, k12⟩ := X2.cells13
        rw [hn] at k1
        clear hn k0 k2 k3 k4 k5 k6 k7 k8 k9 k10 k11 k12
        have hb3 : i0.bytes * n ≤ 281474976710656 := by rw [hz2]; omega
        have hm3 : n ≤ maxLen := by unfold maxLen; omega
        go_wp2_with (at_make; refine wpList_make_full _ rfl _ _ 48 rfl w2.heap.size 3 i0 (.int .i64 0) 1 Tryz.underlying48 hi hz0 hz1 _ _ _ _ n rfl rfl rfl rfl hb3 hm3 (Nat.le_refl _) ?_; intro w3 hown hgrow)
        have hO : Owns .i64 3 w3 w2.heap.size (.slice (some ⟨w2.heap.size, 0, none⟩) n n) (List.replicate n 0) := by
          rw [made_ints] at hown
          unfold Owns
          rw [List.length_replicate]
          exact hown
        have hO1 := hO.own
        have hB1 : Below w2.heap.size w2 w3 := (Below.refl _ _).grown hgrow (Nat.le_refl _) (by simp)
        have zw : w2.heap.size < w3.heap.size := hO1.2 _ rfl
        generalize w3.heap.size = hi1 at hO1 zw
        clear hown hgrow hO k1
        go_loopw [7, 32] (fun lo i wr => ∃ j : Nat, j ≤ n ∧ i = .int .i64 j ∧ lo = .int .i64 (lostN (missL x ms s j)) ∧ (missL x ms s j).length ≤ 1 ∧ Own .i64 3 wr w2.heap.size hi1 (.slice (some ⟨w2.heap.size, 0, none⟩) n n) (wordL x ms s j ++ List.replicate (n - j) 0) ∧ Below w2.heap.size w2 wr) (fun _ i _ => n - (intOf i).toNat)
        case atStart => exact ⟨0, Nat.zero_le _, rfl, rfl, Nat.zero_le _, by simpa [wordL] using hO1, hB1⟩
        case round =>
          clear hO1 hB1
          obtain ⟨j, hj, rfl, rfl, hm1, ho, hb⟩ := hrel
          have Xr := X2.below hb X2.lt
          have zs := hb.size
          by_cases hlt : j < n
          · obtain ⟨k0, k1, k2, k3, k4, k5, k6, k7, k8, k9, k10, k11, k12⟩ := Xr.cells13
            have hlt' : (j : Int) < (n : Int) := by omega
            go_wp2_with fail
            refine (diskAt_any _ E F x _ _ _ _ _ _ ms j (q2.below hb) hwm (by have := HNM.out; omega)).mono ?_
            rintro e w5 ⟨v, rfl, hd, b5⟩
            have o5 := ho.below b5
            have B5 := hb.trans (b5.mono zs)
            clear k0 k1 k2 k3 k4 k5 k6 k7 k8 k9 k10 k11 k12 Xr b5 ho hb
            go_wp2_with fail
            refine (wordOn_any _ E x ms j v s hd hwm).mono ?_
            rintro e w6 ⟨rfl, b6⟩
            have o6 := o5.below b6
            have B6 := B5.trans (b6.mono B5.size)
            clear b6 o5 B5 hd
            have hfs := fill6 x ms s n j hlt
            obtain ⟨hcy, hfy, hst, hbt⟩ := o6.store j hlt (word6 x ms (j : Int) s)
            rw [hfs] at hst
            have HST := hidden hst
            have HB : Hid (Below w2.heap.size w2 (w6.setCell ⟨w2.heap.size, j, none⟩ (.int .i64 (word6 x ms (j : Int) s)))) := B6.setCell (Nat.le_refl _) _
            have hj0 : (0 : Int) ≤ (j : Int) := Int.natCast_nonneg _
            clear hst hbt hfs
            generalize (wordL x ms s j ++ List.replicate (n - j) 0).getD j 0 = old at hcy
            cases hh : has6 x ms (j : Int) s
            · have hmn := missL_no hh
              rcases list_cases hm1 with h00 | ⟨p, hp⟩
              · have hl0 : lostN (missL x ms s j) = -1 := by rw [h00]; rfl
                have hl1 : lostN (missL x ms s (j + 1)) = (j : Int) := by rw [hmn, h00]; rfl
                have hc1 : (missL x ms s (j + 1)).length ≤ 1 := by rw [hmn, h00]; exact Nat.le_refl _
                have HL1 := hidden hl1
                have HC1 := hidden hc1
                rw [hl0]
                clear hmn h00 hl0 hl1 hc1 B6 o6
                generalize word6 x ms (j : Int) s = y at HST HB ⊢
                go_wp2
                go_roundw
                case rel => exact ⟨j + 1, by omega, by go_num, by rw [HL1.out], HC1.out, HST.out, HB.out⟩
                case measure => simp [intOf]; omega
              · have hl0 : lostN (missL x ms s j) = (p : Int) := by rw [hp]; rfl
                obtain ⟨t1, t2⟩ := words_two (x := x) (ms := ms) (s := s) (j := j + 1) (by rw [hmn, hp]; exact Nat.le_refl _) (by have := HNT.out; omega)
                have HT1 := hidden t1
                have HT2 := hidden t2
                rw [hl0]
                have hp0 : ((p : Int) != -1) = true := by simp
                have hp1 : ((p : Int) == -1) = false := by simp
                clear hmn hp hl0 t1 t2 HST HB
                have FO := hidden ((own_ints (Owns.lit .i64 3 w6 [] 0 #[] rfl rfl (by unfold maxLen; omega))).widen (lo' := w.heap.size) (Nat.le_trans B2.size B6.size) (Nat.le_refl _))
                have FB := hidden (B2.trans ((B6.alloc B6.size (.cells #[] 3)).mono B2.size))
                clear B6 o6
                go_wp2
                refine bodyPost_ret (v := .tuple #[.slice (some ⟨w6.heap.size, 0, none⟩) 0 0, .bool false]) (by simp [results, Tryz.results103, go_sem]) rfl ?_
                exact ⟨_, _, _, by rw [HF.out.1, HT1.out], by rw [HF.out.2, HT2.out]; exact FO.out, FB.out⟩
            · have hmy := missL_yes hh
              have HL1 : Hid (lostN (missL x ms s (j + 1)) = lostN (missL x ms s j)) := by unfold Hid; rw [hmy]
              have HC1 : Hid ((missL x ms s (j + 1)).length ≤ 1) := by unfold Hid; rw [hmy]; exact hm1
              clear hmy B6 o6
              generalize word6 x ms (j : Int) s = y at HST HB ⊢
              go_wp2
              go_roundw
              case rel => exact ⟨j + 1, by omega, by go_num, by rw [HL1.out], HC1.out, HST.out, HB.out⟩
              case measure => simp [intOf]; omega
          · have ej : j = n := by omega
            subst ej
            rw [Nat.sub_self, List.replicate_zero, List.append_nil] at ho
            have hlen := wordL_len x ms s j
            rcases list_cases hm1 with h00 | ⟨p, hp⟩
            · have hl0 : lostN (missL x ms s j) = -1 := by rw [h00]; rfl
              obtain ⟨t1, t2⟩ := words_none (x := x) (ms := ms) (s := s) (by rw [HNT.out]; exact h00)
              rw [HNT.out] at t2
              have HT1 := hidden t1
              have HT2 := hidden t2
              rw [hl0]
              clear h00 hl0 t1 t2
              have FO := hidden ((own_ints ho.1).widen (lo' := w.heap.size) B2.size (Nat.le_refl _))
              have FB := hidden (B2.trans (hb.mono B2.size))
              clear ho hb Xr hlen hm1 hj hlt
              go_wp2
              refine bodyPost_ret (v := .tuple #[.slice (some ⟨w2.heap.size, 0, none⟩) j j, .bool true]) (by simp [results, Tryz.results103, go_sem]) rfl ?_
              exact ⟨_, _, _, by rw [HF.out.1, HT1.out], by rw [HF.out.2, HT2.out]; exact FO.out, FB.out⟩
            · have hl0 : lostN (missL x ms s j) = (p : Int) := by rw [hp]; rfl
              have hpj : p < j := missL_lt (x := x) (ms := ms) (s := s) (by rw [hp]; simp)
              obtain ⟨t1, t2⟩ := words_one (x := x) (ms := ms) (s := s) (p := p) (by rw [HNT.out]; exact hp)
              rw [HNT.out] at t2
              have HT1 := hidden t1
              have HT2 := hidden t2
              rw [hl0]
              clear hp hl0 t1 t2
              have hp0 : ((p : Int) != -1) = true := by simp
              have hp1 : ((p : Int) == -1) = false := by simp
              have hp2 : (0 : Int) ≤ (p : Int) := by omega
              have hp3 : (p : Int) < (j : Int) := by omega
              go_wp2_with fail
              refine (implMissingWord_any _ _ _ _ (wordL x ms s j) (p : Int) hlen ho.reads (by omega)).mono ?_
              rintro e w7 ⟨rfl, hs7⟩
              have O1 := ho.same hs7
              have B7 := hb.trans (hs7.below _)
              obtain ⟨c1, f1, O2, t2⟩ := O1.store p hpj (skipL (wordL x ms s j) (p : Int) j)
              have FO := hidden ((own_ints O2.1).widen (lo' := w.heap.size) B2.size (Nat.le_refl _))
              have FB := hidden (B2.trans ((B7.setCell (p := ⟨w2.heap.size, p, none⟩) (Nat.le_refl _) (.int .i64 (skipL (wordL x ms s j) (p : Int) j))).mono B2.size))
              generalize (wordL x ms s j).getD p 0 = y at c1
              generalize skipL (wordL x ms s j) (p : Int) j = q at FO FB HT2 ⊢
              clear O1 O2 t2 ho hb hs7 Xr B7
              go_wp2
              refine bodyPost_ret (v := .tuple #[.slice (some ⟨w2.heap.size, 0, none⟩) j j, .bool true]) (by simp [results, Tryz.results103, go_sem]) rfl ?_
              exact ⟨_, _, _, by rw [HF.out.1, HT1.out], by rw [HF.out.2, HT2.out]; exact FO.out, FB.out⟩
    · rw [hbr] at k12
      have HF : Hid (wordsOk6 x ms ds s = false ∧ wordsL6 x ms ds s = []) := by unfold Hid wordsOk6 wordsL6 okB6; simp [hbr]
      have FO := hidden ((own_ints (Owns.lit .i64 3 w1 [] 0 #[] rfl rfl (by unfold maxLen; omega))).widen (lo' := w.heap.size) B1.size (Nat.le_refl _))
      have FB := hidden (B1.alloc B1.size (.cells #[] 3))
      go_wp2
      refine bodyPost_ret (v := .tuple #[.slice (some ⟨w1.heap.size, 0, none⟩) 0 0, .bool false]) (by simp [results, Tryz.results103, go_sem]) rfl ?_
      exact ⟨_, _, _, by rw [HF.out.1], by rw [HF.out.2]; exact FO.out, FB.out⟩

end Go.Proofs.YtjmjianlcoleaaaGreat

/-
  The walks of the program's StripeOf, IndexOf and BlockAt. No condition.
-/
namespace Go.Proofs.YtjmjianlcoleaaaGreat
open Go.RowKit

set_option maxRecDepth 20000 in
theorem place_stripe (a b : Int) (w : World) : Sem.run Tryz.prog (Instr.field 91 (.agg #[.int .i64 a, .int .i64 b]) 0) w = .ok (.int .i64 a) w := rfl
set_option maxRecDepth 20000 in
theorem place_index (a b : Int) (w : World) : Sem.run Tryz.prog (Instr.field 91 (.agg #[.int .i64 a, .int .i64 b]) 1) w = .ok (.int .i64 b) w := rfl

set_option maxRecDepth 20000 in
set_option maxHeartbeats 800000 in
theorem implStripeOf_any (w : World) (n s b : Int) : Calls Tryz.prog 29 #[.agg #[.int .i64 n, .int .i64 s], .int .i64 b] w fun e w' => e = .returned (.int .i64 (stripeN n s b)) ∧ Below w.heap.size w w' := by
  have hA := new_below w (.cells #[.int .i64 n, .int .i64 s] 31)
  obtain ⟨k0, k1⟩ := (Gbox.new w 31 n s).cells
  go_enter Tryz.func29, Tryz.ntmps29
  go_wp2_with fail
  refine (placeOf_any _ _ _ _).mono ?_
  rintro e w1 ⟨rfl, b1⟩
  have hf := place_stripe (stripeN n s b) (indexN n s b) w1
  go_wp2
  go_ret
  exact ⟨rfl, Below.andThen hA b1⟩

set_option maxRecDepth 20000 in
set_option maxHeartbeats 800000 in
theorem implIndexOf_any (w : World) (n s b : Int) : Calls Tryz.prog 32 #[.agg #[.int .i64 n, .int .i64 s], .int .i64 b] w fun e w' => e = .returned (.int .i64 (indexN n s b)) ∧ Below w.heap.size w w' := by
  have hA := new_below w (.cells #[.int .i64 n, .int .i64 s] 31)
  obtain ⟨k0, k1⟩ := (Gbox.new w 31 n s).cells
  go_enter Tryz.func32, Tryz.ntmps32
  go_wp2_with fail
  refine (placeOf_any _ _ _ _).mono ?_
  rintro e w1 ⟨rfl, b1⟩
  have hf := place_index (stripeN n s b) (indexN n s b) w1
  go_wp2
  go_ret
  exact ⟨rfl, Below.andThen hA b1⟩

set_option maxRecDepth 20000 in
/-- The block at a spot is the one of that stripe and index. -/
theorem spot_block {n s t i : Int} : spotB n s t i = true ↔ ∃ b, blockB n s b = true ∧ stripeN n s b = t ∧ indexN n s b = i := by
  constructor
  · intro h
    unfold spotB at h
    rw [Bool.and_eq_true, stripeB_of, inB_iff] at h
    obtain ⟨⟨hg, h1, h2⟩, h3, h4⟩ := h
    obtain ⟨g1, g2, g3, g4⟩ := geoB_iff.1 hg
    have hb : blockB n s (t * (n - 1) + i) = true := by
      rw [blockB_of, blocksN_of hg]
      have : n = 3 ∨ n = 4 ∨ n = 5 := by omega
      rcases this with rfl | rfl | rfl <;> omega
    refine ⟨t * (n - 1) + i, hb, ?_, ?_⟩
    · unfold stripeN
      rw [if_pos hb]
      have : n = 3 ∨ n = 4 ∨ n = 5 := by omega
      rcases this with rfl | rfl | rfl <;> omega
    · unfold indexN
      rw [if_pos hb]
      have : n = 3 ∨ n = 4 ∨ n = 5 := by omega
      rcases this with rfl | rfl | rfl <;> omega
  · rintro ⟨b, hb, rfl, rfl⟩
    have hg := blockB_geo hb
    have hb' := blockB_of.1 hb
    rw [blocksN_of hg] at hb'
    obtain ⟨g1, g2, g3, g4⟩ := geoB_iff.1 hg
    unfold spotB
    rw [Bool.and_eq_true, stripeB_of, inB_iff]
    unfold stripeN indexN
    rw [if_pos hb, if_pos hb]
    have : n = 3 ∨ n = 4 ∨ n = 5 := by omega
    rcases this with rfl | rfl | rfl <;> exact ⟨⟨hg, by omega⟩, by omega⟩

set_option maxRecDepth 20000 in
theorem block_at {n s b : Int} (hb : blockB n s b = true) : blockN n s (stripeN n s b) (indexN n s b) = b := by
  have h := spot_block.2 ⟨b, hb, rfl, rfl⟩
  unfold blockN
  rw [if_pos h]
  obtain ⟨g1, g2, g3, g4⟩ := geoB_iff.1 (blockB_geo hb)
  have hb' := blockB_of.1 hb
  unfold stripeN indexN
  rw [if_pos hb, if_pos hb]
  have : n = 3 ∨ n = 4 ∨ n = 5 := by omega
  rcases this with rfl | rfl | rfl <;> omega

set_option maxRecDepth 20000 in
set_option maxHeartbeats 1600000 in
theorem implBlockAt_any (w : World) (n s t i : Int) : Calls Tryz.prog 140 #[.agg #[.int .i64 n, .int .i64 s], .int .i64 t, .int .i64 i] w fun e w' => e = .returned (.int .i64 (blockN n s t i)) ∧ Below w.heap.size w w' := by
  have hA : Below w.heap.size w ((w.alloc (.cells #[.int .i64 n, .int .i64 s] 31)).alloc (.cells #[.int .i64 t, .int .i64 i] 91)) := (new_below w _).alloc (by simp) _
  have X : Gbox ((w.alloc (.cells #[.int .i64 n, .int .i64 s] 31)).alloc (.cells #[.int .i64 t, .int .i64 i] 91)) w.heap.size 31 n s := (Gbox.new w 31 n s).below (new_below _ _) (by simp)
  have Y : Gbox ((w.alloc (.cells #[.int .i64 n, .int .i64 s] 31)).alloc (.cells #[.int .i64 t, .int .i64 i] 91)) (w.heap.size + 1) 91 t i := by
    have := Gbox.new (w.alloc (.cells #[.int .i64 n, .int .i64 s] 31)) 91 t i
    simpa using this
  obtain ⟨k0, k1⟩ := X.cells
  obtain ⟨x0, x1⟩ := (Gbox.new w 31 n s).cells
  go_enter Tryz.func140, Tryz.ntmps140
  go_wp2_with fail
  refine (implBlocks_any _ _ _).mono ?_
  rintro e w1 ⟨rfl, b1⟩
  have hz : w.heap.size + 1 < ((w.alloc (.cells #[.int .i64 n, .int .i64 s] 31)).alloc (.cells #[.int .i64 t, .int .i64 i] 91)).heap.size := by simp
  have X1 := X.below b1 (by omega)
  have Y1 := Y.below b1 hz
  have B1 := hA.trans (b1.mono hA.size)
  have hr := blocksN_range n s
  obtain ⟨nb, hnb⟩ := Int.eq_ofNat_of_zero_le hr.1
  have HNB := hidden hnb
  rw [hnb] at hr ⊢
  clear k0 k1 x0 x1 X Y hA b1 hz hnb
  go_wp2_with fail
  go_loopw [14] (fun c wr => ∃ j : Nat, j ≤ nb ∧ c = .int .i64 j ∧ (∀ k : Nat, k < j → ¬ (stripeN n s k = t ∧ indexN n s k = i)) ∧ Gbox wr w.heap.size 31 n s ∧ Gbox wr (w.heap.size + 1) 91 t i ∧ Below w.heap.size w wr) (fun c _ => nb - (intOf c).toNat)
  case atStart => exact ⟨0, Nat.zero_le _, rfl, by omega, X1, Y1, B1⟩
  case round =>
    obtain ⟨j, hj, rfl, hk, X2, Y2, B2⟩ := hrel
    have HK := hidden hk
    clear hk X1 Y1 B1
    by_cases hlt : j < nb
    · have hb : blockB n s j = true := blockB_of.2 ⟨by omega, by rw [HNB.out]; omega⟩
      have HBA := hidden (block_at hb)
      obtain ⟨k0, k1⟩ := X2.cells
      obtain ⟨j0, j1⟩ := Y2.cells
      generalize hS : stripeN n s j = S at HBA HK
      generalize hI : indexN n s j = I at HBA HK
      have HP : ∀ W : World, Calls Tryz.prog 62 #[.agg #[.int .i64 n, .int .i64 s], .int .i64 (j : Int)] W fun e w' => e = .returned (.agg #[.int .i64 S, .int .i64 I]) ∧ Below W.heap.size W w' := by
        intro W
        rw [← hS, ← hI]
        exact placeOf_any _ _ _ _
      have HS := hidden hS
      have HI := hidden hI
      clear hS hI
      by_cases h1 : S = t
      · by_cases h2 : I = i
        · subst h1 h2
          go_wp2_with fail
          go_region_held3 (fun w' => w'.cell? ⟨w.heap.size, 0, none⟩ = some (.int .i64 n) ∧ w'.cell? ⟨w.heap.size, 1, none⟩ = some (.int .i64 s) ∧ w'.cell? ⟨w.heap.size + 1, 0, none⟩ = some (.int .i64 S) ∧ w'.cell? ⟨w.heap.size + 1, 1, none⟩ = some (.int .i64 I))
            (first | (exact ⟨X3.cells.1, X3.cells.2, Y3.cells.1, Y3.cells.2⟩) | (exact ⟨k0, k1, j0, j1⟩) | go_keep)
            (first
              | (go_at_call 62; refine (HP _).mono ?_; rintro e w3 ⟨rfl, b3⟩; have B3 := Below.andThen B2.drew b3; have X3 := X2.drew.below b3 X2.lt; have Y3 := Y2.drew.below b3 Y2.lt))
          go_wp2
          go_ret
          exact ⟨ret_int HBA.out.symm, B3⟩
        · have n2 : (I == i) = false := by simpa using h2
          subst h1
          go_wp2_with fail
          go_region_held3 (fun w' => w'.cell? ⟨w.heap.size, 0, none⟩ = some (.int .i64 n) ∧ w'.cell? ⟨w.heap.size, 1, none⟩ = some (.int .i64 s) ∧ w'.cell? ⟨w.heap.size + 1, 0, none⟩ = some (.int .i64 S) ∧ w'.cell? ⟨w.heap.size + 1, 1, none⟩ = some (.int .i64 i))
            (first | (exact ⟨X3.cells.1, X3.cells.2, Y3.cells.1, Y3.cells.2⟩) | (exact ⟨k0, k1, j0, j1⟩) | go_keep)
            (first
              | (go_at_call 62; refine (HP _).mono ?_; rintro e w3 ⟨rfl, b3⟩; have B3 := Below.andThen B2.drew b3; have X3 := X2.drew.below b3 X2.lt; have Y3 := Y2.drew.below b3 Y2.lt))
          go_wp2
          go_roundw
          case rel => exact ⟨j + 1, by omega, by go_num, fun k hk h => by
            by_cases hkj : k < j
            · exact HK.out k hkj h
            · have : k = j := by omega
              subst this
              exact h2 (HI.out ▸ h.2), X3, Y3, B3⟩
          case measure => simp [intOf]; omega
      · have n1 : (S == t) = false := by simpa using h1
        go_wp2_with fail
        go_region_held3 (fun w' => w'.cell? ⟨w.heap.size, 0, none⟩ = some (.int .i64 n) ∧ w'.cell? ⟨w.heap.size, 1, none⟩ = some (.int .i64 s) ∧ w'.cell? ⟨w.heap.size + 1, 0, none⟩ = some (.int .i64 t) ∧ w'.cell? ⟨w.heap.size + 1, 1, none⟩ = some (.int .i64 i))
          (first | (exact ⟨X3.cells.1, X3.cells.2, Y3.cells.1, Y3.cells.2⟩) | (exact ⟨k0, k1, j0, j1⟩) | go_keep)
          (first
            | (go_at_call 62; refine (HP _).mono ?_; rintro e w3 ⟨rfl, b3⟩; have B3 := Below.andThen B2.drew b3; have X3 := X2.drew.below b3 X2.lt; have Y3 := Y2.drew.below b3 Y2.lt))
        go_wp2
        go_roundw
        case rel => exact ⟨j + 1, by omega, by go_num, fun k hk h => by
          by_cases hkj : k < j
          · exact HK.out k hkj h
          · have : k = j := by omega
            subst this
            exact h1 (HS.out ▸ h.1), X3, Y3, B3⟩
        case measure => simp [intOf]; omega
    · go_wp2
      go_ret
      have e : j = nb := by omega
      subst e
      refine ⟨ret_int ?_, B2⟩
      unfold blockN
      rw [if_neg]
      intro h
      obtain ⟨b, hb, h1, h2⟩ := spot_block.1 h
      obtain ⟨hb0, hb1⟩ := blockB_of.1 hb
      obtain ⟨b, rfl⟩ := Int.eq_ofNat_of_zero_le hb0
      rw [HNB.out] at hb1
      exact HK.out b (by omega) ⟨h1, h2⟩

end Go.Proofs.YtjmjianlcoleaaaGreat

/-
  The walks of both DiskOf, and of the specification's Blocks, ParityOf, StripeOf, IndexOf and BlockAt. No condition.
-/
namespace Go.Proofs.YtjmjianlcoleaaaGreat
open Go.RowKit

theorem blockN_ok {n s t i : Int} (h : spotB n s t i = true) : 0 ≤ blockN n s t i := by
  unfold blockN
  rw [if_pos h]
  unfold spotB at h
  rw [Bool.and_eq_true, stripeB_of, inB_iff] at h
  obtain ⟨⟨hg, h1, h2⟩, h3, h4⟩ := h
  obtain ⟨g1, g2, g3, g4⟩ := geoB_iff.1 hg
  have : n = 3 ∨ n = 4 ∨ n = 5 := by omega
  rcases this with rfl | rfl | rfl <;> omega

theorem spotB_of {n s t i : Int} : spotB n s t i = true ↔ geoB n s = true ∧ 0 ≤ t ∧ t < s ∧ 0 ≤ i ∧ i ≤ n - 2 := by
  unfold spotB
  rw [Bool.and_eq_true, stripeB_of, inB_iff]
  constructor
  · rintro ⟨⟨a, b, c⟩, d, e⟩
    exact ⟨a, b, c, d, e⟩
  · rintro ⟨a, b, c, d, e⟩
    exact ⟨⟨a, b, c⟩, d, e⟩

set_option maxHeartbeats 1600000 in
theorem implDiskOf_any (w : World) (n s t i : Int) : Calls Tryz.prog 104 #[.agg #[.int .i64 n, .int .i64 s], .int .i64 t, .int .i64 i] w fun e w' => e = .returned (.int .i64 (diskN n s t i)) ∧ Below w.heap.size w w' := by
  have hA := new_below w (.cells #[.int .i64 n, .int .i64 s] 31)
  have X := Gbox.new w 31 n s
  obtain ⟨k0, k1⟩ := X.cells
  have zA := X.lt
  go_enter Tryz.func104, Tryz.ntmps104
  go_wp2_with fail
  refine (implBlockAt_any _ _ _ _ _).mono ?_
  rintro e w1 ⟨rfl, b1⟩
  have X1 := X.below b1 zA
  have B1 := Below.andThen hA b1
  clear k0 k1 X b1 hA zA
  obtain ⟨k0, k1⟩ := X1.cells
  by_cases hs : spotB n s t i = true
  · have h0 := blockN_ok hs
    obtain ⟨hg, h1, h2, h3, h4⟩ := spotB_of.1 hs
    obtain ⟨g1, g2, g3, g4⟩ := geoB_iff.1 hg
    have hm1 : 0 ≤ t % n := Int.emod_nonneg _ (by omega)
    have hm2 : t % n < n := Int.emod_lt_of_pos _ (by omega)
    have HP : parN n s t = n - 1 - t % n := by unfold parN; rw [if_pos (stripeB_of.2 ⟨hg, h1, h2⟩)]
    have HPar : ∀ W : World, Calls Tryz.prog 141 #[.agg #[.int .i64 n, .int .i64 s], .int .i64 t] W fun e w' => e = .returned (.int .i64 (n - 1 - t % n)) ∧ Below W.heap.size W w' := by
      intro W
      rw [← HP]
      exact implParityOf_any _ _ _ _
    have HD : Hid (diskN n s t i = (n - 1 - t % n + 1 + i) % n) := by unfold Hid diskN; rw [if_pos hs]
    clear HP
    generalize t % n = r at hm1 hm2 HPar HD
    have e0 : ¬ blockN n s t i = -1 := by omega
    have e1 : ¬ n = 0 := by omega
    have e2 : (n - 1 - r + 1 + i).tmod n = (n - 1 - r + 1 + i) % n := Int.tmod_eq_emod_of_nonneg (by omega)
    have e3 : IntKind.i64.wrap (n - 1 - r + 1) = n - 1 - r + 1 := IntWalk.i64_in _ (by omega)
    have e4 : IntKind.i64.wrap (n - 1 - r + 1 + i) = n - 1 - r + 1 + i := IntWalk.i64_in _ (by omega)
    have e5 : (blockN n s t i == -1) = false := by simpa using e0
    go_wp2_with fail
    go_region_held3 (fun w' => w'.cell? ⟨w.heap.size, 0, none⟩ = some (.int .i64 n) ∧ w'.cell? ⟨w.heap.size, 1, none⟩ = some (.int .i64 s))
      (first | (exact X2.cells) | (exact X1.cells) | go_keep)
      (first
        | (go_at_call 141; refine (HPar _).mono ?_; rintro e w2 ⟨rfl, b2⟩; have B2 := Below.andThen B1.drew b2; have X2 := X1.drew.below b2 X1.lt))
    go_wp2
    go_ret
    exact ⟨ret_int HD.out.symm, B2⟩
  · have e0 : blockN n s t i = -1 := by unfold blockN; rw [if_neg hs]
    have e5 : (blockN n s t i == -1) = true := by simpa using e0
    go_wp2
    go_ret
    exact ⟨ret_int (by unfold diskN; rw [if_neg hs]), B1⟩

end Go.Proofs.YtjmjianlcoleaaaGreat

/-
  The walk of the program's look for the words of a stripe's blocks. Condition: the array weighs at most 2097152.
-/
namespace Go.Proofs.YtjmjianlcoleaaaGreat
open Go.RowKit

theorem dfill6 (x : ArrN) (s : Int) (l : List Int) (n j : Nat) (h : j < n) : (pickL x s l j ++ List.replicate (n - j) (0 : Int)).set j (l.getD (diskN x.n x.s s (j : Int)).toNat 0) = pickL x s l (j + 1) ++ List.replicate (n - (j + 1)) (0 : Int) := by
  have e : n - j = (n - (j + 1)) + 1 := by omega
  rw [List.set_append, if_neg (by rw [pickL_len]; omega), pickL_len, Nat.sub_self, e, List.replicate_succ, List.set_cons_zero, pickL_succ, List.append_assoc]
  rfl

set_option linter.unusedSimpArgs false in
set_option maxRecDepth 20000 in
set_option maxHeartbeats 3200000 in
theorem implDataOf_any (w : World) (E F G : TypeId) (x : ArrN) (am ad : Option Addr) (nm cm nd cd : Nat) (ms : List MemD) (ds : List (Int × List Int)) (s : Int) (h0 : (tMemS E F).Rd w [.slice am nm cm] ms) (h1 : (tWrS G).Rd w [.slice ad nd cd] ds) (hw : wtArr ms ds ≤ 2097152) :
    Calls Tryz.prog 65 #[.agg #[.int .i64 x.id, .int .i64 x.n, .int .i64 x.s, .slice am nm cm, .int .i64 x.lost, .int .i64 x.built, .int .i64 x.seq, .int .i64 x.tail, .int .i64 x.gen, .slice ad nd cd, .int .i64 x.fuse, .bool x.down, .bool x.broken], .int .i64 s] w fun e w' => ∃ a' l' c', e = .returned (.tuple #[.slice a' l' c', .bool (wordsOk6 x ms ds s)]) ∧ tIntS.Own w' w.heap.size w'.heap.size [.slice a' l' c'] (dataL6 x ms ds s) ∧ Below w.heap.size w w' := by
  obtain ⟨i0, hi, hz0, hz1, hz2⟩ := info_parts Tryz.info3
  have hA := new_below w (.cells #[.int .i64 x.id, .int .i64 x.n, .int .i64 x.s, .slice am nm cm, .int .i64 x.lost, .int .i64 x.built, .int .i64 x.seq, .int .i64 x.tail, .int .i64 x.gen, .slice ad nd cd, .int .i64 x.fuse, .bool x.down, .bool x.broken] 35)
  have X := Box.new w 35 #[.int .i64 x.id, .int .i64 x.n, .int .i64 x.s, .slice am nm cm, .int .i64 x.lost, .int .i64 x.built, .int .i64 x.seq, .int .i64 x.tail, .int .i64 x.gen, .slice ad nd cd, .int .i64 x.fuse, .bool x.down, .bool x.broken]
  obtain ⟨k0, k1, k2, k3, k4, k5, k6, k7, k8, k9, k10, k11, k12⟩ := X.cells13
  have zA := X.lt
  have r0 := h0.below hA
  have r1 := h1.below hA
  go_enter Tryz.func65, Tryz.ntmps65
  go_wp2_with fail
  generalize w.alloc (.cells #[.int .i64 x.id, .int .i64 x.n, .int .i64 x.s, .slice am nm cm, .int .i64 x.lost, .int .i64 x.built, .int .i64 x.seq, .int .i64 x.tail, .int .i64 x.gen, .slice ad nd cd, .int .i64 x.fuse, .bool x.down, .bool x.broken] 35) = W at hA X zA r0 r1 k0 k1 k2 k3 k4 k5 k6 k7 k8 k9 k10 k11 k12 ⊢
  refine (implWords_any _ E F G x _ _ _ _ _ _ ms ds s r0 r1 hw).mono ?_
  rintro e w1 ⟨a', l', c', rfl, o1, b1⟩
  have X1 := X.below b1 zA
  have B1 := Below.andThen hA b1
  clear k0 k1 k2 k3 k4 k5 k6 k7 k8 k9 k10 k11 k12 X b1 r0 r1
  cases hok : wordsOk6 x ms ds s
  · have HF : Hid (dataL6 x ms ds s = []) := by
      unfold Hid
      unfold wordsOk6 at hok
      unfold dataL6
      cases hk : okB6 x ms ds s
      · rfl
      · rw [hk, Bool.true_and] at hok
        rw [if_pos rfl]
        unfold data6
        rw [hok]
        rfl
    have FO := hidden ((own_ints (Owns.lit .i64 3 w1 [] 0 #[] rfl rfl (by unfold maxLen; omega))).widen (lo' := w.heap.size) B1.size (Nat.le_refl _))
    have FB := hidden (B1.alloc B1.size (.cells #[] 3))
    clear o1
    go_wp2
    refine bodyPost_ret (v := .tuple #[.slice (some ⟨w1.heap.size, 0, none⟩) 0 0, .bool false]) (by simp [results, Tryz.results65, go_sem]) rfl ?_
    exact ⟨_, _, _, by rw [hok], by rw [HF.out]; exact FO.out, FB.out⟩
  · have hk : okB6 x ms ds s = true := by unfold wordsOk6 at hok; simp only [Bool.and_eq_true] at hok; exact hok.1
    have hwb : wordsB x ms s = true := by unfold wordsOk6 at hok; simp only [Bool.and_eq_true] at hok; exact hok.2
    have hin : inB s 0 (x.s - 1) = true := by unfold okB6 at hk; simp only [Bool.and_eq_true] at hk; exact hk.2.2
    have hg : geoB x.n x.s = true := by unfold okB6 arrB at hk; simp only [Bool.and_eq_true] at hk; exact hk.1.1
    obtain ⟨g1, g2, g3, g4⟩ := geoB_iff.1 hg
    have hL : wordsL6 x ms ds s = words6 x ms s := by unfold wordsL6; rw [if_pos hk]; rfl
    have hD : dataL6 x ms ds s = pickL x s (words6 x ms s) (x.n.toNat - 1) := by
      unfold dataL6
      rw [if_pos hk]
      unfold data6
      rw [if_pos (show wordsB {x with broken := false} ms s = true from hwb)]
      rfl
    have hwl := words6_len hwb
    rw [hL] at o1
    generalize words6 x ms s = ps at o1 hD hwl
    obtain ⟨hr1, hln, hcap, hmax⟩ := ints_rd o1.rd
    obtain ⟨m, hm⟩ : ∃ m : Nat, x.n = (m : Int) + 1 := ⟨x.n.toNat - 1, by omega⟩
    have hm5 : m ≤ 4 := by omega
    have hm2 : 2 ≤ m := by omega
    have hl5 : l' = m + 1 := by omega
    subst hl5
    have HD : Hid (dataL6 x ms ds s = pickL x s ps m) := by unfold Hid; rw [hD]; congr 1; omega
    have HM := hidden hm
    have HOK := hidden hok
    have HIN := hidden hin
    have HG := hidden hg
    clear hD hm hwl hok hk hwb hL hin hg
    rcases hr1 with hnil | ⟨b, off, rfl, hbl, hcs⟩
    · rw [hnil] at hln; simp at hln
    have HCS := hidden hcs
    clear hcs
    obtain ⟨k0, k1, k2, k3, k4, k5, k6, k7, k8, k9, k10, k11, k12⟩ := X1.cells13
    go_wp2_with fail
    refine (perStripe_any _ x.n x.s g1 g2).mono ?_
    rintro e w2 ⟨rfl, b2⟩
    have X2 := X1.below b2 X1.lt
    have B2 := Below.andThen B1 b2
    have zb2 := b2.size
    have hC2 : ∀ i, i < ps.length → w2.cell? ⟨b, off + i, none⟩ = some (.int .i64 (ps.getD i 0)) := fun i h => (b2.cell (p := ⟨b, off + i, none⟩) hbl).trans (HCS.out i h)
    have HC2 := hidden hC2
    have hbl2 : b < w2.heap.size := Nat.lt_of_lt_of_le hbl b2.size
    clear k0 k1 k2 k3 k4 k5 k6 k7 k8 k9 k10 k11 k12 X1 b2 B1 hC2 HCS hbl o1
    have hb3 : i0.bytes * m ≤ 281474976710656 := by rw [hz2]; omega
    have hm3 : m ≤ maxLen := by unfold maxLen; omega
    rw [show x.n - 1 = (m : Int) from by have := HM.out; omega]
    go_wp2_with (at_make; refine wpList_make_full _ rfl _ _ 48 rfl w2.heap.size 3 i0 (.int .i64 0) 1 Tryz.underlying48 hi hz0 hz1 _ _ _ _ m rfl rfl rfl rfl hb3 hm3 (Nat.le_refl _) ?_; intro w3 hown hgrow)
    have hO : Owns .i64 3 w3 w2.heap.size (.slice (some ⟨w2.heap.size, 0, none⟩) m m) (List.replicate m 0) := by
      rw [made_ints] at hown
      unfold Owns
      rw [List.length_replicate]
      exact hown
    have hO1 := hO.own
    have hB1 : Below w2.heap.size w2 w3 := (Below.refl _ _).grown hgrow (Nat.le_refl _) (by simp)
    generalize w3.heap.size = hi1 at hO1
    clear hown hgrow hO
    go_loopw [25] (fun i wr => ∃ j : Nat, j ≤ m ∧ i = .int .i64 j ∧ Own .i64 3 wr w2.heap.size hi1 (.slice (some ⟨w2.heap.size, 0, none⟩) m m) (pickL x s ps j ++ List.replicate (m - j) 0) ∧ Below w2.heap.size w2 wr) (fun i _ => m - (intOf i).toNat)
    case atStart => exact ⟨0, Nat.zero_le _, rfl, by simpa [pickL] using hO1, hB1⟩
    case round =>
      clear hO1 hB1
      obtain ⟨j, hj, rfl, ho, hb⟩ := hrel
      by_cases hlt : j < m
      · have Xr := X2.below hb X2.lt
        obtain ⟨k0, k1, k2, k3, k4, k5, k6, k7, k8, k9, k10, k11, k12⟩ := Xr.cells13
        obtain ⟨d1, d2⟩ := disk_in (i := (j : Int)) HG.out HIN.out (by omega) (by have := HM.out; omega)
        have hfs := dfill6 x s ps m j hlt
        go_wp2_with fail
        refine (implDiskOf_any _ x.n x.s s (j : Int)).mono ?_
        rintro e w5 ⟨rfl, b5⟩
        obtain ⟨d, hd⟩ := Int.eq_ofNat_of_zero_le d1
        rw [hd] at d2 hfs ⊢
        rw [Int.toNat_natCast] at hfs
        have hdn : d < m + 1 := by have := HM.out; omega
        have hcd := (b5.cell (p := ⟨b, off + d, none⟩) (Nat.lt_of_lt_of_le hbl2 hb.size)).trans ((hb.cell (p := ⟨b, off + d, none⟩) hbl2).trans (HC2.out d (by omega)))
        have o5 := ho.below b5
        have B5 := hb.trans (b5.mono hb.size)
        obtain ⟨hcy, hfy, hst, hbt⟩ := o5.store j hlt (ps.getD d 0)
        rw [hfs] at hst
        have HST := hidden hst
        have HB : Hid (Below w2.heap.size w2 (w5.setCell ⟨w2.heap.size, j, none⟩ (.int .i64 (ps.getD d 0)))) := B5.setCell (Nat.le_refl _) _
        generalize ps.getD d 0 = y at hcd HST HB
        generalize (pickL x s ps j ++ List.replicate (m - j) 0).getD j 0 = old at hcy
        have i1 : (0 : Int) ≤ (d : Int) := by omega
        have i2 : (d : Int) < ((m + 1 : Nat) : Int) := by omega
        have i3 : (0 : Int) ≤ (j : Int) := by omega
        have i4 : (j : Int) < (m : Int) := by omega
        clear k0 k1 k2 k3 k4 k5 k6 k7 k8 k9 k10 k11 k12 Xr b5 ho hb hst hbt o5 B5 hfs d1 d2 hd
        go_wp2
        go_roundw
        case rel => exact ⟨j + 1, by omega, by go_num, HST.out, HB.out⟩
        case measure => simp [intOf]; omega
      · have ej : j = m := by omega
        subst ej
        rw [Nat.sub_self, List.replicate_zero, List.append_nil] at ho
        have FO := hidden ((own_ints ho.1).widen (lo' := w.heap.size) B2.size (Nat.le_refl _))
        have FB := hidden (B2.trans (hb.mono B2.size))
        clear ho hb
        go_wp2
        refine bodyPost_ret (v := .tuple #[.slice (some ⟨w2.heap.size, 0, none⟩) j j, .bool true]) (by simp [results, Tryz.results65, go_sem]) rfl ?_
        exact ⟨_, _, _, by rw [HOK.out], by rw [HD.out]; exact FO.out, FB.out⟩

end Go.Proofs.YtjmjianlcoleaaaGreat

/-
  The codes of both sides, and a stripe as it is to be, by the program. Condition: the array weighs at most 2097152.
-/
namespace Go.Proofs.YtjmjianlcoleaaaGreat
open Go.RowKit

set_option linter.unusedSimpArgs false in
set_option maxRecDepth 20000 in
set_option maxHeartbeats 3200000 in
theorem l8May_any (w : World) (E F G : TypeId) (x : ArrN) (am ad : Option Addr) (nm cm nd cd : Nat) (ms : List MemD) (ds : List (Int × List Int)) (h0 : (tMemS E F).Rd w [.slice am nm cm] ms) (h1 : (tWrS G).Rd w [.slice ad nd cd] ds) (hw : wtArr ms ds ≤ 2097152) :
    Calls Tryz.prog 46 #[.agg #[.int .i64 x.id, .int .i64 x.n, .int .i64 x.s, .slice am nm cm, .int .i64 x.lost, .int .i64 x.built, .int .i64 x.seq, .int .i64 x.tail, .int .i64 x.gen, .slice ad nd cd, .int .i64 x.fuse, .bool x.down, .bool x.broken]] w fun e w' => e = .returned (.int .i64 (ask8 x ms ds)) ∧ Below w.heap.size w w' := by
  have hA := new_below w (.cells #[.int .i64 x.id, .int .i64 x.n, .int .i64 x.s, .slice am nm cm, .int .i64 x.lost, .int .i64 x.built, .int .i64 x.seq, .int .i64 x.tail, .int .i64 x.gen, .slice ad nd cd, .int .i64 x.fuse, .bool x.down, .bool x.broken] 35)
  have X := Box.new w 35 #[.int .i64 x.id, .int .i64 x.n, .int .i64 x.s, .slice am nm cm, .int .i64 x.lost, .int .i64 x.built, .int .i64 x.seq, .int .i64 x.tail, .int .i64 x.gen, .slice ad nd cd, .int .i64 x.fuse, .bool x.down, .bool x.broken]
  have zX := X.lt
  obtain ⟨k0, k1, k2, k3, k4, k5, k6, k7, k8, k9, k10, k11, k12⟩ := X.cells13
  have r0 := h0.below hA
  have r1 := h1.below hA
  have HV : Hid (ask8 x ms ds = if arrB x ms ds = true then (if x.down = true then 6 else 0) else 1) := rfl
  go_enter Tryz.func46, Tryz.ntmps46
  go_wp2_with fail
  generalize w.alloc (.cells #[.int .i64 x.id, .int .i64 x.n, .int .i64 x.s, .slice am nm cm, .int .i64 x.lost, .int .i64 x.built, .int .i64 x.seq, .int .i64 x.tail, .int .i64 x.gen, .slice ad nd cd, .int .i64 x.fuse, .bool x.down, .bool x.broken] 35) = W at hA X zX r0 r1 k0 k1 k2 k3 k4 k5 k6 k7 k8 k9 k10 k11 k12 ⊢
  refine (specArrOk_any _ E F G x _ _ _ _ _ _ ms ds r0 r1 hw).mono ?_
  rintro e w1 ⟨rfl, b1⟩
  have X1 := X.below b1 zX
  have HB := hidden (Below.andThen hA b1)
  clear k0 k1 k2 k3 k4 k5 k6 k7 k8 k9 k10 k11 k12 X r0 r1 b1 hA
  obtain ⟨k0, k1, k2, k3, k4, k5, k6, k7, k8, k9, k10, k11, k12⟩ := X1.cells13
  clear X1
  cases ha : arrB x ms ds
  · have HR : Hid (1 = ask8 x ms ds) := by unfold Hid; rw [HV.out, if_neg (by simp [ha])]
    clear ha
    go_wp2
    go_ret
    exact ⟨ret_int HR.out, HB.out⟩
  · cases hd : x.down
    · have HR : Hid (0 = ask8 x ms ds) := by unfold Hid; rw [HV.out, if_pos ha, if_neg (by simp [hd])]
      rw [hd] at k11
      clear ha hd
      go_wp2
      go_ret
      exact ⟨ret_int HR.out, HB.out⟩
    · have HR : Hid (6 = ask8 x ms ds) := by unfold Hid; rw [HV.out, if_pos ha, if_pos hd]
      rw [hd] at k11
      clear ha hd
      go_wp2
      go_ret
      exact ⟨ret_int HR.out, HB.out⟩

set_option linter.unusedSimpArgs false in
set_option maxRecDepth 20000 in
set_option maxHeartbeats 3200000 in
theorem askCode_any (w : World) (E F G : TypeId) (x : ArrN) (am ad : Option Addr) (nm cm nd cd : Nat) (ms : List MemD) (ds : List (Int × List Int)) (h0 : (tMemS E F).Rd w [.slice am nm cm] ms) (h1 : (tWrS G).Rd w [.slice ad nd cd] ds) (hw : wtArr ms ds ≤ 2097152) :
    Calls Tryz.prog 53 #[.agg #[.int .i64 x.id, .int .i64 x.n, .int .i64 x.s, .slice am nm cm, .int .i64 x.lost, .int .i64 x.built, .int .i64 x.seq, .int .i64 x.tail, .int .i64 x.gen, .slice ad nd cd, .int .i64 x.fuse, .bool x.down, .bool x.broken]] w fun e w' => e = .returned (.int .i64 (ask8 x ms ds)) ∧ Below w.heap.size w w' := by
  have hA := new_below w (.cells #[.int .i64 x.id, .int .i64 x.n, .int .i64 x.s, .slice am nm cm, .int .i64 x.lost, .int .i64 x.built, .int .i64 x.seq, .int .i64 x.tail, .int .i64 x.gen, .slice ad nd cd, .int .i64 x.fuse, .bool x.down, .bool x.broken] 35)
  have X := Box.new w 35 #[.int .i64 x.id, .int .i64 x.n, .int .i64 x.s, .slice am nm cm, .int .i64 x.lost, .int .i64 x.built, .int .i64 x.seq, .int .i64 x.tail, .int .i64 x.gen, .slice ad nd cd, .int .i64 x.fuse, .bool x.down, .bool x.broken]
  have zX := X.lt
  obtain ⟨k0, k1, k2, k3, k4, k5, k6, k7, k8, k9, k10, k11, k12⟩ := X.cells13
  have r0 := h0.below hA
  have r1 := h1.below hA
  have HV : Hid (ask8 x ms ds = if arrB x ms ds = true then (if x.down = true then 6 else 0) else 1) := rfl
  go_enter Tryz.func53, Tryz.ntmps53
  go_wp2_with fail
  generalize w.alloc (.cells #[.int .i64 x.id, .int .i64 x.n, .int .i64 x.s, .slice am nm cm, .int .i64 x.lost, .int .i64 x.built, .int .i64 x.seq, .int .i64 x.tail, .int .i64 x.gen, .slice ad nd cd, .int .i64 x.fuse, .bool x.down, .bool x.broken] 35) = W at hA X zX r0 r1 k0 k1 k2 k3 k4 k5 k6 k7 k8 k9 k10 k11 k12 ⊢
  refine (implArrOk_any _ E F G x _ _ _ _ _ _ ms ds r0 r1 hw).mono ?_
  rintro e w1 ⟨rfl, b1⟩
  have X1 := X.below b1 zX
  have HB := hidden (Below.andThen hA b1)
  clear k0 k1 k2 k3 k4 k5 k6 k7 k8 k9 k10 k11 k12 X r0 r1 b1 hA
  obtain ⟨k0, k1, k2, k3, k4, k5, k6, k7, k8, k9, k10, k11, k12⟩ := X1.cells13
  clear X1
  cases ha : arrB x ms ds
  · have HR : Hid (1 = ask8 x ms ds) := by unfold Hid; rw [HV.out, if_neg (by simp [ha])]
    clear ha
    go_wp2
    go_ret
    exact ⟨ret_int HR.out, HB.out⟩
  · cases hd : x.down
    · have HR : Hid (0 = ask8 x ms ds) := by unfold Hid; rw [HV.out, if_pos ha, if_neg (by simp [hd])]
      rw [hd] at k11
      clear ha hd
      go_wp2
      go_ret
      exact ⟨ret_int HR.out, HB.out⟩
    · have HR : Hid (6 = ask8 x ms ds) := by unfold Hid; rw [HV.out, if_pos ha, if_pos hd]
      rw [hd] at k11
      clear ha hd
      go_wp2
      go_ret
      exact ⟨ret_int HR.out, HB.out⟩

set_option linter.unusedSimpArgs false in
set_option maxRecDepth 20000 in
set_option maxHeartbeats 3200000 in
theorem stripeCode_any (w : World) (E F G : TypeId) (x : ArrN) (am ad : Option Addr) (nm cm nd cd : Nat) (ms : List MemD) (ds : List (Int × List Int)) (s : Int) (h0 : (tMemS E F).Rd w [.slice am nm cm] ms) (h1 : (tWrS G).Rd w [.slice ad nd cd] ds) (hw : wtArr ms ds ≤ 2097152) :
    Calls Tryz.prog 30 #[.agg #[.int .i64 x.id, .int .i64 x.n, .int .i64 x.s, .slice am nm cm, .int .i64 x.lost, .int .i64 x.built, .int .i64 x.seq, .int .i64 x.tail, .int .i64 x.gen, .slice ad nd cd, .int .i64 x.fuse, .bool x.down, .bool x.broken], .int .i64 s] w fun e w' => e = .returned (.int .i64 (scode8 x ms ds s)) ∧ Below w.heap.size w w' := by
  have hA := new_below w (.cells #[.int .i64 x.id, .int .i64 x.n, .int .i64 x.s, .slice am nm cm, .int .i64 x.lost, .int .i64 x.built, .int .i64 x.seq, .int .i64 x.tail, .int .i64 x.gen, .slice ad nd cd, .int .i64 x.fuse, .bool x.down, .bool x.broken] 35)
  have X := Box.new w 35 #[.int .i64 x.id, .int .i64 x.n, .int .i64 x.s, .slice am nm cm, .int .i64 x.lost, .int .i64 x.built, .int .i64 x.seq, .int .i64 x.tail, .int .i64 x.gen, .slice ad nd cd, .int .i64 x.fuse, .bool x.down, .bool x.broken]
  have zX := X.lt
  obtain ⟨k0, k1, k2, k3, k4, k5, k6, k7, k8, k9, k10, k11, k12⟩ := X.cells13
  have r0 := h0.below hA
  have r1 := h1.below hA
  have HV : Hid (scode8 x ms ds s = if ask8 x ms ds = 0 then (if stripeB x.n x.s s = true then 0 else 2) else ask8 x ms ds) := rfl
  go_enter Tryz.func30, Tryz.ntmps30
  go_wp2_with fail
  generalize w.alloc (.cells #[.int .i64 x.id, .int .i64 x.n, .int .i64 x.s, .slice am nm cm, .int .i64 x.lost, .int .i64 x.built, .int .i64 x.seq, .int .i64 x.tail, .int .i64 x.gen, .slice ad nd cd, .int .i64 x.fuse, .bool x.down, .bool x.broken] 35) = W at hA X zX r0 r1 k0 k1 k2 k3 k4 k5 k6 k7 k8 k9 k10 k11 k12 ⊢
  refine (askCode_any _ E F G x _ _ _ _ _ _ ms ds r0 r1 hw).mono ?_
  rintro e w1 ⟨rfl, b1⟩
  have X1 := X.below b1 zX
  have zX1 := X1.lt
  have HB := hidden (Below.andThen hA b1)
  clear k0 k1 k2 k3 k4 k5 k6 k7 k8 k9 k10 k11 k12 X r0 r1 b1 hA
  obtain ⟨k0, k1, k2, k3, k4, k5, k6, k7, k8, k9, k10, k11, k12⟩ := X1.cells13
  clear X1
  generalize ask8 x ms ds = q at HV ⊢
  by_cases hq : q = 0
  · subst hq
    have HV2 : Hid (scode8 x ms ds s = if stripeB x.n x.s s = true then 0 else 2) := by unfold Hid; rw [HV.out, if_pos rfl]
    clear HV
    go_wp2_with fail
    refine (hasStripe_any _ x.n x.s s).mono ?_
    rintro e w2 ⟨rfl, b2⟩
    have HB2 := hidden (Below.andThen HB.out b2)
    clear k0 k1 k2 k3 k4 k5 k6 k7 k8 k9 k10 k11 k12 b2 HB
    cases hb : stripeB x.n x.s s
    · have HR : Hid (2 = scode8 x ms ds s) := by unfold Hid; rw [HV2.out, if_neg (by simp [hb])]
      clear hb
      go_wp2
      go_ret
      exact ⟨ret_int HR.out, HB2.out⟩
    · have HR : Hid (0 = scode8 x ms ds s) := by unfold Hid; rw [HV2.out, if_pos hb]
      clear hb
      go_wp2
      go_ret
      exact ⟨ret_int HR.out, HB2.out⟩
  · have HR : Hid (q = scode8 x ms ds s) := by unfold Hid; rw [HV.out, if_neg hq]
    have e0 : (q != 0) = true := by simpa using hq
    clear hq HV
    go_wp2
    go_ret
    exact ⟨ret_int HR.out, HB.out⟩

set_option linter.unusedSimpArgs false in
set_option maxRecDepth 20000 in
set_option maxHeartbeats 3200000 in
theorem l8Code_any (w : World) (E F G : TypeId) (x : ArrN) (am ad : Option Addr) (nm cm nd cd : Nat) (ms : List MemD) (ds : List (Int × List Int)) (b : Int) (h0 : (tMemS E F).Rd w [.slice am nm cm] ms) (h1 : (tWrS G).Rd w [.slice ad nd cd] ds) (hw : wtArr ms ds ≤ 2097152) :
    Calls Tryz.prog 22 #[.agg #[.int .i64 x.id, .int .i64 x.n, .int .i64 x.s, .slice am nm cm, .int .i64 x.lost, .int .i64 x.built, .int .i64 x.seq, .int .i64 x.tail, .int .i64 x.gen, .slice ad nd cd, .int .i64 x.fuse, .bool x.down, .bool x.broken], .int .i64 b] w fun e w' => e = .returned (.int .i64 (code8 x ms ds b)) ∧ Below w.heap.size w w' := by
  have hA := new_below w (.cells #[.int .i64 x.id, .int .i64 x.n, .int .i64 x.s, .slice am nm cm, .int .i64 x.lost, .int .i64 x.built, .int .i64 x.seq, .int .i64 x.tail, .int .i64 x.gen, .slice ad nd cd, .int .i64 x.fuse, .bool x.down, .bool x.broken] 35)
  have X := Box.new w 35 #[.int .i64 x.id, .int .i64 x.n, .int .i64 x.s, .slice am nm cm, .int .i64 x.lost, .int .i64 x.built, .int .i64 x.seq, .int .i64 x.tail, .int .i64 x.gen, .slice ad nd cd, .int .i64 x.fuse, .bool x.down, .bool x.broken]
  have zX := X.lt
  obtain ⟨k0, k1, k2, k3, k4, k5, k6, k7, k8, k9, k10, k11, k12⟩ := X.cells13
  have r0 := h0.below hA
  have r1 := h1.below hA
  have HV : Hid (code8 x ms ds b = if ask8 x ms ds = 0 then (if blockB x.n x.s b = true then 0 else 2) else ask8 x ms ds) := rfl
  have HU : Hid (ask8 x ms ds = if arrB x ms ds = true then (if x.down = true then 6 else 0) else 1) := rfl
  go_enter Tryz.func22, Tryz.ntmps22
  go_wp2_with fail
  generalize w.alloc (.cells #[.int .i64 x.id, .int .i64 x.n, .int .i64 x.s, .slice am nm cm, .int .i64 x.lost, .int .i64 x.built, .int .i64 x.seq, .int .i64 x.tail, .int .i64 x.gen, .slice ad nd cd, .int .i64 x.fuse, .bool x.down, .bool x.broken] 35) = W at hA X zX r0 r1 k0 k1 k2 k3 k4 k5 k6 k7 k8 k9 k10 k11 k12 ⊢
  refine (specArrOk_any _ E F G x _ _ _ _ _ _ ms ds r0 r1 hw).mono ?_
  rintro e w1 ⟨rfl, b1⟩
  have X1 := X.below b1 zX
  have zX1 := X1.lt
  have HB := hidden (Below.andThen hA b1)
  clear k0 k1 k2 k3 k4 k5 k6 k7 k8 k9 k10 k11 k12 X r0 r1 b1 hA
  obtain ⟨k0, k1, k2, k3, k4, k5, k6, k7, k8, k9, k10, k11, k12⟩ := X1.cells13
  clear X1
  cases ha : arrB x ms ds
  · have HR : Hid (1 = code8 x ms ds b) := by unfold Hid; rw [HV.out, HU.out, if_neg (show ¬ arrB x ms ds = true by simp [ha])]; rfl
    clear ha
    go_wp2
    go_ret
    exact ⟨ret_int HR.out, HB.out⟩
  · cases hd : x.down
    · have hq0 : ask8 x ms ds = 0 := by rw [HU.out, if_pos ha, if_neg (by simp [hd])]
      have HV2 : Hid (code8 x ms ds b = if blockB x.n x.s b = true then 0 else 2) := by unfold Hid; rw [HV.out, if_pos hq0]
      clear hq0
      have hg := arr_geo ha
      have hbn : 1 ≤ blocksN x.n x.s ∧ blocksN x.n x.s ≤ 1000 := by
        obtain ⟨g1, g2, g3, g4⟩ := geoB_iff.1 hg
        unfold blocksN
        rw [if_pos hg]
        have h1 : 1 * 2 ≤ x.s * (x.n - 1) := Int.mul_le_mul g3 (by omega) (by omega) (by omega)
        have h2 : x.s * (x.n - 1) ≤ 8 * 4 := Int.mul_le_mul g4 (by omega) (by omega) (by omega)
        omega
      rw [hd] at k11
      have HBB : Hid (blockB x.n x.s b = inB b 0 (blocksN x.n x.s - 1)) := rfl
      clear ha hd HV HU hg
      go_wp2_with fail
      refine (specBlocks_any _ x.n x.s).mono ?_
      rintro e w2 ⟨rfl, b2⟩
      have HB2 := hidden (Below.andThen HB.out b2)
      clear k0 k1 k2 k3 k4 k5 k6 k7 k8 k9 k10 k11 k12 b2 HB
      generalize blocksN x.n x.s = bn at hbn HBB ⊢
      have gw : IntKind.i64.wrap (bn - 1) = bn - 1 := IntWalk.i64_in _ (by omega)
      go_wp2_with fail
      refine (l1In_any _ _ _ _).mono ?_
      rintro e w3 ⟨rfl, hw3⟩
      subst w3
      rw [← HBB.out]
      cases hb : blockB x.n x.s b
      · have HR : Hid (2 = code8 x ms ds b) := by unfold Hid; rw [HV2.out, if_neg (by simp [hb])]
        clear hb
        go_wp2
        go_ret
        exact ⟨ret_int HR.out, HB2.out⟩
      · have HR : Hid (0 = code8 x ms ds b) := by unfold Hid; rw [HV2.out, if_pos hb]
        clear hb
        go_wp2
        go_ret
        exact ⟨ret_int HR.out, HB2.out⟩
    · have HR : Hid (6 = code8 x ms ds b) := by unfold Hid; rw [HV.out, HU.out, if_pos ha, if_pos hd]; rfl
      rw [hd] at k11
      clear ha hd
      go_wp2
      go_ret
      exact ⟨ret_int HR.out, HB.out⟩

set_option linter.unusedSimpArgs false in
set_option maxRecDepth 20000 in
set_option maxHeartbeats 3200000 in
theorem dataNow_any (w : World) (E F G : TypeId) (x : ArrN) (am ad : Option Addr) (nm cm nd cd : Nat) (ms : List MemD) (ds : List (Int × List Int)) (s : Int) (h0 : (tMemS E F).Rd w [.slice am nm cm] ms) (h1 : (tWrS G).Rd w [.slice ad nd cd] ds) (hw : wtArr ms ds ≤ 2097152) (ha : arrB x ms ds = true) (hs : inB s 0 (x.s - 1) = true) :
    Calls Tryz.prog 31 #[.agg #[.int .i64 x.id, .int .i64 x.n, .int .i64 x.s, .slice am nm cm, .int .i64 x.lost, .int .i64 x.built, .int .i64 x.seq, .int .i64 x.tail, .int .i64 x.gen, .slice ad nd cd, .int .i64 x.fuse, .bool x.down, .bool x.broken], .int .i64 s] w fun e w' => ∃ a' l' c', e = .returned (.tuple #[.slice a' l' c', .bool (ok8 x ms ds s)]) ∧ tIntS.Own w' w.heap.size w'.heap.size [.slice a' l' c'] (dat8 x ms ds s) ∧ Below w.heap.size w w' := by
  have hwd : wtWrS ds ≤ 2097152 := by unfold wtArr at hw; omega
  obtain ⟨hl1, _, _⟩ := row_length h1
  have hnd : nd ≤ 2097152 := by unfold wtWrS at hwd; omega
  obtain ⟨_, _, _, g4⟩ := geoB_iff.1 (arr_geo ha)
  have hsr : 0 ≤ s ∧ s ≤ 100 := by have := inB_iff.1 hs; omega
  have HASC := hidden (arr_asc ha)
  have HE : Hid (at8 ds s = -1 → ok8 x ms ds s = wordsOk6 x ms ds s ∧ dat8 x ms ds s = dataL6 x ms ds s) := fun hat => by
    unfold ok8 dat8 wordsOk6 dataL6 okB6
    rw [if_pos hat, if_pos hat, ha, hs]
    cases x.broken <;> exact ⟨rfl, rfl⟩
  have HI : Hid (∀ (k : Nat) (ys : List Int), at8 ds s = (k : Int) → ds[k]? = some (s, ys) → ok8 x ms ds s = true ∧ dat8 x ms ds s = ys ∧ ys.length ≤ 2097152) := fun k ys hat hk => by
    have hil : ys.length ≤ wtWrS ds := inner_le' hk
    unfold ok8 dat8
    rw [if_neg (by omega), if_neg (by omega), hat, Int.toNat_natCast, List.getD_eq_getElem?_getD, hk]
    exact ⟨rfl, rfl, by show ys.length ≤ _; omega⟩
  have hA := new_below w (.cells #[.int .i64 x.id, .int .i64 x.n, .int .i64 x.s, .slice am nm cm, .int .i64 x.lost, .int .i64 x.built, .int .i64 x.seq, .int .i64 x.tail, .int .i64 x.gen, .slice ad nd cd, .int .i64 x.fuse, .bool x.down, .bool x.broken] 35)
  have X := Box.new w 35 #[.int .i64 x.id, .int .i64 x.n, .int .i64 x.s, .slice am nm cm, .int .i64 x.lost, .int .i64 x.built, .int .i64 x.seq, .int .i64 x.tail, .int .i64 x.gen, .slice ad nd cd, .int .i64 x.fuse, .bool x.down, .bool x.broken]
  have zX := X.lt
  obtain ⟨k0, k1, k2, k3, k4, k5, k6, k7, k8, k9, k10, k11, k12⟩ := X.cells13
  have r0 := h0.below hA
  have r1 := h1.below hA
  go_enter Tryz.func31, Tryz.ntmps31
  go_wp2_with fail
  generalize w.alloc (.cells #[.int .i64 x.id, .int .i64 x.n, .int .i64 x.s, .slice am nm cm, .int .i64 x.lost, .int .i64 x.built, .int .i64 x.seq, .int .i64 x.tail, .int .i64 x.gen, .slice ad nd cd, .int .i64 x.fuse, .bool x.down, .bool x.broken] 35) = W at hA X zX r0 r1 k0 k1 k2 k3 k4 k5 k6 k7 k8 k9 k10 k11 k12 ⊢
  refine (of_any _ G _ _ _ ds s r1 hnd HASC.out hsr _ (ents_so r1)).mono ?_
  rintro e w1 ⟨hcase, b1⟩
  have z1 := b1.size
  have B1 := Below.andThen hA b1
  rcases hcase with ⟨hat, rfl⟩ | ⟨k, ys, a1, c1, hat, hk, rfl, hq⟩
  · have HV := hidden (HE.out hat)
    have X1 := (X.below b1 zX).alloc (.cells #[.int .i64 0, .slice none 0 0] 65)
    have BN := new_below w1 (.cells #[.int .i64 0, .slice none 0 0] 65)
    have B2 := Below.andThen B1 BN
    have r0' := (r0.below b1).below BN
    have r1' := (r1.below b1).below BN
    clear k0 k1 k2 k3 k4 k5 k6 k7 k8 k9 k10 k11 k12 X r0 r1 b1 hA hat HE HI B1 BN
    obtain ⟨k0, k1, k2, k3, k4, k5, k6, k7, k8, k9, k10, k11, k12⟩ := X1.cells13
    clear X1
    go_wp2_with fail
    generalize w1.alloc (.cells #[.int .i64 0, .slice none 0 0] 65) = w2 at B2 r0' r1' k0 k1 k2 k3 k4 k5 k6 k7 k8 k9 k10 k11 k12 ⊢
    refine (implDataOf_any _ E F G x _ _ _ _ _ _ ms ds s r0' r1' hw).mono ?_
    rintro e w3 ⟨a3, l3, c3, rfl, o3, b3⟩
    have HB := hidden (Below.andThen B2 b3)
    have HO := hidden (o3.widen (lo' := w.heap.size) B2.size (Nat.le_refl _))
    clear k0 k1 k2 k3 k4 k5 k6 k7 k8 k9 k10 k11 k12 r0' r1' b3 o3 B2
    go_wp2
    go_ret2
    rw [HV.out.1, HV.out.2]
    exact ⟨a3, l3, c3, rfl, HO.out, HB.out⟩
  · have HV := hidden (HI.out k ys hat hk)
    have BN := new_below w1 (.cells #[.int .i64 s, .slice a1 ys.length c1] 65)
    have N1 := Box.new w1 65 #[.int .i64 s, .slice a1 ys.length c1]
    have n1 := N1.cell 1
    have B2 := Below.andThen B1 BN
    have q2 := (hq.below b1).below BN
    clear k0 k1 k2 k3 k4 k5 k6 k7 k8 k9 k10 k11 k12 X r0 r1 b1 hA hat hk HE HI B1 BN N1 hq
    go_wp2_with fail
    generalize w1.alloc (.cells #[.int .i64 s, .slice a1 ys.length c1] 65) = w2 at B2 q2 n1 ⊢
    refine (copyWords_any _ _ _ _ ys q2 HV.out.2.2).mono ?_
    rintro e w3 ⟨a3, c3, rfl, o3, b3⟩
    have HB := hidden (Below.andThen B2 b3)
    have HO := hidden (o3.widen (lo' := w.heap.size) B2.size (Nat.le_refl _))
    clear q2 n1 b3 o3 B2
    go_wp2
    go_ret2
    rw [HV.out.1, HV.out.2.1]
    exact ⟨a3, ys.length, c3, rfl, HO.out, HB.out⟩

end Go.Proofs.YtjmjianlcoleaaaGreat

/-
  The walks of the program's copyWords and copyMem and of the specification's l2Copy: the same data in memory of its own. Condition: it weighs at most 2097152.
-/
namespace Go.Proofs.YtjmjianlcoleaaaGreat
open Go.RowKit

set_option maxHeartbeats 8000000 in
theorem copyMem_any (w : World) (E : TypeId) (a0 a1 a3 : Option Addr) (n0 c0 n1 c1 n3 c3 : Nat) (ss : List (List Int)) (cs : List (Int × List Int)) (f : Bool) (bs : List Int) (h0 : tIntSS.Rd w [.slice a0 n0 c0] ss) (h1 : (tWrS E).Rd w [.slice a1 n1 c1] cs) (h3 : tIntS.Rd w [.slice a3 n3 c3] bs) (hw : wtMem (ss, cs, f, bs) ≤ 2097152) :
    Calls Tryz.prog 70 #[.agg #[.slice a0 n0 c0, .slice a1 n1 c1, .bool f, .slice a3 n3 c3]] w fun e w' => ∃ v0 v1 v3 m1 m2, e = .returned (.agg #[v0, v1, .bool f, v3]) ∧ tIntS.Own w' w.heap.size m1 [v3] bs ∧ tIntSS.Own w' m1 m2 [v0] ss ∧ (tWrS 123).Own w' m2 w'.heap.size [v1] cs ∧ m1 ≤ m2 ∧ w.heap.size ≤ m1 ∧ m2 ≤ w'.heap.size ∧ Below w.heap.size w w' := by
  obtain ⟨hl0, _, hm0⟩ := row_length h0
  obtain ⟨hl1, _, hm1⟩ := row_length h1
  obtain ⟨hl3, _, hm3⟩ := row_length h3
  have hw0 : wtIntSS ss ≤ 2097152 := by unfold wtMem at hw; simp only at hw; omega
  have hw1 : wtWrS cs ≤ 2097152 := by unfold wtMem at hw; simp only at hw; omega
  have hw3 : n3 ≤ 2097152 := by unfold wtMem at hw; simp only at hw; omega
  have hn0 : n0 ≤ 2097152 := by unfold wtIntSS at hw0; omega
  have hn1 : n1 ≤ 2097152 := by unfold wtWrS at hw1; omega
  obtain ⟨i0, hi, hz0, hz1, hz2⟩ := info_parts Tryz.infoIntS
  obtain ⟨i1, hi1, hy0, hy1, hy2⟩ := info_parts Tryz.infoWr
  have hA : Below w.heap.size w ((w.alloc (.cells #[.slice a0 n0 c0, .slice a1 n1 c1, .bool f, .slice a3 n3 c3] 87)).alloc (.cells #[.slice none 0 0, .slice none 0 0, .bool false, .slice none 0 0] 87)) := ((Below.refl _ _).alloc (Nat.le_refl _) _).alloc (by simp) _
  have xm : Box ((w.alloc (.cells #[.slice a0 n0 c0, .slice a1 n1 c1, .bool f, .slice a3 n3 c3] 87)).alloc (.cells #[.slice none 0 0, .slice none 0 0, .bool false, .slice none 0 0] 87)) w.heap.size 87 #[.slice a0 n0 c0, .slice a1 n1 c1, .bool f, .slice a3 n3 c3] := (Box.new w _ _).alloc _
  have xr : Box ((w.alloc (.cells #[.slice a0 n0 c0, .slice a1 n1 c1, .bool f, .slice a3 n3 c3] 87)).alloc (.cells #[.slice none 0 0, .slice none 0 0, .bool false, .slice none 0 0] 87)) (w.heap.size + 1) 87 #[.slice none 0 0, .slice none 0 0, .bool false, .slice none 0 0] := by
    have := Box.new (w.alloc (.cells #[.slice a0 n0 c0, .slice a1 n1 c1, .bool f, .slice a3 n3 c3] 87)) 87 #[.slice none 0 0, .slice none 0 0, .bool false, .slice none 0 0]
    rw [show (w.alloc (.cells #[.slice a0 n0 c0, .slice a1 n1 c1, .bool f, .slice a3 n3 c3] 87)).heap.size = w.heap.size + 1 by simp] at this
    exact this
  have hsz : ((w.alloc (.cells #[.slice a0 n0 c0, .slice a1 n1 c1, .bool f, .slice a3 n3 c3] 87)).alloc (.cells #[.slice none 0 0, .slice none 0 0, .bool false, .slice none 0 0] 87)).heap.size = w.heap.size + 1 + 1 := by simp
  have HSZ := hidden hsz
  clear hsz
  go_enter Tryz.func70, Tryz.ntmps70
  go_wp2_with fail
  generalize hW : (w.alloc (.cells #[.slice a0 n0 c0, .slice a1 n1 c1, .bool f, .slice a3 n3 c3] 87)).alloc (.cells #[.slice none 0 0, .slice none 0 0, .bool false, .slice none 0 0] 87) = W at hA xm xr HSZ ⊢
  clear hW
  obtain ⟨q0, q1, q2, q3⟩ := xm.cells4
  have zW : w.heap.size < W.heap.size := xm.lt
  have g3 := h3.below hA
  have hS : ∀ w', Below W.heap.size W w' → w'.cell? ⟨w.heap.size, 2, none⟩ = some (.bool f) ∧ w'.cell? ⟨w.heap.size, 3, none⟩ = some (.slice a3 n3 c3) := fun w' hb => ⟨(hb.cell (p := ⟨w.heap.size, 2, none⟩) zW).trans q2, (hb.cell (p := ⟨w.heap.size, 3, none⟩) zW).trans q3⟩
  go_region_held3 (fun w' => w'.cell? ⟨w.heap.size, 2, none⟩ = some (.bool f) ∧ w'.cell? ⟨w.heap.size, 3, none⟩ = some (.slice a3 n3 c3))
    (first | (exact hS _ hb5') | (exact hS _ (hb5'.alloc hb5'.size _)) | (exact hS _ (by go_grown)) | go_keep)
    (first
      | (go_at_call 64; refine (copyWords_any _ _ _ _ bs (by exact g3.drew) (by omega)).mono ?_; rintro e w5 ⟨a5, c5, rfl, o5, hb5⟩; have hb5' : Below W.heap.size W w5 := by exact (Below.refl W.heap.size W).drew.trans hb5)
      | (go_at_call 64; refine (copyWords_any _ _ _ _ bs (by exact (g3.below ((Below.refl _ _).alloc (Nat.le_refl _) _)).drew) (by omega)).mono ?_; rintro e w5 ⟨a5, c5, rfl, o5, hb5⟩; have hb5' : Below W.heap.size W w5 := (by exact ((Below.refl W.heap.size W).alloc (Nat.le_refl _) _).drew.trans (hb5.mono (by simp))); have xo : Box w5 W.heap.size 87 #[.slice none 0 0, .slice none 0 0, .bool false, .slice none 0 0] := (by exact Box.below (w := (W.alloc (.cells #[.slice none 0 0, .slice none 0 0, .bool false, .slice none 0 0] 87)).drew) (Box.new W 87 _) hb5 (by simp)); obtain ⟨t0, t1, t2, t3⟩ := xo.cells4; have u0 := xo.frozen 0; have u1 := xo.frozen 1; have u2 := xo.frozen 2; have u3 := xo.frozen 3))
  · have sW := HSZ.out
    have zz := hb5'.size
    have ba : Below w5.heap.size w5 (w5.alloc (.cells #[.slice none 0 0, .slice none 0 0, .bool f, .slice a5 n3 c5] 87)) := (Below.refl _ _).alloc (Nat.le_refl _) _
    have bb := Below.andThen hb5' ba
    obtain ⟨fp3, m3, r3⟩ := Ty.Own.mine (show tIntS.Own w5 W.heap.size w5.heap.size [.slice a5 n3 c5] bs from o5)
    have hz6 : (w5.alloc (.cells #[.slice none 0 0, .slice none 0 0, .bool f, .slice a5 n3 c5] 87)).heap.size = w5.heap.size + 1 := by simp
    have FM := hidden (xm.below bb zW)
    have FR := hidden (xr.below bb (by omega))
    have FO := hidden (Box.new w5 87 #[.slice none 0 0, .slice none 0 0, .bool f, .slice a5 n3 c5])
    have F3 := hidden (m3.below ba)
    have FB := hidden (hA.trans (bb.mono (by omega)))
    have FS : Hid (w.heap.size + 2 ≤ w5.heap.size ∧ w5.heap.size < (w5.alloc (.cells #[.slice none 0 0, .slice none 0 0, .bool f, .slice a5 n3 c5] 87)).heap.size ∧ ∀ b ∈ fp3, w.heap.size + 2 ≤ b ∧ b < (w5.alloc (.cells #[.slice none 0 0, .slice none 0 0, .bool f, .slice a5 n3 c5] 87)).heap.size ∧ b ≠ w5.heap.size) := ⟨by omega, by omega, fun b hb => by have := r3 b hb; omega⟩
    clear sW zz ba bb m3 r3 hz6 hS g3 q0 q1 q2 q3 xm xr hb5' o5 hb5 hA HSZ zW
    generalize w5.alloc (.cells #[.slice none 0 0, .slice none 0 0, .bool f, .slice a5 n3 c5] 87) = w6 at FM FR FO F3 FB FS ⊢
    generalize w5.heap.size = BO at FO FS ⊢
    obtain ⟨p0, p1, p2, p3⟩ := FM.out.cells4
    obtain ⟨fs1, fs2, fs3⟩ := FS.out
    go_wp2
    go_loopw [17] (fun i wr => ∃ (j : Nat) (v0 : Value) (fp0 : List Nat), j ≤ n0 ∧ i = .int .i64 j ∧ Fr w6.heap.size BO w6 wr ∧ Box wr BO 87 #[v0, .slice none 0 0, .bool f, .slice a5 n3 c5] ∧ tIntSS.Mine wr [v0] (ss.take j) fp0 ∧ (∀ b ∈ fp0, w6.heap.size ≤ b)) (fun i _ => n0 - (intOf i).toNat)
    case atStart => exact ⟨0, _, [], Nat.zero_le _, rfl, Fr.refl _ _ _, FO.out, nil_mine _, by simp⟩
    case round =>
      obtain ⟨j, v0, fp0, hj, rfl, fr, xo, hm, hfp⟩ := hrel
      have hs := fr.size
      have xm := fr.box FM.out (by omega) (by omega)
      have hb := FB.out.trans (fr.below (M := w.heap.size) (by omega) (by omega))
      obtain ⟨q0, q1, q2, q3⟩ := xm.cells4
      clear xm
      by_cases hjn : j < n0
      · rcases rows_at rfl h0 with h0' | ⟨b, off, rfl, hbl, hcs⟩
        · omega
        have hdj : ss[j]? = some (ss[j]'(by omega)) := List.getElem?_eq_getElem (by omega)
        have htk : ss.take (j + 1) = ss.take j ++ [ss[j]'(by omega)] := List.take_succ_eq_append_getElem (by omega)
        generalize ss[j]'(by omega) = x at hdj htk
        have hil := inner_le hdj
        obtain ⟨v, hv, hrv⟩ := hcs j x hdj
        obtain ⟨av, cv, rfl⟩ := row_shape hrv
        have pv := (hb.cell (p := ⟨b, off + j, none⟩) hbl).trans hv
        have HX := hidden (hrv.below hb)
        have k1 : (0 : Int) ≤ (j : Int) := by omega
        have k2 : (j : Int) < (n0 : Int) := by omega
        have HTK := hidden htk
        have XO := hidden xo
        have FRR := hidden fr
        have HM := hidden hm
        have HFP := hidden hfp
        have HL : Hid ((ss.take j).length = j) := by unfold Hid; rw [List.length_take]; omega
        have L1 : Hid ((ss.take j).length + 1 ≤ maxLen) := by unfold Hid; rw [HL.out]; unfold maxLen; omega
        have L2 : Hid (((ss.take j).length + 1) * 24 ≤ 140737488355328) := by unfold Hid; rw [HL.out]; omega
        have c0 : wr.drew.cell? ⟨BO, 0, none⟩ = some v0 := xo.cell 0
        clear hcs hdj hv hrv htk xo hm hfp hb fr
        go_wp2_with fail
        refine Upto.start (S := fun w' => w'.cell? ⟨BO, 0, none⟩ = some v0) (k := 7) (by kernel_rfl) ?_
        refine Upto.take (i := 0) (v := ?_) rfl (by kernel_rfl) (by kernel_rfl) (by kernel_rfl) (by kernel_rfl) (fun _ _ _ h => h) (Or.inl ⟨by rfl, ?_⟩) c0 ?_
        rotate_left 1
        · (intro w hSw; (try dsimp only at hSw); go_split_ands; go_simp; first | done | with_reducible rfl)
        simp only [Act.put, List.setIfInBounds_toArray, List.set_cons_zero, List.set_cons_succ]
        refine Upto.take (i := 1) (v := ?_) rfl (by kernel_rfl) (by kernel_rfl) (by kernel_rfl) (by kernel_rfl) (fun _ _ _ h => h) (Or.inl ⟨by rfl, ?_⟩) c0 ?_
        rotate_left 1
        · (intro w hSw; (try dsimp only at hSw); go_split_ands; go_simp; first | done | with_reducible rfl)
        simp only [Act.put, List.setIfInBounds_toArray, List.set_cons_zero, List.set_cons_succ]
        refine Upto.take (i := 2) (v := ?_) rfl (by kernel_rfl) (by kernel_rfl) (by kernel_rfl) (by kernel_rfl) (fun _ _ _ h => h) (Or.inl ⟨by rfl, ?_⟩) c0 ?_
        rotate_left 1
        · (intro w hSw; (try dsimp only at hSw); go_split_ands; go_simp; first | done | with_reducible rfl)
        simp only [Act.put, List.setIfInBounds_toArray, List.set_cons_zero, List.set_cons_succ]
        refine Upto.one (i := 3) (by kernel_rfl) rfl (fun K hK => ?_)
        go_simp
        refine (copyWords_any _ _ _ _ x (by exact HX.out.drew) (by omega)).mono ?_
        rintro e wc ⟨ac, cc, rfl, oc, hbc⟩
        have hbc' : Below wr.heap.size wr wc := (by exact (Below.refl wr.heap.size wr).drew.trans hbc)
        have xoc : Box wc BO 87 _ := XO.out.below hbc' (by omega)
        have c1 : wc.cell? ⟨BO, 0, none⟩ = some v0 := xoc.cell 0
        have c2 : (wc.alloc (.cells #[.slice ac x.length cc] 48)).cell? ⟨BO, 0, none⟩ = some v0 := (xoc.alloc (.cells #[.slice ac x.length cc] 48)).cell 0
        obtain ⟨fpx, mx, rx⟩ := Ty.Own.mine (lo := wr.heap.size) oc
        have XOC := hidden xoc
        have MX := hidden mx
        have RX := hidden rx
        have HBC := hidden hbc'
        clear xoc mx rx oc hbc hbc'
        go_wp2_with fail
        refine hK.out _ _ (fun _ => c1) ?_
        clear hK K
        refine Upto.one (i := 4) (by kernel_rfl) rfl (fun K hK => ?_)
        go_simp
        refine hK.out _ _ (fun _ => c2) ?_
        clear hK K
        refine Upto.one (i := 5) (by kernel_rfl) rfl (fun K hK => ?_)
        refine step_appT tIntS (by rfl) _ _ 77 (by rfl) 48 i0 (.slice none 0 0) 24 Tryz.underlying77 hi hz0 hz1 hz2 rfl Nat.zero_lt_one v0 (ss.take j) fp0 (by rfl) ?_ ⟨wc.heap.size, 0, none⟩ 1 [.slice ac x.length cc] x fpx (by rfl) ?_ ?_ ?_ ?_ L1.out L2.out ?_
        · exact (HM.out.below HBC.out).alloc _
        · exact MX.out.alloc _
        · intro b hb hb'
          have h1 := HM.out.lt b hb
          have h2 := RX.out b hb'
          omega
        · exact news_new _ _ _
        · intro u hu
          simp at hu
          rw [hu]
          rfl
        intro g cap wA fpA m1 m2 m3
        rw [HL.out] at m1 ⊢
        rw [← HTK.out] at m1
        have ya : Box wA BO 87 _ := (XOC.out.alloc _).turned m3 (fun hm => by have := HFP.out _ hm; omega)
        have r0 : wA.cell? ⟨BO, 0, none⟩ = some v0 := ya.cell 0
        have fz := ya.frozen 0
        have YA := hidden ya
        have M1 := hidden m1
        have M2 := hidden m2
        have M3 := hidden m3
        clear ya m1 m2 m3
        refine hK.out _ _ (fun _ => r0) ?_
        clear hK K
        simp only [Act.put, List.setIfInBounds_toArray, List.set_cons_zero, List.set_cons_succ]
        refine Upto.take (i := 6) (v := ?_) rfl (by kernel_rfl) (by kernel_rfl) (by kernel_rfl) (by kernel_rfl) (fun _ _ _ h => h) (Or.inl ⟨by rfl, ?_⟩) r0 ?_
        rotate_left 1
        · (intro w hSw; (try dsimp only at hSw); go_split_ands; go_simp; first | done | with_reducible rfl)
        simp only [Act.put, List.setIfInBounds_toArray, List.set_cons_zero, List.set_cons_succ]
        refine Upto.one (i := 7) (by kernel_rfl) rfl (fun K hK => ?_)
        go_simp
        refine hK.out _ _ (fun h => absurd rfl h) ?_
        clear hK K
        refine Upto.done (by kernel_rfl) ?_ _
        have hfA := round_fp (N := w6.heap.size) hs HBC.out HFP.out RX.out M2.out
        have frA := Fr.round FRR.out hs HBC.out _ M3.out HFP.out 0 (.slice (some ⟨g, 0, none⟩) (j + 1) cap)
        have mA := M1.out.setCell (g := BO) (j := 0) (fun hm => by have := hfA _ hm; omega) (.slice (some ⟨g, 0, none⟩) (j + 1) cap)
        have yA := YA.out.set 0 (.slice (some ⟨g, 0, none⟩) (j + 1) cap)
        have HFA := hidden hfA
        have FRA := hidden frA
        have MA := hidden mA
        have YA' := hidden yA
        clear hfA frA mA yA c0 c1 c2 r0 YA M1 M2 M3 XOC MX RX HBC HFP HM FRR XO
        go_wp2
        go_roundw
        case rel => exact ⟨j + 1, _, fpA, by omega, by go_num, FRA.out, YA'.out, MA.out, HFA.out⟩
        case measure => simp [intOf]; omega
      · have e : n0 = j := by omega
        subst e
        rw [List.take_of_length_le (by omega)] at hm
        have hlt := hm.lt
        have GR := hidden (fr.box FR.out (by omega) (by omega))
        have GM := hidden (fr.box FM.out (by omega) (by omega))
        have GB := hidden (FB.out.trans (fr.below (M := w.heap.size) (by omega) (by omega)))
        have G3 := hidden (fr.mine F3.out (fun b hb => by have := fs3 b hb; omega))
        have G0 := hidden (hm.own (lo := w6.heap.size) (hi := wr.heap.size) (fun b hb => ⟨hfp b hb, hlt b hb⟩))
        have GO := hidden xo
        clear fr xo hm hfp hlt FM FO F3 FB FR
        go_wp2
        generalize wr = w7 at hs GM GR GB G3 G0 GO q0 q1 q2 q3 ⊢
        go_loopw [32] (fun i wr => ∃ (j : Nat) (v1 : Value) (fp1 : List Nat), j ≤ n1 ∧ i = .int .i64 j ∧ Fr w7.heap.size BO w7 wr ∧ Box wr BO 87 #[v0, v1, .bool f, .slice a5 n3 c5] ∧ (tWrS 123).Mine wr [v1] (cs.take j) fp1 ∧ (∀ b ∈ fp1, w7.heap.size ≤ b)) (fun i _ => n1 - (intOf i).toNat)
        case atStart => exact ⟨0, _, [], Nat.zero_le _, rfl, Fr.refl _ _ _, GO.out, nil_mine _, by simp⟩
        case round =>
          obtain ⟨j, v1, fp1, hj, rfl, fr, xo, hm, hfp⟩ := hrel
          have hs2 := fr.size
          have xm := fr.box GM.out (by omega) (by omega)
          have hb := GB.out.trans (fr.below (M := w.heap.size) (by omega) (by omega))
          clear q0 q1 q2 q3
          obtain ⟨q0, q1, q2, q3⟩ := xm.cells4
          clear xm
          by_cases hjn : j < n1
          · rcases pairs_at rfl h1 with h0' | ⟨b, off, rfl, hbl, hcs⟩
            · omega
            have hdj : cs[j]? = some (cs[j]'(by omega)) := List.getElem?_eq_getElem (by omega)
            have htk : cs.take (j + 1) = cs.take j ++ [cs[j]'(by omega)] := List.take_succ_eq_append_getElem (by omega)
            generalize cs[j]'(by omega) = x at hdj htk
            have hil := inner_le' hdj
            obtain ⟨u0, u1, hv0, hv1, hrv⟩ := hcs j x hdj
            obtain ⟨rfl, hrv'⟩ := wr_rd hrv
            obtain ⟨av, cv, rfl⟩ := row_shape hrv'
            have pv0 := (hb.cell (p := ⟨b, off + j * 2, none⟩) hbl).trans hv0
            have pv1 := (hb.cell (p := ⟨b, off + j * 2 + 1, none⟩) hbl).trans hv1
            obtain ⟨x0, x1⟩ := x
            simp only at pv0 pv1 hrv' hil
            have HX := hidden (hrv'.below hb)
            have k1 : (0 : Int) ≤ (j : Int) := by omega
            have k2 : (j : Int) < (n1 : Int) := by omega
            have HTK := hidden htk
            have XO := hidden xo
            have FRR := hidden fr
            have HM := hidden hm
            have HFP := hidden hfp
            have HL : Hid ((cs.take j).length = j) := by unfold Hid; rw [List.length_take]; omega
            have L1 : Hid ((cs.take j).length + 1 ≤ maxLen) := by unfold Hid; rw [HL.out]; unfold maxLen; omega
            have L2 : Hid (((cs.take j).length + 1) * 32 ≤ 140737488355328) := by unfold Hid; rw [HL.out]; omega
            have xw := Box.new wr 123 #[.int .i64 x0, .slice av x1.length cv]
            have ba : Below wr.heap.size wr (wr.alloc (.cells #[.int .i64 x0, .slice av x1.length cv] 123)) := (Below.refl _ _).alloc (Nat.le_refl _) _
            have XO2 := hidden (xo.alloc (.cells #[.int .i64 x0, .slice av x1.length cv] 123))
            have HM2 := hidden (hm.alloc (.cells #[.int .i64 x0, .slice av x1.length cv] 123))
            have HX2 := hidden (HX.out.below ba)
            have FR2 := hidden (fr.trans (Fr.ofBelow (B := BO) ba hs2))
            have HZ : Hid (wr.heap.size < (wr.alloc (.cells #[.int .i64 x0, .slice av x1.length cv] 123)).heap.size) := by unfold Hid; simp
            have XW := hidden xw
            have HFX := hidden hm.lt
            clear hcs hdj hv0 hv1 hrv hrv' htk xo hm hfp hb fr xw ba HX HM FRR XO
            go_wp2_with fail
            generalize wr.alloc (.cells #[.int .i64 x0, .slice av x1.length cv] 123) = w8 at XO2 HM2 HX2 FR2 HZ XW ⊢
            have zw := HZ.out
            have hs8 : w7.heap.size ≤ w8.heap.size := by omega
            have c0 : w8.drew.cell? ⟨BO, 1, none⟩ = some v1 := XO2.out.cell 1
            have c1 : w8.drew.cell? ⟨wr.heap.size, 0, none⟩ = some (.int .i64 x0) := XW.out.cell 0
            have c2 : w8.drew.cell? ⟨wr.heap.size, 1, none⟩ = some (.slice av x1.length cv) := XW.out.cell 1
            have hS : w8.drew.cell? ⟨BO, 1, none⟩ = some v1 ∧ w8.drew.cell? ⟨wr.heap.size, 0, none⟩ = some (.int .i64 x0) ∧ w8.drew.cell? ⟨wr.heap.size, 1, none⟩ = some (.slice av x1.length cv) := ⟨c0, c1, c2⟩
            clear c0 c1 c2
            refine Upto.start (S := fun w' => w'.cell? ⟨BO, 1, none⟩ = some v1 ∧ w'.cell? ⟨wr.heap.size, 0, none⟩ = some (.int .i64 x0) ∧ w'.cell? ⟨wr.heap.size, 1, none⟩ = some (.slice av x1.length cv)) (k := 11) (by kernel_rfl) ?_
            refine Upto.take (i := 0) (v := ?_) rfl (by kernel_rfl) (by kernel_rfl) (by kernel_rfl) (by kernel_rfl) (fun _ _ _ h => h) (Or.inl ⟨by rfl, ?_⟩) hS ?_
            rotate_left 1
            · (intro w hSw; (try dsimp only at hSw); go_split_ands; go_simp; first | done | with_reducible rfl)
            refine Upto.take (i := 1) (v := ?_) rfl (by kernel_rfl) (by kernel_rfl) (by kernel_rfl) (by kernel_rfl) (fun _ _ _ h => h) (Or.inl ⟨by rfl, ?_⟩) hS ?_
            rotate_left 1
            · (intro w hSw; (try dsimp only at hSw); go_split_ands; go_simp; first | done | with_reducible rfl)
            simp only [Act.put, List.setIfInBounds_toArray, List.set_cons_zero, List.set_cons_succ]
            refine Upto.take (i := 2) (v := ?_) rfl (by kernel_rfl) (by kernel_rfl) (by kernel_rfl) (by kernel_rfl) (fun _ _ _ h => h) (Or.inl ⟨by rfl, ?_⟩) hS ?_
            rotate_left 1
            · (intro w hSw; (try dsimp only at hSw); go_split_ands; go_simp; first | done | with_reducible rfl)
            simp only [Act.put, List.setIfInBounds_toArray, List.set_cons_zero, List.set_cons_succ]
            refine Upto.take (i := 3) (v := ?_) rfl (by kernel_rfl) (by kernel_rfl) (by kernel_rfl) (by kernel_rfl) (fun _ _ _ h => h) (Or.inl ⟨by rfl, ?_⟩) hS ?_
            rotate_left 1
            · (intro w hSw; (try dsimp only at hSw); go_split_ands; go_simp; first | done | with_reducible rfl)
            simp only [Act.put, List.setIfInBounds_toArray, List.set_cons_zero, List.set_cons_succ]
            refine Upto.take (i := 4) (v := ?_) rfl (by kernel_rfl) (by kernel_rfl) (by kernel_rfl) (by kernel_rfl) (fun _ _ _ h => h) (Or.inl ⟨by rfl, ?_⟩) hS ?_
            rotate_left 1
            · (intro w hSw; (try dsimp only at hSw); go_split_ands; go_simp; first | done | with_reducible rfl)
            simp only [Act.put, List.setIfInBounds_toArray, List.set_cons_zero, List.set_cons_succ]
            refine Upto.take (i := 5) (v := ?_) rfl (by kernel_rfl) (by kernel_rfl) (by kernel_rfl) (by kernel_rfl) (fun _ _ _ h => h) (Or.inl ⟨by rfl, ?_⟩) hS ?_
            rotate_left 1
            · (intro w hSw; (try dsimp only at hSw); go_split_ands; go_simp; first | done | with_reducible rfl)
            simp only [Act.put, List.setIfInBounds_toArray, List.set_cons_zero, List.set_cons_succ]
            refine Upto.one (i := 6) (by kernel_rfl) rfl (fun K hK => ?_)
            go_simp
            refine (copyWords_any _ _ _ _ x1 (by exact HX2.out.drew) (by omega)).mono ?_
            rintro e wc ⟨ac, cc, rfl, oc, hbc⟩
            have hbc' : Below w8.heap.size w8 wc := (by exact (Below.refl w8.heap.size w8).drew.trans hbc)
            have xoc : Box wc BO 87 _ := XO2.out.below hbc' (by omega)
            have xwc : Box wc wr.heap.size 123 _ := XW.out.below hbc' zw
            have d0 : wc.cell? ⟨BO, 1, none⟩ = some v1 ∧ wc.cell? ⟨wr.heap.size, 0, none⟩ = some (.int .i64 x0) ∧ wc.cell? ⟨wr.heap.size, 1, none⟩ = some (.slice av x1.length cv) := ⟨xoc.cell 1, xwc.cell 0, xwc.cell 1⟩
            have d2 : (wc.alloc (.cells #[.int .i64 x0, .slice ac x1.length cc] 123)).cell? ⟨BO, 1, none⟩ = some v1 ∧ (wc.alloc (.cells #[.int .i64 x0, .slice ac x1.length cc] 123)).cell? ⟨wr.heap.size, 0, none⟩ = some (.int .i64 x0) ∧ (wc.alloc (.cells #[.int .i64 x0, .slice ac x1.length cc] 123)).cell? ⟨wr.heap.size, 1, none⟩ = some (.slice av x1.length cv) := ⟨(xoc.alloc _).cell 1, (xwc.alloc _).cell 0, (xwc.alloc _).cell 1⟩
            obtain ⟨fpx, mx, rx⟩ := Ty.Own.mine (lo := w8.heap.size) oc
            have XOC := hidden xoc
            have XWC := hidden xwc
            have MX := hidden mx
            have RX := hidden rx
            have HBC := hidden hbc'
            clear xoc xwc mx rx oc hbc hbc'
            go_wp2_with fail
            refine hK.out _ _ (fun _ => d0) ?_
            clear hK K
            refine Upto.take (i := 7) (v := ?_) rfl (by kernel_rfl) (by kernel_rfl) (by kernel_rfl) (by kernel_rfl) (fun _ _ _ h => h) (Or.inl ⟨by rfl, ?_⟩) d0 ?_
            rotate_left 1
            · (intro w hSw; (try dsimp only at hSw); go_split_ands; go_simp; first | done | with_reducible rfl)
            simp only [Act.put, List.setIfInBounds_toArray, List.set_cons_zero, List.set_cons_succ]
            refine Upto.one (i := 8) (by kernel_rfl) rfl (fun K hK => ?_)
            go_simp
            refine hK.out _ _ (fun _ => d2) ?_
            clear hK K
            refine Upto.one (i := 9) (by kernel_rfl) rfl (fun K hK => ?_)
            refine step_appT tWr (by rfl) _ _ 85 (by rfl) 123 i1 (.agg #[.int .i64 0, .slice none 0 0]) 32 Tryz.underlying85 hi1 hy0 hy1 hy2 rfl Nat.zero_lt_two v1 (cs.take j) fp1 (by rfl) ?_ ⟨wc.heap.size, 0, none⟩ 1 [.int .i64 x0, .slice ac x1.length cc] (x0, x1) fpx (by rfl) ?_ ?_ ?_ ?_ L1.out L2.out ?_
            · exact (HM2.out.below HBC.out).alloc _
            · exact (wr_mine x0 MX.out).alloc _
            · intro b hb hb'
              have h1 := HM2.out.lt b hb
              have h2 := RX.out b hb'
              omega
            · exact news_new _ _ _
            · intro u hu
              simp at hu
              rcases hu with hu | hu <;> (rw [hu]; rfl)
            intro g cap wA fpA m1 m2 m3
            rw [HL.out] at m1 ⊢
            rw [← HTK.out] at m1
            have ya : Box wA BO 87 _ := (XOC.out.alloc _).turned m3 (fun hm => by have := HFP.out _ hm; omega)
            have yw : Box wA wr.heap.size 123 _ := (XWC.out.alloc _).turned m3 (fun hm => by have h1 := HM2.out; have h2 := HFX.out _ hm; omega)
            have r0 : wA.cell? ⟨BO, 1, none⟩ = some v1 ∧ wA.cell? ⟨wr.heap.size, 0, none⟩ = some (.int .i64 x0) ∧ wA.cell? ⟨wr.heap.size, 1, none⟩ = some (.slice av x1.length cv) := ⟨ya.cell 1, yw.cell 0, yw.cell 1⟩
            have q9 := r0.1
            have fz := ya.frozen 1
            have YA := hidden ya
            have M1 := hidden m1
            have M2 := hidden m2
            have M3 := hidden m3
            clear ya yw m1 m2 m3
            refine hK.out _ _ (fun _ => r0) ?_
            clear hK K
            simp only [Act.put, List.setIfInBounds_toArray, List.set_cons_zero, List.set_cons_succ]
            refine Upto.take (i := 10) (v := ?_) rfl (by kernel_rfl) (by kernel_rfl) (by kernel_rfl) (by kernel_rfl) (fun _ _ _ h => h) (Or.inl ⟨by rfl, ?_⟩) r0 ?_
            rotate_left 1
            · (intro w hSw; (try dsimp only at hSw); go_split_ands; go_simp; first | done | with_reducible rfl)
            simp only [Act.put, List.setIfInBounds_toArray, List.set_cons_zero, List.set_cons_succ]
            refine Upto.one (i := 11) (by kernel_rfl) rfl (fun K hK => ?_)
            go_simp
            refine hK.out _ _ (fun h => absurd rfl h) ?_
            clear hK K
            refine Upto.done (by kernel_rfl) ?_ _
            have hfA := round_fp (N := w7.heap.size) hs8 HBC.out HFP.out RX.out M2.out
            have frA := Fr.round FR2.out hs8 HBC.out _ M3.out HFP.out 1 (.slice (some ⟨g, 0, none⟩) (j + 1) cap)
            have mA := M1.out.setCell (g := BO) (j := 1) (fun hm => by have := hfA _ hm; omega) (.slice (some ⟨g, 0, none⟩) (j + 1) cap)
            have yA := YA.out.set 1 (.slice (some ⟨g, 0, none⟩) (j + 1) cap)
            have HFA := hidden hfA
            have FRA := hidden frA
            have MA := hidden mA
            have YA' := hidden yA
            clear hfA frA mA yA hS d0 d2 r0 q9 YA M1 M2 M3 XOC MX RX HBC HFP HM2 FR2 XO2 XW HX2 XWC HFX
            go_wp2
            go_roundw
            case rel => exact ⟨j + 1, _, fpA, by omega, by go_num, FRA.out, YA'.out, MA.out, HFA.out⟩
            case measure => simp [intOf]; omega
          · have e : n1 = j := by omega
            subst e
            rw [List.take_of_length_le (by omega)] at hm
            have hlt := hm.lt
            have xr := fr.box GR.out (by omega) (by omega)
            obtain ⟨p0, p1, p2, p3⟩ := xr.cells4
            have fz := xr.frozen
            obtain ⟨r0, r1, r2, r3⟩ := xo.cells4
            have K3 := fr.mine G3.out (fun b hb => by have := fs3 b hb; omega)
            have K0 := fr.own G0.out (by omega) (by omega)
            have K1 := hm.own (lo := w7.heap.size) (hi := wr.heap.size) (fun b hb => ⟨hfp b hb, hlt b hb⟩)
            have KB := GB.out.trans (fr.below (M := w.heap.size) (by omega) (by omega))
            obtain ⟨e0, g0, hv0⟩ := row_shape K0.rd
            obtain ⟨e1, g1, hv1⟩ := row_shape K1.rd
            rw [hl0] at hv0
            rw [hl1] at hv1
            subst hv0 hv1
            have hbt : But (w.heap.size + 1) (w.heap.size + 2) wr ((((wr.setCell ⟨w.heap.size + 1, 0, none⟩ (.slice e0 n0 g0)).setCell ⟨w.heap.size + 1, 1, none⟩ (.slice e1 n1 g1)).setCell ⟨w.heap.size + 1, 2, none⟩ (.bool f)).setCell ⟨w.heap.size + 1, 3, none⟩ (.slice a5 n3 c5)) :=
              (((But.setCell (by omega) (by omega) _).trans (But.setCell (by omega) (by omega) _)).trans (But.setCell (by omega) (by omega) _)).trans (But.setCell (by omega) (by omega) _)
            have H3 := hidden ((K3.but hbt (fun b hb => by have := fs3 b hb; omega)).own (lo := w.heap.size) (hi := w6.heap.size) (fun b hb => by have := fs3 b hb; omega))
            have H0 := hidden (K0.but hbt (by omega))
            have H1 := hidden (K1.but hbt (by omega))
            have HB := hidden (Below.andBut KB hbt (by omega))
            have hsz := hbt.size
            clear fr xo hm hfp hlt xr K3 K0 K1 KB hbt GM GR GB G3 G0 GO
            go_wp2
            refine bodyPost_ret (v := .agg #[.slice e0 n0 g0, .slice e1 n1 g1, .bool f, .slice a5 n3 c5]) (by simp [results, Tryz.results70, go_sem, p0, p1, p2, p3]) rfl ?_
            exact ⟨_, _, _, w6.heap.size, w7.heap.size, rfl, H3.out, H0.out, H1.out.widen (Nat.le_refl _) hsz, by omega, by omega, by omega, HB.out⟩
  · have sW := HSZ.out
    have zz := hb5'.size
    have zy : W.heap.size < w5.heap.size := xo.lt
    have hbt : But W.heap.size (W.heap.size + 1) w5 ((((w5.setCell ⟨W.heap.size, 0, none⟩ (.slice none 0 0)).setCell ⟨W.heap.size, 1, none⟩ (.slice none 0 0)).setCell ⟨W.heap.size, 2, none⟩ (.bool f)).setCell ⟨W.heap.size, 3, none⟩ (.slice a5 n3 c5)) :=
      (((But.setCell (by omega) (by omega) _).trans (But.setCell (by omega) (by omega) _)).trans (But.setCell (by omega) (by omega) _)).trans (But.setCell (by omega) (by omega) _)
    obtain ⟨fp3, m3, r3⟩ := Ty.Own.mine (show tIntS.Own w5 (W.alloc (.cells #[.slice none 0 0, .slice none 0 0, .bool false, .slice none 0 0] 87)).heap.size w5.heap.size [.slice a5 n3 c5] bs from o5)
    have hz6 : (W.alloc (.cells #[.slice none 0 0, .slice none 0 0, .bool false, .slice none 0 0] 87)).heap.size = W.heap.size + 1 := by simp
    have FM := hidden ((xm.below hb5' zW).kept (hbt.block _ (by omega) (by omega)))
    have FR := hidden ((xr.below hb5' (by omega)).kept (hbt.block _ (by omega) (by omega)))
    have FO := hidden ((((xo.set 0 (.slice none 0 0)).set 1 (.slice none 0 0)).set 2 (.bool f)).set 3 (.slice a5 n3 c5))
    have F3 := hidden (m3.but hbt (fun b hb => by have := r3 b hb; omega))
    have FB := hidden (hA.trans ((hb5'.mono (by omega : w.heap.size ≤ W.heap.size)).trans (hbt.below (by omega) (by omega))))
    have hsz := hbt.size
    have FS : Hid (w.heap.size + 2 ≤ W.heap.size ∧ W.heap.size < ((((w5.setCell ⟨W.heap.size, 0, none⟩ (.slice none 0 0)).setCell ⟨W.heap.size, 1, none⟩ (.slice none 0 0)).setCell ⟨W.heap.size, 2, none⟩ (.bool f)).setCell ⟨W.heap.size, 3, none⟩ (.slice a5 n3 c5)).heap.size ∧ ∀ b ∈ fp3, w.heap.size + 2 ≤ b ∧ b < ((((w5.setCell ⟨W.heap.size, 0, none⟩ (.slice none 0 0)).setCell ⟨W.heap.size, 1, none⟩ (.slice none 0 0)).setCell ⟨W.heap.size, 2, none⟩ (.bool f)).setCell ⟨W.heap.size, 3, none⟩ (.slice a5 n3 c5)).heap.size ∧ b ≠ W.heap.size) := ⟨by omega, by omega, fun b hb => by have := r3 b hb; omega⟩
    clear sW zz zy hbt m3 r3 hz6 hsz hS g3 q0 q1 q2 q3 xm xr hb5' o5 hb5 hA HSZ zW xo t0 t1 t2 t3 u0 u1 u2 u3
    generalize (((w5.setCell ⟨W.heap.size, 0, none⟩ (.slice none 0 0)).setCell ⟨W.heap.size, 1, none⟩ (.slice none 0 0)).setCell ⟨W.heap.size, 2, none⟩ (.bool f)).setCell ⟨W.heap.size, 3, none⟩ (.slice a5 n3 c5) = w6 at FM FR FO F3 FB FS ⊢
    generalize W.heap.size = BO at FO FS ⊢
    obtain ⟨p0, p1, p2, p3⟩ := FM.out.cells4
    obtain ⟨fs1, fs2, fs3⟩ := FS.out
    go_wp2
    go_loopw [17] (fun i wr => ∃ (j : Nat) (v0 : Value) (fp0 : List Nat), j ≤ n0 ∧ i = .int .i64 j ∧ Fr w6.heap.size BO w6 wr ∧ Box wr BO 87 #[v0, .slice none 0 0, .bool f, .slice a5 n3 c5] ∧ tIntSS.Mine wr [v0] (ss.take j) fp0 ∧ (∀ b ∈ fp0, w6.heap.size ≤ b)) (fun i _ => n0 - (intOf i).toNat)
    case atStart => exact ⟨0, _, [], Nat.zero_le _, rfl, Fr.refl _ _ _, FO.out, nil_mine _, by simp⟩
    case round =>
      obtain ⟨j, v0, fp0, hj, rfl, fr, xo, hm, hfp⟩ := hrel
      have hs := fr.size
      have xm := fr.box FM.out (by omega) (by omega)
      have hb := FB.out.trans (fr.below (M := w.heap.size) (by omega) (by omega))
      obtain ⟨q0, q1, q2, q3⟩ := xm.cells4
      clear xm
      by_cases hjn : j < n0
      · rcases rows_at rfl h0 with h0' | ⟨b, off, rfl, hbl, hcs⟩
        · omega
        have hdj : ss[j]? = some (ss[j]'(by omega)) := List.getElem?_eq_getElem (by omega)
        have htk : ss.take (j + 1) = ss.take j ++ [ss[j]'(by omega)] := List.take_succ_eq_append_getElem (by omega)
        generalize ss[j]'(by omega) = x at hdj htk
        have hil := inner_le hdj
        obtain ⟨v, hv, hrv⟩ := hcs j x hdj
        obtain ⟨av, cv, rfl⟩ := row_shape hrv
        have pv := (hb.cell (p := ⟨b, off + j, none⟩) hbl).trans hv
        have HX := hidden (hrv.below hb)
        have k1 : (0 : Int) ≤ (j : Int) := by omega
        have k2 : (j : Int) < (n0 : Int) := by omega
        have HTK := hidden htk
        have XO := hidden xo
        have FRR := hidden fr
        have HM := hidden hm
        have HFP := hidden hfp
        have HL : Hid ((ss.take j).length = j) := by unfold Hid; rw [List.length_take]; omega
        have L1 : Hid ((ss.take j).length + 1 ≤ maxLen) := by unfold Hid; rw [HL.out]; unfold maxLen; omega
        have L2 : Hid (((ss.take j).length + 1) * 24 ≤ 140737488355328) := by unfold Hid; rw [HL.out]; omega
        have c0 : wr.drew.cell? ⟨BO, 0, none⟩ = some v0 := xo.cell 0
        clear hcs hdj hv hrv htk xo hm hfp hb fr
        go_wp2_with fail
        refine Upto.start (S := fun w' => w'.cell? ⟨BO, 0, none⟩ = some v0) (k := 7) (by kernel_rfl) ?_
        refine Upto.take (i := 0) (v := ?_) rfl (by kernel_rfl) (by kernel_rfl) (by kernel_rfl) (by kernel_rfl) (fun _ _ _ h => h) (Or.inl ⟨by rfl, ?_⟩) c0 ?_
        rotate_left 1
        · (intro w hSw; (try dsimp only at hSw); go_split_ands; go_simp; first | done | with_reducible rfl)
        refine Upto.take (i := 1) (v := ?_) rfl (by kernel_rfl) (by kernel_rfl) (by kernel_rfl) (by kernel_rfl) (fun _ _ _ h => h) (Or.inl ⟨by rfl, ?_⟩) c0 ?_
        rotate_left 1
        · (intro w hSw; (try dsimp only at hSw); go_split_ands; go_simp; first | done | with_reducible rfl)
        simp only [Act.put, List.setIfInBounds_toArray, List.set_cons_zero, List.set_cons_succ]
        refine Upto.take (i := 2) (v := ?_) rfl (by kernel_rfl) (by kernel_rfl) (by kernel_rfl) (by kernel_rfl) (fun _ _ _ h => h) (Or.inl ⟨by rfl, ?_⟩) c0 ?_
        rotate_left 1
        · (intro w hSw; (try dsimp only at hSw); go_split_ands; go_simp; first | done | with_reducible rfl)
        simp only [Act.put, List.setIfInBounds_toArray, List.set_cons_zero, List.set_cons_succ]
        refine Upto.one (i := 3) (by kernel_rfl) rfl (fun K hK => ?_)
        go_simp
        refine (copyWords_any _ _ _ _ x (by exact HX.out.drew) (by omega)).mono ?_
        rintro e wc ⟨ac, cc, rfl, oc, hbc⟩
        have hbc' : Below wr.heap.size wr wc := (by exact (Below.refl wr.heap.size wr).drew.trans hbc)
        have xoc : Box wc BO 87 _ := XO.out.below hbc' (by omega)
        have c1 : wc.cell? ⟨BO, 0, none⟩ = some v0 := xoc.cell 0
        have c2 : (wc.alloc (.cells #[.slice ac x.length cc] 48)).cell? ⟨BO, 0, none⟩ = some v0 := (xoc.alloc (.cells #[.slice ac x.length cc] 48)).cell 0
        obtain ⟨fpx, mx, rx⟩ := Ty.Own.mine (lo := wr.heap.size) oc
        have XOC := hidden xoc
        have MX := hidden mx
        have RX := hidden rx
        have HBC := hidden hbc'
        clear xoc mx rx oc hbc hbc'
        go_wp2_with fail
        refine hK.out _ _ (fun _ => c1) ?_
        clear hK K
        refine Upto.one (i := 4) (by kernel_rfl) rfl (fun K hK => ?_)
        go_simp
        refine hK.out _ _ (fun _ => c2) ?_
        clear hK K
        refine Upto.one (i := 5) (by kernel_rfl) rfl (fun K hK => ?_)
        refine step_appT tIntS (by rfl) _ _ 77 (by rfl) 48 i0 (.slice none 0 0) 24 Tryz.underlying77 hi hz0 hz1 hz2 rfl Nat.zero_lt_one v0 (ss.take j) fp0 (by rfl) ?_ ⟨wc.heap.size, 0, none⟩ 1 [.slice ac x.length cc] x fpx (by rfl) ?_ ?_ ?_ ?_ L1.out L2.out ?_
        · exact (HM.out.below HBC.out).alloc _
        · exact MX.out.alloc _
        · intro b hb hb'
          have h1 := HM.out.lt b hb
          have h2 := RX.out b hb'
          omega
        · exact news_new _ _ _
        · intro u hu
          simp at hu
          rw [hu]
          rfl
        intro g cap wA fpA m1 m2 m3
        rw [HL.out] at m1 ⊢
        rw [← HTK.out] at m1
        have ya : Box wA BO 87 _ := (XOC.out.alloc _).turned m3 (fun hm => by have := HFP.out _ hm; omega)
        have r0 : wA.cell? ⟨BO, 0, none⟩ = some v0 := ya.cell 0
        have fz := ya.frozen 0
        have YA := hidden ya
        have M1 := hidden m1
        have M2 := hidden m2
        have M3 := hidden m3
        clear ya m1 m2 m3
        refine hK.out _ _ (fun _ => r0) ?_
        clear hK K
        simp only [Act.put, List.setIfInBounds_toArray, List.set_cons_zero, List.set_cons_succ]
        refine Upto.take (i := 6) (v := ?_) rfl (by kernel_rfl) (by kernel_rfl) (by kernel_rfl) (by kernel_rfl) (fun _ _ _ h => h) (Or.inl ⟨by rfl, ?_⟩) r0 ?_
        rotate_left 1
        · (intro w hSw; (try dsimp only at hSw); go_split_ands; go_simp; first | done | with_reducible rfl)
        simp only [Act.put, List.setIfInBounds_toArray, List.set_cons_zero, List.set_cons_succ]
        refine Upto.one (i := 7) (by kernel_rfl) rfl (fun K hK => ?_)
        go_simp
        refine hK.out _ _ (fun h => absurd rfl h) ?_
        clear hK K
        refine Upto.done (by kernel_rfl) ?_ _
        have hfA := round_fp (N := w6.heap.size) hs HBC.out HFP.out RX.out M2.out
        have frA := Fr.round FRR.out hs HBC.out _ M3.out HFP.out 0 (.slice (some ⟨g, 0, none⟩) (j + 1) cap)
        have mA := M1.out.setCell (g := BO) (j := 0) (fun hm => by have := hfA _ hm; omega) (.slice (some ⟨g, 0, none⟩) (j + 1) cap)
        have yA := YA.out.set 0 (.slice (some ⟨g, 0, none⟩) (j + 1) cap)
        have HFA := hidden hfA
        have FRA := hidden frA
        have MA := hidden mA
        have YA' := hidden yA
        clear hfA frA mA yA c0 c1 c2 r0 YA M1 M2 M3 XOC MX RX HBC HFP HM FRR XO
        go_wp2
        go_roundw
        case rel => exact ⟨j + 1, _, fpA, by omega, by go_num, FRA.out, YA'.out, MA.out, HFA.out⟩
        case measure => simp [intOf]; omega
      · have e : n0 = j := by omega
        subst e
        rw [List.take_of_length_le (by omega)] at hm
        have hlt := hm.lt
        have GR := hidden (fr.box FR.out (by omega) (by omega))
        have GM := hidden (fr.box FM.out (by omega) (by omega))
        have GB := hidden (FB.out.trans (fr.below (M := w.heap.size) (by omega) (by omega)))
        have G3 := hidden (fr.mine F3.out (fun b hb => by have := fs3 b hb; omega))
        have G0 := hidden (hm.own (lo := w6.heap.size) (hi := wr.heap.size) (fun b hb => ⟨hfp b hb, hlt b hb⟩))
        have GO := hidden xo
        clear fr xo hm hfp hlt FM FO F3 FB FR
        go_wp2
        generalize wr = w7 at hs GM GR GB G3 G0 GO q0 q1 q2 q3 ⊢
        go_loopw [32] (fun i wr => ∃ (j : Nat) (v1 : Value) (fp1 : List Nat), j ≤ n1 ∧ i = .int .i64 j ∧ Fr w7.heap.size BO w7 wr ∧ Box wr BO 87 #[v0, v1, .bool f, .slice a5 n3 c5] ∧ (tWrS 123).Mine wr [v1] (cs.take j) fp1 ∧ (∀ b ∈ fp1, w7.heap.size ≤ b)) (fun i _ => n1 - (intOf i).toNat)
        case atStart => exact ⟨0, _, [], Nat.zero_le _, rfl, Fr.refl _ _ _, GO.out, nil_mine _, by simp⟩
        case round =>
          obtain ⟨j, v1, fp1, hj, rfl, fr, xo, hm, hfp⟩ := hrel
          have hs2 := fr.size
          have xm := fr.box GM.out (by omega) (by omega)
          have hb := GB.out.trans (fr.below (M := w.heap.size) (by omega) (by omega))
          clear q0 q1 q2 q3
          obtain ⟨q0, q1, q2, q3⟩ := xm.cells4
          clear xm
          by_cases hjn : j < n1
          · rcases pairs_at rfl h1 with h0' | ⟨b, off, rfl, hbl, hcs⟩
            · omega
            have hdj : cs[j]? = some (cs[j]'(by omega)) := List.getElem?_eq_getElem (by omega)
            have htk : cs.take (j + 1) = cs.take j ++ [cs[j]'(by omega)] := List.take_succ_eq_append_getElem (by omega)
            generalize cs[j]'(by omega) = x at hdj htk
            have hil := inner_le' hdj
            obtain ⟨u0, u1, hv0, hv1, hrv⟩ := hcs j x hdj
            obtain ⟨rfl, hrv'⟩ := wr_rd hrv
            obtain ⟨av, cv, rfl⟩ := row_shape hrv'
            have pv0 := (hb.cell (p := ⟨b, off + j * 2, none⟩) hbl).trans hv0
            have pv1 := (hb.cell (p := ⟨b, off + j * 2 + 1, none⟩) hbl).trans hv1
            obtain ⟨x0, x1⟩ := x
            simp only at pv0 pv1 hrv' hil
            have HX := hidden (hrv'.below hb)
            have k1 : (0 : Int) ≤ (j : Int) := by omega
            have k2 : (j : Int) < (n1 : Int) := by omega
            have HTK := hidden htk
            have XO := hidden xo
            have FRR := hidden fr
            have HM := hidden hm
            have HFP := hidden hfp
            have HL : Hid ((cs.take j).length = j) := by unfold Hid; rw [List.length_take]; omega
            have L1 : Hid ((cs.take j).length + 1 ≤ maxLen) := by unfold Hid; rw [HL.out]; unfold maxLen; omega
            have L2 : Hid (((cs.take j).length + 1) * 32 ≤ 140737488355328) := by unfold Hid; rw [HL.out]; omega
            have xw := Box.new wr 123 #[.int .i64 x0, .slice av x1.length cv]
            have ba : Below wr.heap.size wr (wr.alloc (.cells #[.int .i64 x0, .slice av x1.length cv] 123)) := (Below.refl _ _).alloc (Nat.le_refl _) _
            have XO2 := hidden (xo.alloc (.cells #[.int .i64 x0, .slice av x1.length cv] 123))
            have HM2 := hidden (hm.alloc (.cells #[.int .i64 x0, .slice av x1.length cv] 123))
            have HX2 := hidden (HX.out.below ba)
            have FR2 := hidden (fr.trans (Fr.ofBelow (B := BO) ba hs2))
            have HZ : Hid (wr.heap.size < (wr.alloc (.cells #[.int .i64 x0, .slice av x1.length cv] 123)).heap.size) := by unfold Hid; simp
            have XW := hidden xw
            have HFX := hidden hm.lt
            clear hcs hdj hv0 hv1 hrv hrv' htk xo hm hfp hb fr xw ba HX HM FRR XO
            go_wp2_with fail
            generalize wr.alloc (.cells #[.int .i64 x0, .slice av x1.length cv] 123) = w8 at XO2 HM2 HX2 FR2 HZ XW ⊢
            have zw := HZ.out
            have hs8 : w7.heap.size ≤ w8.heap.size := by omega
            have c0 : w8.drew.cell? ⟨BO, 1, none⟩ = some v1 := XO2.out.cell 1
            have c1 : w8.drew.cell? ⟨wr.heap.size, 0, none⟩ = some (.int .i64 x0) := XW.out.cell 0
            have c2 : w8.drew.cell? ⟨wr.heap.size, 1, none⟩ = some (.slice av x1.length cv) := XW.out.cell 1
            have hS : w8.drew.cell? ⟨BO, 1, none⟩ = some v1 ∧ w8.drew.cell? ⟨wr.heap.size, 0, none⟩ = some (.int .i64 x0) ∧ w8.drew.cell? ⟨wr.heap.size, 1, none⟩ = some (.slice av x1.length cv) := ⟨c0, c1, c2⟩
            clear c0 c1 c2
            refine Upto.start (S := fun w' => w'.cell? ⟨BO, 1, none⟩ = some v1 ∧ w'.cell? ⟨wr.heap.size, 0, none⟩ = some (.int .i64 x0) ∧ w'.cell? ⟨wr.heap.size, 1, none⟩ = some (.slice av x1.length cv)) (k := 11) (by kernel_rfl) ?_
            refine Upto.take (i := 0) (v := ?_) rfl (by kernel_rfl) (by kernel_rfl) (by kernel_rfl) (by kernel_rfl) (fun _ _ _ h => h) (Or.inl ⟨by rfl, ?_⟩) hS ?_
            rotate_left 1
            · (intro w hSw; (try dsimp only at hSw); go_split_ands; go_simp; first | done | with_reducible rfl)
            refine Upto.take (i := 1) (v := ?_) rfl (by kernel_rfl) (by kernel_rfl) (by kernel_rfl) (by kernel_rfl) (fun _ _ _ h => h) (Or.inl ⟨by rfl, ?_⟩) hS ?_
            rotate_left 1
            · (intro w hSw; (try dsimp only at hSw); go_split_ands; go_simp; first | done | with_reducible rfl)
            simp only [Act.put, List.setIfInBounds_toArray, List.set_cons_zero, List.set_cons_succ]
            refine Upto.take (i := 2) (v := ?_) rfl (by kernel_rfl) (by kernel_rfl) (by kernel_rfl) (by kernel_rfl) (fun _ _ _ h => h) (Or.inl ⟨by rfl, ?_⟩) hS ?_
            rotate_left 1
            · (intro w hSw; (try dsimp only at hSw); go_split_ands; go_simp; first | done | with_reducible rfl)
            simp only [Act.put, List.setIfInBounds_toArray, List.set_cons_zero, List.set_cons_succ]
            refine Upto.take (i := 3) (v := ?_) rfl (by kernel_rfl) (by kernel_rfl) (by kernel_rfl) (by kernel_rfl) (fun _ _ _ h => h) (Or.inl ⟨by rfl, ?_⟩) hS ?_
            rotate_left 1
            · (intro w hSw; (try dsimp only at hSw); go_split_ands; go_simp; first | done | with_reducible rfl)
            simp only [Act.put, List.setIfInBounds_toArray, List.set_cons_zero, List.set_cons_succ]
            refine Upto.take (i := 4) (v := ?_) rfl (by kernel_rfl) (by kernel_rfl) (by kernel_rfl) (by kernel_rfl) (fun _ _ _ h => h) (Or.inl ⟨by rfl, ?_⟩) hS ?_
            rotate_left 1
            · (intro w hSw; (try dsimp only at hSw); go_split_ands; go_simp; first | done | with_reducible rfl)
            simp only [Act.put, List.setIfInBounds_toArray, List.set_cons_zero, List.set_cons_succ]
            refine Upto.take (i := 5) (v := ?_) rfl (by kernel_rfl) (by kernel_rfl) (by kernel_rfl) (by kernel_rfl) (fun _ _ _ h => h) (Or.inl ⟨by rfl, ?_⟩) hS ?_
            rotate_left 1
            · (intro w hSw; (try dsimp only at hSw); go_split_ands; go_simp; first | done | with_reducible rfl)
            simp only [Act.put, List.setIfInBounds_toArray, List.set_cons_zero, List.set_cons_succ]
            refine Upto.one (i := 6) (by kernel_rfl) rfl (fun K hK => ?_)
            go_simp
            refine (copyWords_any _ _ _ _ x1 (by exact HX2.out.drew) (by omega)).mono ?_
            rintro e wc ⟨ac, cc, rfl, oc, hbc⟩
            have hbc' : Below w8.heap.size w8 wc := (by exact (Below.refl w8.heap.size w8).drew.trans hbc)
            have xoc : Box wc BO 87 _ := XO2.out.below hbc' (by omega)
            have xwc : Box wc wr.heap.size 123 _ := XW.out.below hbc' zw
            have d0 : wc.cell? ⟨BO, 1, none⟩ = some v1 ∧ wc.cell? ⟨wr.heap.size, 0, none⟩ = some (.int .i64 x0) ∧ wc.cell? ⟨wr.heap.size, 1, none⟩ = some (.slice av x1.length cv) := ⟨xoc.cell 1, xwc.cell 0, xwc.cell 1⟩
            have d2 : (wc.alloc (.cells #[.int .i64 x0, .slice ac x1.length cc] 123)).cell? ⟨BO, 1, none⟩ = some v1 ∧ (wc.alloc (.cells #[.int .i64 x0, .slice ac x1.length cc] 123)).cell? ⟨wr.heap.size, 0, none⟩ = some (.int .i64 x0) ∧ (wc.alloc (.cells #[.int .i64 x0, .slice ac x1.length cc] 123)).cell? ⟨wr.heap.size, 1, none⟩ = some (.slice av x1.length cv) := ⟨(xoc.alloc _).cell 1, (xwc.alloc _).cell 0, (xwc.alloc _).cell 1⟩
            obtain ⟨fpx, mx, rx⟩ := Ty.Own.mine (lo := w8.heap.size) oc
            have XOC := hidden xoc
            have XWC := hidden xwc
            have MX := hidden mx
            have RX := hidden rx
            have HBC := hidden hbc'
            clear xoc xwc mx rx oc hbc hbc'
            go_wp2_with fail
            refine hK.out _ _ (fun _ => d0) ?_
            clear hK K
            refine Upto.take (i := 7) (v := ?_) rfl (by kernel_rfl) (by kernel_rfl) (by kernel_rfl) (by kernel_rfl) (fun _ _ _ h => h) (Or.inl ⟨by rfl, ?_⟩) d0 ?_
            rotate_left 1
            · (intro w hSw; (try dsimp only at hSw); go_split_ands; go_simp; first | done | with_reducible rfl)
            simp only [Act.put, List.setIfInBounds_toArray, List.set_cons_zero, List.set_cons_succ]
            refine Upto.one (i := 8) (by kernel_rfl) rfl (fun K hK => ?_)
            go_simp
            refine hK.out _ _ (fun _ => d2) ?_
            clear hK K
            refine Upto.one (i := 9) (by kernel_rfl) rfl (fun K hK => ?_)
            refine step_appT tWr (by rfl) _ _ 85 (by rfl) 123 i1 (.agg #[.int .i64 0, .slice none 0 0]) 32 Tryz.underlying85 hi1 hy0 hy1 hy2 rfl Nat.zero_lt_two v1 (cs.take j) fp1 (by rfl) ?_ ⟨wc.heap.size, 0, none⟩ 1 [.int .i64 x0, .slice ac x1.length cc] (x0, x1) fpx (by rfl) ?_ ?_ ?_ ?_ L1.out L2.out ?_
            · exact (HM2.out.below HBC.out).alloc _
            · exact (wr_mine x0 MX.out).alloc _
            · intro b hb hb'
              have h1 := HM2.out.lt b hb
              have h2 := RX.out b hb'
              omega
            · exact news_new _ _ _
            · intro u hu
              simp at hu
              rcases hu with hu | hu <;> (rw [hu]; rfl)
            intro g cap wA fpA m1 m2 m3
            rw [HL.out] at m1 ⊢
            rw [← HTK.out] at m1
            have ya : Box wA BO 87 _ := (XOC.out.alloc _).turned m3 (fun hm => by have := HFP.out _ hm; omega)
            have yw : Box wA wr.heap.size 123 _ := (XWC.out.alloc _).turned m3 (fun hm => by have h1 := HM2.out; have h2 := HFX.out _ hm; omega)
            have r0 : wA.cell? ⟨BO, 1, none⟩ = some v1 ∧ wA.cell? ⟨wr.heap.size, 0, none⟩ = some (.int .i64 x0) ∧ wA.cell? ⟨wr.heap.size, 1, none⟩ = some (.slice av x1.length cv) := ⟨ya.cell 1, yw.cell 0, yw.cell 1⟩
            have q9 := r0.1
            have fz := ya.frozen 1
            have YA := hidden ya
            have M1 := hidden m1
            have M2 := hidden m2
            have M3 := hidden m3
            clear ya yw m1 m2 m3
            refine hK.out _ _ (fun _ => r0) ?_
            clear hK K
            simp only [Act.put, List.setIfInBounds_toArray, List.set_cons_zero, List.set_cons_succ]
            refine Upto.take (i := 10) (v := ?_) rfl (by kernel_rfl) (by kernel_rfl) (by kernel_rfl) (by kernel_rfl) (fun _ _ _ h => h) (Or.inl ⟨by rfl, ?_⟩) r0 ?_
            rotate_left 1
            · (intro w hSw; (try dsimp only at hSw); go_split_ands; go_simp; first | done | with_reducible rfl)
            simp only [Act.put, List.setIfInBounds_toArray, List.set_cons_zero, List.set_cons_succ]
            refine Upto.one (i := 11) (by kernel_rfl) rfl (fun K hK => ?_)
            go_simp
            refine hK.out _ _ (fun h => absurd rfl h) ?_
            clear hK K
            refine Upto.done (by kernel_rfl) ?_ _
            have hfA := round_fp (N := w7.heap.size) hs8 HBC.out HFP.out RX.out M2.out
            have frA := Fr.round FR2.out hs8 HBC.out _ M3.out HFP.out 1 (.slice (some ⟨g, 0, none⟩) (j + 1) cap)
            have mA := M1.out.setCell (g := BO) (j := 1) (fun hm => by have := hfA _ hm; omega) (.slice (some ⟨g, 0, none⟩) (j + 1) cap)
            have yA := YA.out.set 1 (.slice (some ⟨g, 0, none⟩) (j + 1) cap)
            have HFA := hidden hfA
            have FRA := hidden frA
            have MA := hidden mA
            have YA' := hidden yA
            clear hfA frA mA yA hS d0 d2 r0 q9 YA M1 M2 M3 XOC MX RX HBC HFP HM2 FR2 XO2 XW HX2 XWC HFX
            go_wp2
            go_roundw
            case rel => exact ⟨j + 1, _, fpA, by omega, by go_num, FRA.out, YA'.out, MA.out, HFA.out⟩
            case measure => simp [intOf]; omega
          · have e : n1 = j := by omega
            subst e
            rw [List.take_of_length_le (by omega)] at hm
            have hlt := hm.lt
            have xr := fr.box GR.out (by omega) (by omega)
            obtain ⟨p0, p1, p2, p3⟩ := xr.cells4
            have fz := xr.frozen
            obtain ⟨r0, r1, r2, r3⟩ := xo.cells4
            have K3 := fr.mine G3.out (fun b hb => by have := fs3 b hb; omega)
            have K0 := fr.own G0.out (by omega) (by omega)
            have K1 := hm.own (lo := w7.heap.size) (hi := wr.heap.size) (fun b hb => ⟨hfp b hb, hlt b hb⟩)
            have KB := GB.out.trans (fr.below (M := w.heap.size) (by omega) (by omega))
            obtain ⟨e0, g0, hv0⟩ := row_shape K0.rd
            obtain ⟨e1, g1, hv1⟩ := row_shape K1.rd
            rw [hl0] at hv0
            rw [hl1] at hv1
            subst hv0 hv1
            have hbt : But (w.heap.size + 1) (w.heap.size + 2) wr ((((wr.setCell ⟨w.heap.size + 1, 0, none⟩ (.slice e0 n0 g0)).setCell ⟨w.heap.size + 1, 1, none⟩ (.slice e1 n1 g1)).setCell ⟨w.heap.size + 1, 2, none⟩ (.bool f)).setCell ⟨w.heap.size + 1, 3, none⟩ (.slice a5 n3 c5)) :=
              (((But.setCell (by omega) (by omega) _).trans (But.setCell (by omega) (by omega) _)).trans (But.setCell (by omega) (by omega) _)).trans (But.setCell (by omega) (by omega) _)
            have H3 := hidden ((K3.but hbt (fun b hb => by have := fs3 b hb; omega)).own (lo := w.heap.size) (hi := w6.heap.size) (fun b hb => by have := fs3 b hb; omega))
            have H0 := hidden (K0.but hbt (by omega))
            have H1 := hidden (K1.but hbt (by omega))
            have HB := hidden (Below.andBut KB hbt (by omega))
            have hsz := hbt.size
            clear fr xo hm hfp hlt xr K3 K0 K1 KB hbt GM GR GB G3 G0 GO
            go_wp2
            refine bodyPost_ret (v := .agg #[.slice e0 n0 g0, .slice e1 n1 g1, .bool f, .slice a5 n3 c5]) (by simp [results, Tryz.results70, go_sem, p0, p1, p2, p3]) rfl ?_
            exact ⟨_, _, _, w6.heap.size, w7.heap.size, rfl, H3.out, H0.out, H1.out.widen (Nat.le_refl _) hsz, by omega, by omega, by omega, HB.out⟩

end Go.Proofs.YtjmjianlcoleaaaGreat

namespace Go.Proofs.YtjmjianlcoleaaaGreat
open Go.RowKit

set_option maxHeartbeats 8000000 in
theorem l2Copy_any (w : World) (E : TypeId) (a0 a1 a3 : Option Addr) (n0 c0 n1 c1 n3 c3 : Nat) (ss : List (List Int)) (cs : List (Int × List Int)) (f : Bool) (bs : List Int) (h0 : tIntSS.Rd w [.slice a0 n0 c0] ss) (h1 : (tWrS E).Rd w [.slice a1 n1 c1] cs) (h3 : tIntS.Rd w [.slice a3 n3 c3] bs) (hw : wtMem (ss, cs, f, bs) ≤ 2097152) :
    Calls Tryz.prog 68 #[.agg #[.slice a0 n0 c0, .slice a1 n1 c1, .bool f, .slice a3 n3 c3]] w fun e w' => ∃ v0 v1 v3 m1 m2, e = .returned (.agg #[v0, v1, .bool f, v3]) ∧ tIntS.Own w' w.heap.size m1 [v3] bs ∧ tIntSS.Own w' m1 m2 [v0] ss ∧ (tWrS 123).Own w' m2 w'.heap.size [v1] cs ∧ m1 ≤ m2 ∧ w.heap.size ≤ m1 ∧ m2 ≤ w'.heap.size ∧ Below w.heap.size w w' := by
  obtain ⟨hl0, _, hm0⟩ := row_length h0
  obtain ⟨hl1, _, hm1⟩ := row_length h1
  obtain ⟨hl3, _, hm3⟩ := row_length h3
  have hw0 : wtIntSS ss ≤ 2097152 := by unfold wtMem at hw; simp only at hw; omega
  have hw1 : wtWrS cs ≤ 2097152 := by unfold wtMem at hw; simp only at hw; omega
  have hw3 : n3 ≤ 2097152 := by unfold wtMem at hw; simp only at hw; omega
  have hn0 : n0 ≤ 2097152 := by unfold wtIntSS at hw0; omega
  have hn1 : n1 ≤ 2097152 := by unfold wtWrS at hw1; omega
  obtain ⟨i0, hi, hz0, hz1, hz2⟩ := info_parts Tryz.infoIntS
  obtain ⟨i3, hi3, hx0, hx1, hx2⟩ := info_parts Tryz.info3
  obtain ⟨i1, hi1, hy0, hy1, hy2⟩ := info_parts Tryz.infoWr
  have hA : Below w.heap.size w ((w.alloc (.cells #[.slice a0 n0 c0, .slice a1 n1 c1, .bool f, .slice a3 n3 c3] 87)).alloc (.cells #[.slice none 0 0, .slice none 0 0, .bool false, .slice none 0 0] 87)) := ((Below.refl _ _).alloc (Nat.le_refl _) _).alloc (by simp) _
  have xm : Box ((w.alloc (.cells #[.slice a0 n0 c0, .slice a1 n1 c1, .bool f, .slice a3 n3 c3] 87)).alloc (.cells #[.slice none 0 0, .slice none 0 0, .bool false, .slice none 0 0] 87)) w.heap.size 87 #[.slice a0 n0 c0, .slice a1 n1 c1, .bool f, .slice a3 n3 c3] := (Box.new w _ _).alloc _
  have xr : Box ((w.alloc (.cells #[.slice a0 n0 c0, .slice a1 n1 c1, .bool f, .slice a3 n3 c3] 87)).alloc (.cells #[.slice none 0 0, .slice none 0 0, .bool false, .slice none 0 0] 87)) (w.heap.size + 1) 87 #[.slice none 0 0, .slice none 0 0, .bool false, .slice none 0 0] := by
    have := Box.new (w.alloc (.cells #[.slice a0 n0 c0, .slice a1 n1 c1, .bool f, .slice a3 n3 c3] 87)) 87 #[.slice none 0 0, .slice none 0 0, .bool false, .slice none 0 0]
    rw [show (w.alloc (.cells #[.slice a0 n0 c0, .slice a1 n1 c1, .bool f, .slice a3 n3 c3] 87)).heap.size = w.heap.size + 1 by simp] at this
    exact this
  have hsz : ((w.alloc (.cells #[.slice a0 n0 c0, .slice a1 n1 c1, .bool f, .slice a3 n3 c3] 87)).alloc (.cells #[.slice none 0 0, .slice none 0 0, .bool false, .slice none 0 0] 87)).heap.size = w.heap.size + 1 + 1 := by simp
  have HSZ := hidden hsz
  clear hsz
  go_enter Tryz.func68, Tryz.ntmps68
  go_wp2_with fail
  generalize hW : (w.alloc (.cells #[.slice a0 n0 c0, .slice a1 n1 c1, .bool f, .slice a3 n3 c3] 87)).alloc (.cells #[.slice none 0 0, .slice none 0 0, .bool false, .slice none 0 0] 87) = W at hA xm xr HSZ ⊢
  clear hW
  obtain ⟨q0, q1, q2, q3⟩ := xm.cells4
  have zW : w.heap.size < W.heap.size := xm.lt
  have g3 := h3.below hA
  refine' with_key (G := _) (A := fun BO g w6 a5 c5 fp3 => Box w6 w.heap.size 87 #[.slice a0 n0 c0, .slice a1 n1 c1, .bool f, .slice a3 n3 c3] ∧ Box w6 (w.heap.size + 1) 87 #[.slice none 0 0, .slice none 0 0, .bool false, .slice none 0 0] ∧ Box w6 BO 87 #[.slice none 0 0, .slice none 0 0, .bool f, .slice a5 n3 c5] ∧ tIntS.Mine w6 [.slice a5 n3 c5] bs fp3 ∧ Below w.heap.size w w6 ∧ (w.heap.size + 2 ≤ BO ∧ BO < w6.heap.size ∧ ∀ b ∈ fp3, w.heap.size + 2 ≤ b ∧ b < w6.heap.size ∧ b ≠ BO)) ?main (fun key => ?use)
  case use =>
    have sW : w.heap.size + 2 ≤ W.heap.size := by have := HSZ.out; omega
    have hgA : Box (W.alloc (.cells #[] 3)) W.heap.size 3 #[] := Box.new W 3 #[]
    have hgB : Box ((W.alloc (.cells #[] 3)).alloc (.cells #[.slice none 0 0, .slice none 0 0, .bool false, .slice none 0 0] 87)) W.heap.size 3 #[] := hgA.alloc _
    have hgC : Box ((W.alloc (.cells #[.slice none 0 0, .slice none 0 0, .bool false, .slice none 0 0] 87)).alloc (.cells #[] 3)) (W.heap.size + 1) 3 #[] := by
      have := Box.new (W.alloc (.cells #[.slice none 0 0, .slice none 0 0, .bool false, .slice none 0 0] 87)) 3 #[]
      rw [show (W.alloc (.cells #[.slice none 0 0, .slice none 0 0, .bool false, .slice none 0 0] 87)).heap.size = W.heap.size + 1 by simp] at this
      exact this
    have xoB : Box ((W.alloc (.cells #[] 3)).alloc (.cells #[.slice none 0 0, .slice none 0 0, .bool false, .slice none 0 0] 87)) (W.heap.size + 1) 87 #[.slice none 0 0, .slice none 0 0, .bool false, .slice none 0 0] := by
      have := Box.new (W.alloc (.cells #[] 3)) 87 #[.slice none 0 0, .slice none 0 0, .bool false, .slice none 0 0]
      rw [show (W.alloc (.cells #[] 3)).heap.size = W.heap.size + 1 by simp] at this
      exact this
    have xoC : Box ((W.alloc (.cells #[.slice none 0 0, .slice none 0 0, .bool false, .slice none 0 0] 87)).alloc (.cells #[] 3)) W.heap.size 87 #[.slice none 0 0, .slice none 0 0, .bool false, .slice none 0 0] := (Box.new W _ _).alloc _
    have zA : (W.alloc (.cells #[] 3)).heap.size = W.heap.size + 1 := by simp
    have zB : ((W.alloc (.cells #[] 3)).alloc (.cells #[.slice none 0 0, .slice none 0 0, .bool false, .slice none 0 0] 87)).heap.size = W.heap.size + 2 := by simp
    have zC : ((W.alloc (.cells #[.slice none 0 0, .slice none 0 0, .bool false, .slice none 0 0] 87)).alloc (.cells #[] 3)).heap.size = W.heap.size + 2 := by simp
    have ZA := hidden zA
    have ZB := hidden zB
    have ZC := hidden zC
    have HGA : Hid ((W.alloc (.cells #[] 3)).drew.heap[W.heap.size]? = some (.cells #[] 3 (0, 0))) := hgA
    have RDA : Hid (tIntS.Rd (W.alloc (.cells #[] 3)).drew [.slice a3 n3 c3] bs) := (g3.below ((Below.refl _ _).alloc (Nat.le_refl _) _)).drew
    have HGB : Hid (((W.alloc (.cells #[] 3)).alloc (.cells #[.slice none 0 0, .slice none 0 0, .bool false, .slice none 0 0] 87)).drew.heap[W.heap.size]? = some (.cells #[] 3 (0, 0))) := hgB
    have RDB : Hid (tIntS.Rd ((W.alloc (.cells #[] 3)).alloc (.cells #[.slice none 0 0, .slice none 0 0, .bool false, .slice none 0 0] 87)).drew [.slice a3 n3 c3] bs) := (g3.below (((Below.refl _ _).alloc (Nat.le_refl _) _).alloc (by simp) _)).drew
    have HGC : Hid (((W.alloc (.cells #[.slice none 0 0, .slice none 0 0, .bool false, .slice none 0 0] 87)).alloc (.cells #[] 3)).drew.heap[W.heap.size + 1]? = some (.cells #[] 3 (0, 0))) := hgC
    have RDC : Hid (tIntS.Rd ((W.alloc (.cells #[.slice none 0 0, .slice none 0 0, .bool false, .slice none 0 0] 87)).alloc (.cells #[] 3)).drew [.slice a3 n3 c3] bs) := (g3.below (((Below.refl _ _).alloc (Nat.le_refl _) _).alloc (by simp) _)).drew
    have XOB := hidden xoB
    have XOC := hidden xoC
    have XM := hidden xm
    have XR := hidden xr
    have G3 := hidden g3
    clear zA zB zC hgA hgB hgC xoB xoC
    have hS : ∀ w', Box w' w.heap.size 87 #[.slice a0 n0 c0, .slice a1 n1 c1, .bool f, .slice a3 n3 c3] → w'.cell? ⟨w.heap.size, 2, none⟩ = some (.bool f) ∧ w'.cell? ⟨w.heap.size, 3, none⟩ = some (.slice a3 n3 c3) := fun w' hb => ⟨hb.cell 2, hb.cell 3⟩
    have nB : Hid (w.heap.size ≠ W.heap.size + 1) := by unfold Hid; omega
    have nC : Hid (w.heap.size ≠ W.heap.size) := by unfold Hid; omega
    have hD : ∀ w', Box w' w.heap.size 87 #[.slice a0 n0 c0, .slice a1 n1 c1, .bool f, .slice a3 n3 c3] → w'.drew.cell? ⟨w.heap.size, 2, none⟩ = some (.bool f) ∧ w'.drew.cell? ⟨w.heap.size, 3, none⟩ = some (.slice a3 n3 c3) := hS
    go_region_held3 (fun w' => w'.cell? ⟨w.heap.size, 2, none⟩ = some (.bool f) ∧ w'.cell? ⟨w.heap.size, 3, none⟩ = some (.slice a3 n3 c3))
      (first | (with_reducible exact hS w5 XM5.out) | (with_reducible exact hS _ (XM5.out.alloc _)) | (with_reducible exact hS _ ((((XM5.out.other nB.out 0 _).other nB.out 1 _).other nB.out 2 _).other nB.out 3 _)) | (with_reducible exact hS _ ((((XM5.out.other nC.out 0 _).other nC.out 1 _).other nC.out 2 _).other nC.out 3 _)) | (with_reducible exact hD _ XM.out) | (with_reducible exact hD _ (XM.out.alloc _)) | (with_reducible exact hD _ ((XM.out.alloc _).alloc _)) | go_keep)
      (first
        | (refine step_copy (by rfl) _ _ 48 (by rfl) i3 Tryz.underlying48 hi3 hx0 hx1 hx2 W.heap.size (by rfl) (by with_reducible exact HGA.out) a3 n3 c3 bs (by rfl) (by with_reducible exact RDA.out) (by omega) ?_; intro a5 c5 w5 fp3 m3 r3 t3; have t3' : Turned [W.heap.size] (W.alloc (.cells #[] 3)) w5 := Turned.undrew t3; have XM5 := hidden ((XM.out.alloc (.cells #[] 3)).turned t3' (by simp; omega)); have XR5 := hidden ((XR.out.alloc (.cells #[] 3)).turned t3' (by simp; omega)); have T3 := hidden t3'; have M3 := hidden m3; have R3 := hidden r3; clear t3 t3' m3 r3)
        | (refine step_copy (by rfl) _ _ 48 (by rfl) i3 Tryz.underlying48 hi3 hx0 hx1 hx2 W.heap.size (by rfl) (by with_reducible exact HGB.out) a3 n3 c3 bs (by rfl) (by with_reducible exact RDB.out) (by omega) ?_; intro a5 c5 w5 fp3 m3 r3 t3; have t3' : Turned [W.heap.size] ((W.alloc (.cells #[] 3)).alloc (.cells #[.slice none 0 0, .slice none 0 0, .bool false, .slice none 0 0] 87)) w5 := Turned.undrew t3; have XM5 := hidden (((XM.out.alloc (.cells #[] 3)).alloc (.cells #[.slice none 0 0, .slice none 0 0, .bool false, .slice none 0 0] 87)).turned t3' (by simp; omega)); have XR5 := hidden (((XR.out.alloc (.cells #[] 3)).alloc (.cells #[.slice none 0 0, .slice none 0 0, .bool false, .slice none 0 0] 87)).turned t3' (by simp; omega)); have xo5 := XOB.out.turned t3' (by simp); obtain ⟨s0, s1, s2, s3⟩ := xo5.cells4; have u0 := xo5.frozen 0; have u1 := xo5.frozen 1; have u2 := xo5.frozen 2; have u3 := xo5.frozen 3; have XO5 := hidden xo5; have T3 := hidden t3'; have M3 := hidden m3; have R3 := hidden r3; clear t3 t3' m3 r3 xo5)
        | (refine step_copy (by rfl) _ _ 48 (by rfl) i3 Tryz.underlying48 hi3 hx0 hx1 hx2 (W.heap.size + 1) (by rfl) (by with_reducible exact HGC.out) a3 n3 c3 bs (by rfl) (by with_reducible exact RDC.out) (by omega) ?_; intro a5 c5 w5 fp3 m3 r3 t3; have t3' : Turned [W.heap.size + 1] ((W.alloc (.cells #[.slice none 0 0, .slice none 0 0, .bool false, .slice none 0 0] 87)).alloc (.cells #[] 3)) w5 := Turned.undrew t3; have XM5 := hidden (((XM.out.alloc (.cells #[.slice none 0 0, .slice none 0 0, .bool false, .slice none 0 0] 87)).alloc (.cells #[] 3)).turned t3' (by simp; omega)); have XR5 := hidden (((XR.out.alloc (.cells #[.slice none 0 0, .slice none 0 0, .bool false, .slice none 0 0] 87)).alloc (.cells #[] 3)).turned t3' (by simp; omega)); have xo5 := XOC.out.turned t3' (by simp); obtain ⟨s0, s1, s2, s3⟩ := xo5.cells4; have u0 := xo5.frozen 0; have u1 := xo5.frozen 1; have u2 := xo5.frozen 2; have u3 := xo5.frozen 3; have XO5 := hidden xo5; have T3 := hidden t3'; have M3 := hidden m3; have R3 := hidden r3; clear t3 t3' m3 r3 xo5))
    · have hT := T3.out
      have zA := ZA.out
      have zT := hT.size
      have z6 : (w5.alloc (.cells #[.slice none 0 0, .slice none 0 0, .bool f, .slice a5 n3 c5] 87)).heap.size = w5.heap.size + 1 := by simp
      have FM := XM5.out.alloc (.cells #[.slice none 0 0, .slice none 0 0, .bool f, .slice a5 n3 c5] 87)
      have FR := XR5.out.alloc (.cells #[.slice none 0 0, .slice none 0 0, .bool f, .slice a5 n3 c5] 87)
      have FO := Box.new w5 87 #[.slice none 0 0, .slice none 0 0, .bool f, .slice a5 n3 c5]
      have F3 := M3.out.alloc (.cells #[.slice none 0 0, .slice none 0 0, .bool f, .slice a5 n3 c5] 87)
      have FB : Below w.heap.size w (w5.alloc (.cells #[.slice none 0 0, .slice none 0 0, .bool f, .slice a5 n3 c5] 87)) := (((hA.alloc (by omega) (.cells #[] 3)).trans (hT.below (N := w.heap.size) (by omega) (by simp; omega))).alloc (by omega) (.cells #[.slice none 0 0, .slice none 0 0, .bool f, .slice a5 n3 c5] 87))
      have FS : w.heap.size + 2 ≤ w5.heap.size ∧ w5.heap.size < (w5.alloc (.cells #[.slice none 0 0, .slice none 0 0, .bool f, .slice a5 n3 c5] 87)).heap.size ∧ ∀ b ∈ fp3, w.heap.size + 2 ≤ b ∧ b < (w5.alloc (.cells #[.slice none 0 0, .slice none 0 0, .bool f, .slice a5 n3 c5] 87)).heap.size ∧ b ≠ w5.heap.size := ⟨by omega, by omega, fun b hb => by
        obtain ⟨h1, h2⟩ := R3.out b hb
        have h3 : (W.alloc (.cells #[] 3)).drew.heap.size = (W.alloc (.cells #[] 3)).heap.size := rfl
        omega⟩
      have ALL := hidden (And.intro FM (And.intro FR (And.intro FO (And.intro F3 (And.intro FB FS)))))
      clear FM FR FO F3 FB FS hT zA zT z6
      generalize w5.alloc (.cells #[.slice none 0 0, .slice none 0 0, .bool f, .slice a5 n3 c5] 87) = w6 at ALL ⊢
      generalize w5.heap.size = BO at ALL ⊢
      generalize W.heap.size = g
      exact key.out BO g w6 a5 c5 fp3 ALL.out
    · have hT := T3.out
      have zA := ZB.out
      have zT := hT.size
      have hbt : But (W.heap.size + 1) (W.heap.size + 1 + 1) w5 ((((w5.setCell ⟨W.heap.size + 1, 0, none⟩ (.slice none 0 0)).setCell ⟨W.heap.size + 1, 1, none⟩ (.slice none 0 0)).setCell ⟨W.heap.size + 1, 2, none⟩ (.bool f)).setCell ⟨W.heap.size + 1, 3, none⟩ (.slice a5 n3 c5)) :=
        (((But.setCell (by omega) (by omega) _).trans (But.setCell (by omega) (by omega) _)).trans (But.setCell (by omega) (by omega) _)).trans (But.setCell (by omega) (by omega) _)
      have z6 := hbt.size
      have rr : ∀ b ∈ fp3, w.heap.size + 2 ≤ b ∧ b < w5.heap.size ∧ b ≠ W.heap.size + 1 := fun b hb => by
        obtain ⟨h1, h2⟩ := R3.out b hb
        have h3 : ((W.alloc (.cells #[] 3)).alloc (.cells #[.slice none 0 0, .slice none 0 0, .bool false, .slice none 0 0] 87)).drew.heap.size = ((W.alloc (.cells #[] 3)).alloc (.cells #[.slice none 0 0, .slice none 0 0, .bool false, .slice none 0 0] 87)).heap.size := rfl
        omega
      have FM := XM5.out.kept (hbt.block _ (by omega) (by omega))
      have FR := XR5.out.kept (hbt.block _ (by omega) (by omega))
      have FO := (((XO5.out.set 0 (.slice none 0 0)).set 1 (.slice none 0 0)).set 2 (.bool f)).set 3 (.slice a5 n3 c5)
      have F3 := M3.out.but hbt (fun b hb => by have := rr b hb; omega)
      have FB : Below w.heap.size w ((((w5.setCell ⟨W.heap.size + 1, 0, none⟩ (.slice none 0 0)).setCell ⟨W.heap.size + 1, 1, none⟩ (.slice none 0 0)).setCell ⟨W.heap.size + 1, 2, none⟩ (.bool f)).setCell ⟨W.heap.size + 1, 3, none⟩ (.slice a5 n3 c5)) := ((hA.alloc (by omega) (.cells #[] 3)).alloc (by simp; omega) (.cells #[.slice none 0 0, .slice none 0 0, .bool false, .slice none 0 0] 87)).trans ((hT.below (N := w.heap.size) (by omega) (by simp; omega)).trans (hbt.below (by omega) (by omega)))
      have FS : w.heap.size + 2 ≤ W.heap.size + 1 ∧ W.heap.size + 1 < ((((w5.setCell ⟨W.heap.size + 1, 0, none⟩ (.slice none 0 0)).setCell ⟨W.heap.size + 1, 1, none⟩ (.slice none 0 0)).setCell ⟨W.heap.size + 1, 2, none⟩ (.bool f)).setCell ⟨W.heap.size + 1, 3, none⟩ (.slice a5 n3 c5)).heap.size ∧ ∀ b ∈ fp3, w.heap.size + 2 ≤ b ∧ b < ((((w5.setCell ⟨W.heap.size + 1, 0, none⟩ (.slice none 0 0)).setCell ⟨W.heap.size + 1, 1, none⟩ (.slice none 0 0)).setCell ⟨W.heap.size + 1, 2, none⟩ (.bool f)).setCell ⟨W.heap.size + 1, 3, none⟩ (.slice a5 n3 c5)).heap.size ∧ b ≠ W.heap.size + 1 := ⟨by omega, by omega, fun b hb => by have := rr b hb; omega⟩
      have ALL := hidden (And.intro FM (And.intro FR (And.intro FO (And.intro F3 (And.intro FB FS)))))
      clear FM FR FO F3 FB FS hT zA zT z6 rr hbt
      generalize ((((w5.setCell ⟨W.heap.size + 1, 0, none⟩ (.slice none 0 0)).setCell ⟨W.heap.size + 1, 1, none⟩ (.slice none 0 0)).setCell ⟨W.heap.size + 1, 2, none⟩ (.bool f)).setCell ⟨W.heap.size + 1, 3, none⟩ (.slice a5 n3 c5)) = w6 at ALL ⊢
      generalize W.heap.size + 1 = BO at ALL ⊢
      generalize W.heap.size = g
      exact key.out BO g w6 a5 c5 fp3 ALL.out
    · have hT := T3.out
      have zA := ZC.out
      have zT := hT.size
      have hbt : But (W.heap.size) (W.heap.size + 1) w5 ((((w5.setCell ⟨W.heap.size, 0, none⟩ (.slice none 0 0)).setCell ⟨W.heap.size, 1, none⟩ (.slice none 0 0)).setCell ⟨W.heap.size, 2, none⟩ (.bool f)).setCell ⟨W.heap.size, 3, none⟩ (.slice a5 n3 c5)) :=
        (((But.setCell (by omega) (by omega) _).trans (But.setCell (by omega) (by omega) _)).trans (But.setCell (by omega) (by omega) _)).trans (But.setCell (by omega) (by omega) _)
      have z6 := hbt.size
      have rr : ∀ b ∈ fp3, w.heap.size + 2 ≤ b ∧ b < w5.heap.size ∧ b ≠ W.heap.size := fun b hb => by
        obtain ⟨h1, h2⟩ := R3.out b hb
        have h3 : ((W.alloc (.cells #[.slice none 0 0, .slice none 0 0, .bool false, .slice none 0 0] 87)).alloc (.cells #[] 3)).drew.heap.size = ((W.alloc (.cells #[.slice none 0 0, .slice none 0 0, .bool false, .slice none 0 0] 87)).alloc (.cells #[] 3)).heap.size := rfl
        omega
      have FM := XM5.out.kept (hbt.block _ (by omega) (by omega))
      have FR := XR5.out.kept (hbt.block _ (by omega) (by omega))
      have FO := (((XO5.out.set 0 (.slice none 0 0)).set 1 (.slice none 0 0)).set 2 (.bool f)).set 3 (.slice a5 n3 c5)
      have F3 := M3.out.but hbt (fun b hb => by have := rr b hb; omega)
      have FB : Below w.heap.size w ((((w5.setCell ⟨W.heap.size, 0, none⟩ (.slice none 0 0)).setCell ⟨W.heap.size, 1, none⟩ (.slice none 0 0)).setCell ⟨W.heap.size, 2, none⟩ (.bool f)).setCell ⟨W.heap.size, 3, none⟩ (.slice a5 n3 c5)) := ((hA.alloc (by omega) (.cells #[.slice none 0 0, .slice none 0 0, .bool false, .slice none 0 0] 87)).alloc (by simp; omega) (.cells #[] 3)).trans ((hT.below (N := w.heap.size) (by omega) (by simp; omega)).trans (hbt.below (by omega) (by omega)))
      have FS : w.heap.size + 2 ≤ W.heap.size ∧ W.heap.size < ((((w5.setCell ⟨W.heap.size, 0, none⟩ (.slice none 0 0)).setCell ⟨W.heap.size, 1, none⟩ (.slice none 0 0)).setCell ⟨W.heap.size, 2, none⟩ (.bool f)).setCell ⟨W.heap.size, 3, none⟩ (.slice a5 n3 c5)).heap.size ∧ ∀ b ∈ fp3, w.heap.size + 2 ≤ b ∧ b < ((((w5.setCell ⟨W.heap.size, 0, none⟩ (.slice none 0 0)).setCell ⟨W.heap.size, 1, none⟩ (.slice none 0 0)).setCell ⟨W.heap.size, 2, none⟩ (.bool f)).setCell ⟨W.heap.size, 3, none⟩ (.slice a5 n3 c5)).heap.size ∧ b ≠ W.heap.size := ⟨by omega, by omega, fun b hb => by have := rr b hb; omega⟩
      have ALL := hidden (And.intro FM (And.intro FR (And.intro FO (And.intro F3 (And.intro FB FS)))))
      clear FM FR FO F3 FB FS hT zA zT z6 rr hbt
      generalize ((((w5.setCell ⟨W.heap.size, 0, none⟩ (.slice none 0 0)).setCell ⟨W.heap.size, 1, none⟩ (.slice none 0 0)).setCell ⟨W.heap.size, 2, none⟩ (.bool f)).setCell ⟨W.heap.size, 3, none⟩ (.slice a5 n3 c5)) = w6 at ALL ⊢
      generalize W.heap.size + 1 = g
      generalize W.heap.size = BO at ALL ⊢
      exact key.out BO g w6 a5 c5 fp3 ALL.out
  case main =>
    rintro BO g w6 a5 c5 fp3 ⟨fm, fr0, fo, f3, fb, fs⟩
    have FM := hidden fm
    have FR := hidden fr0
    have FO := hidden fo
    have F3 := hidden f3
    have FB := hidden fb
    have FS := hidden fs
    clear fm fr0 fo f3 fb fs
    clear xm xr q0 q1 q2 q3 HSZ zW g3 hA
    obtain ⟨p0, p1, p2, p3⟩ := FM.out.cells4
    obtain ⟨fs1, fs2, fs3⟩ := FS.out
    go_wp2
    go_loopw [4] (fun i wr => ∃ (j : Nat) (v0 : Value) (fp0 : List Nat), j ≤ n0 ∧ i = .int .i64 j ∧ Fr w6.heap.size BO w6 wr ∧ Box wr BO 87 #[v0, .slice none 0 0, .bool f, .slice a5 n3 c5] ∧ tIntSS.Mine wr [v0] (ss.take j) fp0 ∧ (∀ b ∈ fp0, w6.heap.size ≤ b)) (fun i _ => n0 - (intOf i).toNat)
    case atStart => exact ⟨0, _, [], Nat.zero_le _, rfl, Fr.refl _ _ _, FO.out, nil_mine _, by simp⟩
    case round =>
      obtain ⟨j, v0, fp0, hj, rfl, fr, xo, hm, hfp⟩ := hrel
      have hs := fr.size
      have xm := fr.box FM.out (by omega) (by omega)
      have hb := FB.out.trans (fr.below (M := w.heap.size) (by omega) (by omega))
      obtain ⟨q0, q1, q2, q3⟩ := xm.cells4
      by_cases hjn : j < n0
      · rcases rows_at rfl h0 with h0' | ⟨b, off, rfl, hbl, hcs⟩
        · omega
        have hdj : ss[j]? = some (ss[j]'(by omega)) := List.getElem?_eq_getElem (by omega)
        have htk : ss.take (j + 1) = ss.take j ++ [ss[j]'(by omega)] := List.take_succ_eq_append_getElem (by omega)
        generalize ss[j]'(by omega) = x at hdj htk
        have hil := inner_le hdj
        obtain ⟨v, hv, hrv⟩ := hcs j x hdj
        obtain ⟨av, cv, rfl⟩ := row_shape hrv
        have pv := (hb.cell (p := ⟨b, off + j, none⟩) hbl).trans hv
        have HX := hidden (hrv.below hb)
        have k1 : (0 : Int) ≤ (j : Int) := by omega
        have k2 : (j : Int) < (n0 : Int) := by omega
        have HTK := hidden htk
        have XO := hidden xo
        have XMR := hidden xm
        have FRR := hidden fr
        have HM := hidden hm
        have HFP := hidden hfp
        have HL : Hid ((ss.take j).length = j) := by unfold Hid; rw [List.length_take]; omega
        have L1 : Hid ((ss.take j).length + 1 ≤ maxLen) := by unfold Hid; rw [HL.out]; unfold maxLen; omega
        have L2 : Hid (((ss.take j).length + 1) * 24 ≤ 140737488355328) := by unfold Hid; rw [HL.out]; omega
        have mk : Hid (∀ w', Box w' BO 87 #[v0, .slice none 0 0, .bool f, .slice a5 n3 c5] → Box w' w.heap.size 87 #[.slice (some ⟨b, off, none⟩) n0 c0, .slice a1 n1 c1, .bool f, .slice a3 n3 c3] → w'.heap[b]? = wr.heap[b]? → w'.cell? ⟨BO, 0, none⟩ = some (v0) ∧ w'.cell? ⟨w.heap.size, 0, none⟩ = some (.slice (some ⟨b, off, none⟩) n0 c0) ∧ w'.cell? ⟨b, off + j, none⟩ = some (.slice av x.length cv)) := fun w' e1 e2 e3 => ⟨e1.cell 0, e2.cell 0, (World.cell?_of_block e3).trans pv⟩
        have bA : Below wr.heap.size wr (wr.alloc (.cells #[] 3)) := (Below.refl _ _).alloc (Nat.le_refl _) _
        have hS : wr.drew.cell? ⟨BO, 0, none⟩ = some (v0) ∧ wr.drew.cell? ⟨w.heap.size, 0, none⟩ = some (.slice (some ⟨b, off, none⟩) n0 c0) ∧ wr.drew.cell? ⟨b, off + j, none⟩ = some (.slice av x.length cv) := mk.out wr.drew xo xm rfl
        have hS2 : (wr.alloc (.cells #[] 3)).drew.cell? ⟨BO, 0, none⟩ = some (v0) ∧ (wr.alloc (.cells #[] 3)).drew.cell? ⟨w.heap.size, 0, none⟩ = some (.slice (some ⟨b, off, none⟩) n0 c0) ∧ (wr.alloc (.cells #[] 3)).drew.cell? ⟨b, off + j, none⟩ = some (.slice av x.length cv) := mk.out (wr.alloc (.cells #[] 3)).drew (xo.alloc _) (xm.alloc _) (bA.block b (by omega))
        have HG : Hid ((wr.alloc (.cells #[] 3)).drew.heap[wr.heap.size]? = some (.cells #[] 3 (0, 0))) := Box.new wr 3 #[]
        have RD : Hid (tIntS.Rd (wr.alloc (.cells #[] 3)).drew [.slice av x.length cv] x) := (HX.out.below bA).drew
        have BA := hidden bA
        clear hcs hdj hv hrv htk xo xm hm hfp hb fr pv bA
        go_wp2_with fail
        refine Upto.start (S := fun w' => w'.cell? ⟨BO, 0, none⟩ = some (v0) ∧ w'.cell? ⟨w.heap.size, 0, none⟩ = some (.slice (some ⟨b, off, none⟩) n0 c0) ∧ w'.cell? ⟨b, off + j, none⟩ = some (.slice av x.length cv)) (k := 12) (by kernel_rfl) ?_
        refine Upto.take (i := 0) (v := ?_) rfl (by kernel_rfl) (by kernel_rfl) (by kernel_rfl) (by kernel_rfl) (fun _ _ _ h => h) (Or.inl ⟨by rfl, ?_⟩) hS ?_
        rotate_left 1
        · (intro w hSw; (try dsimp only at hSw); go_split_ands; go_simp; first | done | with_reducible rfl)
        simp only [Act.put, List.setIfInBounds_toArray, List.set_cons_zero, List.set_cons_succ]
        refine Upto.take (i := 1) (v := ?_) rfl (by kernel_rfl) (by kernel_rfl) (by kernel_rfl) (by kernel_rfl) (fun _ _ _ h => h) (Or.inl ⟨by rfl, ?_⟩) hS ?_
        rotate_left 1
        · (intro w hSw; (try dsimp only at hSw); go_split_ands; go_simp; first | done | with_reducible rfl)
        simp only [Act.put, List.setIfInBounds_toArray, List.set_cons_zero, List.set_cons_succ]
        refine Upto.take (i := 3) (v := ?_) rfl (by kernel_rfl) (by kernel_rfl) (by kernel_rfl) (by kernel_rfl) (fun _ _ _ h => h) (Or.inl ⟨by rfl, ?_⟩) hS ?_
        rotate_left 1
        · (intro w hSw; (try dsimp only at hSw); go_split_ands; go_simp; first | done | with_reducible rfl)
        simp only [Act.put, List.setIfInBounds_toArray, List.set_cons_zero, List.set_cons_succ]
        refine Upto.take (i := 4) (v := ?_) rfl (by kernel_rfl) (by kernel_rfl) (by kernel_rfl) (by kernel_rfl) (fun _ _ _ h => h) (Or.inl ⟨by rfl, ?_⟩) hS ?_
        rotate_left 1
        · (intro w hSw; (try dsimp only at hSw); go_split_ands; go_simp; first | done | with_reducible rfl)
        simp only [Act.put, List.setIfInBounds_toArray, List.set_cons_zero, List.set_cons_succ]
        refine Upto.take (i := 5) (v := ?_) rfl (by kernel_rfl) (by kernel_rfl) (by kernel_rfl) (by kernel_rfl) (fun _ _ _ h => h) (Or.inl ⟨by rfl, ?_⟩) hS ?_
        rotate_left 1
        · (intro w hSw; (try dsimp only at hSw); go_split_ands; go_simp; first | done | with_reducible rfl)
        simp only [Act.put, List.setIfInBounds_toArray, List.set_cons_zero, List.set_cons_succ]
        refine Upto.take (i := 6) (v := ?_) rfl (by kernel_rfl) (by kernel_rfl) (by kernel_rfl) (by kernel_rfl) (fun _ _ _ h => h) (Or.inl ⟨by rfl, ?_⟩) hS ?_
        rotate_left 1
        · (intro w hSw; (try dsimp only at hSw); go_split_ands; go_simp; first | done | with_reducible rfl)
        simp only [Act.put, List.setIfInBounds_toArray, List.set_cons_zero, List.set_cons_succ]
        refine Upto.take (i := 7) (v := ?_) rfl (by kernel_rfl) (by kernel_rfl) (by kernel_rfl) (by kernel_rfl) (fun _ _ _ h => h) (Or.inl ⟨by rfl, ?_⟩) hS ?_
        rotate_left 1
        · (intro w hSw; (try dsimp only at hSw); go_split_ands; go_simp; first | done | with_reducible rfl)
        simp only [Act.put, List.setIfInBounds_toArray, List.set_cons_zero, List.set_cons_succ]
        refine Upto.one (i := 2) (by kernel_rfl) rfl (fun K hK => ?_)
        go_simp
        refine hK.out _ _ (fun _ => hS2) ?_
        clear hK K
        refine Upto.one (i := 8) (by kernel_rfl) rfl (fun K hK => ?_)
        refine step_copy (by rfl) _ _ 48 (by rfl) i3 Tryz.underlying48 hi3 hx0 hx1 hx2 wr.heap.size (by rfl) HG.out av x.length cv x (by rfl) RD.out (by omega) ?_
        intro ac cc wc fpx mx rx tx
        have tx' : Turned [wr.heap.size] (wr.alloc (.cells #[] 3)) wc := Turned.undrew tx
        have zA : (wr.alloc (.cells #[] 3)).heap.size = wr.heap.size + 1 := by simp
        have zd : (wr.alloc (.cells #[] 3)).drew.heap.size = (wr.alloc (.cells #[] 3)).heap.size := rfl
        have hbc' : Below wr.heap.size wr wc := BA.out.trans (tx'.below (N := wr.heap.size) (by omega) (by simp))
        have xoc : Box wc BO 87 _ := XO.out.below hbc' (by omega)
        have xmc : Box wc w.heap.size 87 _ := XMR.out.below hbc' (by omega)
        have hS3 : wc.cell? ⟨BO, 0, none⟩ = some (v0) ∧ wc.cell? ⟨w.heap.size, 0, none⟩ = some (.slice (some ⟨b, off, none⟩) n0 c0) ∧ wc.cell? ⟨b, off + j, none⟩ = some (.slice av x.length cv) := mk.out wc xoc xmc (hbc'.block b (by omega))
        have bB : Below wc.heap.size wc (wc.alloc (.cells #[.slice ac x.length cc] 48)) := (Below.refl _ _).alloc (Nat.le_refl _) _
        have zc := hbc'.size
        have hS4 : (wc.alloc (.cells #[.slice ac x.length cc] 48)).cell? ⟨BO, 0, none⟩ = some (v0) ∧ (wc.alloc (.cells #[.slice ac x.length cc] 48)).cell? ⟨w.heap.size, 0, none⟩ = some (.slice (some ⟨b, off, none⟩) n0 c0) ∧ (wc.alloc (.cells #[.slice ac x.length cc] 48)).cell? ⟨b, off + j, none⟩ = some (.slice av x.length cv) := mk.out _ (xoc.alloc _) (xmc.alloc _) ((bB.block b (by omega)).trans (hbc'.block b (by omega)))
        have RX : Hid (∀ b ∈ fpx, wr.heap.size ≤ b ∧ b < wc.heap.size) := fun b hb => by have := rx b hb; omega
        have XOC := hidden xoc
        have XMC := hidden xmc
        have MX := hidden mx
        have HBC := hidden hbc'
        have BB := hidden (Below.andThen hbc' bB)
        clear xoc xmc mx rx tx tx' hbc' bB zA zd
        refine hK.out _ _ (fun _ => hS3) ?_
        clear hK K
        simp only [Act.put, List.setIfInBounds_toArray, List.set_cons_zero, List.set_cons_succ]
        refine Upto.one (i := 9) (by kernel_rfl) rfl (fun K hK => ?_)
        go_simp
        refine hK.out _ _ (fun _ => hS4) ?_
        clear hK K
        refine Upto.one (i := 10) (by kernel_rfl) rfl (fun K hK => ?_)
        refine step_appT tIntS (by rfl) _ _ 77 (by rfl) 48 i0 (.slice none 0 0) 24 Tryz.underlying77 hi hz0 hz1 hz2 rfl Nat.zero_lt_one v0 (ss.take j) fp0 (by rfl) ?_ ⟨wc.heap.size, 0, none⟩ 1 [.slice ac x.length cc] x fpx (by rfl) ?_ ?_ ?_ ?_ L1.out L2.out ?_
        · exact (HM.out.below HBC.out).alloc _
        · exact MX.out.alloc _
        · intro b hb hb'
          have h1 := HM.out.lt b hb
          have h2 := RX.out b hb'
          omega
        · exact news_new _ _ _
        · intro u hu
          simp at hu
          rw [hu]
          rfl
        intro g cap wA fpA m1 m2 m3
        rw [HL.out] at m1 ⊢
        rw [← HTK.out] at m1
        have ya : Box wA BO 87 _ := (XOC.out.alloc _).turned m3 (fun hm => by have := HFP.out _ hm; omega)
        have ym : Box wA w.heap.size 87 _ := (XMC.out.alloc _).turned m3 (fun hm => by have := HFP.out _ hm; omega)
        have zB : (wc.alloc (.cells #[.slice ac x.length cc] 48)).heap.size = wc.heap.size + 1 := by simp
        have hS5 : wA.cell? ⟨BO, 0, none⟩ = some (v0) ∧ wA.cell? ⟨w.heap.size, 0, none⟩ = some (.slice (some ⟨b, off, none⟩) n0 c0) ∧ wA.cell? ⟨b, off + j, none⟩ = some (.slice av x.length cv) := mk.out wA ya ym ((m3.block b (by omega) (fun hm => by have := HFP.out _ hm; omega)).trans (BB.out.block b (by omega)))
        have r0 := hS5.1
        have fz := ya.frozen 0
        have YA := hidden ya
        have M1 := hidden m1
        have M2 := hidden m2
        have M3 := hidden m3
        clear ya ym m1 m2 m3 zB
        refine hK.out _ _ (fun _ => hS5) ?_
        clear hK K
        simp only [Act.put, List.setIfInBounds_toArray, List.set_cons_zero, List.set_cons_succ]
        refine Upto.take (i := 11) (v := ?_) rfl (by kernel_rfl) (by kernel_rfl) (by kernel_rfl) (by kernel_rfl) (fun _ _ _ h => h) (Or.inl ⟨by rfl, ?_⟩) hS5 ?_
        rotate_left 1
        · (intro w hSw; (try dsimp only at hSw); go_split_ands; go_simp; first | done | with_reducible rfl)
        simp only [Act.put, List.setIfInBounds_toArray, List.set_cons_zero, List.set_cons_succ]
        refine Upto.one (i := 12) (by kernel_rfl) rfl (fun K hK => ?_)
        go_simp
        refine hK.out _ _ (fun h => absurd rfl h) ?_
        clear hK K
        refine Upto.done (by kernel_rfl) ?_ _
        have hfA := round_fp (N := w6.heap.size) hs HBC.out HFP.out RX.out M2.out
        have frA := Fr.round FRR.out hs HBC.out _ M3.out HFP.out 0 (.slice (some ⟨g, 0, none⟩) (j + 1) cap)
        have mA := M1.out.setCell (g := BO) (j := 0) (fun hm => by have := hfA _ hm; omega) (.slice (some ⟨g, 0, none⟩) (j + 1) cap)
        have yA := YA.out.set 0 (.slice (some ⟨g, 0, none⟩) (j + 1) cap)
        have HFA := hidden hfA
        have FRA := hidden frA
        have MA := hidden mA
        have YA' := hidden yA
        clear hfA frA mA yA hS hS2 hS3 hS4 hS5 r0 YA M1 M2 M3 XOC MX RX HBC HFP HM FRR XO XMR XMC BA BB mk HG RD HX
        go_wp2
        go_roundw
        case rel => exact ⟨j + 1, _, fpA, by omega, by go_num, FRA.out, YA'.out, MA.out, HFA.out⟩
        case measure => simp [intOf]; omega
      · have e : n0 = j := by omega
        subst e
        rw [List.take_of_length_le (by omega)] at hm
        have hlt := hm.lt
        have GR := hidden (fr.box FR.out (by omega) (by omega))
        have GM := hidden xm
        have GB := hidden hb
        have G3 := hidden (fr.mine F3.out (fun b hb => by have := fs3 b hb; omega))
        have G0 := hidden (hm.own (lo := w6.heap.size) (hi := wr.heap.size) (fun b hb => ⟨hfp b hb, hlt b hb⟩))
        have GO := hidden xo
        clear fr xo xm hb hm hfp hlt FM FO F3 FB FR
        go_wp2
        generalize wr = w7 at hs GM GR GB G3 G0 GO q0 q1 q2 q3 ⊢
        go_loopw [5] (fun i wr => ∃ (j : Nat) (v1 : Value) (fp1 : List Nat), j ≤ n1 ∧ i = .int .i64 j ∧ Fr w7.heap.size BO w7 wr ∧ Box wr BO 87 #[v0, v1, .bool f, .slice a5 n3 c5] ∧ (tWrS 123).Mine wr [v1] (cs.take j) fp1 ∧ (∀ b ∈ fp1, w7.heap.size ≤ b)) (fun i _ => n1 - (intOf i).toNat)
        case atStart => exact ⟨0, _, [], Nat.zero_le _, rfl, Fr.refl _ _ _, GO.out, nil_mine _, by simp⟩
        case round =>
          obtain ⟨j, v1, fp1, hj, rfl, fr, xo, hm, hfp⟩ := hrel
          have hs2 := fr.size
          have xm := fr.box GM.out (by omega) (by omega)
          have hb := GB.out.trans (fr.below (M := w.heap.size) (by omega) (by omega))
          clear q0 q1 q2 q3
          obtain ⟨q0, q1, q2, q3⟩ := xm.cells4
          by_cases hjn : j < n1
          · rcases pairs_at rfl h1 with h0' | ⟨b, off, rfl, hbl, hcs⟩
            · omega
            have hdj : cs[j]? = some (cs[j]'(by omega)) := List.getElem?_eq_getElem (by omega)
            have htk : cs.take (j + 1) = cs.take j ++ [cs[j]'(by omega)] := List.take_succ_eq_append_getElem (by omega)
            generalize cs[j]'(by omega) = x at hdj htk
            have hil := inner_le' hdj
            obtain ⟨u0, u1, hv0, hv1, hrv⟩ := hcs j x hdj
            obtain ⟨rfl, hrv'⟩ := wr_rd hrv
            obtain ⟨av, cv, rfl⟩ := row_shape hrv'
            have pv0 := (hb.cell (p := ⟨b, off + j * 2, none⟩) hbl).trans hv0
            have pv1 := (hb.cell (p := ⟨b, off + j * 2 + 1, none⟩) hbl).trans hv1
            obtain ⟨x0, x1⟩ := x
            simp only at pv0 pv1 hrv' hil
            have HX := hidden (hrv'.below hb)
            have k1 : (0 : Int) ≤ (j : Int) := by omega
            have k2 : (j : Int) < (n1 : Int) := by omega
            have HTK := hidden htk
            have XO := hidden xo
            have XMR := hidden xm
            have FRR := hidden fr
            have HM := hidden hm
            have HFP := hidden hfp
            have HL : Hid ((cs.take j).length = j) := by unfold Hid; rw [List.length_take]; omega
            have L1 : Hid ((cs.take j).length + 1 ≤ maxLen) := by unfold Hid; rw [HL.out]; unfold maxLen; omega
            have L2 : Hid (((cs.take j).length + 1) * 32 ≤ 140737488355328) := by unfold Hid; rw [HL.out]; omega
            have mk : Hid (∀ w', Box w' BO 87 #[v0, v1, .bool f, .slice a5 n3 c5] → Box w' w.heap.size 87 #[.slice a0 n0 c0, .slice (some ⟨b, off, none⟩) n1 c1, .bool f, .slice a3 n3 c3] → w'.heap[b]? = wr.heap[b]? → w'.cell? ⟨BO, 1, none⟩ = some (v1) ∧ w'.cell? ⟨w.heap.size, 1, none⟩ = some (.slice (some ⟨b, off, none⟩) n1 c1) ∧ w'.cell? ⟨b, off + j * 2, none⟩ = some (.int .i64 x0) ∧ w'.cell? ⟨b, off + j * 2 + 1, none⟩ = some (.slice av x1.length cv)) := fun w' e1 e2 e3 => ⟨e1.cell 1, e2.cell 1, (World.cell?_of_block e3).trans pv0, (World.cell?_of_block e3).trans pv1⟩
            have bA : Below wr.heap.size wr (wr.alloc (.cells #[] 3)) := (Below.refl _ _).alloc (Nat.le_refl _) _
            have hS : wr.drew.cell? ⟨BO, 1, none⟩ = some (v1) ∧ wr.drew.cell? ⟨w.heap.size, 1, none⟩ = some (.slice (some ⟨b, off, none⟩) n1 c1) ∧ wr.drew.cell? ⟨b, off + j * 2, none⟩ = some (.int .i64 x0) ∧ wr.drew.cell? ⟨b, off + j * 2 + 1, none⟩ = some (.slice av x1.length cv) := mk.out wr.drew xo xm rfl
            have hS2 : (wr.alloc (.cells #[] 3)).drew.cell? ⟨BO, 1, none⟩ = some (v1) ∧ (wr.alloc (.cells #[] 3)).drew.cell? ⟨w.heap.size, 1, none⟩ = some (.slice (some ⟨b, off, none⟩) n1 c1) ∧ (wr.alloc (.cells #[] 3)).drew.cell? ⟨b, off + j * 2, none⟩ = some (.int .i64 x0) ∧ (wr.alloc (.cells #[] 3)).drew.cell? ⟨b, off + j * 2 + 1, none⟩ = some (.slice av x1.length cv) := mk.out (wr.alloc (.cells #[] 3)).drew (xo.alloc _) (xm.alloc _) (bA.block b (by omega))
            have HG : Hid ((wr.alloc (.cells #[] 3)).drew.heap[wr.heap.size]? = some (.cells #[] 3 (0, 0))) := Box.new wr 3 #[]
            have RD : Hid (tIntS.Rd (wr.alloc (.cells #[] 3)).drew [.slice av x1.length cv] x1) := (HX.out.below bA).drew
            have BA := hidden bA
            clear hcs hdj hv0 hv1 hrv hrv' htk xo xm hm hfp hb fr pv0 pv1 bA
            go_wp2_with fail
            refine Upto.start (S := fun w' => w'.cell? ⟨BO, 1, none⟩ = some (v1) ∧ w'.cell? ⟨w.heap.size, 1, none⟩ = some (.slice (some ⟨b, off, none⟩) n1 c1) ∧ w'.cell? ⟨b, off + j * 2, none⟩ = some (.int .i64 x0) ∧ w'.cell? ⟨b, off + j * 2 + 1, none⟩ = some (.slice av x1.length cv)) (k := 20) (by kernel_rfl) ?_
            refine Upto.take (i := 0) (v := ?_) rfl (by kernel_rfl) (by kernel_rfl) (by kernel_rfl) (by kernel_rfl) (fun _ _ _ h => h) (Or.inl ⟨by rfl, ?_⟩) hS ?_
            rotate_left 1
            · (intro w hSw; (try dsimp only at hSw); go_split_ands; go_simp; first | done | with_reducible rfl)
            simp only [Act.put, List.setIfInBounds_toArray, List.set_cons_zero, List.set_cons_succ]
            refine Upto.take (i := 1) (v := ?_) rfl (by kernel_rfl) (by kernel_rfl) (by kernel_rfl) (by kernel_rfl) (fun _ _ _ h => h) (Or.inl ⟨by rfl, ?_⟩) hS ?_
            rotate_left 1
            · (intro w hSw; (try dsimp only at hSw); go_split_ands; go_simp; first | done | with_reducible rfl)
            simp only [Act.put, List.setIfInBounds_toArray, List.set_cons_zero, List.set_cons_succ]
            refine Upto.take (i := 2) (v := ?_) rfl (by kernel_rfl) (by kernel_rfl) (by kernel_rfl) (by kernel_rfl) (fun _ _ _ h => h) (Or.inl ⟨by rfl, ?_⟩) hS ?_
            rotate_left 1
            · (intro w hSw; (try dsimp only at hSw); go_split_ands; go_simp; first | done | with_reducible rfl)
            simp only [Act.put, List.setIfInBounds_toArray, List.set_cons_zero, List.set_cons_succ]
            refine Upto.take (i := 3) (v := ?_) rfl (by kernel_rfl) (by kernel_rfl) (by kernel_rfl) (by kernel_rfl) (fun _ _ _ h => h) (Or.inl ⟨by rfl, ?_⟩) hS ?_
            rotate_left 1
            · (intro w hSw; (try dsimp only at hSw); go_split_ands; go_simp; first | done | with_reducible rfl)
            simp only [Act.put, List.setIfInBounds_toArray, List.set_cons_zero, List.set_cons_succ]
            refine Upto.take (i := 4) (v := ?_) rfl (by kernel_rfl) (by kernel_rfl) (by kernel_rfl) (by kernel_rfl) (fun _ _ _ h => h) (Or.inl ⟨by rfl, ?_⟩) hS ?_
            rotate_left 1
            · (intro w hSw; (try dsimp only at hSw); go_split_ands; go_simp; first | done | with_reducible rfl)
            simp only [Act.put, List.setIfInBounds_toArray, List.set_cons_zero, List.set_cons_succ]
            refine Upto.take (i := 5) (v := ?_) rfl (by kernel_rfl) (by kernel_rfl) (by kernel_rfl) (by kernel_rfl) (fun _ _ _ h => h) (Or.inl ⟨by rfl, ?_⟩) hS ?_
            rotate_left 1
            · (intro w hSw; (try dsimp only at hSw); go_split_ands; go_simp; first | done | with_reducible rfl)
            simp only [Act.put, List.setIfInBounds_toArray, List.set_cons_zero, List.set_cons_succ]
            refine Upto.take (i := 6) (v := ?_) rfl (by kernel_rfl) (by kernel_rfl) (by kernel_rfl) (by kernel_rfl) (fun _ _ _ h => h) (Or.inl ⟨by rfl, ?_⟩) hS ?_
            rotate_left 1
            · (intro w hSw; (try dsimp only at hSw); go_split_ands; go_simp; first | done | with_reducible rfl)
            simp only [Act.put, List.setIfInBounds_toArray, List.set_cons_zero, List.set_cons_succ]
            refine Upto.take (i := 7) (v := ?_) rfl (by kernel_rfl) (by kernel_rfl) (by kernel_rfl) (by kernel_rfl) (fun _ _ _ h => h) (Or.inl ⟨by rfl, ?_⟩) hS ?_
            rotate_left 1
            · (intro w hSw; (try dsimp only at hSw); go_split_ands; go_simp; first | done | with_reducible rfl)
            simp only [Act.put, List.setIfInBounds_toArray, List.set_cons_zero, List.set_cons_succ]
            refine Upto.take (i := 9) (v := ?_) rfl (by kernel_rfl) (by kernel_rfl) (by kernel_rfl) (by kernel_rfl) (fun _ _ _ h => h) (Or.inl ⟨by rfl, ?_⟩) hS ?_
            rotate_left 1
            · (intro w hSw; (try dsimp only at hSw); go_split_ands; go_simp; first | done | with_reducible rfl)
            simp only [Act.put, List.setIfInBounds_toArray, List.set_cons_zero, List.set_cons_succ]
            refine Upto.take (i := 10) (v := ?_) rfl (by kernel_rfl) (by kernel_rfl) (by kernel_rfl) (by kernel_rfl) (fun _ _ _ h => h) (Or.inl ⟨by rfl, ?_⟩) hS ?_
            rotate_left 1
            · (intro w hSw; (try dsimp only at hSw); go_split_ands; go_simp; first | done | with_reducible rfl)
            simp only [Act.put, List.setIfInBounds_toArray, List.set_cons_zero, List.set_cons_succ]
            refine Upto.take (i := 11) (v := ?_) rfl (by kernel_rfl) (by kernel_rfl) (by kernel_rfl) (by kernel_rfl) (fun _ _ _ h => h) (Or.inl ⟨by rfl, ?_⟩) hS ?_
            rotate_left 1
            · (intro w hSw; (try dsimp only at hSw); go_split_ands; go_simp; first | done | with_reducible rfl)
            simp only [Act.put, List.setIfInBounds_toArray, List.set_cons_zero, List.set_cons_succ]
            refine Upto.take (i := 12) (v := ?_) rfl (by kernel_rfl) (by kernel_rfl) (by kernel_rfl) (by kernel_rfl) (fun _ _ _ h => h) (Or.inl ⟨by rfl, ?_⟩) hS ?_
            rotate_left 1
            · (intro w hSw; (try dsimp only at hSw); go_split_ands; go_simp; first | done | with_reducible rfl)
            simp only [Act.put, List.setIfInBounds_toArray, List.set_cons_zero, List.set_cons_succ]
            refine Upto.take (i := 13) (v := ?_) rfl (by kernel_rfl) (by kernel_rfl) (by kernel_rfl) (by kernel_rfl) (fun _ _ _ h => h) (Or.inl ⟨by rfl, ?_⟩) hS ?_
            rotate_left 1
            · (intro w hSw; (try dsimp only at hSw); go_split_ands; go_simp; first | done | with_reducible rfl)
            simp only [Act.put, List.setIfInBounds_toArray, List.set_cons_zero, List.set_cons_succ]
            refine Upto.take (i := 14) (v := ?_) rfl (by kernel_rfl) (by kernel_rfl) (by kernel_rfl) (by kernel_rfl) (fun _ _ _ h => h) (Or.inl ⟨by rfl, ?_⟩) hS ?_
            rotate_left 1
            · (intro w hSw; (try dsimp only at hSw); go_split_ands; go_simp; first | done | with_reducible rfl)
            simp only [Act.put, List.setIfInBounds_toArray, List.set_cons_zero, List.set_cons_succ]
            refine Upto.one (i := 8) (by kernel_rfl) rfl (fun K hK => ?_)
            go_simp
            refine hK.out _ _ (fun _ => hS2) ?_
            clear hK K
            refine Upto.one (i := 15) (by kernel_rfl) rfl (fun K hK => ?_)
            refine step_copy (by rfl) _ _ 48 (by rfl) i3 Tryz.underlying48 hi3 hx0 hx1 hx2 wr.heap.size (by rfl) HG.out av x1.length cv x1 (by rfl) RD.out (by omega) ?_
            intro ac cc wc fpx mx rx tx
            have tx' : Turned [wr.heap.size] (wr.alloc (.cells #[] 3)) wc := Turned.undrew tx
            have zA : (wr.alloc (.cells #[] 3)).heap.size = wr.heap.size + 1 := by simp
            have zd : (wr.alloc (.cells #[] 3)).drew.heap.size = (wr.alloc (.cells #[] 3)).heap.size := rfl
            have hbc' : Below wr.heap.size wr wc := BA.out.trans (tx'.below (N := wr.heap.size) (by omega) (by simp))
            have xoc : Box wc BO 87 _ := XO.out.below hbc' (by omega)
            have xmc : Box wc w.heap.size 87 _ := XMR.out.below hbc' (by omega)
            have hS3 : wc.cell? ⟨BO, 1, none⟩ = some (v1) ∧ wc.cell? ⟨w.heap.size, 1, none⟩ = some (.slice (some ⟨b, off, none⟩) n1 c1) ∧ wc.cell? ⟨b, off + j * 2, none⟩ = some (.int .i64 x0) ∧ wc.cell? ⟨b, off + j * 2 + 1, none⟩ = some (.slice av x1.length cv) := mk.out wc xoc xmc (hbc'.block b (by omega))
            have bB : Below wc.heap.size wc (wc.alloc (.cells #[.int .i64 x0, .slice ac x1.length cc] 123)) := (Below.refl _ _).alloc (Nat.le_refl _) _
            have zc := hbc'.size
            have hS4 : (wc.alloc (.cells #[.int .i64 x0, .slice ac x1.length cc] 123)).cell? ⟨BO, 1, none⟩ = some (v1) ∧ (wc.alloc (.cells #[.int .i64 x0, .slice ac x1.length cc] 123)).cell? ⟨w.heap.size, 1, none⟩ = some (.slice (some ⟨b, off, none⟩) n1 c1) ∧ (wc.alloc (.cells #[.int .i64 x0, .slice ac x1.length cc] 123)).cell? ⟨b, off + j * 2, none⟩ = some (.int .i64 x0) ∧ (wc.alloc (.cells #[.int .i64 x0, .slice ac x1.length cc] 123)).cell? ⟨b, off + j * 2 + 1, none⟩ = some (.slice av x1.length cv) := mk.out _ (xoc.alloc _) (xmc.alloc _) ((bB.block b (by omega)).trans (hbc'.block b (by omega)))
            have RX : Hid (∀ b ∈ fpx, wr.heap.size ≤ b ∧ b < wc.heap.size) := fun b hb => by have := rx b hb; omega
            have XOC := hidden xoc
            have XMC := hidden xmc
            have MX := hidden mx
            have HBC := hidden hbc'
            have BB := hidden (Below.andThen hbc' bB)
            clear xoc xmc mx rx tx tx' hbc' bB zA zd
            refine hK.out _ _ (fun _ => hS3) ?_
            clear hK K
            simp only [Act.put, List.setIfInBounds_toArray, List.set_cons_zero, List.set_cons_succ]
            refine Upto.take (i := 16) (v := ?_) rfl (by kernel_rfl) (by kernel_rfl) (by kernel_rfl) (by kernel_rfl) (fun _ _ _ h => h) (Or.inl ⟨by rfl, ?_⟩) hS3 ?_
            rotate_left 1
            · (intro w hSw; (try dsimp only at hSw); go_split_ands; go_simp; first | done | with_reducible rfl)
            simp only [Act.put, List.setIfInBounds_toArray, List.set_cons_zero, List.set_cons_succ]
            refine Upto.one (i := 17) (by kernel_rfl) rfl (fun K hK => ?_)
            go_simp
            refine hK.out _ _ (fun _ => hS4) ?_
            clear hK K
            refine Upto.one (i := 18) (by kernel_rfl) rfl (fun K hK => ?_)
            refine step_appT tWr (by rfl) _ _ 85 (by rfl) 123 i1 (.agg #[.int .i64 0, .slice none 0 0]) 32 Tryz.underlying85 hi1 hy0 hy1 hy2 rfl Nat.zero_lt_two v1 (cs.take j) fp1 (by rfl) ?_ ⟨wc.heap.size, 0, none⟩ 1 [.int .i64 x0, .slice ac x1.length cc] (x0, x1) fpx (by rfl) ?_ ?_ ?_ ?_ L1.out L2.out ?_
            · exact (HM.out.below HBC.out).alloc _
            · exact (wr_mine x0 MX.out).alloc _
            · intro b hb hb'
              have h1 := HM.out.lt b hb
              have h2 := RX.out b hb'
              omega
            · exact news_new _ _ _
            · intro u hu
              simp at hu
              rcases hu with hu | hu <;> (rw [hu]; rfl)
            intro g cap wA fpA m1 m2 m3
            rw [HL.out] at m1 ⊢
            rw [← HTK.out] at m1
            have ya : Box wA BO 87 _ := (XOC.out.alloc _).turned m3 (fun hm => by have := HFP.out _ hm; omega)
            have ym : Box wA w.heap.size 87 _ := (XMC.out.alloc _).turned m3 (fun hm => by have := HFP.out _ hm; omega)
            have zB : (wc.alloc (.cells #[.int .i64 x0, .slice ac x1.length cc] 123)).heap.size = wc.heap.size + 1 := by simp
            have hS5 : wA.cell? ⟨BO, 1, none⟩ = some (v1) ∧ wA.cell? ⟨w.heap.size, 1, none⟩ = some (.slice (some ⟨b, off, none⟩) n1 c1) ∧ wA.cell? ⟨b, off + j * 2, none⟩ = some (.int .i64 x0) ∧ wA.cell? ⟨b, off + j * 2 + 1, none⟩ = some (.slice av x1.length cv) := mk.out wA ya ym ((m3.block b (by omega) (fun hm => by have := HFP.out _ hm; omega)).trans (BB.out.block b (by omega)))
            have r0 := hS5.1
            have fz := ya.frozen 1
            have YA := hidden ya
            have M1 := hidden m1
            have M2 := hidden m2
            have M3 := hidden m3
            clear ya ym m1 m2 m3 zB
            refine hK.out _ _ (fun _ => hS5) ?_
            clear hK K
            simp only [Act.put, List.setIfInBounds_toArray, List.set_cons_zero, List.set_cons_succ]
            refine Upto.take (i := 19) (v := ?_) rfl (by kernel_rfl) (by kernel_rfl) (by kernel_rfl) (by kernel_rfl) (fun _ _ _ h => h) (Or.inl ⟨by rfl, ?_⟩) hS5 ?_
            rotate_left 1
            · (intro w hSw; (try dsimp only at hSw); go_split_ands; go_simp; first | done | with_reducible rfl)
            simp only [Act.put, List.setIfInBounds_toArray, List.set_cons_zero, List.set_cons_succ]
            refine Upto.one (i := 20) (by kernel_rfl) rfl (fun K hK => ?_)
            go_simp
            refine hK.out _ _ (fun h => absurd rfl h) ?_
            clear hK K
            refine Upto.done (by kernel_rfl) ?_ _
            have hfA := round_fp (N := w7.heap.size) hs2 HBC.out HFP.out RX.out M2.out
            have frA := Fr.round FRR.out hs2 HBC.out _ M3.out HFP.out 1 (.slice (some ⟨g, 0, none⟩) (j + 1) cap)
            have mA := M1.out.setCell (g := BO) (j := 1) (fun hm => by have := hfA _ hm; omega) (.slice (some ⟨g, 0, none⟩) (j + 1) cap)
            have yA := YA.out.set 1 (.slice (some ⟨g, 0, none⟩) (j + 1) cap)
            have HFA := hidden hfA
            have FRA := hidden frA
            have MA := hidden mA
            have YA' := hidden yA
            clear hfA frA mA yA hS hS2 hS3 hS4 hS5 r0 YA M1 M2 M3 XOC MX RX HBC HFP HM FRR XO XMR XMC BA BB mk HG RD HX
            go_wp2
            go_roundw
            case rel => exact ⟨j + 1, _, fpA, by omega, by go_num, FRA.out, YA'.out, MA.out, HFA.out⟩
            case measure => simp [intOf]; omega
          · have e : n1 = j := by omega
            subst e
            rw [List.take_of_length_le (by omega)] at hm
            have hlt := hm.lt
            have xr := fr.box GR.out (by omega) (by omega)
            obtain ⟨p0, p1, p2, p3⟩ := xr.cells4
            have fz := xr.frozen
            obtain ⟨r0, r1, r2, r3⟩ := xo.cells4
            have K3 := fr.mine G3.out (fun b hb => by have := fs3 b hb; omega)
            have K0 := fr.own G0.out (by omega) (by omega)
            have K1 := hm.own (lo := w7.heap.size) (hi := wr.heap.size) (fun b hb => ⟨hfp b hb, hlt b hb⟩)
            have KB := GB.out.trans (fr.below (M := w.heap.size) (by omega) (by omega))
            obtain ⟨e0, g0, hv0⟩ := row_shape K0.rd
            obtain ⟨e1, g1, hv1⟩ := row_shape K1.rd
            rw [hl0] at hv0
            rw [hl1] at hv1
            subst hv0 hv1
            have hbt : But (w.heap.size + 1) (w.heap.size + 2) wr ((((wr.setCell ⟨w.heap.size + 1, 0, none⟩ (.slice e0 n0 g0)).setCell ⟨w.heap.size + 1, 1, none⟩ (.slice e1 n1 g1)).setCell ⟨w.heap.size + 1, 2, none⟩ (.bool f)).setCell ⟨w.heap.size + 1, 3, none⟩ (.slice a5 n3 c5)) :=
              (((But.setCell (by omega) (by omega) _).trans (But.setCell (by omega) (by omega) _)).trans (But.setCell (by omega) (by omega) _)).trans (But.setCell (by omega) (by omega) _)
            have H3 := hidden ((K3.but hbt (fun b hb => by have := fs3 b hb; omega)).own (lo := w.heap.size) (hi := w6.heap.size) (fun b hb => by have := fs3 b hb; omega))
            have H0 := hidden (K0.but hbt (by omega))
            have H1 := hidden (K1.but hbt (by omega))
            have HB := hidden (Below.andBut KB hbt (by omega))
            have hsz := hbt.size
            clear fr xo xm hb hm hfp hlt xr K3 K0 K1 KB hbt GM GR GB G3 G0 GO
            go_wp2
            refine bodyPost_ret (v := .agg #[.slice e0 n0 g0, .slice e1 n1 g1, .bool f, .slice a5 n3 c5]) (by simp [results, Tryz.results68, go_sem, p0, p1, p2, p3]) rfl ?_
            exact ⟨_, _, _, w6.heap.size, w7.heap.size, rfl, H3.out, H0.out, H1.out.widen (Nat.le_refl _) hsz, by omega, by omega, by omega, HB.out⟩

end Go.Proofs.YtjmjianlcoleaaaGreat

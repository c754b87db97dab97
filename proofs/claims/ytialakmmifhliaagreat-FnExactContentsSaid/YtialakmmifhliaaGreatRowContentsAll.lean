/-
 The exact law of Contents holds: for every array the law returns true. No condition.
-/
import Derived.Test.YtialakmmifhliaaGreatWalkGeo
import Derived.Test.YtialakmmifhliaaGreatBox
import Derived.Test.YtialakmmifhliaaGreatHeld
import Derived.Test.YtialakmmifhliaaGreatWalkArrOk2
import Derived.Test.YtialakmmifhliaaGreatWalkImplMemOk
import Derived.Test.YtialakmmifhliaaGreatLawSlotOf
import Derived.Test.YtialakmmifhliaaGreatRowContentsAll2
import Derived.Test.YtialakmmifhliaaGreatWalkArrOk3
import Derived.Test.YtialakmmifhliaaGreatWalkNewest
import Derived.Test.YtialakmmifhliaaGreatWalkCopyWords
import Derived.Test.YtialakmmifhliaaGreatMemB
import Derived.BigQuiet
import Derived.WalkSmall
import Derived.Handy
import Derived.Test.YtialakmmifhliaaGreatWalkRead
import Derived.Test.YtialakmmifhliaaGreatWalkL2Has
import Derived.Test.YtialakmmifhliaaGreatWalkWords
import Derived.Test.YtialakmmifhliaaGreatWalkWords2
import Derived.Test.YtialakmmifhliaaGreatWalkWords3
import Derived.Test.YtialakmmifhliaaGreatSpot8
import Derived.Test.YtialakmmifhliaaGreatWalkMems
import Derived.Test.YtialakmmifhliaaGreatWalkArr
import Derived.Test.YtialakmmifhliaaGreatWalkSz
import Derived.ProofKit
import Derived.OpenShut
import Derived.Lib.SmallJoins
import Derived.Deep.Slices
import Derived.Deep.SlicePairs
import Derived.Test.YtialakmmifhliaaGreatRows
import Derived.WalkKit
import Derived.ShutString
import Derived.ChangeOld
import Derived.Below

set_option maxRecDepth 100000
set_option maxHeartbeats 8000000
set_option linter.unusedSimpArgs false

namespace Go.Proofs.YtialakmmifhliaaGreat
open Go.RowKit

def lostB (n s lost built : Int) : Bool := if lost = -1 then decide (built = 0) else inB lost 0 (n - 1) && inB built 0 s
theorem lostB_iff {n s lost built : Int} : lostB n s lost built = true ↔ (lost = -1 /\ built = 0) ∨ (¬ lost = -1 /\ 0 <= lost /\ lost <= n - 1 /\ 0 <= built /\ built <= s) := by
 unfold lostB
 split
 . rename_i h
   simp [h]
 . rename_i h
   rw [Bool.and_eq_true, inB_iff, inB_iff]
   simp [h, and_assoc]
theorem lostOk_any (w : World) (n s lost built : Int) (hn : 3 <= n /\ n <= 5) : Calls Tryz.prog 83 #[.agg #[.int .i64 n, .int .i64 s], .int .i64 lost, .int .i64 built] w fun e w' => e = .returned (.bool (lostB n s lost built)) /\ Below w.heap.size w w' := by
 have hA := new_below w (.cells #[.int .i64 n, .int .i64 s] 31)
 obtain ⟨k0, k1⟩ := (Gbox.new w 31 n s).cells
 have gw : IntKind.i64.wrap (n - 1) = n - 1 := IntWalk.i64_in _ (by omega)
 by_cases h : lost = -1
 . by_cases hb : built = 0
   . go_enter Tryz.func83, Tryz.ntmps83
     go_wp2
     go_ret
     exact ⟨ret_bool (by unfold lostB; rw [if_pos h]; simp [hb]), hA⟩
   . go_enter Tryz.func83, Tryz.ntmps83
     go_wp2
     go_ret
     exact ⟨ret_bool (by unfold lostB; rw [if_pos h]; simp [hb]), hA⟩
 . have HD : Hid (lostB n s lost built = (inB lost 0 (n - 1) && inB built 0 s)) := by unfold Hid lostB; rw [if_neg h]
   go_enter Tryz.func83, Tryz.ntmps83
   go_wp2_with fail
   refine (within_any _ _ _ _).mono ?_
   rintro e w1 ⟨rfl, rfl⟩
   by_cases h1 : inB lost 0 (n - 1) = true
   . go_wp2_with fail
     refine (within_any _ _ _ _).mono ?_
     rintro e w1 ⟨rfl, rfl⟩
     go_wp2
     go_ret
     exact ⟨ret_bool (by rw [HD.out, h1]; rfl), hA⟩
   . have h1' : inB lost 0 (n - 1) = false := by simpa using h1
     go_wp2
     go_ret
     exact ⟨ret_bool (by rw [HD.out, h1']; rfl), hA⟩

def recB6 (x : ArrN) : Bool := inB x.seq 0 60000 && (inB x.tail 0 60000 && inB (x.seq - x.tail) 0 4)
theorem lost_same6 {x : ArrN} (hg : geoB x.n x.s = true) : lostB x.n x.s x.lost x.built = lostB6 x := by
 obtain ⟨g1, g2, g3, g4⟩ := geoB_iff.1 hg
 rw [Bool.eq_iff_iff, lostB_iff]
 unfold lostB6
 simp only [Bool.and_eq_true, inB_iff, Bool.or_eq_true, Bool.not_eq_true', decide_eq_false_iff_not, decide_eq_true_eq]
 omega
theorem seq_same6 (x : ArrN) : seqB6 x = (inB x.gen 0 60000 && (inB x.fuse (-1) 1000 && recB6 x)) := by
 rw [Bool.eq_iff_iff]
 unfold seqB6 recB6
 simp only [Bool.and_eq_true, inB_iff, decide_eq_true_eq]
 omega
theorem arr_same6 {x : ArrN} {ms : List MemD} {ds : List (Int × List Int)} (hg : geoB x.n x.s = true) : arrB x ms ds = (inB x.id 1 60000 && (lostB x.n x.s x.lost x.built && (inB x.gen 0 60000 && (inB x.fuse (-1) 1000 && (memsB x ms && (recB6 x && entsB x ds)))))) := by
 unfold arrB
 rw [hg, lost_same6 hg, seq_same6]
 cases inB x.id 1 60000 <;> cases lostB6 x <;> cases inB x.gen 0 60000 <;> cases inB x.fuse (-1) 1000 <;> cases memsB x ms <;> cases recB6 x <;> cases entsB x ds <;> rfl
theorem stripe_in6 {x : ArrN} {y : Int} (hg : geoB x.n x.s = true) : stripeB x.n x.s y = inB y 0 (x.s - 1) := by unfold stripeB; rw [hg]; rfl
theorem sec_all6 {zs : List Int} (h : zs.length <= 12) : secB zs = allW zs := by unfold secB; simp [h]
theorem entAt_6 {x : ArrN} {ds : List (Int × List Int)} {p : Nat} {y : Int} {zs : List Int} {q : Int × List Int} (hq : ds[p]? = some q) (h : y <= q.1) : entAt x ds (p + 1) (y, zs) = false := by
 have : ds.getD (p + 1 - 1) (0, []) = q := by rw [Nat.add_sub_cancel, List.getD_eq_getElem?_getD, hq]; rfl
 unfold entAt
 rw [this]
 have h2 : ¬ q.1 < y := by omega
 simp [h2]

theorem sectorsOf_any (w : World) (n s : Int) (hs : 1 <= s /\ s <= 8) : Calls Tryz.prog 100 #[.agg #[.int .i64 n, .int .i64 s]] w fun e w' => e = .returned (.int .i64 (6 + s)) /\ Below w.heap.size w w' := by
 have hA := new_below w (.cells #[.int .i64 n, .int .i64 s] 31)
 obtain ⟨k0, k1⟩ := (Gbox.new w 31 n s).cells
 have hd : dataN s = 6 + s := by unfold dataN; split <;> omega
 have HD := hidden hd
 clear hd
 go_enter Tryz.func100, Tryz.ntmps100
 go_wp2_with fail
 refine (implDataAt_any _ _).mono ?_
 rintro e w1 ⟨rfl, h1⟩
 subst h1
 rw [HD.out]
 go_wp2
 go_ret
 exact ⟨rfl, hA⟩

theorem memsOk_any (w : World) (E F : TypeId) (x : ArrN) (am ad : Option Addr) (nm cm nd cd : Nat) (ms : List MemD) (h0 : (tMemS E F).Rd w [.slice am nm cm] ms) (hw : wtMemS ms <= 2097152) (hg : geoB x.n x.s = true) :
 Calls Tryz.prog 84 #[.agg #[.int .i64 x.id, .int .i64 x.n, .int .i64 x.s, .slice am nm cm, .int .i64 x.lost, .int .i64 x.built, .int .i64 x.seq, .int .i64 x.tail, .int .i64 x.gen, .slice ad nd cd, .int .i64 x.fuse, .bool x.down, .bool x.broken]] w fun e w' => e = .returned (.bool (memsB x ms)) /\ Below w.heap.size w w' := by
 obtain ⟨hl, hc, hm⟩ := row_length h0
 obtain ⟨g1, g2, g3, g4⟩ := geoB_iff.1 hg
 have hA := new_below w (.cells #[.int .i64 x.id, .int .i64 x.n, .int .i64 x.s, .slice am nm cm, .int .i64 x.lost, .int .i64 x.built, .int .i64 x.seq, .int .i64 x.tail, .int .i64 x.gen, .slice ad nd cd, .int .i64 x.fuse, .bool x.down, .bool x.broken] 35)
 have X := Box.new w 35 #[.int .i64 x.id, .int .i64 x.n, .int .i64 x.s, .slice am nm cm, .int .i64 x.lost, .int .i64 x.built, .int .i64 x.seq, .int .i64 x.tail, .int .i64 x.gen, .slice ad nd cd, .int .i64 x.fuse, .bool x.down, .bool x.broken]
 have zA := X.lt
 have hnm : nm <= 2097152 := by unfold wtMemS at hw; omega
 have h1 := h0.below hA
 obtain ⟨k0, k1, k2, k3, k4, k5, k6, k7, k8, k9, k10, k11, k12⟩ := X.cells13
 by_cases hN : (nm : Int) = x.n
 . have hN1 : ((nm : Int) == x.n) = true := by simpa using hN
   have hN2 : ((nm : Int) != x.n) = false := by simpa using hN
   have HN := hidden hN
   clear hN
   go_enter Tryz.func84, Tryz.ntmps84
   go_wp2
   generalize w.alloc (.cells #[.int .i64 x.id, .int .i64 x.n, .int .i64 x.s, .slice am nm cm, .int .i64 x.lost, .int .i64 x.built, .int .i64 x.seq, .int .i64 x.tail, .int .i64 x.gen, .slice ad nd cd, .int .i64 x.fuse, .bool x.down, .bool x.broken] 35) = W at hA X zA h1 k0 k1 k2 k3 k4 k5 k6 k7 k8 k9 k10 k11 k12 ⊢
   clear k0 k1 k2 k3 k4 k5 k6 k7 k8 k9 k10 k11 k12
   go_loopw [15] (fun i wr => ∃ j : Nat, j <= nm /\ i = .int .i64 j /\ (∀ (q : Nat) (m : MemD), q < j -> ms[q]? = some m -> memAt x q m = true) /\ Below W.heap.size W wr) (fun i _ => nm - (intOf i).toNat)
   case atStart => exact ⟨0, Nat.zero_le _, rfl, fun q m hq => by omega, Below.refl _ _⟩
   case round =>
    obtain ⟨j, hj, rfl, hall, hb⟩ := hrel
    have Xr := X.below hb zA
    by_cases hjn : j < nm
    . rcases quads_at rfl h1 with h0' | ⟨b, off, rfl, hbl, hcs⟩
      . omega
      have hdj : ms[j]? = some (ms[j]'(by omega)) := List.getElem?_eq_getElem (by omega)
      generalize ms[j]'(by omega) = m at hdj
      obtain ⟨v0, v1, v2, v3, hv0, hv1, hv2, hv3, hrv⟩ := hcs j m hdj
      obtain ⟨a0, c0, a1, c1, a3, c3, ss, cs, f, bs, rfl, rfl, rfl, rfl, rfl, r0, r1, r3⟩ := mem_at hrv
      have u0 := (hb.cell (p := ⟨b, off + j * 4, none⟩) hbl).trans hv0
      have u1 := (hb.cell (p := ⟨b, off + j * 4 + 1, none⟩) hbl).trans hv1
      have u2 := (hb.cell (p := ⟨b, off + j * 4 + 2, none⟩) hbl).trans hv2
      have u3 := (hb.cell (p := ⟨b, off + j * 4 + 3, none⟩) hbl).trans hv3
      have i1 : (0 : Int) <= (j : Int) := by omega
      have i2 : (j : Int) < (nm : Int) := by omega
      have hwm := Nat.le_trans (inner_leM hdj) hw
      have HDJ := hidden hdj
      clear hcs hv0 hv1 hv2 hv3 hrv hdj
      have b1 := new_below wr (.cells #[.slice a0 ss.length c0, .slice a1 cs.length c1, .bool f, .slice a3 bs.length c3] 69)
      have Y1 := Box.new wr 69 #[.slice a0 ss.length c0, .slice a1 cs.length c1, .bool f, .slice a3 bs.length c3]
      have X1 := Xr.below b1 Xr.lt
      have R0 := (r0.below hb).below b1
      have R1 := (r1.below hb).below b1
      have R3 := (r3.below hb).below b1
      have B1 := hb.trans (b1.mono hb.size)
      clear r0 r1 r3 b1
      obtain ⟨y0, y1, y2, y3⟩ := Y1.cells4
      obtain ⟨e0, e1, e2, e3, e4, e5, e6, e7, e8, e9, e10, e11, e12⟩ := X1.cells13
      have zy := Y1.lt
      have zx := X1.lt
      clear e0 e3 e5 e6 e7 e8 e9 e10 e11
      cases hM : memB ss cs bs
      . skip
        go_wp2_with fail
        generalize wr.alloc (.cells #[.slice a0 ss.length c0, .slice a1 cs.length c1, .bool f, .slice a3 bs.length c3] 69) = w1 at X1 Y1 R0 R1 R3 B1 y0 y1 y2 y3 e1 e2 e4 e12 zy zx ⊢
        refine wp_region_held_drew (S := fun w' => w'.cell? ⟨wr.heap.size, 0, none⟩ = some (.slice a0 ss.length c0) /\ w'.cell? ⟨wr.heap.size, 1, none⟩ = some (.slice a1 cs.length c1) /\ w'.cell? ⟨wr.heap.size, 2, none⟩ = some (.bool f) /\ w'.cell? ⟨wr.heap.size, 3, none⟩ = some (.slice a3 bs.length c3) /\ w'.cell? ⟨w.heap.size, 1, none⟩ = some (.int .i64 x.n) /\ w'.cell? ⟨w.heap.size, 2, none⟩ = some (.int .i64 x.s)) (by kernel_rfl) ?_ (fun hHeld => ?_)
        . exact ⟨y0, y1, y2, y3, e1, e2⟩
        refine held_t 0 hHeld ?_
        refine held_one (i := 1) (by kernel_rfl) rfl (by kernel_rfl) (fun K hK => ?_)
        go_simp
        refine (implMemOk_any _ E _ _ _ _ _ _ _ _ _ ss cs f bs R0.drew R1.drew R3.drew hwm).mono ?_
        rintro e w2 ⟨rfl, b2⟩
        rw [hM]
        have b2' : Below w1.heap.size w1 w2 := (Below.refl w1.heap.size w1).drew.trans b2
        clear b2
        go_wp2_with fail
        clear hHeld
        refine hK.out _ _ ?_ (fun hHeld => ?_)
        . exact ⟨(b2'.cell (p := ⟨wr.heap.size, 0, none⟩) zy).trans y0, (b2'.cell (p := ⟨wr.heap.size, 1, none⟩) zy).trans y1, (b2'.cell (p := ⟨wr.heap.size, 2, none⟩) zy).trans y2, (b2'.cell (p := ⟨wr.heap.size, 3, none⟩) zy).trans y3, (b2'.cell (p := ⟨w.heap.size, 1, none⟩) zx).trans e1, (b2'.cell (p := ⟨w.heap.size, 2, none⟩) zx).trans e2⟩
        clear hK K
        refine held_t 2 hHeld ?_
        refine held_t 3 hHeld ?_
        refine held_p 4 hHeld ?_
        refine held_p 5 hHeld ?_
        refine held_p 6 hHeld ?_
        refine held_p 7 hHeld ?_
        refine held_p 8 hHeld ?_
        refine held_none (i := 9) (by kernel_rfl) rfl (by kernel_rfl) hHeld ?_
        simp only [Act.put, List.setIfInBounds_toArray, List.set_cons_zero, List.set_cons_succ]
        refine held_p 10 hHeld ?_
        refine held_t 11 hHeld ?_
        refine wpAnyH_done (by kernel_rfl) ?_ _
        clear hHeld
        have HB := hidden (hA.trans ((B1.trans (b2'.mono B1.size)).mono hA.size))
        go_wp2
        go_ret
        exact ⟨ret_bool (by rw [show memsB x ms = false from (by unfold memsB; rw [allIx_no HDJ.out (by unfold memAt; simp [hM])]; rfl)]), HB.out⟩
      . by_cases hS : (ss.length : Int) = 6 + x.s
        . have hS1 : ((ss.length : Int) == 6 + x.s) = true := by simpa using hS
          have hS2 : ((ss.length : Int) != 6 + x.s) = false := by simpa using hS
          have HS := hidden hS
          clear hS
          cases f
          . skip
            go_wp2_with fail
            generalize wr.alloc (.cells #[.slice a0 ss.length c0, .slice a1 cs.length c1, .bool false, .slice a3 bs.length c3] 69) = w1 at X1 Y1 R0 R1 R3 B1 y0 y1 y2 y3 e1 e2 e4 e12 zy zx ⊢
            refine wp_region_held_drew (S := fun w' => w'.cell? ⟨wr.heap.size, 0, none⟩ = some (.slice a0 ss.length c0) /\ w'.cell? ⟨wr.heap.size, 1, none⟩ = some (.slice a1 cs.length c1) /\ w'.cell? ⟨wr.heap.size, 2, none⟩ = some (.bool false) /\ w'.cell? ⟨wr.heap.size, 3, none⟩ = some (.slice a3 bs.length c3) /\ w'.cell? ⟨w.heap.size, 1, none⟩ = some (.int .i64 x.n) /\ w'.cell? ⟨w.heap.size, 2, none⟩ = some (.int .i64 x.s)) (by kernel_rfl) ?_ (fun hHeld => ?_)
            . exact ⟨y0, y1, y2, y3, e1, e2⟩
            refine held_t 0 hHeld ?_
            refine held_one (i := 1) (by kernel_rfl) rfl (by kernel_rfl) (fun K hK => ?_)
            go_simp
            refine (implMemOk_any _ E _ _ _ _ _ _ _ _ _ ss cs false bs R0.drew R1.drew R3.drew hwm).mono ?_
            rintro e w2 ⟨rfl, b2⟩
            rw [hM]
            have b2' : Below w1.heap.size w1 w2 := (Below.refl w1.heap.size w1).drew.trans b2
            clear b2
            go_wp2_with fail
            clear hHeld
            refine hK.out _ _ ?_ (fun hHeld => ?_)
            . exact ⟨(b2'.cell (p := ⟨wr.heap.size, 0, none⟩) zy).trans y0, (b2'.cell (p := ⟨wr.heap.size, 1, none⟩) zy).trans y1, (b2'.cell (p := ⟨wr.heap.size, 2, none⟩) zy).trans y2, (b2'.cell (p := ⟨wr.heap.size, 3, none⟩) zy).trans y3, (b2'.cell (p := ⟨w.heap.size, 1, none⟩) zx).trans e1, (b2'.cell (p := ⟨w.heap.size, 2, none⟩) zx).trans e2⟩
            clear hK K
            refine held_t 2 hHeld ?_
            refine held_t 3 hHeld ?_
            refine held_t 4 hHeld ?_
            refine held_t 5 hHeld ?_
            refine held_t 6 hHeld ?_
            refine held_t 7 hHeld ?_
            refine held_t 8 hHeld ?_
            refine held_one (i := 9) (by kernel_rfl) rfl (by kernel_rfl) (fun K hK => ?_)
            go_simp
            refine (sectorsOf_any _ x.n x.s ⟨g3, g4⟩).mono ?_
            rintro e w3 ⟨rfl, b3⟩
            have b3' : Below w1.heap.size w1 w3 := Below.andThen b2' b3
            clear b3
            go_wp2_with fail
            clear hHeld
            refine hK.out _ _ ?_ (fun hHeld => ?_)
            . exact ⟨(b3'.cell (p := ⟨wr.heap.size, 0, none⟩) zy).trans y0, (b3'.cell (p := ⟨wr.heap.size, 1, none⟩) zy).trans y1, (b3'.cell (p := ⟨wr.heap.size, 2, none⟩) zy).trans y2, (b3'.cell (p := ⟨wr.heap.size, 3, none⟩) zy).trans y3, (b3'.cell (p := ⟨w.heap.size, 1, none⟩) zx).trans e1, (b3'.cell (p := ⟨w.heap.size, 2, none⟩) zx).trans e2⟩
            clear hK K
            refine held_t 10 hHeld ?_
            refine held_t 11 hHeld ?_
            refine wpAnyH_done (by kernel_rfl) ?_ _
            clear hHeld
            have n0 := (b3'.cell (p := ⟨w.heap.size, 4, none⟩) zx).trans e4
            have n1 := (b3'.cell (p := ⟨w.heap.size, 12, none⟩) zx).trans e12
            have n2 := (b3'.cell (p := ⟨wr.heap.size, 2, none⟩) zy).trans y2
            have HB := hidden (B1.trans (b3'.mono B1.size))
            have hat : memAt x j (ss, cs, false, bs) = true := (by unfold memAt; simp [hM, HS.out])
            go_wp2
            go_roundw
            case rel => exact ⟨j + 1, by omega, by go_num, fun q m hq hm' => by
             rcases Nat.lt_or_ge q j with h | h
             . exact hall q m h hm'
             . obtain rfl : q = j := by omega
               rw [HDJ.out] at hm'
               cases hm'
               exact hat, HB.out⟩
            case measure => simp [intOf]; omega
          . by_cases hL : (j : Int) = x.lost
            . have hL1 : ((j : Int) == x.lost) = true := by simpa using hL
              have hL2 : ((j : Int) != x.lost) = false := by simpa using hL
              have HL := hidden hL
              clear hL
              go_wp2_with fail
              generalize wr.alloc (.cells #[.slice a0 ss.length c0, .slice a1 cs.length c1, .bool true, .slice a3 bs.length c3] 69) = w1 at X1 Y1 R0 R1 R3 B1 y0 y1 y2 y3 e1 e2 e4 e12 zy zx ⊢
              refine wp_region_held_drew (S := fun w' => w'.cell? ⟨wr.heap.size, 0, none⟩ = some (.slice a0 ss.length c0) /\ w'.cell? ⟨wr.heap.size, 1, none⟩ = some (.slice a1 cs.length c1) /\ w'.cell? ⟨wr.heap.size, 2, none⟩ = some (.bool true) /\ w'.cell? ⟨wr.heap.size, 3, none⟩ = some (.slice a3 bs.length c3) /\ w'.cell? ⟨w.heap.size, 1, none⟩ = some (.int .i64 x.n) /\ w'.cell? ⟨w.heap.size, 2, none⟩ = some (.int .i64 x.s)) (by kernel_rfl) ?_ (fun hHeld => ?_)
              . exact ⟨y0, y1, y2, y3, e1, e2⟩
              refine held_t 0 hHeld ?_
              refine held_one (i := 1) (by kernel_rfl) rfl (by kernel_rfl) (fun K hK => ?_)
              go_simp
              refine (implMemOk_any _ E _ _ _ _ _ _ _ _ _ ss cs true bs R0.drew R1.drew R3.drew hwm).mono ?_
              rintro e w2 ⟨rfl, b2⟩
              rw [hM]
              have b2' : Below w1.heap.size w1 w2 := (Below.refl w1.heap.size w1).drew.trans b2
              clear b2
              go_wp2_with fail
              clear hHeld
              refine hK.out _ _ ?_ (fun hHeld => ?_)
              . exact ⟨(b2'.cell (p := ⟨wr.heap.size, 0, none⟩) zy).trans y0, (b2'.cell (p := ⟨wr.heap.size, 1, none⟩) zy).trans y1, (b2'.cell (p := ⟨wr.heap.size, 2, none⟩) zy).trans y2, (b2'.cell (p := ⟨wr.heap.size, 3, none⟩) zy).trans y3, (b2'.cell (p := ⟨w.heap.size, 1, none⟩) zx).trans e1, (b2'.cell (p := ⟨w.heap.size, 2, none⟩) zx).trans e2⟩
              clear hK K
              refine held_t 2 hHeld ?_
              refine held_t 3 hHeld ?_
              refine held_t 4 hHeld ?_
              refine held_t 5 hHeld ?_
              refine held_t 6 hHeld ?_
              refine held_t 7 hHeld ?_
              refine held_t 8 hHeld ?_
              refine held_one (i := 9) (by kernel_rfl) rfl (by kernel_rfl) (fun K hK => ?_)
              go_simp
              refine (sectorsOf_any _ x.n x.s ⟨g3, g4⟩).mono ?_
              rintro e w3 ⟨rfl, b3⟩
              have b3' : Below w1.heap.size w1 w3 := Below.andThen b2' b3
              clear b3
              go_wp2_with fail
              clear hHeld
              refine hK.out _ _ ?_ (fun hHeld => ?_)
              . exact ⟨(b3'.cell (p := ⟨wr.heap.size, 0, none⟩) zy).trans y0, (b3'.cell (p := ⟨wr.heap.size, 1, none⟩) zy).trans y1, (b3'.cell (p := ⟨wr.heap.size, 2, none⟩) zy).trans y2, (b3'.cell (p := ⟨wr.heap.size, 3, none⟩) zy).trans y3, (b3'.cell (p := ⟨w.heap.size, 1, none⟩) zx).trans e1, (b3'.cell (p := ⟨w.heap.size, 2, none⟩) zx).trans e2⟩
              clear hK K
              refine held_t 10 hHeld ?_
              refine held_t 11 hHeld ?_
              refine wpAnyH_done (by kernel_rfl) ?_ _
              clear hHeld
              have n0 := (b3'.cell (p := ⟨w.heap.size, 4, none⟩) zx).trans e4
              have n1 := (b3'.cell (p := ⟨w.heap.size, 12, none⟩) zx).trans e12
              have n2 := (b3'.cell (p := ⟨wr.heap.size, 2, none⟩) zy).trans y2
              have HB := hidden (B1.trans (b3'.mono B1.size))
              have hat : memAt x j (ss, cs, true, bs) = true := (by unfold memAt; simp [hM, HS.out, HL.out])
              go_wp2
              go_roundw
              case rel => exact ⟨j + 1, by omega, by go_num, fun q m hq hm' => by
               rcases Nat.lt_or_ge q j with h | h
               . exact hall q m h hm'
               . obtain rfl : q = j := by omega
                 rw [HDJ.out] at hm'
                 cases hm'
                 exact hat, HB.out⟩
              case measure => simp [intOf]; omega
            . have hL1 : ((j : Int) == x.lost) = false := by simpa using hL
              have hL2 : ((j : Int) != x.lost) = true := by simpa using hL
              have HL := hidden hL
              clear hL
              cases hBr : x.broken
              . rw [hBr] at e12
                go_wp2_with fail
                generalize wr.alloc (.cells #[.slice a0 ss.length c0, .slice a1 cs.length c1, .bool true, .slice a3 bs.length c3] 69) = w1 at X1 Y1 R0 R1 R3 B1 y0 y1 y2 y3 e1 e2 e4 e12 zy zx ⊢
                refine wp_region_held_drew (S := fun w' => w'.cell? ⟨wr.heap.size, 0, none⟩ = some (.slice a0 ss.length c0) /\ w'.cell? ⟨wr.heap.size, 1, none⟩ = some (.slice a1 cs.length c1) /\ w'.cell? ⟨wr.heap.size, 2, none⟩ = some (.bool true) /\ w'.cell? ⟨wr.heap.size, 3, none⟩ = some (.slice a3 bs.length c3) /\ w'.cell? ⟨w.heap.size, 1, none⟩ = some (.int .i64 x.n) /\ w'.cell? ⟨w.heap.size, 2, none⟩ = some (.int .i64 x.s)) (by kernel_rfl) ?_ (fun hHeld => ?_)
                . exact ⟨y0, y1, y2, y3, e1, e2⟩
                refine held_t 0 hHeld ?_
                refine held_one (i := 1) (by kernel_rfl) rfl (by kernel_rfl) (fun K hK => ?_)
                go_simp
                refine (implMemOk_any _ E _ _ _ _ _ _ _ _ _ ss cs true bs R0.drew R1.drew R3.drew hwm).mono ?_
                rintro e w2 ⟨rfl, b2⟩
                rw [hM]
                have b2' : Below w1.heap.size w1 w2 := (Below.refl w1.heap.size w1).drew.trans b2
                clear b2
                go_wp2_with fail
                clear hHeld
                refine hK.out _ _ ?_ (fun hHeld => ?_)
                . exact ⟨(b2'.cell (p := ⟨wr.heap.size, 0, none⟩) zy).trans y0, (b2'.cell (p := ⟨wr.heap.size, 1, none⟩) zy).trans y1, (b2'.cell (p := ⟨wr.heap.size, 2, none⟩) zy).trans y2, (b2'.cell (p := ⟨wr.heap.size, 3, none⟩) zy).trans y3, (b2'.cell (p := ⟨w.heap.size, 1, none⟩) zx).trans e1, (b2'.cell (p := ⟨w.heap.size, 2, none⟩) zx).trans e2⟩
                clear hK K
                refine held_t 2 hHeld ?_
                refine held_t 3 hHeld ?_
                refine held_t 4 hHeld ?_
                refine held_t 5 hHeld ?_
                refine held_t 6 hHeld ?_
                refine held_t 7 hHeld ?_
                refine held_t 8 hHeld ?_
                refine held_one (i := 9) (by kernel_rfl) rfl (by kernel_rfl) (fun K hK => ?_)
                go_simp
                refine (sectorsOf_any _ x.n x.s ⟨g3, g4⟩).mono ?_
                rintro e w3 ⟨rfl, b3⟩
                have b3' : Below w1.heap.size w1 w3 := Below.andThen b2' b3
                clear b3
                go_wp2_with fail
                clear hHeld
                refine hK.out _ _ ?_ (fun hHeld => ?_)
                . exact ⟨(b3'.cell (p := ⟨wr.heap.size, 0, none⟩) zy).trans y0, (b3'.cell (p := ⟨wr.heap.size, 1, none⟩) zy).trans y1, (b3'.cell (p := ⟨wr.heap.size, 2, none⟩) zy).trans y2, (b3'.cell (p := ⟨wr.heap.size, 3, none⟩) zy).trans y3, (b3'.cell (p := ⟨w.heap.size, 1, none⟩) zx).trans e1, (b3'.cell (p := ⟨w.heap.size, 2, none⟩) zx).trans e2⟩
                clear hK K
                refine held_t 10 hHeld ?_
                refine held_t 11 hHeld ?_
                refine wpAnyH_done (by kernel_rfl) ?_ _
                clear hHeld
                have n0 := (b3'.cell (p := ⟨w.heap.size, 4, none⟩) zx).trans e4
                have n1 := (b3'.cell (p := ⟨w.heap.size, 12, none⟩) zx).trans e12
                have n2 := (b3'.cell (p := ⟨wr.heap.size, 2, none⟩) zy).trans y2
                have HB := hidden (hA.trans ((B1.trans (b3'.mono B1.size)).mono hA.size))
                go_wp2
                go_ret
                exact ⟨ret_bool (by rw [show memsB x ms = false from (by unfold memsB; rw [allIx_no HDJ.out (by unfold memAt; simp [HL.out, hBr])]; rfl)]), HB.out⟩
              . rw [hBr] at e12
                go_wp2_with fail
                generalize wr.alloc (.cells #[.slice a0 ss.length c0, .slice a1 cs.length c1, .bool true, .slice a3 bs.length c3] 69) = w1 at X1 Y1 R0 R1 R3 B1 y0 y1 y2 y3 e1 e2 e4 e12 zy zx ⊢
                refine wp_region_held_drew (S := fun w' => w'.cell? ⟨wr.heap.size, 0, none⟩ = some (.slice a0 ss.length c0) /\ w'.cell? ⟨wr.heap.size, 1, none⟩ = some (.slice a1 cs.length c1) /\ w'.cell? ⟨wr.heap.size, 2, none⟩ = some (.bool true) /\ w'.cell? ⟨wr.heap.size, 3, none⟩ = some (.slice a3 bs.length c3) /\ w'.cell? ⟨w.heap.size, 1, none⟩ = some (.int .i64 x.n) /\ w'.cell? ⟨w.heap.size, 2, none⟩ = some (.int .i64 x.s)) (by kernel_rfl) ?_ (fun hHeld => ?_)
                . exact ⟨y0, y1, y2, y3, e1, e2⟩
                refine held_t 0 hHeld ?_
                refine held_one (i := 1) (by kernel_rfl) rfl (by kernel_rfl) (fun K hK => ?_)
                go_simp
                refine (implMemOk_any _ E _ _ _ _ _ _ _ _ _ ss cs true bs R0.drew R1.drew R3.drew hwm).mono ?_
                rintro e w2 ⟨rfl, b2⟩
                rw [hM]
                have b2' : Below w1.heap.size w1 w2 := (Below.refl w1.heap.size w1).drew.trans b2
                clear b2
                go_wp2_with fail
                clear hHeld
                refine hK.out _ _ ?_ (fun hHeld => ?_)
                . exact ⟨(b2'.cell (p := ⟨wr.heap.size, 0, none⟩) zy).trans y0, (b2'.cell (p := ⟨wr.heap.size, 1, none⟩) zy).trans y1, (b2'.cell (p := ⟨wr.heap.size, 2, none⟩) zy).trans y2, (b2'.cell (p := ⟨wr.heap.size, 3, none⟩) zy).trans y3, (b2'.cell (p := ⟨w.heap.size, 1, none⟩) zx).trans e1, (b2'.cell (p := ⟨w.heap.size, 2, none⟩) zx).trans e2⟩
                clear hK K
                refine held_t 2 hHeld ?_
                refine held_t 3 hHeld ?_
                refine held_t 4 hHeld ?_
                refine held_t 5 hHeld ?_
                refine held_t 6 hHeld ?_
                refine held_t 7 hHeld ?_
                refine held_t 8 hHeld ?_
                refine held_one (i := 9) (by kernel_rfl) rfl (by kernel_rfl) (fun K hK => ?_)
                go_simp
                refine (sectorsOf_any _ x.n x.s ⟨g3, g4⟩).mono ?_
                rintro e w3 ⟨rfl, b3⟩
                have b3' : Below w1.heap.size w1 w3 := Below.andThen b2' b3
                clear b3
                go_wp2_with fail
                clear hHeld
                refine hK.out _ _ ?_ (fun hHeld => ?_)
                . exact ⟨(b3'.cell (p := ⟨wr.heap.size, 0, none⟩) zy).trans y0, (b3'.cell (p := ⟨wr.heap.size, 1, none⟩) zy).trans y1, (b3'.cell (p := ⟨wr.heap.size, 2, none⟩) zy).trans y2, (b3'.cell (p := ⟨wr.heap.size, 3, none⟩) zy).trans y3, (b3'.cell (p := ⟨w.heap.size, 1, none⟩) zx).trans e1, (b3'.cell (p := ⟨w.heap.size, 2, none⟩) zx).trans e2⟩
                clear hK K
                refine held_t 10 hHeld ?_
                refine held_t 11 hHeld ?_
                refine wpAnyH_done (by kernel_rfl) ?_ _
                clear hHeld
                have n0 := (b3'.cell (p := ⟨w.heap.size, 4, none⟩) zx).trans e4
                have n1 := (b3'.cell (p := ⟨w.heap.size, 12, none⟩) zx).trans e12
                have n2 := (b3'.cell (p := ⟨wr.heap.size, 2, none⟩) zy).trans y2
                have HB := hidden (B1.trans (b3'.mono B1.size))
                have hat : memAt x j (ss, cs, true, bs) = true := (by unfold memAt; simp [hM, HS.out, hBr])
                go_wp2
                go_roundw
                case rel => exact ⟨j + 1, by omega, by go_num, fun q m hq hm' => by
                 rcases Nat.lt_or_ge q j with h | h
                 . exact hall q m h hm'
                 . obtain rfl : q = j := by omega
                   rw [HDJ.out] at hm'
                   cases hm'
                   exact hat, HB.out⟩
                case measure => simp [intOf]; omega
        . have hS1 : ((ss.length : Int) == 6 + x.s) = false := by simpa using hS
          have hS2 : ((ss.length : Int) != 6 + x.s) = true := by simpa using hS
          have HS := hidden hS
          clear hS
          go_wp2_with fail
          generalize wr.alloc (.cells #[.slice a0 ss.length c0, .slice a1 cs.length c1, .bool f, .slice a3 bs.length c3] 69) = w1 at X1 Y1 R0 R1 R3 B1 y0 y1 y2 y3 e1 e2 e4 e12 zy zx ⊢
          refine wp_region_held_drew (S := fun w' => w'.cell? ⟨wr.heap.size, 0, none⟩ = some (.slice a0 ss.length c0) /\ w'.cell? ⟨wr.heap.size, 1, none⟩ = some (.slice a1 cs.length c1) /\ w'.cell? ⟨wr.heap.size, 2, none⟩ = some (.bool f) /\ w'.cell? ⟨wr.heap.size, 3, none⟩ = some (.slice a3 bs.length c3) /\ w'.cell? ⟨w.heap.size, 1, none⟩ = some (.int .i64 x.n) /\ w'.cell? ⟨w.heap.size, 2, none⟩ = some (.int .i64 x.s)) (by kernel_rfl) ?_ (fun hHeld => ?_)
          . exact ⟨y0, y1, y2, y3, e1, e2⟩
          refine held_t 0 hHeld ?_
          refine held_one (i := 1) (by kernel_rfl) rfl (by kernel_rfl) (fun K hK => ?_)
          go_simp
          refine (implMemOk_any _ E _ _ _ _ _ _ _ _ _ ss cs f bs R0.drew R1.drew R3.drew hwm).mono ?_
          rintro e w2 ⟨rfl, b2⟩
          rw [hM]
          have b2' : Below w1.heap.size w1 w2 := (Below.refl w1.heap.size w1).drew.trans b2
          clear b2
          go_wp2_with fail
          clear hHeld
          refine hK.out _ _ ?_ (fun hHeld => ?_)
          . exact ⟨(b2'.cell (p := ⟨wr.heap.size, 0, none⟩) zy).trans y0, (b2'.cell (p := ⟨wr.heap.size, 1, none⟩) zy).trans y1, (b2'.cell (p := ⟨wr.heap.size, 2, none⟩) zy).trans y2, (b2'.cell (p := ⟨wr.heap.size, 3, none⟩) zy).trans y3, (b2'.cell (p := ⟨w.heap.size, 1, none⟩) zx).trans e1, (b2'.cell (p := ⟨w.heap.size, 2, none⟩) zx).trans e2⟩
          clear hK K
          refine held_t 2 hHeld ?_
          refine held_t 3 hHeld ?_
          refine held_t 4 hHeld ?_
          refine held_t 5 hHeld ?_
          refine held_t 6 hHeld ?_
          refine held_t 7 hHeld ?_
          refine held_t 8 hHeld ?_
          refine held_one (i := 9) (by kernel_rfl) rfl (by kernel_rfl) (fun K hK => ?_)
          go_simp
          refine (sectorsOf_any _ x.n x.s ⟨g3, g4⟩).mono ?_
          rintro e w3 ⟨rfl, b3⟩
          have b3' : Below w1.heap.size w1 w3 := Below.andThen b2' b3
          clear b3
          go_wp2_with fail
          clear hHeld
          refine hK.out _ _ ?_ (fun hHeld => ?_)
          . exact ⟨(b3'.cell (p := ⟨wr.heap.size, 0, none⟩) zy).trans y0, (b3'.cell (p := ⟨wr.heap.size, 1, none⟩) zy).trans y1, (b3'.cell (p := ⟨wr.heap.size, 2, none⟩) zy).trans y2, (b3'.cell (p := ⟨wr.heap.size, 3, none⟩) zy).trans y3, (b3'.cell (p := ⟨w.heap.size, 1, none⟩) zx).trans e1, (b3'.cell (p := ⟨w.heap.size, 2, none⟩) zx).trans e2⟩
          clear hK K
          refine held_t 10 hHeld ?_
          refine held_t 11 hHeld ?_
          refine wpAnyH_done (by kernel_rfl) ?_ _
          clear hHeld
          have n0 := (b3'.cell (p := ⟨w.heap.size, 4, none⟩) zx).trans e4
          have n1 := (b3'.cell (p := ⟨w.heap.size, 12, none⟩) zx).trans e12
          have n2 := (b3'.cell (p := ⟨wr.heap.size, 2, none⟩) zy).trans y2
          have HB := hidden (hA.trans ((B1.trans (b3'.mono B1.size)).mono hA.size))
          go_wp2
          go_ret
          exact ⟨ret_bool (by rw [show memsB x ms = false from (by unfold memsB; rw [allIx_no HDJ.out (by unfold memAt; simp [HS.out])]; rfl)]), HB.out⟩
    . have e : j = nm := by omega
      subst e
      have hAll : allIx (memAt x) ms = true := allIx_iff.2 (fun q m hq => hall q m (by have := (List.getElem?_eq_some_iff.1 hq).1; omega) hq)
      have HB := hidden (hA.trans (hb.mono hA.size))
      have hR : memsB x ms = true := by unfold memsB; rw [hAll, hl]; simpa using HN.out
      go_wp2
      go_ret
      exact ⟨ret_bool hR.symm, HB.out⟩
 . have hN1 : ((nm : Int) == x.n) = false := by simpa using hN
   have hN2 : ((nm : Int) != x.n) = true := by simpa using hN
   have hR : memsB x ms = false := by unfold memsB; rw [hl]; simp [hN]
   have HR := hidden hR
   clear hN hR
   go_enter Tryz.func84, Tryz.ntmps84
   go_wp2
   go_ret
   exact ⟨ret_bool HR.out.symm, hA⟩

theorem dirtyOk_any (w : World) (G : TypeId) (x : ArrN) (am ad : Option Addr) (nm cm nd cd : Nat) (ds : List (Int × List Int)) (h0 : (tWrS G).Rd w [.slice ad nd cd] ds) (hw : wtWrS ds <= 2097152) (hg : geoB x.n x.s = true) :
 Calls Tryz.prog 86 #[.agg #[.int .i64 x.id, .int .i64 x.n, .int .i64 x.s, .slice am nm cm, .int .i64 x.lost, .int .i64 x.built, .int .i64 x.seq, .int .i64 x.tail, .int .i64 x.gen, .slice ad nd cd, .int .i64 x.fuse, .bool x.down, .bool x.broken]] w fun e w' => e = .returned (.bool (entsB x ds)) /\ Below w.heap.size w w' := by
 obtain ⟨hl, hc, hm⟩ := row_length h0
 obtain ⟨g1, g2, g3, g4⟩ := geoB_iff.1 hg
 have hA := new_below w (.cells #[.int .i64 x.id, .int .i64 x.n, .int .i64 x.s, .slice am nm cm, .int .i64 x.lost, .int .i64 x.built, .int .i64 x.seq, .int .i64 x.tail, .int .i64 x.gen, .slice ad nd cd, .int .i64 x.fuse, .bool x.down, .bool x.broken] 35)
 have X := Box.new w 35 #[.int .i64 x.id, .int .i64 x.n, .int .i64 x.s, .slice am nm cm, .int .i64 x.lost, .int .i64 x.built, .int .i64 x.seq, .int .i64 x.tail, .int .i64 x.gen, .slice ad nd cd, .int .i64 x.fuse, .bool x.down, .bool x.broken]
 have zA := X.lt
 have hnd : nd <= 2097152 := by unfold wtWrS at hw; omega
 have h1 := h0.below hA
 obtain ⟨k0, k1, k2, k3, k4, k5, k6, k7, k8, k9, k10, k11, k12⟩ := X.cells13
 go_enter Tryz.func86, Tryz.ntmps86
 go_wp2
 generalize w.alloc (.cells #[.int .i64 x.id, .int .i64 x.n, .int .i64 x.s, .slice am nm cm, .int .i64 x.lost, .int .i64 x.built, .int .i64 x.seq, .int .i64 x.tail, .int .i64 x.gen, .slice ad nd cd, .int .i64 x.fuse, .bool x.down, .bool x.broken] 35) = W at hA X zA h1 k0 k1 k2 k3 k4 k5 k6 k7 k8 k9 k10 k11 k12 ⊢
 clear k0 k1 k2 k3 k4 k5 k6 k7 k8 k9 k10 k11 k12
 go_loopw [8] (fun i wr => ∃ j : Nat, j <= nd /\ i = .int .i64 j /\ (∀ (q : Nat) (d : Int × List Int), q < j -> ds[q]? = some d -> entAt x ds q d = true) /\ Below W.heap.size W wr) (fun i _ => nd - (intOf i).toNat)
 case atStart => exact ⟨0, Nat.zero_le _, rfl, fun q d hq => by omega, Below.refl _ _⟩
 case round =>
  obtain ⟨j, hj, rfl, hall, hb⟩ := hrel
  have Xr := X.below hb zA
  by_cases hjn : j < nd
  . rcases pairs_at rfl h1 with h0' | ⟨b, off, rfl, hbl, hcs⟩
    . omega
    have hdj : ds[j]? = some (ds[j]'(by omega)) := List.getElem?_eq_getElem (by omega)
    generalize ds[j]'(by omega) = d at hdj
    obtain ⟨v0, v1, hv0, hv1, hrv⟩ := hcs j d hdj
    obtain ⟨rfl, hrw⟩ := wr_rd hrv
    obtain ⟨av, cv, rfl⟩ := row_shape hrw
    obtain ⟨y, zs⟩ := d
    simp only at hv0 hv1 hrw hrv
    have u0 := (hb.cell (p := ⟨b, off + j * 2, none⟩) hbl).trans hv0
    have u1 := (hb.cell (p := ⟨b, off + j * 2 + 1, none⟩) hbl).trans hv1
    have i1 : (0 : Int) <= (j : Int) := by omega
    have i2 : (j : Int) < (nd : Int) := by omega
    have hwz : zs.length <= 2097152 := Nat.le_trans (inner_le' hdj) hw
    have HDJ := hidden hdj
    have b1 := new_below wr (.cells #[.int .i64 y, .slice av zs.length cv] 71)
    have Y1 := Box.new wr 71 #[.int .i64 y, .slice av zs.length cv]
    have X1 := Xr.below b1 Xr.lt
    have RZ := (hrw.below hb).below b1
    have B1 := hb.trans (b1.mono hb.size)
    obtain ⟨y0, y1⟩ := Y1.cells2
    obtain ⟨e0, e1, e2, e3, e4, e5, e6, e7, e8, e9, e10, e11, e12⟩ := X1.cells13
    have zy := Y1.lt
    have zx := X1.lt
    have zb : b < (wr.alloc (.cells #[.int .i64 y, .slice av zs.length cv] 71)).heap.size := Nat.lt_of_lt_of_le hbl B1.size
    have hq : ∀ (p : Nat) (q : Int × List Int), ds[p]? = some q -> (wr.alloc (.cells #[.int .i64 y, .slice av zs.length cv] 71)).cell? ⟨b, off + p * 2, none⟩ = some (.int .i64 q.1) := fun p q hpq => by
     obtain ⟨c0, c1, hc0, hc1, hrc⟩ := hcs p q hpq
     obtain ⟨rfl, _⟩ := wr_rd hrc
     exact (B1.cell (p := ⟨b, off + p * 2, none⟩) hbl).trans hc0
    have HQ := hidden hq
    clear hcs hv0 hv1 hrv hrw hdj hq b1 e0 e3 e4 e5 e6 e7 e8 e10 e11 e12
    cases hI : stripeB x.n x.s y
    . skip
      go_wp2_with fail
      generalize wr.alloc (.cells #[.int .i64 y, .slice av zs.length cv] 71) = w1 at X1 Y1 RZ B1 y0 y1 e1 e2 e9 zy zx zb HQ  ⊢
      refine wp_region_held_drew (S := fun w' => w'.cell? ⟨wr.heap.size, 0, none⟩ = some (.int .i64 y) /\ w'.cell? ⟨w.heap.size, 1, none⟩ = some (.int .i64 x.n) /\ w'.cell? ⟨w.heap.size, 2, none⟩ = some (.int .i64 x.s) /\ w'.cell? ⟨w.heap.size, 9, none⟩ = some (.slice (some ⟨b, off, none⟩) nd cd)) (by kernel_rfl) ?_ (fun hHeld => ?_)
      . exact ⟨y0, e1, e2, e9⟩
      refine held_t 0 hHeld ?_
      refine held_t 1 hHeld ?_
      refine held_t 2 hHeld ?_
      refine held_t 3 hHeld ?_
      refine held_one (i := 4) (by kernel_rfl) rfl (by kernel_rfl) (fun K hK => ?_)
      go_simp
      refine (hasStripe_any _ x.n x.s y).mono ?_
      rintro e w2 ⟨rfl, b2⟩
      have b2' : Below w1.heap.size w1 w2 := (Below.refl w1.heap.size w1).drew.trans b2
      clear b2
      rw [hI]
      go_wp2_with fail
      clear hHeld
      refine hK.out _ _ ?_ (fun hHeld => ?_)
      . exact ⟨(b2'.cell (p := ⟨wr.heap.size, 0, none⟩) zy).trans y0, (b2'.cell (p := ⟨w.heap.size, 1, none⟩) zx).trans e1, (b2'.cell (p := ⟨w.heap.size, 2, none⟩) zx).trans e2, (b2'.cell (p := ⟨w.heap.size, 9, none⟩) zx).trans e9⟩
      clear hK K
      refine held_t 5 hHeld ?_
      refine held_t 6 hHeld ?_
      refine held_p 7 hHeld ?_
      refine held_p 8 hHeld ?_
      refine held_p 9 hHeld ?_
      refine held_p 10 hHeld ?_
      refine held_p 11 hHeld ?_
      refine held_p 12 hHeld ?_
      refine held_p 13 hHeld ?_
      refine held_p 14 hHeld ?_
      refine held_p 15 hHeld ?_
      refine held_p 16 hHeld ?_
      refine held_p 17 hHeld ?_
      refine held_p 18 hHeld ?_
      refine held_p 19 hHeld ?_
      refine held_p 20 hHeld ?_
      refine held_t 21 hHeld ?_
      refine wpAnyH_done (by kernel_rfl) ?_ _
      clear hHeld
      have HB := hidden (hA.trans ((B1.trans (b2'.mono B1.size)).mono hA.size))
      have HE := hidden (entsB_no (x := x) HDJ.out (entAt_1 (by rw [← stripe_in6 hg]; exact hI)))
      go_wp2
      go_ret
      exact ⟨ret_bool HE.out.symm, HB.out⟩
    . have HI := hidden ((stripe_in6 hg).symm.trans hI)
      by_cases hj0 : j = 0
      . subst hj0
        simp only [Nat.zero_mul, Nat.add_zero] at u0 u1
        by_cases hL : (zs.length : Int) = x.n - 1
        . have hL1 : ((zs.length : Int) == x.n - 1) = true := by simpa using hL
          have hL2 : ((zs.length : Int) != x.n - 1) = false := by simpa using hL
          have HL := hidden hL
          have hsa : secB zs = allW zs := sec_all6 (by omega)
          have HSA := hidden hsa
          clear hL hsa
          cases hZ : secB zs
          . have HZ := hidden (HSA.out.symm.trans hZ)
            go_wp2_with fail
            generalize wr.alloc (.cells #[.int .i64 y, .slice av zs.length cv] 71) = w1 at X1 Y1 RZ B1 y0 y1 e1 e2 e9 zy zx zb HQ  ⊢
            refine wp_region_held_drew (S := fun w' => w'.cell? ⟨wr.heap.size, 0, none⟩ = some (.int .i64 y) /\ w'.cell? ⟨w.heap.size, 1, none⟩ = some (.int .i64 x.n) /\ w'.cell? ⟨w.heap.size, 2, none⟩ = some (.int .i64 x.s) /\ w'.cell? ⟨w.heap.size, 9, none⟩ = some (.slice (some ⟨b, off, none⟩) nd cd)) (by kernel_rfl) ?_ (fun hHeld => ?_)
            . exact ⟨y0, e1, e2, e9⟩
            refine held_t 0 hHeld ?_
            refine held_t 1 hHeld ?_
            refine held_t 2 hHeld ?_
            refine held_t 3 hHeld ?_
            refine held_one (i := 4) (by kernel_rfl) rfl (by kernel_rfl) (fun K hK => ?_)
            go_simp
            refine (hasStripe_any _ x.n x.s y).mono ?_
            rintro e w2 ⟨rfl, b2⟩
            have b2' : Below w1.heap.size w1 w2 := (Below.refl w1.heap.size w1).drew.trans b2
            clear b2
            rw [hI]
            go_wp2_with fail
            clear hHeld
            refine hK.out _ _ ?_ (fun hHeld => ?_)
            . exact ⟨(b2'.cell (p := ⟨wr.heap.size, 0, none⟩) zy).trans y0, (b2'.cell (p := ⟨w.heap.size, 1, none⟩) zx).trans e1, (b2'.cell (p := ⟨w.heap.size, 2, none⟩) zx).trans e2, (b2'.cell (p := ⟨w.heap.size, 9, none⟩) zx).trans e9⟩
            clear hK K
            refine held_t 5 hHeld ?_
            refine held_t 6 hHeld ?_
            refine held_t 7 hHeld ?_
            refine held_t 8 hHeld ?_
            refine held_t 9 hHeld ?_
            refine held_p 10 hHeld ?_
            refine held_p 11 hHeld ?_
            refine held_p 12 hHeld ?_
            refine held_p 13 hHeld ?_
            refine held_p 14 hHeld ?_
            refine held_p 15 hHeld ?_
            refine held_p 16 hHeld ?_
            refine held_p 17 hHeld ?_
            refine held_p 18 hHeld ?_
            refine held_p 19 hHeld ?_
            refine held_t 20 hHeld ?_
            refine held_t 21 hHeld ?_
            refine wpAnyH_done (by kernel_rfl) ?_ _
            clear hHeld
            have my1 := (b2'.cell (p := ⟨wr.heap.size, 1, none⟩) zy).trans y1
            have me1 := (b2'.cell (p := ⟨w.heap.size, 1, none⟩) zx).trans e1
            have me2 := (b2'.cell (p := ⟨w.heap.size, 2, none⟩) zx).trans e2
            have my := Nat.lt_of_lt_of_le zy b2'.size
            have mx := Nat.lt_of_lt_of_le zx b2'.size
            have RZ2 := RZ.below b2'
            go_wp2_with fail
            refine wp_region_held_drew (S := fun w' => w'.cell? ⟨wr.heap.size, 1, none⟩ = some (.slice av zs.length cv) /\ w'.cell? ⟨w.heap.size, 1, none⟩ = some (.int .i64 x.n) /\ w'.cell? ⟨w.heap.size, 2, none⟩ = some (.int .i64 x.s)) (by kernel_rfl) ?_ (fun hHeld => ?_)
            . exact ⟨my1, me1, me2⟩
            refine held_t 0 hHeld ?_
            refine held_t 1 hHeld ?_
            refine held_t 2 hHeld ?_
            refine held_t 3 hHeld ?_
            refine held_t 4 hHeld ?_
            refine held_one (i := 5) (by kernel_rfl) rfl (by kernel_rfl) (fun K hK => ?_)
            go_simp
            refine (perStripe_any _ x.n x.s g1 g2).mono ?_
            rintro e w3 ⟨rfl, b3⟩
            have b3' : Below w2.heap.size w2 w3 := (Below.refl w2.heap.size w2).drew.trans b3
            clear b3
            go_wp2_with fail
            clear hHeld
            refine hK.out _ _ ?_ (fun hHeld => ?_)
            . exact ⟨(b3'.cell (p := ⟨wr.heap.size, 1, none⟩) my).trans my1, (b3'.cell (p := ⟨w.heap.size, 1, none⟩) mx).trans me1, (b3'.cell (p := ⟨w.heap.size, 2, none⟩) mx).trans me2⟩
            clear hK K
            refine held_t 6 hHeld ?_
            refine held_t 7 hHeld ?_
            refine held_t 8 hHeld ?_
            refine held_t 9 hHeld ?_
            refine held_one (i := 10) (by kernel_rfl) rfl (by kernel_rfl) (fun K hK => ?_)
            go_simp
            refine (implSecOk_any _ _ _ _ zs rfl (ints_rd (RZ2.below b3')).1 hwz).mono ?_
            rintro e w4 ⟨rfl, s4⟩
            have b4' : Below w2.heap.size w2 w4 := Below.andThen b3' (s4.below _)
            clear s4
            rw [hZ]
            go_wp2_with fail
            clear hHeld
            refine hK.out _ _ ?_ (fun hHeld => ?_)
            . exact ⟨(b4'.cell (p := ⟨wr.heap.size, 1, none⟩) my).trans my1, (b4'.cell (p := ⟨w.heap.size, 1, none⟩) mx).trans me1, (b4'.cell (p := ⟨w.heap.size, 2, none⟩) mx).trans me2⟩
            clear hK K
            refine held_t 11 hHeld ?_
            refine held_t 12 hHeld ?_
            refine wpAnyH_done (by kernel_rfl) ?_ _
            clear hHeld
            have HB := hidden (hA.trans ((B1.trans ((Below.andThen b2' b4').mono B1.size)).mono hA.size))
            have HE := hidden (entsB_no (x := x) HDJ.out (entAt_3 HZ.out))
            go_wp2
            go_ret
            exact ⟨ret_bool HE.out.symm, HB.out⟩
          . have HZ := hidden (HSA.out.symm.trans hZ)
            go_wp2_with fail
            generalize wr.alloc (.cells #[.int .i64 y, .slice av zs.length cv] 71) = w1 at X1 Y1 RZ B1 y0 y1 e1 e2 e9 zy zx zb HQ  ⊢
            refine wp_region_held_drew (S := fun w' => w'.cell? ⟨wr.heap.size, 0, none⟩ = some (.int .i64 y) /\ w'.cell? ⟨w.heap.size, 1, none⟩ = some (.int .i64 x.n) /\ w'.cell? ⟨w.heap.size, 2, none⟩ = some (.int .i64 x.s) /\ w'.cell? ⟨w.heap.size, 9, none⟩ = some (.slice (some ⟨b, off, none⟩) nd cd)) (by kernel_rfl) ?_ (fun hHeld => ?_)
            . exact ⟨y0, e1, e2, e9⟩
            refine held_t 0 hHeld ?_
            refine held_t 1 hHeld ?_
            refine held_t 2 hHeld ?_
            refine held_t 3 hHeld ?_
            refine held_one (i := 4) (by kernel_rfl) rfl (by kernel_rfl) (fun K hK => ?_)
            go_simp
            refine (hasStripe_any _ x.n x.s y).mono ?_
            rintro e w2 ⟨rfl, b2⟩
            have b2' : Below w1.heap.size w1 w2 := (Below.refl w1.heap.size w1).drew.trans b2
            clear b2
            rw [hI]
            go_wp2_with fail
            clear hHeld
            refine hK.out _ _ ?_ (fun hHeld => ?_)
            . exact ⟨(b2'.cell (p := ⟨wr.heap.size, 0, none⟩) zy).trans y0, (b2'.cell (p := ⟨w.heap.size, 1, none⟩) zx).trans e1, (b2'.cell (p := ⟨w.heap.size, 2, none⟩) zx).trans e2, (b2'.cell (p := ⟨w.heap.size, 9, none⟩) zx).trans e9⟩
            clear hK K
            refine held_t 5 hHeld ?_
            refine held_t 6 hHeld ?_
            refine held_t 7 hHeld ?_
            refine held_t 8 hHeld ?_
            refine held_t 9 hHeld ?_
            refine held_p 10 hHeld ?_
            refine held_p 11 hHeld ?_
            refine held_p 12 hHeld ?_
            refine held_p 13 hHeld ?_
            refine held_p 14 hHeld ?_
            refine held_p 15 hHeld ?_
            refine held_p 16 hHeld ?_
            refine held_p 17 hHeld ?_
            refine held_p 18 hHeld ?_
            refine held_p 19 hHeld ?_
            refine held_t 20 hHeld ?_
            refine held_t 21 hHeld ?_
            refine wpAnyH_done (by kernel_rfl) ?_ _
            clear hHeld
            have my1 := (b2'.cell (p := ⟨wr.heap.size, 1, none⟩) zy).trans y1
            have me1 := (b2'.cell (p := ⟨w.heap.size, 1, none⟩) zx).trans e1
            have me2 := (b2'.cell (p := ⟨w.heap.size, 2, none⟩) zx).trans e2
            have my := Nat.lt_of_lt_of_le zy b2'.size
            have mx := Nat.lt_of_lt_of_le zx b2'.size
            have RZ2 := RZ.below b2'
            go_wp2_with fail
            refine wp_region_held_drew (S := fun w' => w'.cell? ⟨wr.heap.size, 1, none⟩ = some (.slice av zs.length cv) /\ w'.cell? ⟨w.heap.size, 1, none⟩ = some (.int .i64 x.n) /\ w'.cell? ⟨w.heap.size, 2, none⟩ = some (.int .i64 x.s)) (by kernel_rfl) ?_ (fun hHeld => ?_)
            . exact ⟨my1, me1, me2⟩
            refine held_t 0 hHeld ?_
            refine held_t 1 hHeld ?_
            refine held_t 2 hHeld ?_
            refine held_t 3 hHeld ?_
            refine held_t 4 hHeld ?_
            refine held_one (i := 5) (by kernel_rfl) rfl (by kernel_rfl) (fun K hK => ?_)
            go_simp
            refine (perStripe_any _ x.n x.s g1 g2).mono ?_
            rintro e w3 ⟨rfl, b3⟩
            have b3' : Below w2.heap.size w2 w3 := (Below.refl w2.heap.size w2).drew.trans b3
            clear b3
            go_wp2_with fail
            clear hHeld
            refine hK.out _ _ ?_ (fun hHeld => ?_)
            . exact ⟨(b3'.cell (p := ⟨wr.heap.size, 1, none⟩) my).trans my1, (b3'.cell (p := ⟨w.heap.size, 1, none⟩) mx).trans me1, (b3'.cell (p := ⟨w.heap.size, 2, none⟩) mx).trans me2⟩
            clear hK K
            refine held_t 6 hHeld ?_
            refine held_t 7 hHeld ?_
            refine held_t 8 hHeld ?_
            refine held_t 9 hHeld ?_
            refine held_one (i := 10) (by kernel_rfl) rfl (by kernel_rfl) (fun K hK => ?_)
            go_simp
            refine (implSecOk_any _ _ _ _ zs rfl (ints_rd (RZ2.below b3')).1 hwz).mono ?_
            rintro e w4 ⟨rfl, s4⟩
            have b4' : Below w2.heap.size w2 w4 := Below.andThen b3' (s4.below _)
            clear s4
            rw [hZ]
            go_wp2_with fail
            clear hHeld
            refine hK.out _ _ ?_ (fun hHeld => ?_)
            . exact ⟨(b4'.cell (p := ⟨wr.heap.size, 1, none⟩) my).trans my1, (b4'.cell (p := ⟨w.heap.size, 1, none⟩) mx).trans me1, (b4'.cell (p := ⟨w.heap.size, 2, none⟩) mx).trans me2⟩
            clear hK K
            refine held_t 11 hHeld ?_
            refine held_t 12 hHeld ?_
            refine wpAnyH_done (by kernel_rfl) ?_ _
            clear hHeld
            have HB := hidden (B1.trans ((Below.andThen b2' b4').mono B1.size))
            have hat : entAt x ds (0) (y, zs) = true := entAt_4 HI.out HL.out HZ.out
            go_wp2
            go_roundw
            case rel => exact ⟨0 + 1, by omega, by go_num, fun q d hq hm' => by
             rcases Nat.lt_or_ge q (0) with h | h
             . exact hall q d h hm'
             . obtain rfl : q = 0 := by omega
               rw [HDJ.out] at hm'
               cases hm'
               exact hat, HB.out⟩
            case measure => simp [intOf]; omega
        . have hL1 : ((zs.length : Int) == x.n - 1) = false := by simpa using hL
          have hL2 : ((zs.length : Int) != x.n - 1) = true := by simpa using hL
          have HL := hidden hL
          clear hL
          go_wp2_with fail
          generalize wr.alloc (.cells #[.int .i64 y, .slice av zs.length cv] 71) = w1 at X1 Y1 RZ B1 y0 y1 e1 e2 e9 zy zx zb HQ  ⊢
          refine wp_region_held_drew (S := fun w' => w'.cell? ⟨wr.heap.size, 0, none⟩ = some (.int .i64 y) /\ w'.cell? ⟨w.heap.size, 1, none⟩ = some (.int .i64 x.n) /\ w'.cell? ⟨w.heap.size, 2, none⟩ = some (.int .i64 x.s) /\ w'.cell? ⟨w.heap.size, 9, none⟩ = some (.slice (some ⟨b, off, none⟩) nd cd)) (by kernel_rfl) ?_ (fun hHeld => ?_)
          . exact ⟨y0, e1, e2, e9⟩
          refine held_t 0 hHeld ?_
          refine held_t 1 hHeld ?_
          refine held_t 2 hHeld ?_
          refine held_t 3 hHeld ?_
          refine held_one (i := 4) (by kernel_rfl) rfl (by kernel_rfl) (fun K hK => ?_)
          go_simp
          refine (hasStripe_any _ x.n x.s y).mono ?_
          rintro e w2 ⟨rfl, b2⟩
          have b2' : Below w1.heap.size w1 w2 := (Below.refl w1.heap.size w1).drew.trans b2
          clear b2
          rw [hI]
          go_wp2_with fail
          clear hHeld
          refine hK.out _ _ ?_ (fun hHeld => ?_)
          . exact ⟨(b2'.cell (p := ⟨wr.heap.size, 0, none⟩) zy).trans y0, (b2'.cell (p := ⟨w.heap.size, 1, none⟩) zx).trans e1, (b2'.cell (p := ⟨w.heap.size, 2, none⟩) zx).trans e2, (b2'.cell (p := ⟨w.heap.size, 9, none⟩) zx).trans e9⟩
          clear hK K
          refine held_t 5 hHeld ?_
          refine held_t 6 hHeld ?_
          refine held_t 7 hHeld ?_
          refine held_t 8 hHeld ?_
          refine held_t 9 hHeld ?_
          refine held_p 10 hHeld ?_
          refine held_p 11 hHeld ?_
          refine held_p 12 hHeld ?_
          refine held_p 13 hHeld ?_
          refine held_p 14 hHeld ?_
          refine held_p 15 hHeld ?_
          refine held_p 16 hHeld ?_
          refine held_p 17 hHeld ?_
          refine held_p 18 hHeld ?_
          refine held_p 19 hHeld ?_
          refine held_t 20 hHeld ?_
          refine held_t 21 hHeld ?_
          refine wpAnyH_done (by kernel_rfl) ?_ _
          clear hHeld
          have my1 := (b2'.cell (p := ⟨wr.heap.size, 1, none⟩) zy).trans y1
          have me1 := (b2'.cell (p := ⟨w.heap.size, 1, none⟩) zx).trans e1
          have me2 := (b2'.cell (p := ⟨w.heap.size, 2, none⟩) zx).trans e2
          have my := Nat.lt_of_lt_of_le zy b2'.size
          have mx := Nat.lt_of_lt_of_le zx b2'.size
          have RZ2 := RZ.below b2'
          go_wp2_with fail
          refine wp_region_held_drew (S := fun w' => w'.cell? ⟨wr.heap.size, 1, none⟩ = some (.slice av zs.length cv) /\ w'.cell? ⟨w.heap.size, 1, none⟩ = some (.int .i64 x.n) /\ w'.cell? ⟨w.heap.size, 2, none⟩ = some (.int .i64 x.s)) (by kernel_rfl) ?_ (fun hHeld => ?_)
          . exact ⟨my1, me1, me2⟩
          refine held_t 0 hHeld ?_
          refine held_t 1 hHeld ?_
          refine held_t 2 hHeld ?_
          refine held_t 3 hHeld ?_
          refine held_t 4 hHeld ?_
          refine held_one (i := 5) (by kernel_rfl) rfl (by kernel_rfl) (fun K hK => ?_)
          go_simp
          refine (perStripe_any _ x.n x.s g1 g2).mono ?_
          rintro e w3 ⟨rfl, b3⟩
          have b3' : Below w2.heap.size w2 w3 := (Below.refl w2.heap.size w2).drew.trans b3
          clear b3
          go_wp2_with fail
          clear hHeld
          refine hK.out _ _ ?_ (fun hHeld => ?_)
          . exact ⟨(b3'.cell (p := ⟨wr.heap.size, 1, none⟩) my).trans my1, (b3'.cell (p := ⟨w.heap.size, 1, none⟩) mx).trans me1, (b3'.cell (p := ⟨w.heap.size, 2, none⟩) mx).trans me2⟩
          clear hK K
          refine held_t 6 hHeld ?_
          refine held_t 7 hHeld ?_
          refine held_p 8 hHeld ?_
          refine held_p 9 hHeld ?_
          refine held_none (i := 10) (by kernel_rfl) rfl (by kernel_rfl) hHeld ?_
          simp only [Act.put, List.setIfInBounds_toArray, List.set_cons_zero, List.set_cons_succ]
          refine held_p 11 hHeld ?_
          refine held_t 12 hHeld ?_
          refine wpAnyH_done (by kernel_rfl) ?_ _
          clear hHeld
          have HB := hidden (hA.trans ((B1.trans ((Below.andThen b2' b3').mono B1.size)).mono hA.size))
          have HE := hidden (entsB_no (x := x) HDJ.out (entAt_2 HL.out))
          go_wp2
          go_ret
          exact ⟨ret_bool HE.out.symm, HB.out⟩
      . obtain ⟨p, rfl⟩ : ∃ p, j = p + 1 := ⟨j - 1, by omega⟩
        have hpq : ds[p]? = some (ds[p]'(by omega)) := List.getElem?_eq_getElem (by omega)
        generalize ds[p]'(by omega) = q at hpq
        have qc := HQ.out p q hpq
        obtain ⟨s, zq⟩ := q
        simp only at qc
        have HPQ := hidden hpq
        clear hpq
        have j1 : IntKind.i64.wrap (((p + 1 : Nat) : Int) - 1) = (p : Int) := by rw [IntWalk.i64_in _ (by omega)]; omega
        have j2 : IntKind.i64.wrap ((p : Int) + 1 - 1) = (p : Int) := by rw [IntWalk.i64_in _ (by omega)]; omega
        have j3 : IntKind.i64.wrap (p : Int) = (p : Int) := IntWalk.i64_in _ (by omega)
        have j4 : (0 : Int) <= (p : Int) := by omega
        have j5 : (p : Int) < (nd : Int) := by omega
        have j6 : (0 : Int) < ((p + 1 : Nat) : Int) := by omega
        by_cases hlt : s < y
        . have hge : ¬ y <= s := by omega
          by_cases hL : (zs.length : Int) = x.n - 1
          . have hL1 : ((zs.length : Int) == x.n - 1) = true := by simpa using hL
            have hL2 : ((zs.length : Int) != x.n - 1) = false := by simpa using hL
            have HL := hidden hL
            have hsa : secB zs = allW zs := sec_all6 (by omega)
            have HSA := hidden hsa
            clear hL hsa
            cases hZ : secB zs
            . have HZ := hidden (HSA.out.symm.trans hZ)
              go_wp2_with fail
              generalize wr.alloc (.cells #[.int .i64 y, .slice av zs.length cv] 71) = w1 at X1 Y1 RZ B1 y0 y1 e1 e2 e9 zy zx zb HQ qc ⊢
              refine wp_region_held_drew (S := fun w' => w'.cell? ⟨wr.heap.size, 0, none⟩ = some (.int .i64 y) /\ w'.cell? ⟨w.heap.size, 1, none⟩ = some (.int .i64 x.n) /\ w'.cell? ⟨w.heap.size, 2, none⟩ = some (.int .i64 x.s) /\ w'.cell? ⟨w.heap.size, 9, none⟩ = some (.slice (some ⟨b, off, none⟩) nd cd) /\ w'.cell? ⟨b, off + p * 2, none⟩ = some (.int .i64 s)) (by kernel_rfl) ?_ (fun hHeld => ?_)
              . exact ⟨y0, e1, e2, e9, qc⟩
              refine held_t 0 hHeld ?_
              refine held_t 1 hHeld ?_
              refine held_t 2 hHeld ?_
              refine held_t 3 hHeld ?_
              refine held_one (i := 4) (by kernel_rfl) rfl (by kernel_rfl) (fun K hK => ?_)
              go_simp
              refine (hasStripe_any _ x.n x.s y).mono ?_
              rintro e w2 ⟨rfl, b2⟩
              have b2' : Below w1.heap.size w1 w2 := (Below.refl w1.heap.size w1).drew.trans b2
              clear b2
              rw [hI]
              go_wp2_with fail
              clear hHeld
              refine hK.out _ _ ?_ (fun hHeld => ?_)
              . exact ⟨(b2'.cell (p := ⟨wr.heap.size, 0, none⟩) zy).trans y0, (b2'.cell (p := ⟨w.heap.size, 1, none⟩) zx).trans e1, (b2'.cell (p := ⟨w.heap.size, 2, none⟩) zx).trans e2, (b2'.cell (p := ⟨w.heap.size, 9, none⟩) zx).trans e9, (b2'.cell (p := ⟨b, off + p * 2, none⟩) zb).trans qc⟩
              clear hK K
              refine held_t 5 hHeld ?_
              refine held_t 6 hHeld ?_
              refine held_t 7 hHeld ?_
              refine held_t 8 hHeld ?_
              refine held_t 9 hHeld ?_
              refine held_t 10 hHeld ?_
              refine held_t 11 hHeld ?_
              refine held_t 12 hHeld ?_
              refine held_t 13 hHeld ?_
              refine held_t 14 hHeld ?_
              refine held_t 15 hHeld ?_
              refine held_t 16 hHeld ?_
              refine held_t 17 hHeld ?_
              refine held_t 18 hHeld ?_
              refine held_t 19 hHeld ?_
              refine held_t 20 hHeld ?_
              refine held_t 21 hHeld ?_
              refine wpAnyH_done (by kernel_rfl) ?_ _
              clear hHeld
              have my1 := (b2'.cell (p := ⟨wr.heap.size, 1, none⟩) zy).trans y1
              have me1 := (b2'.cell (p := ⟨w.heap.size, 1, none⟩) zx).trans e1
              have me2 := (b2'.cell (p := ⟨w.heap.size, 2, none⟩) zx).trans e2
              have my := Nat.lt_of_lt_of_le zy b2'.size
              have mx := Nat.lt_of_lt_of_le zx b2'.size
              have RZ2 := RZ.below b2'
              go_wp2_with fail
              refine wp_region_held_drew (S := fun w' => w'.cell? ⟨wr.heap.size, 1, none⟩ = some (.slice av zs.length cv) /\ w'.cell? ⟨w.heap.size, 1, none⟩ = some (.int .i64 x.n) /\ w'.cell? ⟨w.heap.size, 2, none⟩ = some (.int .i64 x.s)) (by kernel_rfl) ?_ (fun hHeld => ?_)
              . exact ⟨my1, me1, me2⟩
              refine held_t 0 hHeld ?_
              refine held_t 1 hHeld ?_
              refine held_t 2 hHeld ?_
              refine held_t 3 hHeld ?_
              refine held_t 4 hHeld ?_
              refine held_one (i := 5) (by kernel_rfl) rfl (by kernel_rfl) (fun K hK => ?_)
              go_simp
              refine (perStripe_any _ x.n x.s g1 g2).mono ?_
              rintro e w3 ⟨rfl, b3⟩
              have b3' : Below w2.heap.size w2 w3 := (Below.refl w2.heap.size w2).drew.trans b3
              clear b3
              go_wp2_with fail
              clear hHeld
              refine hK.out _ _ ?_ (fun hHeld => ?_)
              . exact ⟨(b3'.cell (p := ⟨wr.heap.size, 1, none⟩) my).trans my1, (b3'.cell (p := ⟨w.heap.size, 1, none⟩) mx).trans me1, (b3'.cell (p := ⟨w.heap.size, 2, none⟩) mx).trans me2⟩
              clear hK K
              refine held_t 6 hHeld ?_
              refine held_t 7 hHeld ?_
              refine held_t 8 hHeld ?_
              refine held_t 9 hHeld ?_
              refine held_one (i := 10) (by kernel_rfl) rfl (by kernel_rfl) (fun K hK => ?_)
              go_simp
              refine (implSecOk_any _ _ _ _ zs rfl (ints_rd (RZ2.below b3')).1 hwz).mono ?_
              rintro e w4 ⟨rfl, s4⟩
              have b4' : Below w2.heap.size w2 w4 := Below.andThen b3' (s4.below _)
              clear s4
              rw [hZ]
              go_wp2_with fail
              clear hHeld
              refine hK.out _ _ ?_ (fun hHeld => ?_)
              . exact ⟨(b4'.cell (p := ⟨wr.heap.size, 1, none⟩) my).trans my1, (b4'.cell (p := ⟨w.heap.size, 1, none⟩) mx).trans me1, (b4'.cell (p := ⟨w.heap.size, 2, none⟩) mx).trans me2⟩
              clear hK K
              refine held_t 11 hHeld ?_
              refine held_t 12 hHeld ?_
              refine wpAnyH_done (by kernel_rfl) ?_ _
              clear hHeld
              have HB := hidden (hA.trans ((B1.trans ((Below.andThen b2' b4').mono B1.size)).mono hA.size))
              have HE := hidden (entsB_no (x := x) HDJ.out (entAt_3 HZ.out))
              go_wp2
              go_ret
              exact ⟨ret_bool HE.out.symm, HB.out⟩
            . have HZ := hidden (HSA.out.symm.trans hZ)
              go_wp2_with fail
              generalize wr.alloc (.cells #[.int .i64 y, .slice av zs.length cv] 71) = w1 at X1 Y1 RZ B1 y0 y1 e1 e2 e9 zy zx zb HQ qc ⊢
              refine wp_region_held_drew (S := fun w' => w'.cell? ⟨wr.heap.size, 0, none⟩ = some (.int .i64 y) /\ w'.cell? ⟨w.heap.size, 1, none⟩ = some (.int .i64 x.n) /\ w'.cell? ⟨w.heap.size, 2, none⟩ = some (.int .i64 x.s) /\ w'.cell? ⟨w.heap.size, 9, none⟩ = some (.slice (some ⟨b, off, none⟩) nd cd) /\ w'.cell? ⟨b, off + p * 2, none⟩ = some (.int .i64 s)) (by kernel_rfl) ?_ (fun hHeld => ?_)
              . exact ⟨y0, e1, e2, e9, qc⟩
              refine held_t 0 hHeld ?_
              refine held_t 1 hHeld ?_
              refine held_t 2 hHeld ?_
              refine held_t 3 hHeld ?_
              refine held_one (i := 4) (by kernel_rfl) rfl (by kernel_rfl) (fun K hK => ?_)
              go_simp
              refine (hasStripe_any _ x.n x.s y).mono ?_
              rintro e w2 ⟨rfl, b2⟩
              have b2' : Below w1.heap.size w1 w2 := (Below.refl w1.heap.size w1).drew.trans b2
              clear b2
              rw [hI]
              go_wp2_with fail
              clear hHeld
              refine hK.out _ _ ?_ (fun hHeld => ?_)
              . exact ⟨(b2'.cell (p := ⟨wr.heap.size, 0, none⟩) zy).trans y0, (b2'.cell (p := ⟨w.heap.size, 1, none⟩) zx).trans e1, (b2'.cell (p := ⟨w.heap.size, 2, none⟩) zx).trans e2, (b2'.cell (p := ⟨w.heap.size, 9, none⟩) zx).trans e9, (b2'.cell (p := ⟨b, off + p * 2, none⟩) zb).trans qc⟩
              clear hK K
              refine held_t 5 hHeld ?_
              refine held_t 6 hHeld ?_
              refine held_t 7 hHeld ?_
              refine held_t 8 hHeld ?_
              refine held_t 9 hHeld ?_
              refine held_t 10 hHeld ?_
              refine held_t 11 hHeld ?_
              refine held_t 12 hHeld ?_
              refine held_t 13 hHeld ?_
              refine held_t 14 hHeld ?_
              refine held_t 15 hHeld ?_
              refine held_t 16 hHeld ?_
              refine held_t 17 hHeld ?_
              refine held_t 18 hHeld ?_
              refine held_t 19 hHeld ?_
              refine held_t 20 hHeld ?_
              refine held_t 21 hHeld ?_
              refine wpAnyH_done (by kernel_rfl) ?_ _
              clear hHeld
              have my1 := (b2'.cell (p := ⟨wr.heap.size, 1, none⟩) zy).trans y1
              have me1 := (b2'.cell (p := ⟨w.heap.size, 1, none⟩) zx).trans e1
              have me2 := (b2'.cell (p := ⟨w.heap.size, 2, none⟩) zx).trans e2
              have my := Nat.lt_of_lt_of_le zy b2'.size
              have mx := Nat.lt_of_lt_of_le zx b2'.size
              have RZ2 := RZ.below b2'
              go_wp2_with fail
              refine wp_region_held_drew (S := fun w' => w'.cell? ⟨wr.heap.size, 1, none⟩ = some (.slice av zs.length cv) /\ w'.cell? ⟨w.heap.size, 1, none⟩ = some (.int .i64 x.n) /\ w'.cell? ⟨w.heap.size, 2, none⟩ = some (.int .i64 x.s)) (by kernel_rfl) ?_ (fun hHeld => ?_)
              . exact ⟨my1, me1, me2⟩
              refine held_t 0 hHeld ?_
              refine held_t 1 hHeld ?_
              refine held_t 2 hHeld ?_
              refine held_t 3 hHeld ?_
              refine held_t 4 hHeld ?_
              refine held_one (i := 5) (by kernel_rfl) rfl (by kernel_rfl) (fun K hK => ?_)
              go_simp
              refine (perStripe_any _ x.n x.s g1 g2).mono ?_
              rintro e w3 ⟨rfl, b3⟩
              have b3' : Below w2.heap.size w2 w3 := (Below.refl w2.heap.size w2).drew.trans b3
              clear b3
              go_wp2_with fail
              clear hHeld
              refine hK.out _ _ ?_ (fun hHeld => ?_)
              . exact ⟨(b3'.cell (p := ⟨wr.heap.size, 1, none⟩) my).trans my1, (b3'.cell (p := ⟨w.heap.size, 1, none⟩) mx).trans me1, (b3'.cell (p := ⟨w.heap.size, 2, none⟩) mx).trans me2⟩
              clear hK K
              refine held_t 6 hHeld ?_
              refine held_t 7 hHeld ?_
              refine held_t 8 hHeld ?_
              refine held_t 9 hHeld ?_
              refine held_one (i := 10) (by kernel_rfl) rfl (by kernel_rfl) (fun K hK => ?_)
              go_simp
              refine (implSecOk_any _ _ _ _ zs rfl (ints_rd (RZ2.below b3')).1 hwz).mono ?_
              rintro e w4 ⟨rfl, s4⟩
              have b4' : Below w2.heap.size w2 w4 := Below.andThen b3' (s4.below _)
              clear s4
              rw [hZ]
              go_wp2_with fail
              clear hHeld
              refine hK.out _ _ ?_ (fun hHeld => ?_)
              . exact ⟨(b4'.cell (p := ⟨wr.heap.size, 1, none⟩) my).trans my1, (b4'.cell (p := ⟨w.heap.size, 1, none⟩) mx).trans me1, (b4'.cell (p := ⟨w.heap.size, 2, none⟩) mx).trans me2⟩
              clear hK K
              refine held_t 11 hHeld ?_
              refine held_t 12 hHeld ?_
              refine wpAnyH_done (by kernel_rfl) ?_ _
              clear hHeld
              have HB := hidden (B1.trans ((Below.andThen b2' b4').mono B1.size))
              have hat : entAt x ds (p + 1) (y, zs) = true := (entAt_5 HI.out HL.out HZ.out HPQ.out).trans (by simpa using hlt)
              go_wp2
              go_roundw
              case rel => exact ⟨p + 1 + 1, by omega, by go_num, fun q d hq hm' => by
               rcases Nat.lt_or_ge q (p + 1) with h | h
               . exact hall q d h hm'
               . obtain rfl : q = p + 1 := by omega
                 rw [HDJ.out] at hm'
                 cases hm'
                 exact hat, HB.out⟩
              case measure => simp [intOf]; omega
          . have hL1 : ((zs.length : Int) == x.n - 1) = false := by simpa using hL
            have hL2 : ((zs.length : Int) != x.n - 1) = true := by simpa using hL
            have HL := hidden hL
            clear hL
            go_wp2_with fail
            generalize wr.alloc (.cells #[.int .i64 y, .slice av zs.length cv] 71) = w1 at X1 Y1 RZ B1 y0 y1 e1 e2 e9 zy zx zb HQ qc ⊢
            refine wp_region_held_drew (S := fun w' => w'.cell? ⟨wr.heap.size, 0, none⟩ = some (.int .i64 y) /\ w'.cell? ⟨w.heap.size, 1, none⟩ = some (.int .i64 x.n) /\ w'.cell? ⟨w.heap.size, 2, none⟩ = some (.int .i64 x.s) /\ w'.cell? ⟨w.heap.size, 9, none⟩ = some (.slice (some ⟨b, off, none⟩) nd cd) /\ w'.cell? ⟨b, off + p * 2, none⟩ = some (.int .i64 s)) (by kernel_rfl) ?_ (fun hHeld => ?_)
            . exact ⟨y0, e1, e2, e9, qc⟩
            refine held_t 0 hHeld ?_
            refine held_t 1 hHeld ?_
            refine held_t 2 hHeld ?_
            refine held_t 3 hHeld ?_
            refine held_one (i := 4) (by kernel_rfl) rfl (by kernel_rfl) (fun K hK => ?_)
            go_simp
            refine (hasStripe_any _ x.n x.s y).mono ?_
            rintro e w2 ⟨rfl, b2⟩
            have b2' : Below w1.heap.size w1 w2 := (Below.refl w1.heap.size w1).drew.trans b2
            clear b2
            rw [hI]
            go_wp2_with fail
            clear hHeld
            refine hK.out _ _ ?_ (fun hHeld => ?_)
            . exact ⟨(b2'.cell (p := ⟨wr.heap.size, 0, none⟩) zy).trans y0, (b2'.cell (p := ⟨w.heap.size, 1, none⟩) zx).trans e1, (b2'.cell (p := ⟨w.heap.size, 2, none⟩) zx).trans e2, (b2'.cell (p := ⟨w.heap.size, 9, none⟩) zx).trans e9, (b2'.cell (p := ⟨b, off + p * 2, none⟩) zb).trans qc⟩
            clear hK K
            refine held_t 5 hHeld ?_
            refine held_t 6 hHeld ?_
            refine held_t 7 hHeld ?_
            refine held_t 8 hHeld ?_
            refine held_t 9 hHeld ?_
            refine held_t 10 hHeld ?_
            refine held_t 11 hHeld ?_
            refine held_t 12 hHeld ?_
            refine held_t 13 hHeld ?_
            refine held_t 14 hHeld ?_
            refine held_t 15 hHeld ?_
            refine held_t 16 hHeld ?_
            refine held_t 17 hHeld ?_
            refine held_t 18 hHeld ?_
            refine held_t 19 hHeld ?_
            refine held_t 20 hHeld ?_
            refine held_t 21 hHeld ?_
            refine wpAnyH_done (by kernel_rfl) ?_ _
            clear hHeld
            have my1 := (b2'.cell (p := ⟨wr.heap.size, 1, none⟩) zy).trans y1
            have me1 := (b2'.cell (p := ⟨w.heap.size, 1, none⟩) zx).trans e1
            have me2 := (b2'.cell (p := ⟨w.heap.size, 2, none⟩) zx).trans e2
            have my := Nat.lt_of_lt_of_le zy b2'.size
            have mx := Nat.lt_of_lt_of_le zx b2'.size
            have RZ2 := RZ.below b2'
            go_wp2_with fail
            refine wp_region_held_drew (S := fun w' => w'.cell? ⟨wr.heap.size, 1, none⟩ = some (.slice av zs.length cv) /\ w'.cell? ⟨w.heap.size, 1, none⟩ = some (.int .i64 x.n) /\ w'.cell? ⟨w.heap.size, 2, none⟩ = some (.int .i64 x.s)) (by kernel_rfl) ?_ (fun hHeld => ?_)
            . exact ⟨my1, me1, me2⟩
            refine held_t 0 hHeld ?_
            refine held_t 1 hHeld ?_
            refine held_t 2 hHeld ?_
            refine held_t 3 hHeld ?_
            refine held_t 4 hHeld ?_
            refine held_one (i := 5) (by kernel_rfl) rfl (by kernel_rfl) (fun K hK => ?_)
            go_simp
            refine (perStripe_any _ x.n x.s g1 g2).mono ?_
            rintro e w3 ⟨rfl, b3⟩
            have b3' : Below w2.heap.size w2 w3 := (Below.refl w2.heap.size w2).drew.trans b3
            clear b3
            go_wp2_with fail
            clear hHeld
            refine hK.out _ _ ?_ (fun hHeld => ?_)
            . exact ⟨(b3'.cell (p := ⟨wr.heap.size, 1, none⟩) my).trans my1, (b3'.cell (p := ⟨w.heap.size, 1, none⟩) mx).trans me1, (b3'.cell (p := ⟨w.heap.size, 2, none⟩) mx).trans me2⟩
            clear hK K
            refine held_t 6 hHeld ?_
            refine held_t 7 hHeld ?_
            refine held_p 8 hHeld ?_
            refine held_p 9 hHeld ?_
            refine held_none (i := 10) (by kernel_rfl) rfl (by kernel_rfl) hHeld ?_
            simp only [Act.put, List.setIfInBounds_toArray, List.set_cons_zero, List.set_cons_succ]
            refine held_p 11 hHeld ?_
            refine held_t 12 hHeld ?_
            refine wpAnyH_done (by kernel_rfl) ?_ _
            clear hHeld
            have HB := hidden (hA.trans ((B1.trans ((Below.andThen b2' b3').mono B1.size)).mono hA.size))
            have HE := hidden (entsB_no (x := x) HDJ.out (entAt_2 HL.out))
            go_wp2
            go_ret
            exact ⟨ret_bool HE.out.symm, HB.out⟩
        . have hge : y <= s := by omega
          go_wp2_with fail
          generalize wr.alloc (.cells #[.int .i64 y, .slice av zs.length cv] 71) = w1 at X1 Y1 RZ B1 y0 y1 e1 e2 e9 zy zx zb HQ qc ⊢
          refine wp_region_held_drew (S := fun w' => w'.cell? ⟨wr.heap.size, 0, none⟩ = some (.int .i64 y) /\ w'.cell? ⟨w.heap.size, 1, none⟩ = some (.int .i64 x.n) /\ w'.cell? ⟨w.heap.size, 2, none⟩ = some (.int .i64 x.s) /\ w'.cell? ⟨w.heap.size, 9, none⟩ = some (.slice (some ⟨b, off, none⟩) nd cd) /\ w'.cell? ⟨b, off + p * 2, none⟩ = some (.int .i64 s)) (by kernel_rfl) ?_ (fun hHeld => ?_)
          . exact ⟨y0, e1, e2, e9, qc⟩
          refine held_t 0 hHeld ?_
          refine held_t 1 hHeld ?_
          refine held_t 2 hHeld ?_
          refine held_t 3 hHeld ?_
          refine held_one (i := 4) (by kernel_rfl) rfl (by kernel_rfl) (fun K hK => ?_)
          go_simp
          refine (hasStripe_any _ x.n x.s y).mono ?_
          rintro e w2 ⟨rfl, b2⟩
          have b2' : Below w1.heap.size w1 w2 := (Below.refl w1.heap.size w1).drew.trans b2
          clear b2
          rw [hI]
          go_wp2_with fail
          clear hHeld
          refine hK.out _ _ ?_ (fun hHeld => ?_)
          . exact ⟨(b2'.cell (p := ⟨wr.heap.size, 0, none⟩) zy).trans y0, (b2'.cell (p := ⟨w.heap.size, 1, none⟩) zx).trans e1, (b2'.cell (p := ⟨w.heap.size, 2, none⟩) zx).trans e2, (b2'.cell (p := ⟨w.heap.size, 9, none⟩) zx).trans e9, (b2'.cell (p := ⟨b, off + p * 2, none⟩) zb).trans qc⟩
          clear hK K
          refine held_t 5 hHeld ?_
          refine held_t 6 hHeld ?_
          refine held_t 7 hHeld ?_
          refine held_t 8 hHeld ?_
          refine held_t 9 hHeld ?_
          refine held_t 10 hHeld ?_
          refine held_t 11 hHeld ?_
          refine held_t 12 hHeld ?_
          refine held_t 13 hHeld ?_
          refine held_t 14 hHeld ?_
          refine held_t 15 hHeld ?_
          refine held_t 16 hHeld ?_
          refine held_t 17 hHeld ?_
          refine held_t 18 hHeld ?_
          refine held_t 19 hHeld ?_
          refine held_t 20 hHeld ?_
          refine held_t 21 hHeld ?_
          refine wpAnyH_done (by kernel_rfl) ?_ _
          clear hHeld
          have HB := hidden (hA.trans ((B1.trans (b2'.mono B1.size)).mono hA.size))
          have HE := hidden (entsB_no (x := x) HDJ.out (entAt_6 HPQ.out hge))
          go_wp2
          go_ret
          exact ⟨ret_bool HE.out.symm, HB.out⟩
  . have ej : j = nd := by omega
    subst ej
    have hAll : entsB x ds = true := allIx_iff.2 (fun q d hq => hall q d (by have := (List.getElem?_eq_some_iff.1 hq).1; omega) hq)
    have HB := hidden (hA.trans (hb.mono hA.size))
    go_wp2
    go_ret
    exact ⟨ret_bool hAll.symm, HB.out⟩

theorem recsOk_any (w : World) (x : ArrN) (am ad : Option Addr) (nm cm nd cd : Nat) :
 Calls Tryz.prog 85 #[.agg #[.int .i64 x.id, .int .i64 x.n, .int .i64 x.s, .slice am nm cm, .int .i64 x.lost, .int .i64 x.built, .int .i64 x.seq, .int .i64 x.tail, .int .i64 x.gen, .slice ad nd cd, .int .i64 x.fuse, .bool x.down, .bool x.broken]] w fun e w' => e = .returned (.bool (recB6 x)) /\ Below w.heap.size w w' := by
 have hA := new_below w (.cells #[.int .i64 x.id, .int .i64 x.n, .int .i64 x.s, .slice am nm cm, .int .i64 x.lost, .int .i64 x.built, .int .i64 x.seq, .int .i64 x.tail, .int .i64 x.gen, .slice ad nd cd, .int .i64 x.fuse, .bool x.down, .bool x.broken] 35)
 have X := Box.new w 35 #[.int .i64 x.id, .int .i64 x.n, .int .i64 x.s, .slice am nm cm, .int .i64 x.lost, .int .i64 x.built, .int .i64 x.seq, .int .i64 x.tail, .int .i64 x.gen, .slice ad nd cd, .int .i64 x.fuse, .bool x.down, .bool x.broken]
 obtain ⟨k0, k1, k2, k3, k4, k5, k6, k7, k8, k9, k10, k11, k12⟩ := X.cells13
 clear k0 k1 k2 k3 k4 k5 k8 k9 k10 k11 k12 X
 go_enter Tryz.func85, Tryz.ntmps85
 go_wp2_with fail
 refine (within_any _ _ _ _).mono ?_
 rintro e wq ⟨rfl, hq⟩
 obtain rfl := hq.symm
 cases hs : inB x.seq 0 60000
 . have HF : Hid (recB6 x = false) := by unfold Hid recB6; rw [hs]; rfl
   go_wp2
   go_ret
   exact ⟨ret_bool HF.out.symm, hA⟩
 . go_wp2_with fail
   refine (within_any _ _ _ _).mono ?_
   rintro e wq ⟨rfl, hq⟩
   obtain rfl := hq.symm
   cases ht : inB x.tail 0 60000
   . have HF : Hid (recB6 x = false) := by unfold Hid recB6; rw [hs, ht]; rfl
     go_wp2
     go_ret
     exact ⟨ret_bool HF.out.symm, hA⟩
   . have HF : Hid (recB6 x = inB (x.seq - x.tail) 0 4) := by unfold Hid recB6; rw [hs, ht]; rfl
     obtain ⟨s1, s2⟩ := inB_iff.1 hs
     obtain ⟨t1, t2⟩ := inB_iff.1 ht
     have hw : IntKind.i64.wrap (x.seq - x.tail) = x.seq - x.tail := IntWalk.i64_in _ (by omega)
     go_wp2_with fail
     refine (within_any _ _ _ _).mono ?_
     rintro e wq ⟨rfl, hq⟩
     obtain rfl := hq.symm
     cases hd : inB (x.seq - x.tail) 0 4
     . go_wp2
       go_ret
       exact ⟨ret_bool (by rw [HF.out, hd]), hA⟩
     . go_wp2
       go_ret
       exact ⟨ret_bool (by rw [HF.out, hd]), hA⟩

theorem implArrOk_any (w : World) (E F G : TypeId) (x : ArrN) (am ad : Option Addr) (nm cm nd cd : Nat) (ms : List MemD) (ds : List (Int × List Int)) (h0 : (tMemS E F).Rd w [.slice am nm cm] ms) (h1 : (tWrS G).Rd w [.slice ad nd cd] ds) (hw : wtArr ms ds <= 2097152) :
 Calls Tryz.prog 70 #[.agg #[.int .i64 x.id, .int .i64 x.n, .int .i64 x.s, .slice am nm cm, .int .i64 x.lost, .int .i64 x.built, .int .i64 x.seq, .int .i64 x.tail, .int .i64 x.gen, .slice ad nd cd, .int .i64 x.fuse, .bool x.down, .bool x.broken]] w fun e w' => e = .returned (.bool (arrB x ms ds)) /\ Below w.heap.size w w' := by
 have hwm : wtMemS ms <= 2097152 := by unfold wtArr at hw; omega
 have hwd : wtWrS ds <= 2097152 := by unfold wtArr at hw; omega
 have hA := new_below w (.cells #[.int .i64 x.id, .int .i64 x.n, .int .i64 x.s, .slice am nm cm, .int .i64 x.lost, .int .i64 x.built, .int .i64 x.seq, .int .i64 x.tail, .int .i64 x.gen, .slice ad nd cd, .int .i64 x.fuse, .bool x.down, .bool x.broken] 35)
 have X := Box.new w 35 #[.int .i64 x.id, .int .i64 x.n, .int .i64 x.s, .slice am nm cm, .int .i64 x.lost, .int .i64 x.built, .int .i64 x.seq, .int .i64 x.tail, .int .i64 x.gen, .slice ad nd cd, .int .i64 x.fuse, .bool x.down, .bool x.broken]
 obtain ⟨k0, k1, k2, k3, k4, k5, k6, k7, k8, k9, k10, k11, k12⟩ := X.cells13
 have zA := X.lt
 have r0 := h0.below hA
 have r1 := h1.below hA
 go_enter Tryz.func70, Tryz.ntmps70
 go_wp2_with fail
 generalize w.alloc (.cells #[.int .i64 x.id, .int .i64 x.n, .int .i64 x.s, .slice am nm cm, .int .i64 x.lost, .int .i64 x.built, .int .i64 x.seq, .int .i64 x.tail, .int .i64 x.gen, .slice ad nd cd, .int .i64 x.fuse, .bool x.down, .bool x.broken] 35) = W at hA X zA r0 r1 k0 k1 k2 k3 k4 k5 k6 k7 k8 k9 k10 k11 k12 ⊢
 refine (implGeoOk_any _ _ _).mono ?_
 rintro e w1 ⟨rfl, b1⟩
 have X1 := X.below b1 X.lt
 have B1 := Below.andThen hA b1
 have q1 := r0.below b1
 have t1 := r1.below b1
 clear k0 k1 k2 k3 k4 k5 k6 k7 k8 k9 k10 k11 k12 b1 X hA r0 r1
 obtain ⟨k0, k1, k2, k3, k4, k5, k6, k7, k8, k9, k10, k11, k12⟩ := X1.cells13
 cases hg : geoB x.n x.s
 . have HF : Hid (arrB x ms ds = false) := by
    unfold Hid
    unfold arrB; rw [hg]; rfl
   go_wp2
   go_ret
   exact ⟨ret_bool HF.out.symm, B1⟩
 . have HE := hidden (arr_same6 (ms := ms) (ds := ds) hg)
   obtain ⟨g1, g2, g3, g4⟩ := geoB_iff.1 hg
   go_wp2_with fail
   refine (within_any _ _ _ _).mono ?_
   rintro e wq ⟨rfl, hq⟩
   obtain rfl := hq.symm
   cases hid : inB x.id 1 60000
   . have HF : Hid (arrB x ms ds = false) := by
      unfold Hid
      rw [HE.out, hid]; rfl
     go_wp2
     go_ret
     exact ⟨ret_bool HF.out.symm, B1⟩
   . go_wp2_with fail
     refine (lostOk_any _ x.n x.s x.lost x.built ⟨g1, g2⟩).mono ?_
     rintro e w2 ⟨rfl, b2⟩
     have X2 := X1.below b2 X1.lt
     have B2 := Below.andThen B1 b2
     have q2 := q1.below b2
     have t2 := t1.below b2
     clear k0 k1 k2 k3 k4 k5 k6 k7 k8 k9 k10 k11 k12 b2 X1 B1 q1 t1
     obtain ⟨k0, k1, k2, k3, k4, k5, k6, k7, k8, k9, k10, k11, k12⟩ := X2.cells13
     cases hlo : lostB x.n x.s x.lost x.built
     . have HF : Hid (arrB x ms ds = false) := by
        unfold Hid
        rw [HE.out, hid, hlo]; rfl
       go_wp2
       go_ret
       exact ⟨ret_bool HF.out.symm, B2⟩
     . skip
       go_wp2_with fail
       refine (within_any _ _ _ _).mono ?_
       rintro e wq ⟨rfl, hq⟩
       obtain rfl := hq.symm
       cases hge : inB x.gen 0 60000
       . have HF : Hid (arrB x ms ds = false) := by
          unfold Hid
          rw [HE.out, hid, hlo, hge]; rfl
         go_wp2
         go_ret
         exact ⟨ret_bool HF.out.symm, B2⟩
       . skip
         go_wp2_with fail
         refine (within_any _ _ _ _).mono ?_
         rintro e wq ⟨rfl, hq⟩
         obtain rfl := hq.symm
         cases hfu : inB x.fuse (-1) 1000
         . have HF : Hid (arrB x ms ds = false) := by
            unfold Hid
            rw [HE.out, hid, hlo, hge, hfu]; rfl
           go_wp2
           go_ret
           exact ⟨ret_bool HF.out.symm, B2⟩
         . go_wp2_with fail
           refine (memsOk_any _ E F x _ _ _ _ _ _ ms q2 hwm hg).mono ?_
           rintro e w3 ⟨rfl, b3⟩
           have X3 := X2.below b3 X2.lt
           have B3 := Below.andThen B2 b3
           have q3 := q2.below b3
           have t3 := t2.below b3
           clear k0 k1 k2 k3 k4 k5 k6 k7 k8 k9 k10 k11 k12 b3 X2 B2 q2 t2
           obtain ⟨k0, k1, k2, k3, k4, k5, k6, k7, k8, k9, k10, k11, k12⟩ := X3.cells13
           cases hms : memsB x ms
           . have HF : Hid (arrB x ms ds = false) := by
              unfold Hid
              rw [HE.out, hid, hlo, hge, hfu, hms]; rfl
             go_wp2
             go_ret
             exact ⟨ret_bool HF.out.symm, B3⟩
           . go_wp2_with fail
             refine (recsOk_any _ x _ _ _ _ _ _).mono ?_
             rintro e w4 ⟨rfl, b4⟩
             have X4 := X3.below b4 X3.lt
             have B4 := Below.andThen B3 b4
             have q4 := q3.below b4
             have t4 := t3.below b4
             clear k0 k1 k2 k3 k4 k5 k6 k7 k8 k9 k10 k11 k12 b4 X3 B3 q3 t3
             obtain ⟨k0, k1, k2, k3, k4, k5, k6, k7, k8, k9, k10, k11, k12⟩ := X4.cells13
             cases hre : recB6 x
             . have HF : Hid (arrB x ms ds = false) := by
                unfold Hid
                rw [HE.out, hid, hlo, hge, hfu, hms, hre]; rfl
               go_wp2
               go_ret
               exact ⟨ret_bool HF.out.symm, B4⟩
             . have HF : Hid (arrB x ms ds = entsB x ds) := by
                unfold Hid
                rw [HE.out, hid, hlo, hge, hfu, hms, hre]; rfl
               go_wp2_with fail
               refine (dirtyOk_any _ G x _ _ _ _ _ _ ds t4 hwd hg).mono ?_
               rintro e w5 ⟨rfl, b5⟩
               have X5 := X4.below b5 X4.lt
               have B5 := Below.andThen B4 b5
               have q5 := q4.below b5
               have t5 := t4.below b5
               clear k0 k1 k2 k3 k4 k5 k6 k7 k8 k9 k10 k11 k12 b5 X4 B4 q4 t4
               obtain ⟨k0, k1, k2, k3, k4, k5, k6, k7, k8, k9, k10, k11, k12⟩ := X5.cells13
               cases hds : entsB x ds
               . go_wp2
                 go_ret
                 exact ⟨ret_bool (by rw [HF.out, hds]), B5⟩
               . go_wp2
                 go_ret
                 exact ⟨ret_bool (by rw [HF.out, hds]), B5⟩

theorem askCode_any (w : World) (E F G : TypeId) (x : ArrN) (am ad : Option Addr) (nm cm nd cd : Nat) (ms : List MemD) (ds : List (Int × List Int)) (h0 : (tMemS E F).Rd w [.slice am nm cm] ms) (h1 : (tWrS G).Rd w [.slice ad nd cd] ds) (hw : wtArr ms ds <= 2097152) :
 Calls Tryz.prog 57 #[.agg #[.int .i64 x.id, .int .i64 x.n, .int .i64 x.s, .slice am nm cm, .int .i64 x.lost, .int .i64 x.built, .int .i64 x.seq, .int .i64 x.tail, .int .i64 x.gen, .slice ad nd cd, .int .i64 x.fuse, .bool x.down, .bool x.broken]] w fun e w' => e = .returned (.int .i64 (ask8 x ms ds)) /\ Below w.heap.size w w' := by
 have hA := new_below w (.cells #[.int .i64 x.id, .int .i64 x.n, .int .i64 x.s, .slice am nm cm, .int .i64 x.lost, .int .i64 x.built, .int .i64 x.seq, .int .i64 x.tail, .int .i64 x.gen, .slice ad nd cd, .int .i64 x.fuse, .bool x.down, .bool x.broken] 35)
 have X := Box.new w 35 #[.int .i64 x.id, .int .i64 x.n, .int .i64 x.s, .slice am nm cm, .int .i64 x.lost, .int .i64 x.built, .int .i64 x.seq, .int .i64 x.tail, .int .i64 x.gen, .slice ad nd cd, .int .i64 x.fuse, .bool x.down, .bool x.broken]
 have zX := X.lt
 obtain ⟨k0, k1, k2, k3, k4, k5, k6, k7, k8, k9, k10, k11, k12⟩ := X.cells13
 have r0 := h0.below hA
 have r1 := h1.below hA
 have HV : Hid (ask8 x ms ds = if arrB x ms ds = true then (if x.down = true then 6 else 0) else 1) := rfl
 go_enter Tryz.func57, Tryz.ntmps57
 go_wp2_with fail
 generalize w.alloc (.cells #[.int .i64 x.id, .int .i64 x.n, .int .i64 x.s, .slice am nm cm, .int .i64 x.lost, .int .i64 x.built, .int .i64 x.seq, .int .i64 x.tail, .int .i64 x.gen, .slice ad nd cd, .int .i64 x.fuse, .bool x.down, .bool x.broken] 35) = W at hA X zX r0 r1 k0 k1 k2 k3 k4 k5 k6 k7 k8 k9 k10 k11 k12 ⊢
 refine (implArrOk_any _ E F G x _ _ _ _ _ _ ms ds r0 r1 hw).mono ?_
 rintro e w1 ⟨rfl, b1⟩
 have X1 := X.below b1 zX
 have HB := hidden (Below.andThen hA b1)
 clear k0 k1 k2 k3 k4 k5 k6 k7 k8 k9 k10 k11 k12 X r0 r1 b1 hA
 obtain ⟨k0, k1, k2, k3, k4, k5, k6, k7, k8, k9, k10, k11, k12⟩ := X1.cells13
 clear X1
 cases ha : arrB x ms ds
 . have HR : Hid (1 = ask8 x ms ds) := by unfold Hid; rw [HV.out, if_neg (by simp [ha])]
   clear ha
   go_wp2
   go_ret
   exact ⟨ret_int HR.out, HB.out⟩
 . cases hd : x.down
   . have HR : Hid (0 = ask8 x ms ds) := by unfold Hid; rw [HV.out, if_pos ha, if_neg (by simp [hd])]
     rw [hd] at k11
     clear ha hd
     go_wp2
     go_ret
     exact ⟨ret_int HR.out, HB.out⟩
   . have HR : Hid (6 = ask8 x ms ds) := by unfold Hid; rw [HV.out, if_pos ha, if_pos hd]
     rw [hd] at k11
     clear ha hd
     go_wp2
     go_ret
     exact ⟨ret_int HR.out, HB.out⟩

theorem stripeCode_any (w : World) (E F G : TypeId) (x : ArrN) (am ad : Option Addr) (nm cm nd cd : Nat) (ms : List MemD) (ds : List (Int × List Int)) (s : Int) (h0 : (tMemS E F).Rd w [.slice am nm cm] ms) (h1 : (tWrS G).Rd w [.slice ad nd cd] ds) (hw : wtArr ms ds <= 2097152) :
 Calls Tryz.prog 39 #[.agg #[.int .i64 x.id, .int .i64 x.n, .int .i64 x.s, .slice am nm cm, .int .i64 x.lost, .int .i64 x.built, .int .i64 x.seq, .int .i64 x.tail, .int .i64 x.gen, .slice ad nd cd, .int .i64 x.fuse, .bool x.down, .bool x.broken], .int .i64 s] w fun e w' => e = .returned (.int .i64 (scode8 x ms ds s)) /\ Below w.heap.size w w' := by
 have hA := new_below w (.cells #[.int .i64 x.id, .int .i64 x.n, .int .i64 x.s, .slice am nm cm, .int .i64 x.lost, .int .i64 x.built, .int .i64 x.seq, .int .i64 x.tail, .int .i64 x.gen, .slice ad nd cd, .int .i64 x.fuse, .bool x.down, .bool x.broken] 35)
 have X := Box.new w 35 #[.int .i64 x.id, .int .i64 x.n, .int .i64 x.s, .slice am nm cm, .int .i64 x.lost, .int .i64 x.built, .int .i64 x.seq, .int .i64 x.tail, .int .i64 x.gen, .slice ad nd cd, .int .i64 x.fuse, .bool x.down, .bool x.broken]
 have zX := X.lt
 obtain ⟨k0, k1, k2, k3, k4, k5, k6, k7, k8, k9, k10, k11, k12⟩ := X.cells13
 have r0 := h0.below hA
 have r1 := h1.below hA
 have HV : Hid (scode8 x ms ds s = if ask8 x ms ds = 0 then (if stripeB x.n x.s s = true then 0 else 2) else ask8 x ms ds) := rfl
 go_enter Tryz.func39, Tryz.ntmps39
 go_wp2_with fail
 generalize w.alloc (.cells #[.int .i64 x.id, .int .i64 x.n, .int .i64 x.s, .slice am nm cm, .int .i64 x.lost, .int .i64 x.built, .int .i64 x.seq, .int .i64 x.tail, .int .i64 x.gen, .slice ad nd cd, .int .i64 x.fuse, .bool x.down, .bool x.broken] 35) = W at hA X zX r0 r1 k0 k1 k2 k3 k4 k5 k6 k7 k8 k9 k10 k11 k12 ⊢
 refine (askCode_any _ E F G x _ _ _ _ _ _ ms ds r0 r1 hw).mono ?_
 rintro e w1 ⟨rfl, b1⟩
 have X1 := X.below b1 zX
 have zX1 := X1.lt
 have HB := hidden (Below.andThen hA b1)
 clear k0 k1 k2 k3 k4 k5 k6 k7 k8 k9 k10 k11 k12 X r0 r1 b1 hA
 obtain ⟨k0, k1, k2, k3, k4, k5, k6, k7, k8, k9, k10, k11, k12⟩ := X1.cells13
 clear X1
 generalize ask8 x ms ds = q at HV ⊢
 by_cases hq : q = 0
 . subst hq
   have HV2 : Hid (scode8 x ms ds s = if stripeB x.n x.s s = true then 0 else 2) := by unfold Hid; rw [HV.out, if_pos rfl]
   clear HV
   go_wp2_with fail
   refine (hasStripe_any _ x.n x.s s).mono ?_
   rintro e w2 ⟨rfl, b2⟩
   have HB2 := hidden (Below.andThen HB.out b2)
   clear k0 k1 k2 k3 k4 k5 k6 k7 k8 k9 k10 k11 k12 b2 HB
   cases hb : stripeB x.n x.s s
   . have HR : Hid (2 = scode8 x ms ds s) := by unfold Hid; rw [HV2.out, if_neg (by simp [hb])]
     clear hb
     go_wp2
     go_ret
     exact ⟨ret_int HR.out, HB2.out⟩
   . have HR : Hid (0 = scode8 x ms ds s) := by unfold Hid; rw [HV2.out, if_pos hb]
     clear hb
     go_wp2
     go_ret
     exact ⟨ret_int HR.out, HB2.out⟩
 . have HR : Hid (q = scode8 x ms ds s) := by unfold Hid; rw [HV.out, if_neg hq]
   have e0 : (q != 0) = true := by simpa using hq
   clear hq HV
   go_wp2
   go_ret
   exact ⟨ret_int HR.out, HB.out⟩

def DiskV (w : World) (E : TypeId) (x : ArrN) (ms : List MemD) (j : Nat) (v : Value) : Prop :=
 ∃ (a0 a1 a3 : Option Addr) (c0 c1 c3 : Nat) (ss : List (List Int)) (cs : List (Int × List Int)) (f : Bool) (bs : List Int), ms[j]? = some (ss, cs, f, bs) /\ tIntSS.Rd w [.slice a0 ss.length c0] ss /\ (tWrS E).Rd w [.slice a1 cs.length c1] cs /\ tIntS.Rd w [.slice a3 bs.length c3] bs /\
  ((f = true /\ v = .iface 121 (.agg #[])) ∨ (f = false /\ (j : Int) = x.lost /\ v = .iface 123 (.agg #[.slice a0 ss.length c0, .slice a1 cs.length c1, .bool false, .slice a3 bs.length c3, .int .i64 x.built])) ∨ (f = false /\ ¬ (j : Int) = x.lost /\ v = .iface 125 (.agg #[.slice a0 ss.length c0, .slice a1 cs.length c1, .bool false, .slice a3 bs.length c3])))

theorem diskAt_any (w : World) (E F : TypeId) (x : ArrN) (am ad : Option Addr) (nm cm nd cd : Nat) (ms : List MemD) (j : Nat) (h0 : (tMemS E F).Rd w [.slice am nm cm] ms) (hw : wtMemS ms <= 2097152) (hj : j < nm) :
 Calls Tryz.prog 90 #[.agg #[.int .i64 x.id, .int .i64 x.n, .int .i64 x.s, .slice am nm cm, .int .i64 x.lost, .int .i64 x.built, .int .i64 x.seq, .int .i64 x.tail, .int .i64 x.gen, .slice ad nd cd, .int .i64 x.fuse, .bool x.down, .bool x.broken], .int .i64 (j : Int)] w fun e w' => ∃ v, e = .returned v /\ DiskV w' E x ms j v /\ Below w.heap.size w w' := by
 obtain ⟨hl, hc, hm⟩ := row_length h0
 have hnm : nm <= 2097152 := by unfold wtMemS at hw; omega
 have hA := new_below w (.cells #[.int .i64 x.id, .int .i64 x.n, .int .i64 x.s, .slice am nm cm, .int .i64 x.lost, .int .i64 x.built, .int .i64 x.seq, .int .i64 x.tail, .int .i64 x.gen, .slice ad nd cd, .int .i64 x.fuse, .bool x.down, .bool x.broken] 35)
 have X := Box.new w 35 #[.int .i64 x.id, .int .i64 x.n, .int .i64 x.s, .slice am nm cm, .int .i64 x.lost, .int .i64 x.built, .int .i64 x.seq, .int .i64 x.tail, .int .i64 x.gen, .slice ad nd cd, .int .i64 x.fuse, .bool x.down, .bool x.broken]
 obtain ⟨k0, k1, k2, k3, k4, k5, k6, k7, k8, k9, k10, k11, k12⟩ := X.cells13
 have h1 := h0.below hA
 have i1 : (0 : Int) <= (j : Int) := by omega
 have i2 : (j : Int) < (nm : Int) := by omega
 rcases quads_at rfl h1 with h0' | ⟨b, off, rfl, hbl, hcs⟩
 . omega
 have hdj : ms[j]? = some (ms[j]'(by omega)) := List.getElem?_eq_getElem (by omega)
 generalize ms[j]'(by omega) = d at hdj
 obtain ⟨v0, v1, v2, v3, hv0, hv1, hv2, hv3, hrv⟩ := hcs j d hdj
 obtain ⟨a0, c0, a1, c1, a3, c3, ss, cs, f, bs, rfl, rfl, rfl, rfl, rfl, r0, r1, r3⟩ := mem_at hrv
 clear hcs hrv h1 h0
 have HR := hidden (And.intro hdj (And.intro r0 (And.intro r1 r3)))
 clear hdj r0 r1 r3
 cases f
 . by_cases hjl : (j : Int) = x.lost
   . have e1 : ((j : Int) == x.lost) = true := by simpa using hjl
     have HJ := hidden hjl
     clear hjl
     go_enter Tryz.func90, Tryz.ntmps90
     go_wp2
     go_quiet (fail)
     go_wp2
     refine bodyPost_ret (v := .iface 123 (.agg #[.slice a0 ss.length c0, .slice a1 cs.length c1, .bool false, .slice a3 bs.length c3, .int .i64 x.built])) (by simp [results, Tryz.results90, go_sem]) rfl ?_
     exact ⟨_, rfl, ⟨_, _, _, _, _, _, ss, cs, false, bs, HR.out.1, HR.out.2.1.below (below_drewN (Below.refl _ _) _), HR.out.2.2.1.below (below_drewN (Below.refl _ _) _), HR.out.2.2.2.below (below_drewN (Below.refl _ _) _), .inr (.inl ⟨rfl, HJ.out, rfl⟩)⟩, below_drewN hA _⟩
   . have e1 : ((j : Int) == x.lost) = false := by simpa using hjl
     have HJ := hidden hjl
     clear hjl
     go_enter Tryz.func90, Tryz.ntmps90
     go_wp2
     refine bodyPost_ret (v := .iface 125 (.agg #[.slice a0 ss.length c0, .slice a1 cs.length c1, .bool false, .slice a3 bs.length c3])) (by simp [results, Tryz.results90, go_sem]) rfl ?_
     exact ⟨_, rfl, ⟨_, _, _, _, _, _, ss, cs, false, bs, HR.out.1, HR.out.2.1, HR.out.2.2.1, HR.out.2.2.2, .inr (.inr ⟨rfl, HJ.out, rfl⟩)⟩, hA⟩
 . go_enter Tryz.func90, Tryz.ntmps90
   go_wp2
   refine bodyPost_ret (v := .iface 121 (.agg #[])) (by simp [results, Tryz.results90, go_sem]) rfl ?_
   exact ⟨_, rfl, ⟨_, _, _, _, _, _, ss, cs, true, bs, HR.out.1, HR.out.2.1, HR.out.2.2.1, HR.out.2.2.2, .inl ⟨rfl, rfl⟩⟩, hA⟩

theorem is_sound (w : World) (v0 v1 v2 v3 : Value) : Sem.run Tryz.prog (Instr.typeAssert (.iface 125 (.agg #[v0, v1, v2, v3])) 111 125 true) w = .ok (.tuple #[.agg #[v0, v1, v2, v3], .bool true]) w := by kernel_rfl
theorem lost_sound (w : World) (v : Value) : Sem.run Tryz.prog (Instr.typeAssert (.iface 123 v) 111 125 true) w = .ok (.tuple #[.agg #[.slice none 0 0, .slice none 0 0, .bool false, .slice none 0 0], .bool false]) w := by kernel_rfl
theorem is_lost (w : World) (v0 v1 v2 v3 v4 : Value) : Sem.run Tryz.prog (Instr.typeAssert (.iface 123 (.agg #[v0, v1, v2, v3, v4])) 111 123 true) w = .ok (.tuple #[.agg #[v0, v1, v2, v3, v4], .bool true]) w := by kernel_rfl
theorem bears_sound (w : World) (a0 a1 a3 : Option Addr) (n0 c0 n1 c1 n3 c3 : Nat) (f : Bool) (s : Int) : Calls Tryz.prog 103 #[.iface 125 (.agg #[.slice a0 n0 c0, .slice a1 n1 c1, .bool f, .slice a3 n3 c3]), .int .i64 s] w fun e w' => e = .returned (.bool true) /\ Below w.heap.size w w' := by
 have hA := new_below w (.cells #[.slice a0 n0 c0, .slice a1 n1 c1, .bool f, .slice a3 n3 c3] 125)
 have s1 := is_sound w (.slice a0 n0 c0) (.slice a1 n1 c1) (.bool f) (.slice a3 n3 c3)
 go_enter Tryz.func103, Tryz.ntmps103
 go_wp2
 go_ret
 exact ⟨rfl, hA⟩
theorem bears_lost (w : World) (a0 a1 a3 : Option Addr) (n0 c0 n1 c1 n3 c3 : Nat) (f : Bool) (b s : Int) : Calls Tryz.prog 103 #[.iface 123 (.agg #[.slice a0 n0 c0, .slice a1 n1 c1, .bool f, .slice a3 n3 c3, .int .i64 b]), .int .i64 s] w fun e w' => e = .returned (.bool (decide (s < b))) /\ Below w.heap.size w w' := by
 have hA := new_below w (.cells #[.slice a0 n0 c0, .slice a1 n1 c1, .bool f, .slice a3 n3 c3, .int .i64 b] 123)
 have s1 := lost_sound w (.agg #[.slice a0 n0 c0, .slice a1 n1 c1, .bool f, .slice a3 n3 c3, .int .i64 b])
 have s2 := is_lost w (.slice a0 n0 c0) (.slice a1 n1 c1) (.bool f) (.slice a3 n3 c3) (.int .i64 b)
 go_enter Tryz.func103, Tryz.ntmps103
 go_wp2
 go_ret
 exact ⟨rfl, hA⟩

theorem slicesIndex_any (w : World) (a : Option Addr) (len cap : Nat) (zs : List Int) (n : Int) (hz : zs.length = len) (hr : Reads .i64 w a zs) (hlen : len <= 2097152) :
 Calls Tryz.prog 130 #[.slice a len cap, .int .i64 n] w fun e w' => ∃ r : Int, e = .returned (.int .i64 r) /\ decide (0 <= r) = inL zs n /\ Same w w' := by
 go_enter Tryz.func130, Tryz.ntmps130
 go_wp2
 go_loop [8] (fun i => ∃ j : Nat, j <= len /\ i = .int .i64 j /\ inL (zs.take j) n = false) (fun i => len - (intOf i).toNat)
 case atStart => exact ⟨0, Nat.zero_le _, rfl, rfl⟩
 case round =>
  obtain ⟨j, hj, rfl, ht⟩ := hrel
  by_cases hlt : j < len
  . rcases hr.cases with h0 | ⟨b, off, rfl, hbl, hc⟩
    . omega
    have hc1 := hc j (by omega)
    have hd := inL_step (zs := zs) (n := n) (j := j) (by omega) rfl
    generalize zs.getD j 0 = x at hc1 hd
    have HT := hidden ht
    clear hc ht
    by_cases hx : x = n
    . have HD := hidden (hd.1 hx)
      subst hx
      clear hd
      go_wp2
      go_ret
      exact ⟨_, rfl, by rw [HD.out]; simp, Same.refl _⟩
    . have HD := hidden (hd.2 hx HT.out)
      have hx' : ¬ n = x := fun e => hx e.symm
      clear hd
      go_wp2
      go_round
      case rel => exact ⟨j + 1, by omega, by go_num, HD.out⟩
      case measure => simp [intOf]; omega
  . go_wp2
    go_ret
    have e : j = len := by omega
    subst e
    rw [List.take_of_length_le (by omega)] at ht
    exact ⟨_, rfl, by rw [ht]; rfl, Same.refl _⟩

theorem slicesContains_any (w : World) (a : Option Addr) (len cap : Nat) (zs : List Int) (n : Int) (hz : zs.length = len) (hr : Reads .i64 w a zs) (hlen : len <= 2097152) :
 Calls Tryz.prog 128 #[.slice a len cap, .int .i64 n] w fun e w' => e = .returned (.bool (inL zs n)) /\ Same w w' := by
 go_enter Tryz.func128, Tryz.ntmps128
 go_wp2_with fail
 refine (slicesIndex_any _ _ _ _ zs n hz hr hlen).mono ?_
 rintro e w1 ⟨r, rfl, hr1, hs1⟩
 go_wp2
 go_ret
 exact ⟨ret_bool (by rw [← hr1]), hs1⟩

theorem implReadSec_any (w : World) (E : TypeId) (a0 a1 a3 : Option Addr) (n0 c0 n1 c1 n3 c3 : Nat) (ss : List (List Int)) (cs : List (Int × List Int)) (f : Bool) (bs : List Int) (n : Int) (h0 : tIntSS.Rd w [.slice a0 n0 c0] ss) (h1 : (tWrS E).Rd w [.slice a1 n1 c1] cs) (h3 : tIntS.Rd w [.slice a3 n3 c3] bs) (hw : wtMem (ss, cs, f, bs) <= 2097152) :
 Calls Tryz.prog 127 #[.agg #[.slice a0 n0 c0, .slice a1 n1 c1, .bool f, .slice a3 n3 c3], .int .i64 n] w fun e w' => ∃ a' l c', e = .returned (.tuple #[.slice a' l c', .bool (readOk ss cs f bs n)]) /\ tIntS.Own w' w.heap.size w'.heap.size [.slice a' l c'] (readD ss cs f bs n) /\ Below w.heap.size w w' := by
 obtain ⟨hl0, _, hm0⟩ := row_length h0
 obtain ⟨hl1, _, hm1⟩ := row_length h1
 obtain ⟨hl3, _, hm3⟩ := row_length h3
 have hw3 : n3 <= 2097152 := by unfold wtMem at hw; simp only at hw; omega
 have hw0 : wtIntSS ss <= 2097152 := by unfold wtMem at hw; simp only at hw; omega
 have hw1 : wtWrS cs <= 2097152 := by unfold wtMem at hw; simp only at hw; omega
 have hn0 : n0 <= 2097152 := by unfold wtIntSS at hw0; omega
 have hn1 : n1 <= 2097152 := by unfold wtWrS at hw1; omega
 have hA : Below w.heap.size w (w.alloc (.cells #[.slice a0 n0 c0, .slice a1 n1 c1, .bool f, .slice a3 n3 c3] 69)) := (Below.refl _ _).alloc (Nat.le_refl _) _
 have xm := Box.new w 69 #[.slice a0 n0 c0, .slice a1 n1 c1, .bool f, .slice a3 n3 c3]
 have g0 := h0.below hA
 have g1 := h1.below hA
 have g3 := h3.below hA
 obtain ⟨q0, q1, q2, q3⟩ := xm.cells4
 have zm := xm.lt
 have fin : ∀ w1, Below w.heap.size w w1 -> tIntS.Own (w1.alloc (.cells #[] 3)) w.heap.size (w1.alloc (.cells #[] 3)).heap.size [.slice (some ⟨w1.heap.size, 0, none⟩) 0 0] [] /\ Below w.heap.size w (w1.alloc (.cells #[] 3)) := by
  intro w1 hb
  have hs := hb.size
  exact ⟨(own_ints (Owns.lit .i64 3 w1 [] 0 #[] rfl rfl (by unfold maxLen; omega))).widen hs (Nat.le_refl _), hb.alloc hb.size _⟩
 by_cases hM : memB ss cs bs = true
 . by_cases hf : f = true
   . subst hf
     have hro : readOk ss cs true bs n = false := by unfold readOk; rw [hM]; rfl
     have hrd : readD ss cs true bs n = [] := by unfold readD; rw [hro]; rfl
     rw [hro, hrd]
     clear hro hrd
     go_enter Tryz.func127, Tryz.ntmps127
     go_wp2_with fail
     generalize hW : w.alloc (.cells #[.slice a0 n0 c0, .slice a1 n1 c1, .bool true, .slice a3 n3 c3] 69) = W at hA g0 g1 g3 q0 q1 q2 q3 zm ⊢
     clear hW xm
     refine (implMemOk_any _ E _ _ _ _ _ _ _ _ _ ss cs true bs g0 g1 g3 hw).mono ?_
     rintro e w1 ⟨rfl, b1⟩
     have r0 := (b1.cell (p := ⟨w.heap.size, 0, none⟩) zm).trans q0
     have r1 := (b1.cell (p := ⟨w.heap.size, 1, none⟩) zm).trans q1
     have r2 := (b1.cell (p := ⟨w.heap.size, 2, none⟩) zm).trans q2
     have r3 := (b1.cell (p := ⟨w.heap.size, 3, none⟩) zm).trans q3
     have B1 := Below.andThen hA b1
     have z1 := Nat.lt_of_lt_of_le zm b1.size
     clear q0 q1 q2 q3
     go_wp2
     go_ret2
     exact ⟨_, _, _, rfl, (fin _ B1).1, (fin _ B1).2⟩
   . have hf : f = false := by simpa using hf
     subst hf
     by_cases hI : inB n 0 ((n0 : Int) - 1) = true
     . by_cases hB : inL bs n = true
       . have hro : readOk ss cs false bs n = false := by unfold readOk; rw [hM, hl0, hI, hB]; rfl
         have hrd : readD ss cs false bs n = [] := by unfold readD; rw [hro]; rfl
         rw [hro, hrd]
         clear hro hrd
         go_enter Tryz.func127, Tryz.ntmps127
         go_wp2_with fail
         generalize hW : w.alloc (.cells #[.slice a0 n0 c0, .slice a1 n1 c1, .bool false, .slice a3 n3 c3] 69) = W at hA g0 g1 g3 q0 q1 q2 q3 zm ⊢
         clear hW xm
         refine (implMemOk_any _ E _ _ _ _ _ _ _ _ _ ss cs false bs g0 g1 g3 hw).mono ?_
         rintro e w1 ⟨rfl, b1⟩
         have r0 := (b1.cell (p := ⟨w.heap.size, 0, none⟩) zm).trans q0
         have r1 := (b1.cell (p := ⟨w.heap.size, 1, none⟩) zm).trans q1
         have r2 := (b1.cell (p := ⟨w.heap.size, 2, none⟩) zm).trans q2
         have r3 := (b1.cell (p := ⟨w.heap.size, 3, none⟩) zm).trans q3
         have B1 := Below.andThen hA b1
         have z1 := Nat.lt_of_lt_of_le zm b1.size
         clear q0 q1 q2 q3
         go_wp2_with fail
         refine (hasSec_any _ _ _ _ _ _ _ _).mono ?_
         rintro e w2 ⟨rfl, b2⟩
         have t0 := (b2.cell (p := ⟨w.heap.size, 0, none⟩) z1).trans r0
         have t1 := (b2.cell (p := ⟨w.heap.size, 1, none⟩) z1).trans r1
         have t3 := (b2.cell (p := ⟨w.heap.size, 3, none⟩) z1).trans r3
         have B2 := Below.andThen B1 b2
         have z2 := Nat.lt_of_lt_of_le z1 b2.size
         have k3 := g3.below (Below.andThen b1 b2)
         clear r0 r1 r2 r3
         go_wp2_with fail
         refine (slicesContains_any _ _ _ _ bs _ hl3 (ints_rd k3).1 hw3).mono ?_
         rintro e w3 ⟨rfl, s3⟩
         have B3 := Below.andSame B2 s3
         go_wp2
         go_ret2
         exact ⟨_, _, _, rfl, (fin _ B3).1, (fin _ B3).2⟩
       . have hB : inL bs n = false := by simpa using hB
         have hro : readOk ss cs false bs n = true := by unfold readOk; rw [hM, hl0, hI, hB]; rfl
         have hrd : readD ss cs false bs n = (lastW cs n).getD (secAt ss n) := by unfold readD; rw [hro]; rfl
         rw [hro, hrd]
         clear hro hrd
         have hI' : 0 <= n /\ n <= (n0 : Int) - 1 := by unfold inB at hI; simpa using hI
         obtain ⟨k, rfl⟩ : ∃ k : Nat, n = (k : Int) := ⟨n.toNat, by omega⟩
         have hk : k < n0 := by omega
         go_enter Tryz.func127, Tryz.ntmps127
         go_wp2_with fail
         generalize hW : w.alloc (.cells #[.slice a0 n0 c0, .slice a1 n1 c1, .bool false, .slice a3 n3 c3] 69) = W at hA g0 g1 g3 q0 q1 q2 q3 zm ⊢
         clear hW xm
         refine (implMemOk_any _ E _ _ _ _ _ _ _ _ _ ss cs false bs g0 g1 g3 hw).mono ?_
         rintro e w1 ⟨rfl, b1⟩
         have r0 := (b1.cell (p := ⟨w.heap.size, 0, none⟩) zm).trans q0
         have r1 := (b1.cell (p := ⟨w.heap.size, 1, none⟩) zm).trans q1
         have r2 := (b1.cell (p := ⟨w.heap.size, 2, none⟩) zm).trans q2
         have r3 := (b1.cell (p := ⟨w.heap.size, 3, none⟩) zm).trans q3
         have B1 := Below.andThen hA b1
         have z1 := Nat.lt_of_lt_of_le zm b1.size
         clear q0 q1 q2 q3
         go_wp2_with fail
         refine (hasSec_any _ _ _ _ _ _ _ _).mono ?_
         rintro e w2 ⟨rfl, b2⟩
         have t0 := (b2.cell (p := ⟨w.heap.size, 0, none⟩) z1).trans r0
         have t1 := (b2.cell (p := ⟨w.heap.size, 1, none⟩) z1).trans r1
         have t3 := (b2.cell (p := ⟨w.heap.size, 3, none⟩) z1).trans r3
         have B2 := Below.andThen B1 b2
         have z2 := Nat.lt_of_lt_of_le z1 b2.size
         have k3 := g3.below (Below.andThen b1 b2)
         clear r0 r1 r2 r3
         go_wp2_with fail
         refine (slicesContains_any _ _ _ _ bs _ hl3 (ints_rd k3).1 hw3).mono ?_
         rintro e w3 ⟨rfl, s3⟩
         have B3 := Below.andSame B2 s3
         have m0 := (s3.cell _).trans t0
         have m1 := (s3.cell _).trans t1
         have b3 := Below.andSame (Below.andThen b1 b2) s3
         have y1 := g1.below b3
         rcases rows_at rfl g0 with h0' | ⟨b, off, rfl, hbl, hcs⟩
         . omega
         have hdj : ss[k]? = some (ss[k]'(by omega)) := List.getElem?_eq_getElem (by omega)
         generalize ss[k]'(by omega) = x at hdj
         have hil := inner_le hdj
         obtain ⟨v, hv, hrv⟩ := hcs k x hdj
         obtain ⟨av, cv, rfl⟩ := row_shape hrv
         have mv := (b3.cell (p := ⟨b, off + k, none⟩) hbl).trans hv
         have hrx := hrv.below b3
         have hgx : secAt ss (k : Int) = x := by unfold secAt; rw [Int.toNat_natCast, List.getD_eq_getElem?_getD, hdj]; rfl
         have HGX := hidden hgx
         have HX := hidden hrx
         have HB3 := hidden B3
         have i1 : (0 : Int) <= (k : Int) := by omega
         have i2 : (k : Int) < (n0 : Int) := by omega
         have zb3 : b < w3.heap.size := Nat.lt_of_lt_of_le hbl b3.size
         have z3 : w.heap.size < w3.heap.size := Nat.lt_of_lt_of_le zm b3.size
         have hwr := mem_writes hM
         have hk20 := mem_secs hM
         clear hcs hdj hv hrv hgx hrx B3 b3 t0 t1 t3 g0 g1 g3 k3 B1 B2 b1 b2 s3 hA fin hB hI hI' hM
         go_wp2_with fail
         refine (newest_any _ E _ _ _ cs y1 hn1 hwr).mono ?_
         rintro e w4 ⟨rfl, b4, D, hown, hL⟩
         have n0' := (b4.cell (p := ⟨w.heap.size, 0, none⟩) z3).trans m0
         have nv := (b4.cell (p := ⟨b, off + k, none⟩) zb3).trans mv
         have HB4 := hidden (Below.andThen HB3.out b4)
         have HX4 := hidden (HX.out.below b4)
         have HOW := hidden hown
         have HL := hidden hL
         have HKEY := hidden (key_int (q := (k : Int)) (by omega) (by omega))
         have B4L := hidden b4
         clear m0 m1 mv b4 hown hL y1 HB3 HX
         cases hlw : lastW cs (k : Int) with
         | none =>
          have HZ : Hid ((lastW cs (k : Int)).getD (secAt ss (k : Int)) = x) := by unfold Hid; rw [hlw, HGX.out]; rfl
          have HLW := hidden hlw
          clear hlw
          have hX : Below w4.heap.size w4 (w4.alloc (.cells #[.int .i64 0, .slice none 0 0] 94)) := (Below.refl _ _).alloc (Nat.le_refl _) _
          have z4 := HB4.out.size
          have z34 := B4L.out.size
          have p0 := (hX.cell (p := ⟨w.heap.size, 0, none⟩) (by simp only; omega)).trans n0'
          have pv := (hX.cell (p := ⟨b, off + k, none⟩) (by simp only; omega)).trans nv
          have HX5 := hidden (HX4.out.below hX)
          have HB5 := hidden (Below.andThen HB4.out hX)
          clear hX
          go_wp2_with (at_lookup; refine look_none rfl _ _ rfl w3.heap.size n1 D w3 cs (k : Int) rfl HOW.out rfl HKEY.out HL.out HLW.out ?_)
          refine (copyWords_any _ _ _ _ x HX5.out (by omega)).mono ?_
          rintro e w5 ⟨a5, c5, rfl, o5, b5⟩
          have hsz := HB5.out.size
          go_wp2
          go_ret2
          exact ⟨_, _, _, rfl, by rw [HZ.out]; exact o5.widen hsz (Nat.le_refl _), Below.andThen HB5.out b5⟩
         | some zs =>
          have HZ : Hid ((lastW cs (k : Int)).getD (secAt ss (k : Int)) = zs) := by unfold Hid; rw [hlw]; rfl
          have HLW := hidden hlw
          have hzl : zs.length <= 2097152 := lastW_le hw1 hlw
          clear hlw
          go_wp2_with (at_lookup; refine look_some rfl _ _ rfl w3.heap.size n1 D w3 cs (k : Int) zs rfl HOW.out rfl HKEY.out HL.out HLW.out ?_; intro a9 c9 h9; have H9 := hidden (h9.below B4L.out); clear h9)
          have hX : Below w4.heap.size w4 (w4.alloc (.cells #[.int .i64 (k : Int), .slice a9 zs.length c9] 94)) := (Below.refl _ _).alloc (Nat.le_refl _) _
          have HB5 := hidden (Below.andThen HB4.out hX)
          refine (copyWords_any _ _ _ _ zs (H9.out.below hX) (by omega)).mono ?_
          rintro e w5 ⟨a5, c5, rfl, o5, b5⟩
          have hsz := HB5.out.size
          go_wp2
          go_ret2
          exact ⟨_, _, _, rfl, by rw [HZ.out]; exact o5.widen hsz (Nat.le_refl _), Below.andThen HB5.out b5⟩
     . have hI : inB n 0 ((n0 : Int) - 1) = false := by simpa using hI
       have hro : readOk ss cs false bs n = false := by unfold readOk; rw [hM, hl0, hI]; rfl
       have hrd : readD ss cs false bs n = [] := by unfold readD; rw [hro]; rfl
       rw [hro, hrd]
       clear hro hrd
       go_enter Tryz.func127, Tryz.ntmps127
       go_wp2_with fail
       generalize hW : w.alloc (.cells #[.slice a0 n0 c0, .slice a1 n1 c1, .bool false, .slice a3 n3 c3] 69) = W at hA g0 g1 g3 q0 q1 q2 q3 zm ⊢
       clear hW xm
       refine (implMemOk_any _ E _ _ _ _ _ _ _ _ _ ss cs false bs g0 g1 g3 hw).mono ?_
       rintro e w1 ⟨rfl, b1⟩
       have r0 := (b1.cell (p := ⟨w.heap.size, 0, none⟩) zm).trans q0
       have r1 := (b1.cell (p := ⟨w.heap.size, 1, none⟩) zm).trans q1
       have r2 := (b1.cell (p := ⟨w.heap.size, 2, none⟩) zm).trans q2
       have r3 := (b1.cell (p := ⟨w.heap.size, 3, none⟩) zm).trans q3
       have B1 := Below.andThen hA b1
       have z1 := Nat.lt_of_lt_of_le zm b1.size
       clear q0 q1 q2 q3
       go_wp2_with fail
       refine (hasSec_any _ _ _ _ _ _ _ _).mono ?_
       rintro e w2 ⟨rfl, b2⟩
       have t0 := (b2.cell (p := ⟨w.heap.size, 0, none⟩) z1).trans r0
       have t1 := (b2.cell (p := ⟨w.heap.size, 1, none⟩) z1).trans r1
       have t3 := (b2.cell (p := ⟨w.heap.size, 3, none⟩) z1).trans r3
       have B2 := Below.andThen B1 b2
       have z2 := Nat.lt_of_lt_of_le z1 b2.size
       have k3 := g3.below (Below.andThen b1 b2)
       clear r0 r1 r2 r3
       go_wp2
       go_ret2
       exact ⟨_, _, _, rfl, (fin _ B2).1, (fin _ B2).2⟩
 . have hM : memB ss cs bs = false := by simpa using hM
   have hro : readOk ss cs f bs n = false := by unfold readOk; rw [hM]; rfl
   have hrd : readD ss cs f bs n = [] := by unfold readD; rw [hro]; rfl
   rw [hro, hrd]
   clear hro hrd
   go_enter Tryz.func127, Tryz.ntmps127
   go_wp2_with fail
   generalize hW : w.alloc (.cells #[.slice a0 n0 c0, .slice a1 n1 c1, .bool f, .slice a3 n3 c3] 69) = W at hA g0 g1 g3 q0 q1 q2 q3 zm ⊢
   clear hW xm
   refine (implMemOk_any _ E _ _ _ _ _ _ _ _ _ ss cs f bs g0 g1 g3 hw).mono ?_
   rintro e w1 ⟨rfl, b1⟩
   have r0 := (b1.cell (p := ⟨w.heap.size, 0, none⟩) zm).trans q0
   have r1 := (b1.cell (p := ⟨w.heap.size, 1, none⟩) zm).trans q1
   have r2 := (b1.cell (p := ⟨w.heap.size, 2, none⟩) zm).trans q2
   have r3 := (b1.cell (p := ⟨w.heap.size, 3, none⟩) zm).trans q3
   have B1 := Below.andThen hA b1
   have z1 := Nat.lt_of_lt_of_le zm b1.size
   clear q0 q1 q2 q3
   go_wp2
   go_ret2
   exact ⟨_, _, _, rfl, (fin _ B1).1, (fin _ B1).2⟩

theorem read_sound (w : World) (E : TypeId) (a0 a1 a3 : Option Addr) (n0 c0 n1 c1 n3 c3 : Nat) (ss : List (List Int)) (cs : List (Int × List Int)) (f : Bool) (bs : List Int) (n : Int) (h0 : tIntSS.Rd w [.slice a0 n0 c0] ss) (h1 : (tWrS E).Rd w [.slice a1 n1 c1] cs) (h3 : tIntS.Rd w [.slice a3 n3 c3] bs) (hw : wtMem (ss, cs, f, bs) <= 2097152) :
 Calls Tryz.prog 131 #[.agg #[.slice a0 n0 c0, .slice a1 n1 c1, .bool f, .slice a3 n3 c3], .int .i64 n] w fun e w' => ∃ a' l c', e = .returned (.tuple #[.slice a' l c', .bool (readOk ss cs f bs n)]) /\ tIntS.Own w' w.heap.size w'.heap.size [.slice a' l c'] (readD ss cs f bs n) /\ Below w.heap.size w w' := by
 have hA := new_below w (.cells #[.slice a0 n0 c0, .slice a1 n1 c1, .bool f, .slice a3 n3 c3] 125)
 have X := Box.new w 125 #[.slice a0 n0 c0, .slice a1 n1 c1, .bool f, .slice a3 n3 c3]
 have k0 := X.cell 0
 have k1 := X.cell 1
 have k2 := X.cell 2
 have k3 := X.cell 3
 have r0 := h0.below hA
 have r1 := h1.below hA
 have r3 := h3.below hA
 have zA := hA.size
 go_enter Tryz.func131, Tryz.ntmps131
 go_wp2_with fail
 refine (implReadSec_any _ E _ _ _ _ _ _ _ _ _ ss cs f bs n r0 r1 r3 hw).mono ?_
 rintro e w1 ⟨a', l, c', rfl, o1, b1⟩
 have HO := hidden (o1.widen (lo' := w.heap.size) zA (Nat.le_refl _))
 have HB := hidden (Below.andThen hA b1)
 clear o1 b1 k0 k1 k2 k3 r0 r1 r3 X
 go_wp2
 refine bodyPost_ret (v := .tuple #[.slice a' l c', .bool (readOk ss cs f bs n)]) (by simp [results, Tryz.results131, go_sem]) rfl ?_
 exact ⟨_, _, _, rfl, HO.out, HB.out⟩
theorem read_lost (w : World) (E : TypeId) (a0 a1 a3 : Option Addr) (n0 c0 n1 c1 n3 c3 : Nat) (ss : List (List Int)) (cs : List (Int × List Int)) (f : Bool) (bs : List Int) (bu : Int) (n : Int) (h0 : tIntSS.Rd w [.slice a0 n0 c0] ss) (h1 : (tWrS E).Rd w [.slice a1 n1 c1] cs) (h3 : tIntS.Rd w [.slice a3 n3 c3] bs) (hw : wtMem (ss, cs, f, bs) <= 2097152) :
 Calls Tryz.prog 126 #[.agg #[.slice a0 n0 c0, .slice a1 n1 c1, .bool f, .slice a3 n3 c3, .int .i64 bu], .int .i64 n] w fun e w' => ∃ a' l c', e = .returned (.tuple #[.slice a' l c', .bool (readOk ss cs f bs n)]) /\ tIntS.Own w' w.heap.size w'.heap.size [.slice a' l c'] (readD ss cs f bs n) /\ Below w.heap.size w w' := by
 have hA := new_below w (.cells #[.slice a0 n0 c0, .slice a1 n1 c1, .bool f, .slice a3 n3 c3, .int .i64 bu] 123)
 have X := Box.new w 123 #[.slice a0 n0 c0, .slice a1 n1 c1, .bool f, .slice a3 n3 c3, .int .i64 bu]
 have k0 := X.cell 0
 have k1 := X.cell 1
 have k2 := X.cell 2
 have k3 := X.cell 3
 have r0 := h0.below hA
 have r1 := h1.below hA
 have r3 := h3.below hA
 have zA := hA.size
 go_enter Tryz.func126, Tryz.ntmps126
 go_wp2_with fail
 refine (implReadSec_any _ E _ _ _ _ _ _ _ _ _ ss cs f bs n r0 r1 r3 hw).mono ?_
 rintro e w1 ⟨a', l, c', rfl, o1, b1⟩
 have HO := hidden (o1.widen (lo' := w.heap.size) zA (Nat.le_refl _))
 have HB := hidden (Below.andThen hA b1)
 clear o1 b1 k0 k1 k2 k3 r0 r1 r3 X
 go_wp2
 refine bodyPost_ret (v := .tuple #[.slice a' l c', .bool (readOk ss cs f bs n)]) (by simp [results, Tryz.results126, go_sem]) rfl ?_
 exact ⟨_, _, _, rfl, HO.out, HB.out⟩
theorem read_failed (w : World) (n : Int) : Calls Tryz.prog 125 #[.agg #[], .int .i64 n] w fun e w' => ∃ a' c', e = .returned (.tuple #[.slice a' 0 c', .bool false]) /\ Below w.heap.size w w' := by
 have hA := (new_below w (.cells #[] 121)).alloc (by simp) (.cells #[] 3)
 go_enter Tryz.func125, Tryz.ntmps125
 go_wp2
 refine bodyPost_ret (v := .tuple #[.slice (some ⟨w.heap.size + 1, 0, none⟩) 0 0, .bool false]) (by simp [results, Tryz.results125, go_sem]) rfl ?_
 exact ⟨_, _, rfl, hA⟩

theorem live_at6 {x : ArrN} {ms : List MemD} {j : Nat} {s : Int} {d : MemD} (h : ms[j]? = some d) : liveB x ms (j : Int) s = (!d.2.2.1 && (!decide ((j : Int) = x.lost) || decide (s < x.built))) := by
 have hj := (List.getElem?_eq_some_iff.1 h).1
 unfold liveB
 rw [show inB (j : Int) 0 ((ms.length : Int) - 1) = true from inB_iff.2 (by omega), Int.toNat_natCast, List.getD_eq_getElem?_getD, h]
 rfl
theorem memD_at6 {ms : List MemD} {j : Nat} {d : MemD} (h : ms[j]? = some d) : memD ms (j : Int) = d := by unfold memD; rw [Int.toNat_natCast, List.getD_eq_getElem?_getD, h]; rfl
theorem has_at6 {x : ArrN} {ms : List MemD} {j : Nat} {s : Int} {ss : List (List Int)} {cs : List (Int × List Int)} {f : Bool} {bs : List Int} (h : ms[j]? = some (ss, cs, f, bs)) : has6 x ms (j : Int) s = (liveB x ms (j : Int) s && (readOk ss cs f bs (dataN s) && decide ((readD ss cs f bs (dataN s)).length = 1))) /\ (has6 x ms (j : Int) s = true -> word6 x ms (j : Int) s = (readD ss cs f bs (dataN s)).getD 0 0) := by
 have hm := memD_at6 h
 have hsec : sec6 ms (j : Int) s = readD ss cs f bs (dataN s) := by unfold sec6; rw [hm]
 refine ⟨by unfold has6; rw [hsec, hm], fun h => by rw [word6_of h, hsec]⟩

theorem wordOn_failed (w : World) (x : ArrN) (ms : List MemD) (j : Nat) (s : Int) (hd : has6 x ms (j : Int) s = false) :
 Calls Tryz.prog 89 #[.iface 121 (.agg #[]), .int .i64 s] w fun e w' => e = .returned (.tuple #[.int .i64 (word6 x ms (j : Int) s), .bool (has6 x ms (j : Int) s)]) /\ Below w.heap.size w w' := by
 have na : ∀ w, Sem.run Tryz.prog (nilAhead (247 + 1) 121 (.agg #[]) "loop.example/g00398/impl.read") w = .ok (some false) w := fun w => by kernel_rfl
 have HD := hidden hd
 clear hd
 go_enter Tryz.func89, Tryz.ntmps89
 go_wp2_with fail
 refine wp_region_held_drew (S := fun w' => Below w.heap.size w w') (by kernel_rfl) ?_ (fun hHeld => ?_)
 . exact (Below.refl _ _).drew
 refine held_take (i := 0) (v := ?_) rfl (by kernel_rfl) (by kernel_rfl) (by kernel_rfl) (fun _ _ _ h => h) (by kernel_rfl) ?_ hHeld ?_
 rotate_left 1
 . (intro w hSw; (try dsimp only at hSw); go_split_ands; go_simp; first | done | with_reducible rfl)
 simp only [Act.put, List.setIfInBounds_toArray, List.set_cons_zero, List.set_cons_succ]
 refine held_take (i := 1) (v := ?_) rfl (by kernel_rfl) (by kernel_rfl) (by kernel_rfl) (fun _ _ _ h => h) (by kernel_rfl) ?_ hHeld ?_
 rotate_left 1
 . (intro w hSw; (try dsimp only at hSw); go_split_ands; go_simp; first | done | with_reducible rfl)
 simp only [Act.put, List.setIfInBounds_toArray, List.set_cons_zero, List.set_cons_succ]
 refine held_take (i := 3) (v := ?_) rfl (by kernel_rfl) (by kernel_rfl) (by kernel_rfl) (fun _ _ _ h => h) (by kernel_rfl) ?_ hHeld ?_
 rotate_left 1
 . (intro w hSw; (try dsimp only at hSw); go_split_ands; go_simp; first | done | with_reducible rfl)
 simp only [Act.put, List.setIfInBounds_toArray, List.set_cons_zero, List.set_cons_succ]
 refine held_take (i := 4) (v := ?_) rfl (by kernel_rfl) (by kernel_rfl) (by kernel_rfl) (fun _ _ _ h => h) (by kernel_rfl) ?_ hHeld ?_
 rotate_left 1
 . (intro w hSw; (try dsimp only at hSw); go_split_ands; go_simp; first | done | with_reducible rfl)
 simp only [Act.put, List.setIfInBounds_toArray, List.set_cons_zero, List.set_cons_succ]
 refine held_take (i := 5) (v := ?_) rfl (by kernel_rfl) (by kernel_rfl) (by kernel_rfl) (fun _ _ _ h => h) (by kernel_rfl) ?_ hHeld ?_
 rotate_left 1
 . (intro w hSw; (try dsimp only at hSw); go_split_ands; go_simp; first | done | with_reducible rfl)
 simp only [Act.put, List.setIfInBounds_toArray, List.set_cons_zero, List.set_cons_succ]
 refine held_one (i := 2) (by kernel_rfl) rfl (by kernel_rfl) (fun K hK => ?_)
 go_simp
 refine (implDataAt_any _ _).mono ?_
 rintro e w1 ⟨rfl, h1⟩
 subst h1
 go_wp2_with fail
 clear hHeld
 refine hK.out _ _ ?_ (fun hHeld => ?_)
 . exact (Below.refl _ _).drew
 clear hK K
 refine held_one (i := 6) (by kernel_rfl) rfl (by kernel_rfl) (fun K hK => ?_)
 go_simp
 refine (read_failed _ _).mono ?_
 rintro e w2 ⟨a', c', rfl, b2⟩
 have b2' : Below w.heap.size w w2 := (Below.refl w.heap.size w).drew.trans b2
 clear b2
 go_wp2_with fail
 clear hHeld
 refine hK.out _ _ ?_ (fun hHeld => ?_)
 . exact b2'
 clear hK K
 refine held_take (i := 7) (v := ?_) rfl (by kernel_rfl) (by kernel_rfl) (by kernel_rfl) (fun _ _ _ h => h) (by kernel_rfl) ?_ hHeld ?_
 rotate_left 1
 . (intro w hSw; (try dsimp only at hSw); go_split_ands; go_simp; first | done | with_reducible rfl)
 simp only [Act.put, List.setIfInBounds_toArray, List.set_cons_zero, List.set_cons_succ]
 refine held_take (i := 8) (v := ?_) rfl (by kernel_rfl) (by kernel_rfl) (by kernel_rfl) (fun _ _ _ h => h) (by kernel_rfl) ?_ hHeld ?_
 rotate_left 1
 . (intro w hSw; (try dsimp only at hSw); go_split_ands; go_simp; first | done | with_reducible rfl)
 simp only [Act.put, List.setIfInBounds_toArray, List.set_cons_zero, List.set_cons_succ]
 refine held_take (i := 9) (v := ?_) rfl (by kernel_rfl) (by kernel_rfl) (by kernel_rfl) (fun _ _ _ h => h) (by kernel_rfl) ?_ hHeld ?_
 rotate_left 1
 . (intro w hSw; (try dsimp only at hSw); go_split_ands; go_simp; first | done | with_reducible rfl)
 simp only [Act.put, List.setIfInBounds_toArray, List.set_cons_zero, List.set_cons_succ]
 refine held_take (i := 10) (v := ?_) rfl (by kernel_rfl) (by kernel_rfl) (by kernel_rfl) (fun _ _ _ h => h) (by kernel_rfl) ?_ hHeld ?_
 rotate_left 1
 . (intro w hSw; (try dsimp only at hSw); go_split_ands; go_simp; first | done | with_reducible rfl)
 simp only [Act.put, List.setIfInBounds_toArray, List.set_cons_zero, List.set_cons_succ]
 refine held_take (i := 11) (v := ?_) rfl (by kernel_rfl) (by kernel_rfl) (by kernel_rfl) (fun _ _ _ h => h) (by kernel_rfl) ?_ hHeld ?_
 rotate_left 1
 . (intro w hSw; (try dsimp only at hSw); go_split_ands; go_simp; first | done | with_reducible rfl)
 simp only [Act.put, List.setIfInBounds_toArray, List.set_cons_zero, List.set_cons_succ]
 refine wpAnyH_done (by kernel_rfl) ?_ _
 clear hHeld
 have HB := hidden b2'
 go_wp2
 refine bodyPost_ret (v := .tuple #[.int .i64 0, .bool false]) (by simp [results, Tryz.results89, go_sem]) rfl ?_
 exact ⟨ret_word HD.out, HB.out⟩

theorem wordOn_lost (w : World) (E : TypeId) (x : ArrN) (ms : List MemD) (j : Nat) (s : Int) (a0 a1 a3 : Option Addr) (c0 c1 c3 : Nat) (ss : List (List Int)) (cs : List (Int × List Int)) (bs : List Int) (h0 : tIntSS.Rd w [.slice a0 ss.length c0] ss) (h1 : (tWrS E).Rd w [.slice a1 cs.length c1] cs) (h3 : tIntS.Rd w [.slice a3 bs.length c3] bs) (hw : wtMem (ss, cs, false, bs) <= 2097152) (hd : has6 x ms (j : Int) s = (decide (s < x.built) && (readOk ss cs false bs (dataN s) && decide ((readD ss cs false bs (dataN s)).length = 1)))) (hv : has6 x ms (j : Int) s = true -> word6 x ms (j : Int) s = (readD ss cs false bs (dataN s)).getD 0 0) :
 Calls Tryz.prog 89 #[.iface 123 (.agg #[.slice a0 ss.length c0, .slice a1 cs.length c1, .bool false, .slice a3 bs.length c3, .int .i64 x.built]), .int .i64 s] w fun e w' => e = .returned (.tuple #[.int .i64 (word6 x ms (j : Int) s), .bool (has6 x ms (j : Int) s)]) /\ Below w.heap.size w w' := by
 have na : ∀ w, Sem.run Tryz.prog (nilAhead (247 + 1) 123 (.agg #[.slice a0 ss.length c0, .slice a1 cs.length c1, .bool false, .slice a3 bs.length c3, .int .i64 x.built]) "loop.example/g00398/impl.read") w = .ok (some false) w := fun w => by kernel_rfl
 have HD := hidden hd
 have HV := hidden hv
 clear hd hv
 go_enter Tryz.func89, Tryz.ntmps89
 go_wp2_with fail
 refine wp_region_held_drew (S := fun w' => Below w.heap.size w w') (by kernel_rfl) ?_ (fun hHeld => ?_)
 . exact (Below.refl _ _).drew
 refine held_take (i := 0) (v := ?_) rfl (by kernel_rfl) (by kernel_rfl) (by kernel_rfl) (fun _ _ _ h => h) (by kernel_rfl) ?_ hHeld ?_
 rotate_left 1
 . (intro w hSw; (try dsimp only at hSw); go_split_ands; go_simp; first | done | with_reducible rfl)
 simp only [Act.put, List.setIfInBounds_toArray, List.set_cons_zero, List.set_cons_succ]
 refine held_take (i := 1) (v := ?_) rfl (by kernel_rfl) (by kernel_rfl) (by kernel_rfl) (fun _ _ _ h => h) (by kernel_rfl) ?_ hHeld ?_
 rotate_left 1
 . (intro w hSw; (try dsimp only at hSw); go_split_ands; go_simp; first | done | with_reducible rfl)
 simp only [Act.put, List.setIfInBounds_toArray, List.set_cons_zero, List.set_cons_succ]
 refine held_take (i := 3) (v := ?_) rfl (by kernel_rfl) (by kernel_rfl) (by kernel_rfl) (fun _ _ _ h => h) (by kernel_rfl) ?_ hHeld ?_
 rotate_left 1
 . (intro w hSw; (try dsimp only at hSw); go_split_ands; go_simp; first | done | with_reducible rfl)
 simp only [Act.put, List.setIfInBounds_toArray, List.set_cons_zero, List.set_cons_succ]
 refine held_take (i := 4) (v := ?_) rfl (by kernel_rfl) (by kernel_rfl) (by kernel_rfl) (fun _ _ _ h => h) (by kernel_rfl) ?_ hHeld ?_
 rotate_left 1
 . (intro w hSw; (try dsimp only at hSw); go_split_ands; go_simp; first | done | with_reducible rfl)
 simp only [Act.put, List.setIfInBounds_toArray, List.set_cons_zero, List.set_cons_succ]
 refine held_take (i := 5) (v := ?_) rfl (by kernel_rfl) (by kernel_rfl) (by kernel_rfl) (fun _ _ _ h => h) (by kernel_rfl) ?_ hHeld ?_
 rotate_left 1
 . (intro w hSw; (try dsimp only at hSw); go_split_ands; go_simp; first | done | with_reducible rfl)
 simp only [Act.put, List.setIfInBounds_toArray, List.set_cons_zero, List.set_cons_succ]
 refine held_one (i := 2) (by kernel_rfl) rfl (by kernel_rfl) (fun K hK => ?_)
 go_simp
 refine (implDataAt_any _ _).mono ?_
 rintro e w1 ⟨rfl, h1⟩
 subst h1
 go_wp2_with fail
 clear hHeld
 refine hK.out _ _ ?_ (fun hHeld => ?_)
 . exact (Below.refl _ _).drew
 clear hK K
 refine held_one (i := 6) (by kernel_rfl) rfl (by kernel_rfl) (fun K hK => ?_)
 go_simp
 refine (read_lost _ E _ _ _ _ _ _ _ _ _ ss cs false bs _ _ h0.drew h1.drew h3.drew hw).mono ?_
 rintro e w2 ⟨a', l, c', rfl, o2, b2⟩
 have b2' : Below w.heap.size w w2 := (Below.refl w.heap.size w).drew.trans b2
 clear b2
 go_wp2_with fail
 clear hHeld
 refine hK.out _ _ ?_ (fun hHeld => ?_)
 . exact b2'
 clear hK K
 refine held_take (i := 7) (v := ?_) rfl (by kernel_rfl) (by kernel_rfl) (by kernel_rfl) (fun _ _ _ h => h) (by kernel_rfl) ?_ hHeld ?_
 rotate_left 1
 . (intro w hSw; (try dsimp only at hSw); go_split_ands; go_simp; first | done | with_reducible rfl)
 simp only [Act.put, List.setIfInBounds_toArray, List.set_cons_zero, List.set_cons_succ]
 refine held_take (i := 8) (v := ?_) rfl (by kernel_rfl) (by kernel_rfl) (by kernel_rfl) (fun _ _ _ h => h) (by kernel_rfl) ?_ hHeld ?_
 rotate_left 1
 . (intro w hSw; (try dsimp only at hSw); go_split_ands; go_simp; first | done | with_reducible rfl)
 simp only [Act.put, List.setIfInBounds_toArray, List.set_cons_zero, List.set_cons_succ]
 refine held_take (i := 9) (v := ?_) rfl (by kernel_rfl) (by kernel_rfl) (by kernel_rfl) (fun _ _ _ h => h) (by kernel_rfl) ?_ hHeld ?_
 rotate_left 1
 . (intro w hSw; (try dsimp only at hSw); go_split_ands; go_simp; first | done | with_reducible rfl)
 simp only [Act.put, List.setIfInBounds_toArray, List.set_cons_zero, List.set_cons_succ]
 refine held_take (i := 10) (v := ?_) rfl (by kernel_rfl) (by kernel_rfl) (by kernel_rfl) (fun _ _ _ h => h) (by kernel_rfl) ?_ hHeld ?_
 rotate_left 1
 . (intro w hSw; (try dsimp only at hSw); go_split_ands; go_simp; first | done | with_reducible rfl)
 simp only [Act.put, List.setIfInBounds_toArray, List.set_cons_zero, List.set_cons_succ]
 refine held_take (i := 11) (v := ?_) rfl (by kernel_rfl) (by kernel_rfl) (by kernel_rfl) (fun _ _ _ h => h) (by kernel_rfl) ?_ hHeld ?_
 rotate_left 1
 . (intro w hSw; (try dsimp only at hSw); go_split_ands; go_simp; first | done | with_reducible rfl)
 simp only [Act.put, List.setIfInBounds_toArray, List.set_cons_zero, List.set_cons_succ]
 refine wpAnyH_done (by kernel_rfl) ?_ _
 clear hHeld
 have HO := hidden o2
 clear o2
 cases hok : readOk ss cs false bs (dataN s)
 . have HF : Hid (has6 x ms (j : Int) s = false) := by unfold Hid; rw [HD.out, hok]; simp
   go_wp2
   refine bodyPost_ret (v := .tuple #[.int .i64 0, .bool false]) (by simp [results, Tryz.results89, go_sem]) rfl ?_
   exact ⟨ret_word HF.out, b2'⟩
 . go_wp2_with fail
   refine (bears_lost _ _ _ _ _ _ _ _ _ _ _ _ _).mono ?_
   rintro e w3 ⟨rfl, b3⟩
   have B3 := hidden (Below.andThen b2' b3)
   have o3 := HO.out.below b3
   clear b3
   obtain ⟨hr, hln, _⟩ := ints_rd o3.rd
   cases hbu : decide (s < x.built)
   . have HF : Hid (has6 x ms (j : Int) s = false) := by unfold Hid; rw [HD.out, hbu]; rfl
     go_wp2
     refine bodyPost_ret (v := .tuple #[.int .i64 0, .bool false]) (by simp [results, Tryz.results89, go_sem]) rfl ?_
     exact ⟨ret_word HF.out, B3.out⟩
   . skip
     have HD2 : Hid (has6 x ms (j : Int) s = decide ((readD ss cs false bs (dataN s)).length = 1)) := by unfold Hid; rw [HD.out, hok, hbu]; simp
     generalize hps : readD ss cs false bs (dataN s) = ps at hr hln HD2 HV
     have HPS := hidden hps
     clear hps
     by_cases h1 : l = 1
     . subst h1
       have hT : has6 x ms (j : Int) s = true := by rw [HD2.out, hln]; rfl
       have hV := HV.out hT
       obtain ⟨y, rfl⟩ : ∃ y, ps = [y] := by match ps, hln with | [y], _ => exact ⟨y, rfl⟩
       rcases hr with h0' | ⟨b, off, rfl, hbl, hrr⟩
       . simp at h0'
       have hc : w3.cell? ⟨b, off, none⟩ = some (.int .i64 y) := hrr 0 (by simp)
       go_wp2
       refine bodyPost_ret (v := .tuple #[.int .i64 y, .bool true]) (by simp [results, Tryz.results89, go_sem]) rfl ?_
       exact ⟨by rw [hV, hT]; rfl, B3.out⟩
     . have HF : Hid (has6 x ms (j : Int) s = false) := by unfold Hid; rw [HD2.out, hln]; simpa using h1
       have hl1 : ((l : Int) == 1) = false := by simp; omega
       have hl2 : ((l : Int) != 1) = true := by simp; omega
       go_wp2
       refine bodyPost_ret (v := .tuple #[.int .i64 0, .bool false]) (by simp [results, Tryz.results89, go_sem]) rfl ?_
       exact ⟨ret_word HF.out, B3.out⟩

theorem wordOn_sound (w : World) (E : TypeId) (x : ArrN) (ms : List MemD) (j : Nat) (s : Int) (a0 a1 a3 : Option Addr) (c0 c1 c3 : Nat) (ss : List (List Int)) (cs : List (Int × List Int)) (bs : List Int) (h0 : tIntSS.Rd w [.slice a0 ss.length c0] ss) (h1 : (tWrS E).Rd w [.slice a1 cs.length c1] cs) (h3 : tIntS.Rd w [.slice a3 bs.length c3] bs) (hw : wtMem (ss, cs, false, bs) <= 2097152) (hd : has6 x ms (j : Int) s = (true && (readOk ss cs false bs (dataN s) && decide ((readD ss cs false bs (dataN s)).length = 1)))) (hv : has6 x ms (j : Int) s = true -> word6 x ms (j : Int) s = (readD ss cs false bs (dataN s)).getD 0 0) :
 Calls Tryz.prog 89 #[.iface 125 (.agg #[.slice a0 ss.length c0, .slice a1 cs.length c1, .bool false, .slice a3 bs.length c3]), .int .i64 s] w fun e w' => e = .returned (.tuple #[.int .i64 (word6 x ms (j : Int) s), .bool (has6 x ms (j : Int) s)]) /\ Below w.heap.size w w' := by
 have na : ∀ w, Sem.run Tryz.prog (nilAhead (247 + 1) 125 (.agg #[.slice a0 ss.length c0, .slice a1 cs.length c1, .bool false, .slice a3 bs.length c3]) "loop.example/g00398/impl.read") w = .ok (some false) w := fun w => by kernel_rfl
 have HD := hidden hd
 have HV := hidden hv
 clear hd hv
 go_enter Tryz.func89, Tryz.ntmps89
 go_wp2_with fail
 refine wp_region_held_drew (S := fun w' => Below w.heap.size w w') (by kernel_rfl) ?_ (fun hHeld => ?_)
 . exact (Below.refl _ _).drew
 refine held_take (i := 0) (v := ?_) rfl (by kernel_rfl) (by kernel_rfl) (by kernel_rfl) (fun _ _ _ h => h) (by kernel_rfl) ?_ hHeld ?_
 rotate_left 1
 . (intro w hSw; (try dsimp only at hSw); go_split_ands; go_simp; first | done | with_reducible rfl)
 simp only [Act.put, List.setIfInBounds_toArray, List.set_cons_zero, List.set_cons_succ]
 refine held_take (i := 1) (v := ?_) rfl (by kernel_rfl) (by kernel_rfl) (by kernel_rfl) (fun _ _ _ h => h) (by kernel_rfl) ?_ hHeld ?_
 rotate_left 1
 . (intro w hSw; (try dsimp only at hSw); go_split_ands; go_simp; first | done | with_reducible rfl)
 simp only [Act.put, List.setIfInBounds_toArray, List.set_cons_zero, List.set_cons_succ]
 refine held_take (i := 3) (v := ?_) rfl (by kernel_rfl) (by kernel_rfl) (by kernel_rfl) (fun _ _ _ h => h) (by kernel_rfl) ?_ hHeld ?_
 rotate_left 1
 . (intro w hSw; (try dsimp only at hSw); go_split_ands; go_simp; first | done | with_reducible rfl)
 simp only [Act.put, List.setIfInBounds_toArray, List.set_cons_zero, List.set_cons_succ]
 refine held_take (i := 4) (v := ?_) rfl (by kernel_rfl) (by kernel_rfl) (by kernel_rfl) (fun _ _ _ h => h) (by kernel_rfl) ?_ hHeld ?_
 rotate_left 1
 . (intro w hSw; (try dsimp only at hSw); go_split_ands; go_simp; first | done | with_reducible rfl)
 simp only [Act.put, List.setIfInBounds_toArray, List.set_cons_zero, List.set_cons_succ]
 refine held_take (i := 5) (v := ?_) rfl (by kernel_rfl) (by kernel_rfl) (by kernel_rfl) (fun _ _ _ h => h) (by kernel_rfl) ?_ hHeld ?_
 rotate_left 1
 . (intro w hSw; (try dsimp only at hSw); go_split_ands; go_simp; first | done | with_reducible rfl)
 simp only [Act.put, List.setIfInBounds_toArray, List.set_cons_zero, List.set_cons_succ]
 refine held_one (i := 2) (by kernel_rfl) rfl (by kernel_rfl) (fun K hK => ?_)
 go_simp
 refine (implDataAt_any _ _).mono ?_
 rintro e w1 ⟨rfl, h1⟩
 subst h1
 go_wp2_with fail
 clear hHeld
 refine hK.out _ _ ?_ (fun hHeld => ?_)
 . exact (Below.refl _ _).drew
 clear hK K
 refine held_one (i := 6) (by kernel_rfl) rfl (by kernel_rfl) (fun K hK => ?_)
 go_simp
 refine (read_sound _ E _ _ _ _ _ _ _ _ _ ss cs false bs _ h0.drew h1.drew h3.drew hw).mono ?_
 rintro e w2 ⟨a', l, c', rfl, o2, b2⟩
 have b2' : Below w.heap.size w w2 := (Below.refl w.heap.size w).drew.trans b2
 clear b2
 go_wp2_with fail
 clear hHeld
 refine hK.out _ _ ?_ (fun hHeld => ?_)
 . exact b2'
 clear hK K
 refine held_take (i := 7) (v := ?_) rfl (by kernel_rfl) (by kernel_rfl) (by kernel_rfl) (fun _ _ _ h => h) (by kernel_rfl) ?_ hHeld ?_
 rotate_left 1
 . (intro w hSw; (try dsimp only at hSw); go_split_ands; go_simp; first | done | with_reducible rfl)
 simp only [Act.put, List.setIfInBounds_toArray, List.set_cons_zero, List.set_cons_succ]
 refine held_take (i := 8) (v := ?_) rfl (by kernel_rfl) (by kernel_rfl) (by kernel_rfl) (fun _ _ _ h => h) (by kernel_rfl) ?_ hHeld ?_
 rotate_left 1
 . (intro w hSw; (try dsimp only at hSw); go_split_ands; go_simp; first | done | with_reducible rfl)
 simp only [Act.put, List.setIfInBounds_toArray, List.set_cons_zero, List.set_cons_succ]
 refine held_take (i := 9) (v := ?_) rfl (by kernel_rfl) (by kernel_rfl) (by kernel_rfl) (fun _ _ _ h => h) (by kernel_rfl) ?_ hHeld ?_
 rotate_left 1
 . (intro w hSw; (try dsimp only at hSw); go_split_ands; go_simp; first | done | with_reducible rfl)
 simp only [Act.put, List.setIfInBounds_toArray, List.set_cons_zero, List.set_cons_succ]
 refine held_take (i := 10) (v := ?_) rfl (by kernel_rfl) (by kernel_rfl) (by kernel_rfl) (fun _ _ _ h => h) (by kernel_rfl) ?_ hHeld ?_
 rotate_left 1
 . (intro w hSw; (try dsimp only at hSw); go_split_ands; go_simp; first | done | with_reducible rfl)
 simp only [Act.put, List.setIfInBounds_toArray, List.set_cons_zero, List.set_cons_succ]
 refine held_take (i := 11) (v := ?_) rfl (by kernel_rfl) (by kernel_rfl) (by kernel_rfl) (fun _ _ _ h => h) (by kernel_rfl) ?_ hHeld ?_
 rotate_left 1
 . (intro w hSw; (try dsimp only at hSw); go_split_ands; go_simp; first | done | with_reducible rfl)
 simp only [Act.put, List.setIfInBounds_toArray, List.set_cons_zero, List.set_cons_succ]
 refine wpAnyH_done (by kernel_rfl) ?_ _
 clear hHeld
 have HO := hidden o2
 clear o2
 cases hok : readOk ss cs false bs (dataN s)
 . have HF : Hid (has6 x ms (j : Int) s = false) := by unfold Hid; rw [HD.out, hok]; simp
   go_wp2
   refine bodyPost_ret (v := .tuple #[.int .i64 0, .bool false]) (by simp [results, Tryz.results89, go_sem]) rfl ?_
   exact ⟨ret_word HF.out, b2'⟩
 . go_wp2_with fail
   refine (bears_sound _ _ _ _ _ _ _ _ _ _ _ _).mono ?_
   rintro e w3 ⟨rfl, b3⟩
   have B3 := hidden (Below.andThen b2' b3)
   have o3 := HO.out.below b3
   clear b3
   obtain ⟨hr, hln, _⟩ := ints_rd o3.rd
   have HD2 : Hid (has6 x ms (j : Int) s = decide ((readD ss cs false bs (dataN s)).length = 1)) := by unfold Hid; rw [HD.out, hok]; simp
   generalize hps : readD ss cs false bs (dataN s) = ps at hr hln HD2 HV
   have HPS := hidden hps
   clear hps
   by_cases h1 : l = 1
   . subst h1
     have hT : has6 x ms (j : Int) s = true := by rw [HD2.out, hln]; rfl
     have hV := HV.out hT
     obtain ⟨y, rfl⟩ : ∃ y, ps = [y] := by match ps, hln with | [y], _ => exact ⟨y, rfl⟩
     rcases hr with h0' | ⟨b, off, rfl, hbl, hrr⟩
     . simp at h0'
     have hc : w3.cell? ⟨b, off, none⟩ = some (.int .i64 y) := hrr 0 (by simp)
     go_wp2
     refine bodyPost_ret (v := .tuple #[.int .i64 y, .bool true]) (by simp [results, Tryz.results89, go_sem]) rfl ?_
     exact ⟨by rw [hV, hT]; rfl, B3.out⟩
   . have HF : Hid (has6 x ms (j : Int) s = false) := by unfold Hid; rw [HD2.out, hln]; simpa using h1
     have hl1 : ((l : Int) == 1) = false := by simp; omega
     have hl2 : ((l : Int) != 1) = true := by simp; omega
     go_wp2
     refine bodyPost_ret (v := .tuple #[.int .i64 0, .bool false]) (by simp [results, Tryz.results89, go_sem]) rfl ?_
     exact ⟨ret_word HF.out, B3.out⟩

theorem wordOn_any (w : World) (E : TypeId) (x : ArrN) (ms : List MemD) (j : Nat) (v : Value) (s : Int) (hd : DiskV w E x ms j v) (hw : wtMemS ms <= 2097152) :
 Calls Tryz.prog 89 #[v, .int .i64 s] w fun e w' => e = .returned (.tuple #[.int .i64 (word6 x ms (j : Int) s), .bool (has6 x ms (j : Int) s)]) /\ Below w.heap.size w w' := by
 obtain ⟨a0, a1, a3, c0, c1, c3, ss, cs, f, bs, hj, r0, r1, r3, h⟩ := hd
 have hwm := Nat.le_trans (inner_leM hj) hw
 obtain ⟨hh, hv⟩ := has_at6 (x := x) (s := s) hj
 have hl := live_at6 (x := x) (s := s) hj
 rcases h with ⟨rfl, rfl⟩ | ⟨rfl, hx, rfl⟩ | ⟨rfl, hx, rfl⟩
 . exact wordOn_failed w x ms j s (by rw [hh, hl]; rfl)
 . exact wordOn_lost w E x ms j s a0 a1 a3 c0 c1 c3 ss cs bs r0 r1 r3 hwm (by rw [hh, hl]; simp [hx]) hv
 . exact wordOn_sound w E x ms j s a0 a1 a3 c0 c1 c3 ss cs bs r0 r1 r3 hwm (by rw [hh, hl]; simp [hx]) hv

theorem fill6 (x : ArrN) (ms : List MemD) (s : Int) (n j : Nat) (h : j < n) : (wordL x ms s j ++ List.replicate (n - j) (0 : Int)).set j (word6 x ms (j : Int) s) = wordL x ms s (j + 1) ++ List.replicate (n - (j + 1)) (0 : Int) := by
 have e : n - j = (n - (j + 1)) + 1 := by omega
 rw [List.set_append, if_neg (by rw [wordL_len]; omega), wordL_len, Nat.sub_self, e, List.replicate_succ, List.set_cons_zero, wordL_succ, List.append_assoc]
 rfl

theorem implWords_any (w : World) (E F G : TypeId) (x : ArrN) (am ad : Option Addr) (nm cm nd cd : Nat) (ms : List MemD) (ds : List (Int × List Int)) (s : Int) (h0 : (tMemS E F).Rd w [.slice am nm cm] ms) (h1 : (tWrS G).Rd w [.slice ad nd cd] ds) (hw : wtArr ms ds <= 2097152) :
 Calls Tryz.prog 72 #[.agg #[.int .i64 x.id, .int .i64 x.n, .int .i64 x.s, .slice am nm cm, .int .i64 x.lost, .int .i64 x.built, .int .i64 x.seq, .int .i64 x.tail, .int .i64 x.gen, .slice ad nd cd, .int .i64 x.fuse, .bool x.down, .bool x.broken], .int .i64 s] w fun e w' => ∃ a' l' c', e = .returned (.tuple #[.slice a' l' c', .bool (wordsOk6 x ms ds s)]) /\ tIntS.Own w' w.heap.size w'.heap.size [.slice a' l' c'] (wordsL6 x ms ds s) /\ Below w.heap.size w w' := by
 have hwm : wtMemS ms <= 2097152 := by unfold wtArr at hw; omega
 obtain ⟨hl, hc, hm⟩ := row_length h0
 obtain ⟨i0, hi, hz0, hz1, hz2⟩ := info_parts Tryz.info3
 have hA := new_below w (.cells #[.int .i64 x.id, .int .i64 x.n, .int .i64 x.s, .slice am nm cm, .int .i64 x.lost, .int .i64 x.built, .int .i64 x.seq, .int .i64 x.tail, .int .i64 x.gen, .slice ad nd cd, .int .i64 x.fuse, .bool x.down, .bool x.broken] 35)
 have X := Box.new w 35 #[.int .i64 x.id, .int .i64 x.n, .int .i64 x.s, .slice am nm cm, .int .i64 x.lost, .int .i64 x.built, .int .i64 x.seq, .int .i64 x.tail, .int .i64 x.gen, .slice ad nd cd, .int .i64 x.fuse, .bool x.down, .bool x.broken]
 obtain ⟨k0, k1, k2, k3, k4, k5, k6, k7, k8, k9, k10, k11, k12⟩ := X.cells13
 have zA := X.lt
 have r0 := h0.below hA
 have r1 := h1.below hA
 go_enter Tryz.func72, Tryz.ntmps72
 go_wp2_with fail
 generalize w.alloc (.cells #[.int .i64 x.id, .int .i64 x.n, .int .i64 x.s, .slice am nm cm, .int .i64 x.lost, .int .i64 x.built, .int .i64 x.seq, .int .i64 x.tail, .int .i64 x.gen, .slice ad nd cd, .int .i64 x.fuse, .bool x.down, .bool x.broken] 35) = W at hA X zA r0 r1 k0 k1 k2 k3 k4 k5 k6 k7 k8 k9 k10 k11 k12 ⊢
 refine (implArrOk_any _ E F G x _ _ _ _ _ _ ms ds r0 r1 hw).mono ?_
 rintro e w1 ⟨rfl, b1⟩
 have X1 := X.below b1 zA
 have B1 := Below.andThen hA b1
 have q1 := r0.below b1
 clear k0 k1 k2 k3 k4 k5 k6 k7 k8 k9 k10 k11 k12 X b1 hA zA r0 r1
 obtain ⟨k0, k1, k2, k3, k4, k5, k6, k7, k8, k9, k10, k11, k12⟩ := X1.cells13
 cases ha : arrB x ms ds
 . skip
   have HF : Hid (wordsOk6 x ms ds s = false /\ wordsL6 x ms ds s = []) := by unfold Hid wordsOk6 wordsL6 okB6; simp [ha]
   have FO := hidden ((own_ints (Owns.lit .i64 3 w1 [] 0 #[] rfl rfl (by unfold maxLen; omega))).widen (lo' := w.heap.size) B1.size (Nat.le_refl _))
   have FB := hidden (B1.alloc B1.size (.cells #[] 3))
   go_wp2
   refine bodyPost_ret (v := .tuple #[.slice (some ⟨w1.heap.size, 0, none⟩) 0 0, .bool false]) (by simp [results, Tryz.results72, go_sem]) rfl ?_
   exact ⟨_, _, _, by rw [HF.out.1], by rw [HF.out.2]; exact FO.out, FB.out⟩
 . have hg : geoB x.n x.s = true := by unfold arrB at ha; simp only [Bool.and_eq_true] at ha; exact ha.1
   have hmn : (ms.length : Int) = x.n := by unfold arrB memsB at ha; simp only [Bool.and_eq_true, decide_eq_true_eq] at ha; exact ha.2.2.1.2
   have HMN := hidden hmn
   clear hmn
   obtain ⟨g1, g2, g3, g4⟩ := geoB_iff.1 hg
   cases hbr : x.broken
   . rw [hbr] at k12
     go_wp2_with fail
     refine (hasStripe_any _ x.n x.s s).mono ?_
     rintro e w2 ⟨rfl, b2⟩
     have X2 := X1.below b2 X1.lt
     have B2 := Below.andThen B1 b2
     have q2 := q1.below b2
     clear k0 k1 k2 k3 k4 k5 k6 k7 k8 k9 k10 k11 k12 X1 b2 B1 q1
     have hst := stripe_in6 (x := x) (y := s) hg
     cases hin : stripeB x.n x.s s
     . skip
       have HF : Hid (wordsOk6 x ms ds s = false /\ wordsL6 x ms ds s = []) := by unfold Hid wordsOk6 wordsL6 okB6; rw [← hst, hin]; simp
       have FO := hidden ((own_ints (Owns.lit .i64 3 w2 [] 0 #[] rfl rfl (by unfold maxLen; omega))).widen (lo' := w.heap.size) B2.size (Nat.le_refl _))
       have FB := hidden (B2.alloc B2.size (.cells #[] 3))
       go_wp2
       refine bodyPost_ret (v := .tuple #[.slice (some ⟨w2.heap.size, 0, none⟩) 0 0, .bool false]) (by simp [results, Tryz.results72, go_sem]) rfl ?_
       exact ⟨_, _, _, by rw [HF.out.1], by rw [HF.out.2]; exact FO.out, FB.out⟩
     . have HF : Hid (wordsOk6 x ms ds s = wordsB x ms s /\ wordsL6 x ms ds s = words6 x ms s) := by unfold Hid wordsOk6 wordsL6 okB6; rw [ha, hbr, ← hst, hin]; exact ⟨rfl, rfl⟩
       clear hst hbr ha hin
       obtain ⟨n, hn⟩ : ∃ n : Nat, x.n = (n : Int) := ⟨x.n.toNat, by omega⟩
       have HN := hidden hn
       have HNT : Hid (x.n.toNat = n) := by unfold Hid; omega
       have hn5 : n <= 5 := by omega
       have hn3 : 3 <= n := by omega
       have hnm : n = nm := by have := HMN.out; omega
       have HNM := hidden hnm
       clear hnm
       obtain ⟨k0, k1, k2, k3, k4, k5, k6, k7, k8, k9, k10, k11, k12⟩ := X2.cells13
       rw [hn] at k1
       clear hn k0 k2 k3 k4 k5 k6 k7 k8 k9 k10 k11 k12
       have hb3 : i0.bytes * n <= 281474976710656 := by rw [hz2]; omega
       have hm3 : n <= maxLen := by unfold maxLen; omega
       go_wp2_with (at_make; refine wpList_make_full _ rfl _ _ 29 rfl w2.heap.size 3 i0 (.int .i64 0) 1 Tryz.underlying29 hi hz0 hz1 _ _ _ _ n rfl rfl rfl rfl hb3 hm3 (Nat.le_refl _) ?_; intro w3 hown hgrow)
       have hO : Owns .i64 3 w3 w2.heap.size (.slice (some ⟨w2.heap.size, 0, none⟩) n n) (List.replicate n 0) := by
        rw [made_ints] at hown
        unfold Owns
        rw [List.length_replicate]
        exact hown
       have hO1 := hO.own
       have hB1 : Below w2.heap.size w2 w3 := (Below.refl _ _).grown hgrow (Nat.le_refl _) (by simp)
       have zw : w2.heap.size < w3.heap.size := hO1.2 _ rfl
       generalize w3.heap.size = hi1 at hO1 zw
       clear hown hgrow hO k1
       go_loopw [7, 32] (fun lo i wr => ∃ j : Nat, j <= n /\ i = .int .i64 j /\ lo = .int .i64 (lostN (missL x ms s j)) /\ (missL x ms s j).length <= 1 /\ Own .i64 3 wr w2.heap.size hi1 (.slice (some ⟨w2.heap.size, 0, none⟩) n n) (wordL x ms s j ++ List.replicate (n - j) 0) /\ Below w2.heap.size w2 wr) (fun _ i _ => n - (intOf i).toNat)
       case atStart => exact ⟨0, Nat.zero_le _, rfl, rfl, Nat.zero_le _, by simpa [wordL] using hO1, hB1⟩
       case round =>
        clear hO1 hB1
        obtain ⟨j, hj, rfl, rfl, hm1, ho, hb⟩ := hrel
        have Xr := X2.below hb X2.lt
        have zs := hb.size
        by_cases hlt : j < n
        . obtain ⟨k0, k1, k2, k3, k4, k5, k6, k7, k8, k9, k10, k11, k12⟩ := Xr.cells13
          have hlt' : (j : Int) < (n : Int) := by omega
          go_wp2_with fail
          refine (diskAt_any _ E F x _ _ _ _ _ _ ms j (q2.below hb) hwm (by have := HNM.out; omega)).mono ?_
          rintro e w5 ⟨v, rfl, hd, b5⟩
          have o5 := ho.below b5
          have B5 := hb.trans (b5.mono zs)
          clear k0 k1 k2 k3 k4 k5 k6 k7 k8 k9 k10 k11 k12 Xr b5 ho hb
          go_wp2_with fail
          refine (wordOn_any _ E x ms j v s hd hwm).mono ?_
          rintro e w6 ⟨rfl, b6⟩
          have o6 := o5.below b6
          have B6 := B5.trans (b6.mono B5.size)
          clear b6 o5 B5 hd
          have hfs := fill6 x ms s n j hlt
          obtain ⟨hcy, hfy, hst, hbt⟩ := o6.store j hlt (word6 x ms (j : Int) s)
          rw [hfs] at hst
          have HST := hidden hst
          have HB : Hid (Below w2.heap.size w2 (w6.setCell ⟨w2.heap.size, j, none⟩ (.int .i64 (word6 x ms (j : Int) s)))) := B6.setCell (Nat.le_refl _) _
          have hj0 : (0 : Int) <= (j : Int) := Int.natCast_nonneg _
          clear hst hbt hfs
          generalize (wordL x ms s j ++ List.replicate (n - j) 0).getD j 0 = old at hcy
          cases hh : has6 x ms (j : Int) s
          . have hmn := missL_no hh
            rcases list_cases hm1 with h00 | ⟨p, hp⟩
            . have hl0 : lostN (missL x ms s j) = -1 := by rw [h00]; rfl
              have hl1 : lostN (missL x ms s (j + 1)) = (j : Int) := by rw [hmn, h00]; rfl
              have hc1 : (missL x ms s (j + 1)).length <= 1 := by rw [hmn, h00]; exact Nat.le_refl _
              have HL1 := hidden hl1
              have HC1 := hidden hc1
              rw [hl0]
              clear hmn h00 hl0 hl1 hc1 B6 o6
              generalize word6 x ms (j : Int) s = y at HST HB ⊢
              go_wp2
              go_roundw
              case rel => exact ⟨j + 1, by omega, by go_num, by rw [HL1.out], HC1.out, HST.out, HB.out⟩
              case measure => simp [intOf]; omega
            . have hl0 : lostN (missL x ms s j) = (p : Int) := by rw [hp]; rfl
              obtain ⟨t1, t2⟩ := words_two (x := x) (ms := ms) (s := s) (j := j + 1) (by rw [hmn, hp]; exact Nat.le_refl _) (by have := HNT.out; omega)
              have HT1 := hidden t1
              have HT2 := hidden t2
              rw [hl0]
              have hp0 : ((p : Int) != -1) = true := by simp
              have hp1 : ((p : Int) == -1) = false := by simp
              clear hmn hp hl0 t1 t2 HST HB
              have FO := hidden ((own_ints (Owns.lit .i64 3 w6 [] 0 #[] rfl rfl (by unfold maxLen; omega))).widen (lo' := w.heap.size) (Nat.le_trans B2.size B6.size) (Nat.le_refl _))
              have FB := hidden (B2.trans ((B6.alloc B6.size (.cells #[] 3)).mono B2.size))
              clear B6 o6
              go_wp2
              refine bodyPost_ret (v := .tuple #[.slice (some ⟨w6.heap.size, 0, none⟩) 0 0, .bool false]) (by simp [results, Tryz.results72, go_sem]) rfl ?_
              exact ⟨_, _, _, by rw [HF.out.1, HT1.out], by rw [HF.out.2, HT2.out]; exact FO.out, FB.out⟩
          . have hmy := missL_yes hh
            have HL1 : Hid (lostN (missL x ms s (j + 1)) = lostN (missL x ms s j)) := by unfold Hid; rw [hmy]
            have HC1 : Hid ((missL x ms s (j + 1)).length <= 1) := by unfold Hid; rw [hmy]; exact hm1
            clear hmy B6 o6
            generalize word6 x ms (j : Int) s = y at HST HB ⊢
            go_wp2
            go_roundw
            case rel => exact ⟨j + 1, by omega, by go_num, by rw [HL1.out], HC1.out, HST.out, HB.out⟩
            case measure => simp [intOf]; omega
        . have ej : j = n := by omega
          subst ej
          rw [Nat.sub_self, List.replicate_zero, List.append_nil] at ho
          have hlen := wordL_len x ms s j
          rcases list_cases hm1 with h00 | ⟨p, hp⟩
          . have hl0 : lostN (missL x ms s j) = -1 := by rw [h00]; rfl
            obtain ⟨t1, t2⟩ := words_none (x := x) (ms := ms) (s := s) (by rw [HNT.out]; exact h00)
            rw [HNT.out] at t2
            have HT1 := hidden t1
            have HT2 := hidden t2
            rw [hl0]
            clear h00 hl0 t1 t2
            have FO := hidden ((own_ints ho.1).widen (lo' := w.heap.size) B2.size (Nat.le_refl _))
            have FB := hidden (B2.trans (hb.mono B2.size))
            clear ho hb Xr hlen hm1 hj hlt
            go_wp2
            refine bodyPost_ret (v := .tuple #[.slice (some ⟨w2.heap.size, 0, none⟩) j j, .bool true]) (by simp [results, Tryz.results72, go_sem]) rfl ?_
            exact ⟨_, _, _, by rw [HF.out.1, HT1.out], by rw [HF.out.2, HT2.out]; exact FO.out, FB.out⟩
          . have hl0 : lostN (missL x ms s j) = (p : Int) := by rw [hp]; rfl
            have hpj : p < j := missL_lt (x := x) (ms := ms) (s := s) (by rw [hp]; simp)
            obtain ⟨t1, t2⟩ := words_one (x := x) (ms := ms) (s := s) (p := p) (by rw [HNT.out]; exact hp)
            rw [HNT.out] at t2
            have HT1 := hidden t1
            have HT2 := hidden t2
            rw [hl0]
            clear hp hl0 t1 t2
            have hp0 : ((p : Int) != -1) = true := by simp
            have hp1 : ((p : Int) == -1) = false := by simp
            have hp2 : (0 : Int) <= (p : Int) := by omega
            have hp3 : (p : Int) < (j : Int) := by omega
            go_wp2_with fail
            refine (implMissingWord_any _ _ _ _ (wordL x ms s j) (p : Int) hlen ho.reads (by omega)).mono ?_
            rintro e w7 ⟨rfl, hs7⟩
            have O1 := ho.same hs7
            have B7 := hb.trans (hs7.below _)
            obtain ⟨c1, f1, O2, t2⟩ := O1.store p hpj (skipL (wordL x ms s j) (p : Int) j)
            have FO := hidden ((own_ints O2.1).widen (lo' := w.heap.size) B2.size (Nat.le_refl _))
            have FB := hidden (B2.trans ((B7.setCell (p := ⟨w2.heap.size, p, none⟩) (Nat.le_refl _) (.int .i64 (skipL (wordL x ms s j) (p : Int) j))).mono B2.size))
            generalize (wordL x ms s j).getD p 0 = y at c1
            generalize skipL (wordL x ms s j) (p : Int) j = q at FO FB HT2 ⊢
            clear O1 O2 t2 ho hb hs7 Xr B7
            go_wp2
            refine bodyPost_ret (v := .tuple #[.slice (some ⟨w2.heap.size, 0, none⟩) j j, .bool true]) (by simp [results, Tryz.results72, go_sem]) rfl ?_
            exact ⟨_, _, _, by rw [HF.out.1, HT1.out], by rw [HF.out.2, HT2.out]; exact FO.out, FB.out⟩
   . rw [hbr] at k12
     have HF : Hid (wordsOk6 x ms ds s = false /\ wordsL6 x ms ds s = []) := by unfold Hid wordsOk6 wordsL6 okB6; simp [hbr]
     have FO := hidden ((own_ints (Owns.lit .i64 3 w1 [] 0 #[] rfl rfl (by unfold maxLen; omega))).widen (lo' := w.heap.size) B1.size (Nat.le_refl _))
     have FB := hidden (B1.alloc B1.size (.cells #[] 3))
     go_wp2
     refine bodyPost_ret (v := .tuple #[.slice (some ⟨w1.heap.size, 0, none⟩) 0 0, .bool false]) (by simp [results, Tryz.results72, go_sem]) rfl ?_
     exact ⟨_, _, _, by rw [HF.out.1], by rw [HF.out.2]; exact FO.out, FB.out⟩

theorem place_stripe (a b : Int) (w : World) : Sem.run Tryz.prog (Instr.field 84 (.agg #[.int .i64 a, .int .i64 b]) 0) w = .ok (.int .i64 a) w := rfl
theorem place_index (a b : Int) (w : World) : Sem.run Tryz.prog (Instr.field 84 (.agg #[.int .i64 a, .int .i64 b]) 1) w = .ok (.int .i64 b) w := rfl

theorem implStripeOf_any (w : World) (n s b : Int) : Calls Tryz.prog 38 #[.agg #[.int .i64 n, .int .i64 s], .int .i64 b] w fun e w' => e = .returned (.int .i64 (stripeN n s b)) /\ Below w.heap.size w w' := by
 have hA := new_below w (.cells #[.int .i64 n, .int .i64 s] 31)
 obtain ⟨k0, k1⟩ := (Gbox.new w 31 n s).cells
 go_enter Tryz.func38, Tryz.ntmps38
 go_wp2_with fail
 refine (placeOf_any _ _ _ _).mono ?_
 rintro e w1 ⟨rfl, b1⟩
 have hf := place_stripe (stripeN n s b) (indexN n s b) w1
 go_wp2
 go_ret
 exact ⟨rfl, Below.andThen hA b1⟩

theorem implIndexOf_any (w : World) (n s b : Int) : Calls Tryz.prog 41 #[.agg #[.int .i64 n, .int .i64 s], .int .i64 b] w fun e w' => e = .returned (.int .i64 (indexN n s b)) /\ Below w.heap.size w w' := by
 have hA := new_below w (.cells #[.int .i64 n, .int .i64 s] 31)
 obtain ⟨k0, k1⟩ := (Gbox.new w 31 n s).cells
 go_enter Tryz.func41, Tryz.ntmps41
 go_wp2_with fail
 refine (placeOf_any _ _ _ _).mono ?_
 rintro e w1 ⟨rfl, b1⟩
 have hf := place_index (stripeN n s b) (indexN n s b) w1
 go_wp2
 go_ret
 exact ⟨rfl, Below.andThen hA b1⟩

theorem spot_block {n s t i : Int} : spotB n s t i = true ↔ ∃ b, blockB n s b = true /\ stripeN n s b = t /\ indexN n s b = i := by
 constructor
 . intro h
   unfold spotB at h
   rw [Bool.and_eq_true, stripeB_of, inB_iff] at h
   obtain ⟨⟨hg, h1, h2⟩, h3, h4⟩ := h
   obtain ⟨g1, g2, g3, g4⟩ := geoB_iff.1 hg
   have hb : blockB n s (t * (n - 1) + i) = true := by
    rw [blockB_of, blocksN_of hg]
    have : n = 3 ∨ n = 4 ∨ n = 5 := by omega
    rcases this with rfl | rfl | rfl <;> omega
   refine ⟨t * (n - 1) + i, hb, ?_, ?_⟩
   . unfold stripeN
     rw [if_pos hb]
     have : n = 3 ∨ n = 4 ∨ n = 5 := by omega
     rcases this with rfl | rfl | rfl <;> omega
   . unfold indexN
     rw [if_pos hb]
     have : n = 3 ∨ n = 4 ∨ n = 5 := by omega
     rcases this with rfl | rfl | rfl <;> omega
 . rintro ⟨b, hb, rfl, rfl⟩
   have hg := blockB_geo hb
   have hb' := blockB_of.1 hb
   rw [blocksN_of hg] at hb'
   obtain ⟨g1, g2, g3, g4⟩ := geoB_iff.1 hg
   unfold spotB
   rw [Bool.and_eq_true, stripeB_of, inB_iff]
   unfold stripeN indexN
   rw [if_pos hb, if_pos hb]
   have : n = 3 ∨ n = 4 ∨ n = 5 := by omega
   rcases this with rfl | rfl | rfl <;> exact ⟨⟨hg, by omega⟩, by omega⟩

theorem block_at {n s b : Int} (hb : blockB n s b = true) : blockN n s (stripeN n s b) (indexN n s b) = b := by
 have h := spot_block.2 ⟨b, hb, rfl, rfl⟩
 unfold blockN
 rw [if_pos h]
 obtain ⟨g1, g2, g3, g4⟩ := geoB_iff.1 (blockB_geo hb)
 have hb' := blockB_of.1 hb
 unfold stripeN indexN
 rw [if_pos hb, if_pos hb]
 have : n = 3 ∨ n = 4 ∨ n = 5 := by omega
 rcases this with rfl | rfl | rfl <;> omega

theorem implBlockAt_any (w : World) (n s t i : Int) : Calls Tryz.prog 92 #[.agg #[.int .i64 n, .int .i64 s], .int .i64 t, .int .i64 i] w fun e w' => e = .returned (.int .i64 (blockN n s t i)) /\ Below w.heap.size w w' := by
 have hA : Below w.heap.size w ((w.alloc (.cells #[.int .i64 n, .int .i64 s] 31)).alloc (.cells #[.int .i64 t, .int .i64 i] 84)) := (new_below w _).alloc (by simp) _
 have X : Gbox ((w.alloc (.cells #[.int .i64 n, .int .i64 s] 31)).alloc (.cells #[.int .i64 t, .int .i64 i] 84)) w.heap.size 31 n s := (Gbox.new w 31 n s).below (new_below _ _) (by simp)
 have Y : Gbox ((w.alloc (.cells #[.int .i64 n, .int .i64 s] 31)).alloc (.cells #[.int .i64 t, .int .i64 i] 84)) (w.heap.size + 1) 84 t i := by
  have := Gbox.new (w.alloc (.cells #[.int .i64 n, .int .i64 s] 31)) 84 t i
  simpa using this
 obtain ⟨k0, k1⟩ := X.cells
 obtain ⟨x0, x1⟩ := (Gbox.new w 31 n s).cells
 go_enter Tryz.func92, Tryz.ntmps92
 go_wp2_with fail
 refine (implBlocks_any _ _ _).mono ?_
 rintro e w1 ⟨rfl, b1⟩
 have hz : w.heap.size + 1 < ((w.alloc (.cells #[.int .i64 n, .int .i64 s] 31)).alloc (.cells #[.int .i64 t, .int .i64 i] 84)).heap.size := by simp
 have X1 := X.below b1 (by omega)
 have Y1 := Y.below b1 hz
 have B1 := hA.trans (b1.mono hA.size)
 have hr := blocksN_range n s
 obtain ⟨nb, hnb⟩ := Int.eq_ofNat_of_zero_le hr.1
 have HNB := hidden hnb
 rw [hnb] at hr ⊢
 clear k0 k1 x0 x1 X Y hA b1 hz hnb
 go_wp2_with fail
 go_loopw [14] (fun c wr => ∃ j : Nat, j <= nb /\ c = .int .i64 j /\ (∀ k : Nat, k < j -> ¬ (stripeN n s k = t /\ indexN n s k = i)) /\ Gbox wr w.heap.size 31 n s /\ Gbox wr (w.heap.size + 1) 84 t i /\ Below w.heap.size w wr) (fun c _ => nb - (intOf c).toNat)
 case atStart => exact ⟨0, Nat.zero_le _, rfl, by omega, X1, Y1, B1⟩
 case round =>
  obtain ⟨j, hj, rfl, hk, X2, Y2, B2⟩ := hrel
  have HK := hidden hk
  clear hk X1 Y1 B1
  by_cases hlt : j < nb
  . have hb : blockB n s j = true := blockB_of.2 ⟨by omega, by rw [HNB.out]; omega⟩
    have HBA := hidden (block_at hb)
    obtain ⟨k0, k1⟩ := X2.cells
    obtain ⟨j0, j1⟩ := Y2.cells
    generalize hS : stripeN n s j = S at HBA HK
    generalize hI : indexN n s j = I at HBA HK
    have HP : ∀ W : World, Calls Tryz.prog 56 #[.agg #[.int .i64 n, .int .i64 s], .int .i64 (j : Int)] W fun e w' => e = .returned (.agg #[.int .i64 S, .int .i64 I]) /\ Below W.heap.size W w' := by
     intro W
     rw [← hS, ← hI]
     exact placeOf_any _ _ _ _
    have HS := hidden hS
    have HI := hidden hI
    clear hS hI
    by_cases h1 : S = t
    . by_cases h2 : I = i
      . subst h1 h2
        go_wp2_with fail
        go_region_held3 (fun w' => w'.cell? ⟨w.heap.size, 0, none⟩ = some (.int .i64 n) /\ w'.cell? ⟨w.heap.size, 1, none⟩ = some (.int .i64 s) /\ w'.cell? ⟨w.heap.size + 1, 0, none⟩ = some (.int .i64 S) /\ w'.cell? ⟨w.heap.size + 1, 1, none⟩ = some (.int .i64 I))
         (first | (exact ⟨X3.cells.1, X3.cells.2, Y3.cells.1, Y3.cells.2⟩) | (exact ⟨k0, k1, j0, j1⟩) | go_keep)
         (first
          | (go_at_call 56; refine (HP _).mono ?_; rintro e w3 ⟨rfl, b3⟩; have B3 := Below.andThen B2.drew b3; have X3 := X2.drew.below b3 X2.lt; have Y3 := Y2.drew.below b3 Y2.lt))
        go_wp2
        go_ret
        exact ⟨ret_int HBA.out.symm, B3⟩
      . have n2 : (I == i) = false := by simpa using h2
        subst h1
        go_wp2_with fail
        go_region_held3 (fun w' => w'.cell? ⟨w.heap.size, 0, none⟩ = some (.int .i64 n) /\ w'.cell? ⟨w.heap.size, 1, none⟩ = some (.int .i64 s) /\ w'.cell? ⟨w.heap.size + 1, 0, none⟩ = some (.int .i64 S) /\ w'.cell? ⟨w.heap.size + 1, 1, none⟩ = some (.int .i64 i))
         (first | (exact ⟨X3.cells.1, X3.cells.2, Y3.cells.1, Y3.cells.2⟩) | (exact ⟨k0, k1, j0, j1⟩) | go_keep)
         (first
          | (go_at_call 56; refine (HP _).mono ?_; rintro e w3 ⟨rfl, b3⟩; have B3 := Below.andThen B2.drew b3; have X3 := X2.drew.below b3 X2.lt; have Y3 := Y2.drew.below b3 Y2.lt))
        go_wp2
        go_roundw
        case rel => exact ⟨j + 1, by omega, by go_num, fun k hk h => by
         by_cases hkj : k < j
         . exact HK.out k hkj h
         . have : k = j := by omega
           subst this
           exact h2 (HI.out ▸ h.2), X3, Y3, B3⟩
        case measure => simp [intOf]; omega
    . have n1 : (S == t) = false := by simpa using h1
      go_wp2_with fail
      go_region_held3 (fun w' => w'.cell? ⟨w.heap.size, 0, none⟩ = some (.int .i64 n) /\ w'.cell? ⟨w.heap.size, 1, none⟩ = some (.int .i64 s) /\ w'.cell? ⟨w.heap.size + 1, 0, none⟩ = some (.int .i64 t) /\ w'.cell? ⟨w.heap.size + 1, 1, none⟩ = some (.int .i64 i))
       (first | (exact ⟨X3.cells.1, X3.cells.2, Y3.cells.1, Y3.cells.2⟩) | (exact ⟨k0, k1, j0, j1⟩) | go_keep)
       (first
        | (go_at_call 56; refine (HP _).mono ?_; rintro e w3 ⟨rfl, b3⟩; have B3 := Below.andThen B2.drew b3; have X3 := X2.drew.below b3 X2.lt; have Y3 := Y2.drew.below b3 Y2.lt))
      go_wp2
      go_roundw
      case rel => exact ⟨j + 1, by omega, by go_num, fun k hk h => by
       by_cases hkj : k < j
       . exact HK.out k hkj h
       . have : k = j := by omega
         subst this
         exact h1 (HS.out ▸ h.1), X3, Y3, B3⟩
      case measure => simp [intOf]; omega
  . go_wp2
    go_ret
    have e : j = nb := by omega
    subst e
    refine ⟨ret_int ?_, B2⟩
    unfold blockN
    rw [if_neg]
    intro h
    obtain ⟨b, hb, h1, h2⟩ := spot_block.1 h
    obtain ⟨hb0, hb1⟩ := blockB_of.1 hb
    obtain ⟨b, rfl⟩ := Int.eq_ofNat_of_zero_le hb0
    rw [HNB.out] at hb1
    exact HK.out b (by omega) ⟨h1, h2⟩

theorem blockN_ok {n s t i : Int} (h : spotB n s t i = true) : 0 <= blockN n s t i := by
 unfold blockN
 rw [if_pos h]
 unfold spotB at h
 rw [Bool.and_eq_true, stripeB_of, inB_iff] at h
 obtain ⟨⟨hg, h1, h2⟩, h3, h4⟩ := h
 obtain ⟨g1, g2, g3, g4⟩ := geoB_iff.1 hg
 have : n = 3 ∨ n = 4 ∨ n = 5 := by omega
 rcases this with rfl | rfl | rfl <;> omega

theorem spotB_of {n s t i : Int} : spotB n s t i = true ↔ geoB n s = true /\ 0 <= t /\ t < s /\ 0 <= i /\ i <= n - 2 := by
 unfold spotB
 rw [Bool.and_eq_true, stripeB_of, inB_iff]
 constructor
 . rintro ⟨⟨a, b, c⟩, d, e⟩
   exact ⟨a, b, c, d, e⟩
 . rintro ⟨a, b, c, d, e⟩
   exact ⟨⟨a, b, c⟩, d, e⟩

theorem implDiskOf_any (w : World) (n s t i : Int) : Calls Tryz.prog 73 #[.agg #[.int .i64 n, .int .i64 s], .int .i64 t, .int .i64 i] w fun e w' => e = .returned (.int .i64 (diskN n s t i)) /\ Below w.heap.size w w' := by
 have hA := new_below w (.cells #[.int .i64 n, .int .i64 s] 31)
 have X := Gbox.new w 31 n s
 obtain ⟨k0, k1⟩ := X.cells
 have zA := X.lt
 go_enter Tryz.func73, Tryz.ntmps73
 go_wp2_with fail
 refine (implBlockAt_any _ _ _ _ _).mono ?_
 rintro e w1 ⟨rfl, b1⟩
 have X1 := X.below b1 zA
 have B1 := Below.andThen hA b1
 clear k0 k1 X b1 hA zA
 obtain ⟨k0, k1⟩ := X1.cells
 by_cases hs : spotB n s t i = true
 . have h0 := blockN_ok hs
   obtain ⟨hg, h1, h2, h3, h4⟩ := spotB_of.1 hs
   obtain ⟨g1, g2, g3, g4⟩ := geoB_iff.1 hg
   have hm1 : 0 <= t % n := Int.emod_nonneg _ (by omega)
   have hm2 : t % n < n := Int.emod_lt_of_pos _ (by omega)
   have HP : parN n s t = n - 1 - t % n := by unfold parN; rw [if_pos (stripeB_of.2 ⟨hg, h1, h2⟩)]
   have HPar : ∀ W : World, Calls Tryz.prog 93 #[.agg #[.int .i64 n, .int .i64 s], .int .i64 t] W fun e w' => e = .returned (.int .i64 (n - 1 - t % n)) /\ Below W.heap.size W w' := by
    intro W
    rw [← HP]
    exact implParityOf_any _ _ _ _
   have HD : Hid (diskN n s t i = (n - 1 - t % n + 1 + i) % n) := by unfold Hid diskN; rw [if_pos hs]
   clear HP
   generalize t % n = r at hm1 hm2 HPar HD
   have e0 : ¬ blockN n s t i = -1 := by omega
   have e1 : ¬ n = 0 := by omega
   have e2 : (n - 1 - r + 1 + i).tmod n = (n - 1 - r + 1 + i) % n := Int.tmod_eq_emod_of_nonneg (by omega)
   have e3 : IntKind.i64.wrap (n - 1 - r + 1) = n - 1 - r + 1 := IntWalk.i64_in _ (by omega)
   have e4 : IntKind.i64.wrap (n - 1 - r + 1 + i) = n - 1 - r + 1 + i := IntWalk.i64_in _ (by omega)
   have e5 : (blockN n s t i == -1) = false := by simpa using e0
   go_wp2_with fail
   go_region_held3 (fun w' => w'.cell? ⟨w.heap.size, 0, none⟩ = some (.int .i64 n) /\ w'.cell? ⟨w.heap.size, 1, none⟩ = some (.int .i64 s))
    (first | (exact X2.cells) | (exact X1.cells) | go_keep)
    (first
     | (go_at_call 93; refine (HPar _).mono ?_; rintro e w2 ⟨rfl, b2⟩; have B2 := Below.andThen B1.drew b2; have X2 := X1.drew.below b2 X1.lt))
   go_wp2
   go_ret
   exact ⟨ret_int HD.out.symm, B2⟩
 . have e0 : blockN n s t i = -1 := by unfold blockN; rw [if_neg hs]
   have e5 : (blockN n s t i == -1) = true := by simpa using e0
   go_wp2
   go_ret
   exact ⟨ret_int (by unfold diskN; rw [if_neg hs]), B1⟩

theorem dfill6 (x : ArrN) (s : Int) (l : List Int) (n j : Nat) (h : j < n) : (pickL x s l j ++ List.replicate (n - j) (0 : Int)).set j (l.getD (diskN x.n x.s s (j : Int)).toNat 0) = pickL x s l (j + 1) ++ List.replicate (n - (j + 1)) (0 : Int) := by
 have e : n - j = (n - (j + 1)) + 1 := by omega
 rw [List.set_append, if_neg (by rw [pickL_len]; omega), pickL_len, Nat.sub_self, e, List.replicate_succ, List.set_cons_zero, pickL_succ, List.append_assoc]
 rfl

theorem implDataOf_any (w : World) (E F G : TypeId) (x : ArrN) (am ad : Option Addr) (nm cm nd cd : Nat) (ms : List MemD) (ds : List (Int × List Int)) (s : Int) (h0 : (tMemS E F).Rd w [.slice am nm cm] ms) (h1 : (tWrS G).Rd w [.slice ad nd cd] ds) (hw : wtArr ms ds <= 2097152) :
 Calls Tryz.prog 61 #[.agg #[.int .i64 x.id, .int .i64 x.n, .int .i64 x.s, .slice am nm cm, .int .i64 x.lost, .int .i64 x.built, .int .i64 x.seq, .int .i64 x.tail, .int .i64 x.gen, .slice ad nd cd, .int .i64 x.fuse, .bool x.down, .bool x.broken], .int .i64 s] w fun e w' => ∃ a' l' c', e = .returned (.tuple #[.slice a' l' c', .bool (wordsOk6 x ms ds s)]) /\ tIntS.Own w' w.heap.size w'.heap.size [.slice a' l' c'] (dataL6 x ms ds s) /\ Below w.heap.size w w' := by
 obtain ⟨i0, hi, hz0, hz1, hz2⟩ := info_parts Tryz.info3
 have hA := new_below w (.cells #[.int .i64 x.id, .int .i64 x.n, .int .i64 x.s, .slice am nm cm, .int .i64 x.lost, .int .i64 x.built, .int .i64 x.seq, .int .i64 x.tail, .int .i64 x.gen, .slice ad nd cd, .int .i64 x.fuse, .bool x.down, .bool x.broken] 35)
 have X := Box.new w 35 #[.int .i64 x.id, .int .i64 x.n, .int .i64 x.s, .slice am nm cm, .int .i64 x.lost, .int .i64 x.built, .int .i64 x.seq, .int .i64 x.tail, .int .i64 x.gen, .slice ad nd cd, .int .i64 x.fuse, .bool x.down, .bool x.broken]
 obtain ⟨k0, k1, k2, k3, k4, k5, k6, k7, k8, k9, k10, k11, k12⟩ := X.cells13
 have zA := X.lt
 have r0 := h0.below hA
 have r1 := h1.below hA
 go_enter Tryz.func61, Tryz.ntmps61
 go_wp2_with fail
 generalize w.alloc (.cells #[.int .i64 x.id, .int .i64 x.n, .int .i64 x.s, .slice am nm cm, .int .i64 x.lost, .int .i64 x.built, .int .i64 x.seq, .int .i64 x.tail, .int .i64 x.gen, .slice ad nd cd, .int .i64 x.fuse, .bool x.down, .bool x.broken] 35) = W at hA X zA r0 r1 k0 k1 k2 k3 k4 k5 k6 k7 k8 k9 k10 k11 k12 ⊢
 refine (implWords_any _ E F G x _ _ _ _ _ _ ms ds s r0 r1 hw).mono ?_
 rintro e w1 ⟨a', l', c', rfl, o1, b1⟩
 have X1 := X.below b1 zA
 have B1 := Below.andThen hA b1
 clear k0 k1 k2 k3 k4 k5 k6 k7 k8 k9 k10 k11 k12 X b1 r0 r1
 cases hok : wordsOk6 x ms ds s
 . have HF : Hid (dataL6 x ms ds s = []) := by
    unfold Hid
    unfold wordsOk6 at hok
    unfold dataL6
    cases hk : okB6 x ms ds s
    . rfl
    . rw [hk, Bool.true_and] at hok
      rw [if_pos rfl]
      unfold data6
      rw [hok]
      rfl
   have FO := hidden ((own_ints (Owns.lit .i64 3 w1 [] 0 #[] rfl rfl (by unfold maxLen; omega))).widen (lo' := w.heap.size) B1.size (Nat.le_refl _))
   have FB := hidden (B1.alloc B1.size (.cells #[] 3))
   clear o1
   go_wp2
   refine bodyPost_ret (v := .tuple #[.slice (some ⟨w1.heap.size, 0, none⟩) 0 0, .bool false]) (by simp [results, Tryz.results61, go_sem]) rfl ?_
   exact ⟨_, _, _, by rw [hok], by rw [HF.out]; exact FO.out, FB.out⟩
 . have hk : okB6 x ms ds s = true := by unfold wordsOk6 at hok; simp only [Bool.and_eq_true] at hok; exact hok.1
   have hwb : wordsB x ms s = true := by unfold wordsOk6 at hok; simp only [Bool.and_eq_true] at hok; exact hok.2
   have hin : inB s 0 (x.s - 1) = true := by unfold okB6 at hk; simp only [Bool.and_eq_true] at hk; exact hk.2.2
   have hg : geoB x.n x.s = true := by unfold okB6 arrB at hk; simp only [Bool.and_eq_true] at hk; exact hk.1.1
   obtain ⟨g1, g2, g3, g4⟩ := geoB_iff.1 hg
   have hL : wordsL6 x ms ds s = words6 x ms s := by unfold wordsL6; rw [if_pos hk]; rfl
   have hD : dataL6 x ms ds s = pickL x s (words6 x ms s) (x.n.toNat - 1) := by
    unfold dataL6
    rw [if_pos hk]
    unfold data6
    rw [if_pos (show wordsB {x with broken := false} ms s = true from hwb)]
    rfl
   have hwl := words6_len hwb
   rw [hL] at o1
   generalize words6 x ms s = ps at o1 hD hwl
   obtain ⟨hr1, hln, hcap, hmax⟩ := ints_rd o1.rd
   obtain ⟨m, hm⟩ : ∃ m : Nat, x.n = (m : Int) + 1 := ⟨x.n.toNat - 1, by omega⟩
   have hm5 : m <= 4 := by omega
   have hm2 : 2 <= m := by omega
   have hl5 : l' = m + 1 := by omega
   subst hl5
   have HD : Hid (dataL6 x ms ds s = pickL x s ps m) := by unfold Hid; rw [hD]; congr 1; omega
   have HM := hidden hm
   have HOK := hidden hok
   have HIN := hidden hin
   have HG := hidden hg
   clear hD hm hwl hok hk hwb hL hin hg
   rcases hr1 with hnil | ⟨b, off, rfl, hbl, hcs⟩
   . rw [hnil] at hln; simp at hln
   have HCS := hidden hcs
   clear hcs
   obtain ⟨k0, k1, k2, k3, k4, k5, k6, k7, k8, k9, k10, k11, k12⟩ := X1.cells13
   go_wp2_with fail
   refine (perStripe_any _ x.n x.s g1 g2).mono ?_
   rintro e w2 ⟨rfl, b2⟩
   have X2 := X1.below b2 X1.lt
   have B2 := Below.andThen B1 b2
   have zb2 := b2.size
   have hC2 : ∀ i, i < ps.length -> w2.cell? ⟨b, off + i, none⟩ = some (.int .i64 (ps.getD i 0)) := fun i h => (b2.cell (p := ⟨b, off + i, none⟩) hbl).trans (HCS.out i h)
   have HC2 := hidden hC2
   have hbl2 : b < w2.heap.size := Nat.lt_of_lt_of_le hbl b2.size
   clear k0 k1 k2 k3 k4 k5 k6 k7 k8 k9 k10 k11 k12 X1 b2 B1 hC2 HCS hbl o1
   have hb3 : i0.bytes * m <= 281474976710656 := by rw [hz2]; omega
   have hm3 : m <= maxLen := by unfold maxLen; omega
   rw [show x.n - 1 = (m : Int) from by have := HM.out; omega]
   go_wp2_with (at_make; refine wpList_make_full _ rfl _ _ 29 rfl w2.heap.size 3 i0 (.int .i64 0) 1 Tryz.underlying29 hi hz0 hz1 _ _ _ _ m rfl rfl rfl rfl hb3 hm3 (Nat.le_refl _) ?_; intro w3 hown hgrow)
   have hO : Owns .i64 3 w3 w2.heap.size (.slice (some ⟨w2.heap.size, 0, none⟩) m m) (List.replicate m 0) := by
    rw [made_ints] at hown
    unfold Owns
    rw [List.length_replicate]
    exact hown
   have hO1 := hO.own
   have hB1 : Below w2.heap.size w2 w3 := (Below.refl _ _).grown hgrow (Nat.le_refl _) (by simp)
   generalize w3.heap.size = hi1 at hO1
   clear hown hgrow hO
   go_loopw [25] (fun i wr => ∃ j : Nat, j <= m /\ i = .int .i64 j /\ Own .i64 3 wr w2.heap.size hi1 (.slice (some ⟨w2.heap.size, 0, none⟩) m m) (pickL x s ps j ++ List.replicate (m - j) 0) /\ Below w2.heap.size w2 wr) (fun i _ => m - (intOf i).toNat)
   case atStart => exact ⟨0, Nat.zero_le _, rfl, by simpa [pickL] using hO1, hB1⟩
   case round =>
    clear hO1 hB1
    obtain ⟨j, hj, rfl, ho, hb⟩ := hrel
    by_cases hlt : j < m
    . have Xr := X2.below hb X2.lt
      obtain ⟨k0, k1, k2, k3, k4, k5, k6, k7, k8, k9, k10, k11, k12⟩ := Xr.cells13
      obtain ⟨d1, d2⟩ := disk_in (i := (j : Int)) HG.out HIN.out (by omega) (by have := HM.out; omega)
      have hfs := dfill6 x s ps m j hlt
      go_wp2_with fail
      refine (implDiskOf_any _ x.n x.s s (j : Int)).mono ?_
      rintro e w5 ⟨rfl, b5⟩
      obtain ⟨d, hd⟩ := Int.eq_ofNat_of_zero_le d1
      rw [hd] at d2 hfs ⊢
      rw [Int.toNat_natCast] at hfs
      have hdn : d < m + 1 := by have := HM.out; omega
      have hcd := (b5.cell (p := ⟨b, off + d, none⟩) (Nat.lt_of_lt_of_le hbl2 hb.size)).trans ((hb.cell (p := ⟨b, off + d, none⟩) hbl2).trans (HC2.out d (by omega)))
      have o5 := ho.below b5
      have B5 := hb.trans (b5.mono hb.size)
      obtain ⟨hcy, hfy, hst, hbt⟩ := o5.store j hlt (ps.getD d 0)
      rw [hfs] at hst
      have HST := hidden hst
      have HB : Hid (Below w2.heap.size w2 (w5.setCell ⟨w2.heap.size, j, none⟩ (.int .i64 (ps.getD d 0)))) := B5.setCell (Nat.le_refl _) _
      generalize ps.getD d 0 = y at hcd HST HB
      generalize (pickL x s ps j ++ List.replicate (m - j) 0).getD j 0 = old at hcy
      have i1 : (0 : Int) <= (d : Int) := by omega
      have i2 : (d : Int) < ((m + 1 : Nat) : Int) := by omega
      have i3 : (0 : Int) <= (j : Int) := by omega
      have i4 : (j : Int) < (m : Int) := by omega
      clear k0 k1 k2 k3 k4 k5 k6 k7 k8 k9 k10 k11 k12 Xr b5 ho hb hst hbt o5 B5 hfs d1 d2 hd
      go_wp2
      go_roundw
      case rel => exact ⟨j + 1, by omega, by go_num, HST.out, HB.out⟩
      case measure => simp [intOf]; omega
    . have ej : j = m := by omega
      subst ej
      rw [Nat.sub_self, List.replicate_zero, List.append_nil] at ho
      have FO := hidden ((own_ints ho.1).widen (lo' := w.heap.size) B2.size (Nat.le_refl _))
      have FB := hidden (B2.trans (hb.mono B2.size))
      clear ho hb
      go_wp2
      refine bodyPost_ret (v := .tuple #[.slice (some ⟨w2.heap.size, 0, none⟩) j j, .bool true]) (by simp [results, Tryz.results61, go_sem]) rfl ?_
      exact ⟨_, _, _, by rw [HOK.out], by rw [HD.out]; exact FO.out, FB.out⟩

def Found (ds : List (Int × List Int)) (t : Int) (w : World) (e : Ending) (w' : World) : Prop := ∃ (k : Nat) (r : Bool), e = .returned (.tuple #[.int .i64 k, .bool r]) /\ Spot ds t k r /\ Below w.heap.size w w'

theorem stripe_any (w : World) (y : Int) (a : Option Addr) (n c : Nat) : Calls Tryz.prog 124 #[.agg #[.int .i64 y, .slice a n c]] w fun e w' => e = .returned (.int .i64 y) /\ Below w.heap.size w w' := by
 have hA := new_below w (.cells #[.int .i64 y, .slice a n c] 71)
 have xm := Box.new w 71 #[.int .i64 y, .slice a n c]
 have c0 : (w.alloc (.cells #[.int .i64 y, .slice a n c] 71)).cell? ⟨w.heap.size, 0, none⟩ = some (.int .i64 y) := xm.cell 0
 have HA := hidden hA
 clear hA xm
 go_enter Tryz.func124, Tryz.ntmps124
 go_wp2
 go_ret
 exact ⟨rfl, HA.out⟩

theorem find1_any (w : World) (y t : Int) (a : Option Addr) (n c : Nat) (hy : 0 <= y /\ y <= 100) (ht : 0 <= t /\ t <= 100) : Calls Tryz.prog 88 #[.agg #[.int .i64 y, .slice a n c], .int .i64 t] w fun e w' => e = .returned (.int .i64 (y - t)) /\ Below w.heap.size w w' := by
 have hA := new_below w (.cells #[.int .i64 y, .slice a n c] 71)
 have xm := Box.new w 71 #[.int .i64 y, .slice a n c]
 have c0 : (w.alloc (.cells #[.int .i64 y, .slice a n c] 71)).cell? ⟨w.heap.size, 0, none⟩ = some (.int .i64 y) := xm.cell 0
 have c1 : (w.alloc (.cells #[.int .i64 y, .slice a n c] 71)).cell? ⟨w.heap.size, 1, none⟩ = some (.slice a n c) := xm.cell 1
 have HA := hidden hA
 have gw : IntKind.i64.wrap (y - t) = y - t := IntWalk.i64_in _ (by omega)
 have na : ∀ w, Sem.run Tryz.prog (nilAhead (247 + 1) 71 (.agg #[.int .i64 y, .slice a n c]) "loop.example/g00398/impl.stripe") w = .ok (some false) w := fun w => by kernel_rfl
 clear hA xm
 go_enter Tryz.func88, Tryz.ntmps88
 go_wp2_with fail
 refine (stripe_any _ _ _ _ _).mono ?_
 rintro e w1 ⟨rfl, b1⟩
 have HB := hidden (Below.andThen HA.out b1)
 clear b1 HA c0 c1
 go_wp2
 go_ret
 exact ⟨rfl, HB.out⟩

theorem bsearch_any (w : World) (G : TypeId) (a : Option Addr) (len cap : Nat) (ds : List (Int × List Int)) (t : Int) (h1 : (tWrS G).Rd w [.slice a len cap] ds) (hlen : len <= 2097152) (ha : Asc8 ds) (ht : 0 <= t /\ t <= 100) :
 Calls Tryz.prog 87 #[.slice a len cap, .int .i64 t, .func (Fn.func 88) #[] #[]] w fun e w' => Found ds t w e w' := by
 obtain ⟨hz, _, _⟩ := row_length h1
 have HT := hidden ht
 have HASC := hidden ha
 clear ht ha
 go_enter Tryz.func87, Tryz.ntmps87
 go_wp2
 go_loopw [9, 10] (fun iv jv wr => ∃ (i j : Nat), i <= j /\ j <= len /\ iv = .int .i64 i /\ jv = .int .i64 j /\ (∀ q e, q < i -> ds[q]? = some e -> e.1 < t) /\ (∀ q e, j <= q -> ds[q]? = some e -> t <= e.1) /\ Below w.heap.size w wr) (fun iv jv _ => (intOf jv).toNat - (intOf iv).toNat)
 case atStart => exact ⟨0, len, Nat.zero_le _, Nat.le_refl _, rfl, rfl, fun q e h => absurd h (by omega), fun q e h he => absurd (List.getElem?_eq_some_iff.1 he).1 (by omega), Below.refl _ _⟩
 case round =>
  obtain ⟨i, j, hij, hj, rfl, rfl, hlo, hhi, hs⟩ := hrel
  by_cases hlt : i < j
  . have k1 : (i : Int) < (j : Int) := by omega
    rcases pairs_at rfl h1 with h0 | ⟨b, off, rfl, hbl, hcs⟩
    . omega
    obtain ⟨m, hm⟩ : ∃ m : Nat, ((i : Int) + (j : Int)) / 2 = (m : Int) := ⟨(i + j) / 2, by omega⟩
    have hm1 : i <= m := by omega
    have hm2 : m < j := by omega
    have hdj : ds[m]? = some (ds[m]'(by omega)) := List.getElem?_eq_getElem (by omega)
    generalize ds[m]'(by omega) = d at hdj
    obtain ⟨u0, u1, hv0, hv1, hrv⟩ := hcs m d hdj
    obtain ⟨rfl, hr1⟩ := wr_rd hrv
    obtain ⟨y, ys⟩ := d
    simp only at hv0 hr1
    obtain ⟨a1, c1, rfl⟩ := row_shape hr1
    have hc0 := (hs.cell (p := ⟨b, off + m * 2, none⟩) hbl).trans hv0
    have hc1 := (hs.cell (p := ⟨b, off + m * 2 + 1, none⟩) hbl).trans hv1
    have gw1 : IntKind.i64.wrap ((i : Int) + (j : Int)) = (i : Int) + (j : Int) := IntWalk.i64_in _ (by omega)
    have gw3 : IntKind.i64.wrap (m : Int) = (m : Int) := IntWalk.i64_in _ (by omega)
    have k2 : (0 : Int) <= (m : Int) := by omega
    have k3 : (m : Int) < (len : Int) := by omega
    have HLO := hidden hlo
    have HHI := hidden hhi
    have HDJ := hidden hdj
    have HS := hidden hs
    have HY : Hid (0 <= y /\ y <= 100) := HASC.out.2 m _ hdj
    clear hlo hhi hcs hv0 hv1 hrv hr1 hdj hs
    go_wp2_with fail
    refine (find1_any _ _ _ _ _ _ HY.out HT.out).mono ?_
    rintro e w1 ⟨rfl, b1⟩
    have HB := hidden (Below.andThen HS.out b1)
    clear b1 HS hc0 hc1
    by_cases hx : y - t < 0
    . go_wp2
      go_roundw
      case rel => exact ⟨m + 1, j, by omega, hj, by go_num, rfl, fun q e hq he => by
       by_cases hqm : q = m
       . subst hqm
         rw [HDJ.out] at he
         simp at he
         subst he
         show y < t
         omega
       . have := HASC.out.1 q m e _ (by omega) he HDJ.out
         have : e.1 < y := this
         omega, HHI.out, HB.out⟩
      case measure => simp [intOf]; omega
    . go_wp2
      go_roundw
      case rel => exact ⟨i, m, hm1, by omega, rfl, rfl, HLO.out, fun q e hq he => by
       by_cases hqm : q = m
       . subst hqm
         rw [HDJ.out] at he
         simp at he
         subst he
         show t <= y
         omega
       . have := HASC.out.1 m q _ e (by omega) HDJ.out he
         have : y < e.1 := this
         omega, HB.out⟩
      case measure => simp [intOf]; omega
  . have e : i = j := by omega
    subst e
    by_cases hil : i < len
    . rcases pairs_at rfl h1 with h0 | ⟨b, off, rfl, hbl, hcs⟩
      . omega
      have hdj : ds[i]? = some (ds[i]'(by omega)) := List.getElem?_eq_getElem (by omega)
      generalize ds[i]'(by omega) = d at hdj
      obtain ⟨u0, u1, hv0, hv1, hrv⟩ := hcs i d hdj
      obtain ⟨rfl, hr1⟩ := wr_rd hrv
      obtain ⟨y, ys⟩ := d
      simp only at hv0 hr1
      obtain ⟨a1, c1, rfl⟩ := row_shape hr1
      have hc0 := (hs.cell (p := ⟨b, off + i * 2, none⟩) hbl).trans hv0
      have hc1 := (hs.cell (p := ⟨b, off + i * 2 + 1, none⟩) hbl).trans hv1
      have k2 : (0 : Int) <= (i : Int) := by omega
      have k3 : (i : Int) < (len : Int) := by omega
      have HLO := hidden hlo
      have HHI := hidden hhi
      have HDJ := hidden hdj
      have HS := hidden hs
      have HY : Hid (0 <= y /\ y <= 100) := HASC.out.2 i _ hdj
      clear hlo hhi hcs hv0 hv1 hrv hr1 hdj hs
      go_wp2_with fail
      refine (find1_any _ _ _ _ _ _ HY.out HT.out).mono ?_
      rintro e w1 ⟨rfl, b1⟩
      have HB := hidden (Below.andThen HS.out b1)
      clear b1 HS hc0 hc1
      by_cases hx : y - t = 0
      . have HP : Hid (Spot ds t i true) := ⟨by omega, HLO.out, HHI.out, .inl ⟨rfl, _, HDJ.out, by show y = t; omega⟩⟩
        go_wp2
        go_ret2
        exact ⟨i, true, by first | rfl | simp [hx], HP.out, HB.out⟩
      . have HP : Hid (Spot ds t i false) := ⟨by omega, HLO.out, HHI.out, .inr ⟨rfl, fun e he h' => by
         rw [HDJ.out] at he
         simp at he
         subst he
         have : y = t := h'
         omega⟩⟩
        have e1 : (y - t == 0) = false := by simpa using hx
        go_wp2
        go_ret2
        exact ⟨i, false, by first | rfl | simp [hx], HP.out, HB.out⟩
    . have HP : Hid (Spot ds t i false) := ⟨by omega, hlo, hhi, .inr ⟨rfl, fun e he => by have := (List.getElem?_eq_some_iff.1 he).1; omega⟩⟩
      have k3 : ¬ (i : Int) < (len : Int) := by omega
      have HS := hidden hs
      clear hlo hhi hs
      go_wp2
      go_ret2
      exact ⟨i, false, by first | rfl | simp, HP.out, HS.out⟩

theorem find_any (w : World) (G : TypeId) (a : Option Addr) (len cap : Nat) (ds : List (Int × List Int)) (t : Int) (h1 : (tWrS G).Rd w [.slice a len cap] ds) (hlen : len <= 2097152) (ha : Asc8 ds) (ht : 0 <= t /\ t <= 100) :
 Calls Tryz.prog 71 #[.slice a len cap, .int .i64 t] w fun e w' => Found ds t w e w' := by
 go_enter Tryz.func71, Tryz.ntmps71
 go_wp2_with fail
 refine (bsearch_any _ G _ _ _ ds t h1 hlen ha ht).mono ?_
 rintro e w1 ⟨k, r, rfl, hp, b1⟩
 have HP := hidden hp
 have HB := hidden b1
 clear hp b1 h1 ha ht
 go_wp2
 go_ret2
 exact ⟨k, r, rfl, HP.out, HB.out⟩

def Asked (ds : List (Int × List Int)) (t : Int) (Q : Nat -> List Int -> Option Addr -> Nat -> Prop) (w : World) (e : Ending) (w' : World) : Prop :=
 ((at8 ds t = -1 /\ e = .returned (.tuple #[.agg #[.int .i64 0, .slice none 0 0], .bool false])) ∨ ∃ (k : Nat) (ys : List Int) (a' : Option Addr) (c' : Nat), at8 ds t = (k : Int) /\ ds[k]? = some (t, ys) /\ e = .returned (.tuple #[.agg #[.int .i64 t, .slice a' ys.length c'], .bool true]) /\ Q k ys a' c') /\ Below w.heap.size w w'
theorem of_any (w : World) (G : TypeId) (a : Option Addr) (len cap : Nat) (ds : List (Int × List Int)) (t : Int) (h1 : (tWrS G).Rd w [.slice a len cap] ds) (hlen : len <= 2097152) (ha : Asc8 ds) (ht : 0 <= t /\ t <= 100) (Q : Nat -> List Int -> Option Addr -> Nat -> Prop) (hQ : EntsSo w a ds Q) :
 Calls Tryz.prog 59 #[.slice a len cap, .int .i64 t] w fun e w' => Asked ds t Q w e w' := by
 have hA := new_below w (.cells #[.int .i64 0, .slice none 0 0] 71)
 have R0 := Box.new w 71 #[.int .i64 0, .slice none 0 0]
 have zR := R0.lt
 have r1 := h1.below hA
 have HA := hidden hA
 have hl := (row_length h1).1
 clear h1
 go_enter Tryz.func59, Tryz.ntmps59
 go_wp2_with fail
 generalize w.alloc (.cells #[.int .i64 0, .slice none 0 0] 71) = W at hA R0 zR r1 HA ⊢
 refine (find_any _ G _ _ _ ds t r1 hlen ha ht).mono ?_
 rintro e w1 ⟨k, r, rfl, hp, b1⟩
 have R1 := R0.below b1 zR
 have B1 := Below.andThen hA b1
 have z1 := b1.size
 clear R0 r1 b1 hA HA
 cases r
 . have HM := hidden (hp.miss ha)
   have BN := new_below w1 (.cells #[.int .i64 0, .slice none 0 0] 71)
   have N1 := Box.new w1 71 #[.int .i64 0, .slice none 0 0]
   have R2 := R1.below BN R1.lt
   have B2 := Below.andThen B1 BN
   have n0 := N1.cell 0
   have n1 := N1.cell 1
   have s0 := R2.cell 0
   have s1 := R2.cell 1
   have fz := R2.frozen
   have HB : Hid (Below w.heap.size w (((w1.alloc (.cells #[.int .i64 0, .slice none 0 0] 71)).setCell ⟨w.heap.size, 0, none⟩ (.int .i64 0)).setCell ⟨w.heap.size, 1, none⟩ (.slice none 0 0))) := (B2.setCell (Nat.le_refl _) _).setCell (Nat.le_refl _) _
   clear R1 B1 BN N1 R2 B2 hp hQ ha ht
   go_wp2
   refine bodyPost_ret (v := .tuple #[.agg #[.int .i64 0, .slice none 0 0], .bool false]) (by simp [results, Tryz.results59, go_sem, s0, s1]) rfl ?_
   exact ⟨.inl ⟨HM.out, rfl⟩, HB.out⟩
 . obtain ⟨hat, d, hdk, hdt⟩ := hp.hit
   obtain ⟨y, ys⟩ := d
   simp only at hdt
   subst hdt
   obtain ⟨b, off, a1, c1, rfl, hbl, hv0, hv1, hq⟩ := hQ k _ hdk
   have hc0 := (B1.cell (p := ⟨b, off + k * 2, none⟩) hbl).trans hv0
   have hc1 := (B1.cell (p := ⟨b, off + k * 2 + 1, none⟩) hbl).trans hv1
   have hkl := (List.getElem?_eq_some_iff.1 hdk).1
   have k2 : (0 : Int) <= (k : Int) := by omega
   have k3 : (k : Int) < (len : Int) := by omega
   have s0 := R1.cell 0
   have s1 := R1.cell 1
   have fz := R1.frozen
   have HH := hidden hat
   have HK := hidden hdk
   have HQ := hidden hq
   have HB : Hid (Below w.heap.size w ((w1.setCell ⟨w.heap.size, 0, none⟩ (.int .i64 y)).setCell ⟨w.heap.size, 1, none⟩ (.slice a1 ys.length c1))) := (B1.setCell (Nat.le_refl _) _).setCell (Nat.le_refl _) _
   clear R1 B1 hp hQ ha ht hat hdk hq hv0 hv1
   go_wp2
   refine bodyPost_ret (v := .tuple #[.agg #[.int .i64 y, .slice a1 ys.length c1], .bool true]) (by simp [results, Tryz.results59, go_sem, s0, s1]) rfl ?_
   exact ⟨.inr ⟨k, ys, a1, c1, HH.out, HK.out, rfl, HQ.out⟩, HB.out⟩

theorem l8Code_any (w : World) (E F G : TypeId) (x : ArrN) (am ad : Option Addr) (nm cm nd cd : Nat) (ms : List MemD) (ds : List (Int × List Int)) (b : Int) (h0 : (tMemS E F).Rd w [.slice am nm cm] ms) (h1 : (tWrS G).Rd w [.slice ad nd cd] ds) (hw : wtArr ms ds <= 2097152) :
 Calls Tryz.prog 30 #[.agg #[.int .i64 x.id, .int .i64 x.n, .int .i64 x.s, .slice am nm cm, .int .i64 x.lost, .int .i64 x.built, .int .i64 x.seq, .int .i64 x.tail, .int .i64 x.gen, .slice ad nd cd, .int .i64 x.fuse, .bool x.down, .bool x.broken], .int .i64 b] w fun e w' => e = .returned (.int .i64 (code8 x ms ds b)) /\ Below w.heap.size w w' := by
 have hA := new_below w (.cells #[.int .i64 x.id, .int .i64 x.n, .int .i64 x.s, .slice am nm cm, .int .i64 x.lost, .int .i64 x.built, .int .i64 x.seq, .int .i64 x.tail, .int .i64 x.gen, .slice ad nd cd, .int .i64 x.fuse, .bool x.down, .bool x.broken] 35)
 have X := Box.new w 35 #[.int .i64 x.id, .int .i64 x.n, .int .i64 x.s, .slice am nm cm, .int .i64 x.lost, .int .i64 x.built, .int .i64 x.seq, .int .i64 x.tail, .int .i64 x.gen, .slice ad nd cd, .int .i64 x.fuse, .bool x.down, .bool x.broken]
 have zX := X.lt
 obtain ⟨k0, k1, k2, k3, k4, k5, k6, k7, k8, k9, k10, k11, k12⟩ := X.cells13
 have r0 := h0.below hA
 have r1 := h1.below hA
 have HV : Hid (code8 x ms ds b = if ask8 x ms ds = 0 then (if blockB x.n x.s b = true then 0 else 2) else ask8 x ms ds) := rfl
 have HU : Hid (ask8 x ms ds = if arrB x ms ds = true then (if x.down = true then 6 else 0) else 1) := rfl
 go_enter Tryz.func30, Tryz.ntmps30
 go_wp2_with fail
 generalize w.alloc (.cells #[.int .i64 x.id, .int .i64 x.n, .int .i64 x.s, .slice am nm cm, .int .i64 x.lost, .int .i64 x.built, .int .i64 x.seq, .int .i64 x.tail, .int .i64 x.gen, .slice ad nd cd, .int .i64 x.fuse, .bool x.down, .bool x.broken] 35) = W at hA X zX r0 r1 k0 k1 k2 k3 k4 k5 k6 k7 k8 k9 k10 k11 k12 ⊢
 refine (specArrOk_any _ E F G x _ _ _ _ _ _ ms ds r0 r1 hw).mono ?_
 rintro e w1 ⟨rfl, b1⟩
 have X1 := X.below b1 zX
 have zX1 := X1.lt
 have HB := hidden (Below.andThen hA b1)
 clear k0 k1 k2 k3 k4 k5 k6 k7 k8 k9 k10 k11 k12 X r0 r1 b1 hA
 obtain ⟨k0, k1, k2, k3, k4, k5, k6, k7, k8, k9, k10, k11, k12⟩ := X1.cells13
 clear X1
 cases ha : arrB x ms ds
 . have HR : Hid (1 = code8 x ms ds b) := by unfold Hid; rw [HV.out, HU.out, if_neg (show ¬ arrB x ms ds = true by simp [ha])]; rfl
   clear ha
   go_wp2
   go_ret
   exact ⟨ret_int HR.out, HB.out⟩
 . cases hd : x.down
   . have hq0 : ask8 x ms ds = 0 := by rw [HU.out, if_pos ha, if_neg (by simp [hd])]
     have HV2 : Hid (code8 x ms ds b = if blockB x.n x.s b = true then 0 else 2) := by unfold Hid; rw [HV.out, if_pos hq0]
     clear hq0
     have hg := arr_geo ha
     have hbn : 1 <= blocksN x.n x.s /\ blocksN x.n x.s <= 1000 := by
      obtain ⟨g1, g2, g3, g4⟩ := geoB_iff.1 hg
      unfold blocksN
      rw [if_pos hg]
      have h1 : 1 * 2 <= x.s * (x.n - 1) := Int.mul_le_mul g3 (by omega) (by omega) (by omega)
      have h2 : x.s * (x.n - 1) <= 8 * 4 := Int.mul_le_mul g4 (by omega) (by omega) (by omega)
      omega
     rw [hd] at k11
     have HBB : Hid (blockB x.n x.s b = inB b 0 (blocksN x.n x.s - 1)) := rfl
     clear ha hd HV HU hg
     go_wp2_with fail
     refine (specBlocks_any _ x.n x.s).mono ?_
     rintro e w2 ⟨rfl, b2⟩
     have HB2 := hidden (Below.andThen HB.out b2)
     clear k0 k1 k2 k3 k4 k5 k6 k7 k8 k9 k10 k11 k12 b2 HB
     generalize blocksN x.n x.s = bn at hbn HBB ⊢
     have gw : IntKind.i64.wrap (bn - 1) = bn - 1 := IntWalk.i64_in _ (by omega)
     go_wp2_with fail
     refine (l1In_any _ _ _ _).mono ?_
     rintro e w3 ⟨rfl, hw3⟩
     subst w3
     rw [← HBB.out]
     cases hb : blockB x.n x.s b
     . have HR : Hid (2 = code8 x ms ds b) := by unfold Hid; rw [HV2.out, if_neg (by simp [hb])]
       clear hb
       go_wp2
       go_ret
       exact ⟨ret_int HR.out, HB2.out⟩
     . have HR : Hid (0 = code8 x ms ds b) := by unfold Hid; rw [HV2.out, if_pos hb]
       clear hb
       go_wp2
       go_ret
       exact ⟨ret_int HR.out, HB2.out⟩
   . have HR : Hid (6 = code8 x ms ds b) := by unfold Hid; rw [HV.out, HU.out, if_pos ha, if_pos hd]; rfl
     rw [hd] at k11
     clear ha hd
     go_wp2
     go_ret
     exact ⟨ret_int HR.out, HB.out⟩

theorem dataNow_any (w : World) (E F G : TypeId) (x : ArrN) (am ad : Option Addr) (nm cm nd cd : Nat) (ms : List MemD) (ds : List (Int × List Int)) (s : Int) (h0 : (tMemS E F).Rd w [.slice am nm cm] ms) (h1 : (tWrS G).Rd w [.slice ad nd cd] ds) (hw : wtArr ms ds <= 2097152) (ha : arrB x ms ds = true) (hs : inB s 0 (x.s - 1) = true) :
 Calls Tryz.prog 40 #[.agg #[.int .i64 x.id, .int .i64 x.n, .int .i64 x.s, .slice am nm cm, .int .i64 x.lost, .int .i64 x.built, .int .i64 x.seq, .int .i64 x.tail, .int .i64 x.gen, .slice ad nd cd, .int .i64 x.fuse, .bool x.down, .bool x.broken], .int .i64 s] w fun e w' => ∃ a' l' c', e = .returned (.tuple #[.slice a' l' c', .bool (ok8 x ms ds s)]) /\ tIntS.Own w' w.heap.size w'.heap.size [.slice a' l' c'] (dat8 x ms ds s) /\ Below w.heap.size w w' := by
 have hwd : wtWrS ds <= 2097152 := by unfold wtArr at hw; omega
 obtain ⟨hl1, _, _⟩ := row_length h1
 have hnd : nd <= 2097152 := by unfold wtWrS at hwd; omega
 obtain ⟨_, _, _, g4⟩ := geoB_iff.1 (arr_geo ha)
 have hsr : 0 <= s /\ s <= 100 := by have := inB_iff.1 hs; omega
 have HASC := hidden (arr_asc ha)
 have HE : Hid (at8 ds s = -1 -> ok8 x ms ds s = wordsOk6 x ms ds s /\ dat8 x ms ds s = dataL6 x ms ds s) := fun hat => by
  unfold ok8 dat8 wordsOk6 dataL6 okB6
  rw [if_pos hat, if_pos hat, ha, hs]
  cases x.broken <;> exact ⟨rfl, rfl⟩
 have HI : Hid (∀ (k : Nat) (ys : List Int), at8 ds s = (k : Int) -> ds[k]? = some (s, ys) -> ok8 x ms ds s = true /\ dat8 x ms ds s = ys /\ ys.length <= 2097152) := fun k ys hat hk => by
  have hil : ys.length <= wtWrS ds := inner_le' hk
  unfold ok8 dat8
  rw [if_neg (by omega), if_neg (by omega), hat, Int.toNat_natCast, List.getD_eq_getElem?_getD, hk]
  exact ⟨rfl, rfl, by show ys.length <= _; omega⟩
 have hA := new_below w (.cells #[.int .i64 x.id, .int .i64 x.n, .int .i64 x.s, .slice am nm cm, .int .i64 x.lost, .int .i64 x.built, .int .i64 x.seq, .int .i64 x.tail, .int .i64 x.gen, .slice ad nd cd, .int .i64 x.fuse, .bool x.down, .bool x.broken] 35)
 have X := Box.new w 35 #[.int .i64 x.id, .int .i64 x.n, .int .i64 x.s, .slice am nm cm, .int .i64 x.lost, .int .i64 x.built, .int .i64 x.seq, .int .i64 x.tail, .int .i64 x.gen, .slice ad nd cd, .int .i64 x.fuse, .bool x.down, .bool x.broken]
 have zX := X.lt
 obtain ⟨k0, k1, k2, k3, k4, k5, k6, k7, k8, k9, k10, k11, k12⟩ := X.cells13
 have r0 := h0.below hA
 have r1 := h1.below hA
 go_enter Tryz.func40, Tryz.ntmps40
 go_wp2_with fail
 generalize w.alloc (.cells #[.int .i64 x.id, .int .i64 x.n, .int .i64 x.s, .slice am nm cm, .int .i64 x.lost, .int .i64 x.built, .int .i64 x.seq, .int .i64 x.tail, .int .i64 x.gen, .slice ad nd cd, .int .i64 x.fuse, .bool x.down, .bool x.broken] 35) = W at hA X zX r0 r1 k0 k1 k2 k3 k4 k5 k6 k7 k8 k9 k10 k11 k12 ⊢
 refine (of_any _ G _ _ _ ds s r1 hnd HASC.out hsr _ (ents_so r1)).mono ?_
 rintro e w1 ⟨hcase, b1⟩
 have z1 := b1.size
 have B1 := Below.andThen hA b1
 rcases hcase with ⟨hat, rfl⟩ | ⟨k, ys, a1, c1, hat, hk, rfl, hq⟩
 . have HV := hidden (HE.out hat)
   have X1 := (X.below b1 zX).alloc (.cells #[.int .i64 0, .slice none 0 0] 71)
   have BN := new_below w1 (.cells #[.int .i64 0, .slice none 0 0] 71)
   have B2 := Below.andThen B1 BN
   have r0' := (r0.below b1).below BN
   have r1' := (r1.below b1).below BN
   clear k0 k1 k2 k3 k4 k5 k6 k7 k8 k9 k10 k11 k12 X r0 r1 b1 hA hat HE HI B1 BN
   obtain ⟨k0, k1, k2, k3, k4, k5, k6, k7, k8, k9, k10, k11, k12⟩ := X1.cells13
   clear X1
   go_wp2_with fail
   generalize w1.alloc (.cells #[.int .i64 0, .slice none 0 0] 71) = w2 at B2 r0' r1' k0 k1 k2 k3 k4 k5 k6 k7 k8 k9 k10 k11 k12 ⊢
   refine (implDataOf_any _ E F G x _ _ _ _ _ _ ms ds s r0' r1' hw).mono ?_
   rintro e w3 ⟨a3, l3, c3, rfl, o3, b3⟩
   have HB := hidden (Below.andThen B2 b3)
   have HO := hidden (o3.widen (lo' := w.heap.size) B2.size (Nat.le_refl _))
   clear k0 k1 k2 k3 k4 k5 k6 k7 k8 k9 k10 k11 k12 r0' r1' b3 o3 B2
   go_wp2
   go_ret2
   rw [HV.out.1, HV.out.2]
   exact ⟨a3, l3, c3, rfl, HO.out, HB.out⟩
 . have HV := hidden (HI.out k ys hat hk)
   have BN := new_below w1 (.cells #[.int .i64 s, .slice a1 ys.length c1] 71)
   have N1 := Box.new w1 71 #[.int .i64 s, .slice a1 ys.length c1]
   have n1 := N1.cell 1
   have B2 := Below.andThen B1 BN
   have q2 := (hq.below b1).below BN
   clear k0 k1 k2 k3 k4 k5 k6 k7 k8 k9 k10 k11 k12 X r0 r1 b1 hA hat hk HE HI B1 BN N1 hq
   go_wp2_with fail
   generalize w1.alloc (.cells #[.int .i64 s, .slice a1 ys.length c1] 71) = w2 at B2 q2 n1 ⊢
   refine (copyWords_any _ _ _ _ ys q2 HV.out.2.2).mono ?_
   rintro e w3 ⟨a3, c3, rfl, o3, b3⟩
   have HB := hidden (Below.andThen B2 b3)
   have HO := hidden (o3.widen (lo' := w.heap.size) B2.size (Nat.le_refl _))
   clear q2 n1 b3 o3 B2
   go_wp2
   go_ret2
   rw [HV.out.1, HV.out.2.1]
   exact ⟨a3, ys.length, c3, rfl, HO.out, HB.out⟩

theorem specGetBlock_any (w : World) (E F G : TypeId) (x : ArrN) (am ad : Option Addr) (nm cm nd cd : Nat) (ms : List MemD) (ds : List (Int × List Int)) (b : Int) (h0 : (tMemS E F).Rd w [.slice am nm cm] ms) (h1 : (tWrS G).Rd w [.slice ad nd cd] ds) (hw : wtArr ms ds <= 2097152) :
 Calls Tryz.prog 16 #[.agg #[.int .i64 x.id, .int .i64 x.n, .int .i64 x.s, .slice am nm cm, .int .i64 x.lost, .int .i64 x.built, .int .i64 x.seq, .int .i64 x.tail, .int .i64 x.gen, .slice ad nd cd, .int .i64 x.fuse, .bool x.down, .bool x.broken], .int .i64 b] w fun e w' => e = .returned (.tuple #[.int .i64 (get8 x ms ds b), .int .i64 (get8C x ms ds b)]) /\ Below w.heap.size w w' := by
 have hA := new_below w (.cells #[.int .i64 x.id, .int .i64 x.n, .int .i64 x.s, .slice am nm cm, .int .i64 x.lost, .int .i64 x.built, .int .i64 x.seq, .int .i64 x.tail, .int .i64 x.gen, .slice ad nd cd, .int .i64 x.fuse, .bool x.down, .bool x.broken] 35)
 have X := Box.new w 35 #[.int .i64 x.id, .int .i64 x.n, .int .i64 x.s, .slice am nm cm, .int .i64 x.lost, .int .i64 x.built, .int .i64 x.seq, .int .i64 x.tail, .int .i64 x.gen, .slice ad nd cd, .int .i64 x.fuse, .bool x.down, .bool x.broken]
 have zX := X.lt
 obtain ⟨k0, k1, k2, k3, k4, k5, k6, k7, k8, k9, k10, k11, k12⟩ := X.cells13
 have r0 := h0.below hA
 have r1 := h1.below hA
 have HC : Hid (get8C x ms ds b = if code8 x ms ds b = 0 then (if ok8 x ms ds (stripeN x.n x.s b) = true then 0 else 5) else code8 x ms ds b) := rfl
 have HV : Hid (get8 x ms ds b = if code8 x ms ds b = 0 /\ ok8 x ms ds (stripeN x.n x.s b) = true then (dat8 x ms ds (stripeN x.n x.s b)).getD (indexN x.n x.s b).toNat 0 else 0) := rfl
 go_enter Tryz.func16, Tryz.ntmps16
 go_wp2_with fail
 generalize w.alloc (.cells #[.int .i64 x.id, .int .i64 x.n, .int .i64 x.s, .slice am nm cm, .int .i64 x.lost, .int .i64 x.built, .int .i64 x.seq, .int .i64 x.tail, .int .i64 x.gen, .slice ad nd cd, .int .i64 x.fuse, .bool x.down, .bool x.broken] 35) = W at hA X zX r0 r1 k0 k1 k2 k3 k4 k5 k6 k7 k8 k9 k10 k11 k12 ⊢
 refine (l8Code_any _ E F G x _ _ _ _ _ _ ms ds b r0 r1 hw).mono ?_
 rintro e w1 ⟨rfl, b1⟩
 have X1 := X.below b1 zX
 have zX1 := X1.lt
 have p0 := r0.below b1
 have p1 := r1.below b1
 have HB1 := hidden (Below.andThen hA b1)
 clear k0 k1 k2 k3 k4 k5 k6 k7 k8 k9 k10 k11 k12 X r0 r1 b1 hA
 obtain ⟨k0, k1, k2, k3, k4, k5, k6, k7, k8, k9, k10, k11, k12⟩ := X1.cells13
 by_cases hc : code8 x ms ds b = 0
 . skip
   have HX0 := hidden (code_gb hc)
   have HC2 : Hid (get8C x ms ds b = if ok8 x ms ds (stripeN x.n x.s b) = true then 0 else 5) := by unfold Hid; rw [HC.out, if_pos hc]
   have HV2 : Hid (get8 x ms ds b = if ok8 x ms ds (stripeN x.n x.s b) = true then (dat8 x ms ds (stripeN x.n x.s b)).getD (indexN x.n x.s b).toNat 0 else 0) := by
    unfold Hid
    rw [HV.out]
    by_cases hk : ok8 x ms ds (stripeN x.n x.s b) = true
    . rw [if_pos ⟨hc, hk⟩, if_pos hk]
    . rw [if_neg (fun h => hk h.2), if_neg hk]
   obtain ⟨s1, s2, i1, i2⟩ := block_in (arr_geo HX0.out.2.1) HX0.out.2.2.2
   have ht : inB (stripeN x.n x.s b) 0 (x.s - 1) = true := inB_iff.2 ⟨s1, s2⟩
   have hg := arr_geo HX0.out.2.1
   have HDL := hidden (fun hk => dat8_len (s := stripeN x.n x.s b) HX0.out.2.1 hk)
   rw [hc]
   clear hc HC HV HX0
   have hS : w1.drew.cell? ⟨w.heap.size, 0, none⟩ = some (.int .i64 x.id) /\ w1.drew.cell? ⟨w.heap.size, 1, none⟩ = some (.int .i64 x.n) /\ w1.drew.cell? ⟨w.heap.size, 2, none⟩ = some (.int .i64 x.s) /\ w1.drew.cell? ⟨w.heap.size, 3, none⟩ = some (.slice am nm cm) /\ w1.drew.cell? ⟨w.heap.size, 4, none⟩ = some (.int .i64 x.lost) /\ w1.drew.cell? ⟨w.heap.size, 5, none⟩ = some (.int .i64 x.built) /\ w1.drew.cell? ⟨w.heap.size, 6, none⟩ = some (.int .i64 x.seq) /\ w1.drew.cell? ⟨w.heap.size, 7, none⟩ = some (.int .i64 x.tail) /\ w1.drew.cell? ⟨w.heap.size, 8, none⟩ = some (.int .i64 x.gen) /\ w1.drew.cell? ⟨w.heap.size, 9, none⟩ = some (.slice ad nd cd) /\ w1.drew.cell? ⟨w.heap.size, 10, none⟩ = some (.int .i64 x.fuse) /\ w1.drew.cell? ⟨w.heap.size, 11, none⟩ = some (.bool x.down) /\ w1.drew.cell? ⟨w.heap.size, 12, none⟩ = some (.bool x.broken) := ⟨k0, k1, k2, k3, k4, k5, k6, k7, k8, k9, k10, k11, k12⟩
   go_wp2_with fail
   refine wp_region_held_drew (S := fun w' => w'.cell? ⟨w.heap.size, 0, none⟩ = some (.int .i64 x.id) /\ w'.cell? ⟨w.heap.size, 1, none⟩ = some (.int .i64 x.n) /\ w'.cell? ⟨w.heap.size, 2, none⟩ = some (.int .i64 x.s) /\ w'.cell? ⟨w.heap.size, 3, none⟩ = some (.slice am nm cm) /\ w'.cell? ⟨w.heap.size, 4, none⟩ = some (.int .i64 x.lost) /\ w'.cell? ⟨w.heap.size, 5, none⟩ = some (.int .i64 x.built) /\ w'.cell? ⟨w.heap.size, 6, none⟩ = some (.int .i64 x.seq) /\ w'.cell? ⟨w.heap.size, 7, none⟩ = some (.int .i64 x.tail) /\ w'.cell? ⟨w.heap.size, 8, none⟩ = some (.int .i64 x.gen) /\ w'.cell? ⟨w.heap.size, 9, none⟩ = some (.slice ad nd cd) /\ w'.cell? ⟨w.heap.size, 10, none⟩ = some (.int .i64 x.fuse) /\ w'.cell? ⟨w.heap.size, 11, none⟩ = some (.bool x.down) /\ w'.cell? ⟨w.heap.size, 12, none⟩ = some (.bool x.broken)) (by kernel_rfl) ?_ (fun hHeld => ?_)
   . exact hS
   refine held_t 0 hHeld ?_
   refine held_t 1 hHeld ?_
   refine held_t 2 hHeld ?_
   refine held_t 3 hHeld ?_
   refine held_one (i := 4) (by kernel_rfl) rfl (by kernel_rfl) (fun K hK => ?_)
   go_simp
   refine (specStripeOf_any _ x.n x.s b).mono ?_
   rintro e w2 ⟨rfl, b2⟩
   have b2' : Below w1.heap.size w1 w2 := (Below.refl w1.heap.size w1).drew.trans b2
   go_wp2_with fail
   clear hHeld
   refine hK.out _ _ ?_ (fun hHeld => ?_)
   . exact ⟨(b2'.cell (p := ⟨w.heap.size, 0, none⟩) zX1).trans k0, (b2'.cell (p := ⟨w.heap.size, 1, none⟩) zX1).trans k1, (b2'.cell (p := ⟨w.heap.size, 2, none⟩) zX1).trans k2, (b2'.cell (p := ⟨w.heap.size, 3, none⟩) zX1).trans k3, (b2'.cell (p := ⟨w.heap.size, 4, none⟩) zX1).trans k4, (b2'.cell (p := ⟨w.heap.size, 5, none⟩) zX1).trans k5, (b2'.cell (p := ⟨w.heap.size, 6, none⟩) zX1).trans k6, (b2'.cell (p := ⟨w.heap.size, 7, none⟩) zX1).trans k7, (b2'.cell (p := ⟨w.heap.size, 8, none⟩) zX1).trans k8, (b2'.cell (p := ⟨w.heap.size, 9, none⟩) zX1).trans k9, (b2'.cell (p := ⟨w.heap.size, 10, none⟩) zX1).trans k10, (b2'.cell (p := ⟨w.heap.size, 11, none⟩) zX1).trans k11, (b2'.cell (p := ⟨w.heap.size, 12, none⟩) zX1).trans k12⟩
   clear hK K
   refine held_one (i := 5) (by kernel_rfl) rfl (by kernel_rfl) (fun K hK => ?_)
   go_simp
   refine (l8Stripe_any _ E F G x _ _ _ _ _ _ ms ds (stripeN x.n x.s b) (p0.below b2') (p1.below b2') hw hg ht).mono ?_
   rintro e w4 ⟨a4, l4, c4, rfl, o4, b4⟩
   have b4' : Below w1.heap.size w1 w4 := Below.andThen b2' b4
   go_wp2_with fail
   clear hHeld
   refine hK.out _ _ ?_ (fun hHeld => ?_)
   . exact ⟨(b4'.cell (p := ⟨w.heap.size, 0, none⟩) zX1).trans k0, (b4'.cell (p := ⟨w.heap.size, 1, none⟩) zX1).trans k1, (b4'.cell (p := ⟨w.heap.size, 2, none⟩) zX1).trans k2, (b4'.cell (p := ⟨w.heap.size, 3, none⟩) zX1).trans k3, (b4'.cell (p := ⟨w.heap.size, 4, none⟩) zX1).trans k4, (b4'.cell (p := ⟨w.heap.size, 5, none⟩) zX1).trans k5, (b4'.cell (p := ⟨w.heap.size, 6, none⟩) zX1).trans k6, (b4'.cell (p := ⟨w.heap.size, 7, none⟩) zX1).trans k7, (b4'.cell (p := ⟨w.heap.size, 8, none⟩) zX1).trans k8, (b4'.cell (p := ⟨w.heap.size, 9, none⟩) zX1).trans k9, (b4'.cell (p := ⟨w.heap.size, 10, none⟩) zX1).trans k10, (b4'.cell (p := ⟨w.heap.size, 11, none⟩) zX1).trans k11, (b4'.cell (p := ⟨w.heap.size, 12, none⟩) zX1).trans k12⟩
   clear hK K
   refine held_t 6 hHeld ?_
   refine held_t 7 hHeld ?_
   refine held_t 8 hHeld ?_
   refine held_t 9 hHeld ?_
   refine held_t 10 hHeld ?_
   refine wpAnyH_done (by kernel_rfl) ?_ _
   clear hHeld hS
   have BX := Below.andThen HB1.out b4'
   have X4 := X1.below b4' zX1
   have z4 := b4'.size
   clear k0 k1 k2 k3 k4 k5 k6 k7 k8 k9 k10 k11 k12 X1 p0 p1 HB1 b2 b2' b4 b4' hg ht
   generalize stripeN x.n x.s b = s at s1 s2 HC2 HV2 HDL o4 ⊢
   cases hok : ok8 x ms ds s
   . have HR : Hid (get8C x ms ds b = 5 /\ get8 x ms ds b = 0) := by unfold Hid; rw [HC2.out, HV2.out, hok]; exact ⟨rfl, rfl⟩
     have HBX := hidden BX
     clear hok BX o4 HDL
     go_wp2
     go_ret2
     rw [HR.out.1, HR.out.2]
     exact ⟨rfl, HBX.out⟩
   . have HR : Hid (get8C x ms ds b = 0 /\ get8 x ms ds b = (dat8 x ms ds s).getD (indexN x.n x.s b).toNat 0) := by unfold Hid; rw [HC2.out, HV2.out, hok]; exact ⟨rfl, rfl⟩
     have hlen := HDL.out hok
     clear hok HDL HC2 HV2
     obtain ⟨k0, k1, k2, k3, k4, k5, k6, k7, k8, k9, k10, k11, k12⟩ := X4.cells13
     go_wp2_with fail
     refine (specIndexOf_any _ x.n x.s b).mono ?_
     rintro e w5 ⟨rfl, b5⟩
     have o5 := o4.rd.below b5
     have HBX := hidden (Below.andThen BX b5)
     clear k0 k1 k2 k3 k4 k5 k6 k7 k8 k9 k10 k11 k12 b5 BX o4 X4
     generalize indexN x.n x.s b = ix at i1 i2 HR ⊢
     obtain ⟨i, rfl⟩ := Int.eq_ofNat_of_zero_le i1
     rw [Int.toNat_natCast] at HR
     generalize dat8 x ms ds s = zs at o5 hlen HR ⊢
     obtain ⟨hr5, hl5, _, _⟩ := ints_rd o5
     rcases hr5.cases with h0' | ⟨bb, off, rfl, hbl, hcz⟩
     . omega
     have hci := hcz i (by omega)
     have i3 : (i : Int) < (l4 : Int) := by omega
     generalize zs.getD i 0 = v at hci HR
     clear hcz hr5 o5
     go_wp2
     go_ret2
     rw [HR.out.1, HR.out.2]
     exact ⟨rfl, HBX.out⟩
 . have HR : Hid (get8C x ms ds b = code8 x ms ds b /\ get8 x ms ds b = 0) := by unfold Hid; rw [HC.out, HV.out, if_neg hc, if_neg (fun h => hc h.1)]; exact ⟨rfl, rfl⟩
   skip
   have e0 : (code8 x ms ds b != 0) = true := by simpa using hc
   clear hc
   generalize code8 x ms ds b = q at e0 HR ⊢
   go_wp2
   go_ret2
   rw [HR.out.1, HR.out.2]
   exact ⟨rfl, HB1.out⟩

theorem implGetBlock_any (w : World) (E F G : TypeId) (x : ArrN) (am ad : Option Addr) (nm cm nd cd : Nat) (ms : List MemD) (ds : List (Int × List Int)) (b : Int) (h0 : (tMemS E F).Rd w [.slice am nm cm] ms) (h1 : (tWrS G).Rd w [.slice ad nd cd] ds) (hw : wtArr ms ds <= 2097152) :
 Calls Tryz.prog 21 #[.agg #[.int .i64 x.id, .int .i64 x.n, .int .i64 x.s, .slice am nm cm, .int .i64 x.lost, .int .i64 x.built, .int .i64 x.seq, .int .i64 x.tail, .int .i64 x.gen, .slice ad nd cd, .int .i64 x.fuse, .bool x.down, .bool x.broken], .int .i64 b] w fun e w' => e = .returned (.tuple #[.int .i64 (get8 x ms ds b), .int .i64 (get8C x ms ds b)]) /\ Below w.heap.size w w' := by
 have hA := new_below w (.cells #[.int .i64 x.id, .int .i64 x.n, .int .i64 x.s, .slice am nm cm, .int .i64 x.lost, .int .i64 x.built, .int .i64 x.seq, .int .i64 x.tail, .int .i64 x.gen, .slice ad nd cd, .int .i64 x.fuse, .bool x.down, .bool x.broken] 35)
 have X := Box.new w 35 #[.int .i64 x.id, .int .i64 x.n, .int .i64 x.s, .slice am nm cm, .int .i64 x.lost, .int .i64 x.built, .int .i64 x.seq, .int .i64 x.tail, .int .i64 x.gen, .slice ad nd cd, .int .i64 x.fuse, .bool x.down, .bool x.broken]
 have zX := X.lt
 obtain ⟨k0, k1, k2, k3, k4, k5, k6, k7, k8, k9, k10, k11, k12⟩ := X.cells13
 have r0 := h0.below hA
 have r1 := h1.below hA
 have HC : Hid (get8C x ms ds b = if code8 x ms ds b = 0 then (if ok8 x ms ds (stripeN x.n x.s b) = true then 0 else 5) else code8 x ms ds b) := rfl
 have HV : Hid (get8 x ms ds b = if code8 x ms ds b = 0 /\ ok8 x ms ds (stripeN x.n x.s b) = true then (dat8 x ms ds (stripeN x.n x.s b)).getD (indexN x.n x.s b).toNat 0 else 0) := rfl
 go_enter Tryz.func21, Tryz.ntmps21
 go_wp2_with fail
 generalize w.alloc (.cells #[.int .i64 x.id, .int .i64 x.n, .int .i64 x.s, .slice am nm cm, .int .i64 x.lost, .int .i64 x.built, .int .i64 x.seq, .int .i64 x.tail, .int .i64 x.gen, .slice ad nd cd, .int .i64 x.fuse, .bool x.down, .bool x.broken] 35) = W at hA X zX r0 r1 k0 k1 k2 k3 k4 k5 k6 k7 k8 k9 k10 k11 k12 ⊢
 refine (implStripeOf_any _ x.n x.s b).mono ?_
 rintro e wa ⟨rfl, ba⟩
 have Xa := X.below ba zX
 have zXa := Xa.lt
 have q0 := r0.below ba
 have q1 := r1.below ba
 have HBa := hidden (Below.andThen hA ba)
 clear k0 k1 k2 k3 k4 k5 k6 k7 k8 k9 k10 k11 k12 X r0 r1 ba hA
 obtain ⟨k0, k1, k2, k3, k4, k5, k6, k7, k8, k9, k10, k11, k12⟩ := Xa.cells13
 go_wp2_with fail
 refine (stripeCode_any _ E F G x _ _ _ _ _ _ ms ds (stripeN x.n x.s b) q0 q1 hw).mono ?_
 rintro e w1 ⟨rfl, b1⟩
 rw [code_same b]
 have X1 := Xa.below b1 zXa
 have zX1 := X1.lt
 have p0 := q0.below b1
 have p1 := q1.below b1
 have HB1 := hidden (Below.andThen HBa.out b1)
 clear k0 k1 k2 k3 k4 k5 k6 k7 k8 k9 k10 k11 k12 Xa q0 q1 b1 HBa
 obtain ⟨k0, k1, k2, k3, k4, k5, k6, k7, k8, k9, k10, k11, k12⟩ := X1.cells13
 by_cases hc : code8 x ms ds b = 0
 . skip
   have HX0 := hidden (code_gb hc)
   have HC2 : Hid (get8C x ms ds b = if ok8 x ms ds (stripeN x.n x.s b) = true then 0 else 5) := by unfold Hid; rw [HC.out, if_pos hc]
   have HV2 : Hid (get8 x ms ds b = if ok8 x ms ds (stripeN x.n x.s b) = true then (dat8 x ms ds (stripeN x.n x.s b)).getD (indexN x.n x.s b).toNat 0 else 0) := by
    unfold Hid
    rw [HV.out]
    by_cases hk : ok8 x ms ds (stripeN x.n x.s b) = true
    . rw [if_pos ⟨hc, hk⟩, if_pos hk]
    . rw [if_neg (fun h => hk h.2), if_neg hk]
   obtain ⟨s1, s2, i1, i2⟩ := block_in (arr_geo HX0.out.2.1) HX0.out.2.2.2
   have ht : inB (stripeN x.n x.s b) 0 (x.s - 1) = true := inB_iff.2 ⟨s1, s2⟩
   have hg := arr_geo HX0.out.2.1
   have HDL := hidden (fun hk => dat8_len (s := stripeN x.n x.s b) HX0.out.2.1 hk)
   rw [hc]
   clear hc HC HV
   generalize hS : stripeN x.n x.s b = s at s1 s2 HC2 HV2 HDL ht ⊢
   clear hS
   go_wp2_with fail
   refine (dataNow_any _ E F G x _ _ _ _ _ _ ms ds s p0 p1 hw HX0.out.2.1 ht).mono ?_
   rintro e w4 ⟨a4, l4, c4, rfl, o4, b4⟩
   have BX := Below.andThen HB1.out b4
   have X4 := X1.below b4 zX1
   have z4 := b4.size
   clear k0 k1 k2 k3 k4 k5 k6 k7 k8 k9 k10 k11 k12 X1 p0 p1 HB1 b4 hg ht HX0
   cases hok : ok8 x ms ds s
   . have HR : Hid (get8C x ms ds b = 5 /\ get8 x ms ds b = 0) := by unfold Hid; rw [HC2.out, HV2.out, hok]; exact ⟨rfl, rfl⟩
     have HBX := hidden BX
     clear hok BX o4 HDL
     go_wp2
     go_ret2
     rw [HR.out.1, HR.out.2]
     exact ⟨rfl, HBX.out⟩
   . have HR : Hid (get8C x ms ds b = 0 /\ get8 x ms ds b = (dat8 x ms ds s).getD (indexN x.n x.s b).toNat 0) := by unfold Hid; rw [HC2.out, HV2.out, hok]; exact ⟨rfl, rfl⟩
     have hlen := HDL.out hok
     clear hok HDL HC2 HV2
     obtain ⟨k0, k1, k2, k3, k4, k5, k6, k7, k8, k9, k10, k11, k12⟩ := X4.cells13
     go_wp2_with fail
     refine (implIndexOf_any _ x.n x.s b).mono ?_
     rintro e w5 ⟨rfl, b5⟩
     have o5 := o4.rd.below b5
     have HBX := hidden (Below.andThen BX b5)
     clear k0 k1 k2 k3 k4 k5 k6 k7 k8 k9 k10 k11 k12 b5 BX o4 X4
     generalize indexN x.n x.s b = ix at i1 i2 HR ⊢
     obtain ⟨i, rfl⟩ := Int.eq_ofNat_of_zero_le i1
     rw [Int.toNat_natCast] at HR
     generalize dat8 x ms ds s = zs at o5 hlen HR ⊢
     obtain ⟨hr5, hl5, _, _⟩ := ints_rd o5
     rcases hr5.cases with h0' | ⟨bb, off, rfl, hbl, hcz⟩
     . omega
     have hci := hcz i (by omega)
     have i3 : (i : Int) < (l4 : Int) := by omega
     generalize zs.getD i 0 = v at hci HR
     clear hcz hr5 o5
     go_wp2
     go_ret2
     rw [HR.out.1, HR.out.2]
     exact ⟨rfl, HBX.out⟩
 . have HR : Hid (get8C x ms ds b = code8 x ms ds b /\ get8 x ms ds b = 0) := by unfold Hid; rw [HC.out, HV.out, if_neg hc, if_neg (fun h => hc h.1)]; exact ⟨rfl, rfl⟩
   skip
   have e0 : (code8 x ms ds b != 0) = true := by simpa using hc
   clear hc
   generalize code8 x ms ds b = q at e0 HR ⊢
   go_wp2
   go_ret2
   rw [HR.out.1, HR.out.2]
   exact ⟨rfl, HB1.out⟩

theorem specContents_any (w : World) (E F G : TypeId) (x : ArrN) (am ad : Option Addr) (nm cm nd cd : Nat) (ms : List MemD) (ds : List (Int × List Int))  (h0 : (tMemS E F).Rd w [.slice am nm cm] ms) (h1 : (tWrS G).Rd w [.slice ad nd cd] ds) (hw : wtArr ms ds <= 2097152) :
 Calls Tryz.prog 5 #[.agg #[.int .i64 x.id, .int .i64 x.n, .int .i64 x.s, .slice am nm cm, .int .i64 x.lost, .int .i64 x.built, .int .i64 x.seq, .int .i64 x.tail, .int .i64 x.gen, .slice ad nd cd, .int .i64 x.fuse, .bool x.down, .bool x.broken]] w fun e w' => ∃ a' l' c', e = .returned (.slice a' l' c') /\ tIntS.Own w' w.heap.size w'.heap.size [.slice a' l' c'] (con10 x ms ds) /\ Below w.heap.size w w' := by
 have hwm : wtMemS ms <= 2097152 := by unfold wtArr at hw; omega
 obtain ⟨hl, hcp, hcm⟩ := row_length h0
 have hA := new_below w (.cells #[.int .i64 x.id, .int .i64 x.n, .int .i64 x.s, .slice am nm cm, .int .i64 x.lost, .int .i64 x.built, .int .i64 x.seq, .int .i64 x.tail, .int .i64 x.gen, .slice ad nd cd, .int .i64 x.fuse, .bool x.down, .bool x.broken] 35)
 have X := Box.new w 35 #[.int .i64 x.id, .int .i64 x.n, .int .i64 x.s, .slice am nm cm, .int .i64 x.lost, .int .i64 x.built, .int .i64 x.seq, .int .i64 x.tail, .int .i64 x.gen, .slice ad nd cd, .int .i64 x.fuse, .bool x.down, .bool x.broken]
 have zA := X.lt
 obtain ⟨k0, k1, k2, k3, k4, k5, k6, k7, k8, k9, k10, k11, k12⟩ := X.cells13
 have r0 := h0.below hA
 have r1 := h1.below hA
 obtain ⟨i0, hi, hz0, hz1, hz2⟩ := info_parts Tryz.info3
 clear k0 k1 k2 k3 k4 k5 k6 k7 k8 k9 k10 k11 k12
 go_enter Tryz.func5, Tryz.ntmps5
 go_wp2
 have hsz : (w.alloc (.cells #[.int .i64 x.id, .int .i64 x.n, .int .i64 x.s, .slice am nm cm, .int .i64 x.lost, .int .i64 x.built, .int .i64 x.seq, .int .i64 x.tail, .int .i64 x.gen, .slice ad nd cd, .int .i64 x.fuse, .bool x.down, .bool x.broken] 35)).heap.size = w.heap.size + 1 := by simp
 have ZW := hidden hsz
 clear hsz
 generalize w.alloc (.cells #[.int .i64 x.id, .int .i64 x.n, .int .i64 x.s, .slice am nm cm, .int .i64 x.lost, .int .i64 x.built, .int .i64 x.seq, .int .i64 x.tail, .int .i64 x.gen, .slice ad nd cd, .int .i64 x.fuse, .bool x.down, .bool x.broken] 35) = W at hA X zA r0 r1 ZW ⊢
 have hO : Owns .i64 3 (W.alloc (.cells #[] 3)) W.heap.size (.slice (some ⟨W.heap.size, 0, none⟩) 0 0) [] := Owns.lit .i64 3 W [] 0 #[] rfl rfl (by unfold maxLen; omega)
 obtain ⟨n, hn⟩ : ∃ n : Nat, blocksN x.n x.s = (n : Int) := ⟨(blocksN x.n x.s).toNat, by have := blocks_in10 x.n x.s; omega⟩
 have hn32 : n <= 32 := by have := blocks_in10 x.n x.s; omega
 have HNT : Hid ((blocksN x.n x.s).toNat = n) := by unfold Hid; omega
 have HN := hidden hn
 clear hn
 go_loopw [3, 4] (fun v i wr => ∃ j : Nat, j <= n /\ i = .int .i64 j /\ Owns .i64 3 wr W.heap.size v (conJ x ms ds j) /\ conOk x ms ds j = true /\ Below W.heap.size W wr) (fun _ i _ => n - (intOf i).toNat)
 case atStart => exact ⟨0, Nat.zero_le _, rfl, by first | exact hO | (rw [ZW.out] at hO; rw [ZW.out]; exact hO), rfl, (Below.refl _ _).alloc (Nat.le_refl _) _⟩
 case round =>
  obtain ⟨j, hj, rfl, ho0, hk, hb0⟩ := hrel
  have zB := hA.size
  have Xq := X.below hb0 zA
  obtain ⟨k0, k1, k2, k3, k4, k5, k6, k7, k8, k9, k10, k11, k12⟩ := Xq.cells13
  have zs0 := hb0.size
  go_wp2_with fail
  refine (specBlocks_any _ x.n x.s).mono ?_
  rintro e w2 ⟨rfl, b2⟩
  rw [HN.out]
  have Xr := Xq.below b2 Xq.lt
  have hb := hb0.trans (b2.mono hb0.size)
  have ho := ho0.below b2 (Nat.le_refl _)
  have zs := hb.size
  clear k0 k1 k2 k3 k4 k5 k6 k7 k8 k9 k10 k11 k12
  clear Xq b2 hb0 ho0
  by_cases hlt : j < n
  . obtain ⟨k0, k1, k2, k3, k4, k5, k6, k7, k8, k9, k10, k11, k12⟩ := Xr.cells13
    have hlt' : (j : Int) < (n : Int) := by omega
    have HK := hidden hk
    clear hk
    go_wp2_with fail
    refine (specGetBlock_any _ E F G x _ _ _ _ _ _ ms ds (j : Int) (r0.below hb) (r1.below hb) hw).mono ?_
    rintro e w3 ⟨rfl, b3⟩
    have B3 := hb.trans (b3.mono hb.size)
    have o3 := ho.below b3 (Nat.le_refl _)
    have z3 := B3.size
    clear k0 k1 k2 k3 k4 k5 k6 k7 k8 k9 k10 k11 k12 Xr b3 hb ho
    have hle := conJ_len x ms ds j
    by_cases ht : get8C x ms ds (j : Int) = 0
    . have HOK := hidden (conOk_succ HK.out ht)
      have HS := hidden (conJ_succ x ms ds j)
      rw [ht]
      clear ht
      generalize get8 x ms ds (j : Int) = y at HS ⊢
      generalize conJ x ms ds j = zz at HS hle o3 ⊢
      go_wp2_with (at_builtin; refine wpList_app .i64 (by rfl) _ _ 29 (by rfl) W.heap.size 3 i0 _ 8 Tryz.underlying29 hi hz0 hz1 hz2 rfl _ zz (by rfl) (o3.alloc _) ⟨w3.heap.size, 0, none⟩ 1 1 [y] (by rfl) rfl (Reads.new _ _ _ _ _ rfl) ?h1 ?h2 ?h3 ?_)
      case h1 => unfold maxLen; omega
      case h2 => omega
      case h3 => simp; omega
      intro v' w5 o5 b5
      have B5 := hidden ((B3.alloc B3.size (.cells #[.int .i64 y] 3)).trans b5)
      rw [← HS.out] at o5
      have O5 := hidden o5
      clear b5 o5 o3 B3
      go_wp2
      go_roundw
      case rel => exact ⟨j + 1, by omega, by go_num, O5.out, HOK.out, B5.out⟩
      case measure => simp [intOf]; omega
    . have FB3 := Below.andThen hA B3
      have HC : Hid (¬ get8C x ms ds (j : Int) = 0) := ht
      have ht' : (get8C x ms ds (j : Int) != 0) = true := by simpa using ht
      have HF : Hid (con10 x ms ds = []) := (con_bad HC.out (by have := HNT.out; omega))
      have FO := hidden ((own_ints (Owns.lit .i64 3 w3 [] 0 #[] rfl rfl (by unfold maxLen; omega))).widen (lo' := w.heap.size) (FB3).size (Nat.le_refl _))
      have FB := hidden ((FB3).alloc (FB3).size (.cells #[] 3))
      go_wp2
      refine bodyPost_ret (v := .slice (some ⟨w3.heap.size, 0, none⟩) 0 0) (by simp [results, Tryz.results5, go_sem]) rfl ?_
      exact ⟨_, _, _, rfl, by rw [HF.out]; exact FO.out, FB.out⟩
  . have hge : (n : Int) <= (j : Int) := by omega
    have ej : j = n := by omega
    subst ej
    have HV : Hid (con10 x ms ds = conJ x ms ds j) := by unfold Hid; rw [con_of (by rw [HNT.out]; exact hk), HNT.out]
    have FB := hidden (Below.andThen hA hb)
    obtain ⟨av, cv, hv, _⟩ := ho.shape
    have FO := hidden ((own_ints ho).widen (lo' := w.heap.size) (by omega) (Nat.le_refl _))
    subst hv
    clear hb ho hk
    go_wp2
    refine bodyPost_ret (v := .slice av (conJ x ms ds j).length cv) (by simp [results, Tryz.results5, go_sem]) rfl ?_
    exact ⟨_, _, _, rfl, by rw [HV.out]; exact FO.out, FB.out⟩

def cntMD (x : MemD) : Nat := cntSS x.1 + cntWS x.2.1 + 1 + x.2.2.2.length
def markMD (k : Int) (x : MemD) : MemD := (markSS k x.1, markW (k + (cntSS x.1 : Int)) x.2.1, decide ((k + (cntSS x.1 : Int) + (cntWS x.2.1 : Int)) % 3 = 0), marks id (k + (cntSS x.1 : Int) + (cntWS x.2.1 : Int) + 1) x.2.2.2.length)
def markMS (k0 : Int) (d : List MemD) : List MemD := markL cntMD markMD k0 d
def cntMS (d : List MemD) : Nat := sumL (d.map cntMD)
theorem cntMS_le (d : List MemD) : cntMS d <= wtMemS d := by
 unfold cntMS wtMemS
 induction d with
 | nil => simp [sumL]
 | cons x d ih =>
  have h1 : cntMD x <= wtMem x + 1 := by
   have := Nat.le_of_eq (cntWS_wt x.2.1)
   unfold cntMD wtMem wtIntSS cntSS
   omega
  have e1 : sumL ((x :: d).map cntMD) = cntMD x + sumL (d.map cntMD) := by simp [sumL]
  have e2 : sumL ((x :: d).map wtMem) = wtMem x + sumL (d.map wtMem) := by simp [sumL]
  rw [e1, e2, List.length_cons]
  omega

theorem markMemS_fp (w : World) (a : Option Addr) (n cap : Nat) (d : List MemD) (k0 : Int) (fp : List Nat) (h : (tMemS 94 69).Mine w [.slice a n cap] d fp) (hw : wtMemS d <= 2097152) (hk : 0 <= k0) (hk' : k0 + (wtMemS d : Int) <= 2097153) :
 Calls Tryz.prog 25 #[.slice a n cap, .int .i64 k0] w fun e w' => e = .returned (.int .i64 (k0 + (cntMS d : Int))) /\ (tMemS 94 69).Mine w' [.slice a n cap] (markMS k0 d) fp /\ Turned fp w w' := by
 obtain ⟨hl, hc, hm⟩ := row_length h.rd
 have hmL : (markMS k0 d).length = d.length := markL_length _ _ _ _
 have hnn : n <= 2097152 := by unfold wtMemS at hw; omega
 have hwt := cntMS_le d
 go_enter Tryz.func25, Tryz.ntmps25
 go_wp2
 go_loopw [1, 5] (fun kk i wr => ∃ j : Nat, j <= n /\ i = .int .i64 j /\ kk = .int .i64 (k0 + (sumL ((d.map cntMD).take j) : Int)) /\ (tMemS 94 69).Mine wr [.slice a n cap] ((markMS k0 d).take j ++ d.drop j) fp /\ Turned fp w wr) (fun _ i _ => n - (intOf i).toNat)
 case atStart => exact ⟨0, Nat.zero_le _, rfl, by simp [sumL], by simpa using h, Turned.refl _ _⟩
 case round =>
  obtain ⟨j, hj, rfl, rfl, ho, hb⟩ := hrel
  by_cases hjn : j < n
  . have hdj : d[j]? = some (d[j]'(by omega)) := List.getElem?_eq_getElem (by omega)
    generalize d[j]'(by omega) = x at hdj
    have hst := sumL_take (l := d.map cntMD) (j := j) (x := cntMD x) (by rw [List.getElem?_map, hdj]; rfl)
    have hle := sumL_le (l := d.map cntMD) (j + 1)
    have hin := Nat.le_trans (inner_leM hdj) hw
    unfold cntMS at hwt
    have HM := hidden (turn_step hmL (markL_at (c := cntMD) (mk := markMD) (k := k0) hdj))
    have hat := turn_at (m := markMS k0 d) hmL hdj
    have HW := hidden hst
    generalize sumL ((d.map cntMD).take j) = S at hst HM HW
    obtain ⟨ss, cs, f, bs⟩ := x
    have hcx : cntMD (ss, cs, f, bs) = cntSS ss + cntWS cs + 1 + bs.length := rfl
    have hin0 : wtIntSS ss <= 2097152 := by unfold wtMem at hin; simp only at hin; omega
    have hin1 : wtWrS cs <= 2097152 := by unfold wtMem at hin; simp only at hin; omega
    have hin3 : bs.length <= 2097152 := by unfold wtMem at hin; simp only at hin; omega
    have hcw := Nat.le_of_eq (cntWS_wt cs)
    have hcw' := Nat.le_of_eq (cntWS_wt cs).symm
    have hS : k0 + (S : Int) + (cntSS ss : Int) + (cntWS cs : Int) + 1 + (bs.length : Int) <= 2097153 := by omega
    rcases row_ow_shape ho with h0' | ⟨g, rfl⟩
    . omega
    obtain ⟨cs1, f1, ow1, hgf, hgp, hf1, hcc, hfz, _, back⟩ := row_open ho hat
    have hcl := (tMem 94).rdLen ((tMem 94).owRd ow1.1)
    obtain ⟨v0, v1, v2, v3, rfl⟩ : ∃ v0 v1 v2 v3, cs1 = [v0, v1, v2, v3] := by
     match cs1, hcl with
     | [v0, v1, v2, v3], _ => exact ⟨v0, v1, v2, v3, rfl⟩
    obtain ⟨f0, g1, rfl, m0, ow2, d0⟩ := pair_mine (t := tIntSS) (u := pairTy (tWrS 94) (pairTy boolTy tIntS)) (vs := [v0]) (us := [v1, v2, v3]) rfl ow1
    obtain ⟨fc, g2, rfl, m1, ow3, d1⟩ := pair_mine (t := tWrS 94) (u := pairTy boolTy tIntS) (vs := [v1]) (us := [v2, v3]) rfl ow2
    obtain ⟨fb, f3, rfl, ⟨⟨hv2, hfb⟩, _⟩, m3, _⟩ := pair_mine (t := boolTy) (u := tIntS) (vs := [v2]) (us := [v3]) rfl ow3
    simp at hv2
    subst hv2
    subst hfb
    rw [List.nil_append] at *
    have hc0 : wr.cell? ⟨g, j * 4, none⟩ = some v0 := hcc 0 (by show 0 < 4; omega)
    have hc1 : wr.cell? ⟨g, j * 4 + 1, none⟩ = some v1 := hcc 1 (by show 1 < 4; omega)
    have hc2 : wr.cell? ⟨g, j * 4 + 2, none⟩ = some (.bool f) := hcc 2 (by show 2 < 4; omega)
    have hc3 : wr.cell? ⟨g, j * 4 + 3, none⟩ = some v3 := hcc 3 (by show 3 < 4; omega)
    obtain ⟨a0, e0, rfl⟩ := row_shape m0.rd
    obtain ⟨a1, e1', rfl⟩ := row_shape m1.rd
    obtain ⟨a3, e3, rfl⟩ := row_shape m3.rd
    have hlt := ho.lt
    have ng0 : g ∉ f0 := fun hm => hgf (List.mem_append_left _ hm)
    have ngc : g ∉ fc := fun hm => hgf (List.mem_append_right _ (List.mem_append_left _ hm))
    have ng3 : g ∉ f3 := fun hm => hgf (List.mem_append_right _ (List.mem_append_right _ hm))
    have d0c : ∀ b ∈ fc, b ∉ f0 := fun b hb hb' => d0 b hb' (List.mem_append_left _ hb)
    have d03 : ∀ b ∈ f3, b ∉ f0 := fun b hb hb' => d0 b hb' (List.mem_append_right _ hb)
    have dc3 : ∀ b ∈ f3, b ∉ fc := fun b hb hb' => d1 b hb' hb
    have hgl : g < wr.heap.size := hlt g hgp
    obtain ⟨cur, hcur, hcsz, hncap, _⟩ := row_block (ho.own (lo := 0) (hi := wr.heap.size) (fun b hb => ⟨Nat.zero_le _, ho.lt b hb⟩))
    have XB : Box wr g 69 cur := hcur
    have HBK := hidden back
    have HLT := hidden hlt
    have HF1 := hidden hf1
    have HFZ := hidden hfz
    have M0 := hidden m0
    have M1 := hidden m1
    have M3 := hidden m3
    have DD := hidden (And.intro d0 d1)
    have HG := hidden hgf
    have i1 : (0 : Int) <= (j : Int) := by omega
    have i2 : (j : Int) < (n : Int) := by omega
    clear hcc back hcl ow1 ow2 ow3 hat hdj ho hst hlt hfz hf1 m0 m1 m3 d0 d1 hgf
    have e1 : (k0 + (S : Int) + (cntSS ss : Int) + (cntWS cs : Int)).tmod 3 = (k0 + (S : Int) + (cntSS ss : Int) + (cntWS cs : Int)) % 3 := Int.tmod_eq_emod_of_nonneg (by omega)
    have HXB := hidden XB
    have HC := hidden (And.intro hc0 (And.intro hc1 hc3))
    clear XB hcur
    go_wp2_with fail
    refine (markIntSS_fp _ _ _ _ ss _ f0 M0.out hin0 (by omega) (by omega)).mono ?_
    rintro e w1 ⟨rfl, o1, t1⟩
    have b1 := t1.block g hgl ng0
    have kc1 := (cell_kept b1 (j * 4 + 1)).trans hc1
    have kc2 := (cell_kept b1 (j * 4 + 2)).trans hc2
    have kc3 := (cell_kept b1 (j * 4 + 3)).trans hc3
    have X1 := hidden (HXB.out.kept b1)
    have z1 := t1.size
    have M1' := hidden (M1.out.kept t1 d0c)
    have M3' := hidden (M3.out.kept t1 d03)
    have O1 := hidden o1
    have T1 := hidden t1
    clear hc0 hc1 hc2 hc3 b1 o1 t1 M0 M1 M3 HXB
    have hg1 : g < w1.heap.size := Nat.lt_of_lt_of_le hgl z1
    go_wp2_with fail
    refine (markWrS_fp _ _ _ _ cs _ fc M1'.out hin1 (by omega) (by omega)).mono ?_
    rintro e w2 ⟨rfl, o2, t2⟩
    have b2 := t2.block g hg1 ngc
    have lc2 := (cell_kept b2 (j * 4 + 2)).trans kc2
    have lc3 := (cell_kept b2 (j * 4 + 3)).trans kc3
    have x2 := X1.out.kept b2
    have X2 := hidden x2
    have ff := x2.frozen (j * 4 + 2)
    have z2 := t2.size
    have M3'' := hidden (M3'.out.kept t2 dc3)
    have O1' := hidden (O1.out.kept t2 (fun b hb hb' => d0c b hb' hb))
    have O2 := hidden o2
    have T2 := hidden t2
    have T3 : Hid (Turned [g] w2 (w2.setCell ⟨g, j * 4 + 2, none⟩ (.bool (decide ((k0 + (S : Int) + (cntSS ss : Int) + (cntWS cs : Int)) % 3 = 0))))) := Turned.setCell _ (by simp)
    have M3t := hidden (M3''.out.kept T3.out (fun b hb hb' => ng3 (by simp at hb'; exact hb' ▸ hb)))
    have O1t := hidden (O1'.out.kept T3.out (fun b hb hb' => ng0 (by simp at hb'; exact hb' ▸ hb)))
    have O2t := hidden (O2.out.kept T3.out (fun b hb hb' => ngc (by simp at hb'; exact hb' ▸ hb)))
    have X3 := hidden (x2.set (j * 4 + 2) (.bool (decide ((k0 + (S : Int) + (cntSS ss : Int) + (cntWS cs : Int)) % 3 = 0))))
    clear kc1 kc2 kc3 b2 o2 t2 X1 M1' M3' M3'' O1 O1' O2 x2
    have hg2 : g < w2.heap.size := Nat.lt_of_lt_of_le hg1 z2
    go_wp2_with fail
    generalize hw3 : w2.setCell ⟨g, j * 4 + 2, none⟩ (.bool (decide ((k0 + (S : Int) + (cntSS ss : Int) + (cntWS cs : Int)) % 3 = 0))) = w3 at T3 M3t O1t O2t X3 ⊢
    clear hw3
    refine (markIntS_fp _ _ _ _ bs _ f3 M3t.out (by omega) (by omega) (by omega)).mono ?_
    rintro e w4 ⟨rfl, o3, t4⟩
    have z3 := T3.out.size
    have z4 := t4.size
    have hg3 : g < w3.heap.size := Nat.lt_of_lt_of_le hg2 z3
    have hO := HBK.out w4 [.slice a0 ss.length e0, .slice a1 cs.length e1', .bool (decide ((k0 + (S : Int) + (cntSS ss : Int) + (cntWS cs : Int)) % 3 = 0)), .slice a3 bs.length e3] (markMD (k0 + (S : Int)) (ss, cs, f, bs))
     (pair_mine_of (t := tIntSS) (vs := [_]) (us := [_, _, _]) (O1t.out.kept t4 (fun b hb hb' => d03 b hb' hb)) (pair_mine_of (t := tWrS 94) (vs := [_]) (us := [_, _]) (O2t.out.kept t4 (fun b hb hb' => dc3 b hb' hb)) (pair_mine_of (t := boolTy) (u := tIntS) (vs := [_]) (us := [_]) (f1 := []) ⟨⟨rfl, rfl⟩, by simp⟩ o3 (by simp)) DD.out.2) DD.out.1)
     (fun b hb hbf hbg => by
      have n0 : b ∉ f0 := fun hm => hbf (List.mem_append_left _ hm)
      have nc : b ∉ fc := fun hm => hbf (List.mem_append_right _ (List.mem_append_left _ hm))
      have n3 : b ∉ f3 := fun hm => hbf (List.mem_append_right _ (List.mem_append_right _ hm))
      have l0 := HLT.out b hb
      rw [t4.block b (by omega) n3, T3.out.block b (by omega) (by simpa using hbg), T2.out.block b (by omega) nc, T1.out.block b l0 n0])
     (by omega)
     (fun cur2 hcur2 hcs2 hnc2 => by
      have hX := X3.out
      have e2 : cur2 = cur := by
       have h1 := X2.out
       have h2 : w2.heap[g]? = wr.heap[g]? := by rw [T2.out.block g hg1 ngc, T1.out.block g hgl ng0]
       unfold Box at h1
       rw [h2, hcur2] at h1
       simpa using h1
      subst e2
      refine ⟨_, (t4.block g hg3 ng3).trans hX, by simp, fun k => ?_⟩
      have hcs' : cur2.size = cap * 4 := hcs2
      rw [Array.toList_setIfInBounds]
      obtain ⟨p0, p1, p3⟩ := HC.out
      rw [cell_of_row wr g _ cur2 _ (0, 0) hcur2] at p0 p1 p3
      simp only [show (1 + (1 + (1 + 1)) : Nat) = 4 from rfl]
      by_cases k0' : k = j * 4
      . subst k0'
        rw [List.getElem?_set_ne (by omega), if_pos (by omega), Nat.sub_self, Array.getElem?_toList, p0]
        rfl
      . by_cases k1 : k = j * 4 + 1
        . subst k1
          rw [List.getElem?_set_ne (by omega), if_pos (by omega), Nat.add_sub_cancel_left, Array.getElem?_toList, p1]
          rfl
        . by_cases k2 : k = j * 4 + 2
          . subst k2
            rw [List.getElem?_set_self (by simp; omega), if_pos (by omega), Nat.add_sub_cancel_left]
            rfl
          . by_cases k3 : k = j * 4 + 3
            . subst k3
              rw [List.getElem?_set_ne (by omega), if_pos (by omega), Nat.add_sub_cancel_left, Array.getElem?_toList, p3]
              rfl
            . rw [List.getElem?_set_ne (by omega), if_neg (by omega)])
    rw [HM.out] at hO
    have HO := hidden hO
    have HB := hidden ((((hb.trans (T1.out.mono (fun b hm => HF1.out b (List.mem_append_left _ hm)))).trans (T2.out.mono (fun b hm => HF1.out b (List.mem_append_right _ (List.mem_append_left _ hm))))).trans (T3.out.mono (by simpa using hgp))).trans (t4.mono (fun b hm => HF1.out b (List.mem_append_right _ (List.mem_append_right _ hm)))))
    clear hO o3 t4 HBK hb T1 T2 T3 X2 X3 O1t O2t M3t HLT HC
    go_wp2
    go_roundw
    case rel => exact ⟨j + 1, by omega, by go_num, by rw [HW.out, hcx]; go_num, HO.out, HB.out⟩
    case measure => simp [intOf]; omega
  . go_wp2
    go_ret
    have e : j = n := by omega
    subst e
    have ht : (d.map cntMD).take j = d.map cntMD := List.take_of_length_le (by simp; omega)
    rw [List.take_of_length_le (by omega), List.drop_of_length_le (by omega), List.append_nil] at ho
    exact ⟨ret_int (by rw [ht]; rfl), ho, hb⟩

theorem markArr_own (w : World) (lo m hi : Nat) (x : ArrN) (bm bd : Option Addr) (nm cm nd cd : Nat) (ms : List MemD) (ds : List (Int × List Int)) (h0 : (tMemS 94 69).Own w lo m [.slice bm nm cm] ms) (h1 : (tWrS 71).Own w m hi [.slice bd nd cd] ds) (hlm : lo <= m) (hmh : m <= hi) (hhi : hi <= w.heap.size) (hw : wtArr ms ds <= 2097152) :
 Calls Tryz.prog 10 #[.agg #[.int .i64 x.id, .int .i64 x.n, .int .i64 x.s, .slice bm nm cm, .int .i64 x.lost, .int .i64 x.built, .int .i64 x.seq, .int .i64 x.tail, .int .i64 x.gen, .slice bd nd cd, .int .i64 x.fuse, .bool x.down, .bool x.broken], .int .i64 1] w fun e w' => e = .returned (.int .i64 (1 + (cntMS ms : Int) + (cntWS ds : Int))) /\ (tMemS 94 69).Own w' lo m [.slice bm nm cm] (markMS 1 ms) /\ (tWrS 71).Own w' m hi [.slice bd nd cd] (markW (1 + (cntMS ms : Int)) ds) /\ But lo hi w w' := by
 have hw0 : wtMemS ms <= 2097152 := by unfold wtArr at hw; omega
 have hw1 : wtWrS ds <= 2097152 := by unfold wtArr at hw; omega
 have hcm := cntMS_le ms
 have hA := new_below w (.cells #[.int .i64 x.id, .int .i64 x.n, .int .i64 x.s, .slice bm nm cm, .int .i64 x.lost, .int .i64 x.built, .int .i64 x.seq, .int .i64 x.tail, .int .i64 x.gen, .slice bd nd cd, .int .i64 x.fuse, .bool x.down, .bool x.broken] 35)
 have A := Box.new w 35 #[.int .i64 x.id, .int .i64 x.n, .int .i64 x.s, .slice bm nm cm, .int .i64 x.lost, .int .i64 x.built, .int .i64 x.seq, .int .i64 x.tail, .int .i64 x.gen, .slice bd nd cd, .int .i64 x.fuse, .bool x.down, .bool x.broken]
 obtain ⟨k0, k1, k2, k3, k4, k5, k6, k7, k8, k9, k10, k11, k12⟩ := A.cells13
 have o0 := h0.below hA
 have o1 := h1.below hA
 have zA := A.lt
 go_enter Tryz.func10, Tryz.ntmps10
 go_wp2_with fail
 generalize w.alloc (.cells #[.int .i64 x.id, .int .i64 x.n, .int .i64 x.s, .slice bm nm cm, .int .i64 x.lost, .int .i64 x.built, .int .i64 x.seq, .int .i64 x.tail, .int .i64 x.gen, .slice bd nd cd, .int .i64 x.fuse, .bool x.down, .bool x.broken] 35) = W at hA A o0 o1 zA k0 k1 k2 k3 k4 k5 k6 k7 k8 k9 k10 k11 k12 ⊢
 obtain ⟨f0, m0, r0⟩ := o0.mine
 refine (markMemS_fp _ _ _ _ ms 1 f0 m0 hw0 (by omega) (by omega)).mono ?_
 rintro e w1 ⟨rfl, p0, t1⟩
 have hb1 := t1.but (lo := lo) (hi := m) r0
 have q0 := p0.own r0
 have q1 := o1.but hb1 (.inr (Nat.le_refl _))
 have A1 := A.kept (hb1.block _ zA (by omega))
 have B1 := (But.of_below (lo := lo) (hi := hi) hA).trans ⟨hb1.os, hb1.tape, hb1.output, hb1.size, fun k hk ho => hb1.block k hk (by omega)⟩
 clear k0 k1 k2 k3 k4 k5 k6 k7 k8 k9 k10 k11 k12 A hb1 t1 p0 m0 o0 o1 hA
 obtain ⟨k0, k1, k2, k3, k4, k5, k6, k7, k8, k9, k10, k11, k12⟩ := A1.cells13
 obtain ⟨f1, m1, r1⟩ := q1.mine
 have hwa : (wtMemS ms : Int) + (wtWrS ds : Int) <= 2097152 := by unfold wtArr at hw; omega
 go_wp2_with fail
 refine (markEntS_fp _ _ _ _ ds (1 + (cntMS ms : Int)) f1 m1 hw1 (by omega) (by omega)).mono ?_
 rintro e w2 ⟨rfl, p1, t2⟩
 have hb2 := t2.but (lo := m) (hi := hi) r1
 have s1 := hidden (p1.own r1)
 have s0 := hidden (q0.but hb2 (.inl (Nat.le_refl _)))
 have B2 := hidden (B1.trans ⟨hb2.os, hb2.tape, hb2.output, hb2.size, fun k hk ho => hb2.block k hk (by omega)⟩)
 clear k0 k1 k2 k3 k4 k5 k6 k7 k8 k9 k10 k11 k12 A1 hb2 t2 p1 m1 q0 q1 B1
 go_wp2
 go_ret
 exact ⟨rfl, s0.out, s1.out, B2.out⟩

theorem own_len6 {w : World} {lo hi l : Nat} {a : Option Addr} {c : Nat} {zs ps : List Int} {pl : Nat} (h : tIntS.Own w lo hi [.slice a l c] zs) (hp : zs = ps) (hl : ps.length = pl) : l = pl /\ tIntS.Own w lo hi [.slice a pl c] ps := by
 subst hp
 have h2 := (ints_rd h.rd).2.1
 have : l = pl := by omega
 subst this
 exact ⟨rfl, h⟩

theorem implContents_any (w : World) (E F G : TypeId) (x : ArrN) (am ad : Option Addr) (nm cm nd cd : Nat) (ms : List MemD) (ds : List (Int × List Int))  (h0 : (tMemS E F).Rd w [.slice am nm cm] ms) (h1 : (tWrS G).Rd w [.slice ad nd cd] ds) (hw : wtArr ms ds <= 2097152) :
 Calls Tryz.prog 7 #[.agg #[.int .i64 x.id, .int .i64 x.n, .int .i64 x.s, .slice am nm cm, .int .i64 x.lost, .int .i64 x.built, .int .i64 x.seq, .int .i64 x.tail, .int .i64 x.gen, .slice ad nd cd, .int .i64 x.fuse, .bool x.down, .bool x.broken]] w fun e w' => ∃ a' l' c', e = .returned (.slice a' l' c') /\ tIntS.Own w' w.heap.size w'.heap.size [.slice a' l' c'] (con10 x ms ds) /\ Below w.heap.size w w' := by
 have hwm : wtMemS ms <= 2097152 := by unfold wtArr at hw; omega
 obtain ⟨hl, hcp, hcm⟩ := row_length h0
 have hA := new_below w (.cells #[.int .i64 x.id, .int .i64 x.n, .int .i64 x.s, .slice am nm cm, .int .i64 x.lost, .int .i64 x.built, .int .i64 x.seq, .int .i64 x.tail, .int .i64 x.gen, .slice ad nd cd, .int .i64 x.fuse, .bool x.down, .bool x.broken] 35)
 have X := Box.new w 35 #[.int .i64 x.id, .int .i64 x.n, .int .i64 x.s, .slice am nm cm, .int .i64 x.lost, .int .i64 x.built, .int .i64 x.seq, .int .i64 x.tail, .int .i64 x.gen, .slice ad nd cd, .int .i64 x.fuse, .bool x.down, .bool x.broken]
 have zA := X.lt
 obtain ⟨k0, k1, k2, k3, k4, k5, k6, k7, k8, k9, k10, k11, k12⟩ := X.cells13
 have r0 := h0.below hA
 have r1 := h1.below hA
 obtain ⟨i0, hi, hz0, hz1, hz2⟩ := info_parts Tryz.info3
 have X' := X.alloc (.cells #[] 3)
 clear k0 k1 k2 k3 k4 k5 k6 k7 k8 k9 k10 k11 k12
 obtain ⟨k0, k1, k2, k3, k4, k5, k6, k7, k8, k9, k10, k11, k12⟩ := X'.cells13
 go_enter Tryz.func7, Tryz.ntmps7
 go_wp2_with fail
 have hsz : (w.alloc (.cells #[.int .i64 x.id, .int .i64 x.n, .int .i64 x.s, .slice am nm cm, .int .i64 x.lost, .int .i64 x.built, .int .i64 x.seq, .int .i64 x.tail, .int .i64 x.gen, .slice ad nd cd, .int .i64 x.fuse, .bool x.down, .bool x.broken] 35)).heap.size = w.heap.size + 1 := by simp
 have ZW := hidden hsz
 clear hsz X'
 clear k0 k1 k2 k3 k4 k5 k6 k7 k8 k9 k10 k11 k12
 generalize w.alloc (.cells #[.int .i64 x.id, .int .i64 x.n, .int .i64 x.s, .slice am nm cm, .int .i64 x.lost, .int .i64 x.built, .int .i64 x.seq, .int .i64 x.tail, .int .i64 x.gen, .slice ad nd cd, .int .i64 x.fuse, .bool x.down, .bool x.broken] 35) = W at hA X zA r0 r1 ZW ⊢
 have hO : Owns .i64 3 (W.alloc (.cells #[] 3)) W.heap.size (.slice (some ⟨W.heap.size, 0, none⟩) 0 0) [] := Owns.lit .i64 3 W [] 0 #[] rfl rfl (by unfold maxLen; omega)
 have hBW : Below W.heap.size W (W.alloc (.cells #[] 3)) := (Below.refl _ _).alloc (Nat.le_refl _) _
 refine (implBlocks_any _ x.n x.s).mono ?_
 rintro e w2 ⟨rfl, b2⟩
 have B2 := hBW.trans (b2.mono hBW.size)
 have o2 := hO.below b2 (Nat.le_refl _)
 clear b2 hBW hO
 obtain ⟨n, hn⟩ : ∃ n : Nat, blocksN x.n x.s = (n : Int) := ⟨(blocksN x.n x.s).toNat, by have := blocks_in10 x.n x.s; omega⟩
 have hn32 : n <= 32 := by have := blocks_in10 x.n x.s; omega
 have HNT : Hid ((blocksN x.n x.s).toNat = n) := by unfold Hid; omega
 rw [hn]
 clear hn
 go_wp2
 rw [ZW.out] at o2
 go_loopw [3, 11] (fun v i wr => ∃ j : Nat, j <= n /\ i = .int .i64 j /\ Owns .i64 3 wr W.heap.size v (conJ x ms ds j) /\ conOk x ms ds j = true /\ Below W.heap.size W wr) (fun _ i _ => n - (intOf i).toNat)
 case atStart => exact ⟨0, Nat.zero_le _, rfl, by first | exact o2 | (rw [ZW.out]; exact o2), rfl, B2⟩
 case round =>
  clear o2 B2
  obtain ⟨j, hj, rfl, ho, hk, hb⟩ := hrel
  have zB := hA.size
  have Xr := X.below hb zA
  have zs := hb.size
  by_cases hlt : j < n
  . obtain ⟨k0, k1, k2, k3, k4, k5, k6, k7, k8, k9, k10, k11, k12⟩ := Xr.cells13
    have hlt' : (j : Int) < (n : Int) := by omega
    have HK := hidden hk
    clear hk
    go_wp2_with fail
    refine (implGetBlock_any _ E F G x _ _ _ _ _ _ ms ds (j : Int) (r0.below hb) (r1.below hb) hw).mono ?_
    rintro e w3 ⟨rfl, b3⟩
    have B3 := hb.trans (b3.mono hb.size)
    have o3 := ho.below b3 (Nat.le_refl _)
    have z3 := B3.size
    clear k0 k1 k2 k3 k4 k5 k6 k7 k8 k9 k10 k11 k12 Xr b3 hb ho
    have hle := conJ_len x ms ds j
    by_cases ht : get8C x ms ds (j : Int) = 0
    . have HOK := hidden (conOk_succ HK.out ht)
      have HS := hidden (conJ_succ x ms ds j)
      rw [ht]
      clear ht
      generalize get8 x ms ds (j : Int) = y at HS ⊢
      generalize conJ x ms ds j = zz at HS hle o3 ⊢
      go_wp2_with (at_builtin; refine wpList_app .i64 (by rfl) _ _ 29 (by rfl) W.heap.size 3 i0 _ 8 Tryz.underlying29 hi hz0 hz1 hz2 rfl _ zz (by rfl) (o3.alloc _) ⟨w3.heap.size, 0, none⟩ 1 1 [y] (by rfl) rfl (Reads.new _ _ _ _ _ rfl) ?h1 ?h2 ?h3 ?_)
      case h1 => unfold maxLen; omega
      case h2 => omega
      case h3 => simp; omega
      intro v' w5 o5 b5
      have B5 := hidden ((B3.alloc B3.size (.cells #[.int .i64 y] 3)).trans b5)
      rw [← HS.out] at o5
      have O5 := hidden o5
      clear b5 o5 o3 B3
      go_wp2
      go_roundw
      case rel => exact ⟨j + 1, by omega, by go_num, O5.out, HOK.out, B5.out⟩
      case measure => simp [intOf]; omega
    . have FB3 := Below.andThen hA B3
      have HC : Hid (¬ get8C x ms ds (j : Int) = 0) := ht
      have ht' : (get8C x ms ds (j : Int) != 0) = true := by simpa using ht
      have HF : Hid (con10 x ms ds = []) := (con_bad HC.out (by have := HNT.out; omega))
      have FO := hidden ((own_ints (Owns.lit .i64 3 w3 [] 0 #[] rfl rfl (by unfold maxLen; omega))).widen (lo' := w.heap.size) (FB3).size (Nat.le_refl _))
      have FB := hidden ((FB3).alloc (FB3).size (.cells #[] 3))
      go_wp2
      refine bodyPost_ret (v := .slice (some ⟨w3.heap.size, 0, none⟩) 0 0) (by simp [results, Tryz.results7, go_sem]) rfl ?_
      exact ⟨_, _, _, rfl, by rw [HF.out]; exact FO.out, FB.out⟩
  . skip
    have ej : j = n := by omega
    subst ej
    have HV : Hid (con10 x ms ds = conJ x ms ds j) := by unfold Hid; rw [con_of (by rw [HNT.out]; exact hk), HNT.out]
    have FB := hidden (Below.andThen hA hb)
    obtain ⟨av, cv, hv, _⟩ := ho.shape
    have FO := hidden ((own_ints ho).widen (lo' := w.heap.size) (by omega) (Nat.le_refl _))
    subst hv
    clear hb ho hk
    go_wp2
    refine bodyPost_ret (v := .slice av (conJ x ms ds j).length cv) (by simp [results, Tryz.results7, go_sem]) rfl ?_
    exact ⟨_, _, _, rfl, by rw [HV.out]; exact FO.out, FB.out⟩

theorem fnExactContents_walk (x : ArrN) (am ad : Option Addr) (nm cm nd cd : Nat) (ms : List MemD) (ds : List (Int × List Int)) (w : World) (h0 : (tMemS 96 59).Rd w [.slice am nm cm] ms) (h1 : (tWrS 62).Rd w [.slice ad nd cd] ds) :
 Calls Tryz.prog 3 #[.agg #[.int .i64 x.id, .int .i64 x.n, .int .i64 x.s, .slice am nm cm, .int .i64 x.lost, .int .i64 x.built, .int .i64 x.seq, .int .i64 x.tail, .int .i64 x.gen, .slice ad nd cd, .int .i64 x.fuse, .bool x.down, .bool x.broken]] w fun e w' => e = .returned (.bool true) /\ Below w.heap.size w w' := by
 have hA := new_below w (.cells #[.int .i64 x.id, .int .i64 x.n, .int .i64 x.s, .slice am nm cm, .int .i64 x.lost, .int .i64 x.built, .int .i64 x.seq, .int .i64 x.tail, .int .i64 x.gen, .slice ad nd cd, .int .i64 x.fuse, .bool x.down, .bool x.broken] 27)
 have xm := Box.new w 27 #[.int .i64 x.id, .int .i64 x.n, .int .i64 x.s, .slice am nm cm, .int .i64 x.lost, .int .i64 x.built, .int .i64 x.seq, .int .i64 x.tail, .int .i64 x.gen, .slice ad nd cd, .int .i64 x.fuse, .bool x.down, .bool x.broken]
 have z0 := xm.lt
 have B0 := hidden hA
 have BR0 := hidden xm
 obtain ⟨l0, l1, l2, l3, l4, l5, l6, l7, l8, l9, l10, l11, l12⟩ := xm.cells13
 go_enter Tryz.func3, Tryz.ntmps3
 go_wp2_with fail
 generalize w.alloc (.cells #[.int .i64 x.id, .int .i64 x.n, .int .i64 x.s, .slice am nm cm, .int .i64 x.lost, .int .i64 x.built, .int .i64 x.seq, .int .i64 x.tail, .int .i64 x.gen, .slice ad nd cd, .int .i64 x.fuse, .bool x.down, .bool x.broken] 27) = w0 at hA xm z0 B0 BR0 l0 l1 l2 l3 l4 l5 l6 l7 l8 l9 l10 l11 l12 ⊢
 clear hA xm
 refine (szArr_any _ 96 59 62 x _ _ _ _ _ _ ms ds _ (h0.below B0.out) (h1.below B0.out) (by omega) (by omega)).mono ?_
 rintro e w1 ⟨rfl, hb1⟩
 clear l0 l1 l2 l3 l4 l5 l6 l7 l8 l9 l10 l11 l12
 have B1 := hidden (Below.andThen B0.out hb1)
 have BR1 := hidden (BR0.out.below hb1 (by omega))
 have z1 := hb1.size
 clear B0 BR0 hb1
 by_cases hwt : (wtArr ms ds : Int) <= 1048576
 . have hq := leftOf_pos hwt
   have hwt' : wtArr ms ds <= 1048576 := by omega
   have hwt2 : wtArr ms ds <= 2097152 := by omega
   have hgl := con10_le x ms ds
   generalize hP : con10 x ms ds = ps at hgl
   generalize hn : ps.length = pl at hgl
   have HP := hidden hP
   have HN := hidden hn
   clear hP hn
   have hd : decide (ps = ps) = true := by simp
   have hwtc : wtArr ms ds <= 1048576 := hwt'
   obtain ⟨l0, l1, l2, l3, l4, l5, l6, l7, l8, l9, l10, l11, l12⟩ := BR1.out.cells13
   go_wp2_with fail
   refine (toArr_any _ 96 59 62 x _ _ _ _ _ _ ms ds (h0.below B1.out) (h1.below B1.out) hwt').mono ?_
   rintro e w2 ⟨bm2, bd2, rfl, om2, od2, ya2, yb2, hb2⟩
   clear l0 l1 l2 l3 l4 l5 l6 l7 l8 l9 l10 l11 l12
   have B2 := hidden (Below.andThen B1.out hb2)
   have BR2 := hidden (BR1.out.below hb2 (by omega))
   have z2 := hb2.size
   clear B1 BR1 hb2
   have Cm2 := hidden om2
   clear om2
   have Cd2 := hidden od2
   clear od2
   go_wp2_with fail
   refine (specContents_any _ 94 69 71 x _ _ _ _ _ _ ms ds Cm2.out.rd Cd2.out.rd hwt2).mono ?_
   rintro e w3 ⟨a3, l3, c3, rfl, o3, hb3⟩
   obtain ⟨rfl, o3'⟩ := own_len6 o3 HP.out HN.out
   clear o3
   have B3 := hidden (Below.andThen B2.out hb3)
   have BR3 := hidden (BR2.out.below hb3 (by omega))
   have Cm3 := hidden (Cm2.out.below hb3)
   have Cd3 := hidden (Cd2.out.below hb3)
   have z3 := hb3.size
   clear B2 BR2 Cm2 Cd2 hb3
   have W3 := hidden o3'
   clear o3'
   clear Cm3
   clear Cd3
   obtain ⟨l0, l1, l2, l3, l4, l5, l6, l7, l8, l9, l10, l11, l12⟩ := BR3.out.cells13
   go_wp2_with fail
   refine (toArr_any _ 96 59 62 x _ _ _ _ _ _ ms ds (h0.below B3.out) (h1.below B3.out) hwt').mono ?_
   rintro e w4 ⟨bm4, bd4, rfl, om4, od4, ya4, yb4, hb4⟩
   clear l0 l1 l2 l3 l4 l5 l6 l7 l8 l9 l10 l11 l12
   have B4 := hidden (Below.andThen B3.out hb4)
   have BR4 := hidden (BR3.out.below hb4 (by omega))
   have W4 := hidden (W3.out.below hb4)
   have z4 := hb4.size
   clear B3 BR3 W3 hb4
   have Dm4 := hidden om4
   clear om4
   have Dd4 := hidden od4
   clear od4
   have ba : Below w4.heap.size w4 (w4.alloc (.cells #[.int .i64 x.id, .int .i64 x.n, .int .i64 x.s, .slice (some ⟨bm4, 0, none⟩) nm nm, .int .i64 x.lost, .int .i64 x.built, .int .i64 x.seq, .int .i64 x.tail, .int .i64 x.gen, .slice (some ⟨bd4, 0, none⟩) nd nd, .int .i64 x.fuse, .bool x.down, .bool x.broken] 35)) := (Below.refl _ _).alloc (Nat.le_refl _) _
   have xb := Box.new w4 35 #[.int .i64 x.id, .int .i64 x.n, .int .i64 x.s, .slice (some ⟨bm4, 0, none⟩) nm nm, .int .i64 x.lost, .int .i64 x.built, .int .i64 x.seq, .int .i64 x.tail, .int .i64 x.gen, .slice (some ⟨bd4, 0, none⟩) nd nd, .int .i64 x.fuse, .bool x.down, .bool x.broken]
   have zx := xb.lt
   have B5 := hidden (Below.andThen B4.out ba)
   have BR5 := hidden (BR4.out.below ba (by omega))
   have W5 := hidden (W4.out.below ba)
   have Dm5 := hidden (Dm4.out.below ba)
   have Dd5 := hidden (Dd4.out.below ba)
   have z5 := ba.size
   clear B4 BR4 W4 Dm4 Dd4 ba
   have BX5 := hidden xb
   clear xb
   obtain ⟨q0, q1, q2, q3, q4, q5, q6, q7, q8, q9, q10, q11, q12⟩ := BX5.out.cells13
   go_wp2_with fail
   generalize w4.alloc (.cells #[.int .i64 x.id, .int .i64 x.n, .int .i64 x.s, .slice (some ⟨bm4, 0, none⟩) nm nm, .int .i64 x.lost, .int .i64 x.built, .int .i64 x.seq, .int .i64 x.tail, .int .i64 x.gen, .slice (some ⟨bd4, 0, none⟩) nd nd, .int .i64 x.fuse, .bool x.down, .bool x.broken] 35) = w5 at B5 BR5 W5 Dm5 Dd5 BX5 z5 zx q0 q1 q2 q3 q4 q5 q6 q7 q8 q9 q10 q11 q12 ⊢
   refine (implContents_any _ 94 69 71 x _ _ _ _ _ _ ms ds Dm5.out.rd Dd5.out.rd hwt2).mono ?_
   rintro e w6 ⟨a6, l6, c6, rfl, o6, hb6⟩
   obtain ⟨rfl, o6'⟩ := own_len6 o6 HP.out HN.out
   clear o6
   clear q0 q1 q2 q3 q4 q5 q6 q7 q8 q9 q10 q11 q12
   have B6 := hidden (Below.andThen B5.out hb6)
   have BR6 := hidden (BR5.out.below hb6 (by omega))
   have W6 := hidden (W5.out.below hb6)
   have Dm6 := hidden (Dm5.out.below hb6)
   have Dd6 := hidden (Dd5.out.below hb6)
   have BX6 := hidden (BX5.out.below hb6 (by omega))
   have z6 := hb6.size
   clear B5 BR5 W5 Dm5 Dd5 BX5 hb6
   have G6 := hidden o6'
   clear o6'
   go_wp2_with fail
   refine (eqIntS_any _ _ _ _ _ _ _ ps ps HN.out HN.out (ints_rd G6.out.rd).1 (ints_rd W6.out.rd).1 (by omega)).mono ?_
   rintro e w7 ⟨rfl, hs7⟩
   have B7 := hidden (Below.andSame B6.out hs7)
   have BR7 := hidden (BR6.out.same hs7)
   have W7 := hidden (W6.out.same hs7)
   have Dm7 := hidden (Dm6.out.same hs7)
   have Dd7 := hidden (Dd6.out.same hs7)
   have BX7 := hidden (BX6.out.same hs7)
   have G7 := hidden (G6.out.same hs7)
   have z7 := Nat.le_of_eq hs7.size.symm
   clear B6 BR6 W6 Dm6 Dd6 BX6 G6 hs7
   obtain ⟨y0, y1, y2, y3, y4, y5, y6, y7, y8, y9, y10, y11, y12⟩ := BX7.out.cells13
   obtain ⟨l0, l1, l2, l3, l4, l5, l6, l7, l8, l9, l10, l11, l12⟩ := BR7.out.cells13
   have zl := BR7.out.lt
   have zy := BX7.out.lt
   go_wp2_with fail
   refine wp_region_held_drew (S := fun w' => (w'.cell? ⟨w4.heap.size, 0, none⟩ = some (.int .i64 x.id) /\ w'.cell? ⟨w4.heap.size, 1, none⟩ = some (.int .i64 x.n) /\ w'.cell? ⟨w4.heap.size, 2, none⟩ = some (.int .i64 x.s) /\ w'.cell? ⟨w4.heap.size, 3, none⟩ = some (.slice (some ⟨bm4, 0, none⟩) nm nm) /\ w'.cell? ⟨w4.heap.size, 4, none⟩ = some (.int .i64 x.lost) /\ w'.cell? ⟨w4.heap.size, 5, none⟩ = some (.int .i64 x.built) /\ w'.cell? ⟨w4.heap.size, 6, none⟩ = some (.int .i64 x.seq) /\ w'.cell? ⟨w4.heap.size, 7, none⟩ = some (.int .i64 x.tail) /\ w'.cell? ⟨w4.heap.size, 8, none⟩ = some (.int .i64 x.gen) /\ w'.cell? ⟨w4.heap.size, 9, none⟩ = some (.slice (some ⟨bd4, 0, none⟩) nd nd) /\ w'.cell? ⟨w4.heap.size, 10, none⟩ = some (.int .i64 x.fuse) /\ w'.cell? ⟨w4.heap.size, 11, none⟩ = some (.bool x.down) /\ w'.cell? ⟨w4.heap.size, 12, none⟩ = some (.bool x.broken)) /\ w'.cell? ⟨w.heap.size, 0, none⟩ = some (.int .i64 x.id) /\ w'.cell? ⟨w.heap.size, 1, none⟩ = some (.int .i64 x.n) /\ w'.cell? ⟨w.heap.size, 2, none⟩ = some (.int .i64 x.s) /\ w'.cell? ⟨w.heap.size, 3, none⟩ = some (.slice am nm cm) /\ w'.cell? ⟨w.heap.size, 4, none⟩ = some (.int .i64 x.lost) /\ w'.cell? ⟨w.heap.size, 5, none⟩ = some (.int .i64 x.built) /\ w'.cell? ⟨w.heap.size, 6, none⟩ = some (.int .i64 x.seq) /\ w'.cell? ⟨w.heap.size, 7, none⟩ = some (.int .i64 x.tail) /\ w'.cell? ⟨w.heap.size, 8, none⟩ = some (.int .i64 x.gen) /\ w'.cell? ⟨w.heap.size, 9, none⟩ = some (.slice ad nd cd) /\ w'.cell? ⟨w.heap.size, 10, none⟩ = some (.int .i64 x.fuse) /\ w'.cell? ⟨w.heap.size, 11, none⟩ = some (.bool x.down) /\ w'.cell? ⟨w.heap.size, 12, none⟩ = some (.bool x.broken)) (by kernel_rfl) ?_ (fun hHeld => ?_)
   . exact ⟨BX7.out.cells13, BR7.out.cells13⟩
   refine held_take (i := 0) (v := ?_) rfl (by kernel_rfl) (by kernel_rfl) (by kernel_rfl) (fun _ _ _ h => h) (by kernel_rfl) ?_ hHeld ?_
   rotate_left 1
   . (intro w hSw; (try dsimp only at hSw); go_split_ands; go_simp; first | done | with_reducible rfl)
   simp only [Act.put, List.setIfInBounds_toArray, List.set_cons_zero, List.set_cons_succ]
   refine held_take (i := 1) (v := ?_) rfl (by kernel_rfl) (by kernel_rfl) (by kernel_rfl) (fun _ _ _ h => h) (by kernel_rfl) ?_ hHeld ?_
   rotate_left 1
   . (intro w hSw; (try dsimp only at hSw); go_split_ands; go_simp; first | done | with_reducible rfl)
   simp only [Act.put, List.setIfInBounds_toArray, List.set_cons_zero, List.set_cons_succ]
   refine held_one (i := 2) (by kernel_rfl) rfl (by kernel_rfl) (fun K hK => ?_)
   go_simp
   refine (toArr_any _ 96 59 62 x _ _ _ _ _ _ ms ds (h0.below B7.out).drew (h1.below B7.out).drew hwt').mono ?_
   rintro e w8 ⟨bm8, bd8, rfl, om8, od8, ya8, yb8, hb8⟩
   have hb8' : Below w7.heap.size w7 w8 := (Below.refl w7.heap.size w7).drew.trans hb8
   go_wp2_with fail
   clear hHeld
   refine hK.out _ _ ?_ (fun hHeld => ?_)
   . exact ⟨(BX7.out.below hb8' zy).cells13, (BR7.out.below hb8' zl).cells13⟩
   clear hK K
   refine held_one (i := 3) (by kernel_rfl) rfl (by kernel_rfl) (fun K hK => ?_)
   go_simp
   refine (eqArr_same _ 94 94 69 69 71 71 x _ _ _ _ _ _ _ _ _ _ _ _ ms ds (Dm7.out.below hb8').rd (Dd7.out.below hb8').rd om8.rd od8.rd hwt2).mono ?_
   rintro e w9 ⟨rfl, hb9⟩
   have hb9' : Below w7.heap.size w7 w9 := Below.andThen hb8' hb9
   go_wp2_with fail
   clear hHeld
   refine hK.out _ _ ?_ (fun hHeld => ?_)
   . exact ⟨(BX7.out.below hb9' zy).cells13, (BR7.out.below hb9' zl).cells13⟩
   clear hK K
   refine held_take (i := 4) (v := ?_) rfl (by kernel_rfl) (by kernel_rfl) (by kernel_rfl) (fun _ _ _ h => h) (by kernel_rfl) ?_ hHeld ?_
   rotate_left 1
   . (intro w hSw; (try dsimp only at hSw); go_split_ands; go_simp; first | done | with_reducible rfl)
   simp only [Act.put, List.setIfInBounds_toArray, List.set_cons_zero, List.set_cons_succ]
   refine wpAnyH_done (by kernel_rfl) ?_ _
   clear hHeld
   clear y0 y1 y2 y3 y4 y5 y6 y7 y8 y9 y10 y11 y12 l0 l1 l2 l3 l4 l5 l6 l7 l8 l9 l10 l11 l12
   clear zl zy om8 od8 ya8 yb8 hb8 hb9 hb8'
   have B9 := hidden (Below.andThen B7.out hb9')
   have BR9 := hidden (BR7.out.below hb9' (by omega))
   have W9 := hidden (W7.out.below hb9')
   have Dm9 := hidden (Dm7.out.below hb9')
   have Dd9 := hidden (Dd7.out.below hb9')
   have BX9 := hidden (BX7.out.below hb9' (by omega))
   have G9 := hidden (G7.out.below hb9')
   have z9 := hb9'.size
   clear B7 BR7 W7 Dm7 Dd7 BX7 G7 hb9'
   obtain ⟨q0, q1, q2, q3, q4, q5, q6, q7, q8, q9, q10, q11, q12⟩ := BX9.out.cells13
   go_wp2_with fail
   refine (markArr_own _ _ _ _ x _ _ _ _ _ _ ms ds Dm9.out Dd9.out (by omega) (by omega) (by omega) hwt2).mono ?_
   rintro e w10 ⟨rfl, _, _, hb10⟩
   clear q0 q1 q2 q3 q4 q5 q6 q7 q8 q9 q10 q11 q12
   clear Dm9
   clear Dd9
   clear BX9
   have B10 := hidden (Below.andBut B9.out hb10 (by omega))
   have BR10 := hidden (BR9.out.kept (hb10.block _ (by omega) (by omega)))
   have W10 := hidden (W9.out.but hb10 (by omega))
   have G10 := hidden (G9.out.but hb10 (by omega))
   have z10 := hb10.size
   clear B9 BR9 W9 G9 hb10
   have hcn : (0 : Int) <= 1 + (cntMS ms : Int) + (cntWS ds : Int) := by omega
   generalize 1 + (cntMS ms : Int) + (cntWS ds : Int) = cn at hcn ⊢
   go_wp2_with fail
   refine (eqIntS_any _ _ _ _ _ _ _ ps ps HN.out HN.out (ints_rd G10.out.rd).1 (ints_rd W10.out.rd).1 (by omega)).mono ?_
   rintro e w11 ⟨rfl, hs11⟩
   have B11 := hidden (Below.andSame B10.out hs11)
   have BR11 := hidden (BR10.out.same hs11)
   have W11 := hidden (W10.out.same hs11)
   have G11 := hidden (G10.out.same hs11)
   have z11 := Nat.le_of_eq hs11.size.symm
   clear B10 BR10 W10 G10 hs11
   go_wp2_with fail
   obtain ⟨fpG, mG, rG⟩ := G11.out.mine
   refine (markIntS_fp _ _ _ _ ps _ fpG mG (by omega) (by omega) (by omega)).mono ?_
   rintro e w12 ⟨rfl, m12, t12⟩
   clear G11
   have hb12 := t12.but rG
   have g12 := m12.own rG
   clear mG m12 t12 rG
   have B12 := hidden (Below.andBut B11.out hb12 (by omega))
   have BR12 := hidden (BR11.out.kept (hb12.block _ (by omega) (by omega)))
   have W12 := hidden (W11.out.but hb12 (by omega))
   have z12 := hb12.size
   clear B11 BR11 W11 hb12
   have G12 := hidden g12
   clear g12
   go_wp2_with fail
   refine (heldIntS_any _ _ _ _ _ (ints_rd G12.out.rd).1 (by omega) (by omega) (by omega)).mono ?_
   rintro e w13 ⟨rfl, hs13⟩
   have B13 := hidden (Below.andSame B12.out hs13)
   have BR13 := hidden (BR12.out.same hs13)
   have W13 := hidden (W12.out.same hs13)
   have G13 := hidden (G12.out.same hs13)
   have z13 := Nat.le_of_eq hs13.size.symm
   clear B12 BR12 W12 G12 hs13
   obtain ⟨l0, l1, l2, l3, l4, l5, l6, l7, l8, l9, l10, l11, l12⟩ := BR13.out.cells13
   go_wp2_with fail
   refine (toArr_any _ 96 59 62 x _ _ _ _ _ _ ms ds (h0.below B13.out) (h1.below B13.out) hwt').mono ?_
   rintro e w14 ⟨bm14, bd14, rfl, om14, od14, ya14, yb14, hb14⟩
   clear l0 l1 l2 l3 l4 l5 l6 l7 l8 l9 l10 l11 l12
   have B14 := hidden (Below.andThen B13.out hb14)
   have BR14 := hidden (BR13.out.below hb14 (by omega))
   have W14 := hidden (W13.out.below hb14)
   have G14 := hidden (G13.out.below hb14)
   have z14 := hb14.size
   clear B13 BR13 W13 G13 hb14
   have Dm14 := hidden om14
   clear om14
   have Dd14 := hidden od14
   clear od14
   go_wp2_with fail
   refine (implContents_any _ 94 69 71 x _ _ _ _ _ _ ms ds Dm14.out.rd Dd14.out.rd hwt2).mono ?_
   rintro e w15 ⟨a15, l15, c15, rfl, o15, hb15⟩
   obtain ⟨rfl, o15'⟩ := own_len6 o15 HP.out HN.out
   clear o15
   have B15 := hidden (Below.andThen B14.out hb15)
   have BR15 := hidden (BR14.out.below hb15 (by omega))
   have W15 := hidden (W14.out.below hb15)
   have G15 := hidden (G14.out.below hb15)
   have Dm15 := hidden (Dm14.out.below hb15)
   have Dd15 := hidden (Dd14.out.below hb15)
   have z15 := hb15.size
   clear B14 BR14 W14 G14 Dm14 Dd14 hb15
   have H15 := hidden o15'
   clear o15'
   clear Dm15
   clear Dd15
   go_wp2_with fail
   refine (eqIntS_any _ _ _ _ _ _ _ ps ps HN.out HN.out (ints_rd H15.out.rd).1 (ints_rd W15.out.rd).1 (by omega)).mono ?_
   rintro e w16 ⟨rfl, hs16⟩
   have B16 := hidden (Below.andSame B15.out hs16)
   have BR16 := hidden (BR15.out.same hs16)
   have W16 := hidden (W15.out.same hs16)
   have G16 := hidden (G15.out.same hs16)
   have H16 := hidden (H15.out.same hs16)
   have z16 := Nat.le_of_eq hs16.size.symm
   clear B15 BR15 W15 G15 H15 hs16
   clear H16
   clear W16
   go_wp2_with fail
   refine (heldIntS_any _ _ _ _ _ (ints_rd G16.out.rd).1 (by omega) (by omega) (by omega)).mono ?_
   rintro e w17 ⟨rfl, hs17⟩
   have B17 := hidden (Below.andSame B16.out hs17)
   have BR17 := hidden (BR16.out.same hs17)
   have G17 := hidden (G16.out.same hs17)
   have z17 := Nat.le_of_eq hs17.size.symm
   clear B16 BR16 G16 hs17
   go_wp2
   go_ret
   exact ⟨rfl, B17.out⟩
 . have hq := leftOf_neg (left := 1048576) (wt := wtArr ms ds) (by omega)
   go_wp2
   go_ret
   exact ⟨rfl, B1.out⟩

end Go.Proofs.YtialakmmifhliaaGreat

namespace Go.Proofs.YtialakmmifhliaaGreat
open Go.RowKit Go.ChangeShapes Go.WideShapes Go.ChangeAt Go.Joins Go.Deep

section
variable {H : Type} {enc : TypeId × Value -> H} {P : Program} {w : World} {held : Bool}

theorem rdInts_of {t q : TypeId} {fuel : Nat} {v : Value} {x : DataW H × List MemPlace} (ht : P.underlying t = some (.slice q)) (hq : P.underlying q = some (.int .i64)) (cq : P.cellsOf q = 1)
 (h : DataW.trod enc P w 0 (fun _ => true) held fuel t [v] = some x) : ∃ zs, tIntS.Rd w [v] zs := by
 rcases open_ints ht hq cq h with ⟨hcs, _⟩ | ⟨a, len, cap, zs, hcs, _, hl, hm, hz, _, hcell, hwz⟩
 . simp at hcs
   subst hcs
   exact ⟨[], ints_rd_of (.inl rfl) (Nat.le_refl _) (by simp) (fun _ => rfl)⟩
 . simp at hcs
   subst hcs
   have hr : IsRow .i64 w (some a) len cap zs := .inr ⟨_, rfl, hl, hm, by simpa using hz, hcell, hwz⟩
   obtain ⟨h1, h2, _, _⟩ := hr.reads
   refine ⟨zs.take len, ?_⟩
   have := ints_rd_of (E := 3) (cap := cap) h1 (by omega) (by unfold maxLen at hm; omega) (by simp)
   rw [h2] at this
   exact this

theorem rd_row {t : Ty} {E : TypeId} {a : Addr} {len cap : Nat} (hl : len <= cap) (hm : cap <= 9223372036854775807) (cs : Nat -> List Value) (hn : 0 < t.n) (hcl : ∀ i, i < len -> (cs i).length = t.n)
 (hc : ∀ i, i < len -> ∀ j, j < t.n -> w.cell? (a.add (i * t.n + j)) = (cs i)[j]?) (hx : ∀ i, i < len -> ∃ x, t.Rd w (cs i) x) : ∃ d, (rowTy t E).Rd w [.slice (some a) len cap] d := by
 have each : ∀ i, i < len -> ∃ y : t.D × List Nat, t.rd w (cs i) y.1 y.2 := by
  intro i hi
  obtain ⟨x, fp, h⟩ := hx i hi
  exact ⟨(x, fp), h⟩
 by_cases h0 : len = 0
 . subst h0
   exact ⟨[], [], some a, cap, rfl, by simp, hm, .inl ⟨rfl, rfl, by simp⟩⟩
 . have hne : Nonempty (t.D × List Nat) := by
    obtain ⟨y, _⟩ := each 0 (by omega)
    exact ⟨y⟩
   have hch : ∃ f : Nat -> t.D × List Nat, ∀ i, i < len -> t.rd w (cs i) (f i).1 (f i).2 := by
    refine ⟨fun i => if h : i < len then Classical.choose (each i h) else Classical.choice hne, fun i hi => ?_⟩
    simp only [dif_pos hi]
    exact Classical.choose_spec (each i hi)
   obtain ⟨f, hf⟩ := hch
   obtain ⟨b, off, spot⟩ := a
   have hc0 := hc 0 (by omega) 0 hn
   have hsome : ∃ v0, (cs 0)[0]? = some v0 := ⟨(cs 0)[0]'(by rw [hcl 0 (by omega)]; exact hn), List.getElem?_eq_getElem _⟩
   obtain ⟨v0, hv0⟩ := hsome
   rw [hv0] at hc0
   have hspot : spot = none := by simpa [Addr.add] using World.cell?_spot hc0
   subst hspot
   have ea : ∀ k, (⟨b, off, none⟩ : Addr).add k = ⟨b, off + k, none⟩ := by
    intro k
    unfold Addr.add
    split <;> simp_all
   rw [ea] at hc0
   have hblt : b < w.heap.size := World.block_lt_of_cell? w _ hc0
   refine ⟨(List.range len).map fun i => (f i).1, b :: ((List.range len).map fun i => (f i).2).flatten, _, cap, by simp, by simpa using hl, hm, .inr ⟨b, off, (List.range len).map fun i => (f i).2, rfl, hblt, rfl, by simp, fun i x hxi => ?_⟩⟩
   have hi : i < len := by
    have := (List.getElem?_eq_some_iff.1 hxi).1
    simpa using this
   rw [List.getElem?_map, List.getElem?_range hi] at hxi
   simp at hxi
   subst hxi
   refine ⟨(f i).2, cs i, by rw [List.getElem?_map, List.getElem?_range hi]; rfl, hf i hi, fun j hj => ?_⟩
   rw [← ea]
   exact hc i hi j hj

theorem rdIntSS_of {t e q : TypeId} {fuel : Nat} {v : Value} {x : DataW H × List MemPlace} (ht : P.underlying t = some (.slice e)) (he : P.underlying e = some (.slice q)) (hq : P.underlying q = some (.int .i64)) (ce : P.cellsOf e = 1) (cq : P.cellsOf q = 1)
 (h : DataW.trod enc P w 0 (fun _ => true) held fuel t [v] = some x) : ∃ d, tIntSS.Rd w [v] d := by
 rcases open_slice1 ht ce h with ⟨hcs, _⟩ | ⟨a, len, cap, m, n, V, D, Pl, hcs, _, hl, hm, hmm, _, hx⟩
 . simp at hcs
   subst hcs
   exact ⟨[], [], none, 0, rfl, by simp, by simp, .inl ⟨rfl, rfl, fun _ => rfl⟩⟩
 . simp at hcs
   subst hcs
   simp only [if_true] at hmm
   refine rd_row hl (by unfold maxLen at hm; omega) (fun i => [V i]) (by decide) (fun _ _ => rfl) (fun i hi j hj => ?_) (fun i hi => rdInts_of he hq cq (hx i (by omega)).2)
   have hj0 : j = 0 := by have : j < 1 := hj; omega
   subst hj0
   have := (hx i (by omega)).1
   show w.cell? (a.add (i * 1 + 0)) = some (V i)
   rw [Nat.mul_one, Nat.add_zero]
   exact this

theorem rdWrS_of {t e q : TypeId} {f0 f1 : Field} {E : TypeId} {fuel : Nat} {v : Value} {x : DataW H × List MemPlace} (ht : P.underlying t = some (.slice e)) (he : P.underlying e = some (.struct #[f0, f1])) (ce : P.cellsOf e = 2) (o0 : f0.offset = 0) (o1 : f1.offset = 1) (c0 : P.cellsOf f0.type = 1) (c1 : P.cellsOf f1.type = 1)
 (hi0 : P.underlying f0.type = some (.int .i64)) (hi1 : P.underlying f1.type = some (.slice q)) (hq : P.underlying q = some (.int .i64)) (cq : P.cellsOf q = 1)
 (h : DataW.trod enc P w 0 (fun _ => true) held fuel t [v] = some x) : ∃ d, (tWrS E).Rd w [v] d := by
 rcases open_slice_pairs ht he ce o0 o1 c0 c1 h with ⟨hcs, _⟩ | ⟨a, len, cap, m, n, V0, V1, D0, D1, P0, P1, hcs, _, hl, hm, hmm, _, hx⟩
 . simp at hcs
   subst hcs
   exact ⟨[], [], none, 0, rfl, by simp, by simp, .inl ⟨rfl, rfl, fun _ => rfl⟩⟩
 . simp at hcs
   subst hcs
   simp only [if_true] at hmm
   refine rd_row hl (by unfold maxLen at hm; omega) (fun i => [V0 i, V1 i]) (by decide) (fun _ _ => rfl) (fun i hi j hj => ?_) (fun i hi => ?_)
   . have hj2 : j < 2 := hj
     obtain ⟨h0, h1, _⟩ := hx i (by omega)
     match j, hj2 with
     | 0, _ => exact h0
     | 1, _ => exact h1
   . obtain ⟨_, _, h2, h3⟩ := hx i (by omega)
     obtain ⟨y, hy, _, _⟩ := DataW.trod_int hi0 h2
     obtain ⟨zs, hzs⟩ := rdInts_of hi1 hq cq h3
     simp at hy
     exact ⟨(y, zs), by rw [hy]; exact pair_rd_of (t := intTy) (vs := [_]) ⟨[], rfl, rfl⟩ hzs⟩

end
end Go.Proofs.YtialakmmifhliaaGreat

namespace Go.Proofs.YtialakmmifhliaaGreat
open Go.RowKit Go.ChangeShapes Go.WideShapes Go.ChangeAt Go.Joins Go.Deep

section
variable {H : Type} {enc : TypeId × Value -> H} {w : World} {held : Bool}

theorem rdRow_of {P : Program} {t e E : TypeId} {u : Ty} {fuel : Nat} {v : Value} {x : DataW H × List MemPlace} (ht : P.underlying t = some (.slice e)) (ce : P.cellsOf e = u.n) (hn : 0 < u.n)
 (each : ∀ (n : Nat) (cs : List Value) (y : DataW H × List MemPlace), cs.length = u.n -> DataW.trod enc P w 0 (fun _ => true) held n e cs = some y -> ∃ d, u.Rd w cs d)
 (h : DataW.trod enc P w 0 (fun _ => true) held fuel t [v] = some x) : ∃ d, (rowTy u E).Rd w [v] d := by
 rcases open_slice ht h with ⟨hcs, _⟩ | ⟨a, len, cap, m, n, D, Pl, hcs, _, hl, hm, hmm, _, hx⟩
 . simp at hcs
   subst hcs
   exact ⟨[], [], none, 0, rfl, by simp, by simp, .inl ⟨rfl, rfl, fun _ => rfl⟩⟩
 . simp at hcs
   subst hcs
   simp only [if_true] at hmm
   have one : ∀ i, i < len -> ∃ cs : List Value, cs.length = u.n /\ (∀ j, j < u.n -> w.cell? (a.add (i * u.n + j)) = cs[j]?) /\ ∃ d, u.Rd w cs d := by
    intro i hi
    obtain ⟨cs', h1, h2⟩ := hx i (by omega)
    rw [ce] at h1
    obtain ⟨_, hlen, hcell⟩ := World.cells?_some h1
    refine ⟨cs', hlen, fun j hj => ?_, each n cs' _ hlen h2⟩
    have := hcell j hj
    rw [add_add] at this
    exact this
   obtain ⟨q, hq⟩ := choose_lt one
   exact rd_row hl (by unfold maxLen at hm; omega) q hn (fun i hi => (hq i hi).1) (fun i hi => (hq i hi).2.1) (fun i hi => (hq i hi).2.2)

theorem rdMemS_of {fuel : Nat} {v : Value} {x : DataW H × List MemPlace} (h : DataW.trod enc Tryz.prog w 0 (fun _ => true) held fuel 24 [v] = some x) : ∃ d, (tMemS 96 59).Rd w [v] d := by
 refine rdRow_of (e := 59) Tryz.underlying24 (by kernel_rfl) (by decide) (fun n cs y hl hy => ?_) h
 match cs, hl with
 | [v0, v1, v2, v3], _ =>
  obtain ⟨xs, k, _, _, _, hxl, hf⟩ := DataW.trod_struct Tryz.underlying59 hy
  have c1 : Tryz.prog.cellsOf 56 = 1 := by kernel_rfl
  have c2 : Tryz.prog.cellsOf 57 = 1 := by kernel_rfl
  have c3 : Tryz.prog.cellsOf 4 = 1 := by kernel_rfl
  have c4 : Tryz.prog.cellsOf 29 = 1 := by kernel_rfl
  match xs, hxl with
  | [y0, y1, y2, y3], _ =>
   have g0 := hf 0 _ rfl
   have g1 := hf 1 _ rfl
   have g2 := hf 2 _ rfl
   have g3 := hf 3 _ rfl
   simp [c1] at g0
   simp [c2] at g1
   simp [c3] at g2
   simp [c4] at g3
   obtain ⟨ss, r0⟩ := rdIntSS_of Tryz.underlying56 Tryz.underlying29 Tryz.underlying3 (by kernel_rfl) (by kernel_rfl) g0
   obtain ⟨ws, r1⟩ := rdWrS_of (E := 96) Tryz.underlying57 Tryz.underlying96 (by kernel_rfl) rfl rfl (by kernel_rfl) (by kernel_rfl) Tryz.underlying3 Tryz.underlying29 Tryz.underlying3 (by kernel_rfl) g1
   obtain ⟨f, hfb, _⟩ := DataW.trod_bool Tryz.underlying4 g2
   obtain ⟨bs, r3⟩ := rdInts_of Tryz.underlying29 Tryz.underlying3 (by kernel_rfl) g3
   simp at hfb
   subst hfb
   exact ⟨(ss, ws, f, bs), pair_rd_of (vs := [v0]) r0 (pair_rd_of (vs := [v1]) r1 (pair_rd_of (t := boolTy) (vs := [.bool f]) ⟨[], rfl, rfl⟩ r3))⟩

theorem array13 {cs : Array Value} (h : cs.size = 13) : ∃ c0 c1 c2 c3 c4 c5 c6 c7 c8 c9 c10 c11 c12, cs = #[c0, c1, c2, c3, c4, c5, c6, c7, c8, c9, c10, c11, c12] := by
 obtain ⟨l⟩ := cs
 match l, h with
 | [c0, c1, c2, c3, c4, c5, c6, c7, c8, c9, c10, c11, c12], _ => exact ⟨c0, c1, c2, c3, c4, c5, c6, c7, c8, c9, c10, c11, c12, rfl⟩

theorem open_arr {r : Reach} {b0 : Nat} {v : Value} {d : DataW H} {p : List MemPlace} (hv : Value.okWide Tryz.prog w r b0 27 v) (h : DataW.Trod enc Tryz.prog w 0 (fun _ => true) held 27 v d p) :
 ∃ (x : ArrN) (am ad : Option Addr) (cm cd : Nat) (ms : List MemD) (ds : List (Int × List Int)), v = .agg #[.int .i64 x.id, .int .i64 x.n, .int .i64 x.s, .slice am ms.length cm, .int .i64 x.lost, .int .i64 x.built, .int .i64 x.seq, .int .i64 x.tail, .int .i64 x.gen, .slice ad ds.length cd, .int .i64 x.fuse, .bool x.down, .bool x.broken] /\ (tMemS 96 59).Rd w [.slice am ms.length cm] ms /\ (tWrS 62).Rd w [.slice ad ds.length cd] ds := by
 obtain ⟨cs, rfl, hsz⟩ := okWide_struct Tryz.underlying27 hv
 obtain ⟨c0, c1, c2, c3, c4, c5, c6, c7, c8, c9, c10, c11, c12, rfl⟩ := array13 (hsz.trans (by kernel_rfl))
 obtain ⟨fuel, hf⟩ := h
 obtain ⟨xs, n, _, _, _, hxl, hx⟩ := DataW.trod_struct Tryz.underlying27 hf
 have k3 : Tryz.prog.cellsOf 3 = 1 := by kernel_rfl
 have k4 : Tryz.prog.cellsOf 4 = 1 := by kernel_rfl
 have kG : Tryz.prog.cellsOf 23 = 2 := by kernel_rfl
 have kM : Tryz.prog.cellsOf 24 = 1 := by kernel_rfl
 have kE : Tryz.prog.cellsOf 25 = 1 := by kernel_rfl
 match xs, hxl with
 | [y0, y1, y2, y3, y4, y5, y6, y7, y8, y9, y10, y11], _ =>
  have g0 := hx 0 _ rfl
  have g1 := hx 1 _ rfl
  have g2 := hx 2 _ rfl
  have g3 := hx 3 _ rfl
  have g4 := hx 4 _ rfl
  have g5 := hx 5 _ rfl
  have g6 := hx 6 _ rfl
  have g7 := hx 7 _ rfl
  have g8 := hx 8 _ rfl
  have g9 := hx 9 _ rfl
  have g10 := hx 10 _ rfl
  have g11 := hx 11 _ rfl
  simp [Value.cells, k3] at g0
  simp [Value.cells, kG] at g1
  simp [Value.cells, kM] at g2
  simp [Value.cells, k3] at g3
  simp [Value.cells, k3] at g4
  simp [Value.cells, k3] at g5
  simp [Value.cells, k3] at g6
  simp [Value.cells, k3] at g7
  simp [Value.cells, kE] at g8
  simp [Value.cells, k3] at g9
  simp [Value.cells, k4] at g10
  simp [Value.cells, k4] at g11
  obtain ⟨n0, e0, _, _⟩ := DataW.trod_int Tryz.underlying3 g0
  simp at e0
  subst e0
  obtain ⟨zs, m, _, _, _, hzl, hz⟩ := DataW.trod_struct Tryz.underlying23 g1
  match zs, hzl with
  | [z0, z1], _ =>
  have q0 := hz 0 _ rfl
  have q1 := hz 1 _ rfl
  simp [k3] at q0 q1
  obtain ⟨nn, en, _, _⟩ := DataW.trod_int Tryz.underlying3 q0
  obtain ⟨ns, es, _, _⟩ := DataW.trod_int Tryz.underlying3 q1
  simp at en es
  subst en es
  obtain ⟨ms, r2⟩ := rdMemS_of g2
  obtain ⟨am, cm, rfl⟩ := row_shape r2
  obtain ⟨n3, e3, _, _⟩ := DataW.trod_int Tryz.underlying3 g3
  simp at e3
  subst e3
  obtain ⟨n4, e4, _, _⟩ := DataW.trod_int Tryz.underlying3 g4
  simp at e4
  subst e4
  obtain ⟨n5, e5, _, _⟩ := DataW.trod_int Tryz.underlying3 g5
  simp at e5
  subst e5
  obtain ⟨n6, e6, _, _⟩ := DataW.trod_int Tryz.underlying3 g6
  simp at e6
  subst e6
  obtain ⟨n7, e7, _, _⟩ := DataW.trod_int Tryz.underlying3 g7
  simp at e7
  subst e7
  obtain ⟨ds, r8⟩ := rdWrS_of (E := 62) Tryz.underlying25 Tryz.underlying62 (by kernel_rfl) rfl rfl (by kernel_rfl) (by kernel_rfl) Tryz.underlying3 Tryz.underlying29 Tryz.underlying3 (by kernel_rfl) g8
  obtain ⟨ad, cd, rfl⟩ := row_shape r8
  obtain ⟨n9, e9, _, _⟩ := DataW.trod_int Tryz.underlying3 g9
  simp at e9
  subst e9
  obtain ⟨n10, e10, _⟩ := DataW.trod_bool Tryz.underlying4 g10
  simp at e10
  subst e10
  obtain ⟨n11, e11, _⟩ := DataW.trod_bool Tryz.underlying4 g11
  simp at e11
  subst e11
  exact ⟨⟨n0, nn, ns, n3, n4, n5, n6, n7, n9, n10, n11⟩, am, ad, cm, cd, ms, ds, rfl, r2, r8⟩

end
end Go.Proofs.YtialakmmifhliaaGreat

namespace Go.Proofs.YtialakmmifhliaaGreat.fnExactContents
open Go.ChangeShapes Go.WideShapes Go.ChangeAt Go.RowKit Go.Joins
open Go.ChangeMaps (open_string shut_string)
set_option linter.unusedVariables false

theorem own : ownKnob Tryz.prog.godebug = none := by kernel_rfl
theorem laidOut : laidOutB Tryz.prog = true := by kernel_rfl

theorem lifted (os : Os) (started : os.Started) (H : Type) (enc : TypeId × Value -> H) :
 ReturnsInHanded {} Tryz.checked os 3 .any (Rows.fnExactContentsSpec.pre6 enc Tryz.prog Tryz.f3 Rows.fnExactContentsRow.domain false) (Rows.fnExactContentsSpec.post enc Tryz.prog Tryz.f3 false true false false) := by
 refine returnsInHanded_of_change (C := Tryz.checked) own started (by kernel_rfl) Tryz.func3
  (ChangeSpec.witness6 (enc := enc) (C := Tryz.checked) false ⟨#[], #[.agg #[.int .i64 0, .int .i64 0, .int .i64 0, .slice none 0 0, .int .i64 0, .int .i64 0, .int .i64 0, .int .i64 0, .int .i64 0, .slice none 0 0, .int .i64 0, .bool false, .bool false]], []⟩ 8 (by kernel_rfl) (by kernel_rfl) (by kernel_rfl) (by kernel_rfl)) ?_
 intro W base args ds gs before hval0 hW hcnd _
 have hval : ∀ (j : Nat) t v, Tryz.f3.params[j]? = some t -> args[j]? = some v -> Value.okWide Tryz.prog W .any base t v := hval0
 have hW' := hW
 obtain ⟨p, q, hA0, hV, rfl, hfz, hnd⟩ := hW
 have hA : DataW.TrodAll enc Tryz.prog W 0 (fun _ => true) true Tryz.f3.params.toList args.toList ds p := hA0
 rw [Tryz.params3] at hA hval
 obtain ⟨v0, vs0, d0, ds0, p0, q0, hargs0, rfl, rfl, h0, r0⟩ := trodAll_cons hA
 obtain ⟨rfl, rfl, rfl⟩ := trodAll_nil r0
 obtain rfl : args = #[v0] := by cases args; simp_all
 obtain ⟨rfl, rfl⟩ := trodVars_none hV
 have k0 := h0
 have lt0 : ∀ x ∈ p0, x.block < W.heap.size := by obtain ⟨m, hm⟩ := k0; exact DataW.trod_lt m _ _ _ hm
 obtain ⟨x0, am0, ad0, cm0, cd0, ms0, ds0, rfl, g0m, g0d⟩ := open_arr (hval 0 27 v0 rfl rfl) h0
 clear hA0 hval0
 refine (fnExactContents_walk x0 am0 ad0 ms0.length cm0 ds0.length cd0 ms0 ds0 W g0m g0d).mono fun e W' ⟨he, bel⟩ => ?_
 subst he
 exact ⟨_, rfl, _, _, _, [], _, [], hW', trodAll_mk1 (shut_bool Tryz.underlying4 _), (trodAll_cons_mk (Below.trod laidOut (by kernel_rfl) (of_decide_eq_true (by kernel_rfl)) k0 bel lt0) trodAll_mk0), rfl, bel.frame _, fun h => by cases h⟩

theorem over : Rows.fnExactContentsRow.holds Tryz.pinned (OpenSpec.ofChange Rows.fnExactContentsSpec) :=
 OpenClaim.holds_of_wide 3 Tryz.f3 rfl rfl rfl rfl rfl rfl rfl ⟨rfl, rfl, rfl, rfl, rfl⟩ rfl rfl rfl rfl rfl (by kernel_rfl) Tryz.func3 (by kernel_rfl)
  (of_decide_eq_true (by kernel_rfl)) (by unfold Func.isWrapper; first | (rw [if_pos (by decide +kernel)]; kernel_rfl) | (rw [if_neg (by decide +kernel)]; exact ⟨rfl, rfl⟩))
  (fun os started H enc _ => lifted os started H enc)
end Go.Proofs.YtialakmmifhliaaGreat.fnExactContents

namespace Go.Proofs.YtialakmmifhliaaGreat
theorem fnExactContents_holds : Rows.FnExactContentsSaid := fnExactContents.over
#print axioms fnExactContents_holds
end Go.Proofs.YtialakmmifhliaaGreat


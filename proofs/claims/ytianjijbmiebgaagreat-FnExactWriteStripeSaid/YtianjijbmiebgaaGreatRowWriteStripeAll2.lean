/-
 The walks of the program's flushOp and of the operation that it makes. No condition but that every disk is right.
-/
import Derived.Test.YtianjijbmiebgaaGreatHeld
import Derived.Test.YtianjijbmiebgaaGreatRowWriteStripeAll3
import Derived.Test.YtianjijbmiebgaaGreatWalkPutSuper
import Derived.Test.YtianjijbmiebgaaGreatWalkGeo
import Derived.Test.YtianjijbmiebgaaGreatKit
import Derived.Test.YtianjijbmiebgaaGreatRows
import Derived.Test.YtianjijbmiebgaaGreatWalkIn
import Derived.Test.YtianjijbmiebgaaGreatWalkEq
import Derived.Test.YtianjijbmiebgaaGreatWalkMark
import Derived.Test.YtianjijbmiebgaaGreatWalkSecOk
import Derived.Test.YtianjijbmiebgaaGreatBox
import Derived.Test.YtianjijbmiebgaaGreatFrame
import Derived.Test.YtianjijbmiebgaaGreatOwnLen
import Derived.Laws.IdiomCopy
import Derived.Laws.MakeOwn
import Derived.Test.YtianjijbmiebgaaGreatGrow
import Derived.Recover
import Derived.Test.YtianjijbmiebgaaGreatOrder
import Derived.OrdersHeld
import Derived.RegionTactic
import Derived.Test.YtianjijbmiebgaaGreatRowWriteStripeAll4
import Derived.Test.YtianjijbmiebgaaGreatWalkNewest
import Derived.Test.YtianjijbmiebgaaGreatWalkCopyWords
import Derived.Test.YtianjijbmiebgaaGreatMemB
import Derived.BigQuiet
import Derived.WalkSmall
import Derived.Handy
import Derived.Test.YtianjijbmiebgaaGreatWalkSuper

set_option maxRecDepth 100000
set_option maxHeartbeats 8000000
set_option linter.unusedSimpArgs false

namespace Go.Proofs.YtianjijbmiebgaaGreat
open Go.RowKit

theorem l7Sync_any (w : World) (B : Nat) (x : ArrN) (ms : List MemD) (ds : List (Int × List Int)) (fm fd : List Nat) (h : ArrAt w B x ms ds fm fd) (hf : x.fuse <= 1000) (hM : MsOk ms) :
 Calls Tryz.prog 64 #[.pointer (some ⟨B, 0, none⟩)] w fun e w' => e = .returned (.tuple #[]) /\ ∃ fm', ArrAt w' B (syncS (x, ms) ms.length).1 (syncS (x, ms) ms.length).2 ds fm' fd /\ Moved B fm w fm' w' := by
 have hkp := fun j => syncS_keeps (q := (x, ms)) hM hf j
 have HK := hidden hkp
 clear hkp
 have H0 := hidden h
 obtain ⟨bm0, bd0, cm0, cd0, X0, hm0, _⟩ := h
 have hmx := (row_length hm0.rd).2
 clear X0 hm0
 go_enter Tryz.func64, Tryz.ntmps64
 go_wp2
 go_loopw [2] (fun i wr => ∃ (j : Nat) (fm1 : List Nat), j <= ms.length /\ i = .int .i64 j /\ ArrAt wr B (syncS (x, ms) j).1 (syncS (x, ms) j).2 ds fm1 fd /\ Moved B fm w fm1 wr) (fun i _ => ms.length - (intOf i).toNat)
 case atStart => exact ⟨0, fm, Nat.zero_le _, rfl, H0.out, Moved.refl _ _ _⟩
 case round =>
  obtain ⟨j, fm1, hj, rfl, hA, hMv⟩ := hrel
  obtain ⟨hMj, hsj, hlj⟩ := HK.out j
  have hfj := hsj.2.2.2.2.2.2.2.2.2.1
  have HS := hidden (syncS_succ (x, ms) j)
  generalize hst : syncS (x, ms) j = st at hA hMj hsj hlj hfj HS
  have HST := hidden hst
  clear hst
  obtain ⟨y, ns⟩ := st
  dsimp only at hA hMj hsj hlj hfj
  have HA := hidden hA
  obtain ⟨bm, bd, cm, cd, X, hmm, hdd, hr, r1, r2⟩ := hA
  rw [hlj] at X hmm
  have X0 := X
  unfold arrC at X0
  obtain ⟨k0, k1, k2, k3, k4, k5, k6, k7, k8, k9, k10, k11, k12⟩ := X0.cells13
  by_cases hjn : j < ms.length
  . have i2 : (j : Int) < (ms.length : Int) := by omega
    have i1 : (0 : Int) <= (j : Int) := by omega
    obtain ⟨g, rfl⟩ := row_head hmm (by omega)
    have hdj : ns[j]? = some (ns[j]'(by omega)) := List.getElem?_eq_getElem (by omega)
    generalize ns[j]'(by omega) = d at hdj
    obtain ⟨hgl, a0, a1, a3, c0, c1, c3, ss, cs, f, bs, rfl, q0, q1, q2, q3, _, _, _⟩ := disk_at hmm hdj
    have MV := hidden hMv
    clear X X0 hmm hdd hMv
    cases f
    . go_wp2_with fail
      refine (l7Op_any _ B y ns ds fm1 fd HA.out hfj).mono ?_
      rintro e w1 ⟨rfl, hA1, hMv1⟩
      clear k0 k1 k2 k3 k4 k5 k6 k7 k8 k9 k10 k11 k12 q0 q1 q2 q3 HA
      cases ho : opB y
      . have HP : Hid (syncS (x, ms) (j + 1) = (opX y, ns)) := HS.out.trans (doS_no hdj rfl ho)
        have HB := hidden (MV.out.trans hMv1)
        have HA1 := hidden hA1
        clear hA1 hMv1
        go_wp2
        go_roundw
        case rel => exact ⟨j + 1, fm1, by omega, by go_num, by rw [HP.out]; exact HA1.out, HB.out⟩
        case measure => simp [intOf]; omega
      . have HP : Hid (syncS (x, ms) (j + 1) = (opX y, ns.set j (flM (ss, cs, false, bs)))) := HS.out.trans (doS_yes hdj rfl ho)
        obtain ⟨bm, bd, cm, cd, X, hmm, hdd, hr, r1, r2⟩ := hA1
        obtain ⟨g, rfl⟩ := row_head hmm (by omega)
        obtain ⟨hgl, a0, a1, a3, c0, c1, c3, ss, cs, f, bs, hde, q0, q1, q2, q3, p0, p1, p3⟩ := disk_at hmm hdj
        simp only [Prod.mk.injEq] at hde
        obtain ⟨rfl, rfl, rfl, rfl⟩ := hde
        have X0 := X
        unfold arrC at X0
        have x3 := X0.cells13.2.2.2.1
        have hwt := memB_light (hMj j _ hdj) false
        dsimp only at hwt
        have zB := X.lt
        have XH := hidden X
        have MH := hidden hmm
        have DH := hidden hdd
        have MV1 := hidden hMv1
        have R0 := hidden p0
        have R1 := hidden p1
        have R3 := hidden p3
        have hS : w1.drew.cell? ⟨B, 3, none⟩ = some (.slice (some ⟨g, 0, none⟩) ns.length cm) /\ w1.drew.cell? ⟨g, j * 4, none⟩ = some (.slice a0 ss.length c0) /\ w1.drew.cell? ⟨g, j * 4 + 1, none⟩ = some (.slice a1 cs.length c1) /\ w1.drew.cell? ⟨g, j * 4 + 2, none⟩ = some (.bool false) /\ w1.drew.cell? ⟨g, j * 4 + 3, none⟩ = some (.slice a3 bs.length c3) := ⟨x3, q0, q1, q2, q3⟩
        have i3 : (j : Int) < (ns.length : Int) := by omega
        clear X X0 hmm hdd hMv1 p0 p1 p3
        go_wp2_with fail
        refine Upto.start (S := fun w' => w'.cell? ⟨B, 3, none⟩ = some (.slice (some ⟨g, 0, none⟩) ns.length cm) /\ w'.cell? ⟨g, j * 4, none⟩ = some (.slice a0 ss.length c0) /\ w'.cell? ⟨g, j * 4 + 1, none⟩ = some (.slice a1 cs.length c1) /\ w'.cell? ⟨g, j * 4 + 2, none⟩ = some (.bool false) /\ w'.cell? ⟨g, j * 4 + 3, none⟩ = some (.slice a3 bs.length c3)) (k := 14) (by kernel_rfl) ?_
        refine Upto.t 0 hS ?_
        refine Upto.t 1 hS ?_
        refine Upto.t 2 hS ?_
        refine Upto.t 3 hS ?_
        refine Upto.t 4 hS ?_
        refine Upto.t 5 hS ?_
        refine Upto.t 6 hS ?_
        refine Upto.t 7 hS ?_
        refine Upto.t 8 hS ?_
        refine Upto.t 9 hS ?_
        refine Upto.t 10 hS ?_
        refine Upto.t 11 hS ?_
        refine Upto.one (i := 12) (by kernel_rfl) rfl (fun K hK => ?_)
        go_simp
        refine (specFlushMem_any _ 159 _ _ _ _ _ _ _ _ _ ss cs false bs R0.out.drew R1.out.drew R3.out.drew (by omega)).mono ?_
        rintro e w2 ⟨u0, u1, u3, rfl, o2, b2'⟩
        have b2 : Below w1.heap.size w1 w2 := (Below.refl w1.heap.size w1).drew.trans b2'
        have o2b : (tMem 159).Own w2 w1.heap.size w2.heap.size [u0, u1, .bool false, u3] _ := o2
        obtain ⟨d0, l0, f0, d1, l1, f1, d3, l3, f3, hv0, hv1, hv3⟩ := mem_slices o2b
        subst hv0 hv1 hv3
        obtain ⟨fpx, mx, rx⟩ := o2b.mine
        obtain ⟨cOld, fz, hgm, fm9, hA9, hMv9⟩ := arr_store (m := j) XH.out MH.out DH.out hr r1 r2 b2 (by omega) mx (fun b hb => (rx b hb).1)
        obtain ⟨o0, t0⟩ := cOld 0 (by omega)
        obtain ⟨o1, t1⟩ := cOld 1 (by omega)
        obtain ⟨o2', t2⟩ := cOld 2 (by omega)
        obtain ⟨o3, t3⟩ := cOld 3 (by omega)
        rw [Nat.add_zero] at t0
        have HA := hidden hA9
        have HMV := hidden ((MV.out.trans MV1.out).trans hMv9)
        have hS2 : w2.cell? ⟨B, 3, none⟩ = some (.slice (some ⟨g, 0, none⟩) ns.length cm) /\ w2.cell? ⟨g, j * 4, none⟩ = some (.slice a0 ss.length c0) /\ w2.cell? ⟨g, j * 4 + 1, none⟩ = some (.slice a1 cs.length c1) /\ w2.cell? ⟨g, j * 4 + 2, none⟩ = some (.bool false) /\ w2.cell? ⟨g, j * 4 + 3, none⟩ = some (.slice a3 bs.length c3) := ⟨(b2.cell (p := ⟨B, 3, none⟩) zB).trans x3, (b2.cell (p := ⟨g, j * 4, none⟩) hgl).trans q0, (b2.cell (p := ⟨g, j * 4 + 1, none⟩) hgl).trans q1, (b2.cell (p := ⟨g, j * 4 + 2, none⟩) hgl).trans q2, (b2.cell (p := ⟨g, j * 4 + 3, none⟩) hgl).trans q3⟩
        have gB : ¬ g = B := fun e => r1 (e ▸ hgm)
        unfold put4 at HA HMV
        clear x3 q0 q1 q2 q3 o2 o2b b2 b2' mx rx cOld hA9 hMv9 XH MH DH MV MV1 R0 R1 R3 hwt
        go_wp2_with fail
        refine hK.out _ _ (fun _ => hS2) ?_
        clear hK K
        refine Upto.t 13 hS2 ?_
        refine Upto.one (i := 14) (by kernel_rfl) rfl (fun K hK => ?_)
        go_simp
        refine hK.out _ _ (fun h => absurd rfl h) ?_
        clear hK K
        refine Upto.done (by kernel_rfl) ?_ _
        clear hS hS2 t0 t1 t2 t3 fz
        go_wp2
        go_roundw
        case rel => exact ⟨j + 1, fm9, by omega, by go_num, by rw [HP.out]; exact HA.out, HMV.out⟩
        case measure => simp [intOf]; omega
    . have HP : Hid (syncS (x, ms) (j + 1) = (y, ns)) := HS.out.trans (doS_failed hdj rfl)
      go_wp2
      go_roundw
      case rel => exact ⟨j + 1, fm1, by omega, by go_num, by rw [HP.out]; exact HA.out, MV.out⟩
      case measure => simp [intOf]; omega
  . have ej : j = ms.length := by omega
    subst ej
    have HMV := hidden hMv
    clear X X0 hmm hdd hMv
    go_wp2
    refine bodyPost_end (v := .tuple #[]) (results_none rfl _ _ _) rfl ?_
    exact ⟨rfl, fm1, by rw [HST.out]; exact HA.out, HMV.out⟩

theorem sStripe_of {n s t : Int} : stripeB n s t = true ↔ geoB n s = true /\ 0 <= t /\ t <= s - 1 := by unfold stripeB; rw [Bool.and_eq_true, inB_iff]

theorem l3Stripe_any (w : World) (n s t : Int) : Calls Tryz.prog 222 #[.agg #[.int .i64 n, .int .i64 s], .int .i64 t] w fun e w' => e = .returned (.bool (stripeB n s t)) /\ Below w.heap.size w w' := by
 have hA := new_below w (.cells #[.int .i64 n, .int .i64 s] 25)
 have X := Gbox.new w 25 n s
 obtain ⟨k0, k1⟩ := X.cells
 have zA := X.lt
 go_enter Tryz.func222, Tryz.ntmps222
 go_wp2_with fail
 refine (specGeoOk_any _ _ _).mono ?_
 rintro e w1 ⟨rfl, b1⟩
 have X1 := X.below b1 zA
 obtain ⟨p0, p1⟩ := X1.cells
 have B1 := Below.andThen hA b1
 clear k0 k1 X b1 hA zA
 by_cases hg : geoB n s = true
 . obtain ⟨h1, h2, h3, h4⟩ := geoB_iff.1 hg
   go_wp2_with fail
   refine (l1In_any _ _ _ _).mono ?_
   rintro e w2 ⟨rfl, rfl⟩
   go_wp2
   go_ret
   exact ⟨ret_bool (by unfold stripeB; rw [hg]; rfl), B1⟩
 . have hg : geoB n s = false := by simpa using hg
   go_wp2
   go_ret
   exact ⟨ret_bool (by unfold stripeB; rw [hg]; rfl), B1⟩

theorem specParityOf_any (w : World) (n s t : Int) : Calls Tryz.prog 176 #[.agg #[.int .i64 n, .int .i64 s], .int .i64 t] w fun e w' => e = .returned (.int .i64 (parN n s t)) /\ Below w.heap.size w w' := by
 have hA := new_below w (.cells #[.int .i64 n, .int .i64 s] 25)
 have X := Gbox.new w 25 n s
 obtain ⟨k0, k1⟩ := X.cells
 have zA := X.lt
 go_enter Tryz.func176, Tryz.ntmps176
 go_wp2_with fail
 refine (l3Stripe_any _ _ _ _).mono ?_
 rintro e w1 ⟨rfl, b1⟩
 have X1 := X.below b1 zA
 obtain ⟨p0, p1⟩ := X1.cells
 have B1 := Below.andThen hA b1
 clear k0 k1 X b1 hA zA
 by_cases hg : stripeB n s t = true
 . obtain ⟨hg1, h1, h2⟩ := sStripe_of.1 hg
   obtain ⟨g1, g2, g3, g4⟩ := geoB_iff.1 hg1
   have hm1 : 0 <= t % n := Int.emod_nonneg _ (by omega)
   have hm2 : t % n < n := Int.emod_lt_of_pos _ (by omega)
   have HB : Hid (parN n s t = n - 1 - t % n) := by unfold Hid parN; rw [if_pos hg]
   go_wp2_with fail
   go_quiet (fail)
   go_wp2
   go_ret
   exact ⟨ret_int (by rw [HB.out]), Below.andSame B1 ((Same.refl _).drewN _)⟩
 . have hg' : stripeB n s t = false := by simpa using hg
   go_wp2
   go_ret
   exact ⟨ret_int (by unfold parN; rw [if_neg hg]), B1⟩

def xorL (l : List Int) : Int := l.foldl (fun n x => bits BinOp.xor IntKind.i64 n x) 0

theorem xorL_step {zs : List Int} {j : Nat} {x : Int} (h : j < zs.length) (hx : zs.getD j 0 = x) : bits BinOp.xor IntKind.i64 (xorL (zs.take j)) x = xorL (zs.take (j + 1)) := by
 have e : zs[j] = x := by rw [← hx]; simp [List.getElem?_eq_getElem h]
 unfold xorL
 rw [List.take_succ_eq_append_getElem h, List.foldl_append, e]
 rfl

theorem specXorOf_any (w : World) (a : Option Addr) (len cap : Nat) (zs : List Int) (hz : zs.length = len) (hr : Reads .i64 w a zs) (hlen : len <= 2097152) :
 Calls Tryz.prog 223 #[.slice a len cap] w fun e w' => e = .returned (.int .i64 (xorL zs)) /\ Same w w' := by
 go_enter Tryz.func223, Tryz.ntmps223
 go_wp2
 go_loop [3, 4] (fun n i => ∃ j : Nat, j <= len /\ i = .int .i64 j /\ n = .int .i64 (xorL (zs.take j))) (fun _ i => len - (intOf i).toNat)
 case atStart => exact ⟨0, Nat.zero_le _, rfl, rfl⟩
 case round =>
  obtain ⟨j, hj, rfl, rfl⟩ := hrel
  by_cases hlt : j < len
  . rcases hr.cases with h0 | ⟨b, off, rfl, hbl, hc⟩
    . omega
    have hc1 := hc j (by omega)
    have HX : Hid (bits BinOp.xor IntKind.i64 (xorL (zs.take j)) (zs.getD j 0) = xorL (zs.take (j + 1))) := xorL_step (by omega) rfl
    generalize zs.getD j 0 = x at hc1 HX
    clear hc
    go_wp2
    go_round
    case rel => exact ⟨j + 1, by omega, by go_num, by rw [HX.out]⟩
    case measure => simp [intOf]; omega
  . go_wp2
    go_ret
    have e : j = len := by omega
    subst e
    exact ⟨ret_int (by rw [List.take_of_length_le (by omega)]), Same.refl _⟩

theorem implXorOf_any (w : World) (a : Option Addr) (len cap : Nat) (zs : List Int) (hz : zs.length = len) (hr : Reads .i64 w a zs) (hlen : len <= 2097152) :
 Calls Tryz.prog 244 #[.slice a len cap] w fun e w' => e = .returned (.int .i64 (xorL zs)) /\ Same w w' := by
 go_enter Tryz.func244, Tryz.ntmps244
 go_wp2
 go_loop [3, 8] (fun n i => ∃ j : Nat, j <= len /\ i = .int .i64 j /\ n = .int .i64 (xorL (zs.take j))) (fun _ i => len - (intOf i).toNat)
 case atStart => exact ⟨0, Nat.zero_le _, rfl, rfl⟩
 case round =>
  obtain ⟨j, hj, rfl, rfl⟩ := hrel
  by_cases hlt : j < len
  . rcases hr.cases with h0 | ⟨b, off, rfl, hbl, hc⟩
    . omega
    have hc1 := hc j (by omega)
    have HX : Hid (bits BinOp.xor IntKind.i64 (xorL (zs.take j)) (zs.getD j 0) = xorL (zs.take (j + 1))) := xorL_step (by omega) rfl
    generalize zs.getD j 0 = x at hc1 HX
    clear hc
    go_wp2
    go_round
    case rel => exact ⟨j + 1, by omega, by go_num, by rw [HX.out]⟩
    case measure => simp [intOf]; omega
  . go_wp2
    go_ret
    have e : j = len := by omega
    subst e
    exact ⟨ret_int (by rw [List.take_of_length_le (by omega)]), Same.refl _⟩

theorem implParityWord_any (w : World) (a : Option Addr) (len cap : Nat) (zs : List Int) (hz : zs.length = len) (hr : Reads .i64 w a zs) (hlen : len <= 2097152) :
 Calls Tryz.prog 214 #[.slice a len cap] w fun e w' => e = .returned (.int .i64 (xorL zs)) /\ Same w w' := by
 go_enter Tryz.func214, Tryz.ntmps214
 go_wp2_with fail
 refine (implXorOf_any _ _ _ _ zs hz hr hlen).mono ?_
 rintro e w1 ⟨rfl, hs⟩
 go_wp2
 go_ret
 exact ⟨rfl, hs⟩
theorem specParityWord_any (w : World) (a : Option Addr) (len cap : Nat) (zs : List Int) (hz : zs.length = len) (hr : Reads .i64 w a zs) (hlen : len <= 2097152) :
 Calls Tryz.prog 177 #[.slice a len cap] w fun e w' => e = .returned (.int .i64 (xorL zs)) /\ Same w w' := by
 go_enter Tryz.func177, Tryz.ntmps177
 go_wp2_with fail
 refine (specXorOf_any _ _ _ _ zs hz hr hlen).mono ?_
 rintro e w1 ⟨rfl, hs⟩
 go_wp2
 go_ret
 exact ⟨rfl, hs⟩

def slotN (x : Int) : Int := if 0 <= x then 2 + x % 4 else -1
def dataN (x : Int) : Int := if 0 <= x /\ x <= 1099511627776 then x + 6 else -1
theorem implSlotOf_any (w : World) (x : Int) : Calls Tryz.prog 212 #[.int .i64 x] w fun e w' => e = .returned (.int .i64 (slotN x)) /\ w' = w := by
 by_cases h : 0 <= x
 . have e1 : x.tmod 4 = x % 4 := Int.tmod_eq_emod_of_nonneg h
   have e2 : IntKind.i64.wrap (x % 4) = x % 4 := IntWalk.i64_in _ (by omega)
   have e3 : IntKind.i64.wrap (2 + x % 4) = 2 + x % 4 := IntWalk.i64_in _ (by omega)
   have hv : slotN x = 2 + x % 4 := by unfold slotN; rw [if_pos h]
   go_enter Tryz.func212, Tryz.ntmps212
   go_wp2
   go_ret
   exact ⟨ret_int (by first | (rw [hv]; done) | rfl | omega), rfl⟩
 . have hv : slotN x = -1 := by unfold slotN; rw [if_neg h]
   go_enter Tryz.func212, Tryz.ntmps212
   go_wp2
   go_ret
   exact ⟨ret_int (by first | (rw [hv]; done) | rfl | omega), rfl⟩

theorem specSlotOf_any (w : World) (x : Int) : Calls Tryz.prog 174 #[.int .i64 x] w fun e w' => e = .returned (.int .i64 (slotN x)) /\ w' = w := by
 by_cases h : 0 <= x
 . have e1 : x.tmod 4 = x % 4 := Int.tmod_eq_emod_of_nonneg h
   have e2 : IntKind.i64.wrap (x % 4) = x % 4 := IntWalk.i64_in _ (by omega)
   have e3 : IntKind.i64.wrap (2 + x % 4) = 2 + x % 4 := IntWalk.i64_in _ (by omega)
   have hv : slotN x = 2 + x % 4 := by unfold slotN; rw [if_pos h]
   go_enter Tryz.func174, Tryz.ntmps174
   go_wp2
   go_ret
   exact ⟨ret_int (by first | (rw [hv]; done) | rfl | omega), rfl⟩
 . have hv : slotN x = -1 := by unfold slotN; rw [if_neg h]
   go_enter Tryz.func174, Tryz.ntmps174
   go_wp2
   go_ret
   exact ⟨ret_int (by first | (rw [hv]; done) | rfl | omega), rfl⟩

theorem implDataAt_any (w : World) (x : Int) : Calls Tryz.prog 173 #[.int .i64 x] w fun e w' => e = .returned (.int .i64 (dataN x)) /\ w' = w := by
 by_cases h : 0 <= x /\ x <= 1099511627776
 . have e2 : IntKind.i64.wrap (x + 2) = x + 2 := IntWalk.i64_in _ (by omega)
   have e4 : IntKind.i64.wrap (x + 2 + 4) = x + 2 + 4 := IntWalk.i64_in _ (by omega)
   have e3 : IntKind.i64.wrap (6 + x) = 6 + x := IntWalk.i64_in _ (by omega)
   have hv : dataN x = x + 6 := by unfold dataN; rw [if_pos h]
   have hi : inB x 0 1099511627776 = true := by unfold inB; simp; omega
   go_enter Tryz.func173, Tryz.ntmps173
   go_wp2_with fail
   refine (within_any _ _ _ _).mono ?_
   rintro e w1 ⟨rfl, rfl⟩
   rw [hi]
   go_wp2
   go_ret
   exact ⟨ret_int (by rw [hv]; omega), rfl⟩
 . have hv : dataN x = -1 := by unfold dataN; rw [if_neg h]
   have hi : inB x 0 1099511627776 = false := by unfold inB; simp; omega
   go_enter Tryz.func173, Tryz.ntmps173
   go_wp2_with fail
   refine (within_any _ _ _ _).mono ?_
   rintro e w1 ⟨rfl, rfl⟩
   rw [hi]
   go_wp2
   go_ret
   exact ⟨ret_int (by first | (rw [hv]; done) | rfl | omega), rfl⟩

theorem specDataAt_any (w : World) (x : Int) : Calls Tryz.prog 105 #[.int .i64 x] w fun e w' => e = .returned (.int .i64 (dataN x)) /\ w' = w := by
 by_cases h : 0 <= x /\ x <= 1099511627776
 . have e2 : IntKind.i64.wrap (x + 2) = x + 2 := IntWalk.i64_in _ (by omega)
   have e4 : IntKind.i64.wrap (x + 2 + 4) = x + 2 + 4 := IntWalk.i64_in _ (by omega)
   have e3 : IntKind.i64.wrap (6 + x) = 6 + x := IntWalk.i64_in _ (by omega)
   have hv : dataN x = x + 6 := by unfold dataN; rw [if_pos h]
   have hi : inB x 0 1099511627776 = true := by unfold inB; simp; omega
   go_enter Tryz.func105, Tryz.ntmps105
   go_wp2_with fail
   refine (l1In_any _ _ _ _).mono ?_
   rintro e w1 ⟨rfl, rfl⟩
   rw [hi]
   go_wp2
   go_ret
   exact ⟨ret_int (by rw [hv]; omega), rfl⟩
 . have hv : dataN x = -1 := by unfold dataN; rw [if_neg h]
   have hi : inB x 0 1099511627776 = false := by unfold inB; simp; omega
   go_enter Tryz.func105, Tryz.ntmps105
   go_wp2_with fail
   refine (l1In_any _ _ _ _).mono ?_
   rintro e w1 ⟨rfl, rfl⟩
   rw [hi]
   go_wp2
   go_ret
   exact ⟨ret_int (by first | (rw [hv]; done) | rfl | omega), rfl⟩

def dataW (n p : Int) (zs : List Int) (i : Nat) : Int := if (i : Int) = p then xorL zs else zs.getD (((i : Int) - p - 1 + n) % n).toNat 0
def datasS (q : ArrN × List MemD) (s p : Int) (zs : List Int) (j : Nat) : ArrN × List MemD := (List.range j).foldl (fun q (i : Nat) => if liveB q.1 q.2 (i : Int) s = true then putS q i (dataN s) [dataW q.1.n p zs i] else q) q
theorem datasS_succ (q : ArrN × List MemD) (s p : Int) (zs : List Int) (j : Nat) : datasS q s p zs (j + 1) = if liveB (datasS q s p zs j).1 (datasS q s p zs j).2 (j : Int) s = true then putS (datasS q s p zs j) j (dataN s) [dataW (datasS q s p zs j).1.n p zs j] else datasS q s p zs j := by unfold datasS; rw [List.range_succ, List.foldl_append]; rfl
theorem datasS_keeps {q : ArrN × List MemD} (s p : Int) (zs : List Int) (h : MsOk q.2) (hf : q.1.fuse <= 1000) : ∀ j, MsOk (datasS q s p zs j).2 /\ SameN q.1 (datasS q s p zs j).1 /\ (datasS q s p zs j).2.length = q.2.length
 | 0 => ⟨h, SameN.refl hf, rfl⟩
 | j + 1 => by
  obtain ⟨h1, h2, h3⟩ := datasS_keeps s p zs h hf j
  rw [datasS_succ]
  split
  . exact ⟨putS_ok h1, h2.trans (doS_same _ _ h2.2.2.2.2.2.2.2.2.2.1), by unfold putS; rw [doS_len]; exact h3⟩
  . exact ⟨h1, h2, h3⟩
theorem MsOk.light {ms : List MemD} (h : MsOk ms) (hl : ms.length <= 1000) : wtMemS ms <= 2097152 := by
 have h1 : ∀ x ∈ ms.map wtMem, x <= 2000 := fun x hx => by
  obtain ⟨d, hd, rfl⟩ := List.mem_map.1 hx
  obtain ⟨i, hi⟩ := List.mem_iff_getElem?.1 hd
  exact memB_light (h i d hi) d.2.2.1
 have h2 := sumL_bound (ms.map wtMem) 2000 h1
 rw [List.length_map] at h2
 unfold wtMemS
 omega
theorem par_in {n s t : Int} (hg : geoB n s = true) (ht : inB t 0 (s - 1) = true) : 0 <= parN n s t /\ parN n s t < n := by
 obtain ⟨g1, g2, g3, g4⟩ := geoB_iff.1 hg
 have hs : stripeB n s t = true := by unfold stripeB; rw [hg, ht]; rfl
 unfold parN
 rw [if_pos hs]
 have h1 := Int.emod_nonneg t (show n ≠ 0 by omega)
 have h2 := Int.emod_lt_of_pos t (show 0 < n by omega)
 omega

theorem l7Data_any (w : World) (B : Nat) (x : ArrN) (ms : List MemD) (ds : List (Int × List Int)) (fm fd : List Nat) (h : ArrAt w B x ms ds fm fd) (hf : x.fuse <= 1000) (hM : MsOk ms) (s : Int) (ar : Option Addr) (nr cr : Nat) (zs : List Int) (fr : List Nat) (h5 : tIntS.Mine w [.slice ar nr cr] zs fr) (h5B : B ∉ fr) (h5f : ∀ b ∈ fr, b ∉ fm) (hg : geoB x.n x.s = true) (hs : inB s 0 (x.s - 1) = true) (hl : (ms.length : Int) = x.n) (hz : (nr : Int) = x.n - 1) :
 Calls Tryz.prog 121 #[.pointer (some ⟨B, 0, none⟩), .int .i64 s, .slice ar nr cr] w fun e w' => e = .returned (.tuple #[]) /\ ∃ fm', ArrAt w' B (datasS (x, ms) s (parN x.n x.s s) zs ms.length).1 (datasS (x, ms) s (parN x.n x.s s) zs ms.length).2 ds fm' fd /\ Moved B fm w fm' w' := by
 have hzl := (row_length h5.rd).1
 obtain ⟨g1, g2, g3, g4⟩ := geoB_iff.1 hg
 obtain ⟨pn0, pn1⟩ := par_in hg hs
 have HK : Hid (∀ j, _) := fun j => datasS_keeps (q := (x, ms)) s (parN x.n x.s s) zs hM hf j
 obtain ⟨N, hN⟩ : ∃ N : Nat, x.n = (N : Int) := ⟨x.n.toNat, by omega⟩
 have hmN : ms.length = N := by omega
 have hn5 : N <= 5 := by omega
 have hn3 : 3 <= N := by omega
 have hnr : nr + 1 <= N /\ N <= nr + 1 := by omega
 have hml : ms.length <= N /\ N <= ms.length := by omega
 have HNN := hidden hN
 have hpN : parN x.n x.s s < (N : Int) := by omega
 clear hN hmN hl hz pn1
 have A0 := hidden h
 have zB := h.lt
 have hlm := h.ltm.1
 have hlr := h5.lt
 have M5 := hidden h5
 have hmx : ∃ cm0, ms.length <= cm0 /\ cm0 <= 9223372036854775807 := by
  obtain ⟨_, _, cm0, _, _, hm0, _⟩ := h
  exact ⟨cm0, (row_length hm0.rd).2⟩
 obtain ⟨cm0, hmx⟩ := hmx
 obtain ⟨bm, bd, cm, cd, X, hmm, hdd, hr, r1, r2⟩ := h
 unfold arrC at X
 obtain ⟨k0, k1, k2, k3, k4, k5, k6, k7, k8, k9, k10, k11, k12⟩ := X.cells13
 clear X hmm hdd hr r1 r2
 go_enter Tryz.func121, Tryz.ntmps121
 go_wp2_with fail
 refine (specParityOf_any _ x.n x.s s).mono ?_
 rintro e W ⟨rfl, bW⟩
 clear k0 k1 k2 k3 k4 k5 k6 k7 k8 k9 k10 k11 k12
 generalize hp : parN x.n x.s s = p at pn0 hpN HK ⊢
 have HP0 := hidden hp
 clear hp
 have A1 := hidden (A0.out.below bW)
 have M5W := hidden (M5.out.below bW)
 have BW := hidden bW
 have zW := bW.size
 clear bW A0 M5
 go_wp2
 go_loopw [7] (fun i wr => ∃ (j : Nat) (fm1 : List Nat), j <= ms.length /\ i = .int .i64 j /\ ArrAt wr B (datasS (x, ms) s p zs j).1 (datasS (x, ms) s p zs j).2 ds fm1 fd /\ Moved B fm W fm1 wr) (fun i _ => ms.length - (intOf i).toNat)
 case atStart => exact ⟨0, fm, Nat.zero_le _, rfl, A1.out, Moved.refl _ _ _⟩
 case round =>
  obtain ⟨j, fm1, hj, rfl, hA, hMv⟩ := hrel
  obtain ⟨hMj, hsj, hlj⟩ := HK.out j
  have hfj := hsj.2.2.2.2.2.2.2.2.2.1
  have hnj := hsj.2.1
  have HS := hidden (datasS_succ (x, ms) s p zs j)
  generalize hst : datasS (x, ms) s p zs j = st at hA hMj hsj hlj hfj hnj HS
  have HST := hidden hst
  clear hst
  obtain ⟨y, ns⟩ := st
  dsimp only at hA hMj hsj hlj hfj hnj HS
  clear hsj
  have HNJ := hidden hnj
  clear hnj
  have HA := hidden hA
  obtain ⟨bm, bd, cm, cd, X, hmm, hdd, hr, r1, r2⟩ := hA
  have HL := hidden hlj
  rw [hlj] at X hmm
  unfold arrC at X
  have hwM := hMj.light (by omega)
  clear hlj
  have RM := hidden hmm.rd
  have zr := X.lt
  have XH := hidden X
  obtain ⟨k0, k1, k2, k3, k4, k5, k6, k7, k8, k9, k10, k11, k12⟩ := X.cells13
  clear hmm hdd hr r1 r2 X
  have m5 := hMv.mine M5W.out h5B h5f
  have zw := hMv.size
  obtain ⟨rd5, _⟩ := ints_rd m5.rd
  have M5R := hidden m5
  have MV := hidden hMv
  clear m5 hMv
  by_cases hjn : j < ms.length
  . have i2 : (j : Int) < (ms.length : Int) := by omega
    have RD5 := hidden rd5
    go_wp2_with fail
    refine (specParityWord_any _ _ _ _ zs hzl RD5.out (by omega)).mono ?_
    rintro e w1 ⟨rfl, s1⟩
    have b1 := s1.below wr.heap.size
    have X1 := XH.out.below b1 zr
    have A2 := hidden (HA.out.below b1)
    have R2 := hidden (RM.out.below b1)
    have M2 := hidden (M5R.out.below b1)
    have MV2 := hidden (MV.out.below b1)
    have zr1 := X1.lt
    have RD6 := hidden (RD5.out.below b1)
    have z1 := b1.size
    clear k0 k1 k2 k3 k4 k5 k6 k7 k8 k9 k10 k11 k12 s1 b1 XH RM M5R MV RD5 HA rd5
    obtain ⟨k0, k1, k2, k3, k4, k5, k6, k7, k8, k9, k10, k11, k12⟩ := X1.cells13
    by_cases hjp : (j : Int) = p
    . have e1 : ((j : Int) == p) = true := by simpa using hjp
      have e2 : ((j : Int) != p) = false := by simpa using hjp
      have HDW : Hid (dataW y.n p zs j = xorL zs) := by unfold Hid dataW; rw [if_pos hjp]
      clear hjp
      generalize xorL zs = v at HDW ⊢
      go_wp2_with fail
      refine (specLiveAt_any _ 159 109 y _ _ _ _ _ _ ns (j : Int) s R2.out hwM).mono ?_
      rintro e w4 ⟨rfl, b4⟩
      have A4 := hidden (A2.out.below b4)
      have MV4 := hidden (MV2.out.below b4)
      clear k0 k1 k2 k3 k4 k5 k6 k7 k8 k9 k10 k11 k12 b4 X1
      cases hlv : liveB y ns (j : Int) s
      . have HP : Hid (datasS (x, ms) s p zs (j + 1) = (y, ns)) := by unfold Hid; rw [HS.out, if_neg (by simp [hlv])]
        go_wp2
        go_roundw
        case rel => exact ⟨j + 1, fm1, by omega, by go_num, by rw [HP.out]; exact A4.out, MV4.out⟩
        case measure => simp [intOf]; omega
      . have HP : Hid (datasS (x, ms) s p zs (j + 1) = putS (y, ns) j (dataN s) [dataW y.n p zs j]) := by unfold Hid; rw [HS.out, if_pos hlv]
        rw [HDW.out] at HP
        go_wp2_with fail
        refine (specDataAt_any _ _).mono ?_
        rintro e w5 ⟨rfl, h5w⟩
        subst h5w
        have b5 := new_below w5 (.cells #[.int .i64 v] 3)
        have A5 := hidden (A4.out.below b5)
        have MV5 := hidden (MV4.out.below b5)
        have LT := hidden A4.out.ltm
        have zB4 := A4.out.lt
        obtain ⟨fp5, m5, r5⟩ := (own_ints (Owns.lit .i64 3 w5 [v] 1 #[.int .i64 v] rfl rfl (by unfold maxLen; omega))).mine
        have M5 := hidden m5
        have R5 := hidden r5
        clear m5 r5 b5
        go_wp2_with fail
        refine (l7Put_any _ B y ns ds fm1 fd A5.out hfj hMj j (by have := HL.out; omega) _ _ _ _ [v] fp5 M5.out (fun hm => by have := R5.out _ hm; omega) (fun b hb hm => by have h1 := R5.out b hb; have h2 := LT.out.1 b hm; omega) (by omega)).mono ?_
        rintro e w6 ⟨rfl, fm3, hA3, hMv3⟩
        have HA3 : Hid (ArrAt w6 B (datasS (x, ms) s p zs (j + 1)).1 (datasS (x, ms) s p zs (j + 1)).2 ds fm3 fd) := by unfold Hid; rw [HP.out]; exact hA3
        have HM3 := hidden (MV5.out.trans hMv3)
        clear hA3 hMv3
        go_wp2
        go_roundw
        case rel => exact ⟨j + 1, fm3, by omega, by go_num, HA3.out, HM3.out⟩
        case measure => simp [intOf]; omega
    . have e1 : ((j : Int) == p) = false := by simpa using hjp
      have e2 : ((j : Int) != p) = true := by simpa using hjp
      have hyN : y.n = (N : Int) := HNJ.out.trans HNN.out
      obtain ⟨Q, hQ⟩ : ∃ Q : Nat, ((j : Int) - p - 1 + (N : Int)) % (N : Int) = (Q : Int) := ⟨(((j : Int) - p - 1 + (N : Int)) % (N : Int)).toNat, by have := Int.emod_nonneg ((j : Int) - p - 1 + (N : Int)) (show (N : Int) ≠ 0 by omega); omega⟩
      have hQlt : Q < nr := by
       have h1 := Int.emod_lt_of_pos ((j : Int) - p - 1 + (N : Int)) (show (0 : Int) < (N : Int) by omega)
       by_cases hc : (j : Int) < p
       . rw [Int.emod_eq_of_lt (by omega) (by omega)] at hQ; omega
       . rw [show (j : Int) - p - 1 + (N : Int) = ((j : Int) - p - 1) + (N : Int) * 1 by omega, Int.add_mul_emod_self_left, Int.emod_eq_of_lt (by omega) (by omega)] at hQ; omega
      have HDW : Hid (dataW y.n p zs j = zs.getD Q 0) := by unfold Hid dataW; rw [if_neg hjp, hyN, hQ, Int.toNat_natCast]
      rw [hyN] at k1
      have w1a : IntKind.i64.wrap ((j : Int) - p) = (j : Int) - p := IntWalk.i64_in _ (by omega)
      have w1b : IntKind.i64.wrap ((j : Int) - p - 1) = (j : Int) - p - 1 := IntWalk.i64_in _ (by omega)
      have w1c : IntKind.i64.wrap ((j : Int) - p - 1 + (N : Int)) = (j : Int) - p - 1 + (N : Int) := IntWalk.i64_in _ (by omega)
      have w1d : ((j : Int) - p - 1 + (N : Int)).tmod (N : Int) = (Q : Int) := by rw [Int.tmod_eq_emod_of_nonneg (by omega), hQ]
      have w1e : ¬ (N : Int) = 0 := by omega
      have w1f : ¬ N = 0 := by omega
      have w1g : IntKind.i64.wrap (Q : Int) = (Q : Int) := IntWalk.i64_in _ (by omega)
      have q1 : (0 : Int) <= (Q : Int) := by omega
      have q2 : (Q : Int) < (nr : Int) := by omega
      rcases RD6.out.cases with hn0 | ⟨b, off, rfl, hbl, hcs⟩
      . omega
      have hcq := hcs Q (by omega)
      generalize zs.getD Q 0 = v at HDW hcq ⊢
      clear hQ hjp hcs hyN
      go_wp2_with fail
      refine wp_region_held_drew (S := fun w' => w'.cell? ⟨B, 1, none⟩ = some (.int .i64 (N : Int)) /\ w'.cell? ⟨b, off + Q, none⟩ = some (.int .i64 v)) (by kernel_rfl) ?_ (fun hHeld => ?_)
      . exact ⟨k1, hcq⟩
      refine held_t 0 hHeld ?_
      refine held_t 1 hHeld ?_
      refine held_t 2 hHeld ?_
      refine held_t 3 hHeld ?_
      refine held_t 4 hHeld ?_
      refine held_t 5 hHeld ?_
      refine held_t 6 hHeld ?_
      refine held_t 7 hHeld ?_
      refine held_t 8 hHeld ?_
      refine held_t 9 hHeld ?_
      refine held_t 10 hHeld ?_
      refine held_t 11 hHeld ?_
      refine held_t 12 hHeld ?_
      refine held_t 13 hHeld ?_
      refine held_t 14 hHeld ?_
      refine held_t 15 hHeld ?_
      refine held_t 16 hHeld ?_
      refine held_t 17 hHeld ?_
      refine held_t 18 hHeld ?_
      refine held_t 19 hHeld ?_
      refine wpAnyH_done (by kernel_rfl) ?_ _
      clear hHeld
      have X3 := X1.below ((Below.refl w1.heap.size w1).drew) zr1
      have A3 := hidden A2.out.drew
      have R3 := hidden R2.out.drew
      have MV3 := hidden MV2.out.drew
      clear k0 k1 k2 k3 k4 k5 k6 k7 k8 k9 k10 k11 k12 hcq
      obtain ⟨k0, k1, k2, k3, k4, k5, k6, k7, k8, k9, k10, k11, k12⟩ := X3.cells13
      go_wp2_with fail
      refine (specLiveAt_any _ 159 109 y _ _ _ _ _ _ ns (j : Int) s R3.out hwM).mono ?_
      rintro e w4 ⟨rfl, b4⟩
      have A4 := hidden (A3.out.below b4)
      have MV4 := hidden (MV3.out.below b4)
      clear k0 k1 k2 k3 k4 k5 k6 k7 k8 k9 k10 k11 k12 b4 X1
      cases hlv : liveB y ns (j : Int) s
      . have HP : Hid (datasS (x, ms) s p zs (j + 1) = (y, ns)) := by unfold Hid; rw [HS.out, if_neg (by simp [hlv])]
        go_wp2
        go_roundw
        case rel => exact ⟨j + 1, fm1, by omega, by go_num, by rw [HP.out]; exact A4.out, MV4.out⟩
        case measure => simp [intOf]; omega
      . have HP : Hid (datasS (x, ms) s p zs (j + 1) = putS (y, ns) j (dataN s) [dataW y.n p zs j]) := by unfold Hid; rw [HS.out, if_pos hlv]
        rw [HDW.out] at HP
        go_wp2_with fail
        refine (specDataAt_any _ _).mono ?_
        rintro e w5 ⟨rfl, h5w⟩
        subst h5w
        have b5 := new_below w5 (.cells #[.int .i64 v] 3)
        have A5 := hidden (A4.out.below b5)
        have MV5 := hidden (MV4.out.below b5)
        have LT := hidden A4.out.ltm
        have zB4 := A4.out.lt
        obtain ⟨fp5, m5, r5⟩ := (own_ints (Owns.lit .i64 3 w5 [v] 1 #[.int .i64 v] rfl rfl (by unfold maxLen; omega))).mine
        have M5 := hidden m5
        have R5 := hidden r5
        clear m5 r5 b5
        go_wp2_with fail
        refine (l7Put_any _ B y ns ds fm1 fd A5.out hfj hMj j (by have := HL.out; omega) _ _ _ _ [v] fp5 M5.out (fun hm => by have := R5.out _ hm; omega) (fun b hb hm => by have h1 := R5.out b hb; have h2 := LT.out.1 b hm; omega) (by omega)).mono ?_
        rintro e w6 ⟨rfl, fm3, hA3, hMv3⟩
        have HA3 : Hid (ArrAt w6 B (datasS (x, ms) s p zs (j + 1)).1 (datasS (x, ms) s p zs (j + 1)).2 ds fm3 fd) := by unfold Hid; rw [HP.out]; exact hA3
        have HM3 := hidden (MV5.out.trans hMv3)
        clear hA3 hMv3
        go_wp2
        go_roundw
        case rel => exact ⟨j + 1, fm3, by omega, by go_num, HA3.out, HM3.out⟩
        case measure => simp [intOf]; omega
  . have ej : j = ms.length := by omega
    subst ej
    have HMV := hidden (((Moved.refl B fm w).below BW.out).trans MV.out)
    go_wp2
    refine bodyPost_end (v := .tuple #[]) (results_none rfl _ _ _) rfl ?_
    exact ⟨rfl, fm1, by rw [HP0.out, HST.out]; exact HA.out, HMV.out⟩

def recB (x y : Int) (zs : List Int) : Bool := inB x 0 60000 && (inB y 0 7 && (inB (zs.length : Int) 2 4 && allW zs))
theorem recB_x {x y : Int} {zs : List Int} (h : inB x 0 60000 = false) : recB x y zs = false := by unfold recB; rw [h]; rfl
theorem recB_y {x y : Int} {zs : List Int} (h : inB y 0 7 = false) : recB x y zs = false := by unfold recB; rw [h]; simp
theorem recB_n {x y : Int} {zs : List Int} (h : inB (zs.length : Int) 2 4 = false) : recB x y zs = false := by unfold recB; rw [h]; simp
theorem recB_w {x y : Int} {zs : List Int} (h1 : inB x 0 60000 = true) (h2 : inB y 0 7 = true) (h3 : inB (zs.length : Int) 2 4 = true) : recB x y zs = allW zs := by unfold recB; rw [h1, h2, h3]; rfl
theorem recB_of {x y : Int} {zs : List Int} : recB x y zs = true ↔ (0 <= x /\ x <= 60000) /\ (0 <= y /\ y <= 7) /\ (2 <= zs.length /\ zs.length <= 4) /\ allW zs = true := by
 unfold recB inB
 simp only [Bool.and_eq_true, decide_eq_true_eq]
 constructor
 . rintro ⟨h1, h2, h3, h4⟩
   exact ⟨h1, h2, by omega, h4⟩
 . rintro ⟨h1, h2, h3, h4⟩
   exact ⟨h1, h2, by omega, h4⟩
theorem secB_short {zs : List Int} (h : inB (zs.length : Int) 2 4 = true) : secB zs = allW zs := by
 unfold inB at h
 simp at h
 unfold secB
 rw [decide_eq_true (by omega)]
 rfl
theorem Box.cells3 {w : World} {B : Nat} {T : TypeId} {v0 v1 v2 : Value} (h : Box w B T #[v0, v1, v2]) : w.cell? ⟨B, 0, none⟩ = some v0 /\ w.cell? ⟨B, 1, none⟩ = some v1 /\ w.cell? ⟨B, 2, none⟩ = some v2 := ⟨h.cell 0, h.cell 1, h.cell 2⟩

theorem specRecOk_any (w : World) (x y : Int) (a : Option Addr) (n cap : Nat) (zs : List Int) (hz : zs.length = n) (hr : Reads .i64 w a zs) (hn : n <= 2097152) :
 Calls Tryz.prog 221 #[.agg #[.int .i64 x, .int .i64 y, .slice a n cap]] w fun e w' => e = .returned (.bool (recB x y zs)) /\ Below w.heap.size w w' := by
 have hA := new_below w (.cells #[.int .i64 x, .int .i64 y, .slice a n cap] 121)
 have hr' := hr.below hA
 subst hz
 go_enter Tryz.func221, Tryz.ntmps221
 go_wp2_with fail
 refine (l1In_any _ _ _ _).mono ?_
 rintro e w1 ⟨rfl, rfl⟩
 cases hx : inB x 0 60000
 . go_wp2
   go_ret
   exact ⟨ret_bool (recB_x hx).symm, hA⟩
 . go_wp2_with fail
   refine (l1In_any _ _ _ _).mono ?_
   rintro e w1 ⟨rfl, rfl⟩
   cases hy : inB y 0 7
   . go_wp2
     go_ret
     exact ⟨ret_bool (recB_y hy).symm, hA⟩
   . go_wp2_with fail
     refine (l1In_any _ _ _ _).mono ?_
     rintro e w1 ⟨rfl, rfl⟩
     cases hl : inB (zs.length : Int) 2 4
     . go_wp2
       go_ret
       exact ⟨ret_bool (recB_n hl).symm, hA⟩
     . go_wp2_with fail
       refine (l1Words_any _ _ _ _ zs rfl hr' hn).mono ?_
       rintro e w1 ⟨rfl, rfl⟩
       go_wp2
       go_ret
       exact ⟨ret_bool (recB_w hx hy hl).symm, hA⟩

theorem implRecOk_any (w : World) (x y : Int) (a : Option Addr) (n cap : Nat) (zs : List Int) (hz : zs.length = n) (hr : Reads .i64 w a zs) (hn : n <= 2097152) :
 Calls Tryz.prog 242 #[.agg #[.int .i64 x, .int .i64 y, .slice a n cap]] w fun e w' => e = .returned (.bool (recB x y zs)) /\ Below w.heap.size w w' := by
 have hA := new_below w (.cells #[.int .i64 x, .int .i64 y, .slice a n cap] 121)
 have hr' := hr.below hA
 subst hz
 go_enter Tryz.func242, Tryz.ntmps242
 go_wp2_with fail
 refine (within_any _ _ _ _).mono ?_
 rintro e w1 ⟨rfl, rfl⟩
 cases hx : inB x 0 60000
 . go_wp2
   go_ret
   exact ⟨ret_bool (recB_x hx).symm, hA⟩
 . go_wp2_with fail
   refine (within_any _ _ _ _).mono ?_
   rintro e w1 ⟨rfl, rfl⟩
   cases hy : inB y 0 7
   . go_wp2
     go_ret
     exact ⟨ret_bool (recB_y hy).symm, hA⟩
   . go_wp2_with fail
     refine (within_any _ _ _ _).mono ?_
     rintro e w1 ⟨rfl, rfl⟩
     cases hl : inB (zs.length : Int) 2 4
     . go_wp2
       go_ret
       exact ⟨ret_bool (recB_n hl).symm, hA⟩
     . have HS := secB_short hl
       go_wp2_with fail
       refine (implSecOk_any _ _ _ _ zs rfl hr' hn).mono ?_
       rintro e w1 ⟨rfl, hs⟩
       go_wp2
       go_ret
       exact ⟨ret_bool (recB_w hx hy hl).symm, Below.andSame hA hs⟩

def cutO (off n : Nat) : Nat := if n = 4 then off else off + 4
theorem cutSlot_any (w : World) (b off n cap : Nat) (h4 : 4 <= n) (hc : n <= cap) (hm : n <= 2097152) :
 Calls Tryz.prog 243 #[.slice (some ⟨b, off, none⟩) n cap] w fun e w' => e = .returned (.tuple #[.slice (some ⟨b, off, none⟩) 4 4, .slice (some ⟨b, cutO off n, none⟩) (n - 4) (n - 4)]) /\ Same w w' := by
 unfold cutO
 by_cases h : n = 4
 . rw [if_pos h]
   go_enter Tryz.func243, Tryz.ntmps243
   go_wp2_with fail
   go_quiet (fail)
   go_wp2
   refine bodyPost_ret (v := .tuple #[.slice (some ⟨b, off, none⟩) 4 4, .slice (some ⟨b, off, none⟩) 0 0]) (by simp [results, Tryz.results243, go_sem]) rfl ?_
   subst h
   exact ⟨rfl, (Same.refl _).drewN _⟩
 . rw [if_neg h]
   go_enter Tryz.func243, Tryz.ntmps243
   go_wp2_with fail
   go_quiet (fail)
   go_wp2
   refine bodyPost_ret (v := .tuple #[.slice (some ⟨b, off, none⟩) 4 4, .slice (some ⟨b, off + 4, none⟩) (n - 4) (n - 4)]) (by simp [results, Tryz.results243, go_sem]) rfl ?_
   exact ⟨rfl, (Same.refl _).drewN _⟩

def putR (x y : Int) (zs : List Int) : List Int := if recB x y zs = true then 21322 :: x :: y :: (zs.length : Int) :: zs else []
theorem putR_of {x y : Int} {zs : List Int} (h : recB x y zs = true) : putR x y zs = 21322 :: x :: y :: (zs.length : Int) :: zs := by unfold putR; rw [if_pos h]
theorem putR_not {x y : Int} {zs : List Int} (h : recB x y zs = false) : putR x y zs = [] := by unfold putR; rw [if_neg (by simp [h])]

theorem own_setCells {lo hi g n : Nat} : ∀ (us : List Int) (o : Nat) (zs : List Int) (w : World), Own .i64 3 w lo hi (.slice (some ⟨g, 0, none⟩) n n) zs -> o + us.length <= n ->
 Own .i64 3 (w.setCells g o (us.map (Value.int .i64))) lo hi (.slice (some ⟨g, 0, none⟩) n n) (zs.take o ++ us ++ zs.drop (o + us.length)) /\ But lo hi w (w.setCells g o (us.map (Value.int .i64)))
 | [], o, zs, w, h, _ => ⟨by simpa [World.setCells] using h, But.refl _ _ _⟩
 | u :: us, o, zs, w, h, hl => by
  have hz := h.length
  simp only [List.length_cons] at hl
  obtain ⟨_, _, h1, b1⟩ := h.store o (by omega) u
  obtain ⟨h2, b2⟩ := own_setCells us (o + 1) (zs.set o u) _ h1 (by omega)
  refine ⟨?_, b1.trans b2⟩
  have e : (zs.set o u).take (o + 1) ++ us ++ (zs.set o u).drop (o + 1 + us.length) = zs.take o ++ (u :: us) ++ zs.drop (o + (u :: us).length) := by
   rw [List.drop_set, if_pos (by omega), List.take_set, List.take_succ_eq_append_getElem (by omega), List.set_append, if_neg (by simp; omega)]
   have : o - (zs.take o).length = 0 := by simp; omega
   rw [this]
   simp
   omega
  rw [e] at h2
  exact h2

def stored4 (w : World) (g : Nat) (v0 v1 v2 v3 : Value) : World := (((w.setCell ⟨g, 0, none⟩ v0).setCell ⟨g, 1, none⟩ v1).setCell ⟨g, 2, none⟩ v2).setCell ⟨g, 3, none⟩ v3
theorem zeros_cell {w : World} {lo hi g n : Nat} (O : Own .i64 3 w lo hi (.slice (some ⟨g, 0, none⟩) n n) (List.replicate n (0 : Int))) (j : Nat) (h : j < n) : w.cell? ⟨g, j, none⟩ = some (.int .i64 0) /\ w.frozen? ⟨g, j, none⟩ = false := by
 obtain ⟨h1, h2, _⟩ := O.store j h 0
 refine ⟨?_, h2⟩
 rw [h1]
 simp [h]
theorem put_stores {w : World} {lo hi g n b off cap : Nat} {x0 x1 x2 x3 : Int} {zs : List Int} (O : Own .i64 3 w lo hi (.slice (some ⟨g, 0, none⟩) (4 + n) (4 + n)) (List.replicate (4 + n) (0 : Int))) (hz : zs.length = n) (r : Reads .i64 w (some ⟨b, off, none⟩) zs) (hb : b < lo) (hlo : lo <= w.heap.size) :
 (∀ ty, (Builtin.copy_ #[30, 30] ty #[.slice (some ⟨g, 4, none⟩) n n, .slice (some ⟨b, off, none⟩) n cap]).run Tryz.prog (stored4 w g (.int .i64 x0) (.int .i64 x1) (.int .i64 x2) (.int .i64 x3)) = .ok (goInt n) ((stored4 w g (.int .i64 x0) (.int .i64 x1) (.int .i64 x2) (.int .i64 x3)).setCells g 4 (zs.map (Value.int .i64)))) /\
 Own .i64 3 ((stored4 w g (.int .i64 x0) (.int .i64 x1) (.int .i64 x2) (.int .i64 x3)).setCells g 4 (zs.map (Value.int .i64))) lo hi (.slice (some ⟨g, 0, none⟩) (4 + n) (4 + n)) (x0 :: x1 :: x2 :: x3 :: zs) /\
 But lo hi w ((stored4 w g (.int .i64 x0) (.int .i64 x1) (.int .i64 x2) (.int .i64 x3)).setCells g 4 (zs.map (Value.int .i64))) := by
 obtain ⟨_, _, O4, t4⟩ := O.store 0 (by omega) x0
 obtain ⟨_, _, O5, t5⟩ := O4.store 1 (by omega) x1
 obtain ⟨_, _, O6, t6⟩ := O5.store 2 (by omega) x2
 obtain ⟨_, _, O7, t7⟩ := O6.store 3 (by omega) x3
 have T := ((t4.trans t5).trans t6).trans t7
 have eL : ((((List.replicate (4 + n) (0 : Int)).set 0 x0).set 1 x1).set 2 x2).set 3 x3 = x0 :: x1 :: x2 :: x3 :: List.replicate n (0 : Int) := by
  rw [Nat.add_comm 4 n]
  rfl
 rw [eL] at O7
 change Own .i64 3 (stored4 w g (.int .i64 x0) (.int .i64 x1) (.int .i64 x2) (.int .i64 x3)) lo hi _ _ at O7
 change But lo hi w (stored4 w g (.int .i64 x0) (.int .i64 x1) (.int .i64 x2) (.int .i64 x3)) at T
 generalize stored4 w g (.int .i64 x0) (.int .i64 x1) (.int .i64 x2) (.int .i64 x3) = U at O7 T ⊢
 have rU : Reads .i64 U (some ⟨b, off, none⟩) zs := r.old (B := lo) (by intro q hq; simp at hq; rw [← hq]; exact hb) (T.below (Nat.le_refl _) hlo)
 obtain ⟨O8, t8⟩ := own_setCells zs 4 _ U O7 (by omega)
 have e8 : (x0 :: x1 :: x2 :: x3 :: List.replicate n (0 : Int)).take 4 ++ zs ++ (x0 :: x1 :: x2 :: x3 :: List.replicate n (0 : Int)).drop (4 + zs.length) = x0 :: x1 :: x2 :: x3 :: zs := by
  rw [List.drop_of_length_le (by simp; omega)]
  simp
 rw [e8] at O8
 refine ⟨fun ty => ?_, O8, T.trans t8⟩
 have := run_copy_cells (P := Tryz.prog) U 30 30 ty 3 g 4 n n ⟨b, off, none⟩ n cap (zs.map (Value.int .i64)) Tryz.underlying30 (by kernel_rfl) (by simp [hz]) rU.cells
  (fun j hj => by rw [(O7.store (4 + j) (by simp at hj; omega) 0).1]; rfl) (fun j hj => (O7.store (4 + j) (by simp at hj; omega) 0).2.1) (ints_plain _)
 rw [this]
 simp [hz]

theorem specPutRec_any (w : World) (x y : Int) (a : Option Addr) (n cap : Nat) (zs : List Int) (hz : zs.length = n) (hr : Reads .i64 w a zs) (hn : n <= 2097152) :
 Calls Tryz.prog 175 #[.agg #[.int .i64 x, .int .i64 y, .slice a n cap]] w fun e w' => ∃ a l c, e = .returned (.slice a l c) /\ tIntS.Own w' w.heap.size w'.heap.size [.slice a l c] (putR x y zs) /\ Below w.heap.size w w' := by
 have hA := new_below w (.cells #[.int .i64 x, .int .i64 y, .slice a n cap] 121)
 have X := Box.new w 121 #[.int .i64 x, .int .i64 y, .slice a n cap]
 have hr' := hr.below hA
 obtain ⟨k0, k1, k2⟩ := X.cells3
 have zA := X.lt
 go_enter Tryz.func175, Tryz.ntmps175
 go_wp2_with fail
 generalize w.alloc (.cells #[.int .i64 x, .int .i64 y, .slice a n cap] 121) = W at hA X k0 k1 k2 zA hr' ⊢
 refine (specRecOk_any _ _ _ _ _ _ zs hz hr' hn).mono ?_
 rintro e w1 ⟨rfl, b1⟩
 have X1 := X.below b1 zA
 have B1 := Below.andThen hA b1
 have r1 := hr'.below b1
 clear k0 k1 k2 X b1 hA zA hr' hr
 obtain ⟨k0, k1, k2⟩ := X1.cells3
 by_cases hx : recB x y zs = true
 . have HX := hidden (putR_of hx)
   obtain ⟨_, _, ⟨hn2, hn4⟩, _⟩ := recB_of.1 hx
   rcases r1.cases with h0 | ⟨b, off, rfl, hb, _⟩
   . omega
   have hB2 := new_below w1 (.cells #[.int .i64 21322, .int .i64 x, .int .i64 y, .int .i64 n] 3)
   have k2' := (hB2.cell (p := ⟨w.heap.size, 2, none⟩) X1.lt).trans k2
   have r2 := r1.below hB2
   have hO : Owns .i64 3 (w1.alloc (.cells #[.int .i64 21322, .int .i64 x, .int .i64 y, .int .i64 n] 3)) w1.heap.size (.slice (some ⟨w1.heap.size, 0, none⟩) 4 4) [21322, x, y, n] := Owns.lit .i64 3 w1 [21322, x, y, n] 4 _ rfl rfl (by unfold maxLen; omega)
   obtain ⟨i0, hi, hz0, hz1, hz2⟩ := info_parts Tryz.info3
   go_wp2_with (at_builtin; refine wpList_app .i64 rfl _ _ 30 rfl w1.heap.size 3 i0 (.int .i64 0) 8 Tryz.underlying30 hi hz0 hz1 hz2 rfl _ [21322, x, y, (n : Int)] rfl hO ⟨b, off, none⟩ n cap zs rfl hz r2 (by unfold maxLen; simp; omega) (by simp; omega) (by simp) ?_; intro v' w2 ho2 hb2; obtain ⟨a1, c1, hv1, _⟩ := ho2.shape; rw [show ([21322, x, y, (n : Int)] ++ zs).length = n + 4 by simp; omega] at hv1; subst hv1)
   go_ret
   refine ⟨_, _, _, rfl, ?_, B1.trans ((hB2.trans hb2).mono B1.size)⟩
   rw [HX.out, hz]
   exact (own_ints ho2).widen B1.size (Nat.le_refl _)
 . have hx' : recB x y zs = false := by simpa using hx
   have HX := hidden (putR_not hx')
   go_wp2
   go_ret
   refine ⟨_, _, _, rfl, ?_, B1.alloc B1.size _⟩
   rw [HX.out]
   exact (own_ints (Owns.lit .i64 3 w1 [] 0 #[] rfl rfl (by unfold maxLen; omega))).widen B1.size (Nat.le_refl _)

theorem implPutRec_any (w : World) (x y : Int) (a : Option Addr) (n cap : Nat) (zs : List Int) (hz : zs.length = n) (hr : Reads .i64 w a zs) (hn : n <= 2097152) :
 Calls Tryz.prog 213 #[.agg #[.int .i64 x, .int .i64 y, .slice a n cap]] w fun e w' => ∃ a l c, e = .returned (.slice a l c) /\ tIntS.Own w' w.heap.size w'.heap.size [.slice a l c] (putR x y zs) /\ Below w.heap.size w w' := by
 have hA := new_below w (.cells #[.int .i64 x, .int .i64 y, .slice a n cap] 121)
 have X := Box.new w 121 #[.int .i64 x, .int .i64 y, .slice a n cap]
 have hr' := hr.below hA
 obtain ⟨k0, k1, k2⟩ := X.cells3
 have zA := X.lt
 go_enter Tryz.func213, Tryz.ntmps213
 go_wp2_with fail
 generalize w.alloc (.cells #[.int .i64 x, .int .i64 y, .slice a n cap] 121) = W at hA X k0 k1 k2 zA hr' ⊢
 refine (implRecOk_any _ _ _ _ _ _ zs hz hr' hn).mono ?_
 rintro e w1 ⟨rfl, b1⟩
 have X1 := X.below b1 zA
 have B1 := Below.andThen hA b1
 have r1 := hr'.below b1
 clear k0 k1 k2 X b1 hA zA hr' hr
 obtain ⟨k0, k1, k2⟩ := X1.cells3
 by_cases hx : recB x y zs = true
 . have HX := hidden (putR_of hx)
   obtain ⟨_, _, ⟨hn2, hn4⟩, _⟩ := recB_of.1 hx
   rw [hz] at hn2 hn4
   obtain ⟨i0, hi, hz0, hz1, hz2⟩ := info_parts Tryz.info3
   have hb3 : i0.bytes * (4 + n) <= 281474976710656 := by rw [hz2]; omega
   have hm3 : 4 + n <= maxLen := by unfold maxLen; omega
   have hwr : IntKind.i64.wrap (4 + (n : Int)) = 4 + (n : Int) := IntWalk.i64_in _ (by omega)
   go_wp2_with (at_make; refine wpList_make_full _ rfl _ _ 30 rfl w1.heap.size 3 i0 (.int .i64 0) 1 Tryz.underlying30 hi hz0 hz1 _ _ _ _ (4 + n) rfl rfl rfl rfl hb3 hm3 (Nat.le_refl _) ?_; intro w2 hown hgrow)
   have hc0 : cutO 0 (4 + n) = 4 := by unfold cutO; rw [if_neg (by omega)]
   have hsub : 4 + n - 4 = n := by omega
   have o2 : Owns .i64 3 w2 w1.heap.size (.slice (some ⟨w1.heap.size, 0, none⟩) (4 + n) (4 + n)) (List.replicate (4 + n) (0 : Int)) := by
    rw [made_ints] at hown
    unfold Owns
    rw [List.length_replicate]
    exact hown
   have hg2 : Below w1.heap.size w1 w2 := (Below.refl _ _).grown hgrow (Nat.le_refl _) (by simp)
   refine (cutSlot_any _ _ _ _ _ (by omega) (Nat.le_refl _) (by omega)).mono ?_
   rintro e w3 ⟨rfl, hs3⟩
   rw [hc0, hsub]
   have g3 := Below.andSame hg2 hs3
   have X3 := (X1.below g3 X1.lt)
   rcases r1.cases with h0 | ⟨b, off, rfl, hb1, _⟩
   . omega
   have r3 := (r1.below g3)
   have B3 := Below.andThen B1 g3
   have z3 := g3.size
   have O3 : Own .i64 3 w3.drew w1.heap.size w2.heap.size (.slice (some ⟨w1.heap.size, 0, none⟩) (4 + n) (4 + n)) (List.replicate (4 + n) (0 : Int)) := (o2.own.same hs3.drew)
   clear o2 hown hgrow hs3 hg2 g3 k0 k1 k2 r1 hi hz0 hz1 hz2 hb3 hm3 hwr hc0 hsub
   have zX := X1.lt
   clear X1
   obtain ⟨k0, k1, k2⟩ := X3.cells3
   obtain ⟨hcp, O8, t8⟩ := put_stores (x0 := 21322) (x1 := x) (x2 := y) (x3 := n) (cap := cap) O3 hz r3.draw hb1 z3
   obtain ⟨c0, f0⟩ : w3.cell? ⟨w1.heap.size, 0, none⟩ = some (.int .i64 0) /\ w3.frozen? ⟨w1.heap.size, 0, none⟩ = false := zeros_cell O3 0 (by omega)
   obtain ⟨c1, f1⟩ : w3.cell? ⟨w1.heap.size, 1, none⟩ = some (.int .i64 0) /\ w3.frozen? ⟨w1.heap.size, 1, none⟩ = false := zeros_cell O3 1 (by omega)
   obtain ⟨c2, f2⟩ : w3.cell? ⟨w1.heap.size, 2, none⟩ = some (.int .i64 0) /\ w3.frozen? ⟨w1.heap.size, 2, none⟩ = false := zeros_cell O3 2 (by omega)
   obtain ⟨c3, f3⟩ : w3.cell? ⟨w1.heap.size, 3, none⟩ = some (.int .i64 0) /\ w3.frozen? ⟨w1.heap.size, 3, none⟩ = false := zeros_cell O3 3 (by omega)
   have o9 := hidden O8
   have b9 := hidden (B3.drew.trans (t8.below (B := w.heap.size) (by omega) B3.size))
   clear O8 t8 O3 r3
   have hcp' : ∀ ty, (Builtin.copy_ #[30, 30] ty #[.slice (some ⟨w1.heap.size, 4, none⟩) n n, .slice (some ⟨b, off, none⟩) n cap]).run Tryz.prog (stored4 w3 w1.heap.size (.int .i64 21322) (.int .i64 x) (.int .i64 y) (.int .i64 n)).drew = .ok (goInt n) ((stored4 w3.drew w1.heap.size (.int .i64 21322) (.int .i64 x) (.int .i64 y) (.int .i64 n)).setCells w1.heap.size 4 (zs.map (Value.int .i64))) := hcp
   clear hcp
   generalize (stored4 w3.drew w1.heap.size (.int .i64 21322) (.int .i64 x) (.int .i64 y) (.int .i64 n)).setCells w1.heap.size 4 (zs.map (Value.int .i64)) = w9 at hcp' o9 b9
   unfold stored4 at hcp'
   have hne : ¬ w1.heap.size = w.heap.size := by omega
   have hne' : ¬ w.heap.size = w1.heap.size := by omega
   go_wp2_with fail
   go_region_held3 (fun w' => w'.cell? ⟨w.heap.size, 0, none⟩ = some (.int .i64 x) /\ w'.cell? ⟨w.heap.size, 1, none⟩ = some (.int .i64 y) /\ w'.cell? ⟨w.heap.size, 2, none⟩ = some (.slice (some ⟨b, off, none⟩) n cap)) (first | (exact ⟨k0, k1, k2⟩) | go_keep) (fail)
   go_wp2
   go_ret
   refine ⟨_, _, _, rfl, ?_, b9.out⟩
   rw [HX.out, hz]
   exact (own_ints o9.out.1).widen B1.size (Nat.le_refl _)
 . have hx' : recB x y zs = false := by simpa using hx
   have HX := hidden (putR_not hx')
   go_wp2
   go_ret
   refine ⟨_, _, _, rfl, ?_, B1.alloc B1.size _⟩
   rw [HX.out]
   exact (own_ints (Owns.lit .i64 3 w1 [] 0 #[] rfl rfl (by unfold maxLen; omega))).widen B1.size (Nat.le_refl _)

def recsS (q : ArrN × List MemD) (n : Int) (s : List Int) (j : Nat) : ArrN × List MemD := (List.range j).foldl (fun q i => putS q i n s) q
def recS (q : ArrN × List MemD) (y z : Int) (zs : List Int) : ArrN × List MemD := syncS (recsS q (slotN y) (putR y z zs) q.2.length) q.2.length
theorem recsS_succ (q : ArrN × List MemD) (n : Int) (s : List Int) (j : Nat) : recsS q n s (j + 1) = putS (recsS q n s j) j n s := by unfold recsS; rw [List.range_succ, List.foldl_append]; rfl
theorem recsS_keeps {q : ArrN × List MemD} (n : Int) (s : List Int) (h : MsOk q.2) (hf : q.1.fuse <= 1000) : ∀ j, MsOk (recsS q n s j).2 /\ SameN q.1 (recsS q n s j).1 /\ (recsS q n s j).2.length = q.2.length
 | 0 => ⟨h, SameN.refl hf, rfl⟩
 | j + 1 => by
  obtain ⟨h1, h2, h3⟩ := recsS_keeps n s h hf j
  rw [recsS_succ]
  exact ⟨putS_ok h1, h2.trans (doS_same _ _ h2.2.2.2.2.2.2.2.2.2.1), by unfold putS; rw [doS_len]; exact h3⟩
theorem putR_len (x y : Int) (zs : List Int) : (putR x y zs).length <= zs.length + 4 := by unfold putR; split <;> simp

theorem l7Rec_any (w : World) (B : Nat) (x : ArrN) (ms : List MemD) (ds : List (Int × List Int)) (fm fd : List Nat) (h : ArrAt w B x ms ds fm fd) (hf : x.fuse <= 1000) (hM : MsOk ms) (y z : Int) (ar : Option Addr) (nr cr : Nat) (zs : List Int) (fr : List Nat) (h5 : tIntS.Mine w [.slice ar nr cr] zs fr) (h5B : B ∉ fr) (h5f : ∀ b ∈ fr, b ∉ fm) (hnr : nr <= 2000000) :
 Calls Tryz.prog 120 #[.pointer (some ⟨B, 0, none⟩), .agg #[.int .i64 y, .int .i64 z, .slice ar nr cr]] w fun e w' => e = .returned (.tuple #[]) /\ ∃ fm', ArrAt w' B (recS (x, ms) y z zs).1 (recS (x, ms) y z zs).2 ds fm' fd /\ Moved B fm w fm' w' := by
 have hzl := (row_length h5.rd).1
 have HK : Hid (∀ j, _) := fun j => recsS_keeps (q := (x, ms)) (slotN y) (putR y z zs) hM hf j
 have HRK : Hid (recS (x, ms) y z zs = syncS (recsS (x, ms) (slotN y) (putR y z zs) ms.length) ms.length) := rfl
 obtain ⟨P, hPP⟩ : ∃ P, putR y z zs = P := ⟨_, rfl⟩
 have hPl : P.length <= nr + 4 := by rw [← hPP, ← hzl]; exact putR_len y z zs
 have HPP := hidden hPP
 rw [hPP] at HK HRK
 clear hPP
 have hA := new_below w (.cells #[.int .i64 y, .int .i64 z, .slice ar nr cr] 121)
 have YB := Box.new w 121 #[.int .i64 y, .int .i64 z, .slice ar nr cr]
 have zY := YB.lt
 have zB := h.lt
 have hlm := h.ltm.1
 have hlr := h5.lt
 have A0 := hidden (h.below hA)
 have M5 := hidden (h5.below hA)
 have BA := hidden hA
 have hmx : ∃ cm0, ms.length <= cm0 /\ cm0 <= 9223372036854775807 := by
  obtain ⟨_, _, cm0, _, _, hm0, _⟩ := h
  exact ⟨cm0, (row_length hm0.rd).2⟩
 obtain ⟨cm0, hmx⟩ := hmx
 go_enter Tryz.func120, Tryz.ntmps120
 go_wp2
 have zW : (w.alloc (.cells #[.int .i64 y, .int .i64 z, .slice ar nr cr] 121)).heap.size = w.heap.size + 1 := by simp
 have YH := hidden YB
 clear YB hA
 generalize w.alloc (.cells #[.int .i64 y, .int .i64 z, .slice ar nr cr] 121) = W at A0 M5 BA YH zY zW ⊢
 go_loopw [4] (fun i wr => ∃ (j : Nat) (fm1 : List Nat), j <= ms.length /\ i = .int .i64 j /\ ArrAt wr B (recsS (x, ms) (slotN y) P j).1 (recsS (x, ms) (slotN y) P j).2 ds fm1 fd /\ Moved B fm W fm1 wr) (fun i _ => ms.length - (intOf i).toNat)
 case atStart => exact ⟨0, fm, Nat.zero_le _, rfl, A0.out, Moved.refl _ _ _⟩
 case round =>
  obtain ⟨j, fm1, hj, rfl, hA, hMv⟩ := hrel
  obtain ⟨hMj, hsj, hlj⟩ := HK.out j
  have hfj := hsj.2.2.2.2.2.2.2.2.2.1
  have HS := hidden (recsS_succ (x, ms) (slotN y) P j)
  generalize hst : recsS (x, ms) (slotN y) P j = st at hA hMj hsj hlj hfj HS
  have HST := hidden hst
  clear hst
  obtain ⟨y1, ns⟩ := st
  dsimp only at hA hMj hsj hlj hfj HS
  clear hsj
  have HA := hidden hA
  obtain ⟨bm, bd, cm, cd, X, hmm, hdd, hr, r1, r2⟩ := hA
  rw [hlj] at X
  unfold arrC at X
  have k3 := X.cells13.2.2.2.1
  clear hmm hdd hr r1 r2 X
  have yb := hMv.box YH.out (by omega) (fun hm => by have := hlm _ hm; omega)
  have m5 := hMv.mine M5.out h5B h5f
  have zw := hMv.size
  have zr := HA.out.lt
  by_cases hjn : j < ms.length
  . have i2 : (j : Int) < (ms.length : Int) := by omega
    obtain ⟨y0, y1', y2'⟩ := yb.cells3
    have MV := hidden hMv
    have RD := hidden ((ints_rd m5.rd).1)
    have zyb := yb.lt
    have YBH := hidden yb
    clear hMv m5 yb
    have hS : wr.drew.cell? ⟨w.heap.size, 0, none⟩ = some (.int .i64 y) /\ wr.drew.cell? ⟨w.heap.size, 1, none⟩ = some (.int .i64 z) /\ wr.drew.cell? ⟨w.heap.size, 2, none⟩ = some (.slice ar nr cr) := ⟨y0, y1', y2'⟩
    go_wp2_with fail
    refine wp_region_held_drew (S := fun w' => w'.cell? ⟨w.heap.size, 0, none⟩ = some (.int .i64 y) /\ w'.cell? ⟨w.heap.size, 1, none⟩ = some (.int .i64 z) /\ w'.cell? ⟨w.heap.size, 2, none⟩ = some (.slice ar nr cr)) (by kernel_rfl) ?_ (fun hHeld => ?_)
    . exact hS
    refine held_t 0 hHeld ?_
    refine held_t 1 hHeld ?_
    refine held_t 2 hHeld ?_
    refine held_t 3 hHeld ?_
    refine held_t 5 hHeld ?_
    refine held_one (i := 4) (by kernel_rfl) rfl (by kernel_rfl) (fun K hK => ?_)
    go_simp
    refine (specSlotOf_any _ _).mono ?_
    rintro e w9 ⟨rfl, h9⟩
    subst h9
    go_wp2_with fail
    clear hHeld
    refine hK.out _ _ ?_ (fun hHeld => ?_)
    . exact hS
    clear hK K
    refine held_one (i := 6) (by kernel_rfl) rfl (by kernel_rfl) (fun K hK => ?_)
    go_simp
    refine (specPutRec_any _ y z _ _ _ zs hzl RD.out.draw (by omega)).mono ?_
    rintro e w2 ⟨ap, lp, cp, rfl, o2, b2'⟩
    have b2 : Below wr.heap.size wr w2 := (Below.refl wr.heap.size wr).drew.trans b2'
    have o2b : tIntS.Own w2 wr.heap.size w2.heap.size [.slice ap lp cp] P := by rw [← HPP.out]; exact o2
    obtain ⟨fpp, mp, rp⟩ := o2b.mine
    have hlp : lp <= 2000004 := by have h1 := (row_length o2b.rd).1; omega
    have hS2 : w2.cell? ⟨w.heap.size, 0, none⟩ = some (.int .i64 y) /\ w2.cell? ⟨w.heap.size, 1, none⟩ = some (.int .i64 z) /\ w2.cell? ⟨w.heap.size, 2, none⟩ = some (.slice ar nr cr) := ⟨(b2.cell (p := ⟨w.heap.size, 0, none⟩) zyb).trans y0, (b2.cell (p := ⟨w.heap.size, 1, none⟩) zyb).trans y1', (b2.cell (p := ⟨w.heap.size, 2, none⟩) zyb).trans y2'⟩
    have A2 := hidden (HA.out.below b2)
    have LT := hidden HA.out.ltm
    have MV2 := hidden (MV.out.below b2)
    have YB2 := hidden (YBH.out.below b2 zyb)
    have MP := hidden mp
    have RP := hidden rp
    have z2 := b2.size
    clear y0 y1' y2' o2 o2b b2 b2' mp rp MV HA YBH RD
    go_wp2_with fail
    clear hHeld
    refine hK.out _ _ ?_ (fun hHeld => ?_)
    . exact hS2
    clear hK K
    refine held_one (i := 7) (by kernel_rfl) rfl (by kernel_rfl) (fun K hK => ?_)
    go_simp
    refine (l7Put_any _ B y1 ns ds fm1 fd A2.out hfj hMj j (by omega) _ _ _ _ P fpp MP.out (fun hm => by have := RP.out _ hm; omega) (fun b hb hm => by have h1 := RP.out b hb; have h2 := LT.out.1 b hm; omega) (by omega)).mono ?_
    rintro e w3 ⟨rfl, fm3, hA3, hMv3⟩
    have HM3 := hidden (MV2.out.trans hMv3)
    have YB3 := HM3.out.box YH.out (by omega) (fun hm => by have := hlm _ hm; omega)
    have hS3 : w3.cell? ⟨w.heap.size, 0, none⟩ = some (.int .i64 y) /\ w3.cell? ⟨w.heap.size, 1, none⟩ = some (.int .i64 z) /\ w3.cell? ⟨w.heap.size, 2, none⟩ = some (.slice ar nr cr) := YB3.cells3
    have HA3 : Hid (ArrAt w3 B (recsS (x, ms) (slotN y) P (j + 1)).1 (recsS (x, ms) (slotN y) P (j + 1)).2 ds fm3 fd) := by unfold Hid; rw [HS.out]; exact hA3
    clear hA3 hMv3 A2 MV2 MP RP LT hS2 YB2 YB3
    go_wp2_with fail
    clear hHeld
    refine hK.out _ _ ?_ (fun hHeld => ?_)
    . exact hS3
    clear hK K
    refine wpAnyH_done (by kernel_rfl) ?_ _
    clear hHeld
    clear hS hS3
    go_wp2
    go_roundw
    case rel => exact ⟨j + 1, fm3, by omega, by go_num, HA3.out, HM3.out⟩
    case measure => simp [intOf]; omega
  . have ej : j = ms.length := by omega
    subst ej
    have HMV := hidden (((Moved.refl B fm w).below BA.out).trans hMv)
    clear hMv m5 yb
    go_wp2_with fail
    refine (l7Sync_any _ B y1 ns ds fm1 fd HA.out hfj hMj).mono ?_
    rintro e w3 ⟨rfl, fm3, hA3, hMv3⟩
    clear k3
    go_wp2
    refine bodyPost_end (v := .tuple #[]) (results_none rfl _ _ _) rfl ?_
    exact ⟨rfl, fm3, by rw [HRK.out, HST.out, ← hlj]; exact hA3, HMV.out.trans hMv3⟩

def liveL (x : ArrN) (ms : List MemD) (s p : Int) (zs : List Int) (j : Nat) : List DOp := ((List.range j).filter fun i : Nat => liveB x ms (i : Int) s).map fun i : Nat => wrK (dataN s) [dataW x.n p zs i] i
theorem liveL_succ (x : ArrN) (ms : List MemD) (s p : Int) (zs : List Int) (j : Nat) : liveL x ms s p zs (j + 1) = liveL x ms s p zs j ++ (if liveB x ms (j : Int) s = true then [wrK (dataN s) [dataW x.n p zs j] j] else []) := by
 unfold liveL
 rw [List.range_succ, List.filter_append, List.map_append]
 cases h : liveB x ms (j : Int) s <;> simp [h]
theorem liveL_len (x : ArrN) (ms : List MemD) (s p : Int) (zs : List Int) (j : Nat) : (liveL x ms s p zs j).length <= j := by
 unfold liveL
 rw [List.length_map]
 exact Nat.le_trans (List.length_filter_le _ _) (by rw [List.length_range]; exact Nat.le_refl _)
theorem live_flag {x : ArrN} {ms : List MemD} {i : Nat} {s : Int} (h : liveB x ms (i : Int) s = true) : i < ms.length /\ flagAt ms i = false := by
 unfold liveB at h
 simp only [Bool.and_eq_true, inB_iff, Bool.not_eq_true'] at h
 refine ⟨by omega, ?_⟩
 have := h.2.1
 rw [Int.toNat_natCast] at this
 exact this
theorem liveL_mem {x : ArrN} {ms : List MemD} {s p : Int} {zs : List Int} {j : Nat} {o : DOp} (h : o ∈ liveL x ms s p zs j) : o.1 < ms.length /\ flagAt ms o.1 = false := by
 unfold liveL at h
 obtain ⟨i, hi, rfl⟩ := List.mem_map.1 h
 exact live_flag (List.mem_filter.1 hi).2
theorem live_same {x y : ArrN} {ms ns : List MemD} {i : Nat} {s : Int} (h1 : y.lost = x.lost) (h2 : y.built = x.built) (h3 : ns.length = ms.length) (h4 : flagAt ns i = flagAt ms i) : liveB y ns (i : Int) s = liveB x ms (i : Int) s := by
 have e : ∀ l : List MemD, (l.getD (i : Int).toNat ([], [], false, [])).2.2.1 = flagAt l i := fun l => by rw [Int.toNat_natCast]; rfl
 unfold liveB
 rw [e, e, h1, h2, h3, h4]
theorem run_live {q : ArrN × List MemD} (h : MsOk q.2) (hf : q.1.fuse <= 1000) (s p : Int) (zs : List Int) : ∀ j, runS q (liveL q.1 q.2 s p zs j) = datasS q s p zs j
 | 0 => rfl
 | j + 1 => by
  have ih := run_live h hf s p zs j
  obtain ⟨_, hs, hl⟩ := datasS_keeps s p zs h hf j
  have hfl : flagAt (datasS q s p zs j).2 j = flagAt q.2 j := by rw [← ih]; exact runS_flag _ _ _
  have hlv := live_same (s := s) hs.2.2.2.1 hs.2.2.2.2.1 hl hfl
  rw [liveL_succ, runS_app, ih, datasS_succ, hlv, hs.2.1]
  cases hb : liveB q.1 q.2 (j : Int) s
  . rw [if_neg (by simp), if_neg (by simp)]
    rfl
  . rw [if_pos rfl, if_pos rfl]
    rfl
theorem run_recs (q : ArrN × List MemD) (n : Int) (s : List Int) (j : Nat) : runS q (opsL (wrK n s) q.2 j) = recsS q n s j := run_list (fun _ => rfl) q j

def wr1 (q : ArrN × List MemD) : ArrN × List MemD := if 4 <= q.1.seq - q.1.tail then checkS q else q
def wr2 (q : ArrN × List MemD) (s : Int) (zs : List Int) : ArrN × List MemD := recS q q.1.seq s zs
def wr3 (q : ArrN × List MemD) (s : Int) (zs : List Int) : ArrN × List MemD := datasS ({q.1 with seq := q.1.seq + 1}, q.2) s (parN q.1.n q.1.s s) zs q.2.length
def wrRest (q : ArrN × List MemD) (s : Int) (zs : List Int) : ArrN × List MemD := if (wr2 q s zs).1.down = true then wr2 q s zs else wr3 (wr2 q s zs) s zs
def writeA (q : ArrN × List MemD) (s : Int) (zs : List Int) : ArrN × List MemD := if (wr1 q).1.down = true then wr1 q else wrRest (wr1 q) s zs
def codeN (x : ArrN) (ms : List MemD) (ds : List (Int × List Int)) (s : Int) (zs : List Int) : Int :=
 if (arrB x ms ds && (decide ((zs.length : Int) = x.n - 1) && allW zs)) = false then 1 else if x.down = true then 6 else if inB s 0 (x.s - 1) = false then 2 else if x.broken = true then 5 else if x.seq = 60000 ∨ 59990 <= x.gen then 7 else 0
def stripeO (x : ArrN) (ms : List MemD) (ds : List (Int × List Int)) (s : Int) (zs : List Int) : ArrN × List MemD := if codeN x ms ds s zs = 0 then writeA (x, ms) s zs else (x, ms)
def stripeC (x : ArrN) (ms : List MemD) (ds : List (Int × List Int)) (s : Int) (zs : List Int) : Int := if codeN x ms ds s zs = 0 then (if (writeA (x, ms) s zs).1.down = true then 6 else 0) else codeN x ms ds s zs
theorem code_good {x : ArrN} {ms : List MemD} {ds : List (Int × List Int)} {s : Int} {zs : List Int} (h : codeN x ms ds s zs = 0) : arrB x ms ds = true /\ (zs.length : Int) = x.n - 1 /\ allW zs = true /\ x.down = false /\ inB s 0 (x.s - 1) = true /\ x.broken = false /\ ¬ x.seq = 60000 /\ x.gen < 59990 := by
 unfold codeN at h
 split at h
 . cases h
 . rename_i h1
   split at h
   . cases h
   . rename_i h2
     split at h
     . cases h
     . rename_i h3
       split at h
       . cases h
       . rename_i h4
         split at h
         . cases h
         . rename_i h5
           simp only [Bool.not_eq_false, Bool.and_eq_true, decide_eq_true_eq] at h1
           refine ⟨h1.1, h1.2.1, h1.2.2, by simpa using h2, by simpa using h3, by simpa using h4, fun e => h5 (.inl e), ?_⟩
           have : ¬ 59990 <= x.gen := fun e => h5 (.inr e)
           omega
def Fit (q q' : ArrN × List MemD) : Prop := MsOk q'.2 /\ q'.2.length = q.2.length /\ q'.1.n = q.1.n /\ q'.1.s = q.1.s /\ q'.1.seq = q.1.seq /\ q'.1.fuse <= 1000
theorem Fit.trans {a b c : ArrN × List MemD} (h : Fit a b) (k : Fit b c) : Fit a c := ⟨k.1, k.2.1.trans h.2.1, k.2.2.1.trans h.2.2.1, k.2.2.2.1.trans h.2.2.2.1, k.2.2.2.2.1.trans h.2.2.2.2.1, k.2.2.2.2.2⟩
theorem fit_same {q q' : ArrN × List MemD} (h1 : MsOk q'.2) (h2 : SameN q.1 q'.1) (h3 : q'.2.length = q.2.length) : Fit q q' := ⟨h1, h3, h2.2.1, h2.2.2.1, h2.2.2.2.2.2.1, h2.2.2.2.2.2.2.2.2.2.1⟩
theorem fit_sync {q : ArrN × List MemD} (h : MsOk q.2) (hf : q.1.fuse <= 1000) (j : Nat) : Fit q (syncS q j) := by
 obtain ⟨a, b, c⟩ := syncS_keeps h hf j
 exact fit_same a b c
theorem fit_mark {q : ArrN × List MemD} (h : MsOk q.2) (hf : q.1.fuse <= 1000) : Fit q (markS q) := by
 obtain ⟨a, b, c⟩ := supsS_keeps (q := ({q.1 with gen := q.1.gen + 1}, q.2)) h hf q.2.length
 have h1 := fit_same (q := ({q.1 with gen := q.1.gen + 1}, q.2)) a b c
 exact Fit.trans (show Fit q (supsS ({q.1 with gen := q.1.gen + 1}, q.2) q.2.length) from h1) (fit_sync a h1.2.2.2.2.2 _)
theorem fit_check {q : ArrN × List MemD} (h : MsOk q.2) (hf : q.1.fuse <= 1000) : Fit q (checkS q) := by
 have h1 := fit_sync h hf q.2.length
 unfold checkS
 split
 . exact h1
 . exact h1.trans (fit_mark (q := ({(syncS q q.2.length).1 with tail := (syncS q q.2.length).1.seq}, (syncS q q.2.length).2)) h1.1 h1.2.2.2.2.2)
theorem fit_wr1 {q : ArrN × List MemD} (h : MsOk q.2) (hf : q.1.fuse <= 1000) : Fit q (wr1 q) := by
 unfold wr1
 split
 . exact fit_check h hf
 . exact ⟨h, rfl, rfl, rfl, rfl, hf⟩
theorem fit_recs {q : ArrN × List MemD} (h : MsOk q.2) (hf : q.1.fuse <= 1000) (n : Int) (s : List Int) (j : Nat) : Fit q (recsS q n s j) := by
 obtain ⟨a, b, c⟩ := recsS_keeps n s h hf j
 exact fit_same a b c
theorem fit_wr2 {q : ArrN × List MemD} (h : MsOk q.2) (hf : q.1.fuse <= 1000) (s : Int) (zs : List Int) : Fit q (wr2 q s zs) := by
 have h1 := fit_recs h hf (slotN q.1.seq) (putR q.1.seq s zs) q.2.length
 exact h1.trans (fit_sync h1.1 h1.2.2.2.2.2 _)
theorem writeA_keeps {q : ArrN × List MemD} (h : MsOk q.2) (hf : q.1.fuse <= 1000) (s : Int) (zs : List Int) : MsOk (writeA q s zs).2 /\ (writeA q s zs).2.length = q.2.length := by
 have h1 := fit_wr1 h hf
 unfold writeA
 split
 . exact ⟨h1.1, h1.2.1⟩
 . have h2 := h1.trans (fit_wr2 h1.1 h1.2.2.2.2.2 s zs)
   unfold wrRest
   split
   . exact ⟨h2.1, h2.2.1⟩
   . obtain ⟨a, _, c⟩ := datasS_keeps (q := ({(wr2 (wr1 q) s zs).1 with seq := (wr2 (wr1 q) s zs).1.seq + 1}, (wr2 (wr1 q) s zs).2)) s (parN (wr2 (wr1 q) s zs).1.n (wr2 (wr1 q) s zs).1.s s) zs h2.1 h2.2.2.2.2.2 (wr2 (wr1 q) s zs).2.length
     exact ⟨a, c.trans h2.2.1⟩
theorem stripeO_wt {x : ArrN} {ms : List MemD} {ds : List (Int × List Int)} {s : Int} {zs : List Int} (hw : wtArr ms ds <= 1048576) : wtArr (stripeO x ms ds s zs).2 ds <= 2097152 := by
 unfold stripeO
 split
 . rename_i h
   obtain ⟨ha, _⟩ := code_good h
   obtain ⟨fc, mk, _⟩ := arr_facts ha
   obtain ⟨a, c⟩ := writeA_keeps (q := (x, ms)) mk fc s zs
   exact out_light ha a c hw
 . exact Nat.le_trans hw (by omega)

theorem perStripe_any (w : World) (n s : Int) (h1 : 3 <= n) (h2 : n <= 5) : Calls Tryz.prog 108 #[.agg #[.int .i64 n, .int .i64 s]] w fun e w' => e = .returned (.int .i64 (n - 1)) /\ Below w.heap.size w w' := by
 have hA := new_below w (.cells #[.int .i64 n, .int .i64 s] 25)
 obtain ⟨k0, k1⟩ := (Gbox.new w 25 n s).cells
 go_enter Tryz.func108, Tryz.ntmps108
 go_wp2
 go_ret
 exact ⟨ret_int (by first | rfl | omega), hA⟩

theorem implBlocks_any (w : World) (n s : Int) : Calls Tryz.prog 190 #[.agg #[.int .i64 n, .int .i64 s]] w fun e w' => e = .returned (.int .i64 (blocksN n s)) /\ Below w.heap.size w w' := by
 have hA := new_below w (.cells #[.int .i64 n, .int .i64 s] 25)
 have X := Gbox.new w 25 n s
 obtain ⟨k0, k1⟩ := X.cells
 have zA := X.lt
 go_enter Tryz.func190, Tryz.ntmps190
 go_wp2_with fail
 refine (implGeoOk_any _ _ _).mono ?_
 rintro e w1 ⟨rfl, b1⟩
 have X1 := X.below b1 zA
 have z1 := X1.lt
 obtain ⟨p0, p1⟩ := X1.cells
 have B1 := Below.andThen hA b1
 clear k0 k1 X b1 hA zA
 by_cases hg : geoB n s = true
 . obtain ⟨h1, h2, h3, h4⟩ := geoB_iff.1 hg
   have hm := geoB_blocks hg
   have HB := hidden (blocksN_of hg)
   have gw : IntKind.i64.wrap (s * (n - 1)) = s * (n - 1) := IntWalk.i64_in _ (by omega)
   go_wp2_with fail
   go_region_held3 (fun w' => w'.cell? ⟨w.heap.size, 0, none⟩ = some (.int .i64 n) /\ w'.cell? ⟨w.heap.size, 1, none⟩ = some (.int .i64 s))
    (first | (exact ⟨(b2.cell (p := ⟨w.heap.size, 0, none⟩) z1).trans p0, (b2.cell (p := ⟨w.heap.size, 1, none⟩) z1).trans p1⟩) | (exact ⟨p0, p1⟩) | go_keep)
    (first
     | (go_at_call 108; refine (perStripe_any _ _ _ h1 h2).mono ?_; rintro e w2 ⟨rfl, b2'⟩; have b2 : Below w1.heap.size w1 w2 := (by exact (Below.refl w1.heap.size w1).drew.trans b2')))
   go_wp2
   go_ret
   exact ⟨ret_int (by rw [HB.out]), Below.andThen B1 b2⟩
 . have hg : geoB n s = false := by simpa using hg
   go_wp2
   go_ret
   exact ⟨ret_int (blocksN_not hg).symm, B1⟩

theorem stripeB_of {n s t : Int} : stripeB n s t = true ↔ geoB n s = true /\ 0 <= t /\ t < s := by unfold stripeB; rw [Bool.and_eq_true, inB_iff]; constructor <;> (rintro ⟨a, b⟩; exact ⟨a, by omega⟩)
theorem stripeB_not {n s t : Int} : stripeB n s t = false ↔ ¬ (geoB n s = true /\ 0 <= t /\ t < s) := by rw [← stripeB_of]; simp

theorem hasStripe_any (w : World) (n s t : Int) : Calls Tryz.prog 110 #[.agg #[.int .i64 n, .int .i64 s], .int .i64 t] w fun e w' => e = .returned (.bool (stripeB n s t)) /\ Below w.heap.size w w' := by
 have hA := new_below w (.cells #[.int .i64 n, .int .i64 s] 25)
 have X := Gbox.new w 25 n s
 obtain ⟨k0, k1⟩ := X.cells
 have zA := X.lt
 go_enter Tryz.func110, Tryz.ntmps110
 go_wp2_with fail
 refine (implGeoOk_any _ _ _).mono ?_
 rintro e w1 ⟨rfl, b1⟩
 have X1 := X.below b1 zA
 obtain ⟨p0, p1⟩ := X1.cells
 have B1 := Below.andThen hA b1
 clear k0 k1 X b1 hA zA
 by_cases hg : geoB n s = true
 . by_cases h1 : 0 <= t
   . by_cases h2 : t < s
     . go_wp2
       go_ret
       exact ⟨ret_bool (by symm; rw [stripeB_of]; exact ⟨hg, h1, h2⟩), B1⟩
     . go_wp2
       go_ret
       exact ⟨ret_bool (by first | (exact (stripeB_not.2 (by omega)).symm) | (rw [stripeB_not.2 (by omega)]; simp; omega)), B1⟩
   . go_wp2
     go_ret
     exact ⟨ret_bool (by first | (exact (stripeB_not.2 (by omega)).symm) | (rw [stripeB_not.2 (by omega)]; simp; omega)), B1⟩
 . have hg : geoB n s = false := by simpa using hg
   go_wp2
   go_ret
   exact ⟨ret_bool (by symm; rw [stripeB_not]; simp [hg]), B1⟩

theorem implParityOf_any (w : World) (n s t : Int) : Calls Tryz.prog 215 #[.agg #[.int .i64 n, .int .i64 s], .int .i64 t] w fun e w' => e = .returned (.int .i64 (parN n s t)) /\ Below w.heap.size w w' := by
 have hA := new_below w (.cells #[.int .i64 n, .int .i64 s] 25)
 have X := Gbox.new w 25 n s
 obtain ⟨k0, k1⟩ := X.cells
 have zA := X.lt
 go_enter Tryz.func215, Tryz.ntmps215
 go_wp2_with fail
 refine (hasStripe_any _ _ _ _).mono ?_
 rintro e w1 ⟨rfl, b1⟩
 have X1 := X.below b1 zA
 obtain ⟨p0, p1⟩ := X1.cells
 have B1 := Below.andThen hA b1
 clear k0 k1 X b1 hA zA
 by_cases hg : stripeB n s t = true
 . obtain ⟨hg1, h1, h2⟩ := stripeB_of.1 hg
   obtain ⟨g1, g2, g3, g4⟩ := geoB_iff.1 hg1
   have hm1 : 0 <= t % n := Int.emod_nonneg _ (by omega)
   have hm2 : t % n < n := Int.emod_lt_of_pos _ (by omega)
   have HB : Hid (parN n s t = n - 1 - t % n) := by unfold Hid parN; rw [if_pos hg]
   go_wp2_with fail
   go_quiet (fail)
   go_wp2
   go_ret
   exact ⟨ret_int (by rw [HB.out]), Below.andSame B1 ((Same.refl _).drewN _)⟩
 . have hg' : stripeB n s t = false := by simpa using hg
   go_wp2
   go_ret
   exact ⟨ret_int (by unfold parN; rw [if_neg hg]), B1⟩

theorem blockB_of {n s b : Int} : blockB n s b = true ↔ 0 <= b /\ b < blocksN n s := by unfold blockB; rw [inB_iff]; omega
theorem blockB_not {n s b : Int} : blockB n s b = false ↔ ¬ (0 <= b /\ b < blocksN n s) := by rw [← blockB_of]; simp
theorem blockB_geo {n s b : Int} (h : blockB n s b = true) : geoB n s = true := by
 rw [blockB_of] at h
 by_cases hg : geoB n s = true
 . exact hg
 . rw [blocksN_not (by simpa using hg)] at h
   omega

theorem placeOf_any (w : World) (n s b : Int) : Calls Tryz.prog 139 #[.agg #[.int .i64 n, .int .i64 s], .int .i64 b] w fun e w' => e = .returned (.agg #[.int .i64 (stripeN n s b), .int .i64 (indexN n s b)]) /\ Below w.heap.size w w' := by
 have hA : Below w.heap.size w ((w.alloc (.cells #[.int .i64 n, .int .i64 s] 25)).alloc (.cells #[.int .i64 0, .int .i64 0] 135)) := (new_below w _).alloc (by simp) _
 have X : Gbox ((w.alloc (.cells #[.int .i64 n, .int .i64 s] 25)).alloc (.cells #[.int .i64 0, .int .i64 0] 135)) w.heap.size 25 n s := (Gbox.new w 25 n s).below (new_below _ _) (by simp)
 have Y : Gbox ((w.alloc (.cells #[.int .i64 n, .int .i64 s] 25)).alloc (.cells #[.int .i64 0, .int .i64 0] 135)) (w.heap.size + 1) 135 0 0 := by
  have := Gbox.new (w.alloc (.cells #[.int .i64 n, .int .i64 s] 25)) 135 0 0
  simpa using this
 obtain ⟨k0, k1⟩ := X.cells
 obtain ⟨j0, j1⟩ := Y.cells
 have f0 := Y.frozen 0
 have f1 := Y.frozen 1
 go_enter Tryz.func139, Tryz.ntmps139
 by_cases h0 : 0 <= b
 . go_wp2_with fail
   refine (implBlocks_any _ _ _).mono ?_
   rintro e w1 ⟨rfl, b1⟩
   have hz : w.heap.size + 1 < ((w.alloc (.cells #[.int .i64 n, .int .i64 s] 25)).alloc (.cells #[.int .i64 0, .int .i64 0] 135)).heap.size := by simp
   have X1 := X.below b1 (by omega)
   have Y1 := Y.below b1 hz
   have B1 := hA.trans (b1.mono hA.size)
   have hr := blocksN_range n s
   clear k0 k1 j0 j1 f0 f1 X Y hA b1 hz
   obtain ⟨k0, k1⟩ := X1.cells
   obtain ⟨j0, j1⟩ := Y1.cells
   have f0 := Y1.frozen 0
   have f1 := Y1.frozen 1
   have z1 := Y1.lt
   by_cases h1 : b < blocksN n s
   . have hb := blockB_of.2 ⟨h0, h1⟩
     obtain ⟨g1, g2, g3, g4⟩ := geoB_iff.1 (blockB_geo hb)
     have HS : Hid (stripeN n s b = b / (n - 1)) := by unfold Hid stripeN; rw [if_pos hb]
     have HI : Hid (indexN n s b = b % (n - 1)) := by unfold Hid indexN; rw [if_pos hb]
     have d1 : 0 <= b / (n - 1) := Int.ediv_nonneg (by omega) (by omega)
     have d2 : b / (n - 1) <= b := Int.ediv_le_self _ (by omega)
     have d3 : 0 <= b % (n - 1) := Int.emod_nonneg _ (by omega)
     have d4 : b % (n - 1) < n - 1 := Int.emod_lt_of_pos _ (by omega)
     have e1 : ¬ n - 1 = 0 := by omega
     have e3 : b.tmod (n - 1) = b % (n - 1) := Int.tmod_eq_emod_of_nonneg h0
     have e2 : IntKind.i64.wrap (b.tdiv (n - 1)) = b / (n - 1) := by rw [Int.tdiv_eq_ediv_of_nonneg h0]; exact IntWalk.i64_in _ (by omega)
     go_wp2_with fail
     go_region_held3 (fun w' => w'.cell? ⟨w.heap.size, 0, none⟩ = some (.int .i64 n) /\ w'.cell? ⟨w.heap.size, 1, none⟩ = some (.int .i64 s))
      (first | (exact X3.cells) | (exact X2.cells) | (exact X1.cells) | go_keep)
      (first
       | (go_at_call 108; refine (perStripe_any _ _ _ g1 g2).mono ?_; rintro e w3 ⟨rfl, b3⟩; have B3 := Below.andThen B2 b3; have X3 := X2.below b3 X2.lt; have Y3 := Y2.below b3 Y2.lt; obtain ⟨k0, k1⟩ := X3.cells; obtain ⟨j0, j1⟩ := Y3.cells; have f0 := Y3.frozen 0; have f1 := Y3.frozen 1)
       | (go_at_call 108; refine (perStripe_any _ _ _ g1 g2).mono ?_; rintro e w2 ⟨rfl, b2⟩; have B2 := Below.andThen B1.drew b2; have X2 := X1.drew.below b2 X1.lt; have Y2 := Y1.drew.below b2 Y1.lt; obtain ⟨k0, k1⟩ := X2.cells))
     have Z := Y3.set2 (b / (n - 1)) (b % (n - 1))
     have BZ := (B3.setCell (p := ⟨w.heap.size + 1, 0, none⟩) (by simp) (.int .i64 (b / (n - 1)))).setCell (p := ⟨w.heap.size + 1, 1, none⟩) (by simp) (.int .i64 (b % (n - 1)))
     generalize ((w3.setCell ⟨w.heap.size + 1, 0, none⟩ (.int .i64 (b / (n - 1)))).setCell ⟨w.heap.size + 1, 1, none⟩ (.int .i64 (b % (n - 1)))) = w4 at Z BZ ⊢
     obtain ⟨q0, q1⟩ := Z.cells
     go_wp2
     refine bodyPost_ret (v := .agg #[.int .i64 (b / (n - 1)), .int .i64 (b % (n - 1))]) (by simp [results, Tryz.results139, go_sem, q0, q1]) rfl ?_
     exact ⟨by rw [HS.out, HI.out], BZ⟩
   . have HN : blockB n s b = false := blockB_not.2 (fun h => h1 h.2)
     have Z := Y1.set2 (-1) (-1)
     have BZ := (B1.setCell (p := ⟨w.heap.size + 1, 0, none⟩) (by simp) (.int .i64 (-1))).setCell (p := ⟨w.heap.size + 1, 1, none⟩) (by simp) (.int .i64 (-1))
     obtain ⟨q0, q1⟩ := Z.cells
     go_wp2
     refine bodyPost_ret (v := .agg #[.int .i64 (-1), .int .i64 (-1)]) (by simp [results, Tryz.results139, go_sem, q0, q1]) rfl ?_
     exact ⟨by unfold stripeN indexN; rw [HN]; rfl, BZ⟩
 . have HN : blockB n s b = false := blockB_not.2 (fun h => h0 h.1)
   clear j0 j1 k0 k1 f0 f1
   go_wp2
   refine bodyPost_ret (v := .agg #[.int .i64 (-1), .int .i64 (-1)]) (by simp [results, Tryz.results139, go_sem]) rfl ?_
   exact ⟨by unfold stripeN indexN; rw [HN]; rfl, (new_below w _).alloc (by simp) _⟩

theorem spot_block {n s t i : Int} : spotB n s t i = true ↔ ∃ b, blockB n s b = true /\ stripeN n s b = t /\ indexN n s b = i := by
 constructor
 . intro h
   unfold spotB at h
   rw [Bool.and_eq_true, stripeB_of, inB_iff] at h
   obtain ⟨⟨hg, h1, h2⟩, h3, h4⟩ := h
   obtain ⟨g1, g2, g3, g4⟩ := geoB_iff.1 hg
   have hb : blockB n s (t * (n - 1) + i) = true := by
    rw [blockB_of, blocksN_of hg]
    have : n = 3 ∨ n = 4 ∨ n = 5 := by omega
    rcases this with rfl | rfl | rfl <;> omega
   refine ⟨t * (n - 1) + i, hb, ?_, ?_⟩
   . unfold stripeN
     rw [if_pos hb]
     have : n = 3 ∨ n = 4 ∨ n = 5 := by omega
     rcases this with rfl | rfl | rfl <;> omega
   . unfold indexN
     rw [if_pos hb]
     have : n = 3 ∨ n = 4 ∨ n = 5 := by omega
     rcases this with rfl | rfl | rfl <;> omega
 . rintro ⟨b, hb, rfl, rfl⟩
   have hg := blockB_geo hb
   have hb' := blockB_of.1 hb
   rw [blocksN_of hg] at hb'
   obtain ⟨g1, g2, g3, g4⟩ := geoB_iff.1 hg
   unfold spotB
   rw [Bool.and_eq_true, stripeB_of, inB_iff]
   unfold stripeN indexN
   rw [if_pos hb, if_pos hb]
   have : n = 3 ∨ n = 4 ∨ n = 5 := by omega
   rcases this with rfl | rfl | rfl <;> exact ⟨⟨hg, by omega⟩, by omega⟩

theorem block_at {n s b : Int} (hb : blockB n s b = true) : blockN n s (stripeN n s b) (indexN n s b) = b := by
 have h := spot_block.2 ⟨b, hb, rfl, rfl⟩
 unfold blockN
 rw [if_pos h]
 obtain ⟨g1, g2, g3, g4⟩ := geoB_iff.1 (blockB_geo hb)
 have hb' := blockB_of.1 hb
 unfold stripeN indexN
 rw [if_pos hb, if_pos hb]
 have : n = 3 ∨ n = 4 ∨ n = 5 := by omega
 rcases this with rfl | rfl | rfl <;> omega

theorem implBlockAt_any (w : World) (n s t i : Int) : Calls Tryz.prog 235 #[.agg #[.int .i64 n, .int .i64 s], .int .i64 t, .int .i64 i] w fun e w' => e = .returned (.int .i64 (blockN n s t i)) /\ Below w.heap.size w w' := by
 have hA : Below w.heap.size w ((w.alloc (.cells #[.int .i64 n, .int .i64 s] 25)).alloc (.cells #[.int .i64 t, .int .i64 i] 135)) := (new_below w _).alloc (by simp) _
 have X : Gbox ((w.alloc (.cells #[.int .i64 n, .int .i64 s] 25)).alloc (.cells #[.int .i64 t, .int .i64 i] 135)) w.heap.size 25 n s := (Gbox.new w 25 n s).below (new_below _ _) (by simp)
 have Y : Gbox ((w.alloc (.cells #[.int .i64 n, .int .i64 s] 25)).alloc (.cells #[.int .i64 t, .int .i64 i] 135)) (w.heap.size + 1) 135 t i := by
  have := Gbox.new (w.alloc (.cells #[.int .i64 n, .int .i64 s] 25)) 135 t i
  simpa using this
 obtain ⟨k0, k1⟩ := X.cells
 obtain ⟨x0, x1⟩ := (Gbox.new w 25 n s).cells
 go_enter Tryz.func235, Tryz.ntmps235
 go_wp2_with fail
 refine (implBlocks_any _ _ _).mono ?_
 rintro e w1 ⟨rfl, b1⟩
 have hz : w.heap.size + 1 < ((w.alloc (.cells #[.int .i64 n, .int .i64 s] 25)).alloc (.cells #[.int .i64 t, .int .i64 i] 135)).heap.size := by simp
 have X1 := X.below b1 (by omega)
 have Y1 := Y.below b1 hz
 have B1 := hA.trans (b1.mono hA.size)
 have hr := blocksN_range n s
 obtain ⟨nb, hnb⟩ := Int.eq_ofNat_of_zero_le hr.1
 have HNB := hidden hnb
 rw [hnb] at hr ⊢
 clear k0 k1 x0 x1 X Y hA b1 hz hnb
 go_wp2_with fail
 go_loopw [14] (fun c wr => ∃ j : Nat, j <= nb /\ c = .int .i64 j /\ (∀ k : Nat, k < j -> ¬ (stripeN n s k = t /\ indexN n s k = i)) /\ Gbox wr w.heap.size 25 n s /\ Gbox wr (w.heap.size + 1) 135 t i /\ Below w.heap.size w wr) (fun c _ => nb - (intOf c).toNat)
 case atStart => exact ⟨0, Nat.zero_le _, rfl, by omega, X1, Y1, B1⟩
 case round =>
  obtain ⟨j, hj, rfl, hk, X2, Y2, B2⟩ := hrel
  have HK := hidden hk
  clear hk X1 Y1 B1
  by_cases hlt : j < nb
  . have hb : blockB n s j = true := blockB_of.2 ⟨by omega, by rw [HNB.out]; omega⟩
    have HBA := hidden (block_at hb)
    obtain ⟨k0, k1⟩ := X2.cells
    obtain ⟨j0, j1⟩ := Y2.cells
    generalize hS : stripeN n s j = S at HBA HK
    generalize hI : indexN n s j = I at HBA HK
    have HP : ∀ W : World, Calls Tryz.prog 139 #[.agg #[.int .i64 n, .int .i64 s], .int .i64 (j : Int)] W fun e w' => e = .returned (.agg #[.int .i64 S, .int .i64 I]) /\ Below W.heap.size W w' := by
     intro W
     rw [← hS, ← hI]
     exact placeOf_any _ _ _ _
    have HS := hidden hS
    have HI := hidden hI
    clear hS hI
    by_cases h1 : S = t
    . by_cases h2 : I = i
      . subst h1 h2
        go_wp2_with fail
        go_region_held3 (fun w' => w'.cell? ⟨w.heap.size, 0, none⟩ = some (.int .i64 n) /\ w'.cell? ⟨w.heap.size, 1, none⟩ = some (.int .i64 s) /\ w'.cell? ⟨w.heap.size + 1, 0, none⟩ = some (.int .i64 S) /\ w'.cell? ⟨w.heap.size + 1, 1, none⟩ = some (.int .i64 I))
         (first | (exact ⟨X3.cells.1, X3.cells.2, Y3.cells.1, Y3.cells.2⟩) | (exact ⟨k0, k1, j0, j1⟩) | go_keep)
         (first
          | (go_at_call 139; refine (HP _).mono ?_; rintro e w3 ⟨rfl, b3⟩; have B3 := Below.andThen B2.drew b3; have X3 := X2.drew.below b3 X2.lt; have Y3 := Y2.drew.below b3 Y2.lt))
        go_wp2
        go_ret
        exact ⟨ret_int HBA.out.symm, B3⟩
      . have n2 : (I == i) = false := by simpa using h2
        subst h1
        go_wp2_with fail
        go_region_held3 (fun w' => w'.cell? ⟨w.heap.size, 0, none⟩ = some (.int .i64 n) /\ w'.cell? ⟨w.heap.size, 1, none⟩ = some (.int .i64 s) /\ w'.cell? ⟨w.heap.size + 1, 0, none⟩ = some (.int .i64 S) /\ w'.cell? ⟨w.heap.size + 1, 1, none⟩ = some (.int .i64 i))
         (first | (exact ⟨X3.cells.1, X3.cells.2, Y3.cells.1, Y3.cells.2⟩) | (exact ⟨k0, k1, j0, j1⟩) | go_keep)
         (first
          | (go_at_call 139; refine (HP _).mono ?_; rintro e w3 ⟨rfl, b3⟩; have B3 := Below.andThen B2.drew b3; have X3 := X2.drew.below b3 X2.lt; have Y3 := Y2.drew.below b3 Y2.lt))
        go_wp2
        go_roundw
        case rel => exact ⟨j + 1, by omega, by go_num, fun k hk h => by
         by_cases hkj : k < j
         . exact HK.out k hkj h
         . have : k = j := by omega
           subst this
           exact h2 (HI.out ▸ h.2), X3, Y3, B3⟩
        case measure => simp [intOf]; omega
    . have n1 : (S == t) = false := by simpa using h1
      go_wp2_with fail
      go_region_held3 (fun w' => w'.cell? ⟨w.heap.size, 0, none⟩ = some (.int .i64 n) /\ w'.cell? ⟨w.heap.size, 1, none⟩ = some (.int .i64 s) /\ w'.cell? ⟨w.heap.size + 1, 0, none⟩ = some (.int .i64 t) /\ w'.cell? ⟨w.heap.size + 1, 1, none⟩ = some (.int .i64 i))
       (first | (exact ⟨X3.cells.1, X3.cells.2, Y3.cells.1, Y3.cells.2⟩) | (exact ⟨k0, k1, j0, j1⟩) | go_keep)
       (first
        | (go_at_call 139; refine (HP _).mono ?_; rintro e w3 ⟨rfl, b3⟩; have B3 := Below.andThen B2.drew b3; have X3 := X2.drew.below b3 X2.lt; have Y3 := Y2.drew.below b3 Y2.lt))
      go_wp2
      go_roundw
      case rel => exact ⟨j + 1, by omega, by go_num, fun k hk h => by
       by_cases hkj : k < j
       . exact HK.out k hkj h
       . have : k = j := by omega
         subst this
         exact h1 (HS.out ▸ h.1), X3, Y3, B3⟩
      case measure => simp [intOf]; omega
  . go_wp2
    go_ret
    have e : j = nb := by omega
    subst e
    refine ⟨ret_int ?_, B2⟩
    unfold blockN
    rw [if_neg]
    intro h
    obtain ⟨b, hb, h1, h2⟩ := spot_block.1 h
    obtain ⟨hb0, hb1⟩ := blockB_of.1 hb
    obtain ⟨b, rfl⟩ := Int.eq_ofNat_of_zero_le hb0
    rw [HNB.out] at hb1
    exact HK.out b (by omega) ⟨h1, h2⟩

theorem blockN_ok {n s t i : Int} (h : spotB n s t i = true) : 0 <= blockN n s t i := by
 unfold blockN
 rw [if_pos h]
 unfold spotB at h
 rw [Bool.and_eq_true, stripeB_of, inB_iff] at h
 obtain ⟨⟨hg, h1, h2⟩, h3, h4⟩ := h
 obtain ⟨g1, g2, g3, g4⟩ := geoB_iff.1 hg
 have : n = 3 ∨ n = 4 ∨ n = 5 := by omega
 rcases this with rfl | rfl | rfl <;> omega

theorem spotB_of {n s t i : Int} : spotB n s t i = true ↔ geoB n s = true /\ 0 <= t /\ t < s /\ 0 <= i /\ i <= n - 2 := by
 unfold spotB
 rw [Bool.and_eq_true, stripeB_of, inB_iff]
 constructor
 . rintro ⟨⟨a, b, c⟩, d, e⟩
   exact ⟨a, b, c, d, e⟩
 . rintro ⟨a, b, c, d, e⟩
   exact ⟨⟨a, b, c⟩, d, e⟩

theorem implDiskOf_any (w : World) (n s t i : Int) : Calls Tryz.prog 192 #[.agg #[.int .i64 n, .int .i64 s], .int .i64 t, .int .i64 i] w fun e w' => e = .returned (.int .i64 (diskN n s t i)) /\ Below w.heap.size w w' := by
 have hA := new_below w (.cells #[.int .i64 n, .int .i64 s] 25)
 have X := Gbox.new w 25 n s
 obtain ⟨k0, k1⟩ := X.cells
 have zA := X.lt
 go_enter Tryz.func192, Tryz.ntmps192
 go_wp2_with fail
 refine (implBlockAt_any _ _ _ _ _).mono ?_
 rintro e w1 ⟨rfl, b1⟩
 have X1 := X.below b1 zA
 have B1 := Below.andThen hA b1
 clear k0 k1 X b1 hA zA
 obtain ⟨k0, k1⟩ := X1.cells
 by_cases hs : spotB n s t i = true
 . have h0 := blockN_ok hs
   obtain ⟨hg, h1, h2, h3, h4⟩ := spotB_of.1 hs
   obtain ⟨g1, g2, g3, g4⟩ := geoB_iff.1 hg
   have hm1 : 0 <= t % n := Int.emod_nonneg _ (by omega)
   have hm2 : t % n < n := Int.emod_lt_of_pos _ (by omega)
   have HP : parN n s t = n - 1 - t % n := by unfold parN; rw [if_pos (stripeB_of.2 ⟨hg, h1, h2⟩)]
   have HPar : ∀ W : World, Calls Tryz.prog 215 #[.agg #[.int .i64 n, .int .i64 s], .int .i64 t] W fun e w' => e = .returned (.int .i64 (n - 1 - t % n)) /\ Below W.heap.size W w' := by
    intro W
    rw [← HP]
    exact implParityOf_any _ _ _ _
   have HD : Hid (diskN n s t i = (n - 1 - t % n + 1 + i) % n) := by unfold Hid diskN; rw [if_pos hs]
   clear HP
   generalize t % n = r at hm1 hm2 HPar HD
   have e0 : ¬ blockN n s t i = -1 := by omega
   have e1 : ¬ n = 0 := by omega
   have e2 : (n - 1 - r + 1 + i).tmod n = (n - 1 - r + 1 + i) % n := Int.tmod_eq_emod_of_nonneg (by omega)
   have e3 : IntKind.i64.wrap (n - 1 - r + 1) = n - 1 - r + 1 := IntWalk.i64_in _ (by omega)
   have e4 : IntKind.i64.wrap (n - 1 - r + 1 + i) = n - 1 - r + 1 + i := IntWalk.i64_in _ (by omega)
   have e5 : (blockN n s t i == -1) = false := by simpa using e0
   go_wp2_with fail
   go_region_held3 (fun w' => w'.cell? ⟨w.heap.size, 0, none⟩ = some (.int .i64 n) /\ w'.cell? ⟨w.heap.size, 1, none⟩ = some (.int .i64 s))
    (first | (exact X2.cells) | (exact X1.cells) | go_keep)
    (first
     | (go_at_call 215; refine (HPar _).mono ?_; rintro e w2 ⟨rfl, b2⟩; have B2 := Below.andThen B1.drew b2; have X2 := X1.drew.below b2 X1.lt))
   go_wp2
   go_ret
   exact ⟨ret_int HD.out.symm, B2⟩
 . have e0 : blockN n s t i = -1 := by unfold blockN; rw [if_neg hs]
   have e5 : (blockN n s t i == -1) = true := by simpa using e0
   go_wp2
   go_ret
   exact ⟨ret_int (by unfold diskN; rw [if_neg hs]), B1⟩

def wordsD (N : Nat) (p : Int) (zs : List Int) : List Int := (List.range N).map fun i : Nat => dataW (N : Int) p zs i
def wordsJ (N : Nat) (p : Int) (zs : List Int) (j : Nat) : List Int := (List.range N).map fun i : Nat => if (i : Int) = p then xorL zs else if ((i : Int) - p - 1 + (N : Int)) % (N : Int) < (j : Int) then zs.getD (((i : Int) - p - 1 + (N : Int)) % (N : Int)).toNat 0 else 0
theorem wordsJ_len (N : Nat) (p : Int) (zs : List Int) (j : Nat) : (wordsJ N p zs j).length = N := by unfold wordsJ; simp
theorem wordsJ_at {N : Nat} {p : Int} {zs : List Int} {j k : Nat} (hk : k < N) : (wordsJ N p zs j)[k]? = some (if (k : Int) = p then xorL zs else if ((k : Int) - p - 1 + (N : Int)) % (N : Int) < (j : Int) then zs.getD (((k : Int) - p - 1 + (N : Int)) % (N : Int)).toNat 0 else 0) := by
 unfold wordsJ
 rw [List.getElem?_map, List.getElem?_range hk]
 rfl
theorem words_first {N P : Nat} {zs : List Int} (hN : 3 <= N /\ N <= 5) (hP : P < N) : (List.replicate N (0 : Int)).set P (xorL zs) = wordsJ N (P : Int) zs 0 := by
 apply List.ext_getElem?
 intro k
 by_cases hk : k < N
 . rw [wordsJ_at hk]
   by_cases e : k = P
   . subst e
     rw [List.getElem?_set_self (by simpa using hk), if_pos rfl]
   . have h1 : ¬ ((k : Int) - (P : Int) - 1 + (N : Int)) % (N : Int) < ((0 : Nat) : Int) := by
      have := Int.emod_nonneg ((k : Int) - (P : Int) - 1 + (N : Int)) (show (N : Int) ≠ 0 by omega)
      omega
     rw [List.getElem?_set_ne (by omega), if_neg (by omega), if_neg h1, List.getElem?_replicate, if_pos hk]
 . rw [List.getElem?_eq_none (by simp; omega), List.getElem?_eq_none (by rw [wordsJ_len]; omega)]
theorem words_next {N P D j : Nat} {zs : List Int} (hN : 3 <= N /\ N <= 5) (hP : P < N) (hj : j + 1 < N) (hD : (D : Int) = ((P : Int) + 1 + (j : Int)) % (N : Int)) : (wordsJ N (P : Int) zs j).set D (zs.getD j 0) = wordsJ N (P : Int) zs (j + 1) := by
 have hDN : D < N := by
  have := Int.emod_lt_of_pos ((P : Int) + 1 + (j : Int)) (show (0 : Int) < (N : Int) by omega)
  omega
 apply List.ext_getElem?
 intro k
 by_cases hk : k < N
 . rw [wordsJ_at hk]
   by_cases e : k = D
   . subst e
     have h1 : ((k : Int) - (P : Int) - 1 + (N : Int)) % (N : Int) = (j : Int) /\ ¬ (k : Int) = (P : Int) := by
      obtain ⟨n1, n2⟩ := hN
      have : N = 3 ∨ N = 4 ∨ N = 5 := by omega
      rcases this with rfl | rfl | rfl <;> omega
     rw [List.getElem?_set_self (by rw [wordsJ_len]; exact hk), if_neg h1.2, h1.1, if_pos (by omega), Int.toNat_natCast]
   . rw [List.getElem?_set_ne (fun h => e h.symm), wordsJ_at hk]
     by_cases e2 : (k : Int) = (P : Int)
     . rw [if_pos e2, if_pos e2]
     . rw [if_neg e2, if_neg e2]
       have h1 : ¬ ((k : Int) - (P : Int) - 1 + (N : Int)) % (N : Int) = (j : Int) := by
        obtain ⟨n1, n2⟩ := hN
        have : N = 3 ∨ N = 4 ∨ N = 5 := by omega
        rcases this with rfl | rfl | rfl <;> omega
       by_cases h2 : ((k : Int) - (P : Int) - 1 + (N : Int)) % (N : Int) < (j : Int)
       . rw [if_pos h2, if_pos (by omega)]
       . rw [if_neg h2, if_neg (by omega)]
 . rw [List.getElem?_eq_none (by rw [List.length_set, wordsJ_len]; omega), List.getElem?_eq_none (by rw [wordsJ_len]; omega)]
theorem words_last {N P : Nat} {zs : List Int} (hN : 3 <= N /\ N <= 5) (hP : P < N) : wordsJ N (P : Int) zs (N - 1) = wordsD N (P : Int) zs := by
 unfold wordsJ wordsD
 apply List.map_congr_left
 intro k hk
 have hk := List.mem_range.1 hk
 unfold dataW
 by_cases e2 : (k : Int) = (P : Int)
 . rw [if_pos e2, if_pos e2]
 . rw [if_neg e2, if_neg e2]
   have h1 : ((k : Int) - (P : Int) - 1 + (N : Int)) % (N : Int) < ((N - 1 : Nat) : Int) := by
    obtain ⟨n1, n2⟩ := hN
    have : N = 3 ∨ N = 4 ∨ N = 5 := by omega
    rcases this with rfl | rfl | rfl <;> omega
   rw [if_pos h1]

theorem wordsOfData_any (w : World) (N : Nat) (s t : Int) (a : Option Addr) (cap : Nat) (zs : List Int) (hg : geoB (N : Int) s = true) (ht : inB t 0 (s - 1) = true) (hz : zs.length + 1 = N) (h5 : tIntS.Rd w [.slice a zs.length cap] zs) :
 Calls Tryz.prog 170 #[.agg #[.int .i64 (N : Int), .int .i64 s], .int .i64 t, .slice a zs.length cap] w fun e w' => ∃ b, e = .returned (.slice (some ⟨b, 0, none⟩) N N) /\ tIntS.Own w' w.heap.size w'.heap.size [.slice (some ⟨b, 0, none⟩) N N] (wordsD N (parN (N : Int) s t) zs) /\ Below w.heap.size w w' := by
 obtain ⟨i0, hi, hz0, hz1, hz2⟩ := info_parts Tryz.info3
 have hN : 3 <= N /\ N <= 5 := by
  have := geoB_iff.1 hg
  omega
 obtain ⟨P1, P2⟩ := par_in hg ht
 have hsp : ∀ j : Nat, j + 1 < N -> diskN (N : Int) s t (j : Int) = (parN (N : Int) s t + 1 + (j : Int)) % (N : Int) := fun j hj => by
  have hst : stripeB (N : Int) s t = true := by unfold stripeB; rw [hg, ht]; rfl
  have hij : inB (j : Int) 0 ((N : Int) - 2) = true := inB_iff.2 ⟨by omega, by omega⟩
  unfold diskN parN spotB
  rw [hst, hij]
  simp
 obtain ⟨P, hP⟩ := Int.eq_ofNat_of_zero_le P1
 have HSP := hidden hsp
 rw [hP] at HSP P1 P2 ⊢
 have HP := hidden hP
 clear hsp hP
 have h6 : Hid (∀ W, Below w.heap.size w W -> tIntS.Rd W [.slice a zs.length cap] zs) := fun W hb => h5.below hb
 have bA := new_below w (.cells #[.int .i64 (N : Int), .int .i64 s] 25)
 have X := Box.new w 25 #[.int .i64 (N : Int), .int .i64 s]
 obtain ⟨g0, g1⟩ := X.cells2
 have hsz : (w.alloc (.cells #[.int .i64 (N : Int), .int .i64 s] 25)).heap.size = w.heap.size + 1 := by simp
 have hb3 : i0.bytes * N <= 281474976710656 := by rw [hz2]; omega
 have hm3 : N <= maxLen := by unfold maxLen; omega
 have zX := X.lt
 have r5 := h5.below bA
 have HB0 := hidden bA
 go_enter Tryz.func170, Tryz.ntmps170
 go_wp2_with (at_make; refine wpList_make_full _ rfl _ _ 30 rfl (w.alloc (.cells #[.int .i64 (N : Int), .int .i64 s] 25)).heap.size 3 i0 (.int .i64 0) 1 Tryz.underlying30 hi hz0 hz1 _ _ _ _ N rfl rfl rfl rfl hb3 hm3 (Nat.le_refl _) ?_; intro w3 hown hgrow; have hB1 : Below (w.alloc (.cells #[.int .i64 (N : Int), .int .i64 s] 25)).heap.size (w.alloc (.cells #[.int .i64 (N : Int), .int .i64 s] 25)) w3 := (Below.refl _ _).grown hgrow (Nat.le_refl _) (by simp); have c0 := (hB1.cell (p := ⟨w.heap.size, 0, none⟩) zX).trans g0; have c1 := (hB1.cell (p := ⟨w.heap.size, 1, none⟩) zX).trans g1)
 have hO : Owns .i64 3 w3 (w.alloc (.cells #[.int .i64 (N : Int), .int .i64 s] 25)).heap.size (.slice (some ⟨(w.alloc (.cells #[.int .i64 (N : Int), .int .i64 s] 25)).heap.size, 0, none⟩) N N) (List.replicate N 0) := by
  rw [made_ints] at hown
  unfold Owns
  rw [List.length_replicate]
  exact hown
 have hO1 := hO.own
 have X3 := X.below hB1 zX
 have r3 := r5.below hB1
 have B3 := hidden (Below.andThen HB0.out hB1)
 have z3 := hB1.size
 clear hown hgrow hO bA X r5 h5 hB1 HB0 g0 g1
 rw [hsz] at hO1 z3
 obtain ⟨LB, hLB⟩ : ∃ LB, w.heap.size + 1 = LB := ⟨_, rfl⟩
 rw [hLB] at hO1 z3 ⊢
 have q0 : w.heap.size + 1 <= LB /\ LB <= w.heap.size + 1 := by omega
 clear hLB hsz zX hb3 hm3
 refine (implParityOf_any _ (N : Int) s t).mono ?_
 rintro e w4 ⟨rfl, b4⟩
 rw [HP.out]
 have X4 := X3.below b4 X3.lt
 have r4 := r3.below b4
 have o4 := hO1.below b4
 have B4 := hidden (Below.andThen B3.out b4)
 have z4 := b4.size
 clear X3 r3 hO1 B3 b4 c0 c1
 go_wp2_with fail
 refine (implParityWord_any _ _ _ _ zs rfl (ints_rd r4).1 (by omega)).mono ?_
 rintro e w5 ⟨rfl, s5⟩
 have X5 := X4.same s5
 have r5 := r4.same s5
 have o5 := o4.same s5
 have B5 := Below.andSame B4.out s5
 have z5 := s5.size
 clear X4 r4 o4 B4 s5
 obtain ⟨hcy, hfy, hst, hbt⟩ := o5.store P (by omega) (xorL zs)
 rw [words_first hN (by omega)] at hst
 have X6 : Box (w5.setCell ⟨LB, P, none⟩ (.int .i64 (xorL zs))) w.heap.size 25 #[.int .i64 (N : Int), .int .i64 s] := X5.other (by omega) P _
 have B6 : Below w.heap.size w (w5.setCell ⟨LB, P, none⟩ (.int .i64 (xorL zs))) := B5.setCell (show w.heap.size <= LB by omega) _
 have r6 : tIntS.Rd (w5.setCell ⟨LB, P, none⟩ (.int .i64 (xorL zs))) [.slice a zs.length cap] zs := h6.out _ B6
 have i3 : (0 : Int) <= (P : Int) := by omega
 have i4 : (P : Int) < (N : Int) := by omega
 generalize (List.replicate N (0 : Int)).getD P 0 = old at hcy
 have HO := hidden hst
 have HX := hidden X6
 have HB6 := hidden B6
 have HR6 := hidden r6
 have hzl : (zs.length : Int) + 1 = (N : Int) := by omega
 clear X5 r5 o5 B5 hst hbt X6 B6 r6
 go_wp2
 generalize w5.setCell ⟨LB, P, none⟩ (.int .i64 (xorL zs)) = W6 at HO HX HB6 HR6 ⊢
 clear hcy hfy
 go_loopw [22] (fun i wr => ∃ j : Nat, j <= zs.length /\ i = .int .i64 j /\ Own .i64 3 wr LB w3.heap.size (.slice (some ⟨LB, 0, none⟩) N N) (wordsJ N (P : Int) zs j) /\ Box wr w.heap.size 25 #[.int .i64 (N : Int), .int .i64 s] /\ Below w.heap.size w wr) (fun i _ => zs.length - (intOf i).toNat)
 case atStart => exact ⟨0, Nat.zero_le _, rfl, HO.out, HX.out, HB6.out⟩
 case round =>
  obtain ⟨j, hj, rfl, ho, xg, hb⟩ := hrel
  by_cases hlt : j < zs.length
  . obtain ⟨g0, g1⟩ := xg.cells2
    have rr := h6.out _ hb
    rcases (ints_rd rr).1.cases with h0 | ⟨b, off, rfl, hbl, hcz⟩
    . omega
    have hcj := hcz j hlt
    have hD := HSP.out j (by omega)
    have hnx := fun D hD => words_next (N := N) (P := P) (D := D) (j := j) (zs := zs) hN (by omega) (by omega) hD
    generalize zs.getD j 0 = y at hcj hnx
    have i5 : (0 : Int) <= (j : Int) := by omega
    have i6 : (j : Int) < (zs.length : Int) := by omega
    clear hcz rr
    go_wp2_with fail
    refine (implDiskOf_any _ (N : Int) s t (j : Int)).mono ?_
    rintro e w7 ⟨rfl, b7⟩
    rw [hD]
    have q1 := Int.emod_nonneg ((P : Int) + 1 + (j : Int)) (show (N : Int) ≠ 0 by omega)
    have q2 := Int.emod_lt_of_pos ((P : Int) + 1 + (j : Int)) (show (0 : Int) < (N : Int) by omega)
    obtain ⟨D, hDD⟩ := Int.eq_ofNat_of_zero_le q1
    have hst := hnx D hDD.symm
    rw [hDD] at q2 ⊢
    have o7 := ho.below b7
    have x7 := xg.below b7 xg.lt
    have hb7 := hb.trans (b7.mono hb.size)
    obtain ⟨hcy, hfy, hs7, hbt⟩ := o7.store D (by omega) y
    rw [hst] at hs7
    have HS7 := hidden hs7
    have HX7 : Hid (Box (w7.setCell ⟨LB, D, none⟩ (.int .i64 y)) w.heap.size 25 #[.int .i64 (N : Int), .int .i64 s]) := x7.other (by omega) D _
    have HB7 : Hid (Below w.heap.size w (w7.setCell ⟨LB, D, none⟩ (.int .i64 y))) := hb7.setCell (show w.heap.size <= LB by omega) _
    generalize (wordsJ N (P : Int) zs j).getD D 0 = old2 at hcy
    have i7 : (0 : Int) <= (D : Int) := by omega
    have i8 : (D : Int) < (N : Int) := by omega
    clear ho xg hb b7 o7 x7 hb7 hs7 hbt hst hnx hD q1 hDD g0 g1
    go_wp2
    go_roundw
    case rel => exact ⟨j + 1, by omega, by go_num, HS7.out, HX7.out, HB7.out⟩
    case measure => simp [intOf]; omega
  . have ej : j = N - 1 := by omega
    have i6 : ¬ (j : Int) < (zs.length : Int) := by omega
    rw [ej, words_last hN (by omega)] at ho
    have FO := hidden ((own_ints ho.1).widen (lo' := w.heap.size) (by omega) (Nat.le_refl _))
    have FB := hidden hb
    clear ho hb xg ej
    go_wp2
    go_ret
    exact ⟨LB, rfl, FO.out, FB.out⟩

def Enters (F : FuncId) (args : Array Value) : Prop := ∀ w : World, Sem.run Tryz.prog (callFunc F args) w = .ok (.enter F args) w
theorem enters_of {F : FuncId} {fn : Func} (hf : Tryz.prog.funcs[F]? = some fn) (hn : (fn.name == "runtime.NumGoroutine") = false) (hb : fn.body.isNone = false) (args : Array Value) : Enters F args := by
 intro w
 have hb' : ¬ fn.body = none := fun h => by rw [h] at hb; cases hb
 have hn' : ¬ fn.name = "runtime.NumGoroutine" := by simpa using hn
 simp [go_sem, callFunc, hf, hn', hb']
def OpRuns (B : Nat) (fp : List Nat) (F : FuncId) (cap : Array Value) (o : DOp) (w : World) : Prop :=
 ∀ (x : ArrN) (ms : List MemD) (ds : List (Int × List Int)) (fm fd : List Nat), ArrAt w B x ms ds fm fd -> MsOk ms -> (∀ b ∈ fp, b ≠ B /\ b ∉ fm) -> o.1 < ms.length ->
  Calls Tryz.prog F cap w fun e w' => e = .returned (.tuple #[]) /\ ∃ fm', ArrAt w' B x (ms.set o.1 (opF o x (ms.getD o.1 memZ))) ds fm' fd /\ Moved B fm w fm' w'
def opOw (B : Nat) (w : World) (vs : List Value) (o : DOp) (fp : List Nat) : Prop :=
 ∃ F cap, vs = [.func (Fn.func F) #[] cap] /\ Enters F cap /\ (∀ b ∈ fp, b < w.heap.size) /\ ∀ w' : World, (∀ b ∈ fp, w'.heap[b]? = w.heap[b]?) -> w.heap.size <= w'.heap.size -> OpRuns B fp F cap o w'
abbrev opTy (B : Nat) : Ty where
 n := 1
 D := DOp
 rd := opOw B
 ow := opOw B
 owRd := fun h => h
 rdLen := fun ⟨_, _, h, _⟩ => by rw [h]; rfl
 rdLt := fun ⟨_, _, _, _, h, _⟩ => h
 rdKept := fun ⟨F, cap, h, he, hl, hr⟩ hk hs => ⟨F, cap, h, he, fun b hb => Nat.lt_of_lt_of_le (hl b hb) hs, fun w'' hk2 hs2 => hr w'' (fun b hb => (hk2 b hb).trans (hk b hb)) (Nat.le_trans hs hs2)⟩
 owKept := fun ⟨F, cap, h, he, hl, hr⟩ hk hs => ⟨F, cap, h, he, fun b hb => Nat.lt_of_lt_of_le (hl b hb) hs, fun w'' hk2 hs2 => hr w'' (fun b hb => (hk2 b hb).trans (hk b hb)) (Nat.le_trans hs hs2)⟩
abbrev tOps (B : Nat) : Ty := rowTy (opTy B) 161

abbrev goneV : Value := .iface 118 (.agg #[])
abbrev goneC : List PanicEntry := [{ v := goneV, recovered := false }]
def EndOf (y : ArrN) (e : Ending) : Prop := if y.down = true then e = .panicked goneC else e = .returned (.tuple #[])
theorem EndOf.gone {y : ArrN} (h : y.down = true) : EndOf y (.panicked goneC) := by unfold EndOf; rw [if_pos h]
theorem EndOf.fine {y : ArrN} (h : y.down = false) : EndOf y (.returned (.tuple #[])) := by unfold EndOf; rw [if_neg (by simp [h])]
def Did (w : World) (B : Nat) (fm : List Nat) (ds : List (Int × List Int)) (fd : List Nat) (q : ArrN × List MemD) (e : Ending) (w' : World) : Prop := EndOf q.1 e /\ ∃ fm', ArrAt w' B q.1 q.2 ds fm' fd /\ Moved B fm w fm' w'

theorem dop_at {w : World} {B n cap j : Nat} {bo : Option Addr} {ops : List DOp} {o : DOp} {fo : List Nat} (h : (tOps B).Mine w [.slice bo n cap] ops fo) (hj : ops[j]? = some o) :
 ∃ (g : Nat) (F : FuncId) (cp : Array Value) (fp : List Nat), bo = some ⟨g, 0, none⟩ /\ g < w.heap.size /\ w.cell? ⟨g, j, none⟩ = some (.func (Fn.func F) #[] cp) /\ Enters F cp /\ (∀ b ∈ fp, b ∈ fo) /\ ∀ w' : World, (∀ b ∈ fp, w'.heap[b]? = w.heap[b]?) -> w.heap.size <= w'.heap.size -> OpRuns B fp F cp o w' := by
 obtain ⟨h, _⟩ := h
 have hjl := (List.getElem?_eq_some_iff.1 hj).1
 rcases h with ⟨_, h2, _⟩ | ⟨b, cap', cur, fps, h1, h2, h3, h4, h5, h6, h7, h8⟩
 . rw [h2] at hjl; simp at hjl
 . simp only [List.cons.injEq, Value.slice.injEq, and_true] at h1
   obtain ⟨f, hf, F, cp, hv, he, hl, hr⟩ := h8 j o hj
   refine ⟨b, F, cp, f, h1.1, (Array.getElem?_eq_some_iff.1 h4).1, ?_, he, fun b' hb' => ?_, hr⟩
   . rw [cell_of_row w b _ cur 161 (0, 0) h4]
     have : ((cur.toList.drop (j * 1)).take 1)[0]? = some (.func (Fn.func F) #[] cp) := by rw [hv]; rfl
     rw [List.getElem?_take, if_pos (by omega), List.getElem?_drop] at this
     simpa using this
   . rw [h6]
     exact List.mem_cons_of_mem _ (List.mem_flatten.2 ⟨f, List.mem_of_getElem? hf, hb'⟩)

theorem burn_any (w : World) (B : Nat) (x : ArrN) (ms : List MemD) (ds : List (Int × List Int)) (fm fd : List Nat) (h : ArrAt w B x ms ds fm fd) (hf : x.fuse <= 1000) (hdn : x.down = false) :
 Calls Tryz.prog 169 #[.pointer (some ⟨B, 0, none⟩)] w fun e w' => EndOf (opX x) e /\ ArrAt w' B (opX x) ms ds fm fd /\ Moved B fm w fm w' := by
 obtain ⟨bm, bd, cm, cd, X, hm, hd, hr, r1, r2⟩ := h
 unfold arrC at X
 obtain ⟨k0, k1, k2, k3, k4, k5, k6, k7, k8, k9, k10, k11, k12⟩ := X.cells13
 have fz := X.frozen
 by_cases h0 : x.fuse = 0
 . have HX : Hid (opX x = {x with down := true, fuse := -1}) := by unfold Hid opX; rw [if_neg (by simp [hdn]), if_pos h0]
   have Y := (X.set 11 (.bool true)).set 10 (.int .i64 (-1))
   have M := hidden ((hm.setCell (g := B) (j := 11) r1 (.bool true)).setCell (g := B) (j := 10) r1 (.int .i64 (-1)))
   have D := hidden ((hd.setCell (g := B) (j := 11) r2 (.bool true)).setCell (g := B) (j := 10) r2 (.int .i64 (-1)))
   have MV := hidden ((Moved.set (B := B) (j := 11) (fm := fm) (w := w) (.bool true)).trans (Moved.set (B := B) (j := 10) (.int .i64 (-1))))
   have YH := hidden Y
   have HE : Hid (EndOf (opX x) (.panicked goneC)) := EndOf.gone (by rw [HX.out])
   rw [h0] at k10
   clear Y X hm hd hdn h0
   go_enter Tryz.func169, Tryz.ntmps169
   go_wp2
   refine ⟨rfl, HE.out, ?_, MV.out⟩
   rw [HX.out]; exact ⟨bm, bd, cm, cd, YH.out, M.out, D.out, hr, r1, r2⟩
 . have e0 : (x.fuse == 0) = false := by simpa using h0
   by_cases h1 : 0 < x.fuse
   . have hw : IntKind.i64.wrap (x.fuse - 1) = x.fuse - 1 := IntWalk.i64_in _ (by omega)
     have HX : Hid (opX x = {x with fuse := x.fuse - 1}) := by unfold Hid opX; rw [if_neg (by simp [hdn]), if_neg h0, if_pos h1]
     have HE : Hid (EndOf (opX x) (.returned (.tuple #[]))) := EndOf.fine (by rw [HX.out]; exact hdn)
     have YH := hidden (X.set 10 (.int .i64 (x.fuse - 1)))
     have M := hidden (hm.setCell (g := B) (j := 10) r1 (.int .i64 (x.fuse - 1)))
     have D := hidden (hd.setCell (g := B) (j := 10) r2 (.int .i64 (x.fuse - 1)))
     have MV := hidden (Moved.set (B := B) (j := 10) (fm := fm) (w := w) (.int .i64 (x.fuse - 1)))
     clear X hm hd hdn h0
     go_enter Tryz.func169, Tryz.ntmps169
     go_wp2
     refine bodyPost_end (v := .tuple #[]) (results_none rfl _ _ _) rfl ?_
     exact ⟨HE.out, by rw [HX.out]; exact ⟨bm, bd, cm, cd, YH.out, M.out, D.out, hr, r1, r2⟩, MV.out⟩
   . have HX : Hid (opX x = x) := by unfold Hid opX; rw [if_neg (by simp [hdn]), if_neg h0, if_neg h1]
     have HE : Hid (EndOf (opX x) (.returned (.tuple #[]))) := EndOf.fine (by rw [HX.out]; exact hdn)
     have YH := hidden X
     clear hdn h0 X
     go_enter Tryz.func169, Tryz.ntmps169
     go_wp2
     refine bodyPost_end (v := .tuple #[]) (results_none rfl _ _ _) rfl ?_
     exact ⟨HE.out, by rw [HX.out]; exact ⟨bm, bd, cm, cd, YH.out, hm, hd, hr, r1, r2⟩, Moved.refl _ _ _⟩

theorem perform_any (w : World) (B : Nat) (x : ArrN) (ms : List MemD) (ds : List (Int × List Int)) (fm fd : List Nat) (h : ArrAt w B x ms ds fm fd) (hf : x.fuse <= 1000) (hdn : x.down = false) (hM : MsOk ms)
 (bo : Option Addr) (co : Nat) (ops : List DOp) (fo : List Nat) (ho : (tOps B).Mine w [.slice bo ops.length co] ops fo) (hdis : ∀ b ∈ fo, b ≠ B /\ b ∉ fm) (hop : ∀ o ∈ ops, o.1 < ms.length /\ flagAt ms o.1 = false) :
 Calls Tryz.prog 116 #[.pointer (some ⟨B, 0, none⟩), .slice bo ops.length co] w (Did w B fm ds fd (runS (x, ms) ops)) := by
 have HK := hidden (fun j : Nat => runS_keeps (q := (x, ms)) hM hf (ops.take j))
 have HF := hidden (fun j k : Nat => runS_flag (x, ms) (ops.take j) k)
 have H0 := hidden h
 have hlo := ho.lt
 have hmx := (row_length ho.rd).2
 have HO := hidden ho
 have HD := hidden hdis
 have HP := hidden hop
 have HN : Hid (x.down = false) := hdn
 have zz := h.lt
 have zm := h.ltm.1
 clear h ho hdis hop hdn
 have hS : ∀ wr fm1, Moved B fm w fm1 wr -> Turned (B :: fm) w wr /\ ∀ b ∈ fm1, b ∈ fm ∨ w.heap.size <= b := fun _ _ h => h
 go_enter Tryz.func116, Tryz.ntmps116
 go_wp2
 go_loopw [8] (fun i wr => ∃ (j : Nat) (fm1 : List Nat), j <= ops.length /\ i = .int .i64 j /\ (runS (x, ms) (ops.take j)).1.down = false /\ ArrAt wr B (runS (x, ms) (ops.take j)).1 (runS (x, ms) (ops.take j)).2 ds fm1 fd /\ Moved B fm w fm1 wr) (fun i _ => ops.length - (intOf i).toNat)
 case atStart => exact ⟨0, fm, Nat.zero_le _, rfl, HN.out, H0.out, Moved.refl _ _ _⟩
 case round =>
  obtain ⟨j, fm1, hj, rfl, hdj, hA, hMv⟩ := hrel
  obtain ⟨hMj, hsj, hlj⟩ := HK.out j
  have hfj := hsj.2.2.2.2.2.2.2.2.2.1
  by_cases hjn : j < ops.length
  . have i2 : (j : Int) < (ops.length : Int) := by omega
    have i1 : (0 : Int) <= (j : Int) := by omega
    have hoj : ops[j]? = some (ops[j]'hjn) := List.getElem?_eq_getElem hjn
    obtain ⟨p1, p2⟩ := HP.out _ (List.mem_of_getElem? hoj)
    generalize ops[j]'hjn = o at hoj p1 p2
    have HS := hidden (runS_next (q := (x, ms)) hoj)
    have HE := hidden (fun h => runS_end (q := (x, ms)) (ops := ops) (j := j + 1) h)
    have hfl := (HF.out j o.1).trans p2
    generalize hst : runS (x, ms) (ops.take j) = st at hA hMj hsj hlj hfj HS hdj hfl
    obtain ⟨y, ns⟩ := st
    dsimp only at hA hMj hsj hlj hfj hdj hfl
    clear hst
    obtain ⟨g, F, cp, fp, rfl, hg, hc, hen, hfp, hrun⟩ := dop_at HO.out hoj
    have hgf : g ∈ fo := by
     obtain ⟨hh, _⟩ := HO.out
     rcases hh with ⟨h1, _⟩ | ⟨b, cap', cur, fps, h1, _, _, _, _, h6, _⟩
     . simp at h1
     . simp at h1; rw [h6, h1.1]; exact List.mem_cons_self
    have hnf : ∀ b ∈ fo, b ∉ (B :: fm) := fun b hb hm => by
     rcases List.mem_cons.1 hm with e | hm
     . exact (HD.out b hb).1 e
     . exact (HD.out b hb).2 hm
    have hcr : wr.cell? ⟨g, j, none⟩ = some (.func (Fn.func F) #[] cp) := (World.cell?_of_block (w := w) (hMv.1.block g hg (hnf g hgf))).trans hc
    have MV := hidden hMv
    have HA := hidden hA
    have HR := hidden hrun
    have HFP := hidden hfp
    have HNF := hidden hnf
    clear hA hMv hrun hfp hnf hc
    go_wp2_with fail
    refine (burn_any _ B y ns ds fm1 fd HA.out hfj hdj).mono ?_
    rintro e w1 ⟨he, hA1, hMv1⟩
    cases hob : opB y
    . have hdd := opX_no hob
      unfold EndOf at he
      rw [if_pos hdd] at he
      subst he
      have hget : ns[o.1]? = some (ns.getD o.1 memZ) := by rw [List.getD_eq_getElem?_getD, List.getElem?_eq_getElem (by omega)]; rfl
      have HV : Hid (runS (x, ms) ops = (opX y, ns)) := by
       have h9 : runS (x, ms) (ops.take (j + 1)) = (opX y, ns) := HS.out.trans (doS_no hget hfl hob)
       exact (HE.out (by rw [h9]; exact hdd)).trans h9
      have HD2 : Hid (Did w B fm ds fd (runS (x, ms) ops) (.panicked goneC) w1) := by
       unfold Hid Did
       rw [HV.out]
       exact ⟨EndOf.gone hdd, fm1, hA1, MV.out.trans hMv1⟩
      clear hA1 hMv1
      go_wp2
      exact ⟨rfl, HD2.out⟩
    . have hdd := opX_yes hob
      unfold EndOf at he
      rw [if_neg (by simp [hdd])] at he
      subst he
      have hget : ns[o.1]? = some (ns.getD o.1 memZ) := by rw [List.getD_eq_getElem?_getD, List.getElem?_eq_getElem (by omega)]; rfl
      have HV : Hid (runS (x, ms) (ops.take (j + 1)) = (opX y, ns.set o.1 (opF o (opX y) (ns.getD o.1 memZ)))) := by
       refine HS.out.trans ((doS_yes hget hfl hob).trans ?_)
       rw [opF_opX]
      have MV1 := hidden (MV.out.trans hMv1)
      have hsz := MV1.out.size
      have R1 := HR.out w1 (fun b hb => MV1.out.1.block b (hlo b (HFP.out b hb)) (HNF.out b (HFP.out b hb))) hsz (opX y) ns ds fm1 fd hA1 hMj (fun b hb => ⟨(HD.out b (HFP.out b hb)).1, fun hm => by
       rcases MV.out.2 b hm with h1 | h1
       . exact (HD.out b (HFP.out b hb)).2 h1
       . have := hlo b (HFP.out b hb); omega⟩) (by omega)
      have RH := hidden R1
      clear hA1 hMv1 R1
      have hcf : ∀ w : World, Sem.run Tryz.prog (callFunc F cp) w = .ok (.enter F cp) w := hen
      go_wp2_with fail
      refine RH.out.mono ?_
      rintro e w2 ⟨rfl, fm2, hA2, hMv2⟩
      have HB := hidden (MV1.out.trans hMv2)
      have HA2 := hidden hA2
      clear hA2 hMv2 hcr
      go_wp2
      go_roundw
      case rel => exact ⟨j + 1, fm2, by omega, by go_num, by rw [HV.out]; exact hdd, by rw [HV.out]; exact HA2.out, HB.out⟩
      case measure => simp [intOf]; omega
  . have ej : j = ops.length := by omega
    have i2 : ¬ (j : Int) < (ops.length : Int) := by omega
    subst ej
    rw [List.take_length] at hA hdj
    have HD2 : Hid (Did w B fm ds fd (runS (x, ms) ops) (.returned (.tuple #[])) wr) := ⟨EndOf.fine hdj, fm1, hA, hMv⟩
    clear hA hMv
    go_wp2
    refine bodyPost_end (v := .tuple #[]) (results_none rfl _ _ _) rfl ?_
    exact HD2.out

def Late (P : Program) (ops : Array Oper) (Q : Exit -> Act -> World -> Prop) (S : World -> Prop) (k : Nat) : Nat -> Array Bool -> Act -> World -> Prop
 | 0, l, a, w => Region.ready .any ops l = [] /\ Q .normal a w
 | n + 1, l, a, w => (Region.ready .any ops l = [] -> Q .normal a w) /\ ∀ j ∈ Region.ready .any ops l, wpOp P ops Q j (fun a' w' => (j ≠ k -> l.getD k true = false -> S w') /\ Late P ops Q S k n (l.setIfInBounds j true) a' w') a w

section
variable {P : Program} {ops : Array Oper} {Q : Exit -> Act -> World -> Prop} {S : World -> Prop} {k : Nat}

theorem Late.any : ∀ (n : Nat) (l : Array Bool) (a : Act) (w : World), Late P ops Q S k n l a w -> wpAny P .any ops Q n l a w
 | 0, _, _, _, h => h
 | n + 1, _, _, _, h => ⟨h.1, fun j hj => wpOp_mono (fun a' w' h' => Late.any n _ a' w' h'.2) (h.2 j hj)⟩

theorem Late.start {id : Nat} {a : Act} {w : World} (hm : P.follows .mixedOrders = true) (h : Late P ops Q S k ops.size (Array.replicate ops.size false) a w.drew) : (Code.region id ops true).wp P Q a w :=
 wp_region_any hm (Late.any _ _ _ _ h)

theorem Late.first {i : Nat} {oi ok : Oper} {v : Value} (hi : ops[i]? = some oi) (hk : ops[k]? = some ok) (hki : ∃ e ∈ ok.after, Region.binds .any e = true /\ e.on = i)
 (hsel : ∀ (j : Nat) (o : Oper) cs b, ops[j]? = some o -> o.op ≠ .select cs b) (hQ : ∀ c a w, Q (.panic c) (a.put oi.dst v) w -> Q (.panic c) a w) (n : Nat) :
 ∀ (l : Array Bool) (a : Act) (w : World),
  (∀ j oj, ops[j]? = some oj -> j ≠ i -> l.getD j true = false -> (∀ e ∈ oj.after, Region.binds .any e = true -> e.on ≠ i) -> oi.apart ops oj = true) ->
  l.getD k true = false -> i ∈ Region.ready .any ops l -> YieldsIf P ops S oi v a -> S w -> Late P ops Q S k n (l.setIfInBounds i true) (a.put oi.dst v) w -> Late P ops Q S k (n + 1) l a w := by
 induction n with
 | zero =>
  intro l a w _ hkl hr hy hS H
  constructor
  . intro h
    rw [h] at hr
    simp at hr
  . intro j hj
    by_cases hji : j = i
    . rw [hji]
      exact hy.wpOp hi hS ⟨fun _ _ => hS, H⟩
    . have h2 := ready_mono (i := i) hj hji
      rw [H.1] at h2
      simp at h2
 | succ n ih =>
  intro l a w hfree hkl hr hy hS H
  constructor
  . intro h
    rw [h] at hr
    simp at hr
  . intro j hj
    by_cases hji : j = i
    . rw [hji]
      exact hy.wpOp hi hS ⟨fun _ _ => hS, H⟩
    . obtain ⟨hju, oj, hoj, hall⟩ := mem_ready.1 hj
      have hiu := (mem_ready.1 hr).1
      have hno : ∀ e ∈ oj.after, Region.binds .any e = true -> e.on ≠ i := fun e he hb hon => unlisted hiu (hon ▸ hall e he hb)
      have hjk : j ≠ k := by
       intro hjk
       rw [hjk, hk] at hoj
       obtain ⟨e, he, hb, hon⟩ := hki
       cases hoj
       exact hno e he hb hon
      have h1 := H.2 j (ready_mono hj hji)
      have h2 := wpOp_putIf hoj (hfree j oj hoj hji hju hno) (fun cs b => hsel i oi cs b hi) (fun cs b => hsel j oj cs b hoj) hQ hy h1
      refine wpOp_mono ?_ h2
      intro a' w' h3
      have hik : i ≠ k := by
       intro hik
       obtain ⟨_, ok', hok', hall'⟩ := mem_ready.1 hr
       rw [hik, hk] at hok'
       obtain ⟨e, he, hb, hon⟩ := hki
       cases hok'
       exact unlisted hiu (hon ▸ hall' e he hb)
      have hS' := h3.2.1 hjk (by rw [getD_set_ne true hik]; exact hkl)
      refine ⟨fun _ _ => hS', ih _ a' w' ?_ (by rw [getD_set_ne true hjk]; exact hkl) (ready_mono hr (Ne.symm hji)) h3.1 hS' ?_⟩
      . intro m om hm hmi hun hnm
        refine hfree m om hm hmi ?_ hnm
        by_cases hjm : j = m
        . rw [← hjm]
          exact hju
        . rw [getD_set_ne true hjm] at hun
          exact hun
      . rw [Array.setIfInBounds_comm _ _ hji]
        exact h3.2.2

theorem Late.take {i : Nat} {oi : Oper} {v : Value} {n : Nat} {l : Array Bool} {a : Act} {w : World} {tl : List Oper} (hi' : ops.toList.drop i = oi :: tl)
 (hki : ((ops[k]?).map fun o => o.after.any fun e => Region.binds .any e && e.on == i) = some true) (hs : Region.noSelect ops = true) (hf : Region.free .any ops l i = true) (hr : (Region.ready .any ops l).contains i = true)
 (hQ : ∀ c a w, Q (.panic c) (a.put oi.dst v) w -> Q (.panic c) a w) (hy : YieldsIf P ops S oi v a) (hS : S w) (h : Late P ops Q S k n (l.setIfInBounds i true) (a.put oi.dst v) w) (hkl : l.getD k true = false := by kernel_rfl) : Late P ops Q S k (n + 1) l a w := by
 have hi := op_at hi'
 cases hk : ops[k]? with
 | none => rw [hk] at hki; cases hki
 | some ok =>
  rw [hk] at hki
  simp only [Option.map_some, Option.some.injEq, Array.any_eq_true', Bool.and_eq_true, beq_iff_eq] at hki
  exact Late.first hi hk hki (Region.noSelect_spec hs) hQ n l a w (Region.free_spec hi hf) hkl (by simpa using hr) hy hS h

theorem Late.one {i : Nat} {o : Oper} {n : Nat} {l : Array Bool} {a : Act} {w : World} {tl : List Oper} (hr : Region.ready .any ops l = [i]) (ho : ops.toList.drop i = o :: tl)
 (h : ∀ K' : Act -> World -> Prop, Shut (∀ a w, (i ≠ k -> S w) -> Late P ops Q S k n (l.setIfInBounds i true) a w -> K' a w) -> if Region.wanted o (yielded ops a.tmps) = true then Oper.wp P o a w K' Q else K' (a.put o.dst undef) w) : Late P ops Q S k (n + 1) l a w := by
 constructor
 . intro h0
   rw [hr] at h0
   simp at h0
 . intro j hj
   rw [hr] at hj
   simp at hj
   rw [hj]
   exact wpOp_step (op_at ho) (fun K' hK => h K' (fun a w hS hW => hK a w ⟨fun h _ => hS h, hW⟩))

theorem Late.late {i : Nat} {o : Oper} {n : Nat} {l : Array Bool} {a : Act} {w : World} {tl : List Oper} (hr : Region.ready .any ops l = [i]) (ho : ops.toList.drop i = o :: tl) (hl : l.getD k true = true)
 (h : ∀ K' : Act -> World -> Prop, Shut (∀ a w, Late P ops Q S k n (l.setIfInBounds i true) a w -> K' a w) -> if Region.wanted o (yielded ops a.tmps) = true then Oper.wp P o a w K' Q else K' (a.put o.dst undef) w) : Late P ops Q S k (n + 1) l a w := by
 constructor
 . intro h0
   rw [hr] at h0
   simp at h0
 . intro j hj
   rw [hr] at hj
   simp at hj
   rw [hj]
   exact wpOp_step (op_at ho) (fun K' hK => h K' (fun a w hW => hK a w ⟨fun _ h0 => (by rw [hl] at h0; cases h0), hW⟩))

theorem Late.two {i i' : Nat} {o o' : Oper} {n : Nat} {l : Array Bool} {a : Act} {w : World} {tl tl' : List Oper} (hr : Region.ready .any ops l = [i, i']) (ho : ops.toList.drop i = o :: tl) (ho' : ops.toList.drop i' = o' :: tl')
 (h : ∀ K' : Act -> World -> Prop, Shut (∀ a w, (i ≠ k -> S w) -> Late P ops Q S k n (l.setIfInBounds i true) a w -> K' a w) -> if Region.wanted o (yielded ops a.tmps) = true then Oper.wp P o a w K' Q else K' (a.put o.dst undef) w)
 (h' : ∀ K' : Act -> World -> Prop, Shut (∀ a w, (i' ≠ k -> S w) -> Late P ops Q S k n (l.setIfInBounds i' true) a w -> K' a w) -> if Region.wanted o' (yielded ops a.tmps) = true then Oper.wp P o' a w K' Q else K' (a.put o'.dst undef) w) : Late P ops Q S k (n + 1) l a w := by
 constructor
 . intro h0
   rw [hr] at h0
   simp at h0
 . intro j hj
   rw [hr] at hj
   simp only [List.mem_cons, List.not_mem_nil, or_false] at hj
   rcases hj with hj | hj
   . rw [hj]
     exact wpOp_step (op_at ho) (fun K' hK => h K' (fun a w hS hW => hK a w ⟨fun h _ => hS h, hW⟩))
   . rw [hj]
     exact wpOp_step (op_at ho') (fun K' hK => h' K' (fun a w hS hW => hK a w ⟨fun h _ => hS h, hW⟩))

theorem Late.done {l : Array Bool} {a : Act} {w : World} (hr : Region.ready .any ops l = []) (h : Q .normal a w) : ∀ n, Late P ops Q S k n l a w
 | 0 => ⟨hr, h⟩
 | _ + 1 => ⟨fun _ => h, by rw [hr]; simp⟩

end

theorem writeOp1_runs (w : World) (B p q y u m : Nat) (n : Int) (a5 : Option Addr) (c5 : Nat) (sw : List Int) (fs : List Nat) (hp : Box w p 72 #[.pointer (some ⟨B, 0, none⟩)]) (hq : Box w q 3 #[.int .i64 (m : Int)]) (hy : Box w y 3 #[.int .i64 n]) (hu : Box w u 30 #[.slice a5 sw.length c5]) (h5 : tIntS.Mine w [.slice a5 sw.length c5] sw fs) (hl5 : sw.length <= 2097152) : OpRuns B (p :: q :: y :: u :: fs) 219 #[.pointer (some ⟨p, 0, none⟩), .pointer (some ⟨q, 0, none⟩), .pointer (some ⟨y, 0, none⟩), .pointer (some ⟨u, 0, none⟩)] (wrK n sw m) w := by
 intro x ms ds fm fd hA hM hdis hlt
 dsimp only [wrK] at hlt
 obtain ⟨bm, bd, cm, cd, X, hmm, hdd, hr, r1, r2⟩ := hA
 have hm63 := (row_length hmm.rd).2
 obtain ⟨g, rfl⟩ := row_head hmm (by omega)
 have hdj : ms[m]? = some (ms[m]'(by omega)) := List.getElem?_eq_getElem (by omega)
 generalize ms[m]'(by omega) = d at hdj
 have hgm : ms.getD m memZ = d := getD_at hdj
 obtain ⟨hgl, a0, a1, a3, c0, c1, c3, ss, cs, f, bs, rfl, q0, q1, q2, q3, p0, p1, p3⟩ := disk_at hmm hdj
 have X0 := X
 unfold arrC at X0
 obtain ⟨k0, k1, k2, k3, k4, k5, k6, k7, k8, k9, k10, k11, k12⟩ := X0.cells13
 have zp := hp.lt
 have cp := hp.cell 0
 have zq := hq.lt
 have cq := hq.cell 0
 have zy := hy.lt
 have cy := hy.cell 0
 have zu := hu.lt
 have cu := hu.cell 0
 have hwt := memB_light (hM m _ hdj) f
 dsimp only at hwt
 have zB := X.lt
 have p5 := h5.rd
 have XH := hidden X
 have MH := hidden hmm
 have DH := hidden hdd
 have R0 := hidden p0
 have R1 := hidden p1
 have R3 := hidden p3
 have R5 := hidden p5
 have HG := hidden hgm
 have hS : w.drew.cell? ⟨p, 0, none⟩ = some (.pointer (some ⟨B, 0, none⟩)) /\ w.drew.cell? ⟨q, 0, none⟩ = some (.int .i64 (m : Int)) /\ w.drew.cell? ⟨y, 0, none⟩ = some (.int .i64 n) /\ w.drew.cell? ⟨u, 0, none⟩ = some (.slice a5 sw.length c5) /\ w.drew.cell? ⟨B, 3, none⟩ = some (.slice (some ⟨g, 0, none⟩) ms.length cm) /\ w.drew.cell? ⟨g, m * 4, none⟩ = some (.slice a0 ss.length c0) /\ w.drew.cell? ⟨g, m * 4 + 1, none⟩ = some (.slice a1 cs.length c1) /\ w.drew.cell? ⟨g, m * 4 + 2, none⟩ = some (.bool f) /\ w.drew.cell? ⟨g, m * 4 + 3, none⟩ = some (.slice a3 bs.length c3) := ⟨cp, cq, cy, cu, k3, q0, q1, q2, q3⟩
 have i1 : (0 : Int) <= (m : Int) := by omega
 have i3 : (m : Int) < (ms.length : Int) := by omega
 clear X X0 hmm hdd p0 p1 p3 p5 h5 hM hdj hgm hdis
 go_enter Tryz.func219, Tryz.ntmps219
 go_wp2_with fail
 refine Late.start (S := fun w' => w'.cell? ⟨p, 0, none⟩ = some (.pointer (some ⟨B, 0, none⟩)) /\ w'.cell? ⟨q, 0, none⟩ = some (.int .i64 (m : Int)) /\ w'.cell? ⟨y, 0, none⟩ = some (.int .i64 n) /\ w'.cell? ⟨u, 0, none⟩ = some (.slice a5 sw.length c5) /\ w'.cell? ⟨B, 3, none⟩ = some (.slice (some ⟨g, 0, none⟩) ms.length cm) /\ w'.cell? ⟨g, m * 4, none⟩ = some (.slice a0 ss.length c0) /\ w'.cell? ⟨g, m * 4 + 1, none⟩ = some (.slice a1 cs.length c1) /\ w'.cell? ⟨g, m * 4 + 2, none⟩ = some (.bool f) /\ w'.cell? ⟨g, m * 4 + 3, none⟩ = some (.slice a3 bs.length c3)) (k := 19) (by kernel_rfl) ?_
 refine Late.take (i := 0) (v := ?_) rfl (by kernel_rfl) (by kernel_rfl) (by kernel_rfl) (by kernel_rfl) (fun _ _ _ h => h) (Or.inl ⟨by rfl, ?_⟩) hS ?_
 rotate_left 1
 . (intro w hSw; (try dsimp only at hSw); go_split_ands; go_simp; first | done | with_reducible rfl)
 simp only [Act.put, List.setIfInBounds_toArray, List.set_cons_zero, List.set_cons_succ]
 refine Late.take (i := 1) (v := ?_) rfl (by kernel_rfl) (by kernel_rfl) (by kernel_rfl) (by kernel_rfl) (fun _ _ _ h => h) (Or.inl ⟨by rfl, ?_⟩) hS ?_
 rotate_left 1
 . (intro w hSw; (try dsimp only at hSw); go_split_ands; go_simp; first | done | with_reducible rfl)
 simp only [Act.put, List.setIfInBounds_toArray, List.set_cons_zero, List.set_cons_succ]
 refine Late.take (i := 2) (v := ?_) rfl (by kernel_rfl) (by kernel_rfl) (by kernel_rfl) (by kernel_rfl) (fun _ _ _ h => h) (Or.inl ⟨by rfl, ?_⟩) hS ?_
 rotate_left 1
 . (intro w hSw; (try dsimp only at hSw); go_split_ands; go_simp; first | done | with_reducible rfl)
 simp only [Act.put, List.setIfInBounds_toArray, List.set_cons_zero, List.set_cons_succ]
 refine Late.take (i := 3) (v := ?_) rfl (by kernel_rfl) (by kernel_rfl) (by kernel_rfl) (by kernel_rfl) (fun _ _ _ h => h) (Or.inl ⟨by rfl, ?_⟩) hS ?_
 rotate_left 1
 . (intro w hSw; (try dsimp only at hSw); go_split_ands; go_simp; first | done | with_reducible rfl)
 simp only [Act.put, List.setIfInBounds_toArray, List.set_cons_zero, List.set_cons_succ]
 refine Late.take (i := 4) (v := ?_) rfl (by kernel_rfl) (by kernel_rfl) (by kernel_rfl) (by kernel_rfl) (fun _ _ _ h => h) (Or.inl ⟨by rfl, ?_⟩) hS ?_
 rotate_left 1
 . (intro w hSw; (try dsimp only at hSw); go_split_ands; go_simp; first | done | with_reducible rfl)
 simp only [Act.put, List.setIfInBounds_toArray, List.set_cons_zero, List.set_cons_succ]
 refine Late.take (i := 5) (v := ?_) rfl (by kernel_rfl) (by kernel_rfl) (by kernel_rfl) (by kernel_rfl) (fun _ _ _ h => h) (Or.inl ⟨by rfl, ?_⟩) hS ?_
 rotate_left 1
 . (intro w hSw; (try dsimp only at hSw); go_split_ands; go_simp; first | done | with_reducible rfl)
 simp only [Act.put, List.setIfInBounds_toArray, List.set_cons_zero, List.set_cons_succ]
 refine Late.take (i := 6) (v := ?_) rfl (by kernel_rfl) (by kernel_rfl) (by kernel_rfl) (by kernel_rfl) (fun _ _ _ h => h) (Or.inl ⟨by rfl, ?_⟩) hS ?_
 rotate_left 1
 . (intro w hSw; (try dsimp only at hSw); go_split_ands; go_simp; first | done | with_reducible rfl)
 simp only [Act.put, List.setIfInBounds_toArray, List.set_cons_zero, List.set_cons_succ]
 refine Late.take (i := 7) (v := ?_) rfl (by kernel_rfl) (by kernel_rfl) (by kernel_rfl) (by kernel_rfl) (fun _ _ _ h => h) (Or.inl ⟨by rfl, ?_⟩) hS ?_
 rotate_left 1
 . (intro w hSw; (try dsimp only at hSw); go_split_ands; go_simp; first | done | with_reducible rfl)
 simp only [Act.put, List.setIfInBounds_toArray, List.set_cons_zero, List.set_cons_succ]
 refine Late.take (i := 8) (v := ?_) rfl (by kernel_rfl) (by kernel_rfl) (by kernel_rfl) (by kernel_rfl) (fun _ _ _ h => h) (Or.inl ⟨by rfl, ?_⟩) hS ?_
 rotate_left 1
 . (intro w hSw; (try dsimp only at hSw); go_split_ands; go_simp; first | done | with_reducible rfl)
 simp only [Act.put, List.setIfInBounds_toArray, List.set_cons_zero, List.set_cons_succ]
 refine Late.take (i := 9) (v := ?_) rfl (by kernel_rfl) (by kernel_rfl) (by kernel_rfl) (by kernel_rfl) (fun _ _ _ h => h) (Or.inl ⟨by rfl, ?_⟩) hS ?_
 rotate_left 1
 . (intro w hSw; (try dsimp only at hSw); go_split_ands; go_simp; first | done | with_reducible rfl)
 simp only [Act.put, List.setIfInBounds_toArray, List.set_cons_zero, List.set_cons_succ]
 refine Late.take (i := 10) (v := ?_) rfl (by kernel_rfl) (by kernel_rfl) (by kernel_rfl) (by kernel_rfl) (fun _ _ _ h => h) (Or.inl ⟨by rfl, ?_⟩) hS ?_
 rotate_left 1
 . (intro w hSw; (try dsimp only at hSw); go_split_ands; go_simp; first | done | with_reducible rfl)
 simp only [Act.put, List.setIfInBounds_toArray, List.set_cons_zero, List.set_cons_succ]
 refine Late.take (i := 11) (v := ?_) rfl (by kernel_rfl) (by kernel_rfl) (by kernel_rfl) (by kernel_rfl) (fun _ _ _ h => h) (Or.inl ⟨by rfl, ?_⟩) hS ?_
 rotate_left 1
 . (intro w hSw; (try dsimp only at hSw); go_split_ands; go_simp; first | done | with_reducible rfl)
 simp only [Act.put, List.setIfInBounds_toArray, List.set_cons_zero, List.set_cons_succ]
 refine Late.take (i := 12) (v := ?_) rfl (by kernel_rfl) (by kernel_rfl) (by kernel_rfl) (by kernel_rfl) (fun _ _ _ h => h) (Or.inl ⟨by rfl, ?_⟩) hS ?_
 rotate_left 1
 . (intro w hSw; (try dsimp only at hSw); go_split_ands; go_simp; first | done | with_reducible rfl)
 simp only [Act.put, List.setIfInBounds_toArray, List.set_cons_zero, List.set_cons_succ]
 refine Late.take (i := 13) (v := ?_) rfl (by kernel_rfl) (by kernel_rfl) (by kernel_rfl) (by kernel_rfl) (fun _ _ _ h => h) (Or.inl ⟨by rfl, ?_⟩) hS ?_
 rotate_left 1
 . (intro w hSw; (try dsimp only at hSw); go_split_ands; go_simp; first | done | with_reducible rfl)
 simp only [Act.put, List.setIfInBounds_toArray, List.set_cons_zero, List.set_cons_succ]
 refine Late.one (i := 14) (by kernel_rfl) rfl (fun K hK => ?_)
 go_simp
 refine (implWriteSec_any _ 159 _ _ _ _ _ _ _ _ _ _ _ _ ss cs f bs n sw R0.out.drew R1.out.drew R3.out.drew R5.out.drew (by omega) (by omega)).mono ?_
 rintro e w2 ⟨u0, u1, u3, rfl, o2, b2'⟩
 have b2 : Below w.heap.size w w2 := (Below.refl w.heap.size w).drew.trans b2'
 have o2b : (tMem 159).Own w2 w.heap.size w2.heap.size [u0, u1, .bool f, u3] _ := o2
 obtain ⟨d0, l0, f0, d1, l1, f1, d3, l3, f3, hv0, hv1, hv3⟩ := mem_slices o2b
 subst hv0 hv1 hv3
 obtain ⟨fpx, mx, rx⟩ := o2b.mine
 obtain ⟨cOld, fz, hgm, fm9, hA9, hMv9⟩ := arr_store (m := m) XH.out MH.out DH.out hr r1 r2 b2 (by omega) mx (fun b hb => (rx b hb).1)
 obtain ⟨o0, t0⟩ := cOld 0 (by omega)
 obtain ⟨o1, t1⟩ := cOld 1 (by omega)
 obtain ⟨o2', t2⟩ := cOld 2 (by omega)
 obtain ⟨o3, t3⟩ := cOld 3 (by omega)
 rw [Nat.add_zero] at t0
 have HA := hidden hA9
 have HMV := hidden hMv9
 have hS2 : w2.cell? ⟨p, 0, none⟩ = some (.pointer (some ⟨B, 0, none⟩)) /\ w2.cell? ⟨q, 0, none⟩ = some (.int .i64 (m : Int)) /\ w2.cell? ⟨y, 0, none⟩ = some (.int .i64 n) /\ w2.cell? ⟨u, 0, none⟩ = some (.slice a5 sw.length c5) /\ w2.cell? ⟨B, 3, none⟩ = some (.slice (some ⟨g, 0, none⟩) ms.length cm) /\ w2.cell? ⟨g, m * 4, none⟩ = some (.slice a0 ss.length c0) /\ w2.cell? ⟨g, m * 4 + 1, none⟩ = some (.slice a1 cs.length c1) /\ w2.cell? ⟨g, m * 4 + 2, none⟩ = some (.bool f) /\ w2.cell? ⟨g, m * 4 + 3, none⟩ = some (.slice a3 bs.length c3) := ⟨(b2.cell (p := ⟨p, 0, none⟩) zp).trans cp, (b2.cell (p := ⟨q, 0, none⟩) zq).trans cq, (b2.cell (p := ⟨y, 0, none⟩) zy).trans cy, (b2.cell (p := ⟨u, 0, none⟩) zu).trans cu, (b2.cell (p := ⟨B, 3, none⟩) zB).trans k3, (b2.cell (p := ⟨g, m * 4, none⟩) hgl).trans q0, (b2.cell (p := ⟨g, m * 4 + 1, none⟩) hgl).trans q1, (b2.cell (p := ⟨g, m * 4 + 2, none⟩) hgl).trans q2, (b2.cell (p := ⟨g, m * 4 + 3, none⟩) hgl).trans q3⟩
 have gB : ¬ g = B := fun e => r1 (e ▸ hgm)
 unfold put4 at HA HMV
 have HF : Hid (∀ W, ArrAt W B x (ms.set m (wrM (ss, cs, f, bs) n sw)) ds fm9 fd -> Moved B fm w fm9 W -> (Ending.returned (Value.tuple #[]) = .returned (.tuple #[]) /\ ∃ fm', ArrAt W B x (ms.set (wrK n sw m).1 (opF (wrK n sw m) x (ms.getD (wrK n sw m).1 memZ))) ds fm' fd /\ Moved B fm w fm' W)) := fun W h1 h2 => ⟨rfl, fm9, by show ArrAt W B x (ms.set m (opF (wrK n sw m) x (ms.getD m memZ))) ds fm9 fd; rw [HG.out]; exact h1, h2⟩
 clear cp cq cy cu k3 q0 q1 q2 q3 o2 o2b b2 b2' mx rx cOld hA9 hMv9 XH MH DH R0 R1 R3 R5 hwt HG
 go_wp2_with fail
 refine hK.out _ _ (fun _ => hS2) ?_
 clear hK K
 refine Late.take (i := 15) (v := ?_) rfl (by kernel_rfl) (by kernel_rfl) (by kernel_rfl) (by kernel_rfl) (fun _ _ _ h => h) (Or.inl ⟨by rfl, ?_⟩) hS2 ?_
 rotate_left 1
 . (intro w hSw; (try dsimp only at hSw); go_split_ands; go_simp; first | done | with_reducible rfl)
 simp only [Act.put, List.setIfInBounds_toArray, List.set_cons_zero, List.set_cons_succ]
 refine Late.take (i := 16) (v := ?_) rfl (by kernel_rfl) (by kernel_rfl) (by kernel_rfl) (by kernel_rfl) (fun _ _ _ h => h) (Or.inl ⟨by rfl, ?_⟩) hS2 ?_
 rotate_left 1
 . (intro w hSw; (try dsimp only at hSw); go_split_ands; go_simp; first | done | with_reducible rfl)
 simp only [Act.put, List.setIfInBounds_toArray, List.set_cons_zero, List.set_cons_succ]
 refine Late.take (i := 18) (v := ?_) rfl (by kernel_rfl) (by kernel_rfl) (by kernel_rfl) (by kernel_rfl) (fun _ _ _ h => h) (Or.inl ⟨by rfl, ?_⟩) hS2 ?_
 rotate_left 1
 . (intro w hSw; (try dsimp only at hSw); go_split_ands; go_simp; first | done | with_reducible rfl)
 simp only [Act.put, List.setIfInBounds_toArray, List.set_cons_zero, List.set_cons_succ]
 refine Late.two (i := 17) (i' := 19) (by kernel_rfl) rfl rfl (fun K hK => ?_) (fun K hK => ?_)
 . go_simp
   refine hK.out _ _ (fun _ => hS2) ?_
   clear hK K
   refine Late.one (i := 19) (by kernel_rfl) rfl (fun K hK => ?_)
   go_simp
   refine hK.out _ _ (fun h => absurd rfl h) ?_
   clear hK K
   refine Late.done (by kernel_rfl) ?_ _
   clear hS hS2 t0 t1 t2 t3 fz
   go_wp2
   refine bodyPost_end (v := .tuple #[]) (results_none rfl _ _ _) rfl ?_
   exact ⟨rfl, (HF.out _ HA.out HMV.out).2⟩
 . go_simp
   refine hK.out _ _ (fun h => absurd rfl h) ?_
   clear hK K
   refine Late.late (i := 17) (by kernel_rfl) rfl (by kernel_rfl) (fun K hK => ?_)
   go_simp
   refine hK.out _ _ ?_
   clear hK K
   refine Late.done (by kernel_rfl) ?_ _
   clear hS hS2 t0 t1 t2 t3 fz
   go_wp2
   refine bodyPost_end (v := .tuple #[]) (results_none rfl _ _ _) rfl ?_
   exact ⟨rfl, (HF.out _ HA.out HMV.out).2⟩

theorem writeOp_any (w : World) (B m : Nat) (n : Int) (a5 : Option Addr) (c5 : Nat) (sw : List Int) (fs : List Nat) (h5 : tIntS.Mine w [.slice a5 sw.length c5] sw fs) (hl5 : sw.length <= 2097152) : Calls Tryz.prog 172 #[.pointer (some ⟨B, 0, none⟩), .int .i64 (m : Int), .int .i64 n, .slice a5 sw.length c5] w fun e w' => ∃ v fp, e = .returned v /\ (opTy B).Mine w' [v] (wrK n sw m) fp /\ (∀ b ∈ fp, b ∈ fs ∨ (w.heap.size <= b /\ b < w'.heap.size)) /\ Below w.heap.size w w' := by
 have hmf : ∀ (fn : Fn) (first cap : Array Value) (w : World), (Instr.makeFunc fn first cap).run Tryz.prog w = .ok (.func fn first cap) w := fun _ _ _ _ => rfl
 have hb : Below w.heap.size w ((((w.alloc (.cells #[.pointer (some ⟨B, 0, none⟩)] 72)).alloc (.cells #[.int .i64 (m : Int)] 3)).alloc (.cells #[.int .i64 n] 3)).alloc (.cells #[.slice a5 sw.length c5] 30)) := ((((Below.refl _ _).alloc (Nat.le_refl _) _).alloc (by simp) _).alloc (by simp; omega) _).alloc (by simp; omega) _
 have zz : ∀ v : World, ∀ ob : Obj, (v.alloc ob).heap.size = v.heap.size + 1 := fun v ob => by simp
 have b0 := Box.new w 72 #[.pointer (some ⟨B, 0, none⟩)]
 replace b0 := b0.alloc (.cells #[.int .i64 (m : Int)] 3)
 replace b0 := b0.alloc (.cells #[.int .i64 n] 3)
 replace b0 := b0.alloc (.cells #[.slice a5 sw.length c5] 30)
 have b1 := Box.new (w.alloc (.cells #[.pointer (some ⟨B, 0, none⟩)] 72)) 3 #[.int .i64 (m : Int)]
 rw [zz] at b1
 replace b1 := b1.alloc (.cells #[.int .i64 n] 3)
 replace b1 := b1.alloc (.cells #[.slice a5 sw.length c5] 30)
 have b2 := Box.new ((w.alloc (.cells #[.pointer (some ⟨B, 0, none⟩)] 72)).alloc (.cells #[.int .i64 (m : Int)] 3)) 3 #[.int .i64 n]
 rw [zz, zz] at b2
 replace b2 := b2.alloc (.cells #[.slice a5 sw.length c5] 30)
 have b3 := Box.new (((w.alloc (.cells #[.pointer (some ⟨B, 0, none⟩)] 72)).alloc (.cells #[.int .i64 (m : Int)] 3)).alloc (.cells #[.int .i64 n] 3)) 30 #[.slice a5 sw.length c5]
 rw [zz, zz, zz] at b3
 have hsz : ((((w.alloc (.cells #[.pointer (some ⟨B, 0, none⟩)] 72)).alloc (.cells #[.int .i64 (m : Int)] 3)).alloc (.cells #[.int .i64 n] 3)).alloc (.cells #[.slice a5 sw.length c5] 30)).heap.size = w.heap.size + 1 + 1 + 1 + 1 := by simp
 have hlt := h5.lt
 have h5w : tIntS.Mine ((((w.alloc (.cells #[.pointer (some ⟨B, 0, none⟩)] 72)).alloc (.cells #[.int .i64 (m : Int)] 3)).alloc (.cells #[.int .i64 n] 3)).alloc (.cells #[.slice a5 sw.length c5] 30)) [.slice a5 sw.length c5] sw fs := h5.below hb
 have HO : Hid ((opTy B).Mine ((((w.alloc (.cells #[.pointer (some ⟨B, 0, none⟩)] 72)).alloc (.cells #[.int .i64 (m : Int)] 3)).alloc (.cells #[.int .i64 n] 3)).alloc (.cells #[.slice a5 sw.length c5] 30)) [.func (Fn.func 219) #[] #[.pointer (some ⟨w.heap.size, 0, none⟩), .pointer (some ⟨w.heap.size + 1, 0, none⟩), .pointer (some ⟨w.heap.size + 1 + 1, 0, none⟩), .pointer (some ⟨w.heap.size + 1 + 1 + 1, 0, none⟩)]] (wrK n sw m) ((w.heap.size) :: (w.heap.size + 1) :: (w.heap.size + 1 + 1) :: (w.heap.size + 1 + 1 + 1) :: fs)) := by
  refine ⟨⟨219, _, rfl, enters_of Tryz.func219 (by kernel_rfl) (by kernel_rfl) _, ?_, fun w' hk hs => ?_⟩, ?_⟩
  . intro b hb'
    simp only [List.mem_cons] at hb'
    rcases hb' with h | h | h | h | h
    . omega
    . omega
    . omega
    . omega
    . have := hlt b h; omega
  . exact writeOp1_runs w' B _ _ _ _ m n a5 c5 sw fs (b0.kept (hk _ (by simp))) (b1.kept (hk _ (by simp))) (b2.kept (hk _ (by simp))) (b3.kept (hk _ (by simp))) ⟨tIntS.owKept h5w.1 (fun b hb' => hk b (by simp [hb'])) hs, h5.2⟩ hl5
  . have n0 : ∀ k, w.heap.size <= k -> k ∉ fs := fun k hk hm => by have := hlt k hm; omega
    simp only [List.nodup_cons, List.mem_cons]
    refine ⟨fun h => ?_, fun h => ?_, fun h => ?_, n0 _ (by omega), h5.2⟩
    . rcases h with h | h | h | h
      . omega
      . omega
      . omega
      . exact n0 _ (by omega) h
    . rcases h with h | h | h
      . omega
      . omega
      . exact n0 _ (by omega) h
    . rcases h with h | h
      . omega
      . exact n0 _ (by omega) h
 have HB := hidden hb
 have HFP : Hid (∀ b ∈ ((w.heap.size) :: (w.heap.size + 1) :: (w.heap.size + 1 + 1) :: (w.heap.size + 1 + 1 + 1) :: fs), b ∈ fs ∨ (w.heap.size <= b /\ b < ((((w.alloc (.cells #[.pointer (some ⟨B, 0, none⟩)] 72)).alloc (.cells #[.int .i64 (m : Int)] 3)).alloc (.cells #[.int .i64 n] 3)).alloc (.cells #[.slice a5 sw.length c5] 30)).heap.size)) := by
  intro b hb'
  simp only [List.mem_cons] at hb'
  rcases hb' with h | h | h | h | h
  . exact .inr (by omega)
  . exact .inr (by omega)
  . exact .inr (by omega)
  . exact .inr (by omega)
  . exact .inl h
 clear hb b0 b1 b2 b3 hsz h5w zz
 go_enter Tryz.func172, Tryz.ntmps172
 go_wp2
 go_ret
 exact ⟨_, _, rfl, HO.out, HFP.out, HB.out⟩

theorem Tryz.infoOp : (Tryz.prog.info? 161).map (fun i => (i.zero, i.size, i.bytes)) = some (some .nilFunc, 1, 8) := by kernel_rfl

theorem opsOf_any (w : World) (B : Nat) (x : ArrN) (ms : List MemD) (ds : List (Int × List Int)) (fm fd : List Nat) (h : ArrAt w B x ms ds fm fd) (hl : ms.length <= 2097152) (K : Nat -> DOp) (F : FuncId) (cap : Array Value)
 (hen : ∀ m : Nat, Enters F (#[.int .i64 (m : Int)] ++ cap)) (hop : ∀ (m : Nat) (w' : World), m < ms.length -> Below w.heap.size w w' -> Calls Tryz.prog F (#[.int .i64 (m : Int)] ++ cap) w' fun e w'' => ∃ v, e = .returned v /\ (opTy B).Own w'' w'.heap.size w''.heap.size [v] (K m) /\ Below w'.heap.size w' w'') :
 Calls Tryz.prog 181 #[.pointer (some ⟨B, 0, none⟩), .func (Fn.func F) #[] cap] w fun e w' => ∃ bo co, e = .returned (.slice bo (opsL K ms ms.length).length co) /\ (tOps B).Own w' w.heap.size w'.heap.size [.slice bo (opsL K ms ms.length).length co] (opsL K ms ms.length) /\ Below w.heap.size w w' := by
 obtain ⟨i4, hi4, hz0, hz1, hz2⟩ := info_parts Tryz.infoOp
 obtain ⟨bm, bd, cm, cd, X, hmm, hdd, hr, r1, r2⟩ := h
 have zB := X.lt
 have k3 : w.cell? ⟨B, 3, none⟩ = some (.slice bm ms.length cm) := by
  unfold arrC at X
  exact X.cells13.2.2.2.1
 have hmx := (row_length hmm.rd).2
 have ML := hidden (lit0_mine (t := opTy B) (E := 161) w)
 have HB0 := hidden (new_below w (.cells #[] 161))
 have MM := hidden hmm
 have HOP := hidden hop
 have k3' : (w.alloc (.cells #[] 161)).cell? ⟨B, 3, none⟩ = some (.slice bm ms.length cm) := (HB0.out.cell (p := ⟨B, 3, none⟩) zB).trans k3
 clear hmm hdd X hop
 go_enter Tryz.func181, Tryz.ntmps181
 go_wp2
 go_loopw [5, 14] (fun v i wr => ∃ (j : Nat) (fp : List Nat), j <= ms.length /\ i = .int .i64 j /\ (tOps B).Mine wr [v] (opsL K ms j) fp /\ (∀ b ∈ fp, w.heap.size <= b) /\ Below w.heap.size w wr) (fun _ i _ => ms.length - (intOf i).toNat)
 case atStart => exact ⟨0, [w.heap.size], Nat.zero_le _, rfl, ML.out, by simp, HB0.out⟩
 case round =>
  obtain ⟨j, fp, hj, rfl, hm, hfp, hb⟩ := hrel
  have hs := hb.size
  by_cases hjn : j < ms.length
  . have i2 : (j : Int) < (ms.length : Int) := by omega
    have i1 : (0 : Int) <= (j : Int) := by omega
    obtain ⟨g, rfl⟩ := row_head MM.out (by omega)
    have hdj : ms[j]? = some (ms[j]'(by omega)) := List.getElem?_eq_getElem (by omega)
    generalize ms[j]'(by omega) = d at hdj
    obtain ⟨hgl, a0, a1, a3, c0, c1, c3, ss, cs, f, bs, rfl, q0, q1, q2, q3, _, _, _⟩ := disk_at MM.out hdj
    have p0 := (hb.cell (p := ⟨g, j * 4, none⟩) hgl).trans q0
    have p1 := (hb.cell (p := ⟨g, j * 4 + 1, none⟩) hgl).trans q1
    have p2 := (hb.cell (p := ⟨g, j * 4 + 2, none⟩) hgl).trans q2
    have p3 := (hb.cell (p := ⟨g, j * 4 + 3, none⟩) hgl).trans q3
    have hfl : flagAt ms j = f := by unfold flagAt; rw [getD_at hdj]
    have HL := hidden (opsL_succ K ms j)
    rw [hfl] at HL
    clear q0 q1 q2 q3 hdj hfl
    cases f
    . have HL2 : Hid (opsL K ms (j + 1) = opsL K ms j ++ [K j]) := HL.out
      have hkl := opsL_len K ms j
      have L1 : Hid ((opsL K ms j).length + 1 <= maxLen) := by unfold Hid maxLen; omega
      have L2 : Hid (((opsL K ms j).length + 1) * 8 <= 140737488355328) := by unfold Hid; omega
      have HM := hidden hm
      have HFP := hidden hfp
      have HB := hidden hb
      have hcf : ∀ w : World, Sem.run Tryz.prog (callFunc F (#[.int .i64 (j : Int)] ++ cap)) w = .ok (.enter F (#[.int .i64 (j : Int)] ++ cap)) w := hen j
      clear hm hfp hb HL hkl
      go_wp2_with fail
      have bA := Below.andThen HB.out (new_below wr (.cells #[.slice a0 ss.length c0, .slice a1 cs.length c1, .bool false, .slice a3 bs.length c3] 109))
      refine (HOP.out j _ hjn bA).mono ?_
      rintro e w1 ⟨v, rfl, ov, b1⟩
      obtain ⟨fpx, mx, rx⟩ := ov.mine
      obtain ⟨F1, cp1, hv, _⟩ := mx.1
      have hv' : v = .func (Fn.func F1) #[] cp1 := by simpa using hv
      subst hv'
      have bw1 := Below.andThen (new_below wr (.cells #[.slice a0 ss.length c0, .slice a1 cs.length c1, .bool false, .slice a3 bs.length c3] 109)) b1
      have bB := new_below w1 (.cells #[.func (Fn.func F1) #[] cp1] 161)
      have zA : (wr.alloc (.cells #[.slice a0 ss.length c0, .slice a1 cs.length c1, .bool false, .slice a3 bs.length c3] 109)).heap.size = wr.heap.size + 1 := by simp
      have z1 := b1.size
      have z2 : (w1.alloc (.cells #[.func (Fn.func F1) #[] cp1] 161)).heap.size = w1.heap.size + 1 := by simp
      have M1 := hidden ((HM.out.below bw1).alloc (.cells #[.func (Fn.func F1) #[] cp1] 161))
      have M2 := hidden (mx.alloc (.cells #[.func (Fn.func F1) #[] cp1] 161))
      have NN := hidden (news_new w1 #[.func (Fn.func F1) #[] cp1] 161)
      have hfl := HM.out.lt
      have DJ : Hid (∀ b ∈ fp, b ∉ fpx) := fun b hb hb' => by
       have h1 := hfl b hb
       have h2 := rx b hb'
       omega
      have RX := hidden rx
      have BB := hidden (Below.andThen bA (Below.andThen b1 bB))
      clear ov mx rx hv bA bw1 bB b1 hfl
      go_wp2_with (at_builtin; refine wpList_appT (opTy B) rfl _ _ 123 rfl 161 i4 .nilFunc 8 Tryz.underlying123 hi4 hz0 hz1 hz2 rfl Nat.zero_lt_one u5 (opsL K ms j) fp rfl ?_ ⟨w1.heap.size, 0, none⟩ 1 [.func (Fn.func F1) #[] cp1] (K j) fpx rfl ?_ ?_ ?_ ?_ ?_ ?_ ?_; exact M1.out; exact M2.out; exact DJ.out; exact NN.out; (intro u hu; simp at hu; rw [hu]; rfl); exact L1.out; exact L2.out; intro v2 w2 fp2 m1 m2 m3; rw [← HL2.out] at m1; have N1 := hidden m1; have N2 := hidden m2; have N3 := hidden m3; clear m1 m2 m3)
      have hf2 : ∀ b ∈ fp2, w.heap.size <= b := fun b hb => by
       rcases N2.out b hb with h | h | h
       . exact HFP.out b h
       . have := RX.out b h
         omega
       . have h1 := h.1
         omega
      have HBB := hidden (BB.out.trans (N3.out.below (N := w.heap.size) (by omega) (fun b hb => HFP.out b hb)))
      have HF2 := hidden hf2
      clear hf2
      go_roundw
      case rel => exact ⟨j + 1, fp2, by omega, by go_num, N1.out, HF2.out, HBB.out⟩
      case measure => simp [intOf]; omega
    . have HL2 : Hid (opsL K ms (j + 1) = opsL K ms j) := by unfold Hid; rw [HL.out, if_pos rfl, List.append_nil]
      have HM := hidden (hm.alloc (.cells #[.slice a0 ss.length c0, .slice a1 cs.length c1, .bool true, .slice a3 bs.length c3] 109))
      have HB := hidden (Below.andThen hb (new_below wr (.cells #[.slice a0 ss.length c0, .slice a1 cs.length c1, .bool true, .slice a3 bs.length c3] 109)))
      have HFP := hidden hfp
      clear hm hb hfp HL
      go_wp2
      go_roundw
      case rel => exact ⟨j + 1, fp, by omega, by go_num, by rw [HL2.out]; exact HM.out, HFP.out, HB.out⟩
      case measure => simp [intOf]; omega
  . have e : j = ms.length := by omega
    subst e
    have hltb := hm.lt
    obtain ⟨bo, co, hv⟩ := row_shape hm.rd
    subst hv
    have HO := hidden (hm.own (lo := w.heap.size) (hi := wr.heap.size) (fun b hb' => ⟨hfp b hb', hltb b hb'⟩))
    have i2 : ¬ ((ms.length : Int) < (ms.length : Int)) := by omega
    clear hm
    go_wp2
    go_ret
    exact ⟨_, _, rfl, HO.out, hb⟩

theorem hasDisk_any (w : World) (x : ArrN) (am ad : Option Addr) (nm cm nd cd : Nat) (m : Int) :
 Calls Tryz.prog 216 #[.agg #[.int .i64 x.id, .int .i64 x.n, .int .i64 x.s, .slice am nm cm, .int .i64 x.lost, .int .i64 x.built, .int .i64 x.seq, .int .i64 x.tail, .int .i64 x.gen, .slice ad nd cd, .int .i64 x.fuse, .bool x.down, .bool x.broken], .int .i64 m] w fun e w' => e = .returned (.bool (inB m 0 ((nm : Int) - 1))) /\ Below w.heap.size w w' := by
 have hA := new_below w (.cells #[.int .i64 x.id, .int .i64 x.n, .int .i64 x.s, .slice am nm cm, .int .i64 x.lost, .int .i64 x.built, .int .i64 x.seq, .int .i64 x.tail, .int .i64 x.gen, .slice ad nd cd, .int .i64 x.fuse, .bool x.down, .bool x.broken] 29)
 have X := Box.new w 29 #[.int .i64 x.id, .int .i64 x.n, .int .i64 x.s, .slice am nm cm, .int .i64 x.lost, .int .i64 x.built, .int .i64 x.seq, .int .i64 x.tail, .int .i64 x.gen, .slice ad nd cd, .int .i64 x.fuse, .bool x.down, .bool x.broken]
 have k3 := X.cells13.2.2.2.1
 have HI : Hid (inB m 0 ((nm : Int) - 1) = (decide (0 <= m) && decide (m < (nm : Int)))) := by
  unfold Hid inB
  congr 1
  rw [decide_eq_decide]
  omega
 by_cases h : 0 <= m
 . by_cases h2 : m < (nm : Int)
   . go_enter Tryz.func216, Tryz.ntmps216
     go_wp2
     go_ret
     exact ⟨ret_bool (by rw [HI.out]; simp [h, h2]), hA⟩
   . go_enter Tryz.func216, Tryz.ntmps216
     go_wp2
     go_ret
     exact ⟨ret_bool (by rw [HI.out]; simp [h2]), hA⟩
 . go_enter Tryz.func216, Tryz.ntmps216
   go_wp2
   go_ret
   exact ⟨ret_bool (by rw [HI.out, show decide (0 <= m) = false from (by simpa using h)]; rfl), hA⟩

def DiskV (w : World) (E : TypeId) (x : ArrN) (ms : List MemD) (j : Nat) (v : Value) : Prop :=
 ∃ (a0 a1 a3 : Option Addr) (c0 c1 c3 : Nat) (ss : List (List Int)) (cs : List (Int × List Int)) (f : Bool) (bs : List Int), ms[j]? = some (ss, cs, f, bs) /\ tIntSS.Rd w [.slice a0 ss.length c0] ss /\ (tWrS E).Rd w [.slice a1 cs.length c1] cs /\ tIntS.Rd w [.slice a3 bs.length c3] bs /\
  ((f = true /\ v = .iface 212 (.agg #[])) ∨ (f = false /\ (j : Int) = x.lost /\ v = .iface 211 (.agg #[.slice a0 ss.length c0, .slice a1 cs.length c1, .bool false, .slice a3 bs.length c3, .int .i64 x.built])) ∨ (f = false /\ ¬ (j : Int) = x.lost /\ v = .iface 209 (.agg #[.slice a0 ss.length c0, .slice a1 cs.length c1, .bool false, .slice a3 bs.length c3])))

theorem diskAt_any (w : World) (E F : TypeId) (x : ArrN) (am ad : Option Addr) (nm cm nd cd : Nat) (ms : List MemD) (j : Nat) (h0 : (tMemS E F).Rd w [.slice am nm cm] ms) (hw : wtMemS ms <= 2097152) (hj : j < nm) :
 Calls Tryz.prog 218 #[.agg #[.int .i64 x.id, .int .i64 x.n, .int .i64 x.s, .slice am nm cm, .int .i64 x.lost, .int .i64 x.built, .int .i64 x.seq, .int .i64 x.tail, .int .i64 x.gen, .slice ad nd cd, .int .i64 x.fuse, .bool x.down, .bool x.broken], .int .i64 (j : Int)] w fun e w' => ∃ v, e = .returned v /\ DiskV w' E x ms j v /\ Below w.heap.size w w' := by
 obtain ⟨hl, hc, hm⟩ := row_length h0
 have hnm : nm <= 2097152 := by unfold wtMemS at hw; omega
 have hA := new_below w (.cells #[.int .i64 x.id, .int .i64 x.n, .int .i64 x.s, .slice am nm cm, .int .i64 x.lost, .int .i64 x.built, .int .i64 x.seq, .int .i64 x.tail, .int .i64 x.gen, .slice ad nd cd, .int .i64 x.fuse, .bool x.down, .bool x.broken] 29)
 have X := Box.new w 29 #[.int .i64 x.id, .int .i64 x.n, .int .i64 x.s, .slice am nm cm, .int .i64 x.lost, .int .i64 x.built, .int .i64 x.seq, .int .i64 x.tail, .int .i64 x.gen, .slice ad nd cd, .int .i64 x.fuse, .bool x.down, .bool x.broken]
 obtain ⟨k0, k1, k2, k3, k4, k5, k6, k7, k8, k9, k10, k11, k12⟩ := X.cells13
 have h1 := h0.below hA
 have i1 : (0 : Int) <= (j : Int) := by omega
 have i2 : (j : Int) < (nm : Int) := by omega
 rcases quads_at rfl h1 with h0' | ⟨b, off, rfl, hbl, hcs⟩
 . omega
 have hdj : ms[j]? = some (ms[j]'(by omega)) := List.getElem?_eq_getElem (by omega)
 generalize ms[j]'(by omega) = d at hdj
 obtain ⟨v0, v1, v2, v3, hv0, hv1, hv2, hv3, hrv⟩ := hcs j d hdj
 obtain ⟨a0, c0, a1, c1, a3, c3, ss, cs, f, bs, rfl, rfl, rfl, rfl, rfl, r0, r1, r3⟩ := mem_at hrv
 clear hcs hrv h1 h0
 have HR := hidden (And.intro hdj (And.intro r0 (And.intro r1 r3)))
 clear hdj r0 r1 r3
 cases f
 . by_cases hjl : (j : Int) = x.lost
   . have e1 : ((j : Int) == x.lost) = true := by simpa using hjl
     have HJ := hidden hjl
     clear hjl
     go_enter Tryz.func218, Tryz.ntmps218
     go_wp2
     go_quiet (fail)
     go_wp2
     refine bodyPost_ret (v := .iface 211 (.agg #[.slice a0 ss.length c0, .slice a1 cs.length c1, .bool false, .slice a3 bs.length c3, .int .i64 x.built])) (by simp [results, Tryz.results218, go_sem]) rfl ?_
     exact ⟨_, rfl, ⟨_, _, _, _, _, _, ss, cs, false, bs, HR.out.1, HR.out.2.1.below (below_drewN (Below.refl _ _) _), HR.out.2.2.1.below (below_drewN (Below.refl _ _) _), HR.out.2.2.2.below (below_drewN (Below.refl _ _) _), .inr (.inl ⟨rfl, HJ.out, rfl⟩)⟩, below_drewN hA _⟩
   . have e1 : ((j : Int) == x.lost) = false := by simpa using hjl
     have HJ := hidden hjl
     clear hjl
     go_enter Tryz.func218, Tryz.ntmps218
     go_wp2
     refine bodyPost_ret (v := .iface 209 (.agg #[.slice a0 ss.length c0, .slice a1 cs.length c1, .bool false, .slice a3 bs.length c3])) (by simp [results, Tryz.results218, go_sem]) rfl ?_
     exact ⟨_, rfl, ⟨_, _, _, _, _, _, ss, cs, false, bs, HR.out.1, HR.out.2.1, HR.out.2.2.1, HR.out.2.2.2, .inr (.inr ⟨rfl, HJ.out, rfl⟩)⟩, hA⟩
 . go_enter Tryz.func218, Tryz.ntmps218
   go_wp2
   refine bodyPost_ret (v := .iface 212 (.agg #[])) (by simp [results, Tryz.results218, go_sem]) rfl ?_
   exact ⟨_, rfl, ⟨_, _, _, _, _, _, ss, cs, true, bs, HR.out.1, HR.out.2.1, HR.out.2.2.1, HR.out.2.2.2, .inl ⟨rfl, rfl⟩⟩, hA⟩

theorem is_sound (w : World) (v0 v1 v2 v3 : Value) : Sem.run Tryz.prog (Instr.typeAssert (.iface 209 (.agg #[v0, v1, v2, v3])) 192 209 true) w = .ok (.tuple #[.agg #[v0, v1, v2, v3], .bool true]) w := by kernel_rfl
theorem lost_sound (w : World) (v : Value) : Sem.run Tryz.prog (Instr.typeAssert (.iface 211 v) 192 209 true) w = .ok (.tuple #[.agg #[.slice none 0 0, .slice none 0 0, .bool false, .slice none 0 0], .bool false]) w := by kernel_rfl
theorem failed_sound (w : World) (v : Value) : Sem.run Tryz.prog (Instr.typeAssert (.iface 212 v) 192 209 true) w = .ok (.tuple #[.agg #[.slice none 0 0, .slice none 0 0, .bool false, .slice none 0 0], .bool false]) w := by kernel_rfl
theorem is_lost (w : World) (v0 v1 v2 v3 v4 : Value) : Sem.run Tryz.prog (Instr.typeAssert (.iface 211 (.agg #[v0, v1, v2, v3, v4])) 192 211 true) w = .ok (.tuple #[.agg #[v0, v1, v2, v3, v4], .bool true]) w := by kernel_rfl
theorem failed_lost (w : World) (v : Value) : Sem.run Tryz.prog (Instr.typeAssert (.iface 212 v) 192 211 true) w = .ok (.tuple #[.agg #[.slice none 0 0, .slice none 0 0, .bool false, .slice none 0 0, .int .i64 0], .bool false]) w := by kernel_rfl

theorem bears_sound (w : World) (a0 a1 a3 : Option Addr) (n0 c0 n1 c1 n3 c3 : Nat) (f : Bool) (s : Int) : Calls Tryz.prog 217 #[.iface 209 (.agg #[.slice a0 n0 c0, .slice a1 n1 c1, .bool f, .slice a3 n3 c3]), .int .i64 s] w fun e w' => e = .returned (.bool true) /\ Below w.heap.size w w' := by
 have hA := new_below w (.cells #[.slice a0 n0 c0, .slice a1 n1 c1, .bool f, .slice a3 n3 c3] 209)
 have s1 := is_sound w (.slice a0 n0 c0) (.slice a1 n1 c1) (.bool f) (.slice a3 n3 c3)
 go_enter Tryz.func217, Tryz.ntmps217
 go_wp2
 go_ret
 exact ⟨rfl, hA⟩
theorem bears_lost (w : World) (a0 a1 a3 : Option Addr) (n0 c0 n1 c1 n3 c3 : Nat) (f : Bool) (b s : Int) : Calls Tryz.prog 217 #[.iface 211 (.agg #[.slice a0 n0 c0, .slice a1 n1 c1, .bool f, .slice a3 n3 c3, .int .i64 b]), .int .i64 s] w fun e w' => e = .returned (.bool (decide (s < b))) /\ Below w.heap.size w w' := by
 have hA := new_below w (.cells #[.slice a0 n0 c0, .slice a1 n1 c1, .bool f, .slice a3 n3 c3, .int .i64 b] 211)
 have s1 := lost_sound w (.agg #[.slice a0 n0 c0, .slice a1 n1 c1, .bool f, .slice a3 n3 c3, .int .i64 b])
 have s2 := is_lost w (.slice a0 n0 c0) (.slice a1 n1 c1) (.bool f) (.slice a3 n3 c3) (.int .i64 b)
 go_enter Tryz.func217, Tryz.ntmps217
 go_wp2
 go_ret
 exact ⟨rfl, hA⟩
theorem bears_failed (w : World) (s : Int) : Calls Tryz.prog 217 #[.iface 212 (.agg #[]), .int .i64 s] w fun e w' => e = .returned (.bool false) /\ w' = w := by
 have s1 := failed_sound w (.agg #[])
 have s2 := failed_lost w (.agg #[])
 go_enter Tryz.func217, Tryz.ntmps217
 go_wp2
 go_ret
 exact ⟨rfl, rfl⟩

def recB6 (x : ArrN) : Bool := inB x.seq 0 60000 && (inB x.tail 0 60000 && inB (x.seq - x.tail) 0 4)
theorem lost_same6 {x : ArrN} (hg : geoB x.n x.s = true) : lostB x.n x.s x.lost x.built = lostB6 x := by
 obtain ⟨g1, g2, g3, g4⟩ := geoB_iff.1 hg
 rw [Bool.eq_iff_iff, lostB_iff]
 unfold lostB6
 simp only [Bool.and_eq_true, inB_iff, Bool.or_eq_true, Bool.not_eq_true', decide_eq_false_iff_not, decide_eq_true_eq]
 omega
theorem seq_same6 (x : ArrN) : seqB6 x = (inB x.gen 0 60000 && (inB x.fuse (-1) 1000 && recB6 x)) := by
 rw [Bool.eq_iff_iff]
 unfold seqB6 recB6
 simp only [Bool.and_eq_true, inB_iff, decide_eq_true_eq]
 omega
theorem arr_same6 {x : ArrN} {ms : List MemD} {ds : List (Int × List Int)} (hg : geoB x.n x.s = true) : arrB x ms ds = (inB x.id 1 60000 && (lostB x.n x.s x.lost x.built && (inB x.gen 0 60000 && (inB x.fuse (-1) 1000 && (memsB x ms && (recB6 x && entsB x ds)))))) := by
 unfold arrB
 rw [hg, lost_same6 hg, seq_same6]
 cases inB x.id 1 60000 <;> cases lostB6 x <;> cases inB x.gen 0 60000 <;> cases inB x.fuse (-1) 1000 <;> cases memsB x ms <;> cases recB6 x <;> cases entsB x ds <;> rfl
theorem stripe_in6 {x : ArrN} {y : Int} (hg : geoB x.n x.s = true) : stripeB x.n x.s y = inB y 0 (x.s - 1) := by unfold stripeB; rw [hg]; rfl
theorem sec_all6 {zs : List Int} (h : zs.length <= 12) : secB zs = allW zs := by unfold secB; simp [h]
theorem entAt_6 {x : ArrN} {ds : List (Int × List Int)} {p : Nat} {y : Int} {zs : List Int} {q : Int × List Int} (hq : ds[p]? = some q) (h : y <= q.1) : entAt x ds (p + 1) (y, zs) = false := by
 have : ds.getD (p + 1 - 1) (0, []) = q := by rw [Nat.add_sub_cancel, List.getD_eq_getElem?_getD, hq]; rfl
 unfold entAt
 rw [this]
 have h2 : ¬ q.1 < y := by omega
 simp [h2]

theorem sectorsOf_any (w : World) (n s : Int) (hs : 1 <= s /\ s <= 8) : Calls Tryz.prog 180 #[.agg #[.int .i64 n, .int .i64 s]] w fun e w' => e = .returned (.int .i64 (6 + s)) /\ Below w.heap.size w w' := by
 have hA := new_below w (.cells #[.int .i64 n, .int .i64 s] 25)
 obtain ⟨k0, k1⟩ := (Gbox.new w 25 n s).cells
 have hd : dataN s = 6 + s := by unfold dataN; split <;> omega
 have HD := hidden hd
 clear hd
 go_enter Tryz.func180, Tryz.ntmps180
 go_wp2_with fail
 refine (implDataAt_any _ _).mono ?_
 rintro e w1 ⟨rfl, h1⟩
 subst h1
 rw [HD.out]
 go_wp2
 go_ret
 exact ⟨rfl, hA⟩

theorem memsOk_any (w : World) (E F : TypeId) (x : ArrN) (am ad : Option Addr) (nm cm nd cd : Nat) (ms : List MemD) (h0 : (tMemS E F).Rd w [.slice am nm cm] ms) (hw : wtMemS ms <= 2097152) (hg : geoB x.n x.s = true) :
 Calls Tryz.prog 127 #[.agg #[.int .i64 x.id, .int .i64 x.n, .int .i64 x.s, .slice am nm cm, .int .i64 x.lost, .int .i64 x.built, .int .i64 x.seq, .int .i64 x.tail, .int .i64 x.gen, .slice ad nd cd, .int .i64 x.fuse, .bool x.down, .bool x.broken]] w fun e w' => e = .returned (.bool (memsB x ms)) /\ Below w.heap.size w w' := by
 obtain ⟨hl, hc, hm⟩ := row_length h0
 obtain ⟨g1, g2, g3, g4⟩ := geoB_iff.1 hg
 have hA := new_below w (.cells #[.int .i64 x.id, .int .i64 x.n, .int .i64 x.s, .slice am nm cm, .int .i64 x.lost, .int .i64 x.built, .int .i64 x.seq, .int .i64 x.tail, .int .i64 x.gen, .slice ad nd cd, .int .i64 x.fuse, .bool x.down, .bool x.broken] 29)
 have X := Box.new w 29 #[.int .i64 x.id, .int .i64 x.n, .int .i64 x.s, .slice am nm cm, .int .i64 x.lost, .int .i64 x.built, .int .i64 x.seq, .int .i64 x.tail, .int .i64 x.gen, .slice ad nd cd, .int .i64 x.fuse, .bool x.down, .bool x.broken]
 have zA := X.lt
 have hnm : nm <= 2097152 := by unfold wtMemS at hw; omega
 have h1 := h0.below hA
 obtain ⟨k0, k1, k2, k3, k4, k5, k6, k7, k8, k9, k10, k11, k12⟩ := X.cells13
 by_cases hN : (nm : Int) = x.n
 . have hN1 : ((nm : Int) == x.n) = true := by simpa using hN
   have hN2 : ((nm : Int) != x.n) = false := by simpa using hN
   have HN := hidden hN
   clear hN
   go_enter Tryz.func127, Tryz.ntmps127
   go_wp2
   generalize w.alloc (.cells #[.int .i64 x.id, .int .i64 x.n, .int .i64 x.s, .slice am nm cm, .int .i64 x.lost, .int .i64 x.built, .int .i64 x.seq, .int .i64 x.tail, .int .i64 x.gen, .slice ad nd cd, .int .i64 x.fuse, .bool x.down, .bool x.broken] 29) = W at hA X zA h1 k0 k1 k2 k3 k4 k5 k6 k7 k8 k9 k10 k11 k12 ⊢
   clear k0 k1 k2 k3 k4 k5 k6 k7 k8 k9 k10 k11 k12
   go_loopw [15] (fun i wr => ∃ j : Nat, j <= nm /\ i = .int .i64 j /\ (∀ (q : Nat) (m : MemD), q < j -> ms[q]? = some m -> memAt x q m = true) /\ Below W.heap.size W wr) (fun i _ => nm - (intOf i).toNat)
   case atStart => exact ⟨0, Nat.zero_le _, rfl, fun q m hq => by omega, Below.refl _ _⟩
   case round =>
    obtain ⟨j, hj, rfl, hall, hb⟩ := hrel
    have Xr := X.below hb zA
    by_cases hjn : j < nm
    . rcases quads_at rfl h1 with h0' | ⟨b, off, rfl, hbl, hcs⟩
      . omega
      have hdj : ms[j]? = some (ms[j]'(by omega)) := List.getElem?_eq_getElem (by omega)
      generalize ms[j]'(by omega) = m at hdj
      obtain ⟨v0, v1, v2, v3, hv0, hv1, hv2, hv3, hrv⟩ := hcs j m hdj
      obtain ⟨a0, c0, a1, c1, a3, c3, ss, cs, f, bs, rfl, rfl, rfl, rfl, rfl, r0, r1, r3⟩ := mem_at hrv
      have u0 := (hb.cell (p := ⟨b, off + j * 4, none⟩) hbl).trans hv0
      have u1 := (hb.cell (p := ⟨b, off + j * 4 + 1, none⟩) hbl).trans hv1
      have u2 := (hb.cell (p := ⟨b, off + j * 4 + 2, none⟩) hbl).trans hv2
      have u3 := (hb.cell (p := ⟨b, off + j * 4 + 3, none⟩) hbl).trans hv3
      have i1 : (0 : Int) <= (j : Int) := by omega
      have i2 : (j : Int) < (nm : Int) := by omega
      have hwm := Nat.le_trans (inner_leM hdj) hw
      have HDJ := hidden hdj
      clear hcs hv0 hv1 hv2 hv3 hrv hdj
      have b1 := new_below wr (.cells #[.slice a0 ss.length c0, .slice a1 cs.length c1, .bool f, .slice a3 bs.length c3] 109)
      have Y1 := Box.new wr 109 #[.slice a0 ss.length c0, .slice a1 cs.length c1, .bool f, .slice a3 bs.length c3]
      have X1 := Xr.below b1 Xr.lt
      have R0 := (r0.below hb).below b1
      have R1 := (r1.below hb).below b1
      have R3 := (r3.below hb).below b1
      have B1 := hb.trans (b1.mono hb.size)
      clear r0 r1 r3 b1
      obtain ⟨y0, y1, y2, y3⟩ := Y1.cells4
      obtain ⟨e0, e1, e2, e3, e4, e5, e6, e7, e8, e9, e10, e11, e12⟩ := X1.cells13
      have zy := Y1.lt
      have zx := X1.lt
      clear e0 e3 e5 e6 e7 e8 e9 e10 e11
      cases hM : memB ss cs bs
      . skip
        go_wp2_with fail
        generalize wr.alloc (.cells #[.slice a0 ss.length c0, .slice a1 cs.length c1, .bool f, .slice a3 bs.length c3] 109) = w1 at X1 Y1 R0 R1 R3 B1 y0 y1 y2 y3 e1 e2 e4 e12 zy zx ⊢
        refine wp_region_held_drew (S := fun w' => w'.cell? ⟨wr.heap.size, 0, none⟩ = some (.slice a0 ss.length c0) /\ w'.cell? ⟨wr.heap.size, 1, none⟩ = some (.slice a1 cs.length c1) /\ w'.cell? ⟨wr.heap.size, 2, none⟩ = some (.bool f) /\ w'.cell? ⟨wr.heap.size, 3, none⟩ = some (.slice a3 bs.length c3) /\ w'.cell? ⟨w.heap.size, 1, none⟩ = some (.int .i64 x.n) /\ w'.cell? ⟨w.heap.size, 2, none⟩ = some (.int .i64 x.s)) (by kernel_rfl) ?_ (fun hHeld => ?_)
        . exact ⟨y0, y1, y2, y3, e1, e2⟩
        refine held_t 0 hHeld ?_
        refine held_one (i := 1) (by kernel_rfl) rfl (by kernel_rfl) (fun K hK => ?_)
        go_simp
        refine (implMemOk_any _ E _ _ _ _ _ _ _ _ _ ss cs f bs R0.drew R1.drew R3.drew hwm).mono ?_
        rintro e w2 ⟨rfl, b2⟩
        rw [hM]
        have b2' : Below w1.heap.size w1 w2 := (Below.refl w1.heap.size w1).drew.trans b2
        clear b2
        go_wp2_with fail
        clear hHeld
        refine hK.out _ _ ?_ (fun hHeld => ?_)
        . exact ⟨(b2'.cell (p := ⟨wr.heap.size, 0, none⟩) zy).trans y0, (b2'.cell (p := ⟨wr.heap.size, 1, none⟩) zy).trans y1, (b2'.cell (p := ⟨wr.heap.size, 2, none⟩) zy).trans y2, (b2'.cell (p := ⟨wr.heap.size, 3, none⟩) zy).trans y3, (b2'.cell (p := ⟨w.heap.size, 1, none⟩) zx).trans e1, (b2'.cell (p := ⟨w.heap.size, 2, none⟩) zx).trans e2⟩
        clear hK K
        refine held_t 2 hHeld ?_
        refine held_t 3 hHeld ?_
        refine held_p 4 hHeld ?_
        refine held_p 5 hHeld ?_
        refine held_p 6 hHeld ?_
        refine held_p 7 hHeld ?_
        refine held_p 8 hHeld ?_
        refine held_none (i := 9) (by kernel_rfl) rfl (by kernel_rfl) hHeld ?_
        simp only [Act.put, List.setIfInBounds_toArray, List.set_cons_zero, List.set_cons_succ]
        refine held_p 10 hHeld ?_
        refine held_t 11 hHeld ?_
        refine wpAnyH_done (by kernel_rfl) ?_ _
        clear hHeld
        have HB := hidden (hA.trans ((B1.trans (b2'.mono B1.size)).mono hA.size))
        go_wp2
        go_ret
        exact ⟨ret_bool (by rw [show memsB x ms = false from (by unfold memsB; rw [allIx_no HDJ.out (by unfold memAt; simp [hM])]; rfl)]), HB.out⟩
      . by_cases hS : (ss.length : Int) = 6 + x.s
        . have hS1 : ((ss.length : Int) == 6 + x.s) = true := by simpa using hS
          have hS2 : ((ss.length : Int) != 6 + x.s) = false := by simpa using hS
          have HS := hidden hS
          clear hS
          cases f
          . skip
            go_wp2_with fail
            generalize wr.alloc (.cells #[.slice a0 ss.length c0, .slice a1 cs.length c1, .bool false, .slice a3 bs.length c3] 109) = w1 at X1 Y1 R0 R1 R3 B1 y0 y1 y2 y3 e1 e2 e4 e12 zy zx ⊢
            refine wp_region_held_drew (S := fun w' => w'.cell? ⟨wr.heap.size, 0, none⟩ = some (.slice a0 ss.length c0) /\ w'.cell? ⟨wr.heap.size, 1, none⟩ = some (.slice a1 cs.length c1) /\ w'.cell? ⟨wr.heap.size, 2, none⟩ = some (.bool false) /\ w'.cell? ⟨wr.heap.size, 3, none⟩ = some (.slice a3 bs.length c3) /\ w'.cell? ⟨w.heap.size, 1, none⟩ = some (.int .i64 x.n) /\ w'.cell? ⟨w.heap.size, 2, none⟩ = some (.int .i64 x.s)) (by kernel_rfl) ?_ (fun hHeld => ?_)
            . exact ⟨y0, y1, y2, y3, e1, e2⟩
            refine held_t 0 hHeld ?_
            refine held_one (i := 1) (by kernel_rfl) rfl (by kernel_rfl) (fun K hK => ?_)
            go_simp
            refine (implMemOk_any _ E _ _ _ _ _ _ _ _ _ ss cs false bs R0.drew R1.drew R3.drew hwm).mono ?_
            rintro e w2 ⟨rfl, b2⟩
            rw [hM]
            have b2' : Below w1.heap.size w1 w2 := (Below.refl w1.heap.size w1).drew.trans b2
            clear b2
            go_wp2_with fail
            clear hHeld
            refine hK.out _ _ ?_ (fun hHeld => ?_)
            . exact ⟨(b2'.cell (p := ⟨wr.heap.size, 0, none⟩) zy).trans y0, (b2'.cell (p := ⟨wr.heap.size, 1, none⟩) zy).trans y1, (b2'.cell (p := ⟨wr.heap.size, 2, none⟩) zy).trans y2, (b2'.cell (p := ⟨wr.heap.size, 3, none⟩) zy).trans y3, (b2'.cell (p := ⟨w.heap.size, 1, none⟩) zx).trans e1, (b2'.cell (p := ⟨w.heap.size, 2, none⟩) zx).trans e2⟩
            clear hK K
            refine held_t 2 hHeld ?_
            refine held_t 3 hHeld ?_
            refine held_t 4 hHeld ?_
            refine held_t 5 hHeld ?_
            refine held_t 6 hHeld ?_
            refine held_t 7 hHeld ?_
            refine held_t 8 hHeld ?_
            refine held_one (i := 9) (by kernel_rfl) rfl (by kernel_rfl) (fun K hK => ?_)
            go_simp
            refine (sectorsOf_any _ x.n x.s ⟨g3, g4⟩).mono ?_
            rintro e w3 ⟨rfl, b3⟩
            have b3' : Below w1.heap.size w1 w3 := Below.andThen b2' b3
            clear b3
            go_wp2_with fail
            clear hHeld
            refine hK.out _ _ ?_ (fun hHeld => ?_)
            . exact ⟨(b3'.cell (p := ⟨wr.heap.size, 0, none⟩) zy).trans y0, (b3'.cell (p := ⟨wr.heap.size, 1, none⟩) zy).trans y1, (b3'.cell (p := ⟨wr.heap.size, 2, none⟩) zy).trans y2, (b3'.cell (p := ⟨wr.heap.size, 3, none⟩) zy).trans y3, (b3'.cell (p := ⟨w.heap.size, 1, none⟩) zx).trans e1, (b3'.cell (p := ⟨w.heap.size, 2, none⟩) zx).trans e2⟩
            clear hK K
            refine held_t 10 hHeld ?_
            refine held_t 11 hHeld ?_
            refine wpAnyH_done (by kernel_rfl) ?_ _
            clear hHeld
            have n0 := (b3'.cell (p := ⟨w.heap.size, 4, none⟩) zx).trans e4
            have n1 := (b3'.cell (p := ⟨w.heap.size, 12, none⟩) zx).trans e12
            have n2 := (b3'.cell (p := ⟨wr.heap.size, 2, none⟩) zy).trans y2
            have HB := hidden (B1.trans (b3'.mono B1.size))
            have hat : memAt x j (ss, cs, false, bs) = true := (by unfold memAt; simp [hM, HS.out])
            go_wp2
            go_roundw
            case rel => exact ⟨j + 1, by omega, by go_num, fun q m hq hm' => by
             rcases Nat.lt_or_ge q j with h | h
             . exact hall q m h hm'
             . obtain rfl : q = j := by omega
               rw [HDJ.out] at hm'
               cases hm'
               exact hat, HB.out⟩
            case measure => simp [intOf]; omega
          . by_cases hL : (j : Int) = x.lost
            . have hL1 : ((j : Int) == x.lost) = true := by simpa using hL
              have hL2 : ((j : Int) != x.lost) = false := by simpa using hL
              have HL := hidden hL
              clear hL
              go_wp2_with fail
              generalize wr.alloc (.cells #[.slice a0 ss.length c0, .slice a1 cs.length c1, .bool true, .slice a3 bs.length c3] 109) = w1 at X1 Y1 R0 R1 R3 B1 y0 y1 y2 y3 e1 e2 e4 e12 zy zx ⊢
              refine wp_region_held_drew (S := fun w' => w'.cell? ⟨wr.heap.size, 0, none⟩ = some (.slice a0 ss.length c0) /\ w'.cell? ⟨wr.heap.size, 1, none⟩ = some (.slice a1 cs.length c1) /\ w'.cell? ⟨wr.heap.size, 2, none⟩ = some (.bool true) /\ w'.cell? ⟨wr.heap.size, 3, none⟩ = some (.slice a3 bs.length c3) /\ w'.cell? ⟨w.heap.size, 1, none⟩ = some (.int .i64 x.n) /\ w'.cell? ⟨w.heap.size, 2, none⟩ = some (.int .i64 x.s)) (by kernel_rfl) ?_ (fun hHeld => ?_)
              . exact ⟨y0, y1, y2, y3, e1, e2⟩
              refine held_t 0 hHeld ?_
              refine held_one (i := 1) (by kernel_rfl) rfl (by kernel_rfl) (fun K hK => ?_)
              go_simp
              refine (implMemOk_any _ E _ _ _ _ _ _ _ _ _ ss cs true bs R0.drew R1.drew R3.drew hwm).mono ?_
              rintro e w2 ⟨rfl, b2⟩
              rw [hM]
              have b2' : Below w1.heap.size w1 w2 := (Below.refl w1.heap.size w1).drew.trans b2
              clear b2
              go_wp2_with fail
              clear hHeld
              refine hK.out _ _ ?_ (fun hHeld => ?_)
              . exact ⟨(b2'.cell (p := ⟨wr.heap.size, 0, none⟩) zy).trans y0, (b2'.cell (p := ⟨wr.heap.size, 1, none⟩) zy).trans y1, (b2'.cell (p := ⟨wr.heap.size, 2, none⟩) zy).trans y2, (b2'.cell (p := ⟨wr.heap.size, 3, none⟩) zy).trans y3, (b2'.cell (p := ⟨w.heap.size, 1, none⟩) zx).trans e1, (b2'.cell (p := ⟨w.heap.size, 2, none⟩) zx).trans e2⟩
              clear hK K
              refine held_t 2 hHeld ?_
              refine held_t 3 hHeld ?_
              refine held_t 4 hHeld ?_
              refine held_t 5 hHeld ?_
              refine held_t 6 hHeld ?_
              refine held_t 7 hHeld ?_
              refine held_t 8 hHeld ?_
              refine held_one (i := 9) (by kernel_rfl) rfl (by kernel_rfl) (fun K hK => ?_)
              go_simp
              refine (sectorsOf_any _ x.n x.s ⟨g3, g4⟩).mono ?_
              rintro e w3 ⟨rfl, b3⟩
              have b3' : Below w1.heap.size w1 w3 := Below.andThen b2' b3
              clear b3
              go_wp2_with fail
              clear hHeld
              refine hK.out _ _ ?_ (fun hHeld => ?_)
              . exact ⟨(b3'.cell (p := ⟨wr.heap.size, 0, none⟩) zy).trans y0, (b3'.cell (p := ⟨wr.heap.size, 1, none⟩) zy).trans y1, (b3'.cell (p := ⟨wr.heap.size, 2, none⟩) zy).trans y2, (b3'.cell (p := ⟨wr.heap.size, 3, none⟩) zy).trans y3, (b3'.cell (p := ⟨w.heap.size, 1, none⟩) zx).trans e1, (b3'.cell (p := ⟨w.heap.size, 2, none⟩) zx).trans e2⟩
              clear hK K
              refine held_t 10 hHeld ?_
              refine held_t 11 hHeld ?_
              refine wpAnyH_done (by kernel_rfl) ?_ _
              clear hHeld
              have n0 := (b3'.cell (p := ⟨w.heap.size, 4, none⟩) zx).trans e4
              have n1 := (b3'.cell (p := ⟨w.heap.size, 12, none⟩) zx).trans e12
              have n2 := (b3'.cell (p := ⟨wr.heap.size, 2, none⟩) zy).trans y2
              have HB := hidden (B1.trans (b3'.mono B1.size))
              have hat : memAt x j (ss, cs, true, bs) = true := (by unfold memAt; simp [hM, HS.out, HL.out])
              go_wp2
              go_roundw
              case rel => exact ⟨j + 1, by omega, by go_num, fun q m hq hm' => by
               rcases Nat.lt_or_ge q j with h | h
               . exact hall q m h hm'
               . obtain rfl : q = j := by omega
                 rw [HDJ.out] at hm'
                 cases hm'
                 exact hat, HB.out⟩
              case measure => simp [intOf]; omega
            . have hL1 : ((j : Int) == x.lost) = false := by simpa using hL
              have hL2 : ((j : Int) != x.lost) = true := by simpa using hL
              have HL := hidden hL
              clear hL
              cases hBr : x.broken
              . rw [hBr] at e12
                go_wp2_with fail
                generalize wr.alloc (.cells #[.slice a0 ss.length c0, .slice a1 cs.length c1, .bool true, .slice a3 bs.length c3] 109) = w1 at X1 Y1 R0 R1 R3 B1 y0 y1 y2 y3 e1 e2 e4 e12 zy zx ⊢
                refine wp_region_held_drew (S := fun w' => w'.cell? ⟨wr.heap.size, 0, none⟩ = some (.slice a0 ss.length c0) /\ w'.cell? ⟨wr.heap.size, 1, none⟩ = some (.slice a1 cs.length c1) /\ w'.cell? ⟨wr.heap.size, 2, none⟩ = some (.bool true) /\ w'.cell? ⟨wr.heap.size, 3, none⟩ = some (.slice a3 bs.length c3) /\ w'.cell? ⟨w.heap.size, 1, none⟩ = some (.int .i64 x.n) /\ w'.cell? ⟨w.heap.size, 2, none⟩ = some (.int .i64 x.s)) (by kernel_rfl) ?_ (fun hHeld => ?_)
                . exact ⟨y0, y1, y2, y3, e1, e2⟩
                refine held_t 0 hHeld ?_
                refine held_one (i := 1) (by kernel_rfl) rfl (by kernel_rfl) (fun K hK => ?_)
                go_simp
                refine (implMemOk_any _ E _ _ _ _ _ _ _ _ _ ss cs true bs R0.drew R1.drew R3.drew hwm).mono ?_
                rintro e w2 ⟨rfl, b2⟩
                rw [hM]
                have b2' : Below w1.heap.size w1 w2 := (Below.refl w1.heap.size w1).drew.trans b2
                clear b2
                go_wp2_with fail
                clear hHeld
                refine hK.out _ _ ?_ (fun hHeld => ?_)
                . exact ⟨(b2'.cell (p := ⟨wr.heap.size, 0, none⟩) zy).trans y0, (b2'.cell (p := ⟨wr.heap.size, 1, none⟩) zy).trans y1, (b2'.cell (p := ⟨wr.heap.size, 2, none⟩) zy).trans y2, (b2'.cell (p := ⟨wr.heap.size, 3, none⟩) zy).trans y3, (b2'.cell (p := ⟨w.heap.size, 1, none⟩) zx).trans e1, (b2'.cell (p := ⟨w.heap.size, 2, none⟩) zx).trans e2⟩
                clear hK K
                refine held_t 2 hHeld ?_
                refine held_t 3 hHeld ?_
                refine held_t 4 hHeld ?_
                refine held_t 5 hHeld ?_
                refine held_t 6 hHeld ?_
                refine held_t 7 hHeld ?_
                refine held_t 8 hHeld ?_
                refine held_one (i := 9) (by kernel_rfl) rfl (by kernel_rfl) (fun K hK => ?_)
                go_simp
                refine (sectorsOf_any _ x.n x.s ⟨g3, g4⟩).mono ?_
                rintro e w3 ⟨rfl, b3⟩
                have b3' : Below w1.heap.size w1 w3 := Below.andThen b2' b3
                clear b3
                go_wp2_with fail
                clear hHeld
                refine hK.out _ _ ?_ (fun hHeld => ?_)
                . exact ⟨(b3'.cell (p := ⟨wr.heap.size, 0, none⟩) zy).trans y0, (b3'.cell (p := ⟨wr.heap.size, 1, none⟩) zy).trans y1, (b3'.cell (p := ⟨wr.heap.size, 2, none⟩) zy).trans y2, (b3'.cell (p := ⟨wr.heap.size, 3, none⟩) zy).trans y3, (b3'.cell (p := ⟨w.heap.size, 1, none⟩) zx).trans e1, (b3'.cell (p := ⟨w.heap.size, 2, none⟩) zx).trans e2⟩
                clear hK K
                refine held_t 10 hHeld ?_
                refine held_t 11 hHeld ?_
                refine wpAnyH_done (by kernel_rfl) ?_ _
                clear hHeld
                have n0 := (b3'.cell (p := ⟨w.heap.size, 4, none⟩) zx).trans e4
                have n1 := (b3'.cell (p := ⟨w.heap.size, 12, none⟩) zx).trans e12
                have n2 := (b3'.cell (p := ⟨wr.heap.size, 2, none⟩) zy).trans y2
                have HB := hidden (hA.trans ((B1.trans (b3'.mono B1.size)).mono hA.size))
                go_wp2
                go_ret
                exact ⟨ret_bool (by rw [show memsB x ms = false from (by unfold memsB; rw [allIx_no HDJ.out (by unfold memAt; simp [HL.out, hBr])]; rfl)]), HB.out⟩
              . rw [hBr] at e12
                go_wp2_with fail
                generalize wr.alloc (.cells #[.slice a0 ss.length c0, .slice a1 cs.length c1, .bool true, .slice a3 bs.length c3] 109) = w1 at X1 Y1 R0 R1 R3 B1 y0 y1 y2 y3 e1 e2 e4 e12 zy zx ⊢
                refine wp_region_held_drew (S := fun w' => w'.cell? ⟨wr.heap.size, 0, none⟩ = some (.slice a0 ss.length c0) /\ w'.cell? ⟨wr.heap.size, 1, none⟩ = some (.slice a1 cs.length c1) /\ w'.cell? ⟨wr.heap.size, 2, none⟩ = some (.bool true) /\ w'.cell? ⟨wr.heap.size, 3, none⟩ = some (.slice a3 bs.length c3) /\ w'.cell? ⟨w.heap.size, 1, none⟩ = some (.int .i64 x.n) /\ w'.cell? ⟨w.heap.size, 2, none⟩ = some (.int .i64 x.s)) (by kernel_rfl) ?_ (fun hHeld => ?_)
                . exact ⟨y0, y1, y2, y3, e1, e2⟩
                refine held_t 0 hHeld ?_
                refine held_one (i := 1) (by kernel_rfl) rfl (by kernel_rfl) (fun K hK => ?_)
                go_simp
                refine (implMemOk_any _ E _ _ _ _ _ _ _ _ _ ss cs true bs R0.drew R1.drew R3.drew hwm).mono ?_
                rintro e w2 ⟨rfl, b2⟩
                rw [hM]
                have b2' : Below w1.heap.size w1 w2 := (Below.refl w1.heap.size w1).drew.trans b2
                clear b2
                go_wp2_with fail
                clear hHeld
                refine hK.out _ _ ?_ (fun hHeld => ?_)
                . exact ⟨(b2'.cell (p := ⟨wr.heap.size, 0, none⟩) zy).trans y0, (b2'.cell (p := ⟨wr.heap.size, 1, none⟩) zy).trans y1, (b2'.cell (p := ⟨wr.heap.size, 2, none⟩) zy).trans y2, (b2'.cell (p := ⟨wr.heap.size, 3, none⟩) zy).trans y3, (b2'.cell (p := ⟨w.heap.size, 1, none⟩) zx).trans e1, (b2'.cell (p := ⟨w.heap.size, 2, none⟩) zx).trans e2⟩
                clear hK K
                refine held_t 2 hHeld ?_
                refine held_t 3 hHeld ?_
                refine held_t 4 hHeld ?_
                refine held_t 5 hHeld ?_
                refine held_t 6 hHeld ?_
                refine held_t 7 hHeld ?_
                refine held_t 8 hHeld ?_
                refine held_one (i := 9) (by kernel_rfl) rfl (by kernel_rfl) (fun K hK => ?_)
                go_simp
                refine (sectorsOf_any _ x.n x.s ⟨g3, g4⟩).mono ?_
                rintro e w3 ⟨rfl, b3⟩
                have b3' : Below w1.heap.size w1 w3 := Below.andThen b2' b3
                clear b3
                go_wp2_with fail
                clear hHeld
                refine hK.out _ _ ?_ (fun hHeld => ?_)
                . exact ⟨(b3'.cell (p := ⟨wr.heap.size, 0, none⟩) zy).trans y0, (b3'.cell (p := ⟨wr.heap.size, 1, none⟩) zy).trans y1, (b3'.cell (p := ⟨wr.heap.size, 2, none⟩) zy).trans y2, (b3'.cell (p := ⟨wr.heap.size, 3, none⟩) zy).trans y3, (b3'.cell (p := ⟨w.heap.size, 1, none⟩) zx).trans e1, (b3'.cell (p := ⟨w.heap.size, 2, none⟩) zx).trans e2⟩
                clear hK K
                refine held_t 10 hHeld ?_
                refine held_t 11 hHeld ?_
                refine wpAnyH_done (by kernel_rfl) ?_ _
                clear hHeld
                have n0 := (b3'.cell (p := ⟨w.heap.size, 4, none⟩) zx).trans e4
                have n1 := (b3'.cell (p := ⟨w.heap.size, 12, none⟩) zx).trans e12
                have n2 := (b3'.cell (p := ⟨wr.heap.size, 2, none⟩) zy).trans y2
                have HB := hidden (B1.trans (b3'.mono B1.size))
                have hat : memAt x j (ss, cs, true, bs) = true := (by unfold memAt; simp [hM, HS.out, hBr])
                go_wp2
                go_roundw
                case rel => exact ⟨j + 1, by omega, by go_num, fun q m hq hm' => by
                 rcases Nat.lt_or_ge q j with h | h
                 . exact hall q m h hm'
                 . obtain rfl : q = j := by omega
                   rw [HDJ.out] at hm'
                   cases hm'
                   exact hat, HB.out⟩
                case measure => simp [intOf]; omega
        . have hS1 : ((ss.length : Int) == 6 + x.s) = false := by simpa using hS
          have hS2 : ((ss.length : Int) != 6 + x.s) = true := by simpa using hS
          have HS := hidden hS
          clear hS
          go_wp2_with fail
          generalize wr.alloc (.cells #[.slice a0 ss.length c0, .slice a1 cs.length c1, .bool f, .slice a3 bs.length c3] 109) = w1 at X1 Y1 R0 R1 R3 B1 y0 y1 y2 y3 e1 e2 e4 e12 zy zx ⊢
          refine wp_region_held_drew (S := fun w' => w'.cell? ⟨wr.heap.size, 0, none⟩ = some (.slice a0 ss.length c0) /\ w'.cell? ⟨wr.heap.size, 1, none⟩ = some (.slice a1 cs.length c1) /\ w'.cell? ⟨wr.heap.size, 2, none⟩ = some (.bool f) /\ w'.cell? ⟨wr.heap.size, 3, none⟩ = some (.slice a3 bs.length c3) /\ w'.cell? ⟨w.heap.size, 1, none⟩ = some (.int .i64 x.n) /\ w'.cell? ⟨w.heap.size, 2, none⟩ = some (.int .i64 x.s)) (by kernel_rfl) ?_ (fun hHeld => ?_)
          . exact ⟨y0, y1, y2, y3, e1, e2⟩
          refine held_t 0 hHeld ?_
          refine held_one (i := 1) (by kernel_rfl) rfl (by kernel_rfl) (fun K hK => ?_)
          go_simp
          refine (implMemOk_any _ E _ _ _ _ _ _ _ _ _ ss cs f bs R0.drew R1.drew R3.drew hwm).mono ?_
          rintro e w2 ⟨rfl, b2⟩
          rw [hM]
          have b2' : Below w1.heap.size w1 w2 := (Below.refl w1.heap.size w1).drew.trans b2
          clear b2
          go_wp2_with fail
          clear hHeld
          refine hK.out _ _ ?_ (fun hHeld => ?_)
          . exact ⟨(b2'.cell (p := ⟨wr.heap.size, 0, none⟩) zy).trans y0, (b2'.cell (p := ⟨wr.heap.size, 1, none⟩) zy).trans y1, (b2'.cell (p := ⟨wr.heap.size, 2, none⟩) zy).trans y2, (b2'.cell (p := ⟨wr.heap.size, 3, none⟩) zy).trans y3, (b2'.cell (p := ⟨w.heap.size, 1, none⟩) zx).trans e1, (b2'.cell (p := ⟨w.heap.size, 2, none⟩) zx).trans e2⟩
          clear hK K
          refine held_t 2 hHeld ?_
          refine held_t 3 hHeld ?_
          refine held_t 4 hHeld ?_
          refine held_t 5 hHeld ?_
          refine held_t 6 hHeld ?_
          refine held_t 7 hHeld ?_
          refine held_t 8 hHeld ?_
          refine held_one (i := 9) (by kernel_rfl) rfl (by kernel_rfl) (fun K hK => ?_)
          go_simp
          refine (sectorsOf_any _ x.n x.s ⟨g3, g4⟩).mono ?_
          rintro e w3 ⟨rfl, b3⟩
          have b3' : Below w1.heap.size w1 w3 := Below.andThen b2' b3
          clear b3
          go_wp2_with fail
          clear hHeld
          refine hK.out _ _ ?_ (fun hHeld => ?_)
          . exact ⟨(b3'.cell (p := ⟨wr.heap.size, 0, none⟩) zy).trans y0, (b3'.cell (p := ⟨wr.heap.size, 1, none⟩) zy).trans y1, (b3'.cell (p := ⟨wr.heap.size, 2, none⟩) zy).trans y2, (b3'.cell (p := ⟨wr.heap.size, 3, none⟩) zy).trans y3, (b3'.cell (p := ⟨w.heap.size, 1, none⟩) zx).trans e1, (b3'.cell (p := ⟨w.heap.size, 2, none⟩) zx).trans e2⟩
          clear hK K
          refine held_t 10 hHeld ?_
          refine held_t 11 hHeld ?_
          refine wpAnyH_done (by kernel_rfl) ?_ _
          clear hHeld
          have n0 := (b3'.cell (p := ⟨w.heap.size, 4, none⟩) zx).trans e4
          have n1 := (b3'.cell (p := ⟨w.heap.size, 12, none⟩) zx).trans e12
          have n2 := (b3'.cell (p := ⟨wr.heap.size, 2, none⟩) zy).trans y2
          have HB := hidden (hA.trans ((B1.trans (b3'.mono B1.size)).mono hA.size))
          go_wp2
          go_ret
          exact ⟨ret_bool (by rw [show memsB x ms = false from (by unfold memsB; rw [allIx_no HDJ.out (by unfold memAt; simp [HS.out])]; rfl)]), HB.out⟩
    . have e : j = nm := by omega
      subst e
      have hAll : allIx (memAt x) ms = true := allIx_iff.2 (fun q m hq => hall q m (by have := (List.getElem?_eq_some_iff.1 hq).1; omega) hq)
      have HB := hidden (hA.trans (hb.mono hA.size))
      have hR : memsB x ms = true := by unfold memsB; rw [hAll, hl]; simpa using HN.out
      go_wp2
      go_ret
      exact ⟨ret_bool hR.symm, HB.out⟩
 . have hN1 : ((nm : Int) == x.n) = false := by simpa using hN
   have hN2 : ((nm : Int) != x.n) = true := by simpa using hN
   have hR : memsB x ms = false := by unfold memsB; rw [hl]; simp [hN]
   have HR := hidden hR
   clear hN hR
   go_enter Tryz.func127, Tryz.ntmps127
   go_wp2
   go_ret
   exact ⟨ret_bool HR.out.symm, hA⟩

theorem dirtyOk_any (w : World) (G : TypeId) (x : ArrN) (am ad : Option Addr) (nm cm nd cd : Nat) (ds : List (Int × List Int)) (h0 : (tWrS G).Rd w [.slice ad nd cd] ds) (hw : wtWrS ds <= 2097152) (hg : geoB x.n x.s = true) :
 Calls Tryz.prog 129 #[.agg #[.int .i64 x.id, .int .i64 x.n, .int .i64 x.s, .slice am nm cm, .int .i64 x.lost, .int .i64 x.built, .int .i64 x.seq, .int .i64 x.tail, .int .i64 x.gen, .slice ad nd cd, .int .i64 x.fuse, .bool x.down, .bool x.broken]] w fun e w' => e = .returned (.bool (entsB x ds)) /\ Below w.heap.size w w' := by
 obtain ⟨hl, hc, hm⟩ := row_length h0
 obtain ⟨g1, g2, g3, g4⟩ := geoB_iff.1 hg
 have hA := new_below w (.cells #[.int .i64 x.id, .int .i64 x.n, .int .i64 x.s, .slice am nm cm, .int .i64 x.lost, .int .i64 x.built, .int .i64 x.seq, .int .i64 x.tail, .int .i64 x.gen, .slice ad nd cd, .int .i64 x.fuse, .bool x.down, .bool x.broken] 29)
 have X := Box.new w 29 #[.int .i64 x.id, .int .i64 x.n, .int .i64 x.s, .slice am nm cm, .int .i64 x.lost, .int .i64 x.built, .int .i64 x.seq, .int .i64 x.tail, .int .i64 x.gen, .slice ad nd cd, .int .i64 x.fuse, .bool x.down, .bool x.broken]
 have zA := X.lt
 have hnd : nd <= 2097152 := by unfold wtWrS at hw; omega
 have h1 := h0.below hA
 obtain ⟨k0, k1, k2, k3, k4, k5, k6, k7, k8, k9, k10, k11, k12⟩ := X.cells13
 go_enter Tryz.func129, Tryz.ntmps129
 go_wp2
 generalize w.alloc (.cells #[.int .i64 x.id, .int .i64 x.n, .int .i64 x.s, .slice am nm cm, .int .i64 x.lost, .int .i64 x.built, .int .i64 x.seq, .int .i64 x.tail, .int .i64 x.gen, .slice ad nd cd, .int .i64 x.fuse, .bool x.down, .bool x.broken] 29) = W at hA X zA h1 k0 k1 k2 k3 k4 k5 k6 k7 k8 k9 k10 k11 k12 ⊢
 clear k0 k1 k2 k3 k4 k5 k6 k7 k8 k9 k10 k11 k12
 go_loopw [8] (fun i wr => ∃ j : Nat, j <= nd /\ i = .int .i64 j /\ (∀ (q : Nat) (d : Int × List Int), q < j -> ds[q]? = some d -> entAt x ds q d = true) /\ Below W.heap.size W wr) (fun i _ => nd - (intOf i).toNat)
 case atStart => exact ⟨0, Nat.zero_le _, rfl, fun q d hq => by omega, Below.refl _ _⟩
 case round =>
  obtain ⟨j, hj, rfl, hall, hb⟩ := hrel
  have Xr := X.below hb zA
  by_cases hjn : j < nd
  . rcases pairs_at rfl h1 with h0' | ⟨b, off, rfl, hbl, hcs⟩
    . omega
    have hdj : ds[j]? = some (ds[j]'(by omega)) := List.getElem?_eq_getElem (by omega)
    generalize ds[j]'(by omega) = d at hdj
    obtain ⟨v0, v1, hv0, hv1, hrv⟩ := hcs j d hdj
    obtain ⟨rfl, hrw⟩ := wr_rd hrv
    obtain ⟨av, cv, rfl⟩ := row_shape hrw
    obtain ⟨y, zs⟩ := d
    simp only at hv0 hv1 hrw hrv
    have u0 := (hb.cell (p := ⟨b, off + j * 2, none⟩) hbl).trans hv0
    have u1 := (hb.cell (p := ⟨b, off + j * 2 + 1, none⟩) hbl).trans hv1
    have i1 : (0 : Int) <= (j : Int) := by omega
    have i2 : (j : Int) < (nd : Int) := by omega
    have hwz : zs.length <= 2097152 := Nat.le_trans (inner_le' hdj) hw
    have HDJ := hidden hdj
    have b1 := new_below wr (.cells #[.int .i64 y, .slice av zs.length cv] 86)
    have Y1 := Box.new wr 86 #[.int .i64 y, .slice av zs.length cv]
    have X1 := Xr.below b1 Xr.lt
    have RZ := (hrw.below hb).below b1
    have B1 := hb.trans (b1.mono hb.size)
    obtain ⟨y0, y1⟩ := Y1.cells2
    obtain ⟨e0, e1, e2, e3, e4, e5, e6, e7, e8, e9, e10, e11, e12⟩ := X1.cells13
    have zy := Y1.lt
    have zx := X1.lt
    have zb : b < (wr.alloc (.cells #[.int .i64 y, .slice av zs.length cv] 86)).heap.size := Nat.lt_of_lt_of_le hbl B1.size
    have hq : ∀ (p : Nat) (q : Int × List Int), ds[p]? = some q -> (wr.alloc (.cells #[.int .i64 y, .slice av zs.length cv] 86)).cell? ⟨b, off + p * 2, none⟩ = some (.int .i64 q.1) := fun p q hpq => by
     obtain ⟨c0, c1, hc0, hc1, hrc⟩ := hcs p q hpq
     obtain ⟨rfl, _⟩ := wr_rd hrc
     exact (B1.cell (p := ⟨b, off + p * 2, none⟩) hbl).trans hc0
    have HQ := hidden hq
    clear hcs hv0 hv1 hrv hrw hdj hq b1 e0 e3 e4 e5 e6 e7 e8 e10 e11 e12
    cases hI : stripeB x.n x.s y
    . skip
      go_wp2_with fail
      generalize wr.alloc (.cells #[.int .i64 y, .slice av zs.length cv] 86) = w1 at X1 Y1 RZ B1 y0 y1 e1 e2 e9 zy zx zb HQ  ⊢
      refine wp_region_held_drew (S := fun w' => w'.cell? ⟨wr.heap.size, 0, none⟩ = some (.int .i64 y) /\ w'.cell? ⟨w.heap.size, 1, none⟩ = some (.int .i64 x.n) /\ w'.cell? ⟨w.heap.size, 2, none⟩ = some (.int .i64 x.s) /\ w'.cell? ⟨w.heap.size, 9, none⟩ = some (.slice (some ⟨b, off, none⟩) nd cd)) (by kernel_rfl) ?_ (fun hHeld => ?_)
      . exact ⟨y0, e1, e2, e9⟩
      refine held_t 0 hHeld ?_
      refine held_t 1 hHeld ?_
      refine held_t 2 hHeld ?_
      refine held_t 3 hHeld ?_
      refine held_one (i := 4) (by kernel_rfl) rfl (by kernel_rfl) (fun K hK => ?_)
      go_simp
      refine (hasStripe_any _ x.n x.s y).mono ?_
      rintro e w2 ⟨rfl, b2⟩
      have b2' : Below w1.heap.size w1 w2 := (Below.refl w1.heap.size w1).drew.trans b2
      clear b2
      rw [hI]
      go_wp2_with fail
      clear hHeld
      refine hK.out _ _ ?_ (fun hHeld => ?_)
      . exact ⟨(b2'.cell (p := ⟨wr.heap.size, 0, none⟩) zy).trans y0, (b2'.cell (p := ⟨w.heap.size, 1, none⟩) zx).trans e1, (b2'.cell (p := ⟨w.heap.size, 2, none⟩) zx).trans e2, (b2'.cell (p := ⟨w.heap.size, 9, none⟩) zx).trans e9⟩
      clear hK K
      refine held_t 5 hHeld ?_
      refine held_t 6 hHeld ?_
      refine held_p 7 hHeld ?_
      refine held_p 8 hHeld ?_
      refine held_p 9 hHeld ?_
      refine held_p 10 hHeld ?_
      refine held_p 11 hHeld ?_
      refine held_p 12 hHeld ?_
      refine held_p 13 hHeld ?_
      refine held_p 14 hHeld ?_
      refine held_p 15 hHeld ?_
      refine held_p 16 hHeld ?_
      refine held_p 17 hHeld ?_
      refine held_p 18 hHeld ?_
      refine held_p 19 hHeld ?_
      refine held_p 20 hHeld ?_
      refine held_t 21 hHeld ?_
      refine wpAnyH_done (by kernel_rfl) ?_ _
      clear hHeld
      have HB := hidden (hA.trans ((B1.trans (b2'.mono B1.size)).mono hA.size))
      have HE := hidden (entsB_no (x := x) HDJ.out (entAt_1 (by rw [← stripe_in6 hg]; exact hI)))
      go_wp2
      go_ret
      exact ⟨ret_bool HE.out.symm, HB.out⟩
    . have HI := hidden ((stripe_in6 hg).symm.trans hI)
      by_cases hj0 : j = 0
      . subst hj0
        simp only [Nat.zero_mul, Nat.add_zero] at u0 u1
        by_cases hL : (zs.length : Int) = x.n - 1
        . have hL1 : ((zs.length : Int) == x.n - 1) = true := by simpa using hL
          have hL2 : ((zs.length : Int) != x.n - 1) = false := by simpa using hL
          have HL := hidden hL
          have hsa : secB zs = allW zs := sec_all6 (by omega)
          have HSA := hidden hsa
          clear hL hsa
          cases hZ : secB zs
          . have HZ := hidden (HSA.out.symm.trans hZ)
            go_wp2_with fail
            generalize wr.alloc (.cells #[.int .i64 y, .slice av zs.length cv] 86) = w1 at X1 Y1 RZ B1 y0 y1 e1 e2 e9 zy zx zb HQ  ⊢
            refine wp_region_held_drew (S := fun w' => w'.cell? ⟨wr.heap.size, 0, none⟩ = some (.int .i64 y) /\ w'.cell? ⟨w.heap.size, 1, none⟩ = some (.int .i64 x.n) /\ w'.cell? ⟨w.heap.size, 2, none⟩ = some (.int .i64 x.s) /\ w'.cell? ⟨w.heap.size, 9, none⟩ = some (.slice (some ⟨b, off, none⟩) nd cd)) (by kernel_rfl) ?_ (fun hHeld => ?_)
            . exact ⟨y0, e1, e2, e9⟩
            refine held_t 0 hHeld ?_
            refine held_t 1 hHeld ?_
            refine held_t 2 hHeld ?_
            refine held_t 3 hHeld ?_
            refine held_one (i := 4) (by kernel_rfl) rfl (by kernel_rfl) (fun K hK => ?_)
            go_simp
            refine (hasStripe_any _ x.n x.s y).mono ?_
            rintro e w2 ⟨rfl, b2⟩
            have b2' : Below w1.heap.size w1 w2 := (Below.refl w1.heap.size w1).drew.trans b2
            clear b2
            rw [hI]
            go_wp2_with fail
            clear hHeld
            refine hK.out _ _ ?_ (fun hHeld => ?_)
            . exact ⟨(b2'.cell (p := ⟨wr.heap.size, 0, none⟩) zy).trans y0, (b2'.cell (p := ⟨w.heap.size, 1, none⟩) zx).trans e1, (b2'.cell (p := ⟨w.heap.size, 2, none⟩) zx).trans e2, (b2'.cell (p := ⟨w.heap.size, 9, none⟩) zx).trans e9⟩
            clear hK K
            refine held_t 5 hHeld ?_
            refine held_t 6 hHeld ?_
            refine held_t 7 hHeld ?_
            refine held_t 8 hHeld ?_
            refine held_t 9 hHeld ?_
            refine held_p 10 hHeld ?_
            refine held_p 11 hHeld ?_
            refine held_p 12 hHeld ?_
            refine held_p 13 hHeld ?_
            refine held_p 14 hHeld ?_
            refine held_p 15 hHeld ?_
            refine held_p 16 hHeld ?_
            refine held_p 17 hHeld ?_
            refine held_p 18 hHeld ?_
            refine held_p 19 hHeld ?_
            refine held_t 20 hHeld ?_
            refine held_t 21 hHeld ?_
            refine wpAnyH_done (by kernel_rfl) ?_ _
            clear hHeld
            have my1 := (b2'.cell (p := ⟨wr.heap.size, 1, none⟩) zy).trans y1
            have me1 := (b2'.cell (p := ⟨w.heap.size, 1, none⟩) zx).trans e1
            have me2 := (b2'.cell (p := ⟨w.heap.size, 2, none⟩) zx).trans e2
            have my := Nat.lt_of_lt_of_le zy b2'.size
            have mx := Nat.lt_of_lt_of_le zx b2'.size
            have RZ2 := RZ.below b2'
            go_wp2_with fail
            refine wp_region_held_drew (S := fun w' => w'.cell? ⟨wr.heap.size, 1, none⟩ = some (.slice av zs.length cv) /\ w'.cell? ⟨w.heap.size, 1, none⟩ = some (.int .i64 x.n) /\ w'.cell? ⟨w.heap.size, 2, none⟩ = some (.int .i64 x.s)) (by kernel_rfl) ?_ (fun hHeld => ?_)
            . exact ⟨my1, me1, me2⟩
            refine held_t 0 hHeld ?_
            refine held_t 1 hHeld ?_
            refine held_t 2 hHeld ?_
            refine held_t 3 hHeld ?_
            refine held_t 4 hHeld ?_
            refine held_one (i := 5) (by kernel_rfl) rfl (by kernel_rfl) (fun K hK => ?_)
            go_simp
            refine (perStripe_any _ x.n x.s g1 g2).mono ?_
            rintro e w3 ⟨rfl, b3⟩
            have b3' : Below w2.heap.size w2 w3 := (Below.refl w2.heap.size w2).drew.trans b3
            clear b3
            go_wp2_with fail
            clear hHeld
            refine hK.out _ _ ?_ (fun hHeld => ?_)
            . exact ⟨(b3'.cell (p := ⟨wr.heap.size, 1, none⟩) my).trans my1, (b3'.cell (p := ⟨w.heap.size, 1, none⟩) mx).trans me1, (b3'.cell (p := ⟨w.heap.size, 2, none⟩) mx).trans me2⟩
            clear hK K
            refine held_t 6 hHeld ?_
            refine held_t 7 hHeld ?_
            refine held_t 8 hHeld ?_
            refine held_t 9 hHeld ?_
            refine held_one (i := 10) (by kernel_rfl) rfl (by kernel_rfl) (fun K hK => ?_)
            go_simp
            refine (implSecOk_any _ _ _ _ zs rfl (ints_rd (RZ2.below b3')).1 hwz).mono ?_
            rintro e w4 ⟨rfl, s4⟩
            have b4' : Below w2.heap.size w2 w4 := Below.andThen b3' (s4.below _)
            clear s4
            rw [hZ]
            go_wp2_with fail
            clear hHeld
            refine hK.out _ _ ?_ (fun hHeld => ?_)
            . exact ⟨(b4'.cell (p := ⟨wr.heap.size, 1, none⟩) my).trans my1, (b4'.cell (p := ⟨w.heap.size, 1, none⟩) mx).trans me1, (b4'.cell (p := ⟨w.heap.size, 2, none⟩) mx).trans me2⟩
            clear hK K
            refine held_t 11 hHeld ?_
            refine held_t 12 hHeld ?_
            refine wpAnyH_done (by kernel_rfl) ?_ _
            clear hHeld
            have HB := hidden (hA.trans ((B1.trans ((Below.andThen b2' b4').mono B1.size)).mono hA.size))
            have HE := hidden (entsB_no (x := x) HDJ.out (entAt_3 HZ.out))
            go_wp2
            go_ret
            exact ⟨ret_bool HE.out.symm, HB.out⟩
          . have HZ := hidden (HSA.out.symm.trans hZ)
            go_wp2_with fail
            generalize wr.alloc (.cells #[.int .i64 y, .slice av zs.length cv] 86) = w1 at X1 Y1 RZ B1 y0 y1 e1 e2 e9 zy zx zb HQ  ⊢
            refine wp_region_held_drew (S := fun w' => w'.cell? ⟨wr.heap.size, 0, none⟩ = some (.int .i64 y) /\ w'.cell? ⟨w.heap.size, 1, none⟩ = some (.int .i64 x.n) /\ w'.cell? ⟨w.heap.size, 2, none⟩ = some (.int .i64 x.s) /\ w'.cell? ⟨w.heap.size, 9, none⟩ = some (.slice (some ⟨b, off, none⟩) nd cd)) (by kernel_rfl) ?_ (fun hHeld => ?_)
            . exact ⟨y0, e1, e2, e9⟩
            refine held_t 0 hHeld ?_
            refine held_t 1 hHeld ?_
            refine held_t 2 hHeld ?_
            refine held_t 3 hHeld ?_
            refine held_one (i := 4) (by kernel_rfl) rfl (by kernel_rfl) (fun K hK => ?_)
            go_simp
            refine (hasStripe_any _ x.n x.s y).mono ?_
            rintro e w2 ⟨rfl, b2⟩
            have b2' : Below w1.heap.size w1 w2 := (Below.refl w1.heap.size w1).drew.trans b2
            clear b2
            rw [hI]
            go_wp2_with fail
            clear hHeld
            refine hK.out _ _ ?_ (fun hHeld => ?_)
            . exact ⟨(b2'.cell (p := ⟨wr.heap.size, 0, none⟩) zy).trans y0, (b2'.cell (p := ⟨w.heap.size, 1, none⟩) zx).trans e1, (b2'.cell (p := ⟨w.heap.size, 2, none⟩) zx).trans e2, (b2'.cell (p := ⟨w.heap.size, 9, none⟩) zx).trans e9⟩
            clear hK K
            refine held_t 5 hHeld ?_
            refine held_t 6 hHeld ?_
            refine held_t 7 hHeld ?_
            refine held_t 8 hHeld ?_
            refine held_t 9 hHeld ?_
            refine held_p 10 hHeld ?_
            refine held_p 11 hHeld ?_
            refine held_p 12 hHeld ?_
            refine held_p 13 hHeld ?_
            refine held_p 14 hHeld ?_
            refine held_p 15 hHeld ?_
            refine held_p 16 hHeld ?_
            refine held_p 17 hHeld ?_
            refine held_p 18 hHeld ?_
            refine held_p 19 hHeld ?_
            refine held_t 20 hHeld ?_
            refine held_t 21 hHeld ?_
            refine wpAnyH_done (by kernel_rfl) ?_ _
            clear hHeld
            have my1 := (b2'.cell (p := ⟨wr.heap.size, 1, none⟩) zy).trans y1
            have me1 := (b2'.cell (p := ⟨w.heap.size, 1, none⟩) zx).trans e1
            have me2 := (b2'.cell (p := ⟨w.heap.size, 2, none⟩) zx).trans e2
            have my := Nat.lt_of_lt_of_le zy b2'.size
            have mx := Nat.lt_of_lt_of_le zx b2'.size
            have RZ2 := RZ.below b2'
            go_wp2_with fail
            refine wp_region_held_drew (S := fun w' => w'.cell? ⟨wr.heap.size, 1, none⟩ = some (.slice av zs.length cv) /\ w'.cell? ⟨w.heap.size, 1, none⟩ = some (.int .i64 x.n) /\ w'.cell? ⟨w.heap.size, 2, none⟩ = some (.int .i64 x.s)) (by kernel_rfl) ?_ (fun hHeld => ?_)
            . exact ⟨my1, me1, me2⟩
            refine held_t 0 hHeld ?_
            refine held_t 1 hHeld ?_
            refine held_t 2 hHeld ?_
            refine held_t 3 hHeld ?_
            refine held_t 4 hHeld ?_
            refine held_one (i := 5) (by kernel_rfl) rfl (by kernel_rfl) (fun K hK => ?_)
            go_simp
            refine (perStripe_any _ x.n x.s g1 g2).mono ?_
            rintro e w3 ⟨rfl, b3⟩
            have b3' : Below w2.heap.size w2 w3 := (Below.refl w2.heap.size w2).drew.trans b3
            clear b3
            go_wp2_with fail
            clear hHeld
            refine hK.out _ _ ?_ (fun hHeld => ?_)
            . exact ⟨(b3'.cell (p := ⟨wr.heap.size, 1, none⟩) my).trans my1, (b3'.cell (p := ⟨w.heap.size, 1, none⟩) mx).trans me1, (b3'.cell (p := ⟨w.heap.size, 2, none⟩) mx).trans me2⟩
            clear hK K
            refine held_t 6 hHeld ?_
            refine held_t 7 hHeld ?_
            refine held_t 8 hHeld ?_
            refine held_t 9 hHeld ?_
            refine held_one (i := 10) (by kernel_rfl) rfl (by kernel_rfl) (fun K hK => ?_)
            go_simp
            refine (implSecOk_any _ _ _ _ zs rfl (ints_rd (RZ2.below b3')).1 hwz).mono ?_
            rintro e w4 ⟨rfl, s4⟩
            have b4' : Below w2.heap.size w2 w4 := Below.andThen b3' (s4.below _)
            clear s4
            rw [hZ]
            go_wp2_with fail
            clear hHeld
            refine hK.out _ _ ?_ (fun hHeld => ?_)
            . exact ⟨(b4'.cell (p := ⟨wr.heap.size, 1, none⟩) my).trans my1, (b4'.cell (p := ⟨w.heap.size, 1, none⟩) mx).trans me1, (b4'.cell (p := ⟨w.heap.size, 2, none⟩) mx).trans me2⟩
            clear hK K
            refine held_t 11 hHeld ?_
            refine held_t 12 hHeld ?_
            refine wpAnyH_done (by kernel_rfl) ?_ _
            clear hHeld
            have HB := hidden (B1.trans ((Below.andThen b2' b4').mono B1.size))
            have hat : entAt x ds (0) (y, zs) = true := entAt_4 HI.out HL.out HZ.out
            go_wp2
            go_roundw
            case rel => exact ⟨0 + 1, by omega, by go_num, fun q d hq hm' => by
             rcases Nat.lt_or_ge q (0) with h | h
             . exact hall q d h hm'
             . obtain rfl : q = 0 := by omega
               rw [HDJ.out] at hm'
               cases hm'
               exact hat, HB.out⟩
            case measure => simp [intOf]; omega
        . have hL1 : ((zs.length : Int) == x.n - 1) = false := by simpa using hL
          have hL2 : ((zs.length : Int) != x.n - 1) = true := by simpa using hL
          have HL := hidden hL
          clear hL
          go_wp2_with fail
          generalize wr.alloc (.cells #[.int .i64 y, .slice av zs.length cv] 86) = w1 at X1 Y1 RZ B1 y0 y1 e1 e2 e9 zy zx zb HQ  ⊢
          refine wp_region_held_drew (S := fun w' => w'.cell? ⟨wr.heap.size, 0, none⟩ = some (.int .i64 y) /\ w'.cell? ⟨w.heap.size, 1, none⟩ = some (.int .i64 x.n) /\ w'.cell? ⟨w.heap.size, 2, none⟩ = some (.int .i64 x.s) /\ w'.cell? ⟨w.heap.size, 9, none⟩ = some (.slice (some ⟨b, off, none⟩) nd cd)) (by kernel_rfl) ?_ (fun hHeld => ?_)
          . exact ⟨y0, e1, e2, e9⟩
          refine held_t 0 hHeld ?_
          refine held_t 1 hHeld ?_
          refine held_t 2 hHeld ?_
          refine held_t 3 hHeld ?_
          refine held_one (i := 4) (by kernel_rfl) rfl (by kernel_rfl) (fun K hK => ?_)
          go_simp
          refine (hasStripe_any _ x.n x.s y).mono ?_
          rintro e w2 ⟨rfl, b2⟩
          have b2' : Below w1.heap.size w1 w2 := (Below.refl w1.heap.size w1).drew.trans b2
          clear b2
          rw [hI]
          go_wp2_with fail
          clear hHeld
          refine hK.out _ _ ?_ (fun hHeld => ?_)
          . exact ⟨(b2'.cell (p := ⟨wr.heap.size, 0, none⟩) zy).trans y0, (b2'.cell (p := ⟨w.heap.size, 1, none⟩) zx).trans e1, (b2'.cell (p := ⟨w.heap.size, 2, none⟩) zx).trans e2, (b2'.cell (p := ⟨w.heap.size, 9, none⟩) zx).trans e9⟩
          clear hK K
          refine held_t 5 hHeld ?_
          refine held_t 6 hHeld ?_
          refine held_t 7 hHeld ?_
          refine held_t 8 hHeld ?_
          refine held_t 9 hHeld ?_
          refine held_p 10 hHeld ?_
          refine held_p 11 hHeld ?_
          refine held_p 12 hHeld ?_
          refine held_p 13 hHeld ?_
          refine held_p 14 hHeld ?_
          refine held_p 15 hHeld ?_
          refine held_p 16 hHeld ?_
          refine held_p 17 hHeld ?_
          refine held_p 18 hHeld ?_
          refine held_p 19 hHeld ?_
          refine held_t 20 hHeld ?_
          refine held_t 21 hHeld ?_
          refine wpAnyH_done (by kernel_rfl) ?_ _
          clear hHeld
          have my1 := (b2'.cell (p := ⟨wr.heap.size, 1, none⟩) zy).trans y1
          have me1 := (b2'.cell (p := ⟨w.heap.size, 1, none⟩) zx).trans e1
          have me2 := (b2'.cell (p := ⟨w.heap.size, 2, none⟩) zx).trans e2
          have my := Nat.lt_of_lt_of_le zy b2'.size
          have mx := Nat.lt_of_lt_of_le zx b2'.size
          have RZ2 := RZ.below b2'
          go_wp2_with fail
          refine wp_region_held_drew (S := fun w' => w'.cell? ⟨wr.heap.size, 1, none⟩ = some (.slice av zs.length cv) /\ w'.cell? ⟨w.heap.size, 1, none⟩ = some (.int .i64 x.n) /\ w'.cell? ⟨w.heap.size, 2, none⟩ = some (.int .i64 x.s)) (by kernel_rfl) ?_ (fun hHeld => ?_)
          . exact ⟨my1, me1, me2⟩
          refine held_t 0 hHeld ?_
          refine held_t 1 hHeld ?_
          refine held_t 2 hHeld ?_
          refine held_t 3 hHeld ?_
          refine held_t 4 hHeld ?_
          refine held_one (i := 5) (by kernel_rfl) rfl (by kernel_rfl) (fun K hK => ?_)
          go_simp
          refine (perStripe_any _ x.n x.s g1 g2).mono ?_
          rintro e w3 ⟨rfl, b3⟩
          have b3' : Below w2.heap.size w2 w3 := (Below.refl w2.heap.size w2).drew.trans b3
          clear b3
          go_wp2_with fail
          clear hHeld
          refine hK.out _ _ ?_ (fun hHeld => ?_)
          . exact ⟨(b3'.cell (p := ⟨wr.heap.size, 1, none⟩) my).trans my1, (b3'.cell (p := ⟨w.heap.size, 1, none⟩) mx).trans me1, (b3'.cell (p := ⟨w.heap.size, 2, none⟩) mx).trans me2⟩
          clear hK K
          refine held_t 6 hHeld ?_
          refine held_t 7 hHeld ?_
          refine held_p 8 hHeld ?_
          refine held_p 9 hHeld ?_
          refine held_none (i := 10) (by kernel_rfl) rfl (by kernel_rfl) hHeld ?_
          simp only [Act.put, List.setIfInBounds_toArray, List.set_cons_zero, List.set_cons_succ]
          refine held_p 11 hHeld ?_
          refine held_t 12 hHeld ?_
          refine wpAnyH_done (by kernel_rfl) ?_ _
          clear hHeld
          have HB := hidden (hA.trans ((B1.trans ((Below.andThen b2' b3').mono B1.size)).mono hA.size))
          have HE := hidden (entsB_no (x := x) HDJ.out (entAt_2 HL.out))
          go_wp2
          go_ret
          exact ⟨ret_bool HE.out.symm, HB.out⟩
      . obtain ⟨p, rfl⟩ : ∃ p, j = p + 1 := ⟨j - 1, by omega⟩
        have hpq : ds[p]? = some (ds[p]'(by omega)) := List.getElem?_eq_getElem (by omega)
        generalize ds[p]'(by omega) = q at hpq
        have qc := HQ.out p q hpq
        obtain ⟨s, zq⟩ := q
        simp only at qc
        have HPQ := hidden hpq
        clear hpq
        have j1 : IntKind.i64.wrap (((p + 1 : Nat) : Int) - 1) = (p : Int) := by rw [IntWalk.i64_in _ (by omega)]; omega
        have j2 : IntKind.i64.wrap ((p : Int) + 1 - 1) = (p : Int) := by rw [IntWalk.i64_in _ (by omega)]; omega
        have j3 : IntKind.i64.wrap (p : Int) = (p : Int) := IntWalk.i64_in _ (by omega)
        have j4 : (0 : Int) <= (p : Int) := by omega
        have j5 : (p : Int) < (nd : Int) := by omega
        have j6 : (0 : Int) < ((p + 1 : Nat) : Int) := by omega
        by_cases hlt : s < y
        . have hge : ¬ y <= s := by omega
          by_cases hL : (zs.length : Int) = x.n - 1
          . have hL1 : ((zs.length : Int) == x.n - 1) = true := by simpa using hL
            have hL2 : ((zs.length : Int) != x.n - 1) = false := by simpa using hL
            have HL := hidden hL
            have hsa : secB zs = allW zs := sec_all6 (by omega)
            have HSA := hidden hsa
            clear hL hsa
            cases hZ : secB zs
            . have HZ := hidden (HSA.out.symm.trans hZ)
              go_wp2_with fail
              generalize wr.alloc (.cells #[.int .i64 y, .slice av zs.length cv] 86) = w1 at X1 Y1 RZ B1 y0 y1 e1 e2 e9 zy zx zb HQ qc ⊢
              refine wp_region_held_drew (S := fun w' => w'.cell? ⟨wr.heap.size, 0, none⟩ = some (.int .i64 y) /\ w'.cell? ⟨w.heap.size, 1, none⟩ = some (.int .i64 x.n) /\ w'.cell? ⟨w.heap.size, 2, none⟩ = some (.int .i64 x.s) /\ w'.cell? ⟨w.heap.size, 9, none⟩ = some (.slice (some ⟨b, off, none⟩) nd cd) /\ w'.cell? ⟨b, off + p * 2, none⟩ = some (.int .i64 s)) (by kernel_rfl) ?_ (fun hHeld => ?_)
              . exact ⟨y0, e1, e2, e9, qc⟩
              refine held_t 0 hHeld ?_
              refine held_t 1 hHeld ?_
              refine held_t 2 hHeld ?_
              refine held_t 3 hHeld ?_
              refine held_one (i := 4) (by kernel_rfl) rfl (by kernel_rfl) (fun K hK => ?_)
              go_simp
              refine (hasStripe_any _ x.n x.s y).mono ?_
              rintro e w2 ⟨rfl, b2⟩
              have b2' : Below w1.heap.size w1 w2 := (Below.refl w1.heap.size w1).drew.trans b2
              clear b2
              rw [hI]
              go_wp2_with fail
              clear hHeld
              refine hK.out _ _ ?_ (fun hHeld => ?_)
              . exact ⟨(b2'.cell (p := ⟨wr.heap.size, 0, none⟩) zy).trans y0, (b2'.cell (p := ⟨w.heap.size, 1, none⟩) zx).trans e1, (b2'.cell (p := ⟨w.heap.size, 2, none⟩) zx).trans e2, (b2'.cell (p := ⟨w.heap.size, 9, none⟩) zx).trans e9, (b2'.cell (p := ⟨b, off + p * 2, none⟩) zb).trans qc⟩
              clear hK K
              refine held_t 5 hHeld ?_
              refine held_t 6 hHeld ?_
              refine held_t 7 hHeld ?_
              refine held_t 8 hHeld ?_
              refine held_t 9 hHeld ?_
              refine held_t 10 hHeld ?_
              refine held_t 11 hHeld ?_
              refine held_t 12 hHeld ?_
              refine held_t 13 hHeld ?_
              refine held_t 14 hHeld ?_
              refine held_t 15 hHeld ?_
              refine held_t 16 hHeld ?_
              refine held_t 17 hHeld ?_
              refine held_t 18 hHeld ?_
              refine held_t 19 hHeld ?_
              refine held_t 20 hHeld ?_
              refine held_t 21 hHeld ?_
              refine wpAnyH_done (by kernel_rfl) ?_ _
              clear hHeld
              have my1 := (b2'.cell (p := ⟨wr.heap.size, 1, none⟩) zy).trans y1
              have me1 := (b2'.cell (p := ⟨w.heap.size, 1, none⟩) zx).trans e1
              have me2 := (b2'.cell (p := ⟨w.heap.size, 2, none⟩) zx).trans e2
              have my := Nat.lt_of_lt_of_le zy b2'.size
              have mx := Nat.lt_of_lt_of_le zx b2'.size
              have RZ2 := RZ.below b2'
              go_wp2_with fail
              refine wp_region_held_drew (S := fun w' => w'.cell? ⟨wr.heap.size, 1, none⟩ = some (.slice av zs.length cv) /\ w'.cell? ⟨w.heap.size, 1, none⟩ = some (.int .i64 x.n) /\ w'.cell? ⟨w.heap.size, 2, none⟩ = some (.int .i64 x.s)) (by kernel_rfl) ?_ (fun hHeld => ?_)
              . exact ⟨my1, me1, me2⟩
              refine held_t 0 hHeld ?_
              refine held_t 1 hHeld ?_
              refine held_t 2 hHeld ?_
              refine held_t 3 hHeld ?_
              refine held_t 4 hHeld ?_
              refine held_one (i := 5) (by kernel_rfl) rfl (by kernel_rfl) (fun K hK => ?_)
              go_simp
              refine (perStripe_any _ x.n x.s g1 g2).mono ?_
              rintro e w3 ⟨rfl, b3⟩
              have b3' : Below w2.heap.size w2 w3 := (Below.refl w2.heap.size w2).drew.trans b3
              clear b3
              go_wp2_with fail
              clear hHeld
              refine hK.out _ _ ?_ (fun hHeld => ?_)
              . exact ⟨(b3'.cell (p := ⟨wr.heap.size, 1, none⟩) my).trans my1, (b3'.cell (p := ⟨w.heap.size, 1, none⟩) mx).trans me1, (b3'.cell (p := ⟨w.heap.size, 2, none⟩) mx).trans me2⟩
              clear hK K
              refine held_t 6 hHeld ?_
              refine held_t 7 hHeld ?_
              refine held_t 8 hHeld ?_
              refine held_t 9 hHeld ?_
              refine held_one (i := 10) (by kernel_rfl) rfl (by kernel_rfl) (fun K hK => ?_)
              go_simp
              refine (implSecOk_any _ _ _ _ zs rfl (ints_rd (RZ2.below b3')).1 hwz).mono ?_
              rintro e w4 ⟨rfl, s4⟩
              have b4' : Below w2.heap.size w2 w4 := Below.andThen b3' (s4.below _)
              clear s4
              rw [hZ]
              go_wp2_with fail
              clear hHeld
              refine hK.out _ _ ?_ (fun hHeld => ?_)
              . exact ⟨(b4'.cell (p := ⟨wr.heap.size, 1, none⟩) my).trans my1, (b4'.cell (p := ⟨w.heap.size, 1, none⟩) mx).trans me1, (b4'.cell (p := ⟨w.heap.size, 2, none⟩) mx).trans me2⟩
              clear hK K
              refine held_t 11 hHeld ?_
              refine held_t 12 hHeld ?_
              refine wpAnyH_done (by kernel_rfl) ?_ _
              clear hHeld
              have HB := hidden (hA.trans ((B1.trans ((Below.andThen b2' b4').mono B1.size)).mono hA.size))
              have HE := hidden (entsB_no (x := x) HDJ.out (entAt_3 HZ.out))
              go_wp2
              go_ret
              exact ⟨ret_bool HE.out.symm, HB.out⟩
            . have HZ := hidden (HSA.out.symm.trans hZ)
              go_wp2_with fail
              generalize wr.alloc (.cells #[.int .i64 y, .slice av zs.length cv] 86) = w1 at X1 Y1 RZ B1 y0 y1 e1 e2 e9 zy zx zb HQ qc ⊢
              refine wp_region_held_drew (S := fun w' => w'.cell? ⟨wr.heap.size, 0, none⟩ = some (.int .i64 y) /\ w'.cell? ⟨w.heap.size, 1, none⟩ = some (.int .i64 x.n) /\ w'.cell? ⟨w.heap.size, 2, none⟩ = some (.int .i64 x.s) /\ w'.cell? ⟨w.heap.size, 9, none⟩ = some (.slice (some ⟨b, off, none⟩) nd cd) /\ w'.cell? ⟨b, off + p * 2, none⟩ = some (.int .i64 s)) (by kernel_rfl) ?_ (fun hHeld => ?_)
              . exact ⟨y0, e1, e2, e9, qc⟩
              refine held_t 0 hHeld ?_
              refine held_t 1 hHeld ?_
              refine held_t 2 hHeld ?_
              refine held_t 3 hHeld ?_
              refine held_one (i := 4) (by kernel_rfl) rfl (by kernel_rfl) (fun K hK => ?_)
              go_simp
              refine (hasStripe_any _ x.n x.s y).mono ?_
              rintro e w2 ⟨rfl, b2⟩
              have b2' : Below w1.heap.size w1 w2 := (Below.refl w1.heap.size w1).drew.trans b2
              clear b2
              rw [hI]
              go_wp2_with fail
              clear hHeld
              refine hK.out _ _ ?_ (fun hHeld => ?_)
              . exact ⟨(b2'.cell (p := ⟨wr.heap.size, 0, none⟩) zy).trans y0, (b2'.cell (p := ⟨w.heap.size, 1, none⟩) zx).trans e1, (b2'.cell (p := ⟨w.heap.size, 2, none⟩) zx).trans e2, (b2'.cell (p := ⟨w.heap.size, 9, none⟩) zx).trans e9, (b2'.cell (p := ⟨b, off + p * 2, none⟩) zb).trans qc⟩
              clear hK K
              refine held_t 5 hHeld ?_
              refine held_t 6 hHeld ?_
              refine held_t 7 hHeld ?_
              refine held_t 8 hHeld ?_
              refine held_t 9 hHeld ?_
              refine held_t 10 hHeld ?_
              refine held_t 11 hHeld ?_
              refine held_t 12 hHeld ?_
              refine held_t 13 hHeld ?_
              refine held_t 14 hHeld ?_
              refine held_t 15 hHeld ?_
              refine held_t 16 hHeld ?_
              refine held_t 17 hHeld ?_
              refine held_t 18 hHeld ?_
              refine held_t 19 hHeld ?_
              refine held_t 20 hHeld ?_
              refine held_t 21 hHeld ?_
              refine wpAnyH_done (by kernel_rfl) ?_ _
              clear hHeld
              have my1 := (b2'.cell (p := ⟨wr.heap.size, 1, none⟩) zy).trans y1
              have me1 := (b2'.cell (p := ⟨w.heap.size, 1, none⟩) zx).trans e1
              have me2 := (b2'.cell (p := ⟨w.heap.size, 2, none⟩) zx).trans e2
              have my := Nat.lt_of_lt_of_le zy b2'.size
              have mx := Nat.lt_of_lt_of_le zx b2'.size
              have RZ2 := RZ.below b2'
              go_wp2_with fail
              refine wp_region_held_drew (S := fun w' => w'.cell? ⟨wr.heap.size, 1, none⟩ = some (.slice av zs.length cv) /\ w'.cell? ⟨w.heap.size, 1, none⟩ = some (.int .i64 x.n) /\ w'.cell? ⟨w.heap.size, 2, none⟩ = some (.int .i64 x.s)) (by kernel_rfl) ?_ (fun hHeld => ?_)
              . exact ⟨my1, me1, me2⟩
              refine held_t 0 hHeld ?_
              refine held_t 1 hHeld ?_
              refine held_t 2 hHeld ?_
              refine held_t 3 hHeld ?_
              refine held_t 4 hHeld ?_
              refine held_one (i := 5) (by kernel_rfl) rfl (by kernel_rfl) (fun K hK => ?_)
              go_simp
              refine (perStripe_any _ x.n x.s g1 g2).mono ?_
              rintro e w3 ⟨rfl, b3⟩
              have b3' : Below w2.heap.size w2 w3 := (Below.refl w2.heap.size w2).drew.trans b3
              clear b3
              go_wp2_with fail
              clear hHeld
              refine hK.out _ _ ?_ (fun hHeld => ?_)
              . exact ⟨(b3'.cell (p := ⟨wr.heap.size, 1, none⟩) my).trans my1, (b3'.cell (p := ⟨w.heap.size, 1, none⟩) mx).trans me1, (b3'.cell (p := ⟨w.heap.size, 2, none⟩) mx).trans me2⟩
              clear hK K
              refine held_t 6 hHeld ?_
              refine held_t 7 hHeld ?_
              refine held_t 8 hHeld ?_
              refine held_t 9 hHeld ?_
              refine held_one (i := 10) (by kernel_rfl) rfl (by kernel_rfl) (fun K hK => ?_)
              go_simp
              refine (implSecOk_any _ _ _ _ zs rfl (ints_rd (RZ2.below b3')).1 hwz).mono ?_
              rintro e w4 ⟨rfl, s4⟩
              have b4' : Below w2.heap.size w2 w4 := Below.andThen b3' (s4.below _)
              clear s4
              rw [hZ]
              go_wp2_with fail
              clear hHeld
              refine hK.out _ _ ?_ (fun hHeld => ?_)
              . exact ⟨(b4'.cell (p := ⟨wr.heap.size, 1, none⟩) my).trans my1, (b4'.cell (p := ⟨w.heap.size, 1, none⟩) mx).trans me1, (b4'.cell (p := ⟨w.heap.size, 2, none⟩) mx).trans me2⟩
              clear hK K
              refine held_t 11 hHeld ?_
              refine held_t 12 hHeld ?_
              refine wpAnyH_done (by kernel_rfl) ?_ _
              clear hHeld
              have HB := hidden (B1.trans ((Below.andThen b2' b4').mono B1.size))
              have hat : entAt x ds (p + 1) (y, zs) = true := (entAt_5 HI.out HL.out HZ.out HPQ.out).trans (by simpa using hlt)
              go_wp2
              go_roundw
              case rel => exact ⟨p + 1 + 1, by omega, by go_num, fun q d hq hm' => by
               rcases Nat.lt_or_ge q (p + 1) with h | h
               . exact hall q d h hm'
               . obtain rfl : q = p + 1 := by omega
                 rw [HDJ.out] at hm'
                 cases hm'
                 exact hat, HB.out⟩
              case measure => simp [intOf]; omega
          . have hL1 : ((zs.length : Int) == x.n - 1) = false := by simpa using hL
            have hL2 : ((zs.length : Int) != x.n - 1) = true := by simpa using hL
            have HL := hidden hL
            clear hL
            go_wp2_with fail
            generalize wr.alloc (.cells #[.int .i64 y, .slice av zs.length cv] 86) = w1 at X1 Y1 RZ B1 y0 y1 e1 e2 e9 zy zx zb HQ qc ⊢
            refine wp_region_held_drew (S := fun w' => w'.cell? ⟨wr.heap.size, 0, none⟩ = some (.int .i64 y) /\ w'.cell? ⟨w.heap.size, 1, none⟩ = some (.int .i64 x.n) /\ w'.cell? ⟨w.heap.size, 2, none⟩ = some (.int .i64 x.s) /\ w'.cell? ⟨w.heap.size, 9, none⟩ = some (.slice (some ⟨b, off, none⟩) nd cd) /\ w'.cell? ⟨b, off + p * 2, none⟩ = some (.int .i64 s)) (by kernel_rfl) ?_ (fun hHeld => ?_)
            . exact ⟨y0, e1, e2, e9, qc⟩
            refine held_t 0 hHeld ?_
            refine held_t 1 hHeld ?_
            refine held_t 2 hHeld ?_
            refine held_t 3 hHeld ?_
            refine held_one (i := 4) (by kernel_rfl) rfl (by kernel_rfl) (fun K hK => ?_)
            go_simp
            refine (hasStripe_any _ x.n x.s y).mono ?_
            rintro e w2 ⟨rfl, b2⟩
            have b2' : Below w1.heap.size w1 w2 := (Below.refl w1.heap.size w1).drew.trans b2
            clear b2
            rw [hI]
            go_wp2_with fail
            clear hHeld
            refine hK.out _ _ ?_ (fun hHeld => ?_)
            . exact ⟨(b2'.cell (p := ⟨wr.heap.size, 0, none⟩) zy).trans y0, (b2'.cell (p := ⟨w.heap.size, 1, none⟩) zx).trans e1, (b2'.cell (p := ⟨w.heap.size, 2, none⟩) zx).trans e2, (b2'.cell (p := ⟨w.heap.size, 9, none⟩) zx).trans e9, (b2'.cell (p := ⟨b, off + p * 2, none⟩) zb).trans qc⟩
            clear hK K
            refine held_t 5 hHeld ?_
            refine held_t 6 hHeld ?_
            refine held_t 7 hHeld ?_
            refine held_t 8 hHeld ?_
            refine held_t 9 hHeld ?_
            refine held_t 10 hHeld ?_
            refine held_t 11 hHeld ?_
            refine held_t 12 hHeld ?_
            refine held_t 13 hHeld ?_
            refine held_t 14 hHeld ?_
            refine held_t 15 hHeld ?_
            refine held_t 16 hHeld ?_
            refine held_t 17 hHeld ?_
            refine held_t 18 hHeld ?_
            refine held_t 19 hHeld ?_
            refine held_t 20 hHeld ?_
            refine held_t 21 hHeld ?_
            refine wpAnyH_done (by kernel_rfl) ?_ _
            clear hHeld
            have my1 := (b2'.cell (p := ⟨wr.heap.size, 1, none⟩) zy).trans y1
            have me1 := (b2'.cell (p := ⟨w.heap.size, 1, none⟩) zx).trans e1
            have me2 := (b2'.cell (p := ⟨w.heap.size, 2, none⟩) zx).trans e2
            have my := Nat.lt_of_lt_of_le zy b2'.size
            have mx := Nat.lt_of_lt_of_le zx b2'.size
            have RZ2 := RZ.below b2'
            go_wp2_with fail
            refine wp_region_held_drew (S := fun w' => w'.cell? ⟨wr.heap.size, 1, none⟩ = some (.slice av zs.length cv) /\ w'.cell? ⟨w.heap.size, 1, none⟩ = some (.int .i64 x.n) /\ w'.cell? ⟨w.heap.size, 2, none⟩ = some (.int .i64 x.s)) (by kernel_rfl) ?_ (fun hHeld => ?_)
            . exact ⟨my1, me1, me2⟩
            refine held_t 0 hHeld ?_
            refine held_t 1 hHeld ?_
            refine held_t 2 hHeld ?_
            refine held_t 3 hHeld ?_
            refine held_t 4 hHeld ?_
            refine held_one (i := 5) (by kernel_rfl) rfl (by kernel_rfl) (fun K hK => ?_)
            go_simp
            refine (perStripe_any _ x.n x.s g1 g2).mono ?_
            rintro e w3 ⟨rfl, b3⟩
            have b3' : Below w2.heap.size w2 w3 := (Below.refl w2.heap.size w2).drew.trans b3
            clear b3
            go_wp2_with fail
            clear hHeld
            refine hK.out _ _ ?_ (fun hHeld => ?_)
            . exact ⟨(b3'.cell (p := ⟨wr.heap.size, 1, none⟩) my).trans my1, (b3'.cell (p := ⟨w.heap.size, 1, none⟩) mx).trans me1, (b3'.cell (p := ⟨w.heap.size, 2, none⟩) mx).trans me2⟩
            clear hK K
            refine held_t 6 hHeld ?_
            refine held_t 7 hHeld ?_
            refine held_p 8 hHeld ?_
            refine held_p 9 hHeld ?_
            refine held_none (i := 10) (by kernel_rfl) rfl (by kernel_rfl) hHeld ?_
            simp only [Act.put, List.setIfInBounds_toArray, List.set_cons_zero, List.set_cons_succ]
            refine held_p 11 hHeld ?_
            refine held_t 12 hHeld ?_
            refine wpAnyH_done (by kernel_rfl) ?_ _
            clear hHeld
            have HB := hidden (hA.trans ((B1.trans ((Below.andThen b2' b3').mono B1.size)).mono hA.size))
            have HE := hidden (entsB_no (x := x) HDJ.out (entAt_2 HL.out))
            go_wp2
            go_ret
            exact ⟨ret_bool HE.out.symm, HB.out⟩
        . have hge : y <= s := by omega
          go_wp2_with fail
          generalize wr.alloc (.cells #[.int .i64 y, .slice av zs.length cv] 86) = w1 at X1 Y1 RZ B1 y0 y1 e1 e2 e9 zy zx zb HQ qc ⊢
          refine wp_region_held_drew (S := fun w' => w'.cell? ⟨wr.heap.size, 0, none⟩ = some (.int .i64 y) /\ w'.cell? ⟨w.heap.size, 1, none⟩ = some (.int .i64 x.n) /\ w'.cell? ⟨w.heap.size, 2, none⟩ = some (.int .i64 x.s) /\ w'.cell? ⟨w.heap.size, 9, none⟩ = some (.slice (some ⟨b, off, none⟩) nd cd) /\ w'.cell? ⟨b, off + p * 2, none⟩ = some (.int .i64 s)) (by kernel_rfl) ?_ (fun hHeld => ?_)
          . exact ⟨y0, e1, e2, e9, qc⟩
          refine held_t 0 hHeld ?_
          refine held_t 1 hHeld ?_
          refine held_t 2 hHeld ?_
          refine held_t 3 hHeld ?_
          refine held_one (i := 4) (by kernel_rfl) rfl (by kernel_rfl) (fun K hK => ?_)
          go_simp
          refine (hasStripe_any _ x.n x.s y).mono ?_
          rintro e w2 ⟨rfl, b2⟩
          have b2' : Below w1.heap.size w1 w2 := (Below.refl w1.heap.size w1).drew.trans b2
          clear b2
          rw [hI]
          go_wp2_with fail
          clear hHeld
          refine hK.out _ _ ?_ (fun hHeld => ?_)
          . exact ⟨(b2'.cell (p := ⟨wr.heap.size, 0, none⟩) zy).trans y0, (b2'.cell (p := ⟨w.heap.size, 1, none⟩) zx).trans e1, (b2'.cell (p := ⟨w.heap.size, 2, none⟩) zx).trans e2, (b2'.cell (p := ⟨w.heap.size, 9, none⟩) zx).trans e9, (b2'.cell (p := ⟨b, off + p * 2, none⟩) zb).trans qc⟩
          clear hK K
          refine held_t 5 hHeld ?_
          refine held_t 6 hHeld ?_
          refine held_t 7 hHeld ?_
          refine held_t 8 hHeld ?_
          refine held_t 9 hHeld ?_
          refine held_t 10 hHeld ?_
          refine held_t 11 hHeld ?_
          refine held_t 12 hHeld ?_
          refine held_t 13 hHeld ?_
          refine held_t 14 hHeld ?_
          refine held_t 15 hHeld ?_
          refine held_t 16 hHeld ?_
          refine held_t 17 hHeld ?_
          refine held_t 18 hHeld ?_
          refine held_t 19 hHeld ?_
          refine held_t 20 hHeld ?_
          refine held_t 21 hHeld ?_
          refine wpAnyH_done (by kernel_rfl) ?_ _
          clear hHeld
          have HB := hidden (hA.trans ((B1.trans (b2'.mono B1.size)).mono hA.size))
          have HE := hidden (entsB_no (x := x) HDJ.out (entAt_6 HPQ.out hge))
          go_wp2
          go_ret
          exact ⟨ret_bool HE.out.symm, HB.out⟩
  . have ej : j = nd := by omega
    subst ej
    have hAll : entsB x ds = true := allIx_iff.2 (fun q d hq => hall q d (by have := (List.getElem?_eq_some_iff.1 hq).1; omega) hq)
    have HB := hidden (hA.trans (hb.mono hA.size))
    go_wp2
    go_ret
    exact ⟨ret_bool hAll.symm, HB.out⟩

theorem recsOk_any (w : World) (x : ArrN) (am ad : Option Addr) (nm cm nd cd : Nat) :
 Calls Tryz.prog 128 #[.agg #[.int .i64 x.id, .int .i64 x.n, .int .i64 x.s, .slice am nm cm, .int .i64 x.lost, .int .i64 x.built, .int .i64 x.seq, .int .i64 x.tail, .int .i64 x.gen, .slice ad nd cd, .int .i64 x.fuse, .bool x.down, .bool x.broken]] w fun e w' => e = .returned (.bool (recB6 x)) /\ Below w.heap.size w w' := by
 have hA := new_below w (.cells #[.int .i64 x.id, .int .i64 x.n, .int .i64 x.s, .slice am nm cm, .int .i64 x.lost, .int .i64 x.built, .int .i64 x.seq, .int .i64 x.tail, .int .i64 x.gen, .slice ad nd cd, .int .i64 x.fuse, .bool x.down, .bool x.broken] 29)
 have X := Box.new w 29 #[.int .i64 x.id, .int .i64 x.n, .int .i64 x.s, .slice am nm cm, .int .i64 x.lost, .int .i64 x.built, .int .i64 x.seq, .int .i64 x.tail, .int .i64 x.gen, .slice ad nd cd, .int .i64 x.fuse, .bool x.down, .bool x.broken]
 obtain ⟨k0, k1, k2, k3, k4, k5, k6, k7, k8, k9, k10, k11, k12⟩ := X.cells13
 clear k0 k1 k2 k3 k4 k5 k8 k9 k10 k11 k12 X
 go_enter Tryz.func128, Tryz.ntmps128
 go_wp2_with fail
 refine (within_any _ _ _ _).mono ?_
 rintro e wq ⟨rfl, hq⟩
 obtain rfl := hq.symm
 cases hs : inB x.seq 0 60000
 . have HF : Hid (recB6 x = false) := by unfold Hid recB6; rw [hs]; rfl
   go_wp2
   go_ret
   exact ⟨ret_bool HF.out.symm, hA⟩
 . go_wp2_with fail
   refine (within_any _ _ _ _).mono ?_
   rintro e wq ⟨rfl, hq⟩
   obtain rfl := hq.symm
   cases ht : inB x.tail 0 60000
   . have HF : Hid (recB6 x = false) := by unfold Hid recB6; rw [hs, ht]; rfl
     go_wp2
     go_ret
     exact ⟨ret_bool HF.out.symm, hA⟩
   . have HF : Hid (recB6 x = inB (x.seq - x.tail) 0 4) := by unfold Hid recB6; rw [hs, ht]; rfl
     obtain ⟨s1, s2⟩ := inB_iff.1 hs
     obtain ⟨t1, t2⟩ := inB_iff.1 ht
     have hw : IntKind.i64.wrap (x.seq - x.tail) = x.seq - x.tail := IntWalk.i64_in _ (by omega)
     go_wp2_with fail
     refine (within_any _ _ _ _).mono ?_
     rintro e wq ⟨rfl, hq⟩
     obtain rfl := hq.symm
     cases hd : inB (x.seq - x.tail) 0 4
     . go_wp2
       go_ret
       exact ⟨ret_bool (by rw [HF.out, hd]), hA⟩
     . go_wp2
       go_ret
       exact ⟨ret_bool (by rw [HF.out, hd]), hA⟩

theorem implArrOk_any (w : World) (E F G : TypeId) (x : ArrN) (am ad : Option Addr) (nm cm nd cd : Nat) (ms : List MemD) (ds : List (Int × List Int)) (h0 : (tMemS E F).Rd w [.slice am nm cm] ms) (h1 : (tWrS G).Rd w [.slice ad nd cd] ds) (hw : wtArr ms ds <= 2097152) :
 Calls Tryz.prog 61 #[.agg #[.int .i64 x.id, .int .i64 x.n, .int .i64 x.s, .slice am nm cm, .int .i64 x.lost, .int .i64 x.built, .int .i64 x.seq, .int .i64 x.tail, .int .i64 x.gen, .slice ad nd cd, .int .i64 x.fuse, .bool x.down, .bool x.broken]] w fun e w' => e = .returned (.bool (arrB x ms ds)) /\ Below w.heap.size w w' := by
 have hwm : wtMemS ms <= 2097152 := by unfold wtArr at hw; omega
 have hwd : wtWrS ds <= 2097152 := by unfold wtArr at hw; omega
 have hA := new_below w (.cells #[.int .i64 x.id, .int .i64 x.n, .int .i64 x.s, .slice am nm cm, .int .i64 x.lost, .int .i64 x.built, .int .i64 x.seq, .int .i64 x.tail, .int .i64 x.gen, .slice ad nd cd, .int .i64 x.fuse, .bool x.down, .bool x.broken] 29)
 have X := Box.new w 29 #[.int .i64 x.id, .int .i64 x.n, .int .i64 x.s, .slice am nm cm, .int .i64 x.lost, .int .i64 x.built, .int .i64 x.seq, .int .i64 x.tail, .int .i64 x.gen, .slice ad nd cd, .int .i64 x.fuse, .bool x.down, .bool x.broken]
 obtain ⟨k0, k1, k2, k3, k4, k5, k6, k7, k8, k9, k10, k11, k12⟩ := X.cells13
 have zA := X.lt
 have r0 := h0.below hA
 have r1 := h1.below hA
 go_enter Tryz.func61, Tryz.ntmps61
 go_wp2_with fail
 generalize w.alloc (.cells #[.int .i64 x.id, .int .i64 x.n, .int .i64 x.s, .slice am nm cm, .int .i64 x.lost, .int .i64 x.built, .int .i64 x.seq, .int .i64 x.tail, .int .i64 x.gen, .slice ad nd cd, .int .i64 x.fuse, .bool x.down, .bool x.broken] 29) = W at hA X zA r0 r1 k0 k1 k2 k3 k4 k5 k6 k7 k8 k9 k10 k11 k12 ⊢
 refine (implGeoOk_any _ _ _).mono ?_
 rintro e w1 ⟨rfl, b1⟩
 have X1 := X.below b1 X.lt
 have B1 := Below.andThen hA b1
 have q1 := r0.below b1
 have t1 := r1.below b1
 clear k0 k1 k2 k3 k4 k5 k6 k7 k8 k9 k10 k11 k12 b1 X hA r0 r1
 obtain ⟨k0, k1, k2, k3, k4, k5, k6, k7, k8, k9, k10, k11, k12⟩ := X1.cells13
 cases hg : geoB x.n x.s
 . have HF : Hid (arrB x ms ds = false) := by
    unfold Hid
    unfold arrB; rw [hg]; rfl
   go_wp2
   go_ret
   exact ⟨ret_bool HF.out.symm, B1⟩
 . have HE := hidden (arr_same6 (ms := ms) (ds := ds) hg)
   obtain ⟨g1, g2, g3, g4⟩ := geoB_iff.1 hg
   go_wp2_with fail
   refine (within_any _ _ _ _).mono ?_
   rintro e wq ⟨rfl, hq⟩
   obtain rfl := hq.symm
   cases hid : inB x.id 1 60000
   . have HF : Hid (arrB x ms ds = false) := by
      unfold Hid
      rw [HE.out, hid]; rfl
     go_wp2
     go_ret
     exact ⟨ret_bool HF.out.symm, B1⟩
   . go_wp2_with fail
     refine (lostOk_any _ x.n x.s x.lost x.built ⟨g1, g2⟩).mono ?_
     rintro e w2 ⟨rfl, b2⟩
     have X2 := X1.below b2 X1.lt
     have B2 := Below.andThen B1 b2
     have q2 := q1.below b2
     have t2 := t1.below b2
     clear k0 k1 k2 k3 k4 k5 k6 k7 k8 k9 k10 k11 k12 b2 X1 B1 q1 t1
     obtain ⟨k0, k1, k2, k3, k4, k5, k6, k7, k8, k9, k10, k11, k12⟩ := X2.cells13
     cases hlo : lostB x.n x.s x.lost x.built
     . have HF : Hid (arrB x ms ds = false) := by
        unfold Hid
        rw [HE.out, hid, hlo]; rfl
       go_wp2
       go_ret
       exact ⟨ret_bool HF.out.symm, B2⟩
     . skip
       go_wp2_with fail
       refine (within_any _ _ _ _).mono ?_
       rintro e wq ⟨rfl, hq⟩
       obtain rfl := hq.symm
       cases hge : inB x.gen 0 60000
       . have HF : Hid (arrB x ms ds = false) := by
          unfold Hid
          rw [HE.out, hid, hlo, hge]; rfl
         go_wp2
         go_ret
         exact ⟨ret_bool HF.out.symm, B2⟩
       . skip
         go_wp2_with fail
         refine (within_any _ _ _ _).mono ?_
         rintro e wq ⟨rfl, hq⟩
         obtain rfl := hq.symm
         cases hfu : inB x.fuse (-1) 1000
         . have HF : Hid (arrB x ms ds = false) := by
            unfold Hid
            rw [HE.out, hid, hlo, hge, hfu]; rfl
           go_wp2
           go_ret
           exact ⟨ret_bool HF.out.symm, B2⟩
         . go_wp2_with fail
           refine (memsOk_any _ E F x _ _ _ _ _ _ ms q2 hwm hg).mono ?_
           rintro e w3 ⟨rfl, b3⟩
           have X3 := X2.below b3 X2.lt
           have B3 := Below.andThen B2 b3
           have q3 := q2.below b3
           have t3 := t2.below b3
           clear k0 k1 k2 k3 k4 k5 k6 k7 k8 k9 k10 k11 k12 b3 X2 B2 q2 t2
           obtain ⟨k0, k1, k2, k3, k4, k5, k6, k7, k8, k9, k10, k11, k12⟩ := X3.cells13
           cases hms : memsB x ms
           . have HF : Hid (arrB x ms ds = false) := by
              unfold Hid
              rw [HE.out, hid, hlo, hge, hfu, hms]; rfl
             go_wp2
             go_ret
             exact ⟨ret_bool HF.out.symm, B3⟩
           . go_wp2_with fail
             refine (recsOk_any _ x _ _ _ _ _ _).mono ?_
             rintro e w4 ⟨rfl, b4⟩
             have X4 := X3.below b4 X3.lt
             have B4 := Below.andThen B3 b4
             have q4 := q3.below b4
             have t4 := t3.below b4
             clear k0 k1 k2 k3 k4 k5 k6 k7 k8 k9 k10 k11 k12 b4 X3 B3 q3 t3
             obtain ⟨k0, k1, k2, k3, k4, k5, k6, k7, k8, k9, k10, k11, k12⟩ := X4.cells13
             cases hre : recB6 x
             . have HF : Hid (arrB x ms ds = false) := by
                unfold Hid
                rw [HE.out, hid, hlo, hge, hfu, hms, hre]; rfl
               go_wp2
               go_ret
               exact ⟨ret_bool HF.out.symm, B4⟩
             . have HF : Hid (arrB x ms ds = entsB x ds) := by
                unfold Hid
                rw [HE.out, hid, hlo, hge, hfu, hms, hre]; rfl
               go_wp2_with fail
               refine (dirtyOk_any _ G x _ _ _ _ _ _ ds t4 hwd hg).mono ?_
               rintro e w5 ⟨rfl, b5⟩
               have X5 := X4.below b5 X4.lt
               have B5 := Below.andThen B4 b5
               have q5 := q4.below b5
               have t5 := t4.below b5
               clear k0 k1 k2 k3 k4 k5 k6 k7 k8 k9 k10 k11 k12 b5 X4 B4 q4 t4
               obtain ⟨k0, k1, k2, k3, k4, k5, k6, k7, k8, k9, k10, k11, k12⟩ := X5.cells13
               cases hds : entsB x ds
               . go_wp2
                 go_ret
                 exact ⟨ret_bool (by rw [HF.out, hds]), B5⟩
               . go_wp2
                 go_ret
                 exact ⟨ret_bool (by rw [HF.out, hds]), B5⟩

theorem live_at7 {x : ArrN} {ms : List MemD} {j : Nat} {s : Int} {d : MemD} (h : ms[j]? = some d) : liveB x ms (j : Int) s = (!d.2.2.1 && (!decide ((j : Int) = x.lost) || decide (s < x.built))) := by
 have hj := (List.getElem?_eq_some_iff.1 h).1
 unfold liveB
 rw [show inB (j : Int) 0 ((ms.length : Int) - 1) = true from inB_iff.2 (by omega), Int.toNat_natCast, List.getD_eq_getElem?_getD, h]
 rfl

theorem bears7_any (w : World) (E : TypeId) (x : ArrN) (ms : List MemD) (j : Nat) (v : Value) (s : Int) (hd : DiskV w E x ms j v) :
 Calls Tryz.prog 217 #[v, .int .i64 s] w fun e w' => e = .returned (.bool (liveB x ms (j : Int) s)) /\ Below w.heap.size w w' := by
 obtain ⟨a0, a1, a3, c0, c1, c3, ss, cs, f, bs, hj, r0, r1, r3, h⟩ := hd
 have hl := live_at7 (x := x) (s := s) hj
 rcases h with ⟨rfl, rfl⟩ | ⟨rfl, hx, rfl⟩ | ⟨rfl, hx, rfl⟩
 . refine (bears_failed w s).mono ?_
   rintro e w' ⟨rfl, rfl⟩
   exact ⟨ret_bool (by rw [hl]; rfl), Below.refl _ _⟩
 . refine (bears_lost w _ _ _ _ _ _ _ _ _ _ _ _).mono ?_
   rintro e w' ⟨rfl, b⟩
   exact ⟨ret_bool (by rw [hl]; simp [hx]), b⟩
 . refine (bears_sound w _ _ _ _ _ _ _ _ _ _ _).mono ?_
   rintro e w' ⟨rfl, b⟩
   exact ⟨ret_bool (by rw [hl]; simp [hx]), b⟩

theorem implLiveAt7_any (w : World) (E F G : TypeId) (x : ArrN) (am ad : Option Addr) (nm cm nd cd : Nat) (ms : List MemD) (ds : List (Int × List Int)) (m s : Int) (h0 : (tMemS E F).Rd w [.slice am nm cm] ms) (_ : (tWrS G).Rd w [.slice ad nd cd] ds) (hw : wtArr ms ds <= 2097152) :
 Calls Tryz.prog 171 #[.agg #[.int .i64 x.id, .int .i64 x.n, .int .i64 x.s, .slice am nm cm, .int .i64 x.lost, .int .i64 x.built, .int .i64 x.seq, .int .i64 x.tail, .int .i64 x.gen, .slice ad nd cd, .int .i64 x.fuse, .bool x.down, .bool x.broken], .int .i64 m, .int .i64 s] w fun e w' => e = .returned (.bool (liveB x ms m s)) /\ Below w.heap.size w w' := by
 have hwm : wtMemS ms <= 2097152 := by unfold wtArr at hw; omega
 obtain ⟨hl, hc, hm⟩ := row_length h0
 have hA := new_below w (.cells #[.int .i64 x.id, .int .i64 x.n, .int .i64 x.s, .slice am nm cm, .int .i64 x.lost, .int .i64 x.built, .int .i64 x.seq, .int .i64 x.tail, .int .i64 x.gen, .slice ad nd cd, .int .i64 x.fuse, .bool x.down, .bool x.broken] 29)
 have X := Box.new w 29 #[.int .i64 x.id, .int .i64 x.n, .int .i64 x.s, .slice am nm cm, .int .i64 x.lost, .int .i64 x.built, .int .i64 x.seq, .int .i64 x.tail, .int .i64 x.gen, .slice ad nd cd, .int .i64 x.fuse, .bool x.down, .bool x.broken]
 obtain ⟨k0, k1, k2, k3, k4, k5, k6, k7, k8, k9, k10, k11, k12⟩ := X.cells13
 have r0 := h0.below hA
 have zA := X.lt
 go_enter Tryz.func171, Tryz.ntmps171
 go_wp2_with fail
 generalize w.alloc (.cells #[.int .i64 x.id, .int .i64 x.n, .int .i64 x.s, .slice am nm cm, .int .i64 x.lost, .int .i64 x.built, .int .i64 x.seq, .int .i64 x.tail, .int .i64 x.gen, .slice ad nd cd, .int .i64 x.fuse, .bool x.down, .bool x.broken] 29) = W at hA X zA r0 k0 k1 k2 k3 k4 k5 k6 k7 k8 k9 k10 k11 k12 ⊢
 refine (hasDisk_any _ x _ _ _ _ _ _ m).mono ?_
 rintro e w1 ⟨rfl, b1⟩
 have X1 := X.below b1 zA
 have B1 := Below.andThen hA b1
 have q1 := r0.below b1
 clear k0 k1 k2 k3 k4 k5 k6 k7 k8 k9 k10 k11 k12 X b1 hA zA r0
 obtain ⟨k0, k1, k2, k3, k4, k5, k6, k7, k8, k9, k10, k11, k12⟩ := X1.cells13
 cases hi : inB m 0 ((nm : Int) - 1)
 . have HF : Hid (liveB x ms m s = false) := by unfold Hid liveB; rw [hl, hi]; rfl
   go_wp2
   go_ret
   exact ⟨ret_bool HF.out.symm, B1⟩
 . have hi2 := inB_iff.1 hi
   obtain ⟨j, rfl⟩ := Int.eq_ofNat_of_zero_le hi2.1
   go_wp2_with fail
   refine (diskAt_any _ E F x _ _ _ _ _ _ ms j q1 hwm (by omega)).mono ?_
   rintro e w2 ⟨v, rfl, hd, b2⟩
   have B2 := Below.andThen B1 b2
   clear k0 k1 k2 k3 k4 k5 k6 k7 k8 k9 k10 k11 k12 X1 b2 B1 q1
   go_wp2_with fail
   refine (bears7_any _ E x ms j v s hd).mono ?_
   rintro e w3 ⟨rfl, b3⟩
   have B3 := Below.andThen B2 b3
   clear b3 B2 hd
   go_wp2
   go_ret
   exact ⟨rfl, B3⟩

theorem wordWrites_any (w : World) (B : Nat) (x : ArrN) (ms : List MemD) (ds : List (Int × List Int)) (fm fd : List Nat) (h : ArrAt w B x ms ds fm fd) (hl : (ms.length : Int) = x.n) (hg : geoB x.n x.s = true) (s : Int) (hs : inB s 0 (x.s - 1) = true) (ar : Option Addr) (cr : Nat) (zs : List Int) (h5 : tIntS.Rd w [.slice ar zs.length cr] zs) (hz : (zs.length : Int) = x.n - 1) (hw : wtArr ms ds <= 2097152) :
 Calls Tryz.prog 117 #[.pointer (some ⟨B, 0, none⟩), .int .i64 s, .slice ar zs.length cr] w fun e w' => ∃ bo co, e = .returned (.slice bo (liveL x ms s (parN x.n x.s s) zs ms.length).length co) /\ (tOps B).Own w' w.heap.size w'.heap.size [.slice bo (liveL x ms s (parN x.n x.s s) zs ms.length).length co] (liveL x ms s (parN x.n x.s s) zs ms.length) /\ Below w.heap.size w w' := by
 obtain ⟨i4, hi4, hz0, hz1, hz2⟩ := info_parts Tryz.infoOp
 have hN0 := geoB_iff.1 hg
 have hzN : zs.length + 1 = ms.length := by omega
 have HZN := hidden hzN
 have hN5 : ms.length <= 5 := by omega
 have hzs : zs.length <= 4 := by omega
 obtain ⟨bm, bd, cm, cd, X, hmm, hdd, hr, r1, r2⟩ := h
 unfold arrC at X
 have zB := X.lt
 have bA := new_below w (.cells #[] 161)
 have ML := hidden (lit0_mine (t := opTy B) (E := 161) w)
 have X0 := X.below bA zB
 obtain ⟨k0, k1, k2, k3, k4, k5, k6, k7, k8, k9, k10, k11, k12⟩ := X0.cells13
 have hsz : (w.alloc (.cells #[] 161)).heap.size = w.heap.size + 1 := by simp
 have XH := hidden X
 have MM := hidden hmm.rd
 have DD := hidden hdd.rd
 have R5 := hidden (h5.below bA)
 have BA := hidden bA
 have hxn : x.n = ((ms.length : Nat) : Int) := hl.symm
 have hg2 : geoB ((ms.length : Nat) : Int) x.s = true := by rw [← hxn]; exact hg
 have HP : Hid (parN x.n x.s s = parN ((ms.length : Nat) : Int) x.s s) := by unfold Hid; rw [hxn]
 have HXN := hidden hxn
 have kk1 := k1
 rw [hxn] at kk1
 clear hmm hdd X X0 h5 bA hxn k1 hl hz hzN hN0 hg
 go_enter Tryz.func117, Tryz.ntmps117
 go_wp2_with fail
 refine (wordsOfData_any _ ms.length x.s s ar cr zs hg2 hs HZN.out R5.out).mono ?_
 rintro e W1 ⟨wb, rfl, ow, b1⟩
 obtain ⟨fw, mw, rw1⟩ := ow.mine
 have ML1 := hidden (ML.out.below b1)
 have BB1 := hidden (Below.andThen BA.out b1)
 have z1 := b1.size
 have MW := hidden mw
 have RW := hidden rw1
 have hwl : (wordsD ms.length (parN ((ms.length : Nat) : Int) x.s s) zs).length = ms.length := by unfold wordsD; simp
 have HWL := hidden hwl
 clear ow mw rw1 b1 ML BA R5 k0 k2 k3 k4 k5 k6 k7 k8 k9 k10 k11 k12 kk1 hwl
 go_wp2
 go_loopw [7, 19] (fun v i wr => ∃ (j : Nat) (fp : List Nat), j <= ms.length /\ i = .int .i64 j /\ (tOps B).Mine wr [v] (liveL x ms s (parN x.n x.s s) zs j) fp /\ (∀ b ∈ fp, b = w.heap.size ∨ W1.heap.size <= b) /\ tIntS.Mine wr [.slice (some ⟨wb, 0, none⟩) ms.length ms.length] (wordsD ms.length (parN ((ms.length : Nat) : Int) x.s s) zs) fw /\ Below w.heap.size w wr /\ W1.heap.size <= wr.heap.size) (fun _ i _ => ms.length - (intOf i).toNat)
 case atStart => exact ⟨0, [w.heap.size], Nat.zero_le _, rfl, ML1.out, by simp, MW.out, BB1.out, Nat.le_refl _⟩
 case round =>
  obtain ⟨j, fp, hj, rfl, hm, hfp, hmw, hb, hzr⟩ := hrel
  have hs0 := hb.size
  by_cases hjn : j < ms.length
  . have i2 : (j : Int) < (ms.length : Int) := by omega
    have i1 : (0 : Int) <= (j : Int) := by omega
    rcases (ints_rd hmw.rd).1.cases with h0 | ⟨b, off, hbo, hbl, hcz⟩
    . rw [HWL.out] at h0; omega
    simp at hbo
    obtain ⟨rfl, rfl⟩ := hbo
    have hcj := hcz j (by rw [HWL.out]; exact hjn)
    rw [Nat.zero_add] at hcj
    have hgd : (wordsD ms.length (parN ((ms.length : Nat) : Int) x.s s) zs).getD j 0 = dataW x.n (parN x.n x.s s) zs j := by
     rw [HP.out]
     unfold wordsD
     rw [List.getD_eq_getElem?_getD, List.getElem?_map, List.getElem?_range hjn, ← HXN.out]
     rfl
    rw [hgd] at hcj
    have HL := hidden (liveL_succ x ms s (parN x.n x.s s) zs j)
    generalize dataW x.n (parN x.n x.s s) zs j = y at hcj HL
    have xr := XH.out.below hb zB
    obtain ⟨k0, k1, k2, k3, k4, k5, k6, k7, k8, k9, k10, k11, k12⟩ := xr.cells13
    have HM := hidden hm
    have HFP := hidden hfp
    have HMW := hidden hmw
    have HB := hidden hb
    have rm := MM.out.below hb
    have rd := DD.out.below hb
    clear hm hfp hmw hb hcz hgd xr
    go_wp2_with fail
    refine (implLiveAt7_any _ 159 109 86 x _ _ _ _ _ _ ms ds (j : Int) s rm rd hw).mono ?_
    rintro e w1 ⟨rfl, b1⟩
    have z1b := b1.size
    have M1 := hidden (HM.out.below b1)
    have W1m := hidden (HMW.out.below b1)
    have BB := hidden (HB.out.trans (b1.mono hs0))
    have hfl0 := HM.out.lt
    have FLT := hidden hfl0
    clear k0 k1 k2 k3 k4 k5 k6 k7 k8 k9 k10 k11 k12 HM HMW HB b1 rm rd hcj hfl0
    cases hlv : liveB x ms (j : Int) s
    . have HL2 : Hid (liveL x ms s (parN x.n x.s s) zs (j + 1) = liveL x ms s (parN x.n x.s s) zs j) := by unfold Hid; rw [HL.out, hlv, if_neg (by simp), List.append_nil]
      clear hlv HL
      go_wp2
      go_roundw
      case rel => exact ⟨j + 1, fp, by omega, by go_num, by rw [HL2.out]; exact M1.out, HFP.out, W1m.out, BB.out, by omega⟩
      case measure => simp [intOf]; omega
    . have HL2 : Hid (liveL x ms s (parN x.n x.s s) zs (j + 1) = liveL x ms s (parN x.n x.s s) zs j ++ [wrK (dataN s) [y] j]) := by unfold Hid; rw [HL.out, hlv, if_pos rfl]
      clear hlv HL
      have osec := own_ints (Owns.lit .i64 3 w1 [y] 1 #[.int .i64 y] rfl rfl (by unfold maxLen; omega))
      obtain ⟨fs, msec, rs⟩ := osec.mine
      have bs := new_below w1 (.cells #[.int .i64 y] 3)
      have zs1 : (w1.alloc (.cells #[.int .i64 y] 3)).heap.size = w1.heap.size + 1 := by simp
      have hkl := liveL_len x ms s (parN x.n x.s s) zs j
      have L1 : Hid ((liveL x ms s (parN x.n x.s s) zs j).length + 1 <= maxLen) := by unfold Hid maxLen; omega
      have L2 : Hid (((liveL x ms s (parN x.n x.s s) zs j).length + 1) * 8 <= 140737488355328) := by unfold Hid; omega
      have MSEC : Hid (tIntS.Mine (w1.alloc (.cells #[.int .i64 y] 3)) [.slice (some ⟨w1.heap.size, 0, none⟩) ([y] : List Int).length 1] [y] fs) := msec
      have RS := hidden rs
      have BS := hidden bs
      clear osec msec rs bs hkl
      go_wp2_with fail
      refine (implDataAt_any _ s).mono ?_
      rintro e w1d ⟨rfl, hwd⟩
      subst hwd
      go_wp2_with fail
      refine (writeOp_any _ B j (dataN s) _ _ [y] fs MSEC.out (by simp)).mono ?_
      rintro e w3 ⟨v, fpx, rfl, mx, rx0, b3⟩
      have z3 := b3.size
      have rx : ∀ b ∈ fpx, w1d.heap.size <= b /\ b < w3.heap.size := fun b hb => by
       rcases rx0 b hb with h | h
       . have := RS.out b h; omega
       . omega
      obtain ⟨F1, cp1, hv, _⟩ := mx.1
      have hv' : v = .func (Fn.func F1) #[] cp1 := by simpa using hv
      subst hv'
      have b13 := Below.andThen BS.out b3
      have z2 : (w3.alloc (.cells #[.func (Fn.func F1) #[] cp1] 161)).heap.size = w3.heap.size + 1 := by simp
      have N1 := hidden ((M1.out.below b13).alloc (.cells #[.func (Fn.func F1) #[] cp1] 161))
      have NW := hidden ((W1m.out.below b13).alloc (.cells #[.func (Fn.func F1) #[] cp1] 161))
      have N2 := hidden (mx.alloc (.cells #[.func (Fn.func F1) #[] cp1] 161))
      have NN := hidden (news_new w3 #[.func (Fn.func F1) #[] cp1] 161)
      have DJ : Hid (∀ b ∈ fp, b ∉ fpx) := fun b hb hb' => by
       have h1 := FLT.out b hb
       have h2 := rx b hb'
       omega
      have RX := hidden rx
      have BB3 := hidden (Below.andThen (Below.andThen BB.out b13) (new_below w3 (.cells #[.func (Fn.func F1) #[] cp1] 161)))
      clear mx rx rx0 hv b3 b13 M1 W1m BB BS MSEC RS
      go_wp2_with (at_builtin; refine wpList_appT (opTy B) rfl _ _ 123 rfl 161 i4 .nilFunc 8 Tryz.underlying123 hi4 hz0 hz1 hz2 rfl Nat.zero_lt_one u7 (liveL x ms s (parN x.n x.s s) zs j) fp rfl ?_ ⟨w3.heap.size, 0, none⟩ 1 [.func (Fn.func F1) #[] cp1] (wrK (dataN s) [y] j) fpx rfl ?_ ?_ ?_ ?_ ?_ ?_ ?_; exact N1.out; exact N2.out; exact DJ.out; exact NN.out; (intro u hu; simp at hu; rw [hu]; rfl); exact L1.out; exact L2.out; intro v2 w2 fp2 m1 m2 m3; rw [← HL2.out] at m1; have O1 := hidden m1; have O2 := hidden m2; have O3 := hidden m3; clear m1 m2 m3)
      have hf2 : ∀ b ∈ fp2, b = w.heap.size ∨ W1.heap.size <= b := fun b hb => by
       rcases O2.out b hb with h | h | h
       . exact HFP.out b h
       . have := RX.out b h; exact .inr (by omega)
       . have h1 := h.1; exact .inr (by omega)
      have hbb := BB3.out.trans (O3.out.below (N := w.heap.size) (by omega) (fun b hb => by rcases HFP.out b hb with h | h <;> omega))
      have hnw := NW.out.kept O3.out (fun b hb hm => by
       have h1 := RW.out b hb
       rcases HFP.out b hm with h | h <;> omega)
      have hz4 := O3.out.size
      have HBB := hidden hbb
      have HNW := hidden hnw
      have HF2 := hidden hf2
      clear hbb hnw hf2
      go_roundw
      case rel => exact ⟨j + 1, fp2, by omega, by go_num, O1.out, HF2.out, HNW.out, HBB.out, by omega⟩
      case measure => simp [intOf]; omega
  . have e : j = ms.length := by omega
    subst e
    have hltb := hm.lt
    obtain ⟨bo, co, hv⟩ := row_shape hm.rd
    subst hv
    have HO := hidden (hm.own (lo := w.heap.size) (hi := wr.heap.size) (fun b hb' => ⟨by rcases hfp b hb' with h | h <;> omega, hltb b hb'⟩))
    have i2 : ¬ ((ms.length : Int) < (ms.length : Int)) := by omega
    clear hm hmw
    go_wp2
    go_ret
    exact ⟨_, _, rfl, HO.out, hb⟩

theorem recWrites1_any (w : World) (B p r m : Nat) (sq st : Int) (ar : Option Addr) (cr : Nat) (zs : List Int) (hp : Box w p 72 #[.pointer (some ⟨B, 0, none⟩)]) (hr : Box w r 121 #[.int .i64 sq, .int .i64 st, .slice ar zs.length cr]) (h5 : tIntS.Rd w [.slice ar zs.length cr] zs) (hl : zs.length <= 2000000) : Calls Tryz.prog 211 #[.int .i64 (m : Int), .pointer (some ⟨p, 0, none⟩), .pointer (some ⟨r, 0, none⟩)] w fun e w' => ∃ v, e = .returned v /\ (opTy B).Own w' w.heap.size w'.heap.size [v] (wrK (slotN sq) (putR sq st zs) m) /\ Below w.heap.size w w' := by
 have zp := hp.lt
 have zr := hr.lt
 have cp := hp.cell 0
 have k0 := hr.cell 0
 have k1 := hr.cell 1
 have k2 := hr.cell 2
 have hS : w.drew.cell? ⟨p, 0, none⟩ = some (.pointer (some ⟨B, 0, none⟩)) /\ w.drew.cell? ⟨r, 0, none⟩ = some (.int .i64 sq) /\ w.drew.cell? ⟨r, 1, none⟩ = some (.int .i64 st) /\ w.drew.cell? ⟨r, 2, none⟩ = some (.slice ar zs.length cr) := ⟨cp, k0, k1, k2⟩
 have R5 := hidden h5
 have hpl := putR_len sq st zs
 clear hp hr h5
 go_enter Tryz.func211, Tryz.ntmps211
 go_wp2_with fail
 refine Upto.start (S := fun w' => w'.cell? ⟨p, 0, none⟩ = some (.pointer (some ⟨B, 0, none⟩)) /\ w'.cell? ⟨r, 0, none⟩ = some (.int .i64 sq) /\ w'.cell? ⟨r, 1, none⟩ = some (.int .i64 st) /\ w'.cell? ⟨r, 2, none⟩ = some (.slice ar zs.length cr)) (k := 8) (by kernel_rfl) ?_
 refine Upto.t 0 hS ?_
 refine Upto.t 1 hS ?_
 refine Upto.t 2 hS ?_
 refine Upto.t 3 hS ?_
 refine Upto.t 5 hS ?_
 refine Upto.one (i := 4) (by kernel_rfl) rfl (fun K hK => ?_)
 go_simp
 refine (implSlotOf_any _ sq).mono ?_
 rintro e w1 ⟨rfl, hw1⟩
 subst hw1
 go_wp2_with fail
 refine hK.out _ _ (fun _ => hS) ?_
 clear hK K
 refine Upto.one (i := 6) (by kernel_rfl) rfl (fun K hK => ?_)
 go_simp
 refine (implPutRec_any _ sq st _ _ _ zs rfl (ints_rd R5.out.drew).1 (by omega)).mono ?_
 rintro e w2 ⟨a6, l6, c6, rfl, o6, b2'⟩
 have b2 : Below w.heap.size w w2 := (Below.refl w.heap.size w).drew.trans b2'
 have o6b : tIntS.Own w2 w.heap.size w2.heap.size [.slice a6 l6 c6] (putR sq st zs) := o6
 obtain ⟨hl6, _⟩ := row_length o6b.rd
 subst hl6
 obtain ⟨fs, ms6, rs⟩ := o6b.mine
 have MS := hidden ms6
 have RS := hidden rs
 have B2 := hidden b2
 have z2 := b2.size
 have hS2 : w2.cell? ⟨p, 0, none⟩ = some (.pointer (some ⟨B, 0, none⟩)) /\ w2.cell? ⟨r, 0, none⟩ = some (.int .i64 sq) /\ w2.cell? ⟨r, 1, none⟩ = some (.int .i64 st) /\ w2.cell? ⟨r, 2, none⟩ = some (.slice ar zs.length cr) := ⟨(b2.cell (p := ⟨p, 0, none⟩) zp).trans cp, (b2.cell (p := ⟨r, 0, none⟩) zr).trans k0, (b2.cell (p := ⟨r, 1, none⟩) zr).trans k1, (b2.cell (p := ⟨r, 2, none⟩) zr).trans k2⟩
 clear o6 o6b ms6 rs b2 b2' hS cp k0 k1 k2 R5
 go_wp2_with fail
 refine hK.out _ _ (fun _ => hS2) ?_
 clear hK K
 refine Upto.one (i := 7) (by kernel_rfl) rfl (fun K hK => ?_)
 go_simp
 refine (writeOp_any _ B m (slotN sq) _ _ (putR sq st zs) fs MS.out (by omega)).mono ?_
 rintro e w3 ⟨v, fp, rfl, mv, rv, b3⟩
 have z3 := b3.size
 have HO := hidden (mv.own (lo := w.heap.size) (hi := w3.heap.size) (fun b hb => by
  rcases rv b hb with h | h
  . have := RS.out b h
    omega
  . omega))
 have HB := hidden (Below.andThen B2.out b3)
 have hS3 : w3.cell? ⟨p, 0, none⟩ = some (.pointer (some ⟨B, 0, none⟩)) /\ w3.cell? ⟨r, 0, none⟩ = some (.int .i64 sq) /\ w3.cell? ⟨r, 1, none⟩ = some (.int .i64 st) /\ w3.cell? ⟨r, 2, none⟩ = some (.slice ar zs.length cr) := ⟨(b3.cell (p := ⟨p, 0, none⟩) (show p < w2.heap.size by omega)).trans hS2.1, (b3.cell (p := ⟨r, 0, none⟩) (show r < w2.heap.size by omega)).trans hS2.2.1, (b3.cell (p := ⟨r, 1, none⟩) (show r < w2.heap.size by omega)).trans hS2.2.2.1, (b3.cell (p := ⟨r, 2, none⟩) (show r < w2.heap.size by omega)).trans hS2.2.2.2⟩
 clear mv rv b3 MS RS B2 hS2
 go_wp2_with fail
 refine hK.out _ _ (fun _ => hS3) ?_
 clear hK K
 refine Upto.one (i := 8) (by kernel_rfl) rfl (fun K hK => ?_)
 go_simp
 refine hK.out _ _ (fun h => absurd rfl h) ?_
 clear hK K
 refine Upto.done (by kernel_rfl) ?_ _
 clear hS3
 go_wp2
 go_ret
 exact ⟨_, rfl, HO.out, HB.out⟩

theorem recWrites_any (w : World) (B : Nat) (x : ArrN) (ms : List MemD) (ds : List (Int × List Int)) (fm fd : List Nat) (h : ArrAt w B x ms ds fm fd) (hl : ms.length <= 2097152) (sq st : Int) (ar : Option Addr) (cr : Nat) (zs : List Int) (h5 : tIntS.Rd w [.slice ar zs.length cr] zs) (hz : zs.length <= 2000000) : Calls Tryz.prog 168 #[.pointer (some ⟨B, 0, none⟩), .agg #[.int .i64 sq, .int .i64 st, .slice ar zs.length cr]] w fun e w' => ∃ bo co, e = .returned (.slice bo (opsL (wrK (slotN sq) (putR sq st zs)) ms ms.length).length co) /\ (tOps B).Own w' w.heap.size w'.heap.size [.slice bo (opsL (wrK (slotN sq) (putR sq st zs)) ms ms.length).length co] (opsL (wrK (slotN sq) (putR sq st zs)) ms ms.length) /\ Below w.heap.size w w' := by
 have hmf : ∀ (fn : Fn) (first cap : Array Value) (w : World), (Instr.makeFunc fn first cap).run Tryz.prog w = .ok (.func fn first cap) w := fun _ _ _ _ => rfl
 have bA : Below w.heap.size w ((w.alloc (.cells #[.pointer (some ⟨B, 0, none⟩)] 72)).alloc (.cells #[.int .i64 sq, .int .i64 st, .slice ar zs.length cr] 121)) := (new_below w _).alloc (by simp) _
 have bx : Box ((w.alloc (.cells #[.pointer (some ⟨B, 0, none⟩)] 72)).alloc (.cells #[.int .i64 sq, .int .i64 st, .slice ar zs.length cr] 121)) w.heap.size 72 #[.pointer (some ⟨B, 0, none⟩)] := (Box.new w _ _).alloc _
 have br := Box.new (w.alloc (.cells #[.pointer (some ⟨B, 0, none⟩)] 72)) 121 #[.int .i64 sq, .int .i64 st, .slice ar zs.length cr]
 rw [World.size_alloc] at br
 have HA := hidden ((h.alloc (.cells #[.pointer (some ⟨B, 0, none⟩)] 72)).alloc (.cells #[.int .i64 sq, .int .i64 st, .slice ar zs.length cr] 121))
 have hsz : ((w.alloc (.cells #[.pointer (some ⟨B, 0, none⟩)] 72)).alloc (.cells #[.int .i64 sq, .int .i64 st, .slice ar zs.length cr] 121)).heap.size = w.heap.size + 1 + 1 := by simp
 have R5 := hidden (h5.below bA)
 clear h h5
 go_enter Tryz.func168, Tryz.ntmps168
 go_wp2_with fail
 refine (opsOf_any _ B x ms ds fm fd HA.out hl (wrK (slotN sq) (putR sq st zs)) 211 #[.pointer (some ⟨w.heap.size, 0, none⟩), .pointer (some ⟨w.heap.size + 1, 0, none⟩)] (fun m => enters_of Tryz.func211 (by kernel_rfl) (by kernel_rfl) _) (fun m w' hm hb => ?_)).mono ?_
 . exact recWrites1_any w' B _ _ m sq st ar cr zs (bx.below hb bx.lt) (br.below hb br.lt) (R5.out.below hb) hz
 rintro e w1 ⟨bo, co, rfl, oo, b1⟩
 have OO := hidden (oo.widen (lo' := w.heap.size) (hi' := w1.heap.size) (by omega) (Nat.le_refl _))
 have B1 := hidden (Below.andThen bA b1)
 clear oo b1 bA bx br
 go_wp2
 go_ret
 exact ⟨_, _, rfl, OO.out, B1.out⟩

theorem flushOp1_runs (w : World) (B p q m : Nat) (hp : Box w p 72 #[.pointer (some ⟨B, 0, none⟩)]) (hq : Box w q 3 #[.int .i64 (m : Int)]) : OpRuns B [p, q] 226 #[.pointer (some ⟨p, 0, none⟩), .pointer (some ⟨q, 0, none⟩)] (flushK m) w := by
 intro x ms ds fm fd hA hM hdis hlt
 dsimp only [flushK] at hlt
 obtain ⟨bm, bd, cm, cd, X, hmm, hdd, hr, r1, r2⟩ := hA
 have hm63 := (row_length hmm.rd).2
 obtain ⟨g, rfl⟩ := row_head hmm (by omega)
 have hdj : ms[m]? = some (ms[m]'(by omega)) := List.getElem?_eq_getElem (by omega)
 generalize ms[m]'(by omega) = d at hdj
 have hgm : ms.getD m memZ = d := getD_at hdj
 obtain ⟨hgl, a0, a1, a3, c0, c1, c3, ss, cs, f, bs, rfl, q0, q1, q2, q3, p0, p1, p3⟩ := disk_at hmm hdj
 have X0 := X
 unfold arrC at X0
 obtain ⟨k0, k1, k2, k3, k4, k5, k6, k7, k8, k9, k10, k11, k12⟩ := X0.cells13
 have zp := hp.lt
 have cp := hp.cell 0
 have zq := hq.lt
 have cq := hq.cell 0
 have hwt := memB_light (hM m _ hdj) f
 dsimp only at hwt
 have zB := X.lt
 have XH := hidden X
 have MH := hidden hmm
 have DH := hidden hdd
 have R0 := hidden p0
 have R1 := hidden p1
 have R3 := hidden p3
 have HG := hidden hgm
 have hS : w.drew.cell? ⟨p, 0, none⟩ = some (.pointer (some ⟨B, 0, none⟩)) /\ w.drew.cell? ⟨q, 0, none⟩ = some (.int .i64 (m : Int)) /\ w.drew.cell? ⟨B, 3, none⟩ = some (.slice (some ⟨g, 0, none⟩) ms.length cm) /\ w.drew.cell? ⟨g, m * 4, none⟩ = some (.slice a0 ss.length c0) /\ w.drew.cell? ⟨g, m * 4 + 1, none⟩ = some (.slice a1 cs.length c1) /\ w.drew.cell? ⟨g, m * 4 + 2, none⟩ = some (.bool f) /\ w.drew.cell? ⟨g, m * 4 + 3, none⟩ = some (.slice a3 bs.length c3) := ⟨cp, cq, k3, q0, q1, q2, q3⟩
 have i1 : (0 : Int) <= (m : Int) := by omega
 have i3 : (m : Int) < (ms.length : Int) := by omega
 clear X X0 hmm hdd p0 p1 p3 hM hdj hgm hdis
 go_enter Tryz.func226, Tryz.ntmps226
 go_wp2_with fail
 refine Upto.start (S := fun w' => w'.cell? ⟨p, 0, none⟩ = some (.pointer (some ⟨B, 0, none⟩)) /\ w'.cell? ⟨q, 0, none⟩ = some (.int .i64 (m : Int)) /\ w'.cell? ⟨B, 3, none⟩ = some (.slice (some ⟨g, 0, none⟩) ms.length cm) /\ w'.cell? ⟨g, m * 4, none⟩ = some (.slice a0 ss.length c0) /\ w'.cell? ⟨g, m * 4 + 1, none⟩ = some (.slice a1 cs.length c1) /\ w'.cell? ⟨g, m * 4 + 2, none⟩ = some (.bool f) /\ w'.cell? ⟨g, m * 4 + 3, none⟩ = some (.slice a3 bs.length c3)) (k := 14) (by kernel_rfl) ?_
 refine Upto.t 0 hS ?_
 refine Upto.t 1 hS ?_
 refine Upto.t 2 hS ?_
 refine Upto.t 3 hS ?_
 refine Upto.t 4 hS ?_
 refine Upto.t 5 hS ?_
 refine Upto.t 6 hS ?_
 refine Upto.t 7 hS ?_
 refine Upto.t 8 hS ?_
 refine Upto.t 9 hS ?_
 refine Upto.t 10 hS ?_
 refine Upto.t 11 hS ?_
 refine Upto.one (i := 12) (by kernel_rfl) rfl (fun K hK => ?_)
 go_simp
 refine (implFlushMem_any _ 159 _ _ _ _ _ _ _ _ _ ss cs f bs R0.out.drew R1.out.drew R3.out.drew (by omega)).mono ?_
 rintro e w2 ⟨u0, u1, u3, rfl, o2, b2'⟩
 have b2 : Below w.heap.size w w2 := (Below.refl w.heap.size w).drew.trans b2'
 have o2b : (tMem 159).Own w2 w.heap.size w2.heap.size [u0, u1, .bool f, u3] _ := o2
 obtain ⟨d0, l0, f0, d1, l1, f1, d3, l3, f3, hv0, hv1, hv3⟩ := mem_slices o2b
 subst hv0 hv1 hv3
 obtain ⟨fpx, mx, rx⟩ := o2b.mine
 obtain ⟨cOld, fz, hgm, fm9, hA9, hMv9⟩ := arr_store (m := m) XH.out MH.out DH.out hr r1 r2 b2 (by omega) mx (fun b hb => (rx b hb).1)
 obtain ⟨o0, t0⟩ := cOld 0 (by omega)
 obtain ⟨o1, t1⟩ := cOld 1 (by omega)
 obtain ⟨o2', t2⟩ := cOld 2 (by omega)
 obtain ⟨o3, t3⟩ := cOld 3 (by omega)
 rw [Nat.add_zero] at t0
 have HA := hidden hA9
 have HMV := hidden hMv9
 have hS2 : w2.cell? ⟨p, 0, none⟩ = some (.pointer (some ⟨B, 0, none⟩)) /\ w2.cell? ⟨q, 0, none⟩ = some (.int .i64 (m : Int)) /\ w2.cell? ⟨B, 3, none⟩ = some (.slice (some ⟨g, 0, none⟩) ms.length cm) /\ w2.cell? ⟨g, m * 4, none⟩ = some (.slice a0 ss.length c0) /\ w2.cell? ⟨g, m * 4 + 1, none⟩ = some (.slice a1 cs.length c1) /\ w2.cell? ⟨g, m * 4 + 2, none⟩ = some (.bool f) /\ w2.cell? ⟨g, m * 4 + 3, none⟩ = some (.slice a3 bs.length c3) := ⟨(b2.cell (p := ⟨p, 0, none⟩) zp).trans cp, (b2.cell (p := ⟨q, 0, none⟩) zq).trans cq, (b2.cell (p := ⟨B, 3, none⟩) zB).trans k3, (b2.cell (p := ⟨g, m * 4, none⟩) hgl).trans q0, (b2.cell (p := ⟨g, m * 4 + 1, none⟩) hgl).trans q1, (b2.cell (p := ⟨g, m * 4 + 2, none⟩) hgl).trans q2, (b2.cell (p := ⟨g, m * 4 + 3, none⟩) hgl).trans q3⟩
 have gB : ¬ g = B := fun e => r1 (e ▸ hgm)
 unfold put4 at HA HMV
 clear cp cq k3 q0 q1 q2 q3 o2 o2b b2 b2' mx rx cOld hA9 hMv9 XH MH DH R0 R1 R3 hwt
 go_wp2_with fail
 refine hK.out _ _ (fun _ => hS2) ?_
 clear hK K
 refine Upto.t 13 hS2 ?_
 refine Upto.one (i := 14) (by kernel_rfl) rfl (fun K hK => ?_)
 go_simp
 refine hK.out _ _ (fun h => absurd rfl h) ?_
 clear hK K
 refine Upto.done (by kernel_rfl) ?_ _
 clear hS hS2 t0 t1 t2 t3 fz
 go_wp2
 refine bodyPost_end (v := .tuple #[]) (results_none rfl _ _ _) rfl ?_
 refine ⟨rfl, fm9, ?_, HMV.out⟩
 show ArrAt _ B x (ms.set m (opF (flushK m) x (ms.getD m memZ))) ds fm9 fd
 rw [HG.out]
 exact HA.out

theorem flushOp_any (w : World) (B m : Nat) : Calls Tryz.prog 183 #[.pointer (some ⟨B, 0, none⟩), .int .i64 (m : Int)] w fun e w' => ∃ v, e = .returned v /\ (opTy B).Own w' w.heap.size w'.heap.size [v] (flushK m) /\ Below w.heap.size w w' := by
 have hmf : ∀ (fn : Fn) (first cap : Array Value) (w : World), (Instr.makeFunc fn first cap).run Tryz.prog w = .ok (.func fn first cap) w := fun _ _ _ _ => rfl
 have hb : Below w.heap.size w ((w.alloc (.cells #[.pointer (some ⟨B, 0, none⟩)] 72)).alloc (.cells #[.int .i64 (m : Int)] 3)) := ((Below.refl _ _).alloc (Nat.le_refl _) _).alloc (by simp) _
 have b0 : Box ((w.alloc (.cells #[.pointer (some ⟨B, 0, none⟩)] 72)).alloc (.cells #[.int .i64 (m : Int)] 3)) w.heap.size 72 #[.pointer (some ⟨B, 0, none⟩)] := (Box.new w _ _).alloc _
 have b1 := Box.new (w.alloc (.cells #[.pointer (some ⟨B, 0, none⟩)] 72)) 3 #[.int .i64 (m : Int)]
 rw [World.size_alloc] at b1
 have hsz : ((w.alloc (.cells #[.pointer (some ⟨B, 0, none⟩)] 72)).alloc (.cells #[.int .i64 (m : Int)] 3)).heap.size = w.heap.size + 1 + 1 := by simp
 have HO : Hid ((opTy B).Own ((w.alloc (.cells #[.pointer (some ⟨B, 0, none⟩)] 72)).alloc (.cells #[.int .i64 (m : Int)] 3)) w.heap.size ((w.alloc (.cells #[.pointer (some ⟨B, 0, none⟩)] 72)).alloc (.cells #[.int .i64 (m : Int)] 3)).heap.size [.func (Fn.func 226) #[] #[.pointer (some ⟨w.heap.size, 0, none⟩), .pointer (some ⟨w.heap.size + 1, 0, none⟩)]] (flushK m)) := by
  refine ⟨[w.heap.size, w.heap.size + 1], ⟨226, _, rfl, ?_, ?_, fun w' hk hs => ?_⟩, ?_, ?_⟩
  . exact enters_of Tryz.func226 (by kernel_rfl) (by kernel_rfl) _
  . intro b hb'; simp at hb'; omega
  . exact flushOp1_runs w' B _ _ m (b0.kept (hk _ (by simp))) (b1.kept (hk _ (by simp)))
  . simp
  . intro b hb'; simp at hb'; omega
 have HB := hidden hb
 clear hb b0 b1 hsz
 go_enter Tryz.func183, Tryz.ntmps183
 go_wp2
 go_ret
 exact ⟨_, rfl, HO.out, HB.out⟩

end Go.Proofs.YtianjijbmiebgaaGreat

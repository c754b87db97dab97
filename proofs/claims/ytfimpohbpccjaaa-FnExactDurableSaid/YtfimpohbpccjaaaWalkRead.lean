/-
  The walks of both ReadSec (the program's and the specification's): what a sector reads as, in memory of its own. Condition: the disk weighs at most 2097152.
-/
import Derived.Test.YtfimpohbpccjaaaWalkImplMemOk
import Derived.Test.YtfimpohbpccjaaaWalkL2Has
import Derived.Test.YtfimpohbpccjaaaMemB
import Derived.Test.YtfimpohbpccjaaaWalkCopyWords
namespace Go.Proofs.Ytfimpohbpccjaaa
open Go.RowKit

def readOk (ss : List (List Int)) (cs : List (Int × List Int)) (f : Bool) (bs : List Int) (n : Int) : Bool := memB ss cs bs && (!f && (inB n 0 ((ss.length : Int) - 1) && !inL bs n))
def secAt (ss : List (List Int)) (n : Int) : List Int := ss.getD n.toNat []
def readD (ss : List (List Int)) (cs : List (Int × List Int)) (f : Bool) (bs : List Int) (n : Int) : List Int := if readOk ss cs f bs n = true then (lastW cs n).getD (secAt ss n) else []

set_option maxHeartbeats 3200000 in
theorem specReadSec_any (w : World) (E : TypeId) (a0 a1 a3 : Option Addr) (n0 c0 n1 c1 n3 c3 : Nat) (ss : List (List Int)) (cs : List (Int × List Int)) (f : Bool) (bs : List Int) (n : Int) (h0 : tIntSS.Rd w [.slice a0 n0 c0] ss) (h1 : (tWrS E).Rd w [.slice a1 n1 c1] cs) (h3 : tIntS.Rd w [.slice a3 n3 c3] bs) (hw : wtMem (ss, cs, f, bs) ≤ 2097152) :
    Calls Try.prog 86 #[.agg #[.slice a0 n0 c0, .slice a1 n1 c1, .bool f, .slice a3 n3 c3], .int .i64 n] w fun e w' => ∃ a' l c', e = .returned (.tuple #[.slice a' l c', .bool (readOk ss cs f bs n)]) ∧ tIntS.Own w' w.heap.size w'.heap.size [.slice a' l c'] (readD ss cs f bs n) ∧ Below w.heap.size w w' := by
  obtain ⟨hl0, _, hm0⟩ := row_length h0
  obtain ⟨hl1, _, hm1⟩ := row_length h1
  obtain ⟨hl3, _, hm3⟩ := row_length h3
  have hw3 : n3 ≤ 2097152 := by unfold wtMem at hw; simp only at hw; omega
  have hw0 : wtIntSS ss ≤ 2097152 := by unfold wtMem at hw; simp only at hw; omega
  have hw1 : wtWrS cs ≤ 2097152 := by unfold wtMem at hw; simp only at hw; omega
  have hn0 : n0 ≤ 2097152 := by unfold wtIntSS at hw0; omega
  have hn1 : n1 ≤ 2097152 := by unfold wtWrS at hw1; omega
  have hA : Below w.heap.size w (w.alloc (.cells #[.slice a0 n0 c0, .slice a1 n1 c1, .bool f, .slice a3 n3 c3] 54)) := (Below.refl _ _).alloc (Nat.le_refl _) _
  have xm := Box.new w 54 #[.slice a0 n0 c0, .slice a1 n1 c1, .bool f, .slice a3 n3 c3]
  have g0 := h0.below hA
  have g1 := h1.below hA
  have g3 := h3.below hA
  obtain ⟨q0, q1, q2, q3⟩ := xm.cells4
  have zm := xm.lt
  have fin : ∀ w1, Below w.heap.size w w1 → tIntS.Own (w1.alloc (.cells #[] 3)) w.heap.size (w1.alloc (.cells #[] 3)).heap.size [.slice (some ⟨w1.heap.size, 0, none⟩) 0 0] [] ∧ Below w.heap.size w (w1.alloc (.cells #[] 3)) := by
    intro w1 hb
    have hs := hb.size
    exact ⟨(own_ints (Owns.lit .i64 3 w1 [] 0 #[] rfl rfl (by unfold maxLen; omega))).widen hs (Nat.le_refl _), hb.alloc hb.size _⟩
  by_cases hM : memB ss cs bs = true
  · by_cases hf : f = true
    · subst hf
      have hro : readOk ss cs true bs n = false := by unfold readOk; rw [hM]; rfl
      have hrd : readD ss cs true bs n = [] := by unfold readD; rw [hro]; rfl
      rw [hro, hrd]
      clear hro hrd
      go_enter Try.func86, Try.ntmps86
      go_wp2_with fail
      generalize hW : w.alloc (.cells #[.slice a0 n0 c0, .slice a1 n1 c1, .bool true, .slice a3 n3 c3] 54) = W at hA g0 g1 g3 q0 q1 q2 q3 zm ⊢
      clear hW xm
      refine (specMemOk_any _ E _ _ _ _ _ _ _ _ _ ss cs true bs g0 g1 g3 hw).mono ?_
      rintro e w1 ⟨rfl, b1⟩
      have r0 := (b1.cell (p := ⟨w.heap.size, 0, none⟩) zm).trans q0
      have r1 := (b1.cell (p := ⟨w.heap.size, 1, none⟩) zm).trans q1
      have r2 := (b1.cell (p := ⟨w.heap.size, 2, none⟩) zm).trans q2
      have r3 := (b1.cell (p := ⟨w.heap.size, 3, none⟩) zm).trans q3
      have B1 := Below.andThen hA b1
      have z1 := Nat.lt_of_lt_of_le zm b1.size
      clear q0 q1 q2 q3
      go_wp2
      go_ret2
      exact ⟨_, _, _, rfl, (fin _ B1).1, (fin _ B1).2⟩
    · have hf : f = false := by simpa using hf
      subst hf
      by_cases hI : inB n 0 ((n0 : Int) - 1) = true
      · by_cases hB : inL bs n = true
        · have hro : readOk ss cs false bs n = false := by unfold readOk; rw [hM, hl0, hI, hB]; rfl
          have hrd : readD ss cs false bs n = [] := by unfold readD; rw [hro]; rfl
          rw [hro, hrd]
          clear hro hrd
          go_enter Try.func86, Try.ntmps86
          go_wp2_with fail
          generalize hW : w.alloc (.cells #[.slice a0 n0 c0, .slice a1 n1 c1, .bool false, .slice a3 n3 c3] 54) = W at hA g0 g1 g3 q0 q1 q2 q3 zm ⊢
          clear hW xm
          refine (specMemOk_any _ E _ _ _ _ _ _ _ _ _ ss cs false bs g0 g1 g3 hw).mono ?_
          rintro e w1 ⟨rfl, b1⟩
          have r0 := (b1.cell (p := ⟨w.heap.size, 0, none⟩) zm).trans q0
          have r1 := (b1.cell (p := ⟨w.heap.size, 1, none⟩) zm).trans q1
          have r2 := (b1.cell (p := ⟨w.heap.size, 2, none⟩) zm).trans q2
          have r3 := (b1.cell (p := ⟨w.heap.size, 3, none⟩) zm).trans q3
          have B1 := Below.andThen hA b1
          have z1 := Nat.lt_of_lt_of_le zm b1.size
          clear q0 q1 q2 q3
          have gw : IntKind.i64.wrap ((n0 : Int) - 1) = (n0 : Int) - 1 := IntWalk.i64_in _ (by omega)
          go_wp2_with fail
          refine (l1In_any _ _ _ _).mono ?_
          rintro e w2 ⟨rfl, hw2⟩
          subst w2
          have k3 := g3.below b1
          go_wp2_with fail
          refine (l2Has_any _ _ _ _ bs _ hl3 (ints_rd k3).1 hw3).mono ?_
          rintro e w3 ⟨rfl, s3⟩
          have B3 := Below.andSame B1 s3
          go_wp2
          go_ret2
          exact ⟨_, _, _, rfl, (fin _ B3).1, (fin _ B3).2⟩
        · have hB : inL bs n = false := by simpa using hB
          have hro : readOk ss cs false bs n = true := by unfold readOk; rw [hM, hl0, hI, hB]; rfl
          have hrd : readD ss cs false bs n = (lastW cs n).getD (secAt ss n) := by unfold readD; rw [hro]; rfl
          rw [hro, hrd]
          clear hro hrd
          have hI' : 0 ≤ n ∧ n ≤ (n0 : Int) - 1 := by unfold inB at hI; simpa using hI
          obtain ⟨k, rfl⟩ : ∃ k : Nat, n = (k : Int) := ⟨n.toNat, by omega⟩
          have hk : k < n0 := by omega
          go_enter Try.func86, Try.ntmps86
          go_wp2_with fail
          generalize hW : w.alloc (.cells #[.slice a0 n0 c0, .slice a1 n1 c1, .bool false, .slice a3 n3 c3] 54) = W at hA g0 g1 g3 q0 q1 q2 q3 zm ⊢
          clear hW xm
          refine (specMemOk_any _ E _ _ _ _ _ _ _ _ _ ss cs false bs g0 g1 g3 hw).mono ?_
          rintro e w1 ⟨rfl, b1⟩
          have r0 := (b1.cell (p := ⟨w.heap.size, 0, none⟩) zm).trans q0
          have r1 := (b1.cell (p := ⟨w.heap.size, 1, none⟩) zm).trans q1
          have r2 := (b1.cell (p := ⟨w.heap.size, 2, none⟩) zm).trans q2
          have r3 := (b1.cell (p := ⟨w.heap.size, 3, none⟩) zm).trans q3
          have B1 := Below.andThen hA b1
          have z1 := Nat.lt_of_lt_of_le zm b1.size
          clear q0 q1 q2 q3
          have gw : IntKind.i64.wrap ((n0 : Int) - 1) = (n0 : Int) - 1 := IntWalk.i64_in _ (by omega)
          go_wp2_with fail
          refine (l1In_any _ _ _ _).mono ?_
          rintro e w2 ⟨rfl, hw2⟩
          subst w2
          have k3 := g3.below b1
          go_wp2_with fail
          refine (l2Has_any _ _ _ _ bs _ hl3 (ints_rd k3).1 hw3).mono ?_
          rintro e w3 ⟨rfl, s3⟩
          have B3 := Below.andSame B1 s3
          have m0 := (s3.cell _).trans r0
          have m1 := (s3.cell _).trans r1
          have b3 := Below.andSame b1 s3
          have y1 := g1.below b3
          rcases rows_at rfl g0 with h0' | ⟨b, off, rfl, hbl, hcs⟩
          · omega
          have hdj : ss[k]? = some (ss[k]'(by omega)) := List.getElem?_eq_getElem (by omega)
          generalize ss[k]'(by omega) = x at hdj
          have hil := inner_le hdj
          obtain ⟨v, hv, hrv⟩ := hcs k x hdj
          obtain ⟨av, cv, rfl⟩ := row_shape hrv
          have mv := (b3.cell (p := ⟨b, off + k, none⟩) hbl).trans hv
          have hrx := hrv.below b3
          have hgx : secAt ss (k : Int) = x := by unfold secAt; rw [Int.toNat_natCast, List.getD_eq_getElem?_getD, hdj]; rfl
          have HGX := hidden hgx
          have HY := hidden y1
          have HX := hidden hrx
          have HB3 := hidden B3
          have i1 : (0 : Int) ≤ (k : Int) := by omega
          have i2 : (k : Int) < (n0 : Int) := by omega
          clear hcs hdj hv hrv hgx y1 hrx B3 b3 r0 r1 r2 r3 g0 g1 g3 k3 B1 b1 s3 hA fin hB hI hI' hM
          go_wp2
          go_loopw [6, 7] (fun sv i wr => ∃ (j : Nat) (aj : Option Addr) (lj cj : Nat), j ≤ n1 ∧ i = .int .i64 j ∧ sv = .slice aj lj cj ∧ tIntS.Rd w3 [.slice aj lj cj] ((lastW (cs.take j) (k : Int)).getD x) ∧ lj ≤ 2097152 ∧ Same w3 wr) (fun _ i _ => n1 - (intOf i).toNat)
          case atStart => exact ⟨0, av, x.length, cv, Nat.zero_le _, rfl, rfl, HX.out, by omega, Same.refl _⟩
          case round =>
            obtain ⟨j, aj, lj, cj, hj, rfl, rfl, hrj, hlj, hs⟩ := hrel
            have p1 := (hs.cell _).trans m1
            have HRJ := hidden hrj
            by_cases hjn : j < n1
            · rcases pairs_at rfl HY.out with h0' | ⟨bb, ob, rfl, hbb, hcs⟩
              · omega
              have hdj : cs[j]? = some (cs[j]'(by omega)) := List.getElem?_eq_getElem (by omega)
              have htk : cs.take (j + 1) = cs.take j ++ [cs[j]'(by omega)] := List.take_succ_eq_append_getElem (by omega)
              generalize cs[j]'(by omega) = y at hdj htk
              have hil2 := inner_le' hdj
              obtain ⟨v0, v1, hv0, hv1, hry⟩ := hcs j y hdj
              obtain ⟨rfl, hry'⟩ := wr_rd hry
              obtain ⟨ay, cy, rfl⟩ := row_shape hry'
              have u0 := (hs.cell ⟨bb, ob + j * 2, none⟩).trans hv0
              have u1 := (hs.cell ⟨bb, ob + j * 2 + 1, none⟩).trans hv1
              obtain ⟨y0, y1⟩ := y
              simp only at u0 u1 hry' hil2
              have hls := lastW_snoc (cs.take j) (y0, y1) (k : Int)
              rw [← htk] at hls
              have HRY := hidden hry'
              by_cases hy : y0 = (k : Int)
              · have HLS : Hid (lastW (cs.take (j + 1)) (k : Int) = some y1) := by unfold Hid; rw [hls]; simp [hy]
                subst hy
                clear hcs hdj hv0 hv1 hry hry' htk hls hrj
                go_wp2
                go_roundw
                case rel => exact ⟨j + 1, ay, y1.length, cy, by omega, by go_num, rfl, by rw [HLS.out]; exact HRY.out, by omega, hs⟩
                case measure => simp [intOf]; omega
              · have HLS : Hid (lastW (cs.take (j + 1)) (k : Int) = lastW (cs.take j) (k : Int)) := by unfold Hid; rw [hls]; simp [hy]
                clear hcs hdj hv0 hv1 hry hry' htk hls hrj
                go_wp2
                go_roundw
                case rel => exact ⟨j + 1, aj, lj, cj, by omega, by go_num, rfl, by rw [HLS.out]; exact HRJ.out, hlj, hs⟩
                case measure => simp [intOf]; omega
            · have e : j = n1 := by omega
              subst e
              rw [List.take_of_length_le (by omega)] at hrj
              have HF := hidden hrj
              have HZ : Hid ((lastW cs (k : Int)).getD (secAt ss (k : Int)) = (lastW cs (k : Int)).getD x) := by unfold Hid; rw [HGX.out]
              generalize (lastW cs (k : Int)).getD x = zs at hrj HF HZ
              obtain ⟨i0, hi, hz0, hz1, hz2⟩ := info_parts Try.info3
              have hBr := Below.andSame HB3.out hs
              have hsr := hBr.size
              have hO : Owns .i64 3 (wr.alloc (.cells #[] 3)) wr.heap.size (.slice (some ⟨wr.heap.size, 0, none⟩) 0 0) [] := Owns.lit .i64 3 wr [] 0 #[] rfl rfl (by unfold maxLen; omega)
              have hA2 : Below wr.heap.size wr (wr.alloc (.cells #[] 3)) := (Below.refl _ _).alloc (Nat.le_refl _) _
              obtain ⟨hr, hlz, _, _⟩ := ints_rd ((hrj.same hs).below hA2)
              have HO := hidden hO
              have HR := hidden hr
              have HA2 := hidden (Below.andThen hBr hA2)
              clear hO hr hA2 hBr HRJ
              match aj, hrj, HR, HF with
              | none, hrj, _, _ =>
                obtain ⟨rfl, rfl, rfl⟩ := row_nil hrj
                clear hrj
                go_wp2_with (at_builtin; refine wpList_append_own_none rfl _ _ 38 rfl wr.heap.size 3 i0 1 Try.underlying38 hi _ 0 [] rfl ?_ rfl ?_; exact HO.out)
                go_ret2
                exact ⟨_, _, _, rfl, by rw [HZ.out]; exact (own_ints HO.out).widen hsr (Nat.le_refl _), HA2.out⟩
              | some ad, hrj, HR, _ =>
                clear hrj
                go_wp2_with (at_builtin; refine wpList_app .i64 rfl _ _ 38 rfl wr.heap.size 3 i0 (.int .i64 0) 8 Try.underlying38 hi hz0 hz1 hz2 rfl _ [] rfl ?_ ad lj cj zs rfl hlz ?_ (by unfold maxLen; simp; omega) (by simp; omega) (by simp) ?_; exact HO.out; exact HR.out; intro v' w9 ho9 hb9; obtain ⟨a9, c9, hv9, _⟩ := ho9.shape; rw [List.nil_append, hlz] at hv9; rw [List.nil_append] at ho9; subst hv9)
                go_ret2
                exact ⟨_, _, _, rfl, by rw [HZ.out]; exact (own_ints ho9).widen hsr (Nat.le_refl _), HA2.out.trans (hb9.mono hsr)⟩
      · have hI : inB n 0 ((n0 : Int) - 1) = false := by simpa using hI
        have hro : readOk ss cs false bs n = false := by unfold readOk; rw [hM, hl0, hI]; rfl
        have hrd : readD ss cs false bs n = [] := by unfold readD; rw [hro]; rfl
        rw [hro, hrd]
        clear hro hrd
        go_enter Try.func86, Try.ntmps86
        go_wp2_with fail
        generalize hW : w.alloc (.cells #[.slice a0 n0 c0, .slice a1 n1 c1, .bool false, .slice a3 n3 c3] 54) = W at hA g0 g1 g3 q0 q1 q2 q3 zm ⊢
        clear hW xm
        refine (specMemOk_any _ E _ _ _ _ _ _ _ _ _ ss cs false bs g0 g1 g3 hw).mono ?_
        rintro e w1 ⟨rfl, b1⟩
        have r0 := (b1.cell (p := ⟨w.heap.size, 0, none⟩) zm).trans q0
        have r1 := (b1.cell (p := ⟨w.heap.size, 1, none⟩) zm).trans q1
        have r2 := (b1.cell (p := ⟨w.heap.size, 2, none⟩) zm).trans q2
        have r3 := (b1.cell (p := ⟨w.heap.size, 3, none⟩) zm).trans q3
        have B1 := Below.andThen hA b1
        have z1 := Nat.lt_of_lt_of_le zm b1.size
        clear q0 q1 q2 q3
        have gw : IntKind.i64.wrap ((n0 : Int) - 1) = (n0 : Int) - 1 := IntWalk.i64_in _ (by omega)
        go_wp2_with fail
        refine (l1In_any _ _ _ _).mono ?_
        rintro e w2 ⟨rfl, hw2⟩
        subst w2
        go_wp2
        go_ret2
        exact ⟨_, _, _, rfl, (fin _ B1).1, (fin _ B1).2⟩
  · have hM : memB ss cs bs = false := by simpa using hM
    have hro : readOk ss cs f bs n = false := by unfold readOk; rw [hM]; rfl
    have hrd : readD ss cs f bs n = [] := by unfold readD; rw [hro]; rfl
    rw [hro, hrd]
    clear hro hrd
    go_enter Try.func86, Try.ntmps86
    go_wp2_with fail
    generalize hW : w.alloc (.cells #[.slice a0 n0 c0, .slice a1 n1 c1, .bool f, .slice a3 n3 c3] 54) = W at hA g0 g1 g3 q0 q1 q2 q3 zm ⊢
    clear hW xm
    refine (specMemOk_any _ E _ _ _ _ _ _ _ _ _ ss cs f bs g0 g1 g3 hw).mono ?_
    rintro e w1 ⟨rfl, b1⟩
    have r0 := (b1.cell (p := ⟨w.heap.size, 0, none⟩) zm).trans q0
    have r1 := (b1.cell (p := ⟨w.heap.size, 1, none⟩) zm).trans q1
    have r2 := (b1.cell (p := ⟨w.heap.size, 2, none⟩) zm).trans q2
    have r3 := (b1.cell (p := ⟨w.heap.size, 3, none⟩) zm).trans q3
    have B1 := Below.andThen hA b1
    have z1 := Nat.lt_of_lt_of_le zm b1.size
    clear q0 q1 q2 q3
    go_wp2
    go_ret2
    exact ⟨_, _, _, rfl, (fin _ B1).1, (fin _ B1).2⟩

end Go.Proofs.Ytfimpohbpccjaaa

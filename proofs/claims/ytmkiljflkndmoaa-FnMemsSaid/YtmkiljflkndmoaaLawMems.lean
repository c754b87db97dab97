/-
  The walk of the law of disks: whatever bytes it draws from, it answers true, and nothing that was there has turned. No condition.
-/
import Derived.Test.YtmkiljflkndmoaaWalkDrawAny
import Derived.Test.YtmkiljflkndmoaaWalkSameMem
import Derived.Test.YtmkiljflkndmoaaWalkWrite
import Derived.Test.YtmkiljflkndmoaaWalkWriteSpec
import Derived.Test.YtmkiljflkndmoaaMemsData
import Derived.Test.YtmkiljflkndmoaaWalkRead2
import Derived.Test.YtmkiljflkndmoaaWalkFlushSpec
import Derived.Test.YtmkiljflkndmoaaWalkFallSpec
import Derived.Test.YtmkiljflkndmoaaMemWts
import Derived.Test.YtmkiljflkndmoaaWalkBig
namespace Go.Proofs.Ytmkiljflkndmoaa
open Go.RowKit

set_option maxRecDepth 8000 in
set_option maxHeartbeats 16000000 in
theorem fnMems_walk (a0 : Option Addr) (len0 cap0 : Nat) (z0 : List Int) (w : World) (w0 : IsRow .u8 w a0 len0 cap0 z0) :
    Calls Try.prog 5 #[.slice a0 len0 cap0] w fun e w' => e = .returned (.bool true) ∧ Below w.heap.size w w' := by
  obtain ⟨R, hl, hwf, hml⟩ := w0.reads
  generalize z0.take len0 = zs at R hl hwf
  unfold maxLen at hml
  have hby := bytes_of_wf hwf
  clear w0 hwf
  by_cases hbig : len0 ≤ 1048576
  rotate_left
  · go_enter Try.func5, Try.ntmps5
    go_wp2_with fail
    refine (big_any _ _ _ _).mono ?_
    rintro e wb ⟨rfl, rfl⟩
    go_wp2
    go_ret
    exact ⟨rfl, Below.refl _ _⟩
  have hlb : len0 ≤ 2097152 := by omega
  have B := hidden (Below.refl w.heap.size w)
  have HR := hidden R
  clear R
  go_enter Try.func5, Try.ntmps5
  go_wp2_with fail
  refine (big_any _ _ _ _).mono ?_
  rintro e wb ⟨rfl, rfl⟩
  go_wp2_with fail
  refine (dDrawWriteSec_any _ _ _ _ zs hl HR.out hby hlb).mono ?_
  rintro e w1 ⟨n, sv, sw, hsw, hso, v0, v1, v3, ss, cs, f, bs, rfl, h0, h1, h3, hw, b⟩
  have Hm0 := hidden h0
  have Hm1 := hidden h1
  have Hm3 := hidden h3
  obtain ⟨sa, sc, hsv, _, _⟩ := hso.shape
  have Hs := hidden (own_ints hso).rd
  have Wm : Hid (wtMem (ss, cs, f, bs) ≤ 1048576) := Nat.le_trans hw (by decide)
  have Vm : Hid (wtMem (ss, cs, f, bs) ≤ 2097152) := Nat.le_trans hw (by decide)
  obtain ⟨ma0, mc0, hs0⟩ := row_shape h0
  obtain ⟨ma1, mc1, hs1⟩ := row_shape h1
  obtain ⟨ma3, mc3, hs3⟩ := row_shape h3
  have HL0 : Hid (∃ l, l = List.length ss) := ⟨_, rfl⟩
  generalize hl0 : List.length ss = mn0 at hs0
  generalize List.length cs = mn1 at hs1
  generalize List.length bs = mn3 at hs3
  have HLM := hidden hl0
  clear HL0 hl0
  subst hs0 hs1 hs3 hsv
  clear h0 h1 h3 hso hw
  have HSW := hidden hsw
  have B' := hidden (Below.andThen B.out b)
  clear B b HR
  have B := B'
  clear B'
  have bA : Below w1.heap.size w1 (w1.alloc (.cells #[.slice ma0 mn0 mc0, .slice ma1 mn1 mc1, .bool f, .slice ma3 mn3 mc3] 44)) := (Below.refl _ _).alloc (Nat.le_refl _) _
  have Hm0' := hidden (Hm0.out.below bA)
  have Hm1' := hidden (Hm1.out.below bA)
  have Hm3' := hidden (Hm3.out.below bA)
  have Hs' := hidden (Hs.out.below bA)
  have B' := hidden (Below.andThen B.out bA)
  clear Hm0 Hm1 Hm3 Hs B
  have Hm0 := Hm0'
  have Hm1 := Hm1'
  have Hm3 := Hm3'
  have Hs := Hs'
  have B := B'
  clear Hm0' Hm1' Hm3' Hs' B'
  clear bA
  have Xm := hidden (Box.new w1 44 #[.slice ma0 mn0 mc0, .slice ma1 mn1 mc1, .bool f, .slice ma3 mn3 mc3])
  obtain ⟨q0, q1, q2, q3⟩ := Xm.out.cells4
  go_wp2_with fail
  generalize w1.alloc (.cells #[.slice ma0 mn0 mc0, .slice ma1 mn1 mc1, .bool f, .slice ma3 mn3 mc3] 44) = w1A at Hm0 Hm1 Hm3 Hs Xm B ⊢
  refine (implWriteSec_any _ 57 _ _ _ _ _ _ _ _ _ _ _ _ ss cs f bs n sw Hm0.out Hm1.out Hm3.out Hs.out Vm.out (by omega)).mono ?_
  rintro e w2 ⟨t0, t1, t3, rfl, o, b⟩
  obtain ⟨xa0, xn0, xc0, xa1, xn1, xc1, xa3, xn3, xc3, ht0, ht1, ht3⟩ := mem_slices o
  subst ht0 ht1 ht3
  obtain ⟨h0, h1, h3⟩ := mem_parts o
  have Hm0' := hidden (Hm0.out.below b)
  have Hm1' := hidden (Hm1.out.below b)
  have Hm3' := hidden (Hm3.out.below b)
  have Hs' := hidden (Hs.out.below b)
  have Xm' := hidden (Xm.out.below b Xm.out.lt)
  have B' := hidden (Below.andThen B.out b)
  clear Hm0 Hm1 Hm3 Hs Xm B
  have Hm0 := Hm0'
  have Hm1 := Hm1'
  have Hm3 := Hm3'
  have Hs := Hs'
  have Xm := Xm'
  have B := B'
  clear Hm0' Hm1' Hm3' Hs' Xm' B'
  clear b o q0 q1 q2 q3
  have Hx0 := hidden h0
  have Hx1 := hidden h1
  have Hx3 := hidden h3
  clear h0 h1 h3
  have bA : Below w2.heap.size w2 (w2.alloc (.cells #[.slice xa0 xn0 xc0, .slice xa1 xn1 xc1, .bool f, .slice xa3 xn3 xc3] 44)) := (Below.refl _ _).alloc (Nat.le_refl _) _
  have Hm0' := hidden (Hm0.out.below bA)
  have Hm1' := hidden (Hm1.out.below bA)
  have Hm3' := hidden (Hm3.out.below bA)
  have Hs' := hidden (Hs.out.below bA)
  have Hx0' := hidden (Hx0.out.below bA)
  have Hx1' := hidden (Hx1.out.below bA)
  have Hx3' := hidden (Hx3.out.below bA)
  have Xm' := hidden (Xm.out.below bA Xm.out.lt)
  have B' := hidden (Below.andThen B.out bA)
  clear Hm0 Hm1 Hm3 Hs Hx0 Hx1 Hx3 Xm B
  have Hm0 := Hm0'
  have Hm1 := Hm1'
  have Hm3 := Hm3'
  have Hs := Hs'
  have Hx0 := Hx0'
  have Hx1 := Hx1'
  have Hx3 := Hx3'
  have Xm := Xm'
  have B := B'
  clear Hm0' Hm1' Hm3' Hs' Hx0' Hx1' Hx3' Xm' B'
  clear bA
  have Xx := hidden (Box.new w2 44 #[.slice xa0 xn0 xc0, .slice xa1 xn1 xc1, .bool f, .slice xa3 xn3 xc3])
  obtain ⟨q0, q1, q2, q3⟩ := Xm.out.cells4
  go_wp2_with fail
  generalize w2.alloc (.cells #[.slice xa0 xn0 xc0, .slice xa1 xn1 xc1, .bool f, .slice xa3 xn3 xc3] 44) = w2A at Hm0 Hm1 Hm3 Hs Hx0 Hx1 Hx3 Xm Xx B ⊢
  refine (specWriteSec_any _ 57 _ _ _ _ _ _ _ _ _ _ _ _ ss cs f bs n sw Hm0.out Hm1.out Hm3.out Hs.out Vm.out (by omega)).mono ?_
  rintro e w3 ⟨t0, t1, t3, rfl, o, b⟩
  obtain ⟨ya0, yn0, yc0, ya1, yn1, yc1, ya3, yn3, yc3, ht0, ht1, ht3⟩ := mem_slices o
  subst ht0 ht1 ht3
  obtain ⟨h0, h1, h3⟩ := mem_parts o
  have Hm0' := hidden (Hm0.out.below b)
  have Hm1' := hidden (Hm1.out.below b)
  have Hm3' := hidden (Hm3.out.below b)
  have Hs' := hidden (Hs.out.below b)
  have Hx0' := hidden (Hx0.out.below b)
  have Hx1' := hidden (Hx1.out.below b)
  have Hx3' := hidden (Hx3.out.below b)
  have Xm' := hidden (Xm.out.below b Xm.out.lt)
  have Xx' := hidden (Xx.out.below b Xx.out.lt)
  have B' := hidden (Below.andThen B.out b)
  clear Hm0 Hm1 Hm3 Hs Hx0 Hx1 Hx3 Xm Xx B
  have Hm0 := Hm0'
  have Hm1 := Hm1'
  have Hm3 := Hm3'
  have Hs := Hs'
  have Hx0 := Hx0'
  have Hx1 := Hx1'
  have Hx3 := Hx3'
  have Xm := Xm'
  have Xx := Xx'
  have B := B'
  clear Hm0' Hm1' Hm3' Hs' Hx0' Hx1' Hx3' Xm' Xx' B'
  clear b o q0 q1 q2 q3
  have Hy0 := hidden h0
  have Hy1 := hidden h1
  have Hy3 := hidden h3
  clear h0 h1 h3
  have bA : Below w3.heap.size w3 (w3.alloc (.cells #[.slice ya0 yn0 yc0, .slice ya1 yn1 yc1, .bool f, .slice ya3 yn3 yc3] 44)) := (Below.refl _ _).alloc (Nat.le_refl _) _
  have Hm0' := hidden (Hm0.out.below bA)
  have Hm1' := hidden (Hm1.out.below bA)
  have Hm3' := hidden (Hm3.out.below bA)
  have Hs' := hidden (Hs.out.below bA)
  have Hx0' := hidden (Hx0.out.below bA)
  have Hx1' := hidden (Hx1.out.below bA)
  have Hx3' := hidden (Hx3.out.below bA)
  have Hy0' := hidden (Hy0.out.below bA)
  have Hy1' := hidden (Hy1.out.below bA)
  have Hy3' := hidden (Hy3.out.below bA)
  have Xm' := hidden (Xm.out.below bA Xm.out.lt)
  have Xx' := hidden (Xx.out.below bA Xx.out.lt)
  have B' := hidden (Below.andThen B.out bA)
  clear Hm0 Hm1 Hm3 Hs Hx0 Hx1 Hx3 Hy0 Hy1 Hy3 Xm Xx B
  have Hm0 := Hm0'
  have Hm1 := Hm1'
  have Hm3 := Hm3'
  have Hs := Hs'
  have Hx0 := Hx0'
  have Hx1 := Hx1'
  have Hx3 := Hx3'
  have Hy0 := Hy0'
  have Hy1 := Hy1'
  have Hy3 := Hy3'
  have Xm := Xm'
  have Xx := Xx'
  have B := B'
  clear Hm0' Hm1' Hm3' Hs' Hx0' Hx1' Hx3' Hy0' Hy1' Hy3' Xm' Xx' B'
  clear bA
  have Xy := hidden (Box.new w3 44 #[.slice ya0 yn0 yc0, .slice ya1 yn1 yc1, .bool f, .slice ya3 yn3 yc3])
  have WX := hidden (wr_wt (n := n) (sw := sw) Wm.out (by omega))
  have ee : ∀ b : Bool, (b != b) = false := by simp
  have ee2 : ∀ b : Bool, (b == b) = true := by simp
  have eOK := ee (wrOk ss cs f bs n sw)
  have eOK2 := ee2 (wrOk ss cs f bs n sw)
  clear ee ee2
  by_cases hOK : wrOk ss cs f bs n sw = true
  rotate_left
  · have hOK : wrOk ss cs f bs n sw = false := by simpa using hOK
    obtain ⟨qx0, qx1, qx2, qx3⟩ := Xx.out.cells4
    obtain ⟨qy0, qy1, qy2, qy3⟩ := Xy.out.cells4
    go_wp2_with fail
    generalize w3.alloc (.cells #[.slice ya0 yn0 yc0, .slice ya1 yn1 yc1, .bool f, .slice ya3 yn3 yc3] 44) = w3A at Hm0 Hm1 Hm3 Hs Hx0 Hx1 Hx3 Hy0 Hy1 Hy3 Xm Xx Xy B ⊢
    refine (sameMem_same _ 57 57 _ _ _ _ _ _ _ _ _ _ _ _ _ _ _ _ _ _ ss (wrCS ss cs f bs n sw) f (wrBS ss cs f bs n sw) Hx0.out Hx1.out Hx3.out Hy0.out Hy1.out Hy3.out WX.out).mono ?_
    rintro e w4 ⟨rfl, b⟩
    have Hm0' := hidden (Hm0.out.below b)
    have Hm1' := hidden (Hm1.out.below b)
    have Hm3' := hidden (Hm3.out.below b)
    have Hs' := hidden (Hs.out.below b)
    have Hx0' := hidden (Hx0.out.below b)
    have Hx1' := hidden (Hx1.out.below b)
    have Hx3' := hidden (Hx3.out.below b)
    have Hy0' := hidden (Hy0.out.below b)
    have Hy1' := hidden (Hy1.out.below b)
    have Hy3' := hidden (Hy3.out.below b)
    have Xm' := hidden (Xm.out.below b Xm.out.lt)
    have Xx' := hidden (Xx.out.below b Xx.out.lt)
    have Xy' := hidden (Xy.out.below b Xy.out.lt)
    have B' := hidden (Below.andThen B.out b)
    clear Hm0 Hm1 Hm3 Hs Hx0 Hx1 Hx3 Hy0 Hy1 Hy3 Xm Xx Xy B
    have Hm0 := Hm0'
    have Hm1 := Hm1'
    have Hm3 := Hm3'
    have Hs := Hs'
    have Hx0 := Hx0'
    have Hx1 := Hx1'
    have Hx3 := Hx3'
    have Hy0 := Hy0'
    have Hy1 := Hy1'
    have Hy3 := Hy3'
    have Xm := Xm'
    have Xx := Xx'
    have Xy := Xy'
    have B := B'
    clear Hm0' Hm1' Hm3' Hs' Hx0' Hx1' Hx3' Hy0' Hy1' Hy3' Xm' Xx' Xy' B'
    clear b qx0 qx1 qx2 qx3 qy0 qy1 qy2 qy3
    have d1 : wrCS ss cs f bs n sw = cs := by unfold wrCS; rw [hOK]; rfl
    have d2 : wrBS ss cs f bs n sw = bs := by unfold wrBS; rw [hOK]; rfl
    rw [d1] at Hx1
    rw [d2] at Hx3
    clear d1 d2
    obtain ⟨qx0, qx1, qx2, qx3⟩ := Xx.out.cells4
    obtain ⟨qm0, qm1, qm2, qm3⟩ := Xm.out.cells4
    go_wp2_with fail
    refine (sameMem_same _ 57 57 _ _ _ _ _ _ _ _ _ _ _ _ _ _ _ _ _ _ ss cs f bs Hx0.out Hx1.out Hx3.out Hm0.out Hm1.out Hm3.out Vm.out).mono ?_
    rintro e w5 ⟨rfl, b⟩
    have BE := hidden (Below.andThen B.out b)
    go_wp2
    go_ret
    exact ⟨rfl, BE.out⟩
  obtain ⟨hM, hf, hn0, hn1, hS⟩ := wrOk_parts hOK
  subst hf
  have HMX := hidden (memB_write hOK)
  have HOT := hidden (fun (i : Int) (hi : i ≠ n) => read_other hOK hi)
  have HSE := hidden (read_self hOK)
  have HRF := hidden (fun (i : Nat) (hi : i < ss.length) => read_flush HMX.out i hi)
  obtain ⟨qx0, qx1, qx2, qx3⟩ := Xx.out.cells4
  obtain ⟨qy0, qy1, qy2, qy3⟩ := Xy.out.cells4
  go_wp2_with fail
  generalize w3.alloc (.cells #[.slice ya0 yn0 yc0, .slice ya1 yn1 yc1, .bool false, .slice ya3 yn3 yc3] 44) = w3A at Hm0 Hm1 Hm3 Hs Hx0 Hx1 Hx3 Hy0 Hy1 Hy3 Xm Xx Xy B ⊢
  refine (sameMem_same _ 57 57 _ _ _ _ _ _ _ _ _ _ _ _ _ _ _ _ _ _ ss (wrCS ss cs false bs n sw) false (wrBS ss cs false bs n sw) Hx0.out Hx1.out Hx3.out Hy0.out Hy1.out Hy3.out WX.out).mono ?_
  rintro e w4 ⟨rfl, b⟩
  have Hm0' := hidden (Hm0.out.below b)
  have Hm1' := hidden (Hm1.out.below b)
  have Hm3' := hidden (Hm3.out.below b)
  have Hs' := hidden (Hs.out.below b)
  have Hx0' := hidden (Hx0.out.below b)
  have Hx1' := hidden (Hx1.out.below b)
  have Hx3' := hidden (Hx3.out.below b)
  have Hy0' := hidden (Hy0.out.below b)
  have Hy1' := hidden (Hy1.out.below b)
  have Hy3' := hidden (Hy3.out.below b)
  have Xm' := hidden (Xm.out.below b Xm.out.lt)
  have Xx' := hidden (Xx.out.below b Xx.out.lt)
  have Xy' := hidden (Xy.out.below b Xy.out.lt)
  have B' := hidden (Below.andThen B.out b)
  clear Hm0 Hm1 Hm3 Hs Hx0 Hx1 Hx3 Hy0 Hy1 Hy3 Xm Xx Xy B
  have Hm0 := Hm0'
  have Hm1 := Hm1'
  have Hm3 := Hm3'
  have Hs := Hs'
  have Hx0 := Hx0'
  have Hx1 := Hx1'
  have Hx3 := Hx3'
  have Hy0 := Hy0'
  have Hy1 := Hy1'
  have Hy3 := Hy3'
  have Xm := Xm'
  have Xx := Xx'
  have Xy := Xy'
  have B := B'
  clear Hm0' Hm1' Hm3' Hs' Hx0' Hx1' Hx3' Hy0' Hy1' Hy3' Xm' Xx' Xy' B'
  clear b qx0 qx1 qx2 qx3 qy0 qy1 qy2 qy3
  have d1 : wrCS ss cs false bs n sw = cs ++ [(n, sw)] := by unfold wrCS; rw [hOK]; rfl
  have d2 : wrBS ss cs false bs n sw = filt bs n := by unfold wrBS; rw [hOK]; rfl
  rw [d1] at Hx1 WX
  rw [d2] at Hx3 WX
  clear d1 d2
  obtain ⟨nn, rfl⟩ := Int.eq_ofNat_of_zero_le hn0
  have HFA := hidden (flush_at (cs := cs) (sw := sw) (show nn < ss.length by omega))
  have HLX : Hid (∀ i : Int, (readD ss (cs ++ [((nn : Int), sw)]) false (filt bs nn) i).length ≤ 1048576) := fun i => by
    by_cases hi : i = (nn : Int)
    · rw [hi, HSE.out.2]
      have := HSW.out
      omega
    · rw [(HOT.out i hi).2]
      exact readD_le Wm.out
  have HCF : Hid (flSS ss (cs ++ [((nn : Int), sw)]) false (filt bs nn) = flushD ss (cs ++ [((nn : Int), sw)]) ∧ flCS ss (cs ++ [((nn : Int), sw)]) false (filt bs nn) = []) := by
    unfold Hid flSS flCS
    rw [HMX.out]
    exact ⟨rfl, rfl⟩
  have HWF := hidden (flush_wt HMX.out (Nat.le_trans (filt_le bs (nn : Int)) (bs_le Wm.out)))
  have HSW2 := hidden hS
  clear hS hM
  obtain ⟨q0, q1, q2, q3⟩ := Xx.out.cells4
  go_wp2_with fail
  refine (implReadSec_any _ 57 _ _ _ _ _ _ _ _ _ ss (cs ++ [((nn : Int), sw)]) false (filt bs nn) (nn : Int) Hx0.out Hx1.out Hx3.out WX.out).mono ?_
  rintro e w5 ⟨ra, rl, rc, rfl, o, b⟩
  rw [HSE.out.1]
  rw [HSE.out.2] at o
  have Hr := hidden o.rd
  have Hm0' := hidden (Hm0.out.below b)
  have Hm1' := hidden (Hm1.out.below b)
  have Hm3' := hidden (Hm3.out.below b)
  have Hs' := hidden (Hs.out.below b)
  have Hx0' := hidden (Hx0.out.below b)
  have Hx1' := hidden (Hx1.out.below b)
  have Hx3' := hidden (Hx3.out.below b)
  have Hy0' := hidden (Hy0.out.below b)
  have Hy1' := hidden (Hy1.out.below b)
  have Hy3' := hidden (Hy3.out.below b)
  have Xm' := hidden (Xm.out.below b Xm.out.lt)
  have Xx' := hidden (Xx.out.below b Xx.out.lt)
  have Xy' := hidden (Xy.out.below b Xy.out.lt)
  have B' := hidden (Below.andThen B.out b)
  clear Hm0 Hm1 Hm3 Hs Hx0 Hx1 Hx3 Hy0 Hy1 Hy3 Xm Xx Xy B
  have Hm0 := Hm0'
  have Hm1 := Hm1'
  have Hm3 := Hm3'
  have Hs := Hs'
  have Hx0 := Hx0'
  have Hx1 := Hx1'
  have Hx3 := Hx3'
  have Hy0 := Hy0'
  have Hy1 := Hy1'
  have Hy3 := Hy3'
  have Xm := Xm'
  have Xx := Xx'
  have Xy := Xy'
  have B := B'
  clear Hm0' Hm1' Hm3' Hs' Hx0' Hx1' Hx3' Hy0' Hy1' Hy3' Xm' Xx' Xy' B'
  clear b o q0 q1 q2 q3
  obtain ⟨q0, q1, q2, q3⟩ := Xx.out.cells4
  go_wp2_with fail
  refine (implFlushMem_any _ 57 _ _ _ _ _ _ _ _ _ ss (cs ++ [((nn : Int), sw)]) false (filt bs nn) Hx0.out Hx1.out Hx3.out WX.out).mono ?_
  rintro e w6 ⟨t0, t1, t3, rfl, o, b⟩
  rw [HCF.out.1, HCF.out.2] at o
  obtain ⟨ga0, gn0, gc0, ga1, gn1, gc1, ga3, gn3, gc3, ht0, ht1, ht3⟩ := mem_slices o
  subst ht0 ht1 ht3
  obtain ⟨h0, h1, h3⟩ := mem_parts o
  have Hm0' := hidden (Hm0.out.below b)
  have Hm1' := hidden (Hm1.out.below b)
  have Hm3' := hidden (Hm3.out.below b)
  have Hs' := hidden (Hs.out.below b)
  have Hx0' := hidden (Hx0.out.below b)
  have Hx1' := hidden (Hx1.out.below b)
  have Hx3' := hidden (Hx3.out.below b)
  have Hy0' := hidden (Hy0.out.below b)
  have Hy1' := hidden (Hy1.out.below b)
  have Hy3' := hidden (Hy3.out.below b)
  have Hr' := hidden (Hr.out.below b)
  have Xm' := hidden (Xm.out.below b Xm.out.lt)
  have Xx' := hidden (Xx.out.below b Xx.out.lt)
  have Xy' := hidden (Xy.out.below b Xy.out.lt)
  have B' := hidden (Below.andThen B.out b)
  clear Hm0 Hm1 Hm3 Hs Hx0 Hx1 Hx3 Hy0 Hy1 Hy3 Hr Xm Xx Xy B
  have Hm0 := Hm0'
  have Hm1 := Hm1'
  have Hm3 := Hm3'
  have Hs := Hs'
  have Hx0 := Hx0'
  have Hx1 := Hx1'
  have Hx3 := Hx3'
  have Hy0 := Hy0'
  have Hy1 := Hy1'
  have Hy3 := Hy3'
  have Hr := Hr'
  have Xm := Xm'
  have Xx := Xx'
  have Xy := Xy'
  have B := B'
  clear Hm0' Hm1' Hm3' Hs' Hx0' Hx1' Hx3' Hy0' Hy1' Hy3' Hr' Xm' Xx' Xy' B'
  clear b o q0 q1 q2 q3
  have Hg0 := hidden h0
  have Hg1 := hidden h1
  have Hg3 := hidden h3
  clear h0 h1 h3
  have bA : Below w6.heap.size w6 (w6.alloc (.cells #[.slice ga0 gn0 gc0, .slice ga1 gn1 gc1, .bool false, .slice ga3 gn3 gc3] 44)) := (Below.refl _ _).alloc (Nat.le_refl _) _
  have Hm0' := hidden (Hm0.out.below bA)
  have Hm1' := hidden (Hm1.out.below bA)
  have Hm3' := hidden (Hm3.out.below bA)
  have Hs' := hidden (Hs.out.below bA)
  have Hx0' := hidden (Hx0.out.below bA)
  have Hx1' := hidden (Hx1.out.below bA)
  have Hx3' := hidden (Hx3.out.below bA)
  have Hy0' := hidden (Hy0.out.below bA)
  have Hy1' := hidden (Hy1.out.below bA)
  have Hy3' := hidden (Hy3.out.below bA)
  have Hr' := hidden (Hr.out.below bA)
  have Hg0' := hidden (Hg0.out.below bA)
  have Hg1' := hidden (Hg1.out.below bA)
  have Hg3' := hidden (Hg3.out.below bA)
  have Xm' := hidden (Xm.out.below bA Xm.out.lt)
  have Xx' := hidden (Xx.out.below bA Xx.out.lt)
  have Xy' := hidden (Xy.out.below bA Xy.out.lt)
  have B' := hidden (Below.andThen B.out bA)
  clear Hm0 Hm1 Hm3 Hs Hx0 Hx1 Hx3 Hy0 Hy1 Hy3 Hr Hg0 Hg1 Hg3 Xm Xx Xy B
  have Hm0 := Hm0'
  have Hm1 := Hm1'
  have Hm3 := Hm3'
  have Hs := Hs'
  have Hx0 := Hx0'
  have Hx1 := Hx1'
  have Hx3 := Hx3'
  have Hy0 := Hy0'
  have Hy1 := Hy1'
  have Hy3 := Hy3'
  have Hr := Hr'
  have Hg0 := Hg0'
  have Hg1 := Hg1'
  have Hg3 := Hg3'
  have Xm := Xm'
  have Xx := Xx'
  have Xy := Xy'
  have B := B'
  clear Hm0' Hm1' Hm3' Hs' Hx0' Hx1' Hx3' Hy0' Hy1' Hy3' Hr' Hg0' Hg1' Hg3' Xm' Xx' Xy' B'
  clear bA
  have Xg := hidden (Box.new w6 44 #[.slice ga0 gn0 gc0, .slice ga1 gn1 gc1, .bool false, .slice ga3 gn3 gc3])
  go_wp2_with fail
  generalize w6.alloc (.cells #[.slice ga0 gn0 gc0, .slice ga1 gn1 gc1, .bool false, .slice ga3 gn3 gc3] 44) = w6A at Hm0 Hm1 Hm3 Hs Hx0 Hx1 Hx3 Hy0 Hy1 Hy3 Hr Hg0 Hg1 Hg3 Xm Xx Xy Xg B ⊢
  have hl7 : mn0 ≤ 2097152 := by have h1 := HLM.out; have h2 := ss_le Vm.out; omega
  have HX := hidden (fun (v : World) (b : Below w6A.heap.size w6A v) => And.intro (Xm.out.below b Xm.out.lt) (And.intro (Xx.out.below b Xx.out.lt) (Xg.out.below b Xg.out.lt)))
  go_loopw [13] (fun i wr => ∃ j : Nat, j ≤ mn0 ∧ i = .int .i64 j ∧ Hid (Below w6A.heap.size w6A wr)) (fun i _ => mn0 - (intOf i).toNat)
  case atStart => exact ⟨0, Nat.zero_le _, rfl, Below.refl _ _⟩
  case round =>
    obtain ⟨i, hi, rfl, bw⟩ := hrel
    obtain ⟨xm, xx, xg⟩ := HX.out wr bw.out
    obtain ⟨q0, q1, q2, q3⟩ := xm.cells4
    by_cases hlt : i < mn0
    · have hiss : i < ss.length := by have := HLM.out; omega
      by_cases hin : (i : Int) = (nn : Int)
      · obtain rfl : i = nn := by omega
        obtain ⟨k1, k2⟩ := HRF.out i hiss
        obtain ⟨k3, k4⟩ := HSE.out
        rw [k3] at k1
        rw [k4] at k2
        have Kk1 := hidden k1
        have Kk2 := hidden k2
        have Kk3 := hidden k3
        have Kk4 := hidden k4
        clear k1 k2 k3 k4 hin
        go_wp2_with fail
        refine (implReadSec_any _ 57 _ _ _ _ _ _ _ _ _ ss cs false bs (i : Int) (Hm0.out.below bw.out) (Hm1.out.below bw.out) (Hm3.out.below bw.out) Vm.out).mono ?_
        rintro e v1 ⟨ua, ul, uc, rfl, ou, b1⟩
        have bw1 := hidden (bw.out.trans (b1.mono bw.out.size))
        have Ou := hidden ou.rd
        clear ou q0 q1 q2 q3 xm xx xg b1
        obtain ⟨xm, xx, xg⟩ := HX.out v1 bw1.out
        obtain ⟨q0, q1, q2, q3⟩ := xx.cells4
        go_wp2_with fail
        refine (implReadSec_any _ 57 _ _ _ _ _ _ _ _ _ ss (cs ++ [((i : Int), sw)]) false (filt bs i) (i : Int) (Hx0.out.below bw1.out) (Hx1.out.below bw1.out) (Hx3.out.below bw1.out) WX.out).mono ?_
        rintro e v2 ⟨wa, wl, wc, rfl, ow, b2⟩
        rw [Kk4.out] at ow
        rw [Kk3.out]
        have bw2 := hidden (bw1.out.trans (b2.mono bw1.out.size))
        have Ow := hidden ow.rd
        have Ou2 := hidden (Ou.out.below b2)
        clear ow q0 q1 q2 q3 xm xx xg b2 Ou
        obtain ⟨xm, xx, xg⟩ := HX.out v2 bw2.out
        obtain ⟨q0, q1, q2, q3⟩ := xg.cells4
        go_wp2_with fail
        refine (implReadSec_any _ 57 _ _ _ _ _ _ _ _ _ (flushD ss (cs ++ [((i : Int), sw)])) [] false (filt bs i) (i : Int) (Hg0.out.below bw2.out) (Hg1.out.below bw2.out) (Hg3.out.below bw2.out) HWF.out).mono ?_
        rintro e v3 ⟨va, vl, vc, rfl, ov, b3⟩
        rw [Kk2.out] at ov
        rw [Kk1.out]
        have bw3 := hidden (bw2.out.trans (b3.mono bw2.out.size))
        have Ov := hidden ov.rd
        have Ou3 := hidden (Ou2.out.below b3)
        have Ow3 := hidden (Ow.out.below b3)
        clear ov q0 q1 q2 q3 xm xx xg b3 Ou2 Ow
        have LU := hidden (readD_le (n := (i : Int)) Wm.out)
        have LS := HSW.out
        obtain ⟨ru, lu, _, _⟩ := ints_rd Ou3.out
        obtain ⟨rw_, lw, _, _⟩ := ints_rd Ow3.out
        obtain ⟨rv, lv, _, _⟩ := ints_rd Ov.out
        have Hru := hidden ru
        have Hlu := hidden lu
        have Hrw_ := hidden rw_
        have Hlw := hidden lw
        have Hrv := hidden rv
        have Hlv := hidden lv
        clear ru lu rw_ lw rv lv Ou3 Ow3 Ov
        have eZ : ∀ b : Bool, (b != b) = false := by simp
        have eY := eZ (true)
        clear eZ
        have eD : decide (sw = sw) = true := by simp
        go_wp2_with fail
        refine (sameInts_any _ _ _ _ _ _ _ (sw) (sw) Hlw.out Hlv.out (Hrw_.out) (Hrv.out) (by have h1 := LU.out; have h2 := Hlw.out; omega)).mono ?_
        rintro e v5 ⟨rfl, s5⟩
        have bw5 := hidden (bw3.out.trans (s5.below _))
        clear s5
        go_wp2
        go_roundw
        case rel => exact ⟨i + 1, by omega, by go_num, bw5⟩
        case measure => simp [intOf]; omega
      · have eN : ((i : Int) == (nn : Int)) = false := by simpa using hin
        have eN2 : (i == nn) = false := by simp; omega
        have eN3 : decide (i = nn) = false := by simp; omega
        have hin2 : ¬ i = nn := by omega
        obtain ⟨k1, k2⟩ := HRF.out i hiss
        obtain ⟨k3, k4⟩ := HOT.out (i : Int) hin
        rw [k3] at k1
        rw [k4] at k2
        have Kk1 := hidden k1
        have Kk2 := hidden k2
        have Kk3 := hidden k3
        have Kk4 := hidden k4
        clear k1 k2 k3 k4 hin
        go_wp2_with fail
        refine (implReadSec_any _ 57 _ _ _ _ _ _ _ _ _ ss cs false bs (i : Int) (Hm0.out.below bw.out) (Hm1.out.below bw.out) (Hm3.out.below bw.out) Vm.out).mono ?_
        rintro e v1 ⟨ua, ul, uc, rfl, ou, b1⟩
        have bw1 := hidden (bw.out.trans (b1.mono bw.out.size))
        have Ou := hidden ou.rd
        clear ou q0 q1 q2 q3 xm xx xg b1
        obtain ⟨xm, xx, xg⟩ := HX.out v1 bw1.out
        obtain ⟨q0, q1, q2, q3⟩ := xx.cells4
        go_wp2_with fail
        refine (implReadSec_any _ 57 _ _ _ _ _ _ _ _ _ ss (cs ++ [((nn : Int), sw)]) false (filt bs nn) (i : Int) (Hx0.out.below bw1.out) (Hx1.out.below bw1.out) (Hx3.out.below bw1.out) WX.out).mono ?_
        rintro e v2 ⟨wa, wl, wc, rfl, ow, b2⟩
        rw [Kk4.out] at ow
        rw [Kk3.out]
        have bw2 := hidden (bw1.out.trans (b2.mono bw1.out.size))
        have Ow := hidden ow.rd
        have Ou2 := hidden (Ou.out.below b2)
        clear ow q0 q1 q2 q3 xm xx xg b2 Ou
        obtain ⟨xm, xx, xg⟩ := HX.out v2 bw2.out
        obtain ⟨q0, q1, q2, q3⟩ := xg.cells4
        go_wp2_with fail
        refine (implReadSec_any _ 57 _ _ _ _ _ _ _ _ _ (flushD ss (cs ++ [((nn : Int), sw)])) [] false (filt bs nn) (i : Int) (Hg0.out.below bw2.out) (Hg1.out.below bw2.out) (Hg3.out.below bw2.out) HWF.out).mono ?_
        rintro e v3 ⟨va, vl, vc, rfl, ov, b3⟩
        rw [Kk2.out] at ov
        rw [Kk1.out]
        have bw3 := hidden (bw2.out.trans (b3.mono bw2.out.size))
        have Ov := hidden ov.rd
        have Ou3 := hidden (Ou2.out.below b3)
        have Ow3 := hidden (Ow.out.below b3)
        clear ov q0 q1 q2 q3 xm xx xg b3 Ou2 Ow
        have LU := hidden (readD_le (n := (i : Int)) Wm.out)
        have LS := HSW.out
        obtain ⟨ru, lu, _, _⟩ := ints_rd Ou3.out
        obtain ⟨rw_, lw, _, _⟩ := ints_rd Ow3.out
        obtain ⟨rv, lv, _, _⟩ := ints_rd Ov.out
        have Hru := hidden ru
        have Hlu := hidden lu
        have Hrw_ := hidden rw_
        have Hlw := hidden lw
        have Hrv := hidden rv
        have Hlv := hidden lv
        clear ru lu rw_ lw rv lv Ou3 Ow3 Ov
        have eZ : ∀ b : Bool, (b != b) = false := by simp
        have eY := eZ (readOk ss cs false bs (i : Int))
        clear eZ
        have eD : decide (readD ss cs false bs (i : Int) = readD ss cs false bs (i : Int)) = true := by simp
        go_wp2_with fail
        refine (sameInts_any _ _ _ _ _ _ _ (readD ss cs false bs (i : Int)) (readD ss cs false bs (i : Int)) Hlu.out Hlw.out Hru.out Hrw_.out (by have h1 := LU.out; have h2 := Hlu.out; omega)).mono ?_
        rintro e v4 ⟨rfl, s4⟩
        have bw4 := hidden (bw3.out.trans (s4.below _))
        have S4 := hidden s4
        clear s4
        go_wp2_with fail
        refine (sameInts_any _ _ _ _ _ _ _ (readD ss cs false bs (i : Int)) (readD ss cs false bs (i : Int)) Hlw.out Hlv.out (Hrw_.out.same S4.out) (Hrv.out.same S4.out) (by have h1 := LU.out; have h2 := Hlw.out; omega)).mono ?_
        rintro e v5 ⟨rfl, s5⟩
        have bw5 := hidden (bw4.out.trans (s5.below _))
        clear s5
        go_wp2
        go_roundw
        case rel => exact ⟨i + 1, by omega, by go_num, bw5⟩
        case measure => simp [intOf]; omega
    · obtain ⟨rr, lr, _, _⟩ := ints_rd (Hr.out.below bw.out)
      obtain ⟨rs, ls, _, _⟩ := ints_rd (Hs.out.below bw.out)
      have Hrr_ := hidden rr
      have Hlr_ := hidden lr
      have Hrs_ := hidden rs
      have Hls_ := hidden ls
      have eS : decide (sw = sw) = true := by simp
      clear rr lr rs ls
      go_wp2_with fail
      refine (sameInts_any _ _ _ _ _ _ _ sw sw Hlr_.out rfl Hrr_.out Hrs_.out (by have h1 := HSW.out; have h2 := Hlr_.out; omega)).mono ?_
      rintro e v1 ⟨rfl, s1⟩
      have bw1 := hidden (bw.out.trans (s1.below _))
      clear s1 q0 q1 q2 q3 xm xx xg Hrr_ Hlr_ Hrs_ Hls_
      obtain ⟨xm, xx, xg⟩ := HX.out v1 bw1.out
      obtain ⟨q0, q1, q2, q3⟩ := xx.cells4
      go_wp2_with fail
      refine (implMemOk_any _ 57 _ _ _ _ _ _ _ _ _ ss (cs ++ [((nn : Int), sw)]) false (filt bs nn) (Hx0.out.below bw1.out) (Hx1.out.below bw1.out) (Hx3.out.below bw1.out) WX.out).mono ?_
      rintro e v2 ⟨rfl, b2⟩
      rw [HMX.out]
      have bw2 := hidden (bw1.out.trans (b2.mono bw1.out.size))
      clear b2 q0 q1 q2 q3 xm xx xg
      obtain ⟨xm, xx, xg⟩ := HX.out v2 bw2.out
      have hgn0 := (row_length Hg0.out).1
      rw [flushD_length] at hgn0
      have hg1 : gn1 = 0 := by have := (row_length Hg1.out).1; simpa using this.symm
      subst hg1
      obtain ⟨gb, go, sx, gv, gn, hga, hgx, hgc, hgr⟩ := sec_at (j := nn) (Hg0.out.below bw2.out) (by omega)
      subst hga
      obtain rfl : sx = sw := by have := hgx.symm.trans HFA.out; simpa using this
      have i1 : (0 : Int) ≤ (nn : Int) := by omega
      have i2 : (nn : Int) < (gn0 : Int) := by omega
      obtain ⟨q0, q1, q2, q3⟩ := xg.cells4
      obtain ⟨rs, ls, _, _⟩ := ints_rd (Hs.out.below bw2.out)
      have HRS := hidden rs
      have HLS := hidden ls
      have HGR := hidden hgr
      clear rs ls hgr hgx hgn0
      go_wp2_with fail
      refine (sameInts_any _ _ _ _ _ _ _ sx sx rfl rfl HGR.out HRS.out (by have h1 := HSW.out; omega)).mono ?_
      rintro e v3 ⟨rfl, s3⟩
      have BE := hidden (Below.andThen B.out (bw2.out.trans (s3.below _)))
      clear s3
      go_wp2
      go_ret
      exact ⟨rfl, BE.out⟩

end Go.Proofs.Ytmkiljflkndmoaa

/-
  The walk of the law that of drawn disks, bent or not, what is done is as the document has it: whatever bytes it draws from, it answers true, and nothing that was there has turned. No condition.
-/
import Derived.Test.YtmkiljflkndmoaaWalkDrawAny
import Derived.Test.YtmkiljflkndmoaaWalkSameMem
import Derived.Test.YtmkiljflkndmoaaWalkSpoil
import Derived.Test.YtmkiljflkndmoaaWalkRead2
import Derived.Test.YtmkiljflkndmoaaWalkFlushSpec
import Derived.Test.YtmkiljflkndmoaaWalkFallSpec
import Derived.Test.YtmkiljflkndmoaaMemWts
import Derived.Test.YtmkiljflkndmoaaWalkBig
namespace Go.Proofs.Ytmkiljflkndmoaa
open Go.RowKit

theorem same_under {w w' : World} (h : Same w w') : Below w.heap.size w w' := h.below _

set_option maxRecDepth 8000 in
set_option maxHeartbeats 16000000 in
theorem fnMemsBent_walk (a0 : Option Addr) (len0 cap0 : Nat) (z0 : List Int) (w : World) (w0 : IsRow .u8 w a0 len0 cap0 z0) :
    Calls Try.prog 7 #[.slice a0 len0 cap0] w fun e w' => e = .returned (.bool true) ∧ Below w.heap.size w w' := by
  obtain ⟨R, hl, hwf, hml⟩ := w0.reads
  generalize z0.take len0 = zs at R hl hwf
  unfold maxLen at hml
  have hby := bytes_of_wf hwf
  clear w0 hwf
  by_cases hbig : len0 ≤ 1048576
  rotate_left
  · go_enter Try.func7, Try.ntmps7
    go_wp2_with fail
    refine (big_any _ _ _ _).mono ?_
    rintro e wb ⟨rfl, rfl⟩
    go_wp2
    go_ret
    exact ⟨rfl, Below.refl _ _⟩
  have hlb : len0 ≤ 2097152 := by omega
  have B := hidden (Below.refl w.heap.size w)
  have HR := hidden R
  clear R
  go_enter Try.func7, Try.ntmps7
  go_wp2_with fail
  refine (big_any _ _ _ _).mono ?_
  rintro e wb ⟨rfl, rfl⟩
  go_wp2_with fail
  refine (dDrawMemOk_any _ _ _ _ zs hl HR.out hby hlb).mono ?_
  rintro e w1 ⟨mv0, mv1, mv3, mss, mcs, mf, mbs, rfl, h0, h1, h3, hw, b⟩
  have Hm0 := hidden h0
  have Hm1 := hidden h1
  have Hm3 := hidden h3
  have Wm : Hid (wtMem (mss, mcs, mf, mbs) ≤ 1048576) := Nat.le_trans hw (by decide)
  have Vm : Hid (wtMem (mss, mcs, mf, mbs) ≤ 2097152) := Nat.le_trans hw (by decide)
  obtain ⟨ma0, mc0, hs0⟩ := row_shape h0
  obtain ⟨ma1, mc1, hs1⟩ := row_shape h1
  obtain ⟨ma3, mc3, hs3⟩ := row_shape h3
  generalize List.length mss = mn0 at hs0
  generalize List.length mcs = mn1 at hs1
  generalize List.length mbs = mn3 at hs3
  subst hs0 hs1 hs3
  clear h0 h1 h3 hw
  have HR' := hidden (HR.out.below b)
  have B' := hidden (Below.andThen B.out b)
  clear  HR B
  have HR := HR'
  have B := B'
  clear HR' B'
  clear b
  have bA : Below w1.heap.size w1 (w1.alloc (.cells #[.slice ma0 mn0 mc0, .slice ma1 mn1 mc1, .bool mf, .slice ma3 mn3 mc3] 44)) := (Below.refl _ _).alloc (Nat.le_refl _) _
  have Hm0' := hidden (Hm0.out.below bA)
  have Hm1' := hidden (Hm1.out.below bA)
  have Hm3' := hidden (Hm3.out.below bA)
  have HR' := hidden (HR.out.below bA)
  have B' := hidden (Below.andThen B.out bA)
  clear Hm0 Hm1 Hm3 HR B
  have Hm0 := Hm0'
  have Hm1 := Hm1'
  have Hm3 := Hm3'
  have HR := HR'
  have B := B'
  clear Hm0' Hm1' Hm3' HR' B'
  clear bA
  have Xm := hidden (Box.new w1 44 #[.slice ma0 mn0 mc0, .slice ma1 mn1 mc1, .bool mf, .slice ma3 mn3 mc3])
  go_wp2_with fail
  generalize w1.alloc (.cells #[.slice ma0 mn0 mc0, .slice ma1 mn1 mc1, .bool mf, .slice ma3 mn3 mc3] 44) = w1A at Hm0 Hm1 Hm3 Xm HR B ⊢
  refine (dDrawReadSec_any _ _ _ _ zs hl HR.out hby hlb).mono ?_
  rintro e w2 ⟨nr, rv0, rv1, rv3, rss, rcs, rf, rbs, rfl, h0, h1, h3, hw, b⟩
  have Hr0 := hidden h0
  have Hr1 := hidden h1
  have Hr3 := hidden h3
  have Wr : Hid (wtMem (rss, rcs, rf, rbs) ≤ 1048576) := Nat.le_trans hw (by decide)
  have Vr : Hid (wtMem (rss, rcs, rf, rbs) ≤ 2097152) := Nat.le_trans hw (by decide)
  obtain ⟨ra0, rc0, hs0⟩ := row_shape h0
  obtain ⟨ra1, rc1, hs1⟩ := row_shape h1
  obtain ⟨ra3, rc3, hs3⟩ := row_shape h3
  generalize List.length rss = rn0 at hs0
  generalize List.length rcs = rn1 at hs1
  generalize List.length rbs = rn3 at hs3
  subst hs0 hs1 hs3
  clear h0 h1 h3 hw
  have Hm0' := hidden (Hm0.out.below b)
  have Hm1' := hidden (Hm1.out.below b)
  have Hm3' := hidden (Hm3.out.below b)
  have Xm' := hidden (Xm.out.below b Xm.out.lt)
  have HR' := hidden (HR.out.below b)
  have B' := hidden (Below.andThen B.out b)
  clear Hm0 Hm1 Hm3 Xm HR B
  have Hm0 := Hm0'
  have Hm1 := Hm1'
  have Hm3 := Hm3'
  have Xm := Xm'
  have HR := HR'
  have B := B'
  clear Hm0' Hm1' Hm3' Xm' HR' B'
  clear b
  have bA : Below w2.heap.size w2 (w2.alloc (.cells #[.slice ra0 rn0 rc0, .slice ra1 rn1 rc1, .bool rf, .slice ra3 rn3 rc3] 44)) := (Below.refl _ _).alloc (Nat.le_refl _) _
  have Hm0' := hidden (Hm0.out.below bA)
  have Hm1' := hidden (Hm1.out.below bA)
  have Hm3' := hidden (Hm3.out.below bA)
  have Hr0' := hidden (Hr0.out.below bA)
  have Hr1' := hidden (Hr1.out.below bA)
  have Hr3' := hidden (Hr3.out.below bA)
  have Xm' := hidden (Xm.out.below bA Xm.out.lt)
  have HR' := hidden (HR.out.below bA)
  have B' := hidden (Below.andThen B.out bA)
  clear Hm0 Hm1 Hm3 Hr0 Hr1 Hr3 Xm HR B
  have Hm0 := Hm0'
  have Hm1 := Hm1'
  have Hm3 := Hm3'
  have Hr0 := Hr0'
  have Hr1 := Hr1'
  have Hr3 := Hr3'
  have Xm := Xm'
  have HR := HR'
  have B := B'
  clear Hm0' Hm1' Hm3' Hr0' Hr1' Hr3' Xm' HR' B'
  clear bA
  have Xr := hidden (Box.new w2 44 #[.slice ra0 rn0 rc0, .slice ra1 rn1 rc1, .bool rf, .slice ra3 rn3 rc3])
  obtain ⟨q0, q1, q2, q3⟩ := Xr.out.cells4
  go_wp2_with fail
  generalize w2.alloc (.cells #[.slice ra0 rn0 rc0, .slice ra1 rn1 rc1, .bool rf, .slice ra3 rn3 rc3] 44) = w2A at Hm0 Hm1 Hm3 Hr0 Hr1 Hr3 Xm Xr HR B ⊢
  refine (implReadSec_any _ 57 _ _ _ _ _ _ _ _ _ rss rcs rf rbs nr Hr0.out Hr1.out Hr3.out Vr.out).mono ?_
  rintro e w3 ⟨raa, ral, rac, rfl, o, b⟩
  have Hra := hidden o.rd
  clear o q0 q1 q2 q3
  have Hm0' := hidden (Hm0.out.below b)
  have Hm1' := hidden (Hm1.out.below b)
  have Hm3' := hidden (Hm3.out.below b)
  have Hr0' := hidden (Hr0.out.below b)
  have Hr1' := hidden (Hr1.out.below b)
  have Hr3' := hidden (Hr3.out.below b)
  have Xm' := hidden (Xm.out.below b Xm.out.lt)
  have Xr' := hidden (Xr.out.below b Xr.out.lt)
  have HR' := hidden (HR.out.below b)
  have B' := hidden (Below.andThen B.out b)
  clear Hm0 Hm1 Hm3 Hr0 Hr1 Hr3 Xm Xr HR B
  have Hm0 := Hm0'
  have Hm1 := Hm1'
  have Hm3 := Hm3'
  have Hr0 := Hr0'
  have Hr1 := Hr1'
  have Hr3 := Hr3'
  have Xm := Xm'
  have Xr := Xr'
  have HR := HR'
  have B := B'
  clear Hm0' Hm1' Hm3' Hr0' Hr1' Hr3' Xm' Xr' HR' B'
  clear b
  obtain ⟨q0, q1, q2, q3⟩ := Xr.out.cells4
  go_wp2_with fail
  refine (specReadSec_any _ 57 _ _ _ _ _ _ _ _ _ rss rcs rf rbs nr Hr0.out Hr1.out Hr3.out Vr.out).mono ?_
  rintro e w4 ⟨rba, rbl, rbc, rfl, o, b⟩
  have Hrb := hidden o.rd
  clear o q0 q1 q2 q3
  have Hm0' := hidden (Hm0.out.below b)
  have Hm1' := hidden (Hm1.out.below b)
  have Hm3' := hidden (Hm3.out.below b)
  have Hr0' := hidden (Hr0.out.below b)
  have Hr1' := hidden (Hr1.out.below b)
  have Hr3' := hidden (Hr3.out.below b)
  have Hra' := hidden (Hra.out.below b)
  have Xm' := hidden (Xm.out.below b Xm.out.lt)
  have Xr' := hidden (Xr.out.below b Xr.out.lt)
  have HR' := hidden (HR.out.below b)
  have B' := hidden (Below.andThen B.out b)
  clear Hm0 Hm1 Hm3 Hr0 Hr1 Hr3 Hra Xm Xr HR B
  have Hm0 := Hm0'
  have Hm1 := Hm1'
  have Hm3 := Hm3'
  have Hr0 := Hr0'
  have Hr1 := Hr1'
  have Hr3 := Hr3'
  have Hra := Hra'
  have Xm := Xm'
  have Xr := Xr'
  have HR := HR'
  have B := B'
  clear Hm0' Hm1' Hm3' Hr0' Hr1' Hr3' Hra' Xm' Xr' HR' B'
  clear b
  go_wp2_with fail
  refine (dDrawFallMem_any _ _ _ _ zs hl HR.out hby hlb).mono ?_
  rintro e w5 ⟨keep, fv0, fv1, fv3, fss, fcs, ff, fbs, rfl, h0, h1, h3, hw, b⟩
  have Hf0 := hidden h0
  have Hf1 := hidden h1
  have Hf3 := hidden h3
  have Wf : Hid (wtMem (fss, fcs, ff, fbs) ≤ 1048576) := Nat.le_trans hw (by decide)
  have Vf : Hid (wtMem (fss, fcs, ff, fbs) ≤ 2097152) := Nat.le_trans hw (by decide)
  obtain ⟨fa0, fc0, hs0⟩ := row_shape h0
  obtain ⟨fa1, fc1, hs1⟩ := row_shape h1
  obtain ⟨fa3, fc3, hs3⟩ := row_shape h3
  generalize List.length fss = fn0 at hs0
  generalize List.length fcs = fn1 at hs1
  generalize List.length fbs = fn3 at hs3
  subst hs0 hs1 hs3
  clear h0 h1 h3 hw
  have Hm0' := hidden (Hm0.out.below b)
  have Hm1' := hidden (Hm1.out.below b)
  have Hm3' := hidden (Hm3.out.below b)
  have Hr0' := hidden (Hr0.out.below b)
  have Hr1' := hidden (Hr1.out.below b)
  have Hr3' := hidden (Hr3.out.below b)
  have Hra' := hidden (Hra.out.below b)
  have Hrb' := hidden (Hrb.out.below b)
  have Xm' := hidden (Xm.out.below b Xm.out.lt)
  have Xr' := hidden (Xr.out.below b Xr.out.lt)
  have HR' := hidden (HR.out.below b)
  have B' := hidden (Below.andThen B.out b)
  clear Hm0 Hm1 Hm3 Hr0 Hr1 Hr3 Hra Hrb Xm Xr HR B
  have Hm0 := Hm0'
  have Hm1 := Hm1'
  have Hm3 := Hm3'
  have Hr0 := Hr0'
  have Hr1 := Hr1'
  have Hr3 := Hr3'
  have Hra := Hra'
  have Hrb := Hrb'
  have Xm := Xm'
  have Xr := Xr'
  have HR := HR'
  have B := B'
  clear Hm0' Hm1' Hm3' Hr0' Hr1' Hr3' Hra' Hrb' Xm' Xr' HR' B'
  clear b
  have bA : Below w5.heap.size w5 (w5.alloc (.cells #[.slice fa0 fn0 fc0, .slice fa1 fn1 fc1, .bool ff, .slice fa3 fn3 fc3] 44)) := (Below.refl _ _).alloc (Nat.le_refl _) _
  have Hm0' := hidden (Hm0.out.below bA)
  have Hm1' := hidden (Hm1.out.below bA)
  have Hm3' := hidden (Hm3.out.below bA)
  have Hr0' := hidden (Hr0.out.below bA)
  have Hr1' := hidden (Hr1.out.below bA)
  have Hr3' := hidden (Hr3.out.below bA)
  have Hra' := hidden (Hra.out.below bA)
  have Hrb' := hidden (Hrb.out.below bA)
  have Hf0' := hidden (Hf0.out.below bA)
  have Hf1' := hidden (Hf1.out.below bA)
  have Hf3' := hidden (Hf3.out.below bA)
  have Xm' := hidden (Xm.out.below bA Xm.out.lt)
  have Xr' := hidden (Xr.out.below bA Xr.out.lt)
  have HR' := hidden (HR.out.below bA)
  have B' := hidden (Below.andThen B.out bA)
  clear Hm0 Hm1 Hm3 Hr0 Hr1 Hr3 Hra Hrb Hf0 Hf1 Hf3 Xm Xr HR B
  have Hm0 := Hm0'
  have Hm1 := Hm1'
  have Hm3 := Hm3'
  have Hr0 := Hr0'
  have Hr1 := Hr1'
  have Hr3 := Hr3'
  have Hra := Hra'
  have Hrb := Hrb'
  have Hf0 := Hf0'
  have Hf1 := Hf1'
  have Hf3 := Hf3'
  have Xm := Xm'
  have Xr := Xr'
  have HR := HR'
  have B := B'
  clear Hm0' Hm1' Hm3' Hr0' Hr1' Hr3' Hra' Hrb' Hf0' Hf1' Hf3' Xm' Xr' HR' B'
  clear bA
  have Xf := hidden (Box.new w5 44 #[.slice fa0 fn0 fc0, .slice fa1 fn1 fc1, .bool ff, .slice fa3 fn3 fc3])
  go_wp2_with fail
  generalize w5.alloc (.cells #[.slice fa0 fn0 fc0, .slice fa1 fn1 fc1, .bool ff, .slice fa3 fn3 fc3] 44) = w5A at Hm0 Hm1 Hm3 Hr0 Hr1 Hr3 Hra Hrb Hf0 Hf1 Hf3 Xm Xr Xf HR B ⊢
  refine (dDrawSpoilSec_any _ _ _ _ zs hl HR.out hby hlb).mono ?_
  rintro e w6 ⟨ns, sv0, sv1, sv3, sss, scs, sf, sbs, rfl, h0, h1, h3, hw, b⟩
  have Hs0 := hidden h0
  have Hs1 := hidden h1
  have Hs3 := hidden h3
  have Ws : Hid (wtMem (sss, scs, sf, sbs) ≤ 1048576) := Nat.le_trans hw (by decide)
  have Vs : Hid (wtMem (sss, scs, sf, sbs) ≤ 2097152) := Nat.le_trans hw (by decide)
  obtain ⟨sa0, sc0, hs0⟩ := row_shape h0
  obtain ⟨sa1, sc1, hs1⟩ := row_shape h1
  obtain ⟨sa3, sc3, hs3⟩ := row_shape h3
  generalize List.length sss = sn0 at hs0
  generalize List.length scs = sn1 at hs1
  generalize List.length sbs = sn3 at hs3
  subst hs0 hs1 hs3
  clear h0 h1 h3 hw
  have Hm0' := hidden (Hm0.out.below b)
  have Hm1' := hidden (Hm1.out.below b)
  have Hm3' := hidden (Hm3.out.below b)
  have Hr0' := hidden (Hr0.out.below b)
  have Hr1' := hidden (Hr1.out.below b)
  have Hr3' := hidden (Hr3.out.below b)
  have Hra' := hidden (Hra.out.below b)
  have Hrb' := hidden (Hrb.out.below b)
  have Hf0' := hidden (Hf0.out.below b)
  have Hf1' := hidden (Hf1.out.below b)
  have Hf3' := hidden (Hf3.out.below b)
  have Xm' := hidden (Xm.out.below b Xm.out.lt)
  have Xr' := hidden (Xr.out.below b Xr.out.lt)
  have Xf' := hidden (Xf.out.below b Xf.out.lt)
  have HR' := hidden (HR.out.below b)
  have B' := hidden (Below.andThen B.out b)
  clear Hm0 Hm1 Hm3 Hr0 Hr1 Hr3 Hra Hrb Hf0 Hf1 Hf3 Xm Xr Xf HR B
  have Hm0 := Hm0'
  have Hm1 := Hm1'
  have Hm3 := Hm3'
  have Hr0 := Hr0'
  have Hr1 := Hr1'
  have Hr3 := Hr3'
  have Hra := Hra'
  have Hrb := Hrb'
  have Hf0 := Hf0'
  have Hf1 := Hf1'
  have Hf3 := Hf3'
  have Xm := Xm'
  have Xr := Xr'
  have Xf := Xf'
  have HR := HR'
  have B := B'
  clear Hm0' Hm1' Hm3' Hr0' Hr1' Hr3' Hra' Hrb' Hf0' Hf1' Hf3' Xm' Xr' Xf' HR' B'
  clear b
  have bA : Below w6.heap.size w6 (w6.alloc (.cells #[.slice sa0 sn0 sc0, .slice sa1 sn1 sc1, .bool sf, .slice sa3 sn3 sc3] 44)) := (Below.refl _ _).alloc (Nat.le_refl _) _
  have Hm0' := hidden (Hm0.out.below bA)
  have Hm1' := hidden (Hm1.out.below bA)
  have Hm3' := hidden (Hm3.out.below bA)
  have Hr0' := hidden (Hr0.out.below bA)
  have Hr1' := hidden (Hr1.out.below bA)
  have Hr3' := hidden (Hr3.out.below bA)
  have Hra' := hidden (Hra.out.below bA)
  have Hrb' := hidden (Hrb.out.below bA)
  have Hf0' := hidden (Hf0.out.below bA)
  have Hf1' := hidden (Hf1.out.below bA)
  have Hf3' := hidden (Hf3.out.below bA)
  have Hs0' := hidden (Hs0.out.below bA)
  have Hs1' := hidden (Hs1.out.below bA)
  have Hs3' := hidden (Hs3.out.below bA)
  have Xm' := hidden (Xm.out.below bA Xm.out.lt)
  have Xr' := hidden (Xr.out.below bA Xr.out.lt)
  have Xf' := hidden (Xf.out.below bA Xf.out.lt)
  have HR' := hidden (HR.out.below bA)
  have B' := hidden (Below.andThen B.out bA)
  clear Hm0 Hm1 Hm3 Hr0 Hr1 Hr3 Hra Hrb Hf0 Hf1 Hf3 Hs0 Hs1 Hs3 Xm Xr Xf HR B
  have Hm0 := Hm0'
  have Hm1 := Hm1'
  have Hm3 := Hm3'
  have Hr0 := Hr0'
  have Hr1 := Hr1'
  have Hr3 := Hr3'
  have Hra := Hra'
  have Hrb := Hrb'
  have Hf0 := Hf0'
  have Hf1 := Hf1'
  have Hf3 := Hf3'
  have Hs0 := Hs0'
  have Hs1 := Hs1'
  have Hs3 := Hs3'
  have Xm := Xm'
  have Xr := Xr'
  have Xf := Xf'
  have HR := HR'
  have B := B'
  clear Hm0' Hm1' Hm3' Hr0' Hr1' Hr3' Hra' Hrb' Hf0' Hf1' Hf3' Hs0' Hs1' Hs3' Xm' Xr' Xf' HR' B'
  clear bA
  have Xs := hidden (Box.new w6 44 #[.slice sa0 sn0 sc0, .slice sa1 sn1 sc1, .bool sf, .slice sa3 sn3 sc3])
  go_wp2_with fail
  generalize w6.alloc (.cells #[.slice sa0 sn0 sc0, .slice sa1 sn1 sc1, .bool sf, .slice sa3 sn3 sc3] 44) = w6A at Hm0 Hm1 Hm3 Hr0 Hr1 Hr3 Hra Hrb Hf0 Hf1 Hf3 Hs0 Hs1 Hs3 Xm Xr Xf Xs HR B ⊢
  refine (dDrawMemNew_any _ _ _ _ zs hl HR.out hby hlb).mono ?_
  rintro e w7 ⟨nd, rfl, _, b⟩
  have Hm0' := hidden (Hm0.out.below b)
  have Hm1' := hidden (Hm1.out.below b)
  have Hm3' := hidden (Hm3.out.below b)
  have Hr0' := hidden (Hr0.out.below b)
  have Hr1' := hidden (Hr1.out.below b)
  have Hr3' := hidden (Hr3.out.below b)
  have Hra' := hidden (Hra.out.below b)
  have Hrb' := hidden (Hrb.out.below b)
  have Hf0' := hidden (Hf0.out.below b)
  have Hf1' := hidden (Hf1.out.below b)
  have Hf3' := hidden (Hf3.out.below b)
  have Hs0' := hidden (Hs0.out.below b)
  have Hs1' := hidden (Hs1.out.below b)
  have Hs3' := hidden (Hs3.out.below b)
  have Xm' := hidden (Xm.out.below b Xm.out.lt)
  have Xr' := hidden (Xr.out.below b Xr.out.lt)
  have Xf' := hidden (Xf.out.below b Xf.out.lt)
  have Xs' := hidden (Xs.out.below b Xs.out.lt)
  have HR' := hidden (HR.out.below b)
  have B' := hidden (Below.andThen B.out b)
  clear Hm0 Hm1 Hm3 Hr0 Hr1 Hr3 Hra Hrb Hf0 Hf1 Hf3 Hs0 Hs1 Hs3 Xm Xr Xf Xs HR B
  have Hm0 := Hm0'
  have Hm1 := Hm1'
  have Hm3 := Hm3'
  have Hr0 := Hr0'
  have Hr1 := Hr1'
  have Hr3 := Hr3'
  have Hra := Hra'
  have Hrb := Hrb'
  have Hf0 := Hf0'
  have Hf1 := Hf1'
  have Hf3 := Hf3'
  have Hs0 := Hs0'
  have Hs1 := Hs1'
  have Hs3 := Hs3'
  have Xm := Xm'
  have Xr := Xr'
  have Xf := Xf'
  have Xs := Xs'
  have HR := HR'
  have B := B'
  clear Hm0' Hm1' Hm3' Hr0' Hr1' Hr3' Hra' Hrb' Hf0' Hf1' Hf3' Hs0' Hs1' Hs3' Xm' Xr' Xf' Xs' HR' B'
  clear b
  go_wp2_with fail
  refine (dDrawFailMem_any _ _ _ _ zs hl HR.out hby hlb).mono ?_
  rintro e w8 ⟨xv0, xv1, xv3, xss, xcs, xf, xbs, rfl, h0, h1, h3, hw, b⟩
  have Hx0 := hidden h0
  have Hx1 := hidden h1
  have Hx3 := hidden h3
  have Wx : Hid (wtMem (xss, xcs, xf, xbs) ≤ 1048576) := Nat.le_trans hw (by decide)
  have Vx : Hid (wtMem (xss, xcs, xf, xbs) ≤ 2097152) := Nat.le_trans hw (by decide)
  obtain ⟨xa0, xc0, hs0⟩ := row_shape h0
  obtain ⟨xa1, xc1, hs1⟩ := row_shape h1
  obtain ⟨xa3, xc3, hs3⟩ := row_shape h3
  generalize List.length xss = xn0 at hs0
  generalize List.length xcs = xn1 at hs1
  generalize List.length xbs = xn3 at hs3
  subst hs0 hs1 hs3
  clear h0 h1 h3 hw
  have Hm0' := hidden (Hm0.out.below b)
  have Hm1' := hidden (Hm1.out.below b)
  have Hm3' := hidden (Hm3.out.below b)
  have Hr0' := hidden (Hr0.out.below b)
  have Hr1' := hidden (Hr1.out.below b)
  have Hr3' := hidden (Hr3.out.below b)
  have Hra' := hidden (Hra.out.below b)
  have Hrb' := hidden (Hrb.out.below b)
  have Hf0' := hidden (Hf0.out.below b)
  have Hf1' := hidden (Hf1.out.below b)
  have Hf3' := hidden (Hf3.out.below b)
  have Hs0' := hidden (Hs0.out.below b)
  have Hs1' := hidden (Hs1.out.below b)
  have Hs3' := hidden (Hs3.out.below b)
  have Xm' := hidden (Xm.out.below b Xm.out.lt)
  have Xr' := hidden (Xr.out.below b Xr.out.lt)
  have Xf' := hidden (Xf.out.below b Xf.out.lt)
  have Xs' := hidden (Xs.out.below b Xs.out.lt)
  have HR' := hidden (HR.out.below b)
  have B' := hidden (Below.andThen B.out b)
  clear Hm0 Hm1 Hm3 Hr0 Hr1 Hr3 Hra Hrb Hf0 Hf1 Hf3 Hs0 Hs1 Hs3 Xm Xr Xf Xs HR B
  have Hm0 := Hm0'
  have Hm1 := Hm1'
  have Hm3 := Hm3'
  have Hr0 := Hr0'
  have Hr1 := Hr1'
  have Hr3 := Hr3'
  have Hra := Hra'
  have Hrb := Hrb'
  have Hf0 := Hf0'
  have Hf1 := Hf1'
  have Hf3 := Hf3'
  have Hs0 := Hs0'
  have Hs1 := Hs1'
  have Hs3 := Hs3'
  have Xm := Xm'
  have Xr := Xr'
  have Xf := Xf'
  have Xs := Xs'
  have HR := HR'
  have B := B'
  clear Hm0' Hm1' Hm3' Hr0' Hr1' Hr3' Hra' Hrb' Hf0' Hf1' Hf3' Hs0' Hs1' Hs3' Xm' Xr' Xf' Xs' HR' B'
  clear b
  have bA : Below w8.heap.size w8 (w8.alloc (.cells #[.slice xa0 xn0 xc0, .slice xa1 xn1 xc1, .bool xf, .slice xa3 xn3 xc3] 44)) := (Below.refl _ _).alloc (Nat.le_refl _) _
  have Hm0' := hidden (Hm0.out.below bA)
  have Hm1' := hidden (Hm1.out.below bA)
  have Hm3' := hidden (Hm3.out.below bA)
  have Hr0' := hidden (Hr0.out.below bA)
  have Hr1' := hidden (Hr1.out.below bA)
  have Hr3' := hidden (Hr3.out.below bA)
  have Hra' := hidden (Hra.out.below bA)
  have Hrb' := hidden (Hrb.out.below bA)
  have Hf0' := hidden (Hf0.out.below bA)
  have Hf1' := hidden (Hf1.out.below bA)
  have Hf3' := hidden (Hf3.out.below bA)
  have Hs0' := hidden (Hs0.out.below bA)
  have Hs1' := hidden (Hs1.out.below bA)
  have Hs3' := hidden (Hs3.out.below bA)
  have Hx0' := hidden (Hx0.out.below bA)
  have Hx1' := hidden (Hx1.out.below bA)
  have Hx3' := hidden (Hx3.out.below bA)
  have Xm' := hidden (Xm.out.below bA Xm.out.lt)
  have Xr' := hidden (Xr.out.below bA Xr.out.lt)
  have Xf' := hidden (Xf.out.below bA Xf.out.lt)
  have Xs' := hidden (Xs.out.below bA Xs.out.lt)
  have HR' := hidden (HR.out.below bA)
  have B' := hidden (Below.andThen B.out bA)
  clear Hm0 Hm1 Hm3 Hr0 Hr1 Hr3 Hra Hrb Hf0 Hf1 Hf3 Hs0 Hs1 Hs3 Hx0 Hx1 Hx3 Xm Xr Xf Xs HR B
  have Hm0 := Hm0'
  have Hm1 := Hm1'
  have Hm3 := Hm3'
  have Hr0 := Hr0'
  have Hr1 := Hr1'
  have Hr3 := Hr3'
  have Hra := Hra'
  have Hrb := Hrb'
  have Hf0 := Hf0'
  have Hf1 := Hf1'
  have Hf3 := Hf3'
  have Hs0 := Hs0'
  have Hs1 := Hs1'
  have Hs3 := Hs3'
  have Hx0 := Hx0'
  have Hx1 := Hx1'
  have Hx3 := Hx3'
  have Xm := Xm'
  have Xr := Xr'
  have Xf := Xf'
  have Xs := Xs'
  have HR := HR'
  have B := B'
  clear Hm0' Hm1' Hm3' Hr0' Hr1' Hr3' Hra' Hrb' Hf0' Hf1' Hf3' Hs0' Hs1' Hs3' Hx0' Hx1' Hx3' Xm' Xr' Xf' Xs' HR' B'
  clear bA
  have Xx := hidden (Box.new w8 44 #[.slice xa0 xn0 xc0, .slice xa1 xn1 xc1, .bool xf, .slice xa3 xn3 xc3])
  obtain ⟨q0, q1, q2, q3⟩ := Xx.out.cells4
  go_wp2_with fail
  generalize w8.alloc (.cells #[.slice xa0 xn0 xc0, .slice xa1 xn1 xc1, .bool xf, .slice xa3 xn3 xc3] 44) = w8A at Hm0 Hm1 Hm3 Hr0 Hr1 Hr3 Hra Hrb Hf0 Hf1 Hf3 Hs0 Hs1 Hs3 Hx0 Hx1 Hx3 Xm Xr Xf Xs Xx HR B ⊢
  refine (implFailMem_any _ 57 _ _ _ _ _ _ _ _ _ xss xcs xf xbs Hx0.out Hx1.out Hx3.out Vx.out).mono ?_
  rintro e w9 ⟨t0, t1, t3, rfl, o, b⟩
  obtain ⟨ya0, yn0, yc0, ya1, yn1, yc1, ya3, yn3, yc3, ht0, ht1, ht3⟩ := mem_slices o
  subst ht0 ht1 ht3
  clear o q0 q1 q2 q3
  have Hm0' := hidden (Hm0.out.below b)
  have Hm1' := hidden (Hm1.out.below b)
  have Hm3' := hidden (Hm3.out.below b)
  have Hr0' := hidden (Hr0.out.below b)
  have Hr1' := hidden (Hr1.out.below b)
  have Hr3' := hidden (Hr3.out.below b)
  have Hra' := hidden (Hra.out.below b)
  have Hrb' := hidden (Hrb.out.below b)
  have Hf0' := hidden (Hf0.out.below b)
  have Hf1' := hidden (Hf1.out.below b)
  have Hf3' := hidden (Hf3.out.below b)
  have Hs0' := hidden (Hs0.out.below b)
  have Hs1' := hidden (Hs1.out.below b)
  have Hs3' := hidden (Hs3.out.below b)
  have Hx0' := hidden (Hx0.out.below b)
  have Hx1' := hidden (Hx1.out.below b)
  have Hx3' := hidden (Hx3.out.below b)
  have Xm' := hidden (Xm.out.below b Xm.out.lt)
  have Xr' := hidden (Xr.out.below b Xr.out.lt)
  have Xf' := hidden (Xf.out.below b Xf.out.lt)
  have Xs' := hidden (Xs.out.below b Xs.out.lt)
  have Xx' := hidden (Xx.out.below b Xx.out.lt)
  have HR' := hidden (HR.out.below b)
  have B' := hidden (Below.andThen B.out b)
  clear Hm0 Hm1 Hm3 Hr0 Hr1 Hr3 Hra Hrb Hf0 Hf1 Hf3 Hs0 Hs1 Hs3 Hx0 Hx1 Hx3 Xm Xr Xf Xs Xx HR B
  have Hm0 := Hm0'
  have Hm1 := Hm1'
  have Hm3 := Hm3'
  have Hr0 := Hr0'
  have Hr1 := Hr1'
  have Hr3 := Hr3'
  have Hra := Hra'
  have Hrb := Hrb'
  have Hf0 := Hf0'
  have Hf1 := Hf1'
  have Hf3 := Hf3'
  have Hs0 := Hs0'
  have Hs1 := Hs1'
  have Hs3 := Hs3'
  have Hx0 := Hx0'
  have Hx1 := Hx1'
  have Hx3 := Hx3'
  have Xm := Xm'
  have Xr := Xr'
  have Xf := Xf'
  have Xs := Xs'
  have Xx := Xx'
  have HR := HR'
  have B := B'
  clear Hm0' Hm1' Hm3' Hr0' Hr1' Hr3' Hra' Hrb' Hf0' Hf1' Hf3' Hs0' Hs1' Hs3' Hx0' Hx1' Hx3' Xm' Xr' Xf' Xs' Xx' HR' B'
  clear b
  have bA : Below w9.heap.size w9 (w9.alloc (.cells #[.slice ya0 yn0 yc0, .slice ya1 yn1 yc1, .bool true, .slice ya3 yn3 yc3] 44)) := (Below.refl _ _).alloc (Nat.le_refl _) _
  have Hm0' := hidden (Hm0.out.below bA)
  have Hm1' := hidden (Hm1.out.below bA)
  have Hm3' := hidden (Hm3.out.below bA)
  have Hr0' := hidden (Hr0.out.below bA)
  have Hr1' := hidden (Hr1.out.below bA)
  have Hr3' := hidden (Hr3.out.below bA)
  have Hra' := hidden (Hra.out.below bA)
  have Hrb' := hidden (Hrb.out.below bA)
  have Hf0' := hidden (Hf0.out.below bA)
  have Hf1' := hidden (Hf1.out.below bA)
  have Hf3' := hidden (Hf3.out.below bA)
  have Hs0' := hidden (Hs0.out.below bA)
  have Hs1' := hidden (Hs1.out.below bA)
  have Hs3' := hidden (Hs3.out.below bA)
  have Hx0' := hidden (Hx0.out.below bA)
  have Hx1' := hidden (Hx1.out.below bA)
  have Hx3' := hidden (Hx3.out.below bA)
  have Xm' := hidden (Xm.out.below bA Xm.out.lt)
  have Xr' := hidden (Xr.out.below bA Xr.out.lt)
  have Xf' := hidden (Xf.out.below bA Xf.out.lt)
  have Xs' := hidden (Xs.out.below bA Xs.out.lt)
  have Xx' := hidden (Xx.out.below bA Xx.out.lt)
  have HR' := hidden (HR.out.below bA)
  have B' := hidden (Below.andThen B.out bA)
  clear Hm0 Hm1 Hm3 Hr0 Hr1 Hr3 Hra Hrb Hf0 Hf1 Hf3 Hs0 Hs1 Hs3 Hx0 Hx1 Hx3 Xm Xr Xf Xs Xx HR B
  have Hm0 := Hm0'
  have Hm1 := Hm1'
  have Hm3 := Hm3'
  have Hr0 := Hr0'
  have Hr1 := Hr1'
  have Hr3 := Hr3'
  have Hra := Hra'
  have Hrb := Hrb'
  have Hf0 := Hf0'
  have Hf1 := Hf1'
  have Hf3 := Hf3'
  have Hs0 := Hs0'
  have Hs1 := Hs1'
  have Hs3 := Hs3'
  have Hx0 := Hx0'
  have Hx1 := Hx1'
  have Hx3 := Hx3'
  have Xm := Xm'
  have Xr := Xr'
  have Xf := Xf'
  have Xs := Xs'
  have Xx := Xx'
  have HR := HR'
  have B := B'
  clear Hm0' Hm1' Hm3' Hr0' Hr1' Hr3' Hra' Hrb' Hf0' Hf1' Hf3' Hs0' Hs1' Hs3' Hx0' Hx1' Hx3' Xm' Xr' Xf' Xs' Xx' HR' B'
  clear bA
  have Xy := hidden (Box.new w9 44 #[.slice ya0 yn0 yc0, .slice ya1 yn1 yc1, .bool true, .slice ya3 yn3 yc3])
  go_wp2_with fail
  generalize w9.alloc (.cells #[.slice ya0 yn0 yc0, .slice ya1 yn1 yc1, .bool true, .slice ya3 yn3 yc3] 44) = w9A at Hm0 Hm1 Hm3 Hr0 Hr1 Hr3 Hra Hrb Hf0 Hf1 Hf3 Hs0 Hs1 Hs3 Hx0 Hx1 Hx3 Xm Xr Xf Xs Xx Xy HR B ⊢
  have hX := hidden (And.intro Xm.out.cells4 (And.intro Xf.out.cells4 (And.intro Xs.out.cells4 (Xy.out.cell 2))))
  have hSc : ∀ v : World, Below w9A.heap.size w9A v → (v.cell? ⟨w1.heap.size, 0, none⟩ = some (.slice ma0 mn0 mc0) ∧ v.cell? ⟨w1.heap.size, 1, none⟩ = some (.slice ma1 mn1 mc1) ∧ v.cell? ⟨w1.heap.size, 2, none⟩ = some (.bool mf) ∧ v.cell? ⟨w1.heap.size, 3, none⟩ = some (.slice ma3 mn3 mc3)) ∧ (v.cell? ⟨w5.heap.size, 0, none⟩ = some (.slice fa0 fn0 fc0) ∧ v.cell? ⟨w5.heap.size, 1, none⟩ = some (.slice fa1 fn1 fc1) ∧ v.cell? ⟨w5.heap.size, 2, none⟩ = some (.bool ff) ∧ v.cell? ⟨w5.heap.size, 3, none⟩ = some (.slice fa3 fn3 fc3)) ∧ (v.cell? ⟨w6.heap.size, 0, none⟩ = some (.slice sa0 sn0 sc0) ∧ v.cell? ⟨w6.heap.size, 1, none⟩ = some (.slice sa1 sn1 sc1) ∧ v.cell? ⟨w6.heap.size, 2, none⟩ = some (.bool sf) ∧ v.cell? ⟨w6.heap.size, 3, none⟩ = some (.slice sa3 sn3 sc3)) ∧ v.cell? ⟨w9.heap.size, 2, none⟩ = some (.bool true) := fun v b => ⟨(Xm.out.below b Xm.out.lt).cells4, (Xf.out.below b Xf.out.lt).cells4, (Xs.out.below b Xs.out.lt).cells4, (Xy.out.below b Xy.out.lt).cell 2⟩
  have HSC := hidden hSc
  clear hSc hX
  have E0 : Hid (Below w9A.heap.size w9A w9A.drew) := (Below.refl _ _).drew
  have EZ : Hid (Below w9A.heap.size w9A w9A) := Below.refl _ _
  have e1 : (memB mss mcs mbs == memB mss mcs mbs) = true := by simp
  have e2 : (readOk rss rcs rf rbs nr == readOk rss rcs rf rbs nr) = true := by simp
  have e3 : decide (readD rss rcs rf rbs nr = readD rss rcs rf rbs nr) = true := by simp
  have LR := hidden (readD_le (n := nr) Wr.out)
  have LA := hidden (row_length Hra.out).1
  have LB := hidden (row_length Hrb.out).1
  have WFA := hidden (fa_wt (k := keep) Wf.out)
  have WSP := hidden (sp_wt (n := ns) Ws.out)
  have WFL := hidden (fl_wt Wm.out)
  have WNW := hidden (newSS_wt nd)
  go_region_held3 (fun v => (v.cell? ⟨w1.heap.size, 0, none⟩ = some (.slice ma0 mn0 mc0) ∧ v.cell? ⟨w1.heap.size, 1, none⟩ = some (.slice ma1 mn1 mc1) ∧ v.cell? ⟨w1.heap.size, 2, none⟩ = some (.bool mf) ∧ v.cell? ⟨w1.heap.size, 3, none⟩ = some (.slice ma3 mn3 mc3)) ∧ (v.cell? ⟨w5.heap.size, 0, none⟩ = some (.slice fa0 fn0 fc0) ∧ v.cell? ⟨w5.heap.size, 1, none⟩ = some (.slice fa1 fn1 fc1) ∧ v.cell? ⟨w5.heap.size, 2, none⟩ = some (.bool ff) ∧ v.cell? ⟨w5.heap.size, 3, none⟩ = some (.slice fa3 fn3 fc3)) ∧ (v.cell? ⟨w6.heap.size, 0, none⟩ = some (.slice sa0 sn0 sc0) ∧ v.cell? ⟨w6.heap.size, 1, none⟩ = some (.slice sa1 sn1 sc1) ∧ v.cell? ⟨w6.heap.size, 2, none⟩ = some (.bool sf) ∧ v.cell? ⟨w6.heap.size, 3, none⟩ = some (.slice sa3 sn3 sc3)) ∧ v.cell? ⟨w9.heap.size, 2, none⟩ = some (.bool true))
    (first | (with_reducible exact HSC.out _ E15.out) | (with_reducible exact HSC.out _ E14.out) | (with_reducible exact HSC.out _ E13.out) | (with_reducible exact HSC.out _ E12.out) | (with_reducible exact HSC.out _ E11.out) | (with_reducible exact HSC.out _ E10.out) | (with_reducible exact HSC.out _ E9.out) | (with_reducible exact HSC.out _ E8.out) | (with_reducible exact HSC.out _ E7.out) | (with_reducible exact HSC.out _ E6.out) | (with_reducible exact HSC.out _ E5.out) | (with_reducible exact HSC.out _ E4.out) | (with_reducible exact HSC.out _ E3.out) | (with_reducible exact HSC.out _ E2.out) | (with_reducible exact HSC.out _ E1.out) | (with_reducible exact HSC.out _ E0.out) | (with_reducible exact HSC.out _ EZ.out) | go_keep)
    (first
    | (have hg14 := OZ; go_at_call 28; obtain ⟨x0, x1, x3⟩ := mem_parts OK.out; obtain ⟨y0, y1, y3⟩ := mem_parts OZ.out; refine (sameMem_same _ 57 57 _ _ _ _ _ _ _ _ _ _ _ _ _ _ _ _ _ _ (flSS mss mcs mf mbs) (flCS mss mcs mf mbs) mf mbs x0 x1 x3 y0 y1 y3 WFL.out).mono ?_; rintro e u15 ⟨rfl, b⟩; clear x0 x1 x3 y0 y1 y3; have E15 := hidden (E14.out.trans (b.mono E14.out.size)); clear b)
    | (have hg11 := OJ; go_at_call 28; refine (sameMem_same _ 57 57 _ _ _ _ _ _ _ _ _ _ _ _ _ _ _ _ _ _ (newSS nd) [] false [] OI.out (nil_own _ 0 0).rd (nil_own _ 0 0).rd OJ.out (nil_own _ 0 0).rd (nil_own _ 0 0).rd WNW.out).mono ?_; rintro e u12 ⟨rfl, b⟩; have E12 := hidden (E11.out.trans (b.mono E11.out.size)); clear b)
    | (have hg8 := OG; go_at_call 28; obtain ⟨x0, x1, x3⟩ := mem_parts OD.out; obtain ⟨y0, y1, y3⟩ := mem_parts OG.out; refine (sameMem_same _ 57 57 _ _ _ _ _ _ _ _ _ _ _ _ _ _ _ _ _ _ sss scs sf (spBS sss scs sbs ns) x0 x1 x3 y0 y1 y3 WSP.out).mono ?_; rintro e u9 ⟨rfl, b⟩; clear x0 x1 x3 y0 y1 y3; have E9 := hidden (E8.out.trans (b.mono E8.out.size)); clear b)
    | (have hg5 := OC; go_at_call 28; obtain ⟨x0, x1, x3⟩ := mem_parts OA.out; obtain ⟨y0, y1, y3⟩ := mem_parts OC.out; refine (sameMem_same _ 57 57 _ _ _ _ _ _ _ _ _ _ _ _ _ _ _ _ _ _ (faSS fss fcs fbs keep) (faCS fss fcs fbs) ff fbs x0 x1 x3 y0 y1 y3 WFA.out).mono ?_; rintro e u6 ⟨rfl, b⟩; clear x0 x1 x3 y0 y1 y3; have E6 := hidden (E5.out.trans (b.mono E5.out.size)); clear b)
    | (go_at_call 31; refine (implMemOk_any _ 57 _ _ _ _ _ _ _ _ _ mss mcs mf mbs (Hm0.out.below E0.out) (Hm1.out.below E0.out) (Hm3.out.below E0.out) Vm.out).mono ?_; rintro e u1 ⟨rfl, b⟩; have E1 := hidden (E0.out.trans (b.mono E0.out.size)); clear b)
    | (go_at_call 42; refine (specMemOk_any _ 57 _ _ _ _ _ _ _ _ _ mss mcs mf mbs (Hm0.out.below E1.out) (Hm1.out.below E1.out) (Hm3.out.below E1.out) Vm.out).mono ?_; rintro e u2 ⟨rfl, b⟩; have E2 := hidden (E1.out.trans (b.mono E1.out.size)); clear b)
    | (go_at_call 17; refine (sameInts_any _ _ _ _ _ _ _ (readD rss rcs rf rbs nr) (readD rss rcs rf rbs nr) LA.out LB.out (ints_rd (Hra.out.below E2.out)).1 (ints_rd (Hrb.out.below E2.out)).1 (by have h1 := LR.out; have h2 := LA.out; omega)).mono ?_; rintro e u3 ⟨rfl, hs⟩; have b := same_under hs; clear hs; have E3 := hidden (E2.out.trans (b.mono E2.out.size)); clear b)
    | (go_at_call 33; refine (implFallMem_any _ 57 _ _ _ _ _ _ _ _ _ fss fcs ff fbs keep (Hf0.out.below E3.out) (Hf1.out.below E3.out) (Hf3.out.below E3.out) Vf.out).mono ?_; rintro e u4 ⟨t0, t1, t3, rfl, o, b⟩; obtain ⟨Aa0, An0, Ac0, Aa1, An1, Ac1, Aa3, An3, Ac3, ht0, ht1, ht3⟩ := mem_slices o; subst ht0 ht1 ht3; have OA := hidden o; have E4 := hidden (E3.out.trans (b.mono E3.out.size)); clear o; clear b)
    | (go_at_call 43; refine (specFallMem_any _ 57 _ _ _ _ _ _ _ _ _ fss fcs ff fbs keep (Hf0.out.below E4.out) (Hf1.out.below E4.out) (Hf3.out.below E4.out) Vf.out).mono ?_; rintro e u5 ⟨t0, t1, t3, rfl, o, b⟩; obtain ⟨Ca0, Cn0, Cc0, Ca1, Cn1, Cc1, Ca3, Cn3, Cc3, ht0, ht1, ht3⟩ := mem_slices o; subst ht0 ht1 ht3; have OC := hidden o; have E5 := hidden (E4.out.trans (b.mono E4.out.size)); have OA := hidden (OA.out.below b); clear o; clear b)
    | (go_at_call 44; refine (implSpoilSec_any _ 57 _ _ _ _ _ _ _ _ _ sss scs sf sbs ns (Hs0.out.below E6.out) (Hs1.out.below E6.out) (Hs3.out.below E6.out) Vs.out).mono ?_; rintro e u7 ⟨t0, t1, t3, rfl, o, b⟩; obtain ⟨Da0, Dn0, Dc0, Da1, Dn1, Dc1, Da3, Dn3, Dc3, ht0, ht1, ht3⟩ := mem_slices o; subst ht0 ht1 ht3; have OD := hidden o; have E7 := hidden (E6.out.trans (b.mono E6.out.size)); clear o; clear b)
    | (go_at_call 45; refine (specSpoilSec_any _ 57 _ _ _ _ _ _ _ _ _ sss scs sf sbs ns (Hs0.out.below E7.out) (Hs1.out.below E7.out) (Hs3.out.below E7.out) Vs.out).mono ?_; rintro e u8 ⟨t0, t1, t3, rfl, o, b⟩; obtain ⟨Ga0, Gn0, Gc0, Ga1, Gn1, Gc1, Ga3, Gn3, Gc3, ht0, ht1, ht3⟩ := mem_slices o; subst ht0 ht1 ht3; have OG := hidden o; have E8 := hidden (E7.out.trans (b.mono E7.out.size)); have OD := hidden (OD.out.below b); clear o; clear b)
    | (go_at_call 46; refine (implMemNew_any _ nd).mono ?_; rintro e u10 ⟨Ia0, Ic0, rfl, o, b⟩; have OI := hidden o.rd; have E10 := hidden (E9.out.trans (b.mono E9.out.size)); clear o; clear b)
    | (go_at_call 47; refine (specMemNew_any _ nd).mono ?_; rintro e u11 ⟨Ja0, Jc0, rfl, o, b⟩; have OJ := hidden o.rd; have OI := hidden (OI.out.below b); have E11 := hidden (E10.out.trans (b.mono E10.out.size)); clear o; clear b)
    | (go_at_call 30; refine (implFlushMem_any _ 57 _ _ _ _ _ _ _ _ _ mss mcs mf mbs (Hm0.out.below E12.out) (Hm1.out.below E12.out) (Hm3.out.below E12.out) Vm.out).mono ?_; rintro e u13 ⟨t0, t1, t3, rfl, o, b⟩; obtain ⟨Ka0, Kn0, Kc0, Ka1, Kn1, Kc1, Ka3, Kn3, Kc3, ht0, ht1, ht3⟩ := mem_slices o; subst ht0 ht1 ht3; have OK := hidden o; have E13 := hidden (E12.out.trans (b.mono E12.out.size)); clear o; clear b)
    | (go_at_call 48; refine (specFlushMem_any _ 57 _ _ _ _ _ _ _ _ _ mss mcs mf mbs (Hm0.out.below E13.out) (Hm1.out.below E13.out) (Hm3.out.below E13.out) Vm.out).mono ?_; rintro e u14 ⟨t0, t1, t3, rfl, o, b⟩; obtain ⟨Za0, Zn0, Zc0, Za1, Zn1, Zc1, Za3, Zn3, Zc3, ht0, ht1, ht3⟩ := mem_slices o; subst ht0 ht1 ht3; have OZ := hidden o; have E14 := hidden (E13.out.trans (b.mono E13.out.size)); have OK := hidden (OK.out.below b); clear o; clear b))
  have BE := hidden (Below.andThen B.out E15.out)
  go_wp2
  go_ret
  exact ⟨rfl, BE.out⟩

end Go.Proofs.Ytmkiljflkndmoaa

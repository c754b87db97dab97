/-
 What is in a disk's sectors once writes are put there: the last one of each sector. Plain lemmas. No condition.
-/
import Derived.Test.YtejeekndbnpmoaaGreatRowWritesBentSq3
import Derived.Test.YtejeekndbnpmoaaGreatRowWritesBentSq2
import Derived.Test.YtejeekndbnpmoaaGreatRowWritesBentSq4
import Derived.Test.YtejeekndbnpmoaaGreatRowWritesBentSq5
import Derived.Test.YtejeekndbnpmoaaGreatRowWritesBentSq1
import Derived.Maps.Own
import Derived.Maps.OwnSet
import Derived.Maps.OwnOps
import Derived.Maps.Views

set_option maxRecDepth 100000
set_option maxHeartbeats 8000000
set_option linter.unusedSimpArgs false

namespace Go.Proofs.YtejeekndbnpmoaaGreat
open Go.RowKit

theorem en (w:World) (E:TypeId) (a0 a1 a3:Option Addr) (n0 c0 n1 c1 n3 c3:Nat) (ss:List (List Int)) (cs:List (Int×List Int)) (f:Bool) (bs:List Int) (h0:aT.Rd w [.slice a0 n0 c0] ss) (h1:(aU E).Rd w [.slice a1 n1 c1] cs) (h3:aA.Rd w [.slice a3 n3 c3] bs) (hw:aQ (ss,cs,f,bs)<=2097152):
 Calls Tryz.prog 169 #[.agg #[.slice a0 n0 c0,.slice a1 n1 c1,.bool f,.slice a3 n3 c3]] w fun e w'=>∃v0 v1 v3 m1 m2,e=.returned (.agg #[v0,v1,.bool f,v3])/\aA.Own w' w.heap.size m1 [v3] bs/\aT.Own w' m1 m2 [v0] ss/\(aU 171).Own w' m2 w'.heap.size [v1] cs/\m1<=m2/\w.heap.size<=m1/\m2<=w'.heap.size/\Below w.heap.size w w':=by
 obtain ⟨hl0,_,hm0⟩:=af h0;obtain ⟨hl1,_,hm1⟩:=af h1;obtain ⟨hl3,_,hm3⟩:=af h3;have hw0:cP ss<=2097152:=by unfold aQ at hw;simp only at hw;omega
 have hw1:bh cs<=2097152:=by unfold aQ at hw;simp only at hw;omega
 have hw3:n3<=2097152:=by unfold aQ at hw;simp only at hw;omega
 have hn0:n0<=2097152:=by unfold cP at hw0;omega
 have hn1:n1<=2097152:=by unfold bh at hw1;omega
 obtain ⟨i0,hi,hz0,hz1,hz2⟩:=info_parts Tryz.infoIntS;obtain ⟨i3,hi3,hx0,hx1,hx2⟩:=info_parts Tryz.info3;obtain ⟨i1,hi1,hy0,hy1,hy2⟩:=info_parts Tryz.infoWr;have hA:Below w.heap.size w ((w.alloc (.cells #[.slice a0 n0 c0,.slice a1 n1 c1,.bool f,.slice a3 n3 c3] 101)).alloc (.cells #[.slice none 0 0,.slice none 0 0,.bool false,.slice none 0 0] 101)):=((Below.refl _ _).alloc (Nat.le_refl _) _).alloc (by simp) _;have xm:Box ((w.alloc (.cells #[.slice a0 n0 c0,.slice a1 n1 c1,.bool f,.slice a3 n3 c3] 101)).alloc (.cells #[.slice none 0 0,.slice none 0 0,.bool false,.slice none 0 0] 101)) w.heap.size 101 #[.slice a0 n0 c0,.slice a1 n1 c1,.bool f,.slice a3 n3 c3]:=(Box.new w _ _).alloc _;have xr:Box ((w.alloc (.cells #[.slice a0 n0 c0,.slice a1 n1 c1,.bool f,.slice a3 n3 c3] 101)).alloc (.cells #[.slice none 0 0,.slice none 0 0,.bool false,.slice none 0 0] 101)) (w.heap.size+1) 101 #[.slice none 0 0,.slice none 0 0,.bool false,.slice none 0 0]:=by
  have:=Box.new (w.alloc (.cells #[.slice a0 n0 c0,.slice a1 n1 c1,.bool f,.slice a3 n3 c3] 101)) 101 #[.slice none 0 0,.slice none 0 0,.bool false,.slice none 0 0];rw [show (w.alloc (.cells #[.slice a0 n0 c0,.slice a1 n1 c1,.bool f,.slice a3 n3 c3] 101)).heap.size=w.heap.size+1 by simp] at this;exact this
 have hsz:((w.alloc (.cells #[.slice a0 n0 c0,.slice a1 n1 c1,.bool f,.slice a3 n3 c3] 101)).alloc (.cells #[.slice none 0 0,.slice none 0 0,.bool false,.slice none 0 0] 101)).heap.size=w.heap.size+1+1:=by simp
 have HSZ:=aa hsz;clear hsz;go_enter Tryz.func169,Tryz.ntmps169
 go_wp2_with fail
 generalize hW:(w.alloc (.cells #[.slice a0 n0 c0,.slice a1 n1 c1,.bool f,.slice a3 n3 c3] 101)).alloc (.cells #[.slice none 0 0,.slice none 0 0,.bool false,.slice none 0 0] 101)=W at hA xm xr HSZ ⊢;clear hW;obtain ⟨q0,q1,q2,q3⟩:=xm.cells4;have zW:w.heap.size<W.heap.size:=xm.lt;have g3:=h3.below hA;refine' tE (G:=_) (A:=fun BO g w6 a5 c5 fp3=>Box w6 w.heap.size 101 #[.slice a0 n0 c0,.slice a1 n1 c1,.bool f,.slice a3 n3 c3]/\Box w6 (w.heap.size+1) 101 #[.slice none 0 0,.slice none 0 0,.bool false,.slice none 0 0]/\Box w6 BO 101 #[.slice none 0 0,.slice none 0 0,.bool f,.slice a5 n3 c5]/\aA.Mine w6 [.slice a5 n3 c5] bs fp3/\Below w.heap.size w w6/\(w.heap.size+2<=BO/\BO<w6.heap.size/\∀b∈fp3,w.heap.size+2<=b/\b<w6.heap.size/\b≠BO)) ?main (fun key=>?use)
 case use=>
  have sW:w.heap.size+2<=W.heap.size:=by have:=HSZ.out;omega
  have hgA:Box (W.alloc (.cells #[] 3)) W.heap.size 3 #[]:=Box.new W 3 #[];have hgB:Box ((W.alloc (.cells #[] 3)).alloc (.cells #[.slice none 0 0,.slice none 0 0,.bool false,.slice none 0 0] 101)) W.heap.size 3 #[]:=hgA.alloc _;have hgC:Box ((W.alloc (.cells #[.slice none 0 0,.slice none 0 0,.bool false,.slice none 0 0] 101)).alloc (.cells #[] 3)) (W.heap.size+1) 3 #[]:=by
   have:=Box.new (W.alloc (.cells #[.slice none 0 0,.slice none 0 0,.bool false,.slice none 0 0] 101)) 3 #[];rw [show (W.alloc (.cells #[.slice none 0 0,.slice none 0 0,.bool false,.slice none 0 0] 101)).heap.size=W.heap.size+1 by simp] at this;exact this
  have xoB:Box ((W.alloc (.cells #[] 3)).alloc (.cells #[.slice none 0 0,.slice none 0 0,.bool false,.slice none 0 0] 101)) (W.heap.size+1) 101 #[.slice none 0 0,.slice none 0 0,.bool false,.slice none 0 0]:=by
   have:=Box.new (W.alloc (.cells #[] 3)) 101 #[.slice none 0 0,.slice none 0 0,.bool false,.slice none 0 0];rw [show (W.alloc (.cells #[] 3)).heap.size=W.heap.size+1 by simp] at this;exact this
  have xoC:Box ((W.alloc (.cells #[.slice none 0 0,.slice none 0 0,.bool false,.slice none 0 0] 101)).alloc (.cells #[] 3)) W.heap.size 101 #[.slice none 0 0,.slice none 0 0,.bool false,.slice none 0 0]:=(Box.new W _ _).alloc _;have zA:(W.alloc (.cells #[] 3)).heap.size=W.heap.size+1:=by simp
  have zB:((W.alloc (.cells #[] 3)).alloc (.cells #[.slice none 0 0,.slice none 0 0,.bool false,.slice none 0 0] 101)).heap.size=W.heap.size+2:=by simp
  have zC:((W.alloc (.cells #[.slice none 0 0,.slice none 0 0,.bool false,.slice none 0 0] 101)).alloc (.cells #[] 3)).heap.size=W.heap.size+2:=by simp
  have ZA:=aa zA;have ZB:=aa zB;have ZC:=aa zC;have HGA:Hid ((W.alloc (.cells #[] 3)).drew.heap[W.heap.size]?=some (.cells #[] 3 (0,0))):=hgA;have RDA:Hid (aA.Rd (W.alloc (.cells #[] 3)).drew [.slice a3 n3 c3] bs):=(g3.below ((Below.refl _ _).alloc (Nat.le_refl _) _)).drew;have HGB:Hid (((W.alloc (.cells #[] 3)).alloc (.cells #[.slice none 0 0,.slice none 0 0,.bool false,.slice none 0 0] 101)).drew.heap[W.heap.size]?=some (.cells #[] 3 (0,0))):=hgB;have RDB:Hid (aA.Rd ((W.alloc (.cells #[] 3)).alloc (.cells #[.slice none 0 0,.slice none 0 0,.bool false,.slice none 0 0] 101)).drew [.slice a3 n3 c3] bs):=(g3.below (((Below.refl _ _).alloc (Nat.le_refl _) _).alloc (by simp) _)).drew;have HGC:Hid (((W.alloc (.cells #[.slice none 0 0,.slice none 0 0,.bool false,.slice none 0 0] 101)).alloc (.cells #[] 3)).drew.heap[W.heap.size+1]?=some (.cells #[] 3 (0,0))):=hgC;have RDC:Hid (aA.Rd ((W.alloc (.cells #[.slice none 0 0,.slice none 0 0,.bool false,.slice none 0 0] 101)).alloc (.cells #[] 3)).drew [.slice a3 n3 c3] bs):=(g3.below (((Below.refl _ _).alloc (Nat.le_refl _) _).alloc (by simp) _)).drew;have XOB:=aa xoB;have XOC:=aa xoC;have XM:=aa xm;have XR:=aa xr;have G3:=aa g3;clear zA zB zC hgA hgB hgC xoB xoC;have hS:∀w',Box w' w.heap.size 101 #[.slice a0 n0 c0,.slice a1 n1 c1,.bool f,.slice a3 n3 c3]->w'.cell? ⟨w.heap.size,2,none⟩=some (.bool f)/\w'.cell? ⟨w.heap.size,3,none⟩=some (.slice a3 n3 c3):=fun w' hb=>⟨hb.cell 2,hb.cell 3⟩;have nB:Hid (w.heap.size≠W.heap.size+1):=by unfold Hid;omega
  have nC:Hid (w.heap.size≠W.heap.size):=by unfold Hid;omega
  have hD:∀w',Box w' w.heap.size 101 #[.slice a0 n0 c0,.slice a1 n1 c1,.bool f,.slice a3 n3 c3]->w'.drew.cell? ⟨w.heap.size,2,none⟩=some (.bool f)/\w'.drew.cell? ⟨w.heap.size,3,none⟩=some (.slice a3 n3 c3):=hS;go_region_held3 (fun w'=>w'.cell? ⟨w.heap.size,2,none⟩=some (.bool f)/\w'.cell? ⟨w.heap.size,3,none⟩=some (.slice a3 n3 c3))
   (first|(with_reducible exact hS w5 XM5.out)|(with_reducible exact hS _ (XM5.out.alloc _))|(with_reducible exact hS _ ((((XM5.out.other nB.out 0 _).other nB.out 1 _).other nB.out 2 _).other nB.out 3 _))|(with_reducible exact hS _ ((((XM5.out.other nC.out 0 _).other nC.out 1 _).other nC.out 2 _).other nC.out 3 _))|(with_reducible exact hD _ XM.out)|(with_reducible exact hD _ (XM.out.alloc _))|(with_reducible exact hD _ ((XM.out.alloc _).alloc _))|go_keep)
   (first
    | (refine dL (by rfl) _ _ 31 (by rfl) i3 Tryz.underlying31 hi3 hx0 hx1 hx2 W.heap.size (by rfl) (by with_reducible exact HGA.out) a3 n3 c3 bs (by rfl) (by with_reducible exact RDA.out) (by omega) ?_;intro a5 c5 w5 fp3 m3 r3 t3;have t3':aw [W.heap.size] (W.alloc (.cells #[] 3)) w5:=aw.undrew t3;have XM5:=aa ((XM.out.alloc (.cells #[] 3)).turned t3' (by simp;omega));have XR5:=aa ((XR.out.alloc (.cells #[] 3)).turned t3' (by simp;omega));have T3:=aa t3';have M3:=aa m3;have R3:=aa r3;clear t3 t3' m3 r3)
    | (refine dL (by rfl) _ _ 31 (by rfl) i3 Tryz.underlying31 hi3 hx0 hx1 hx2 W.heap.size (by rfl) (by with_reducible exact HGB.out) a3 n3 c3 bs (by rfl) (by with_reducible exact RDB.out) (by omega) ?_;intro a5 c5 w5 fp3 m3 r3 t3;have t3':aw [W.heap.size] ((W.alloc (.cells #[] 3)).alloc (.cells #[.slice none 0 0,.slice none 0 0,.bool false,.slice none 0 0] 101)) w5:=aw.undrew t3;have XM5:=aa (((XM.out.alloc (.cells #[] 3)).alloc (.cells #[.slice none 0 0,.slice none 0 0,.bool false,.slice none 0 0] 101)).turned t3' (by simp;omega));have XR5:=aa (((XR.out.alloc (.cells #[] 3)).alloc (.cells #[.slice none 0 0,.slice none 0 0,.bool false,.slice none 0 0] 101)).turned t3' (by simp;omega));have xo5:=XOB.out.turned t3' (by simp);obtain ⟨s0,s1,s2,s3⟩:=xo5.cells4;have u0:=xo5.frozen 0;have u1:=xo5.frozen 1;have u2:=xo5.frozen 2;have u3:=xo5.frozen 3;have XO5:=aa xo5;have T3:=aa t3';have M3:=aa m3;have R3:=aa r3;clear t3 t3' m3 r3 xo5)
    | (refine dL (by rfl) _ _ 31 (by rfl) i3 Tryz.underlying31 hi3 hx0 hx1 hx2 (W.heap.size+1) (by rfl) (by with_reducible exact HGC.out) a3 n3 c3 bs (by rfl) (by with_reducible exact RDC.out) (by omega) ?_;intro a5 c5 w5 fp3 m3 r3 t3;have t3':aw [W.heap.size+1] ((W.alloc (.cells #[.slice none 0 0,.slice none 0 0,.bool false,.slice none 0 0] 101)).alloc (.cells #[] 3)) w5:=aw.undrew t3;have XM5:=aa (((XM.out.alloc (.cells #[.slice none 0 0,.slice none 0 0,.bool false,.slice none 0 0] 101)).alloc (.cells #[] 3)).turned t3' (by simp;omega));have XR5:=aa (((XR.out.alloc (.cells #[.slice none 0 0,.slice none 0 0,.bool false,.slice none 0 0] 101)).alloc (.cells #[] 3)).turned t3' (by simp;omega));have xo5:=XOC.out.turned t3' (by simp);obtain ⟨s0,s1,s2,s3⟩:=xo5.cells4;have u0:=xo5.frozen 0;have u1:=xo5.frozen 1;have u2:=xo5.frozen 2;have u3:=xo5.frozen 3;have XO5:=aa xo5;have T3:=aa t3';have M3:=aa m3;have R3:=aa r3;clear t3 t3' m3 r3 xo5))
  . have hT:=T3.out
    have zA:=ZA.out;have zT:=hT.size;have z6:(w5.alloc (.cells #[.slice none 0 0,.slice none 0 0,.bool f,.slice a5 n3 c5] 101)).heap.size=w5.heap.size+1:=by simp
    have FM:=XM5.out.alloc (.cells #[.slice none 0 0,.slice none 0 0,.bool f,.slice a5 n3 c5] 101);have FR:=XR5.out.alloc (.cells #[.slice none 0 0,.slice none 0 0,.bool f,.slice a5 n3 c5] 101);have FO:=Box.new w5 101 #[.slice none 0 0,.slice none 0 0,.bool f,.slice a5 n3 c5];have F3:=M3.out.alloc (.cells #[.slice none 0 0,.slice none 0 0,.bool f,.slice a5 n3 c5] 101);have FB:Below w.heap.size w (w5.alloc (.cells #[.slice none 0 0,.slice none 0 0,.bool f,.slice a5 n3 c5] 101)):=(((hA.alloc (by omega) (.cells #[] 3)).trans (hT.below (N:=w.heap.size) (by omega) (by simp;omega))).alloc (by omega) (.cells #[.slice none 0 0,.slice none 0 0,.bool f,.slice a5 n3 c5] 101));have FS:w.heap.size+2<=w5.heap.size/\w5.heap.size<(w5.alloc (.cells #[.slice none 0 0,.slice none 0 0,.bool f,.slice a5 n3 c5] 101)).heap.size/\∀b∈fp3,w.heap.size+2<=b/\b<(w5.alloc (.cells #[.slice none 0 0,.slice none 0 0,.bool f,.slice a5 n3 c5] 101)).heap.size/\b≠w5.heap.size:=⟨by omega,by omega,fun b hb=>by
     obtain ⟨h1,h2⟩:=R3.out b hb;have h3:(W.alloc (.cells #[] 3)).drew.heap.size=(W.alloc (.cells #[] 3)).heap.size:=rfl;omega⟩
    have ALL:=aa (And.intro FM (And.intro FR (And.intro FO (And.intro F3 (And.intro FB FS)))));clear FM FR FO F3 FB FS hT zA zT z6;generalize w5.alloc (.cells #[.slice none 0 0,.slice none 0 0,.bool f,.slice a5 n3 c5] 101)=w6 at ALL ⊢;generalize w5.heap.size=BO at ALL ⊢;generalize W.heap.size=g;exact key.out BO g w6 a5 c5 fp3 ALL.out
  . have hT:=T3.out
    have zA:=ZB.out;have zT:=hT.size;have hbt:But (W.heap.size+1) (W.heap.size+1+1) w5 ((((w5.setCell ⟨W.heap.size+1,0,none⟩ (.slice none 0 0)).setCell ⟨W.heap.size+1,1,none⟩ (.slice none 0 0)).setCell ⟨W.heap.size+1,2,none⟩ (.bool f)).setCell ⟨W.heap.size+1,3,none⟩ (.slice a5 n3 c5)):=
     (((But.setCell (by omega) (by omega) _).trans (But.setCell (by omega) (by omega) _)).trans (But.setCell (by omega) (by omega) _)).trans (But.setCell (by omega) (by omega) _)
    have z6:=hbt.size;have rr:∀b∈fp3,w.heap.size+2<=b/\b<w5.heap.size/\b≠W.heap.size+1:=fun b hb=>by
     obtain ⟨h1,h2⟩:=R3.out b hb;have h3:((W.alloc (.cells #[] 3)).alloc (.cells #[.slice none 0 0,.slice none 0 0,.bool false,.slice none 0 0] 101)).drew.heap.size=((W.alloc (.cells #[] 3)).alloc (.cells #[.slice none 0 0,.slice none 0 0,.bool false,.slice none 0 0] 101)).heap.size:=rfl;omega
    have FM:=XM5.out.kept (hbt.block _ (by omega) (by omega));have FR:=XR5.out.kept (hbt.block _ (by omega) (by omega));have FO:=(((XO5.out.set 0 (.slice none 0 0)).set 1 (.slice none 0 0)).set 2 (.bool f)).set 3 (.slice a5 n3 c5);have F3:=M3.out.but hbt (fun b hb=>by have:=rr b hb;omega);have FB:Below w.heap.size w ((((w5.setCell ⟨W.heap.size+1,0,none⟩ (.slice none 0 0)).setCell ⟨W.heap.size+1,1,none⟩ (.slice none 0 0)).setCell ⟨W.heap.size+1,2,none⟩ (.bool f)).setCell ⟨W.heap.size+1,3,none⟩ (.slice a5 n3 c5)):=((hA.alloc (by omega) (.cells #[] 3)).alloc (by simp;omega) (.cells #[.slice none 0 0,.slice none 0 0,.bool false,.slice none 0 0] 101)).trans ((hT.below (N:=w.heap.size) (by omega) (by simp;omega)).trans (hbt.below (by omega) (by omega)));have FS:w.heap.size+2<=W.heap.size+1/\W.heap.size+1<((((w5.setCell ⟨W.heap.size+1,0,none⟩ (.slice none 0 0)).setCell ⟨W.heap.size+1,1,none⟩ (.slice none 0 0)).setCell ⟨W.heap.size+1,2,none⟩ (.bool f)).setCell ⟨W.heap.size+1,3,none⟩ (.slice a5 n3 c5)).heap.size/\∀b∈fp3,w.heap.size+2<=b/\b<((((w5.setCell ⟨W.heap.size+1,0,none⟩ (.slice none 0 0)).setCell ⟨W.heap.size+1,1,none⟩ (.slice none 0 0)).setCell ⟨W.heap.size+1,2,none⟩ (.bool f)).setCell ⟨W.heap.size+1,3,none⟩ (.slice a5 n3 c5)).heap.size/\b≠W.heap.size+1:=⟨by omega,by omega,fun b hb=>by have:=rr b hb;omega⟩;have ALL:=aa (And.intro FM (And.intro FR (And.intro FO (And.intro F3 (And.intro FB FS)))));clear FM FR FO F3 FB FS hT zA zT z6 rr hbt;generalize ((((w5.setCell ⟨W.heap.size+1,0,none⟩ (.slice none 0 0)).setCell ⟨W.heap.size+1,1,none⟩ (.slice none 0 0)).setCell ⟨W.heap.size+1,2,none⟩ (.bool f)).setCell ⟨W.heap.size+1,3,none⟩ (.slice a5 n3 c5))=w6 at ALL ⊢;generalize W.heap.size+1=BO at ALL ⊢;generalize W.heap.size=g;exact key.out BO g w6 a5 c5 fp3 ALL.out
  have hT:=T3.out;have zA:=ZC.out;have zT:=hT.size;have hbt:But (W.heap.size) (W.heap.size+1) w5 ((((w5.setCell ⟨W.heap.size,0,none⟩ (.slice none 0 0)).setCell ⟨W.heap.size,1,none⟩ (.slice none 0 0)).setCell ⟨W.heap.size,2,none⟩ (.bool f)).setCell ⟨W.heap.size,3,none⟩ (.slice a5 n3 c5)):=
   (((But.setCell (by omega) (by omega) _).trans (But.setCell (by omega) (by omega) _)).trans (But.setCell (by omega) (by omega) _)).trans (But.setCell (by omega) (by omega) _)
  have z6:=hbt.size;have rr:∀b∈fp3,w.heap.size+2<=b/\b<w5.heap.size/\b≠W.heap.size:=fun b hb=>by
   obtain ⟨h1,h2⟩:=R3.out b hb;have h3:((W.alloc (.cells #[.slice none 0 0,.slice none 0 0,.bool false,.slice none 0 0] 101)).alloc (.cells #[] 3)).drew.heap.size=((W.alloc (.cells #[.slice none 0 0,.slice none 0 0,.bool false,.slice none 0 0] 101)).alloc (.cells #[] 3)).heap.size:=rfl;omega
  have FM:=XM5.out.kept (hbt.block _ (by omega) (by omega));have FR:=XR5.out.kept (hbt.block _ (by omega) (by omega));have FO:=(((XO5.out.set 0 (.slice none 0 0)).set 1 (.slice none 0 0)).set 2 (.bool f)).set 3 (.slice a5 n3 c5);have F3:=M3.out.but hbt (fun b hb=>by have:=rr b hb;omega);have FB:Below w.heap.size w ((((w5.setCell ⟨W.heap.size,0,none⟩ (.slice none 0 0)).setCell ⟨W.heap.size,1,none⟩ (.slice none 0 0)).setCell ⟨W.heap.size,2,none⟩ (.bool f)).setCell ⟨W.heap.size,3,none⟩ (.slice a5 n3 c5)):=((hA.alloc (by omega) (.cells #[.slice none 0 0,.slice none 0 0,.bool false,.slice none 0 0] 101)).alloc (by simp;omega) (.cells #[] 3)).trans ((hT.below (N:=w.heap.size) (by omega) (by simp;omega)).trans (hbt.below (by omega) (by omega)));have FS:w.heap.size+2<=W.heap.size/\W.heap.size<((((w5.setCell ⟨W.heap.size,0,none⟩ (.slice none 0 0)).setCell ⟨W.heap.size,1,none⟩ (.slice none 0 0)).setCell ⟨W.heap.size,2,none⟩ (.bool f)).setCell ⟨W.heap.size,3,none⟩ (.slice a5 n3 c5)).heap.size/\∀b∈fp3,w.heap.size+2<=b/\b<((((w5.setCell ⟨W.heap.size,0,none⟩ (.slice none 0 0)).setCell ⟨W.heap.size,1,none⟩ (.slice none 0 0)).setCell ⟨W.heap.size,2,none⟩ (.bool f)).setCell ⟨W.heap.size,3,none⟩ (.slice a5 n3 c5)).heap.size/\b≠W.heap.size:=⟨by omega,by omega,fun b hb=>by have:=rr b hb;omega⟩;have ALL:=aa (And.intro FM (And.intro FR (And.intro FO (And.intro F3 (And.intro FB FS)))));clear FM FR FO F3 FB FS hT zA zT z6 rr hbt;generalize ((((w5.setCell ⟨W.heap.size,0,none⟩ (.slice none 0 0)).setCell ⟨W.heap.size,1,none⟩ (.slice none 0 0)).setCell ⟨W.heap.size,2,none⟩ (.bool f)).setCell ⟨W.heap.size,3,none⟩ (.slice a5 n3 c5))=w6 at ALL ⊢;generalize W.heap.size+1=g;generalize W.heap.size=BO at ALL ⊢;exact key.out BO g w6 a5 c5 fp3 ALL.out
 rintro BO g w6 a5 c5 fp3 ⟨fm,fr0,fo,f3,fb,fs⟩;have FM:=aa fm;have FR:=aa fr0;have FO:=aa fo;have F3:=aa f3;have FB:=aa fb;have FS:=aa fs;clear fm fr0 fo f3 fb fs;clear xm xr q0 q1 q2 q3 HSZ zW g3 hA;obtain ⟨p0,p1,p2,p3⟩:=FM.out.cells4;obtain ⟨fs1,fs2,fs3⟩:=FS.out;go_wp2
 go_loopw [4] (fun i wr=>∃(j:Nat) (v0:Value) (fp0:List Nat),j<=n0/\i=.int .i64 j/\Fr w6.heap.size BO w6 wr/\Box wr BO 101 #[v0,.slice none 0 0,.bool f,.slice a5 n3 c5]/\aT.Mine wr [v0] (ss.take j) fp0/\(∀b∈fp0,w6.heap.size<=b)) (fun i _=>n0-(intOf i).toNat)
 case atStart=>exact ⟨0,_,[],Nat.zero_le _,rfl,Fr.refl _ _ _,FO.out,dc _,by simp⟩
 obtain ⟨j,v0,fp0,hj,rfl,fr,xo,hm,hfp⟩:=hrel;have hs:=fr.size;have xm:=fr.box FM.out (by omega) (by omega);have hb:=FB.out.trans (fr.below (M:=w.heap.size) (by omega) (by omega));obtain ⟨q0,q1,q2,q3⟩:=xm.cells4;by_cases hjn:j<n0
 . rcases ii rfl h0 with h0'|⟨b,off,rfl,hbl,hcs⟩
   . omega
   have hdj:ss[j]?=some (ss[j]'(by omega)):=List.getElem?_eq_getElem (by omega);have htk:ss.take (j+1)=ss.take j++[ss[j]'(by omega)]:=List.take_succ_eq_append_getElem (by omega);generalize ss[j]'(by omega)=x at hdj htk;have hil:=fQ hdj;obtain ⟨v,hv,hrv⟩:=hcs j x hdj;obtain ⟨av,cv,rfl⟩:=az hrv;have pv:=(hb.cell (p:=⟨b,off+j,none⟩) hbl).trans hv;have HX:=aa (hrv.below hb);have k1:(0:Int)<=(j:Int):=by omega
   have k2:(j:Int)<(n0:Int):=by omega
   have HTK:=aa htk;have XO:=aa xo;have XMR:=aa xm;have FRR:=aa fr;have HM:=aa hm;have HFP:=aa hfp;have HL:Hid ((ss.take j).length=j):=by unfold Hid;rw [List.length_take];omega
   have L1:Hid ((ss.take j).length+1<=maxLen):=by unfold Hid;rw [HL.out];unfold maxLen;omega
   have L2:Hid (((ss.take j).length+1)*24<=140737488355328):=by unfold Hid;rw [HL.out];omega
   have mk:Hid (∀w',Box w' BO 101 #[v0,.slice none 0 0,.bool f,.slice a5 n3 c5]->Box w' w.heap.size 101 #[.slice (some ⟨b,off,none⟩) n0 c0,.slice a1 n1 c1,.bool f,.slice a3 n3 c3]->w'.heap[b]?=wr.heap[b]?->w'.cell? ⟨BO,0,none⟩=some (v0)/\w'.cell? ⟨w.heap.size,0,none⟩=some (.slice (some ⟨b,off,none⟩) n0 c0)/\w'.cell? ⟨b,off+j,none⟩=some (.slice av x.length cv)):=fun w' e1 e2 e3=>⟨e1.cell 0,e2.cell 0,(World.cell?_of_block e3).trans pv⟩;have bA:Below wr.heap.size wr (wr.alloc (.cells #[] 3)):=(Below.refl _ _).alloc (Nat.le_refl _) _;have hS:wr.drew.cell? ⟨BO,0,none⟩=some (v0)/\wr.drew.cell? ⟨w.heap.size,0,none⟩=some (.slice (some ⟨b,off,none⟩) n0 c0)/\wr.drew.cell? ⟨b,off+j,none⟩=some (.slice av x.length cv):=mk.out wr.drew xo xm rfl;have hS2:(wr.alloc (.cells #[] 3)).drew.cell? ⟨BO,0,none⟩=some (v0)/\(wr.alloc (.cells #[] 3)).drew.cell? ⟨w.heap.size,0,none⟩=some (.slice (some ⟨b,off,none⟩) n0 c0)/\(wr.alloc (.cells #[] 3)).drew.cell? ⟨b,off+j,none⟩=some (.slice av x.length cv):=mk.out (wr.alloc (.cells #[] 3)).drew (xo.alloc _) (xm.alloc _) (bA.block b (by omega));have HG:Hid ((wr.alloc (.cells #[] 3)).drew.heap[wr.heap.size]?=some (.cells #[] 3 (0,0))):=Box.new wr 3 #[];have RD:Hid (aA.Rd (wr.alloc (.cells #[] 3)).drew [.slice av x.length cv] x):=(HX.out.below bA).drew;have BA:=aa bA;clear hcs hdj hv hrv htk xo xm hm hfp hb fr pv bA;go_wp2_with fail
   refine ah.start (S:=fun w'=>w'.cell? ⟨BO,0,none⟩=some (v0)/\w'.cell? ⟨w.heap.size,0,none⟩=some (.slice (some ⟨b,off,none⟩) n0 c0)/\w'.cell? ⟨b,off+j,none⟩=some (.slice av x.length cv)) (k:=12) (by kernel_rfl) ?_
   refine ah.t 0 hS ?_
   refine ah.t 1 hS ?_
   refine ah.t 3 hS ?_
   refine ah.t 4 hS ?_
   refine ah.t 5 hS ?_
   refine ah.t 6 hS ?_
   refine ah.t 7 hS ?_
   refine ah.one (i:=2) (by kernel_rfl) rfl (fun K hK=>?_)
   go_simp
   refine hK.out _ _ (fun _=>hS2) ?_
   clear hK K;refine ah.one (i:=8) (by kernel_rfl) rfl (fun K hK=>?_)
   refine dL (by rfl) _ _ 31 (by rfl) i3 Tryz.underlying31 hi3 hx0 hx1 hx2 wr.heap.size (by rfl) HG.out av x.length cv x (by rfl) RD.out (by omega) ?_
   intro ac cc wc fpx mx rx tx;have tx':aw [wr.heap.size] (wr.alloc (.cells #[] 3)) wc:=aw.undrew tx;have zA:(wr.alloc (.cells #[] 3)).heap.size=wr.heap.size+1:=by simp
   have zd:(wr.alloc (.cells #[] 3)).drew.heap.size=(wr.alloc (.cells #[] 3)).heap.size:=rfl;have hbc':Below wr.heap.size wr wc:=BA.out.trans (tx'.below (N:=wr.heap.size) (by omega) (by simp));have xoc:Box wc BO 101 _:=XO.out.below hbc' (by omega);have xmc:Box wc w.heap.size 101 _:=XMR.out.below hbc' (by omega);have hS3:wc.cell? ⟨BO,0,none⟩=some (v0)/\wc.cell? ⟨w.heap.size,0,none⟩=some (.slice (some ⟨b,off,none⟩) n0 c0)/\wc.cell? ⟨b,off+j,none⟩=some (.slice av x.length cv):=mk.out wc xoc xmc (hbc'.block b (by omega));have bB:Below wc.heap.size wc (wc.alloc (.cells #[.slice ac x.length cc] 31)):=(Below.refl _ _).alloc (Nat.le_refl _) _;have zc:=hbc'.size;have hS4:(wc.alloc (.cells #[.slice ac x.length cc] 31)).cell? ⟨BO,0,none⟩=some (v0)/\(wc.alloc (.cells #[.slice ac x.length cc] 31)).cell? ⟨w.heap.size,0,none⟩=some (.slice (some ⟨b,off,none⟩) n0 c0)/\(wc.alloc (.cells #[.slice ac x.length cc] 31)).cell? ⟨b,off+j,none⟩=some (.slice av x.length cv):=mk.out _ (xoc.alloc _) (xmc.alloc _) ((bB.block b (by omega)).trans (hbc'.block b (by omega)));have RX:Hid (∀b∈fpx,wr.heap.size<=b/\b<wc.heap.size):=fun b hb=>by have:=rx b hb;omega
   have XOC:=aa xoc;have XMC:=aa xmc;have MX:=aa mx;have HBC:=aa hbc';have BB:=aa (Below.andThen hbc' bB);clear xoc xmc mx rx tx tx' hbc' bB zA zd;refine hK.out _ _ (fun _=>hS3) ?_
   clear hK K;simp only [Act.put,List.setIfInBounds_toArray,List.set_cons_zero,List.set_cons_succ]
   refine ah.one (i:=9) (by kernel_rfl) rfl (fun K hK=>?_)
   go_simp
   refine hK.out _ _ (fun _=>hS4) ?_
   clear hK K;refine ah.one (i:=10) (by kernel_rfl) rfl (fun K hK=>?_)
   refine cF aA (by rfl) _ _ 98 (by rfl) 31 i0 (.slice none 0 0) 24 Tryz.underlying98 hi hz0 hz1 hz2 rfl Nat.zero_lt_one v0 (ss.take j) fp0 (by rfl) ?_ ⟨wc.heap.size,0,none⟩ 1 [.slice ac x.length cc] x fpx (by rfl) ?_ ?_ ?_ ?_ L1.out L2.out ?_
   . exact (HM.out.below HBC.out).alloc _
   . exact MX.out.alloc _
   . intro b hb hb'
     have h1:=HM.out.lt b hb;have h2:=RX.out b hb';omega
   . exact bk _ _ _
   . intro u hu
     simp at hu
     rw [hu];rfl
   intro g cap wA fpA m1 m2 m3;rw [HL.out] at m1 ⊢;rw [←HTK.out] at m1;have ya:Box wA BO 101 _:=(XOC.out.alloc _).turned m3 (fun hm=>by have:=HFP.out _ hm;omega);have ym:Box wA w.heap.size 101 _:=(XMC.out.alloc _).turned m3 (fun hm=>by have:=HFP.out _ hm;omega);have zB:(wc.alloc (.cells #[.slice ac x.length cc] 31)).heap.size=wc.heap.size+1:=by simp
   have hS5:wA.cell? ⟨BO,0,none⟩=some (v0)/\wA.cell? ⟨w.heap.size,0,none⟩=some (.slice (some ⟨b,off,none⟩) n0 c0)/\wA.cell? ⟨b,off+j,none⟩=some (.slice av x.length cv):=mk.out wA ya ym ((m3.block b (by omega) (fun hm=>by have:=HFP.out _ hm;omega)).trans (BB.out.block b (by omega)));have r0:=hS5.1;have fz:=ya.frozen 0;have YA:=aa ya;have M1:=aa m1;have M2:=aa m2;have M3:=aa m3;clear ya ym m1 m2 m3 zB;refine hK.out _ _ (fun _=>hS5) ?_
   clear hK K;simp only [Act.put,List.setIfInBounds_toArray,List.set_cons_zero,List.set_cons_succ]
   refine ah.t 11 hS5 ?_
   refine ah.one (i:=12) (by kernel_rfl) rfl (fun K hK=>?_)
   go_simp
   refine hK.out _ _ (fun h=>absurd rfl h) ?_
   clear hK K;refine ah.done (by kernel_rfl) ?_ _
   have hfA:=dC (N:=w6.heap.size) hs HBC.out HFP.out RX.out M2.out;have frA:=Fr.round FRR.out hs HBC.out _ M3.out HFP.out 0 (.slice (some ⟨g,0,none⟩) (j+1) cap);have mA:=M1.out.setCell (g:=BO) (j:=0) (fun hm=>by have:=hfA _ hm;omega) (.slice (some ⟨g,0,none⟩) (j+1) cap);have yA:=YA.out.set 0 (.slice (some ⟨g,0,none⟩) (j+1) cap);have HFA:=aa hfA;have FRA:=aa frA;have MA:=aa mA;have YA':=aa yA;clear hfA frA mA yA hS hS2 hS3 hS4 hS5 r0 YA M1 M2 M3 XOC MX RX HBC HFP HM FRR XO XMR XMC BA BB mk HG RD HX;go_wp2
   go_roundw
   case rel=>exact ⟨j+1,_,fpA,by omega,by go_num,FRA.out,YA'.out,MA.out,HFA.out⟩
   case measure=>simp [intOf];omega
 have e:n0=j:=by omega
 subst e;rw [List.take_of_length_le (by omega)] at hm;have hlt:=hm.lt;have GR:=aa (fr.box FR.out (by omega) (by omega));have GM:=aa xm;have GB:=aa hb;have G3:=aa (fr.mine F3.out (fun b hb=>by have:=fs3 b hb;omega));have G0:=aa (hm.own (lo:=w6.heap.size) (hi:=wr.heap.size) (fun b hb=>⟨hfp b hb,hlt b hb⟩));have GO:=aa xo;clear fr xo xm hb hm hfp hlt FM FO F3 FB FR;go_wp2
 generalize wr=w7 at hs GM GR GB G3 G0 GO q0 q1 q2 q3 ⊢;go_loopw [5] (fun i wr=>∃(j:Nat) (v1:Value) (fp1:List Nat),j<=n1/\i=.int .i64 j/\Fr w7.heap.size BO w7 wr/\Box wr BO 101 #[v0,v1,.bool f,.slice a5 n3 c5]/\(aU 171).Mine wr [v1] (cs.take j) fp1/\(∀b∈fp1,w7.heap.size<=b)) (fun i _=>n1-(intOf i).toNat)
 case atStart=>exact ⟨0,_,[],Nat.zero_le _,rfl,Fr.refl _ _ _,GO.out,dc _,by simp⟩
 obtain ⟨j,v1,fp1,hj,rfl,fr,xo,hm,hfp⟩:=hrel;have hs2:=fr.size;have xm:=fr.box GM.out (by omega) (by omega);have hb:=GB.out.trans (fr.below (M:=w.heap.size) (by omega) (by omega));clear q0 q1 q2 q3;obtain ⟨q0,q1,q2,q3⟩:=xm.cells4;by_cases hjn:j<n1
 . rcases cY rfl h1 with h0'|⟨b,off,rfl,hbl,hcs⟩
   . omega
   have hdj:cs[j]?=some (cs[j]'(by omega)):=List.getElem?_eq_getElem (by omega);have htk:cs.take (j+1)=cs.take j++[cs[j]'(by omega)]:=List.take_succ_eq_append_getElem (by omega);generalize cs[j]'(by omega)=x at hdj htk;have hil:=cE hdj;obtain ⟨u0,u1,hv0,hv1,hrv⟩:=hcs j x hdj;obtain ⟨rfl,hrv'⟩:=eI hrv;obtain ⟨av,cv,rfl⟩:=az hrv';have pv0:=(hb.cell (p:=⟨b,off+j*2,none⟩) hbl).trans hv0;have pv1:=(hb.cell (p:=⟨b,off+j*2+1,none⟩) hbl).trans hv1;obtain ⟨x0,x1⟩:=x;simp only at pv0 pv1 hrv' hil
   have HX:=aa (hrv'.below hb);have k1:(0:Int)<=(j:Int):=by omega
   have k2:(j:Int)<(n1:Int):=by omega
   have HTK:=aa htk;have XO:=aa xo;have XMR:=aa xm;have FRR:=aa fr;have HM:=aa hm;have HFP:=aa hfp;have HL:Hid ((cs.take j).length=j):=by unfold Hid;rw [List.length_take];omega
   have L1:Hid ((cs.take j).length+1<=maxLen):=by unfold Hid;rw [HL.out];unfold maxLen;omega
   have L2:Hid (((cs.take j).length+1)*32<=140737488355328):=by unfold Hid;rw [HL.out];omega
   have mk:Hid (∀w',Box w' BO 101 #[v0,v1,.bool f,.slice a5 n3 c5]->Box w' w.heap.size 101 #[.slice a0 n0 c0,.slice (some ⟨b,off,none⟩) n1 c1,.bool f,.slice a3 n3 c3]->w'.heap[b]?=wr.heap[b]?->w'.cell? ⟨BO,1,none⟩=some (v1)/\w'.cell? ⟨w.heap.size,1,none⟩=some (.slice (some ⟨b,off,none⟩) n1 c1)/\w'.cell? ⟨b,off+j*2,none⟩=some (.int .i64 x0)/\w'.cell? ⟨b,off+j*2+1,none⟩=some (.slice av x1.length cv)):=fun w' e1 e2 e3=>⟨e1.cell 1,e2.cell 1,(World.cell?_of_block e3).trans pv0,(World.cell?_of_block e3).trans pv1⟩;have bA:Below wr.heap.size wr (wr.alloc (.cells #[] 3)):=(Below.refl _ _).alloc (Nat.le_refl _) _;have hS:wr.drew.cell? ⟨BO,1,none⟩=some (v1)/\wr.drew.cell? ⟨w.heap.size,1,none⟩=some (.slice (some ⟨b,off,none⟩) n1 c1)/\wr.drew.cell? ⟨b,off+j*2,none⟩=some (.int .i64 x0)/\wr.drew.cell? ⟨b,off+j*2+1,none⟩=some (.slice av x1.length cv):=mk.out wr.drew xo xm rfl;have hS2:(wr.alloc (.cells #[] 3)).drew.cell? ⟨BO,1,none⟩=some (v1)/\(wr.alloc (.cells #[] 3)).drew.cell? ⟨w.heap.size,1,none⟩=some (.slice (some ⟨b,off,none⟩) n1 c1)/\(wr.alloc (.cells #[] 3)).drew.cell? ⟨b,off+j*2,none⟩=some (.int .i64 x0)/\(wr.alloc (.cells #[] 3)).drew.cell? ⟨b,off+j*2+1,none⟩=some (.slice av x1.length cv):=mk.out (wr.alloc (.cells #[] 3)).drew (xo.alloc _) (xm.alloc _) (bA.block b (by omega));have HG:Hid ((wr.alloc (.cells #[] 3)).drew.heap[wr.heap.size]?=some (.cells #[] 3 (0,0))):=Box.new wr 3 #[];have RD:Hid (aA.Rd (wr.alloc (.cells #[] 3)).drew [.slice av x1.length cv] x1):=(HX.out.below bA).drew;have BA:=aa bA;clear hcs hdj hv0 hv1 hrv hrv' htk xo xm hm hfp hb fr pv0 pv1 bA;go_wp2_with fail
   refine ah.start (S:=fun w'=>w'.cell? ⟨BO,1,none⟩=some (v1)/\w'.cell? ⟨w.heap.size,1,none⟩=some (.slice (some ⟨b,off,none⟩) n1 c1)/\w'.cell? ⟨b,off+j*2,none⟩=some (.int .i64 x0)/\w'.cell? ⟨b,off+j*2+1,none⟩=some (.slice av x1.length cv)) (k:=20) (by kernel_rfl) ?_
   refine ah.t 0 hS ?_
   refine ah.t 1 hS ?_
   refine ah.t 2 hS ?_
   refine ah.t 3 hS ?_
   refine ah.t 4 hS ?_
   refine ah.t 5 hS ?_
   refine ah.t 6 hS ?_
   refine ah.t 7 hS ?_
   refine ah.t 9 hS ?_
   refine ah.t 10 hS ?_
   refine ah.t 11 hS ?_
   refine ah.t 12 hS ?_
   refine ah.t 13 hS ?_
   refine ah.t 14 hS ?_
   refine ah.one (i:=8) (by kernel_rfl) rfl (fun K hK=>?_)
   go_simp
   refine hK.out _ _ (fun _=>hS2) ?_
   clear hK K;refine ah.one (i:=15) (by kernel_rfl) rfl (fun K hK=>?_)
   refine dL (by rfl) _ _ 31 (by rfl) i3 Tryz.underlying31 hi3 hx0 hx1 hx2 wr.heap.size (by rfl) HG.out av x1.length cv x1 (by rfl) RD.out (by omega) ?_
   intro ac cc wc fpx mx rx tx;have tx':aw [wr.heap.size] (wr.alloc (.cells #[] 3)) wc:=aw.undrew tx;have zA:(wr.alloc (.cells #[] 3)).heap.size=wr.heap.size+1:=by simp
   have zd:(wr.alloc (.cells #[] 3)).drew.heap.size=(wr.alloc (.cells #[] 3)).heap.size:=rfl;have hbc':Below wr.heap.size wr wc:=BA.out.trans (tx'.below (N:=wr.heap.size) (by omega) (by simp));have xoc:Box wc BO 101 _:=XO.out.below hbc' (by omega);have xmc:Box wc w.heap.size 101 _:=XMR.out.below hbc' (by omega);have hS3:wc.cell? ⟨BO,1,none⟩=some (v1)/\wc.cell? ⟨w.heap.size,1,none⟩=some (.slice (some ⟨b,off,none⟩) n1 c1)/\wc.cell? ⟨b,off+j*2,none⟩=some (.int .i64 x0)/\wc.cell? ⟨b,off+j*2+1,none⟩=some (.slice av x1.length cv):=mk.out wc xoc xmc (hbc'.block b (by omega));have bB:Below wc.heap.size wc (wc.alloc (.cells #[.int .i64 x0,.slice ac x1.length cc] 171)):=(Below.refl _ _).alloc (Nat.le_refl _) _;have zc:=hbc'.size;have hS4:(wc.alloc (.cells #[.int .i64 x0,.slice ac x1.length cc] 171)).cell? ⟨BO,1,none⟩=some (v1)/\(wc.alloc (.cells #[.int .i64 x0,.slice ac x1.length cc] 171)).cell? ⟨w.heap.size,1,none⟩=some (.slice (some ⟨b,off,none⟩) n1 c1)/\(wc.alloc (.cells #[.int .i64 x0,.slice ac x1.length cc] 171)).cell? ⟨b,off+j*2,none⟩=some (.int .i64 x0)/\(wc.alloc (.cells #[.int .i64 x0,.slice ac x1.length cc] 171)).cell? ⟨b,off+j*2+1,none⟩=some (.slice av x1.length cv):=mk.out _ (xoc.alloc _) (xmc.alloc _) ((bB.block b (by omega)).trans (hbc'.block b (by omega)));have RX:Hid (∀b∈fpx,wr.heap.size<=b/\b<wc.heap.size):=fun b hb=>by have:=rx b hb;omega
   have XOC:=aa xoc;have XMC:=aa xmc;have MX:=aa mx;have HBC:=aa hbc';have BB:=aa (Below.andThen hbc' bB);clear xoc xmc mx rx tx tx' hbc' bB zA zd;refine hK.out _ _ (fun _=>hS3) ?_
   clear hK K;simp only [Act.put,List.setIfInBounds_toArray,List.set_cons_zero,List.set_cons_succ]
   refine ah.t 16 hS3 ?_
   refine ah.one (i:=17) (by kernel_rfl) rfl (fun K hK=>?_)
   go_simp
   refine hK.out _ _ (fun _=>hS4) ?_
   clear hK K;refine ah.one (i:=18) (by kernel_rfl) rfl (fun K hK=>?_)
   refine cF tWr (by rfl) _ _ 99 (by rfl) 171 i1 (.agg #[.int .i64 0,.slice none 0 0]) 32 Tryz.underlying99 hi1 hy0 hy1 hy2 rfl Nat.zero_lt_two v1 (cs.take j) fp1 (by rfl) ?_ ⟨wc.heap.size,0,none⟩ 1 [.int .i64 x0,.slice ac x1.length cc] (x0,x1) fpx (by rfl) ?_ ?_ ?_ ?_ L1.out L2.out ?_
   . exact (HM.out.below HBC.out).alloc _
   . exact (dK x0 MX.out).alloc _
   . intro b hb hb'
     have h1:=HM.out.lt b hb;have h2:=RX.out b hb';omega
   . exact bk _ _ _
   . intro u hu
     simp at hu
     rcases hu with hu|hu<;>(rw [hu];rfl)
   intro g cap wA fpA m1 m2 m3;rw [HL.out] at m1 ⊢;rw [←HTK.out] at m1;have ya:Box wA BO 101 _:=(XOC.out.alloc _).turned m3 (fun hm=>by have:=HFP.out _ hm;omega);have ym:Box wA w.heap.size 101 _:=(XMC.out.alloc _).turned m3 (fun hm=>by have:=HFP.out _ hm;omega);have zB:(wc.alloc (.cells #[.int .i64 x0,.slice ac x1.length cc] 171)).heap.size=wc.heap.size+1:=by simp
   have hS5:wA.cell? ⟨BO,1,none⟩=some (v1)/\wA.cell? ⟨w.heap.size,1,none⟩=some (.slice (some ⟨b,off,none⟩) n1 c1)/\wA.cell? ⟨b,off+j*2,none⟩=some (.int .i64 x0)/\wA.cell? ⟨b,off+j*2+1,none⟩=some (.slice av x1.length cv):=mk.out wA ya ym ((m3.block b (by omega) (fun hm=>by have:=HFP.out _ hm;omega)).trans (BB.out.block b (by omega)));have r0:=hS5.1;have fz:=ya.frozen 1;have YA:=aa ya;have M1:=aa m1;have M2:=aa m2;have M3:=aa m3;clear ya ym m1 m2 m3 zB;refine hK.out _ _ (fun _=>hS5) ?_
   clear hK K;simp only [Act.put,List.setIfInBounds_toArray,List.set_cons_zero,List.set_cons_succ]
   refine ah.t 19 hS5 ?_
   refine ah.one (i:=20) (by kernel_rfl) rfl (fun K hK=>?_)
   go_simp
   refine hK.out _ _ (fun h=>absurd rfl h) ?_
   clear hK K;refine ah.done (by kernel_rfl) ?_ _
   have hfA:=dC (N:=w7.heap.size) hs2 HBC.out HFP.out RX.out M2.out;have frA:=Fr.round FRR.out hs2 HBC.out _ M3.out HFP.out 1 (.slice (some ⟨g,0,none⟩) (j+1) cap);have mA:=M1.out.setCell (g:=BO) (j:=1) (fun hm=>by have:=hfA _ hm;omega) (.slice (some ⟨g,0,none⟩) (j+1) cap);have yA:=YA.out.set 1 (.slice (some ⟨g,0,none⟩) (j+1) cap);have HFA:=aa hfA;have FRA:=aa frA;have MA:=aa mA;have YA':=aa yA;clear hfA frA mA yA hS hS2 hS3 hS4 hS5 r0 YA M1 M2 M3 XOC MX RX HBC HFP HM FRR XO XMR XMC BA BB mk HG RD HX;go_wp2
   go_roundw
   case rel=>exact ⟨j+1,_,fpA,by omega,by go_num,FRA.out,YA'.out,MA.out,HFA.out⟩
   case measure=>simp [intOf];omega
 have e:n1=j:=by omega
 subst e;rw [List.take_of_length_le (by omega)] at hm;have hlt:=hm.lt;have xr:=fr.box GR.out (by omega) (by omega);obtain ⟨p0,p1,p2,p3⟩:=xr.cells4;have fz:=xr.frozen;obtain ⟨r0,r1,r2,r3⟩:=xo.cells4;have K3:=fr.mine G3.out (fun b hb=>by have:=fs3 b hb;omega);have K0:=fr.own G0.out (by omega) (by omega);have K1:=hm.own (lo:=w7.heap.size) (hi:=wr.heap.size) (fun b hb=>⟨hfp b hb,hlt b hb⟩);have KB:=GB.out.trans (fr.below (M:=w.heap.size) (by omega) (by omega));obtain ⟨e0,g0,hv0⟩:=az K0.rd;obtain ⟨e1,g1,hv1⟩:=az K1.rd;rw [hl0] at hv0;rw [hl1] at hv1;subst hv0 hv1;have hbt:But (w.heap.size+1) (w.heap.size+2) wr ((((wr.setCell ⟨w.heap.size+1,0,none⟩ (.slice e0 n0 g0)).setCell ⟨w.heap.size+1,1,none⟩ (.slice e1 n1 g1)).setCell ⟨w.heap.size+1,2,none⟩ (.bool f)).setCell ⟨w.heap.size+1,3,none⟩ (.slice a5 n3 c5)):=
  (((But.setCell (by omega) (by omega) _).trans (But.setCell (by omega) (by omega) _)).trans (But.setCell (by omega) (by omega) _)).trans (But.setCell (by omega) (by omega) _)
 have H3:=aa ((K3.but hbt (fun b hb=>by have:=fs3 b hb;omega)).own (lo:=w.heap.size) (hi:=w6.heap.size) (fun b hb=>by have:=fs3 b hb;omega));have H0:=aa (K0.but hbt (by omega));have H1:=aa (K1.but hbt (by omega));have HB:=aa (Below.andBut KB hbt (by omega));have hsz:=hbt.size;clear fr xo xm hb hm hfp hlt xr K3 K0 K1 KB hbt GM GR GB G3 G0 GO;go_wp2
 refine bodyPost_ret (v:=.agg #[.slice e0 n0 g0,.slice e1 n1 g1,.bool f,.slice a5 n3 c5]) (by simp [results,Tryz.results169,go_sem,p0,p1,p2,p3]) rfl ?_
 exact ⟨_,_,_,w6.heap.size,w7.heap.size,rfl,H3.out,H0.out,H1.out.widen (Nat.le_refl _) hsz,by omega,by omega,by omega,HB.out⟩
theorem cQ {w w':World} {e:Ending} {n0 n1 n3:Nat} {ss:List (List Int)} {cs:List (Int×List Int)} {f:Bool} {bs:List Int} (hl0:ss.length=n0) (hl1:cs.length=n1) (hl3:bs.length=n3)
 (h:∃v0 v1 v3 m1 m2,e=.returned (.agg #[v0,v1,.bool f,v3])/\aA.Own w' w.heap.size m1 [v3] bs/\aT.Own w' m1 m2 [v0] ss/\(aU 171).Own w' m2 w'.heap.size [v1] cs/\m1<=m2/\w.heap.size<=m1/\m2<=w'.heap.size/\Below w.heap.size w w'):
 ∃b0 b1 b3 e0 e1 e3 m1 m2,e=.returned (.agg #[.slice b0 n0 e0,.slice b1 n1 e1,.bool f,.slice b3 n3 e3])/\aA.Own w' w.heap.size m1 [.slice b3 n3 e3] bs/\aT.Own w' m1 m2 [.slice b0 n0 e0] ss/\(aU 171).Own w' m2 w'.heap.size [.slice b1 n1 e1] cs/\m1<=m2/\w.heap.size<=m1/\m2<=w'.heap.size/\Below w.heap.size w w':=by
 obtain ⟨v0,v1,v3,m1,m2,rfl,o3,o0,o1,r⟩:=h;obtain ⟨b0,e0,hv0⟩:=az o0.rd;obtain ⟨b1,e1,hv1⟩:=az o1.rd;obtain ⟨b3,e3,hv3⟩:=az o3.rd;rw [hl0] at hv0;rw [hl1] at hv1;rw [hl3] at hv3;subst hv0 hv1 hv3;exact ⟨b0,b1,b3,e0,e1,e3,m1,m2,rfl,o3,o0,o1,r⟩
theorem iI (w:World) (E:TypeId) (a0 a1 a3:Option Addr) (n0 c0 n1 c1 n3 c3:Nat) (ss:List (List Int)) (cs:List (Int×List Int)) (f:Bool) (bs:List Int) (h0:aT.Rd w [.slice a0 n0 c0] ss) (h1:(aU E).Rd w [.slice a1 n1 c1] cs) (h3:aA.Rd w [.slice a3 n3 c3] bs) (hw:aQ (ss,cs,f,bs)<=2097152):
 Calls Tryz.prog 195 #[.agg #[.slice a0 n0 c0,.slice a1 n1 c1,.bool f,.slice a3 n3 c3]] w fun e w'=>∃v0 v1 v3,e=.returned (.agg #[v0,v1,.bool true,v3])/\(bR 171).Own w' w.heap.size w'.heap.size [v0,v1,.bool true,v3] (ss,[],true,bs)/\Below w.heap.size w w':=by
 obtain ⟨hl0,_,hm0⟩:=af h0;obtain ⟨hl1,_,hm1⟩:=af h1;obtain ⟨hl3,_,hm3⟩:=af h3;have hA:Below w.heap.size w ((w.alloc (.cells #[.slice a0 n0 c0,.slice a1 n1 c1,.bool f,.slice a3 n3 c3] 101)).alloc (.cells #[.slice none 0 0,.slice none 0 0,.bool false,.slice none 0 0] 101)):=((Below.refl _ _).alloc (Nat.le_refl _) _).alloc (by simp) _;have xr:Box ((w.alloc (.cells #[.slice a0 n0 c0,.slice a1 n1 c1,.bool f,.slice a3 n3 c3] 101)).alloc (.cells #[.slice none 0 0,.slice none 0 0,.bool false,.slice none 0 0] 101)) (w.heap.size+1) 101 #[.slice none 0 0,.slice none 0 0,.bool false,.slice none 0 0]:=by
  have:=Box.new (w.alloc (.cells #[.slice a0 n0 c0,.slice a1 n1 c1,.bool f,.slice a3 n3 c3] 101)) 101 #[.slice none 0 0,.slice none 0 0,.bool false,.slice none 0 0];rw [show (w.alloc (.cells #[.slice a0 n0 c0,.slice a1 n1 c1,.bool f,.slice a3 n3 c3] 101)).heap.size=w.heap.size+1 by simp] at this;exact this
 go_enter Tryz.func195,Tryz.ntmps195
 go_wp2_with fail
 generalize hW:(w.alloc (.cells #[.slice a0 n0 c0,.slice a1 n1 c1,.bool f,.slice a3 n3 c3] 101)).alloc (.cells #[.slice none 0 0,.slice none 0 0,.bool false,.slice none 0 0] 101)=W at hA xr ⊢;clear hW;have zr:=xr.lt;refine (en _ E _ _ _ _ _ _ _ _ _ ss cs f bs (h0.below hA) (h1.below hA) (h3.below hA) hw).mono ?_
 intro e w1 hc;obtain ⟨b0,b1,b3,e0,e1,e3,m1,m2,rfl,o3,o0,o1,r1,r2,r3,bb⟩:=cQ hl0 hl1 hl3 hc;clear hc;have z1:=bb.size;have ba:Below w1.heap.size w1 ((w1.alloc (.cells #[.slice b0 n0 e0,.slice (some ⟨w1.heap.size+1,0,none⟩) 0 0,.bool true,.slice b3 n3 e3] 101)).alloc (.cells #[] 171)):=((Below.refl _ _).alloc (Nat.le_refl _) _).alloc (by simp) _;have sW:w.heap.size+2<=W.heap.size:=by omega
 have yr:=(xr.below bb zr).below ba (by omega);have k0:=o0.below ba;have k3:=o3.below ba;have kb:=hA.trans ((bb.mono (by omega:w.heap.size<=W.heap.size)).trans (ba.mono (by omega)));have kl:(aU 171).Own ((w1.alloc (.cells #[.slice b0 n0 e0,.slice (some ⟨w1.heap.size+1,0,none⟩) 0 0,.bool true,.slice b3 n3 e3] 101)).alloc (.cells #[] 171)) (w1.heap.size+1) (w1.heap.size+2) [.slice (some ⟨w1.heap.size+1,0,none⟩) 0 0] []:=by
  have:=dJ (t:=tWr) (E:=171) (w1.alloc (.cells #[.slice b0 n0 e0,.slice (some ⟨w1.heap.size+1,0,none⟩) 0 0,.bool true,.slice b3 n3 e3] 101));rw [show (w1.alloc (.cells #[.slice b0 n0 e0,.slice (some ⟨w1.heap.size+1,0,none⟩) 0 0,.bool true,.slice b3 n3 e3] 101)).heap.size=w1.heap.size+1 by simp] at this;exact this.own (fun b hb=>by simp at hb;omega)
 have HZ:Hid (((w1.alloc (.cells #[.slice b0 n0 e0,.slice (some ⟨w1.heap.size+1,0,none⟩) 0 0,.bool true,.slice b3 n3 e3] 101)).alloc (.cells #[] 171)).heap.size=w1.heap.size+2):=by unfold Hid;simp
 obtain ⟨p0,p1,p2,p3⟩:=yr.cells4;have fz:=yr.frozen;clear o0 o1 o3;go_wp2
 generalize ((w1.alloc (.cells #[.slice b0 n0 e0,.slice (some ⟨w1.heap.size+1,0,none⟩) 0 0,.bool true,.slice b3 n3 e3] 101)).alloc (.cells #[] 171))=w2 at ba yr k0 k3 kb kl HZ p0 p1 p2 p3 fz ⊢;have z2:=HZ.out;have hbt:But (w.heap.size+1) (w.heap.size+2) w2 ((((w2.setCell ⟨w.heap.size+1,0,none⟩ (.slice b0 n0 e0)).setCell ⟨w.heap.size+1,1,none⟩ (.slice (some ⟨w1.heap.size+1,0,none⟩) 0 0)).setCell ⟨w.heap.size+1,2,none⟩ (.bool true)).setCell ⟨w.heap.size+1,3,none⟩ (.slice b3 n3 e3)):=
  (((But.setCell (by omega) (by omega) _).trans (But.setCell (by omega) (by omega) _)).trans (But.setCell (by omega) (by omega) _)).trans (But.setCell (by omega) (by omega) _)
 have z3:=hbt.size;refine bodyPost_ret (v:=.agg #[.slice b0 n0 e0,.slice (some ⟨w1.heap.size+1,0,none⟩) 0 0,.bool true,.slice b3 n3 e3]) (by simp [results,Tryz.results195,go_sem,p0,p1,p2,p3]) rfl ?_
 refine ⟨_,_,_,rfl,ch (k0.but hbt (by omega)) (kl.but hbt (by omega)) (k3.but hbt (by omega)) (by omega) (by omega) (by omega) (by omega) (by omega) (by omega),Below.andBut kb hbt (by omega)⟩
end Go.Proofs.YtejeekndbnpmoaaGreat

namespace Go.Proofs.YtejeekndbnpmoaaGreat
open Go.RowKit Go.Maps
def iO (v:Value):Option (DataW Value×List MemPlace):=some (.held v,[])
def cT (l:List (Int×List Int)) (q:Int):Option (List Int):=l.foldl (fun acc x=>if x.1=q then some x.2 else acc) none
theorem jx (l:List (Int×List Int)) (x:Int×List Int) (q:Int):cT (l++[x]) q=if x.1=q then some x.2 else cT l q:=by
 unfold cT;rw [List.foldl_append];rfl
def gG (w:World) (l:List (Int×List Int)) (D:DataW Value):Prop:=
 ∀q:Int,(cT l q=none->Maps.has D (.int .i64 q)=false)/\∀zs,cT l q=some zs->Maps.has D (.int .i64 q)=true/\∃a n cap,(∀z,D.atKey (.int .i64 q) z=.held (.agg #[.int .i64 q,.slice a n cap]))/\aA.Rd w [.slice a n cap] zs
theorem gG.nil (w:World):gG w [] (.map []):=fun q=>⟨fun _=>rfl,fun zs h=>by simp [cT] at h⟩
theorem gG.step {w:World} {l:List (Int×List Int)} {D:DataW Value} (h:gG w l D) (hD:IsMap D) (x0:Int) (x1:List Int) (a:Option Addr) (n cap:Nat) (hr:aA.Rd w [.slice a n cap] x1):
 gG w (l++[(x0,x1)]) (D.put (.int .i64 x0) (.held (.agg #[.int .i64 x0,.slice a n cap]))):=by
 intro q;rw [jx];by_cases hq:x0=q
 . subst hq
   simp only [if_true]
   refine ⟨fun e=>by simp at e,fun zs e=>?_⟩
   simp at e
   subst e;have hk:WideAt.IsKeyLit (.int .i64 x0):=trivial;exact ⟨has_put_same hD hk _,a,n,cap,fun z=>atKey_put_same hD hk _ _,hr⟩
 simp only [hq,if_false]
 have hne:(Lit.int .i64 q)≠Lit.int .i64 x0:=fun e=>by simp at e;exact hq e.symm
 refine ⟨fun e=>?_,fun zs e=>?_⟩
 . rw [has_put_other hne]
   exact (h q).1 e
 obtain ⟨h1,a',n',c',h2,h3⟩:=(h q).2 zs e;exact ⟨by rw [has_put_other hne];exact h1,a',n',c',fun z=>by rw [atKey_put_other hne];exact h2 z,h3⟩
theorem oS:Keyed Tryz.prog 3:=int_keyed Tryz.underlying3
theorem sN (w0 w:World) (hb0:Below w0.heap.size w0 w) (E:TypeId) (a:Option Addr) (n cap:Nat) (d:List (Int×List Int)) (h:(aU E).Rd w0 [.slice a n cap] d) (hn:n<=2097152) (hd:∀x∈d,0<=x.1/\x.1<=20):
 Calls Tryz.prog 279 #[.slice a n cap] w fun e w'=>e=.returned (.map (some w.heap.size))/\Below w.heap.size w w'/\∃D,w'.ownsMap Tryz.prog 3 iO w.heap.size n D/\gG w0 d D:=by
 obtain ⟨hl,hc,hm⟩:=af h;have hmm:=@run_makeMap Tryz.prog;go_enter Tryz.func279,Tryz.ntmps279
 go_wp2
 clear hmm;go_loopw [9] (fun i wr=>∃j:Nat,j<=n/\i=.int .i64 j/\Below w.heap.size w wr/\∃D,wr.ownsMap Tryz.prog 3 iO w.heap.size j D/\gG w0 (d.take j) D) (fun i _=>n-(intOf i).toNat)
 case atStart=>exact ⟨0,Nat.zero_le _,rfl,(Below.refl _ _).alloc (Nat.le_refl _) _,_,World.ownsMap_made _ _ _ _,gG.nil _⟩
 obtain ⟨j,hj,rfl,hb,D,ho,hL⟩:=hrel;by_cases hjn:j<n
 . rcases cY rfl h with h0'|⟨b,off,rfl,hbl,hcs⟩
   . omega
   have hdj:d[j]?=some (d[j]'(by omega)):=List.getElem?_eq_getElem (by omega);have hmem:d[j]'(by omega)∈d:=List.getElem_mem _;have htk:d.take (j+1)=d.take j++[d[j]'(by omega)]:=List.take_succ_eq_append_getElem (by omega);generalize d[j]'(by omega)=x at hdj hmem htk;have hx:=hd x hmem;obtain ⟨v0,v1,hv0,hv1,hrv⟩:=hcs j x hdj;obtain ⟨rfl,hrv'⟩:=eI hrv;obtain ⟨av,cv,rfl⟩:=az hrv';have hbr:=hb0.trans (hb.mono hb0.size);have p0:=(hbr.cell (p:=⟨b,off+j*2,none⟩) hbl).trans hv0;have p1:=(hbr.cell (p:=⟨b,off+j*2+1,none⟩) hbl).trans hv1;clear hbr;obtain ⟨x0,x1⟩:=x;simp only at p0 p1 hrv' hx
   have HL:=aa (hL.step ho.isMap x0 x1 av x1.length cv hrv');have HK:=aa (htk);have HO:=aa (ho.alloc (.cells #[.int .i64 x0,.slice av x1.length cv] 171));have hkey:keyOf Tryz.prog 3 (.int .i64 x0)=some (.int .i64 x0):=keyOf_int_mk Tryz.underlying3 (WalkArith.wf_i64 (by omega));have HKEY:=aa hkey;have HB:=aa (hb.alloc hb.size (.cells #[.int .i64 x0,.slice av x1.length cv] 171));clear hcs hdj hv0 hv1 hrv hrv' hmem htk ho hL hkey;go_wp2_with (at_mapUpdate;refine wpList_mapUpdate_own _ rfl _ _ _ 210 rfl 3 171 oS Tryz.underlying210 iO w.heap.size j D rfl ?_ ?_ _ _ (.int .i64 x0) rfl rfl ?_ (.held (.agg #[.int .i64 x0,.slice av x1.length cv])) [] rfl ?_;exact HO.out;unfold maxLen;omega;exact HKEY.out;intro w1 hown1 hgrow1;have HO1:=aa hown1;have HG1:=aa hgrow1;clear hown1 hgrow1)
   have hB1:Below w.heap.size w w1:=HB.out.grown HG1.out HB.out.size (fun k hk=>by cases hk;exact Nat.le_refl _);clear HB HG1 HO hb;go_roundw
   case rel=>exact ⟨j+1,by omega,by go_num,hB1,_,HO1.out,by rw [HK.out];exact HL.out⟩
   case measure=>simp [intOf];omega
 have e:j=n:=by omega
 subst e;rw [List.take_of_length_le (by omega)] at hL;go_wp2
 go_ret
 exact ⟨rfl,hb,D,ho,hL⟩
theorem vj {q:Int} (h0:0<=q) (h1:q<=2097152):keyOf Tryz.prog 3 (.int .i64 q)=some (.int .i64 q):=keyOf_int_mk Tryz.underlying3 (WalkArith.wf_i64 (by omega))
theorem tL (w:World):(zeroValue 171).run Tryz.prog w=.ok (.agg #[.int .i64 0,.slice none 0 0]) w:=by kernel_rfl
end Go.Proofs.YtejeekndbnpmoaaGreat

namespace Go.Proofs.YtejeekndbnpmoaaGreat
open Go.RowKit

theorem lJ {ss:List (List Int)} {cs:List (Int×List Int)} {bs:List Int} (h:bp ss cs bs=true):∀x∈cs,0<=x.1/\x.1<=20:=by
 unfold bp at h;simp only [Bool.and_eq_true,List.all_eq_true] at h
 obtain ⟨_,h2,_,h4,_⟩:=h;intro x hx;have h5:=h2 x hx;unfold wrB inB at h5;unfold inB at h4;simp at h4 h5
 omega
theorem jM {ss:List (List Int)} {cs:List (Int×List Int)} {bs:List Int} (h:bp ss cs bs=true):ss.length<=20:=by
 unfold bp at h;simp only [Bool.and_eq_true] at h
 obtain ⟨_,_,_,h4,_⟩:=h;unfold inB at h4;simp at h4
 omega
theorem nT (q:Int) (zs:List Int):∀(l:List (Int×List Int)) (acc:Option (List Int)),l.foldl (fun acc x=>if x.1=q then some x.2 else acc) acc=some zs->acc=some zs∨(q,zs)∈l
 | [],acc,h=>.inl h
 | x :: l,acc,h=>by
  rw [List.foldl_cons] at h;rcases nT q zs l _ h with h1|h1
  . by_cases hx:x.1=q
    . rw [if_pos hx] at h1
      simp at h1
      right
      rw [←hx,←h1];exact List.mem_cons_self
    rw [if_neg hx] at h1;exact .inl h1
  exact .inr (List.mem_cons_of_mem _ h1)
theorem km {l:List (Int×List Int)} {q:Int} {zs:List Int} (h:cT l q=some zs):(q,zs)∈l:=by
 rcases nT q zs l none h with h1|h1
 . simp at h1
 exact h1
theorem tM {l:List (Int×List Int)} {q:Int} {zs:List Int} {N:Nat} (hw:bh l<=N) (h:cT l q=some zs):zs.length<=N:=by
 obtain ⟨j,hj⟩:=List.mem_iff_getElem?.1 (km h);exact Nat.le_trans (cE hj) hw
theorem nj {ss:List (List Int)} {cs:List (Int×List Int)} {bs:List Int} (h:bp ss cs bs=true):∀x∈cs,∃q:Nat,x.1=(q:Int)/\q<ss.length:=by
 unfold bp at h;simp only [Bool.and_eq_true,List.all_eq_true] at h
 obtain ⟨_,h2,_⟩:=h;intro x hx;have h5:=h2 x hx;unfold wrB inB at h5;simp at h5
 exact ⟨x.1.toNat,by omega,by omega⟩
theorem tN {ss:List (List Int)} {cs:List (Int×List Int)} {bs:List Int} (h:bp ss cs bs=true):0<ss.length:=by
 unfold bp at h;simp only [Bool.and_eq_true] at h
 obtain ⟨_,_,_,h4,_⟩:=h;unfold inB at h4;simp at h4
 omega
theorem gT {ss:List (List Int)} {cs:List (Int×List Int)} {bs:List Int} (h:bp ss cs bs=true):(∀x∈ss,x.length<=12)/\∀x∈cs,x.2.length<=12:=by
 unfold bp at h;simp only [Bool.and_eq_true,List.all_eq_true] at h
 obtain ⟨h1,h2,_⟩:=h;refine ⟨fun x hx=>?_,fun x hx=>?_⟩
 . have:=h1 x hx
   unfold da at this;simp at this
   omega
 have:=h2 x hx;unfold wrB da at this;simp at this
 omega
def dr (ss:List (List Int)) (ks:List (Int×List Int)):List (List Int):=(List.range ss.length).map fun (k:Nat)=>(cT ks (k:Int)).getD (ss.getD k [])
def fY (ss:List (List Int)) (ks:List (Int×List Int)) (j:Nat):List (List Int):=(List.range ss.length).map fun (k:Nat)=>if k<j then (cT ks (k:Int)).getD (ss.getD k []) else ss.getD k []
theorem cI (ss:List (List Int)) (ks:List (Int×List Int)):(dr ss ks).length=ss.length:=by unfold dr;simp
theorem dt (ss:List (List Int)) (ks:List (Int×List Int)) (j:Nat):(fY ss ks j).length=ss.length:=by unfold fY;simp
theorem il {ss:List (List Int)} {ks:List (Int×List Int)} {k:Nat} (h:k<ss.length):(dr ss ks)[k]?=some ((cT ks (k:Int)).getD (ss.getD k [])):=by
 unfold dr;rw [List.getElem?_map,List.getElem?_range h];rfl
theorem fO {ss:List (List Int)} {ks:List (Int×List Int)} {j k:Nat} (h:k<ss.length):(fY ss ks j)[k]?=some (if k<j then (cT ks (k:Int)).getD (ss.getD k []) else ss.getD k []):=by
 unfold fY;rw [List.getElem?_map,List.getElem?_range h];rfl
theorem dE {α:Type} {l m:List α} {n:Nat} (hl:l.length=n) (hm:m.length=n) (h:∀k,k<n->l[k]?=m[k]?):l=m:=by
 apply List.ext_getElem?
 intro k;by_cases hk:k<n
 . exact h k hk
 rw [List.getElem?_eq_none (by omega),List.getElem?_eq_none (by omega)]
theorem kp {ss:List (List Int)} {k:Nat} (h:k<ss.length):ss[k]?=some (ss.getD k []):=by
 rw [List.getD_eq_getElem?_getD,List.getElem?_eq_getElem h];rfl
theorem qL (ss:List (List Int)):dr ss []=ss:=by
 refine dE (cI _ _) rfl (fun k hk=>?_)
 rw [il hk,kp hk];rfl
theorem qM (ss:List (List Int)) (ks:List (Int×List Int)):fY ss ks 0=ss:=by
 refine dE (dt _ _ _) rfl (fun k hk=>?_)
 rw [fO hk,kp hk,if_neg (by omega)]
theorem nU {ss:List (List Int)} {ks:List (Int×List Int)} {j:Nat} (h:∀k:Nat,j<=k->k<ss.length->cT ks (k:Int)=none):fY ss ks j=dr ss ks:=by
 refine dE (dt _ _ _) (cI _ _) (fun k hk=>?_)
 rw [fO hk,il hk];by_cases hj:k<j
 . rw [if_pos hj]
 rw [if_neg hj,h k (by omega) hk];rfl
theorem qN {ss:List (List Int)} {ks:List (Int×List Int)} {j:Nat} {zs:List Int} (hj:j<ss.length) (h:cT ks (j:Int)=some zs):fY ss ks (j+1)=(fY ss ks j).set j zs:=by
 refine dE (dt _ _ _) (by rw [List.length_set];exact dt _ _ _) (fun k hk=>?_)
 rw [fO hk];by_cases hkj:k=j
 . subst hkj
   rw [if_pos (by omega),h,List.getElem?_set_self (by rw [dt];exact hk)];rfl
 rw [List.getElem?_set_ne (fun e=>hkj e.symm),fO hk];by_cases hl:k<j
 . rw [if_pos hl,if_pos (by omega)]
 rw [if_neg hl,if_neg (by omega)]
theorem qO {ss:List (List Int)} {ks:List (Int×List Int)} {j:Nat} (h:cT ks (j:Int)=none):fY ss ks (j+1)=fY ss ks j:=by
 refine dE (dt _ _ _) (dt _ _ _) (fun k hk=>?_)
 rw [fO hk,fO hk];by_cases hkj:k=j
 . subst hkj
   rw [if_pos (by omega),if_neg (by omega),h];rfl
 by_cases hl:k<j
 . rw [if_pos hl,if_pos (by omega)]
 rw [if_neg hl,if_neg (by omega)]
theorem pK {ss:List (List Int)} {ks:List (Int×List Int)} {q:Nat} {zs:List Int} (hq:q<ss.length):dr ss (ks++[((q:Int),zs)])=(dr ss ks).set q zs:=by
 refine dE (cI _ _) (by rw [List.length_set];exact cI _ _) (fun k hk=>?_)
 rw [il hk,jx];by_cases hkq:k=q
 . subst hkq
   rw [if_pos rfl,List.getElem?_set_self (by rw [cI];exact hk)];rfl
 rw [if_neg (by simp;omega),List.getElem?_set_ne (fun e=>hkq e.symm),il hk]
theorem dF:∀(l:List Nat) (m:Nat),(∀x∈l,x<=m)->ei l<=m*l.length
 | [],m,_=>by simp [ei]
 | x :: l,m,h=>by
  have h1:=dF l m (fun y hy=>h y (List.mem_cons_of_mem _ hy));have h2:=h x List.mem_cons_self;have h3:ei (x :: l)=x+ei l:=by simp [ei]
  rw [h3,List.length_cons,Nat.mul_succ];omega
end Go.Proofs.YtejeekndbnpmoaaGreat

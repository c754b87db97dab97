/-
 slices.Insert of one number into a slice of int of one's own, by the library's contracts: in place where there is room, else in a new row. Condition: at most 2097152 elements.
-/
import Derived.Test.YtejokiafgbjdaaaGreatRowFailsBentSq10
import Derived.Test.YtejokiafgbjdaaaGreatRowFailsBentSq5
import Derived.Test.YtejokiafgbjdaaaGreatRowFailsBentSq2
import Derived.Test.YtejokiafgbjdaaaGreatRowFailsBentSq6
import Derived.Laws.IdiomCopy
import Derived.Laws.MakeOwn
import Derived.Test.YtejokiafgbjdaaaGreatRowFailsBentSq11
import Derived.Test.YtejokiafgbjdaaaGreatRowFailsBentSq12
import Derived.Test.YtejokiafgbjdaaaGreatRowFailsBentSq3

set_option maxRecDepth 100000
set_option maxHeartbeats 8000000
set_option linter.unusedSimpArgs false

namespace Go.Proofs.YtejokiafgbjdaaaGreat
open Go.RowKit

def iU (x y:Int) (zs:List Int):Bool:=inB x 0 60000&&(inB y 0 7&&(inB (zs.length:Int) 2 4&&cE zs))
theorem recB_x {x y:Int} {zs:List Int} (h:inB x 0 60000=false):iU x y zs=false:=by unfold iU;rw [h];rfl
theorem recB_y {x y:Int} {zs:List Int} (h:inB y 0 7=false):iU x y zs=false:=by unfold iU;rw [h];simp
theorem recB_n {x y:Int} {zs:List Int} (h:inB (zs.length:Int) 2 4=false):iU x y zs=false:=by unfold iU;rw [h];simp
theorem recB_w {x y:Int} {zs:List Int} (h1:inB x 0 60000=true) (h2:inB y 0 7=true) (h3:inB (zs.length:Int) 2 4=true):iU x y zs=cE zs:=by unfold iU;rw [h1,h2,h3];rfl
theorem uk {x y:Int} {zs:List Int}:iU x y zs=true ↔ (0<=x/\x<=60000)/\(0<=y/\y<=7)/\(2<=zs.length/\zs.length<=4)/\cE zs=true:=by
 unfold iU inB;simp only [Bool.and_eq_true,decide_eq_true_eq]
 constructor
 . rintro ⟨h1,h2,h3,h4⟩
   exact ⟨h1,h2,by omega,h4⟩
 rintro ⟨h1,h2,h3,h4⟩;exact ⟨h1,h2,by omega,h4⟩
theorem Box.cells3 {w:World} {B:Nat} {T:TypeId} {v0 v1 v2:Value} (h:Box w B T #[v0,v1,v2]):w.cell? ⟨B,0,none⟩=some v0/\w.cell? ⟨B,1,none⟩=some v1/\w.cell? ⟨B,2,none⟩=some v2:=⟨h.cell 0,h.cell 1,h.cell 2⟩
theorem mR (w:World) (x y:Int) (a:Option Addr) (n cap:Nat) (zs:List Int) (hz:zs.length=n) (hr:aF .i64 w a zs) (hn:n<=2097152):
 Calls Tryz.prog 245 #[.agg #[.int .i64 x,.int .i64 y,.slice a n cap]] w fun e w'=>e=.returned (.bool (iU x y zs))/\Below w.heap.size w w':=by
 have hA:=ah w (.cells #[.int .i64 x,.int .i64 y,.slice a n cap] 153);have hr':=hr.below hA;subst hz;go_enter Tryz.func245,Tryz.ntmps245
 go_wp2_with fail
 refine (aB _ _ _ _).mono ?_
 rintro e w1 ⟨rfl,rfl⟩;cases hx:inB x 0 60000
 . go_wp2
   go_ret
   exact ⟨ag (recB_x hx).symm,hA⟩
 go_wp2_with fail
 refine (aB _ _ _ _).mono ?_
 rintro e w1 ⟨rfl,rfl⟩;cases hy:inB y 0 7
 . go_wp2
   go_ret
   exact ⟨ag (recB_y hy).symm,hA⟩
 go_wp2_with fail
 refine (aB _ _ _ _).mono ?_
 rintro e w1 ⟨rfl,rfl⟩;cases hl:inB (zs.length:Int) 2 4
 . go_wp2
   go_ret
   exact ⟨ag (recB_n hl).symm,hA⟩
 go_wp2_with fail
 refine (dy _ _ _ _ zs rfl hr' hn).mono ?_
 rintro e w1 ⟨rfl,rfl⟩;go_wp2
 go_ret
 exact ⟨ag (recB_w hx hy hl).symm,hA⟩
def jO (x y:Int) (zs:List Int):List Int:=if iU x y zs=true then 21322 :: x :: y :: (zs.length:Int) :: zs else []
theorem ul {x y:Int} {zs:List Int} (h:iU x y zs=true):jO x y zs=21322 :: x :: y :: (zs.length:Int) :: zs:=by unfold jO;rw [if_pos h]
theorem tk {x y:Int} {zs:List Int} (h:iU x y zs=false):jO x y zs=[]:=by unfold jO;rw [if_neg (by simp [h])]
theorem lR (w:World) (x y:Int) (a:Option Addr) (n cap:Nat) (zs:List Int) (hz:zs.length=n) (hr:aF .i64 w a zs) (hn:n<=2097152):
 Calls Tryz.prog 224 #[.agg #[.int .i64 x,.int .i64 y,.slice a n cap]] w fun e w'=>∃a l c,e=.returned (.slice a l c)/\aA.Own w' w.heap.size w'.heap.size [.slice a l c] (jO x y zs)/\Below w.heap.size w w':=by
 have hA:=ah w (.cells #[.int .i64 x,.int .i64 y,.slice a n cap] 153);have X:=Box.new w 153 #[.int .i64 x,.int .i64 y,.slice a n cap];have hr':=hr.below hA;obtain ⟨k0,k1,k2⟩:=X.cells3;have zA:=X.lt;go_enter Tryz.func224,Tryz.ntmps224
 go_wp2_with fail
 generalize w.alloc (.cells #[.int .i64 x,.int .i64 y,.slice a n cap] 153)=W at hA X k0 k1 k2 zA hr' ⊢;refine (mR _ _ _ _ _ _ zs hz hr' hn).mono ?_
 rintro e w1 ⟨rfl,b1⟩;have X1:=X.below b1 zA;have B1:=Below.andThen hA b1;have r1:=hr'.below b1;clear k0 k1 k2 X b1 hA zA hr' hr;obtain ⟨k0,k1,k2⟩:=X1.cells3;by_cases hx:iU x y zs=true
 . have HX:=aa (ul hx)
   obtain ⟨_,_,⟨hn2,hn4⟩,_⟩:=uk.1 hx;rcases r1.cases with h0|⟨b,off,rfl,hb,_⟩
   . omega
   have hB2:=ah w1 (.cells #[.int .i64 21322,.int .i64 x,.int .i64 y,.int .i64 n] 3);have k2':=(hB2.cell (p:=⟨w.heap.size,2,none⟩) X1.lt).trans k2;have r2:=r1.below hB2;have hO:br .i64 3 (w1.alloc (.cells #[.int .i64 21322,.int .i64 x,.int .i64 y,.int .i64 n] 3)) w1.heap.size (.slice (some ⟨w1.heap.size,0,none⟩) 4 4) [21322,x,y,n]:=br.lit .i64 3 w1 [21322,x,y,n] 4 _ rfl rfl (by unfold maxLen;omega);obtain ⟨i0,hi,hz0,hz1,hz2⟩:=info_parts Tryz.info3;go_wp2_with (at_builtin;refine cY .i64 rfl _ _ 52 rfl w1.heap.size 3 i0 (.int .i64 0) 8 Tryz.underlying52 hi hz0 hz1 hz2 rfl _ [21322,x,y,(n:Int)] rfl hO ⟨b,off,none⟩ n cap zs rfl hz r2 (by unfold maxLen;simp;omega) (by simp;omega) (by simp) ?_;intro v' w2 ho2 hb2;obtain ⟨a1,c1,hv1,_⟩:=ho2.shape;rw [show ([21322,x,y,(n:Int)]++zs).length=n+4 by simp;omega] at hv1;subst hv1)
   go_ret
   refine ⟨_,_,_,rfl,?_,B1.trans ((hB2.trans hb2).mono B1.size)⟩
   rw [HX.out,hz];exact (bh ho2).widen B1.size (Nat.le_refl _)
 have hx':iU x y zs=false:=by simpa using hx
 have HX:=aa (tk hx');go_wp2
 go_ret
 refine ⟨_,_,_,rfl,?_,B1.alloc B1.size _⟩
 rw [HX.out];exact (bh (br.lit .i64 3 w1 [] 0 #[] rfl rfl (by unfold maxLen;omega))).widen B1.size (Nat.le_refl _)
def dR (ss:List (List Int)) (cs:List (Int×List Int)) (f:Bool) (bs:List Int) (n:Int):Bool:=aW ss cs bs&&(!f&&(inB n 0 ((ss.length:Int)-1)&&!inL bs n))
def ma (ss:List (List Int)) (n:Int):List Int:=ss.getD n.toNat []
def eF (ss:List (List Int)) (cs:List (Int×List Int)) (f:Bool) (bs:List Int) (n:Int):List Int:=if dR ss cs f bs n=true then (cG cs n).getD (ma ss n) else []
theorem kU (w:World) (E:TypeId) (a0 a1 a3:Option Addr) (n0 c0 n1 c1 n3 c3:Nat) (ss:List (List Int)) (cs:List (Int×List Int)) (f:Bool) (bs:List Int) (n:Int) (h0:aR.Rd w [.slice a0 n0 c0] ss) (h1:(aU E).Rd w [.slice a1 n1 c1] cs) (h3:aA.Rd w [.slice a3 n3 c3] bs) (hw:aJ (ss,cs,f,bs)<=2097152):
 Calls Tryz.prog 237 #[.agg #[.slice a0 n0 c0,.slice a1 n1 c1,.bool f,.slice a3 n3 c3],.int .i64 n] w fun e w'=>∃a' l c',e=.returned (.tuple #[.slice a' l c',.bool (dR ss cs f bs n)])/\aA.Own w' w.heap.size w'.heap.size [.slice a' l c'] (eF ss cs f bs n)/\Below w.heap.size w w':=by
 obtain ⟨hl0,_,hm0⟩:=ae h0;obtain ⟨hl1,_,hm1⟩:=ae h1;obtain ⟨hl3,_,hm3⟩:=ae h3;have hw3:n3<=2097152:=by unfold aJ at hw;simp only at hw;omega
 have hw0:cB ss<=2097152:=by unfold aJ at hw;simp only at hw;omega
 have hw1:aY cs<=2097152:=by unfold aJ at hw;simp only at hw;omega
 have hn0:n0<=2097152:=by unfold cB at hw0;omega
 have hn1:n1<=2097152:=by unfold aY at hw1;omega
 have hA:Below w.heap.size w (w.alloc (.cells #[.slice a0 n0 c0,.slice a1 n1 c1,.bool f,.slice a3 n3 c3] 78)):=(Below.refl _ _).alloc (Nat.le_refl _) _;have xm:=Box.new w 78 #[.slice a0 n0 c0,.slice a1 n1 c1,.bool f,.slice a3 n3 c3];have g0:=h0.below hA;have g1:=h1.below hA;have g3:=h3.below hA;obtain ⟨q0,q1,q2,q3⟩:=xm.cells4;have zm:=xm.lt;have fin:∀w1,Below w.heap.size w w1->aA.Own (w1.alloc (.cells #[] 3)) w.heap.size (w1.alloc (.cells #[] 3)).heap.size [.slice (some ⟨w1.heap.size,0,none⟩) 0 0] []/\Below w.heap.size w (w1.alloc (.cells #[] 3)):=by
  intro w1 hb;have hs:=hb.size;exact ⟨(bh (br.lit .i64 3 w1 [] 0 #[] rfl rfl (by unfold maxLen;omega))).widen hs (Nat.le_refl _),hb.alloc hb.size _⟩
 by_cases hM:aW ss cs bs=true
 . by_cases hf:f=true
   . subst hf
     have hro:dR ss cs true bs n=false:=by unfold dR;rw [hM];rfl
     have hrd:eF ss cs true bs n=[]:=by unfold eF;rw [hro];rfl
     rw [hro,hrd];clear hro hrd;go_enter Tryz.func237,Tryz.ntmps237
     go_wp2_with fail
     generalize hW:w.alloc (.cells #[.slice a0 n0 c0,.slice a1 n1 c1,.bool true,.slice a3 n3 c3] 78)=W at hA g0 g1 g3 q0 q1 q2 q3 zm ⊢;clear hW xm;refine (aT _ E _ _ _ _ _ _ _ _ _ ss cs true bs g0 g1 g3 hw).mono ?_
     rintro e w1 ⟨rfl,b1⟩;have r0:=(b1.cell (p:=⟨w.heap.size,0,none⟩) zm).trans q0;have r1:=(b1.cell (p:=⟨w.heap.size,1,none⟩) zm).trans q1;have r2:=(b1.cell (p:=⟨w.heap.size,2,none⟩) zm).trans q2;have r3:=(b1.cell (p:=⟨w.heap.size,3,none⟩) zm).trans q3;have B1:=Below.andThen hA b1;have z1:=Nat.lt_of_lt_of_le zm b1.size;clear q0 q1 q2 q3;go_wp2
     go_ret2
     exact ⟨_,_,_,rfl,(fin _ B1).1,(fin _ B1).2⟩
   have hf:f=false:=by simpa using hf
   subst hf;by_cases hI:inB n 0 ((n0:Int)-1)=true
   . by_cases hB:inL bs n=true
     . have hro:dR ss cs false bs n=false:=by unfold dR;rw [hM,hl0,hI,hB];rfl
       have hrd:eF ss cs false bs n=[]:=by unfold eF;rw [hro];rfl
       rw [hro,hrd];clear hro hrd;go_enter Tryz.func237,Tryz.ntmps237
       go_wp2_with fail
       generalize hW:w.alloc (.cells #[.slice a0 n0 c0,.slice a1 n1 c1,.bool false,.slice a3 n3 c3] 78)=W at hA g0 g1 g3 q0 q1 q2 q3 zm ⊢;clear hW xm;refine (aT _ E _ _ _ _ _ _ _ _ _ ss cs false bs g0 g1 g3 hw).mono ?_
       rintro e w1 ⟨rfl,b1⟩;have r0:=(b1.cell (p:=⟨w.heap.size,0,none⟩) zm).trans q0;have r1:=(b1.cell (p:=⟨w.heap.size,1,none⟩) zm).trans q1;have r2:=(b1.cell (p:=⟨w.heap.size,2,none⟩) zm).trans q2;have r3:=(b1.cell (p:=⟨w.heap.size,3,none⟩) zm).trans q3;have B1:=Below.andThen hA b1;have z1:=Nat.lt_of_lt_of_le zm b1.size;clear q0 q1 q2 q3;have gw:IntKind.i64.wrap ((n0:Int)-1)=(n0:Int)-1:=IntWalk.i64_in _ (by omega);go_wp2_with fail
       refine (aB _ _ _ _).mono ?_
       rintro e w2 ⟨rfl,hw2⟩;subst w2;have k3:=g3.below b1;go_wp2_with fail
       refine (jL _ _ _ _ bs _ hl3 (aO k3).1 hw3).mono ?_
       rintro e w3 ⟨rfl,s3⟩;have B3:=Below.andSame B1 s3;go_wp2
       go_ret2
       exact ⟨_,_,_,rfl,(fin _ B3).1,(fin _ B3).2⟩
     have hB:inL bs n=false:=by simpa using hB
     have hro:dR ss cs false bs n=true:=by unfold dR;rw [hM,hl0,hI,hB];rfl
     have hrd:eF ss cs false bs n=(cG cs n).getD (ma ss n):=by unfold eF;rw [hro];rfl
     rw [hro,hrd];clear hro hrd;have hI':0<=n/\n<=(n0:Int)-1:=by unfold inB at hI;simpa using hI
     obtain ⟨k,rfl⟩:∃k:Nat,n=(k:Int):=⟨n.toNat,by omega⟩;have hk:k<n0:=by omega
     go_enter Tryz.func237,Tryz.ntmps237
     go_wp2_with fail
     generalize hW:w.alloc (.cells #[.slice a0 n0 c0,.slice a1 n1 c1,.bool false,.slice a3 n3 c3] 78)=W at hA g0 g1 g3 q0 q1 q2 q3 zm ⊢;clear hW xm;refine (aT _ E _ _ _ _ _ _ _ _ _ ss cs false bs g0 g1 g3 hw).mono ?_
     rintro e w1 ⟨rfl,b1⟩;have r0:=(b1.cell (p:=⟨w.heap.size,0,none⟩) zm).trans q0;have r1:=(b1.cell (p:=⟨w.heap.size,1,none⟩) zm).trans q1;have r2:=(b1.cell (p:=⟨w.heap.size,2,none⟩) zm).trans q2;have r3:=(b1.cell (p:=⟨w.heap.size,3,none⟩) zm).trans q3;have B1:=Below.andThen hA b1;have z1:=Nat.lt_of_lt_of_le zm b1.size;clear q0 q1 q2 q3;have gw:IntKind.i64.wrap ((n0:Int)-1)=(n0:Int)-1:=IntWalk.i64_in _ (by omega);go_wp2_with fail
     refine (aB _ _ _ _).mono ?_
     rintro e w2 ⟨rfl,hw2⟩;subst w2;have k3:=g3.below b1;go_wp2_with fail
     refine (jL _ _ _ _ bs _ hl3 (aO k3).1 hw3).mono ?_
     rintro e w3 ⟨rfl,s3⟩;have B3:=Below.andSame B1 s3;have m0:=(s3.cell _).trans r0;have m1:=(s3.cell _).trans r1;have b3:=Below.andSame b1 s3;have y1:=g1.below b3;rcases gX rfl g0 with h0'|⟨b,off,rfl,hbl,hcs⟩
     . omega
     have hdj:ss[k]?=some (ss[k]'(by omega)):=List.getElem?_eq_getElem (by omega);generalize ss[k]'(by omega)=x at hdj;have hil:=fC hdj;obtain ⟨v,hv,hrv⟩:=hcs k x hdj;obtain ⟨av,cv,rfl⟩:=aw hrv;have mv:=(b3.cell (p:=⟨b,off+k,none⟩) hbl).trans hv;have hrx:=hrv.below b3;have hgx:ma ss (k:Int)=x:=by unfold ma;rw [Int.toNat_natCast,List.getD_eq_getElem?_getD,hdj];rfl
     have HGX:=aa hgx;have HY:=aa y1;have HX:=aa hrx;have HB3:=aa B3;have i1:(0:Int)<=(k:Int):=by omega
     have i2:(k:Int)<(n0:Int):=by omega
     clear hcs hdj hv hrv hgx y1 hrx B3 b3 r0 r1 r2 r3 g0 g1 g3 k3 B1 b1 s3 hA fin hB hI hI' hM;go_wp2
     go_loopw [6,7] (fun sv i wr=>∃(j:Nat) (aj:Option Addr) (lj cj:Nat),j<=n1/\i=.int .i64 j/\sv=.slice aj lj cj/\aA.Rd w3 [.slice aj lj cj] ((cG (cs.take j) (k:Int)).getD x)/\lj<=2097152/\aH w3 wr) (fun _ i _=>n1-(intOf i).toNat)
     case atStart=>exact ⟨0,av,x.length,cv,Nat.zero_le _,rfl,rfl,HX.out,by omega,aH.refl _⟩
     obtain ⟨j,aj,lj,cj,hj,rfl,rfl,hrj,hlj,hs⟩:=hrel;have p1:=(hs.cell _).trans m1;have HRJ:=aa hrj;by_cases hjn:j<n1
     . rcases cO rfl HY.out with h0'|⟨bb,ob,rfl,hbb,hcs⟩
       . omega
       have hdj:cs[j]?=some (cs[j]'(by omega)):=List.getElem?_eq_getElem (by omega);have htk:cs.take (j+1)=cs.take j++[cs[j]'(by omega)]:=List.take_succ_eq_append_getElem (by omega);generalize cs[j]'(by omega)=y at hdj htk;have hil2:=bV hdj;obtain ⟨v0,v1,hv0,hv1,hry⟩:=hcs j y hdj;obtain ⟨rfl,hry'⟩:=eB hry;obtain ⟨ay,cy,rfl⟩:=aw hry';have u0:=(hs.cell ⟨bb,ob+j*2,none⟩).trans hv0;have u1:=(hs.cell ⟨bb,ob+j*2+1,none⟩).trans hv1;obtain ⟨y0,y1⟩:=y;simp only at u0 u1 hry' hil2
       have hls:=iY (cs.take j) (y0,y1) (k:Int);rw [←htk] at hls;have HRY:=aa hry';by_cases hy:y0=(k:Int)
       . have HLS:Hid (cG (cs.take (j+1)) (k:Int)=some y1):=by unfold Hid;rw [hls];simp [hy]
         subst hy;clear hcs hdj hv0 hv1 hry hry' htk hls hrj;go_wp2
         go_roundw
         case rel=>exact ⟨j+1,ay,y1.length,cy,by omega,by go_num,rfl,by rw [HLS.out];exact HRY.out,by omega,hs⟩
         case measure=>simp [intOf];omega
       have HLS:Hid (cG (cs.take (j+1)) (k:Int)=cG (cs.take j) (k:Int)):=by unfold Hid;rw [hls];simp [hy]
       clear hcs hdj hv0 hv1 hry hry' htk hls hrj;go_wp2
       go_roundw
       case rel=>exact ⟨j+1,aj,lj,cj,by omega,by go_num,rfl,by rw [HLS.out];exact HRJ.out,hlj,hs⟩
       case measure=>simp [intOf];omega
     have e:j=n1:=by omega
     subst e;rw [List.take_of_length_le (by omega)] at hrj;have HF:=aa hrj;have HZ:Hid ((cG cs (k:Int)).getD (ma ss (k:Int))=(cG cs (k:Int)).getD x):=by unfold Hid;rw [HGX.out]
     generalize (cG cs (k:Int)).getD x=zs at hrj HF HZ;obtain ⟨i0,hi,hz0,hz1,hz2⟩:=info_parts Tryz.info3;have hBr:=Below.andSame HB3.out hs;have hsr:=hBr.size;have hO:br .i64 3 (wr.alloc (.cells #[] 3)) wr.heap.size (.slice (some ⟨wr.heap.size,0,none⟩) 0 0) []:=br.lit .i64 3 wr [] 0 #[] rfl rfl (by unfold maxLen;omega);have hA2:Below wr.heap.size wr (wr.alloc (.cells #[] 3)):=(Below.refl _ _).alloc (Nat.le_refl _) _;obtain ⟨hr,hlz,_,_⟩:=aO ((hrj.same hs).below hA2);have HO:=aa hO;have HR:=aa hr;have HA2:=aa (Below.andThen hBr hA2);clear hO hr hA2 hBr HRJ;match aj,hrj,HR,HF with
     | none,hrj,_,_=>
      obtain ⟨rfl,rfl,rfl⟩:=lg hrj;clear hrj;go_wp2_with (at_builtin;refine wpList_append_own_none rfl _ _ 52 rfl wr.heap.size 3 i0 1 Tryz.underlying52 hi _ 0 [] rfl ?_ rfl ?_;exact HO.out)
      go_ret2
      exact ⟨_,_,_,rfl,by rw [HZ.out];exact (bh HO.out).widen hsr (Nat.le_refl _),HA2.out⟩
     | some ad,hrj,HR,_=>
      clear hrj;go_wp2_with (at_builtin;refine cY .i64 rfl _ _ 52 rfl wr.heap.size 3 i0 (.int .i64 0) 8 Tryz.underlying52 hi hz0 hz1 hz2 rfl _ [] rfl ?_ ad lj cj zs rfl hlz ?_ (by unfold maxLen;simp;omega) (by simp;omega) (by simp) ?_;exact HO.out;exact HR.out;intro v' w9 ho9 hb9;obtain ⟨a9,c9,hv9,_⟩:=ho9.shape;rw [List.nil_append,hlz] at hv9;rw [List.nil_append] at ho9;subst hv9)
      go_ret2
      exact ⟨_,_,_,rfl,by rw [HZ.out];exact (bh ho9).widen hsr (Nat.le_refl _),HA2.out.trans (hb9.mono hsr)⟩
   have hI:inB n 0 ((n0:Int)-1)=false:=by simpa using hI
   have hro:dR ss cs false bs n=false:=by unfold dR;rw [hM,hl0,hI];rfl
   have hrd:eF ss cs false bs n=[]:=by unfold eF;rw [hro];rfl
   rw [hro,hrd];clear hro hrd;go_enter Tryz.func237,Tryz.ntmps237
   go_wp2_with fail
   generalize hW:w.alloc (.cells #[.slice a0 n0 c0,.slice a1 n1 c1,.bool false,.slice a3 n3 c3] 78)=W at hA g0 g1 g3 q0 q1 q2 q3 zm ⊢;clear hW xm;refine (aT _ E _ _ _ _ _ _ _ _ _ ss cs false bs g0 g1 g3 hw).mono ?_
   rintro e w1 ⟨rfl,b1⟩;have r0:=(b1.cell (p:=⟨w.heap.size,0,none⟩) zm).trans q0;have r1:=(b1.cell (p:=⟨w.heap.size,1,none⟩) zm).trans q1;have r2:=(b1.cell (p:=⟨w.heap.size,2,none⟩) zm).trans q2;have r3:=(b1.cell (p:=⟨w.heap.size,3,none⟩) zm).trans q3;have B1:=Below.andThen hA b1;have z1:=Nat.lt_of_lt_of_le zm b1.size;clear q0 q1 q2 q3;have gw:IntKind.i64.wrap ((n0:Int)-1)=(n0:Int)-1:=IntWalk.i64_in _ (by omega);go_wp2_with fail
   refine (aB _ _ _ _).mono ?_
   rintro e w2 ⟨rfl,hw2⟩;subst w2;go_wp2
   go_ret2
   exact ⟨_,_,_,rfl,(fin _ B1).1,(fin _ B1).2⟩
 have hM:aW ss cs bs=false:=by simpa using hM
 have hro:dR ss cs f bs n=false:=by unfold dR;rw [hM];rfl
 have hrd:eF ss cs f bs n=[]:=by unfold eF;rw [hro];rfl
 rw [hro,hrd];clear hro hrd;go_enter Tryz.func237,Tryz.ntmps237
 go_wp2_with fail
 generalize hW:w.alloc (.cells #[.slice a0 n0 c0,.slice a1 n1 c1,.bool f,.slice a3 n3 c3] 78)=W at hA g0 g1 g3 q0 q1 q2 q3 zm ⊢;clear hW xm;refine (aT _ E _ _ _ _ _ _ _ _ _ ss cs f bs g0 g1 g3 hw).mono ?_
 rintro e w1 ⟨rfl,b1⟩;have r0:=(b1.cell (p:=⟨w.heap.size,0,none⟩) zm).trans q0;have r1:=(b1.cell (p:=⟨w.heap.size,1,none⟩) zm).trans q1;have r2:=(b1.cell (p:=⟨w.heap.size,2,none⟩) zm).trans q2;have r3:=(b1.cell (p:=⟨w.heap.size,3,none⟩) zm).trans q3;have B1:=Below.andThen hA b1;have z1:=Nat.lt_of_lt_of_le zm b1.size;clear q0 q1 q2 q3;go_wp2
 go_ret2
 exact ⟨_,_,_,rfl,(fin _ B1).1,(fin _ B1).2⟩
theorem sD {w:World} {g lb cb:Nat} {a:Option Addr} {zs:List Int} (h:aN w g a lb cb zs) (n:Int) (hn:0<=n) (hn':n<=256):
 Calls Tryz.prog 94 #[.pointer (some ⟨g,0,none⟩),.int .i64 n] w fun e w'=>∃b:Bool,e=.returned (.bool b)/\aN w' g a lb cb zs/\But g (g+1) w w':=by
 go_enter Tryz.func94,Tryz.ntmps94
 go_wp2_with fail
 refine (bF h n hn hn').mono ?_
 rintro e w1 ⟨x,rfl,_,_,D1,b1⟩;go_wp2
 go_ret
 exact ⟨_,rfl,D1,b1⟩
theorem But.cell {lo hi:Nat} {w w':World} (h:But lo hi w w') {p:Addr} (h1:p.block<w.heap.size) (h2:p.block<lo∨hi<=p.block):w'.cell? p=w.cell? p:=World.cell?_of_block (w:=w) (h.block _ h1 h2)
end Go.Proofs.YtejokiafgbjdaaaGreat

namespace Go.Proofs.YtejokiafgbjdaaaGreat
open Go.RowKit Go.Shelf
theorem Box.sets {B:Nat} {T:TypeId}:∀(vs:List Value) (o:Nat) (w:World) (cs:Array Value),Box w B T cs->o+vs.length<=cs.size->∃cs',Box (w.setCells B o vs) B T cs'/\cs'.toList=cs.toList.take o++(vs++cs.toList.drop (o+vs.length))/\aq [B] w (w.setCells B o vs)
 | [],o,w,cs,h,ho=>⟨cs,h,by simp,aq.refl _ _⟩
 | v :: r,o,w,cs,h,ho=>by
  have ho':o+(r.length+1)<=cs.size:=ho;obtain ⟨cs',h1,h2,h3⟩:=Box.sets r (o+1) _ _ (h.set o v) (by simp;omega);refine ⟨cs',h1,?_,(aq.setCell v (by simp)).trans h3⟩
  have hlt:o<cs.toList.length:=by simp;omega
  rw [h2,Array.toList_setIfInBounds,List.drop_set_of_lt (by omega),List.set_eq_take_append_cons_drop,if_pos hlt,List.take_append,List.length_take,Nat.min_eq_left (by omega),List.take_of_length_le (by simp;omega),show o+1-o=1 by omega,show o+1+r.length=o+(v :: r).length by simp;omega];simp
theorem fW {w:World} {g n cap:Nat} {zs:List Int} {cs:Array Value} (h:Box w g 3 cs) (hs:cs.size=cap) (hc:cap<=9223372036854775807) (hn:zs.length=n) (hl:n<=cap) (ht:cs.toList.take n=zs.map (Value.int .i64)):aA.Own w g (g+1) [.slice (some ⟨g,0,none⟩) n cap] zs:=by
 subst hn;exact gf ⟨⟨by simp,.inr ⟨g,cap,cs,rfl,Nat.le_refl _,h,hl,by unfold maxLen;exact hc,by rw [Nat.mul_one];exact hs,by rw [Nat.mul_one];exact ht⟩⟩,fun b hb=>by simp [Value.ownBlock] at hb;omega⟩
theorem ki (zs:List Int):∀v∈zs.map (Value.int .i64),v.oneCell'=true:=fun v hv=>by
 obtain ⟨x,_,rfl⟩:=List.mem_map.1 hv;rfl
theorem qV (w:World) (lo hi:Nat) (a:Option Addr) (len cap:Nat) (zs:List Int) (i:Nat) (n:Int) (vb:Nat) (T:TypeId) (h:aA.Own w lo hi [.slice a len cap] zs) (hv:Box w vb T #[.int .i64 n]) (hvb:vb<lo∨hi<=vb) (hik:i<=len) (hlen:len<=2097152):
 Calls Tryz.prog 143 #[.slice a len cap,.int .i64 i,.slice (some ⟨vb,0,none⟩) 1 1] w fun e w'=>∃a' c' l' h',e=.returned (.slice a' (len+1) c')/\aA.Own w' l' h' [.slice a' (len+1) c'] (zs.take i++n :: zs.drop i)/\((l'=lo/\h'=hi)∨(w.heap.size<=l'/\h'<=w'.heap.size))/\But lo hi w w':=by
 have hvc:∀j v,[Value.int .i64 n][j]?=some v->w.cell? ⟨vb,0+j,none⟩=some v:=fun j v hj=>by
  rw [Nat.zero_add,hv.cell,←hj];simp
 have h1v:∀v∈[Value.int .i64 n],v.oneCell'=true:=ki [n];obtain ⟨fp,hm,hfr⟩:=h.mine;rcases jo hm.1 with ⟨hva,rfl,rfl⟩|⟨g,cap',hva,rfl,ho⟩
 . simp only [Value.slice.injEq] at hva
   obtain ⟨rfl,rfl,rfl⟩:=hva;have e0:i=0:=by omega
   subst e0;refine (Any2.slices_Insert_int_end_grow jC none 0 0 vb 0 1 1 [] [.int .i64 n] w (by omega) (by omega) (by omega) (by omega) rfl rfl (fun _=>rfl) (by simp) hvc h1v).mono ?_
   rintro e w' ⟨rfl,rfl⟩;have hG1:=grownCap_ge w (0+1) 0 (gp.t 3);have hG2:=grownCap_le_maxLen w (0+1) 0 (gp.t 3) (by unfold maxLen;omega);generalize grownCap w (0+1) 0 (gp.t 3)=G at hG1 hG2 ⊢;refine ⟨_,G,w.heap.size,w.heap.size+1,rfl,fW (Box.new w.drew 3 _) ?_ (by unfold maxLen at hG2;omega) (by simp) (by omega) ?_,.inr ⟨Nat.le_refl _,by simp⟩,?_⟩
   . simp [Builtin.zeroCells,Value.cells];omega
   . simp
   exact But.of_below ((Below.refl _ _).drew.alloc (by simp) _)
 have hzl:=(aO h.rd).2.1;simp only [Value.slice.injEq] at hva
 obtain ⟨rfl,_,rfl⟩:=hva;have hg:=hfr g (by simp);have hgn:vb≠g:=by omega
 obtain ⟨cur,hcur,hcs,hct,hcap,hlc⟩:∃cur:Array Value,Box w g 3 cur/\cur.size=cap/\cur.toList.take len=zs.map (Value.int .i64)/\cap<=9223372036854775807/\len<=cap:=by
  rcases ho.1.2 with ⟨hv,_⟩|⟨g',cap',cur,hv,hb,hg,hnc,hcm,hcs,ht⟩
  . simp at hv
  simp only [Value.slice.injEq,Option.some.injEq,Addr.mk.injEq,and_true] at hv
  obtain ⟨rfl,_,rfl⟩:=hv;refine ⟨cur,hg,by rw [Nat.mul_one] at hcs;exact hcs,by rw [Nat.mul_one,hzl] at ht;exact ht,by unfold maxLen at hcm;exact hcm,by omega⟩
 have hml:(zs.map (Value.int .i64)).length=len:=by rw [List.length_map,hzl]
 have hcc:∀j v,(zs.map (Value.int .i64))[j]?=some v->w.cell? ⟨g,0+j,none⟩=some v:=fun j v hj=>by
  rw [Nat.zero_add,hcur.cell,←Array.getElem?_toList];rw [←hct,List.getElem?_take] at hj;split at hj
  . exact hj
  cases hj
 have hsm:∀j,j<cap->(w.cell? ⟨g,j,none⟩).isSome=true:=fun j hj=>by
  rw [hcur.cell,Array.getElem?_eq_getElem (by omega)];rfl
 by_cases hil:i=len
 . subst hil
   have hz:zs.take i++n :: zs.drop i=zs++[n]:=by rw [List.take_of_length_le (by omega),List.drop_eq_nil_of_le (by omega)]
   rw [hz];by_cases hroom:i+1<=cap
   . refine (Any2.slices_Insert_int_end_room jC g 0 i cap vb 0 1 1 [.int .i64 n] w (by omega) hroom hcap rfl (fun j hj=>hsm _ (by omega)) (fun j hj=>hcur.frozen _) hvc h1v).mono ?_
     rintro e w' ⟨rfl,rfl⟩;obtain ⟨cs',k1,k2,k3⟩:=Box.sets [.int .i64 n] (0+i) w cur hcur (by simp;omega);refine ⟨_,cap,lo,hi,rfl,(fW k1 ?_ hcap (by simp;omega) hroom ?_).widen hg.1 (by omega),.inl ⟨rfl,rfl⟩,k3.but (by simp;omega)⟩
     . rw [←Array.length_toList,k2];simp;omega
     rw [k2,Nat.zero_add,hct,List.map_append,←List.append_assoc];exact List.take_left' (by simp;omega)
   refine (Any2.slices_Insert_int_end_grow jC (some ⟨g,0,none⟩) i cap vb 0 1 1 (zs.map (Value.int .i64)) [.int .i64 n] w (by omega) hlc (by omega) (by omega) hml rfl (by simp) (fun a ha j v hj=>by
    simp only [Option.some.injEq] at ha
    subst ha;rw [Addr.add_lit];exact hcc j v hj) hvc h1v).mono ?_
   rintro e w' ⟨rfl,rfl⟩;have hG1:=grownCap_ge w (i+1) cap (gp.t 3);have hG2:=grownCap_le_maxLen w (i+1) cap (gp.t 3) (by unfold maxLen;omega);generalize grownCap w (i+1) cap (gp.t 3)=G at hG1 hG2 ⊢;refine ⟨_,G,w.heap.size,w.heap.size+1,rfl,fW (Box.new w.drew 3 _) ?_ (by unfold maxLen at hG2;omega) (by simp;omega) (by omega) ?_,.inr ⟨Nat.le_refl _,by simp⟩,?_⟩
   . simp [Builtin.zeroCells,Value.cells];omega
   . rw [Array.toList_append,List.take_left' (by simp;omega)]
     simp
   exact But.of_below ((Below.refl _ _).drew.alloc (by simp) _)
 have hi':i<len:=by omega
 have hdl:((zs.map (Value.int .i64)).drop i).length=len-i:=by rw [List.length_drop,hml]
 have hfin:zs.take i++n :: zs.drop i=zs.take i++([n]++zs.drop i):=rfl;by_cases hroom:len+1<=cap
 . refine (Any2.slices_Insert_int_shift jC g 0 len cap i vb 0 1 1 (zs.map (Value.int .i64)) [.int .i64 n] w hi' (by omega) hroom hcap hgn hml rfl hcc (fun j hj=>hsm _ (by omega)) (fun j hj=>hcur.frozen _) hvc (ki zs) h1v T 3 1 cap (by unfold World.shape?;rw [show w.heap[vb]?=_ from hv];rfl) (by unfold World.shape?;rw [show w.heap[g]?=_ from hcur];simp [hcs]) (by omega) (hv.frozen _) (hv.frozen _)).mono ?_
   rintro e w' ⟨rfl,rfl⟩;obtain ⟨c1,k1,k2,k3⟩:=Box.sets ((zs.map (Value.int .i64)).drop i) (0+(i+1)) w.drew cur hcur (by rw [hdl];omega);have hc1:c1.size=cap:=by rw [←Array.length_toList,k2];simp only [List.length_append,List.length_take,List.length_drop,Array.length_toList,hdl];omega
   obtain ⟨c2,j1,j2,j3⟩:=Box.sets [.int .i64 n] (0+i) _ c1 k1 (by simp;omega);refine ⟨_,cap,lo,hi,rfl,(fW j1 ?_ hcap (by simp;omega) hroom ?_).widen hg.1 (by omega),.inl ⟨rfl,rfl⟩,(k3.undrew.trans j3).but (by simp;omega)⟩
   . rw [←Array.length_toList,j2];simp;omega
   have e1:c1.toList.take i=(zs.map (Value.int .i64)).take i:=by
    rw [k2,Nat.zero_add,List.take_append_of_le_length (by simp;omega),List.take_take,Nat.min_eq_left (by omega),←hct,List.take_take,Nat.min_eq_left (by omega)]
   have e2:c1.toList.drop (i+1)=(zs.map (Value.int .i64)).drop i++cur.toList.drop (i+1+((zs.map (Value.int .i64)).drop i).length):=by
    rw [k2,Nat.zero_add];exact List.drop_left' (by simp;omega)
   rw [j2,Nat.zero_add,e1,show i+[Value.int .i64 n].length=i+1 from rfl,e2,←List.append_assoc [Value.int .i64 n],←List.append_assoc,List.take_left' (by simp;omega)];simp
 refine (Any2.slices_Insert_int_grow jC g 0 len cap i vb 0 1 1 (zs.map (Value.int .i64)) [.int .i64 n] w hi' (by omega) hlc (by omega) (by omega) hml rfl hcc hvc (ki zs) h1v).mono ?_
 rintro e w' ⟨rfl,rfl⟩;have hG1:=grownCap_ge w (len+1) cap (gp.t 3);have hG2:=grownCap_le_maxLen w (len+1) cap (gp.t 3) (by unfold maxLen;omega);generalize grownCap w (len+1) cap (gp.t 3)=G at hG1 hG2 ⊢;obtain ⟨ROW,hROW⟩:∃ROW:Array Value,ROW=((zs.map (Value.int .i64)).take i).toArray++Builtin.zeroCells (Value.int .i64 0).cells (len+1-i)++Builtin.zeroCells (Value.int .i64 0).cells (G-(len+1)):=⟨_,rfl⟩;rw [←hROW];have hRs:ROW.size=G:=by rw [hROW];simp [Builtin.zeroCells,Value.cells];omega
 have hRt:ROW.toList.take i=(zs.map (Value.int .i64)).take i:=by
  rw [hROW,Array.toList_append,Array.toList_append,List.append_assoc];exact List.take_left' (by simp;omega)
 have bN:Below w.heap.size w (w.alloc (.cells ROW 3)):=(Below.refl _ _).alloc (Nat.le_refl _) _;obtain ⟨c1,k1,k2,k3⟩:=Box.sets [.int .i64 n] i (w.alloc (.cells ROW 3)).drew ROW (Box.new w 3 ROW) (by simp;omega);have hc1:c1.size=G:=by rw [←Array.length_toList,k2];simp;omega
 obtain ⟨c2,j1,j2,j3⟩:=Box.sets ((zs.map (Value.int .i64)).drop i) (i+1) ((w.alloc (.cells ROW 3)).drew.setCells w.heap.size i [.int .i64 n]).drew c1 k1 (by rw [hdl];omega);have hT:=k3.undrew.trans j3.undrew;refine ⟨_,G,w.heap.size,w.heap.size+1,rfl,fW j1 ?_ (by unfold maxLen at hG2;omega) (by simp;omega) (by omega) ?_,.inr ⟨Nat.le_refl _,?_⟩,?_⟩
 . rw [←Array.length_toList,j2];simp only [List.length_append,List.length_take,List.length_drop,Array.length_toList,hdl];omega
 . have e1:c1.toList.take (i+1)=(zs.map (Value.int .i64)).take i++[.int .i64 n]:=by
    rw [k2,hRt,←List.append_assoc];exact List.take_left' (by simp;omega)
   rw [j2,e1,←List.append_assoc,List.take_left' (by simp;omega)];simp
 . have:=hT.size
   simp at this
   exact this
 exact ⟨hT.os,hT.tape,hT.output,Nat.le_trans bN.size hT.size,fun k hk _=>(hT.block k (by simp;omega) (by simp;omega)).trans (bN.block k hk)⟩
end Go.Proofs.YtejokiafgbjdaaaGreat


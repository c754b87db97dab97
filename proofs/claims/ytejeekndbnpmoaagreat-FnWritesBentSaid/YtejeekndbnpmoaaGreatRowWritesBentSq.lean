/-
 FnWritesBent holds: at every list of bytes what WriteStripe, Sync, Mark and Check make of the drawn arrays, bent or not, is what the specification makes of them.
-/
import Derived.Test.YtejeekndbnpmoaaGreatRowWritesBentSq2
import Derived.Deep.RegionHeld3
import Derived.Test.YtejeekndbnpmoaaGreatRowWritesBentSq3
import Derived.Test.YtejeekndbnpmoaaGreatRowWritesBentSq23
import Derived.Test.YtejeekndbnpmoaaGreatRowWritesBentSq24
import Derived.Test.YtejeekndbnpmoaaGreatRowWritesBentSq27
import Derived.Test.YtejeekndbnpmoaaGreatRowWritesBentSq28
import Derived.Test.YtejeekndbnpmoaaGreatRowWritesBentSq10
import Derived.Deep.Cut
import Derived.Test.YtejeekndbnpmoaaGreatRows
import Derived.WalkKit
import Derived.ProofKit
import Derived.OpenShut
import Derived.ShutString
import Derived.ChangeOld
import Derived.Below

set_option maxRecDepth 100000
set_option maxHeartbeats 8000000
set_option linter.unusedSimpArgs false

namespace Go.Proofs.YtejeekndbnpmoaaGreat
open Go.RowKit

theorem ve {w:World} {a:Option Addr} {n cap j:Nat} {d:List (List Int)} (h:aT.Rd w [.slice a n cap] d) (hj:j<n):
 ∃b off x av cv,a=some ⟨b,off,none⟩/\d[j]?=some x/\w.cell? ⟨b,off+j,none⟩=some (.slice av x.length cv)/\aK .i64 w av x:=by
 have hl:=(af h).1;rcases ii rfl h with h0|⟨b,off,ha,_,hc⟩
 . omega
 have hx:=List.getElem?_eq_getElem (show j<d.length by omega);obtain ⟨v,hv,hr⟩:=hc j _ hx;obtain ⟨av,cv,rfl⟩:=az hr;exact ⟨b,off,_,av,cv,ha,hx,hv,(aP hr).1⟩
theorem sJ {E:TypeId} {w:World} {a:Option Addr} {n cap j:Nat} {d:List (Int×List Int)} (h:(aU E).Rd w [.slice a n cap] d) (hj:j<n):
 ∃b off x0 x1 av cv,a=some ⟨b,off,none⟩/\d[j]?=some (x0,x1)/\w.cell? ⟨b,off+j*2,none⟩=some (.int .i64 x0)/\w.cell? ⟨b,off+j*2+1,none⟩=some (.slice av x1.length cv)/\aK .i64 w av x1:=by
 have hl:=(af h).1;rcases cY rfl h with h0|⟨b,off,ha,_,hc⟩
 . omega
 have hx:=List.getElem?_eq_getElem (show j<d.length by omega);obtain ⟨v0,v1,hv0,hv1,hr⟩:=hc j _ hx;obtain ⟨rfl,hr1⟩:=eI hr;obtain ⟨av,cv,rfl⟩:=az hr1;exact ⟨b,off,d[j].1,d[j].2,av,cv,ha,hx,hv0,hv1,(aP hr1).1⟩
theorem pA (w:World) (E E':TypeId) (a0 a1 a3 b0 b1 b3:Option Addr) (n0 c0 n1 c1 n3 c3 p0 d0 p1 d1 p3 d3:Nat) (ss:List (List Int)) (cs:List (Int×List Int)) (f:Bool) (bs:List Int)
 (h0:aT.Rd w [.slice a0 n0 c0] ss) (h1:(aU E).Rd w [.slice a1 n1 c1] cs) (h3:aA.Rd w [.slice a3 n3 c3] bs)
 (g0:aT.Rd w [.slice b0 p0 d0] ss) (g1:(aU E').Rd w [.slice b1 p1 d1] cs) (g3:aA.Rd w [.slice b3 p3 d3] bs) (hw:aQ (ss,cs,f,bs)<=2097152):
 Calls Tryz.prog 173 #[.agg #[.slice a0 n0 c0,.slice a1 n1 c1,.bool f,.slice a3 n3 c3],.agg #[.slice b0 p0 d0,.slice b1 p1 d1,.bool f,.slice b3 p3 d3]] w fun e w'=>e=.returned (.bool true)/\Below w.heap.size w w':=by
 have hA:Below w.heap.size w ((w.alloc (.cells #[.slice a0 n0 c0,.slice a1 n1 c1,.bool f,.slice a3 n3 c3] 101)).alloc (.cells #[.slice b0 p0 d0,.slice b1 p1 d1,.bool f,.slice b3 p3 d3] 101)):=((Below.refl _ _).alloc (Nat.le_refl _) _).alloc (by simp) _;have xa:Box ((w.alloc (.cells #[.slice a0 n0 c0,.slice a1 n1 c1,.bool f,.slice a3 n3 c3] 101)).alloc (.cells #[.slice b0 p0 d0,.slice b1 p1 d1,.bool f,.slice b3 p3 d3] 101)) w.heap.size 101 _:=(Box.new w 101 #[.slice a0 n0 c0,.slice a1 n1 c1,.bool f,.slice a3 n3 c3]).alloc _;have xb:Box ((w.alloc (.cells #[.slice a0 n0 c0,.slice a1 n1 c1,.bool f,.slice a3 n3 c3] 101)).alloc (.cells #[.slice b0 p0 d0,.slice b1 p1 d1,.bool f,.slice b3 p3 d3] 101)) (w.heap.size+1) 101 #[.slice b0 p0 d0,.slice b1 p1 d1,.bool f,.slice b3 p3 d3]:=by
  have:=Box.new (w.alloc (.cells #[.slice a0 n0 c0,.slice a1 n1 c1,.bool f,.slice a3 n3 c3] 101)) 101 #[.slice b0 p0 d0,.slice b1 p1 d1,.bool f,.slice b3 p3 d3];rw [show (w.alloc (.cells #[.slice a0 n0 c0,.slice a1 n1 c1,.bool f,.slice a3 n3 c3] 101)).heap.size=w.heap.size+1 by simp] at this;exact this
 obtain rfl:p0=n0:=(af g0).1.symm.trans (af h0).1;obtain rfl:p1=n1:=(af g1).1.symm.trans (af h1).1;obtain rfl:p3=n3:=(af g3).1.symm.trans (af h3).1;have HM0:=aa (af h0);have HM1:=aa (af h1);have h0:=h0.below hA;have h1:=h1.below hA;have h3:=h3.below hA;have g0:=g0.below hA;have g1:=g1.below hA;have g3:=g3.below hA;obtain ⟨r3,l3,_,_⟩:=aP h3;obtain ⟨t3,m3,_,_⟩:=aP g3;have HL3:=aa l3;have HM3:=aa m3;have HW0:Hid (∀x∈ss,x.length<=2097152):=fun x hx=>by
  obtain ⟨j,hj⟩:=List.mem_iff_getElem?.1 hx;have:=fQ hj;unfold aQ at hw;dsimp only at hw
  omega
 have HW1:Hid (∀x∈cs,x.2.length<=2097152):=fun x hx=>by
  obtain ⟨j,hj⟩:=List.mem_iff_getElem?.1 hx;have:=cE hj;unfold aQ at hw;dsimp only at hw
  omega
 have HW3:Hid (p3<=2097152):=by
  unfold Hid;unfold aQ at hw;dsimp only at hw
  omega
 have hbd0:p0<=2097152:=by
  have h9:=HM0.out.1;unfold aQ cP at hw;dsimp only at hw
  omega
 have hbd1:p1<=2097152:=by
  have h9:=HM1.out.1;unfold aQ bh at hw;dsimp only at hw
  omega
 clear l3 m3 hw;go_enter Tryz.func173,Tryz.ntmps173
 go_wp2_with fail
 generalize hW:(w.alloc (.cells #[.slice a0 p0 c0,.slice a1 p1 c1,.bool f,.slice a3 p3 c3] 101)).alloc (.cells #[.slice b0 p0 d0,.slice b1 p1 d1,.bool f,.slice b3 p3 d3] 101)=W at hA xa xb h0 h1 h3 g0 g1 g3 r3 t3 ⊢;clear hW;refine (fE _ _ _ _ _ _ _ bs bs HL3.out HM3.out r3 t3 HW3.out).mono ?_
 rintro e w1 ⟨rfl,s1⟩;have hd:decide (bs=bs)=true:=by simp
 have HA:=aa hA;have Ha0:Hid (∀v:World,aN W v->v.cell? ⟨w.heap.size,0,none⟩=some (.slice a0 p0 c0)):=fun v s=>(s.cell _).trans (xa.cell 0);have Ha1:Hid (∀v:World,aN W v->v.cell? ⟨w.heap.size,1,none⟩=some (.slice a1 p1 c1)):=fun v s=>(s.cell _).trans (xa.cell 1);have Hb0:Hid (∀v:World,aN W v->v.cell? ⟨w.heap.size+1,0,none⟩=some (.slice b0 p0 d0)):=fun v s=>(s.cell _).trans (xb.cell 0);have Hb1:Hid (∀v:World,aN W v->v.cell? ⟨w.heap.size+1,1,none⟩=some (.slice b1 p1 d1)):=fun v s=>(s.cell _).trans (xb.cell 1);have G0:=aa h0;have G1:=aa h1;have F0:=aa g0;have F1:=aa g1;clear hA xa xb h0 h1 h3 g0 g1 g3 r3 t3 HL3 HM3 HW3;go_wp2_with fail
 go_loopw [5] (fun i wr=>∃j:Nat,j<=p0/\i=.int .i64 j/\aN W wr) (fun i _=>p0-(intOf i).toNat)
 case atStart=>exact ⟨0,Nat.zero_le _,rfl,s1⟩
 obtain ⟨j,hj,rfl,hs⟩:=hrel;clear s1 hd;have ca0:=Ha0.out wr hs;by_cases hlt:j<p0
 . have i1:(0:Int)<=(j:Int):=by omega
   have i2:(j:Int)<(p0:Int):=by omega
   obtain ⟨ga,oa,x,va,na,rfl,hx,hca,hra⟩:=ve (j:=j) G0.out hlt;obtain ⟨gb,ob,x',vb,nb,rfl,hx',hcb,hrb⟩:=ve (j:=j) F0.out hlt;obtain rfl:x=x':=by have:=hx.symm.trans hx';simpa using this
   have lx:x.length<=2097152:=HW0.out _ (List.mem_of_getElem? hx);have Ca:Hid (∀v:World,aN W v->v.cell? ⟨ga,oa+j,none⟩=some (.slice va x.length na)):=fun v s=>(s.cell _).trans hca;have Cb:Hid (∀v:World,aN W v->v.cell? ⟨gb,ob+j,none⟩=some (.slice vb x.length nb)):=fun v s=>(s.cell _).trans hcb;have Ra:=aa hra;have Rb:=aa hrb;have hsd:aN W wr.drew:=hs.drew;have hde:decide (x=x)=true:=by simp
   clear hx hx' hca hcb hra hrb;go_wp2_with fail
   go_region_held3 (fun v=>v.cell? ⟨w.heap.size,0,none⟩=some (.slice (some ⟨ga,oa,none⟩) p0 c0)/\v.cell? ⟨ga,oa+j,none⟩=some (.slice va x.length na)/\v.cell? ⟨w.heap.size+1,0,none⟩=some (.slice (some ⟨gb,ob,none⟩) p0 d0)/\v.cell? ⟨gb,ob+j,none⟩=some (.slice vb x.length nb))
    (first|(with_reducible exact ⟨Ha0.out wa sa,Ca.out wa sa,Hb0.out wa sa,Cb.out wa sa⟩)|(with_reducible exact ⟨Ha0.out wr.drew hsd,Ca.out wr.drew hsd,Hb0.out wr.drew hsd,Cb.out wr.drew hsd⟩)|(with_reducible exact ⟨Ha0.out wr hs,Ca.out wr hs,Hb0.out wr hs,Cb.out wr hs⟩)|go_keep)
    (first|(go_at_call 47;refine (fE _ _ _ _ _ _ _ x x rfl rfl (Ra.out.same hsd) (Rb.out.same hsd) lx).mono ?_;rintro e wa ⟨rfl,sa0⟩;have sa:aN W wa:=hsd.trans sa0;clear sa0))
   go_wp2
   go_roundw
   case rel=>exact ⟨j+1,by omega,by go_num,sa⟩
   case measure=>simp [intOf];omega
 go_wp2_with fail
 go_loopw [6] (fun i wr2=>∃j:Nat,j<=p1/\i=.int .i64 j/\aN W wr2) (fun i _=>p1-(intOf i).toNat)
 case atStart=>exact ⟨0,Nat.zero_le _,rfl,hs⟩
 clear ca0 hlt hj;obtain ⟨i,hi,rfl,hs2⟩:=hrel;have ca1:=Ha1.out wr hs2;by_cases hil:i<p1
 . have i1:(0:Int)<=(i:Int):=by omega
   have i2:(i:Int)<(p1:Int):=by omega
   obtain ⟨ga,oa,x0,x,va,na,rfl,hx,hca0,hca,hra⟩:=sJ (j:=i) G1.out hil;obtain ⟨gb,ob,y0,y,vb,nb,rfl,hx',hcb0,hcb,hrb⟩:=sJ (j:=i) F1.out hil;obtain ⟨rfl,rfl⟩:x0=y0/\x=y:=by have:=hx.symm.trans hx';simpa using this
   have lx:x.length<=2097152:=HW1.out _ (List.mem_of_getElem? hx);have Ca0:Hid (∀v:World,aN W v->v.cell? ⟨ga,oa+i*2,none⟩=some (.int .i64 x0)):=fun v s=>(s.cell _).trans hca0;have Ca:Hid (∀v:World,aN W v->v.cell? ⟨ga,oa+i*2+1,none⟩=some (.slice va x.length na)):=fun v s=>(s.cell _).trans hca;have Cb0:Hid (∀v:World,aN W v->v.cell? ⟨gb,ob+i*2,none⟩=some (.int .i64 x0)):=fun v s=>(s.cell _).trans hcb0;have Cb:Hid (∀v:World,aN W v->v.cell? ⟨gb,ob+i*2+1,none⟩=some (.slice vb x.length nb)):=fun v s=>(s.cell _).trans hcb;have Ra:=aa hra;have Rb:=aa hrb;have hsd:aN W wr.drew:=hs2.drew;have hde:decide (x=x)=true:=by simp
   have hee:(x0==x0)=true:=by simp
   clear hx hx' hca hcb hca0 hcb0 hra hrb;go_wp2_with fail
   go_region_held3 (fun v=>v.cell? ⟨w.heap.size,1,none⟩=some (.slice (some ⟨ga,oa,none⟩) p1 c1)/\v.cell? ⟨ga,oa+i*2,none⟩=some (.int .i64 x0)/\v.cell? ⟨ga,oa+i*2+1,none⟩=some (.slice va x.length na)/\v.cell? ⟨w.heap.size+1,1,none⟩=some (.slice (some ⟨gb,ob,none⟩) p1 d1)/\v.cell? ⟨gb,ob+i*2,none⟩=some (.int .i64 x0)/\v.cell? ⟨gb,ob+i*2+1,none⟩=some (.slice vb x.length nb))
    (first|(with_reducible exact ⟨Ha1.out wa sa,Ca0.out wa sa,Ca.out wa sa,Hb1.out wa sa,Cb0.out wa sa,Cb.out wa sa⟩)|(with_reducible exact ⟨Ha1.out wr.drew hsd,Ca0.out wr.drew hsd,Ca.out wr.drew hsd,Hb1.out wr.drew hsd,Cb0.out wr.drew hsd,Cb.out wr.drew hsd⟩)|(with_reducible exact ⟨Ha1.out wr hs2,Ca0.out wr hs2,Ca.out wr hs2,Hb1.out wr hs2,Cb0.out wr hs2,Cb.out wr hs2⟩)|go_keep)
    (first|(go_at_call 47;refine (fE _ _ _ _ _ _ _ x x rfl rfl (Ra.out.same hsd) (Rb.out.same hsd) lx).mono ?_;rintro e wa ⟨rfl,sa0⟩;have sa:aN W wa:=hsd.trans sa0;clear sa0))
   go_wp2
   go_roundw
   case rel=>exact ⟨i+1,by omega,by go_num,sa⟩
   case measure=>simp [intOf];omega
 go_wp2
 go_ret
 exact ⟨rfl,Below.andSame HA.out hs2⟩
theorem nM (w:World) (E E' F F':TypeId) (a b:Option Addr) (la lb ca cb:Nat) (d:List ai) (h:(bt E F).Rd w [.slice a la ca] d) (h':(bt E' F').Rd w [.slice b lb cb] d) (hw:aV d<=2097152):
 Calls Tryz.prog 97 #[.slice a la ca,.slice b lb cb] w fun e w'=>e=.returned (.bool true)/\Below w.heap.size w w':=by
 obtain ⟨hl,hc,hm⟩:=af h;obtain ⟨hl',hc',hm'⟩:=af h';have hla:la<=2097152:=by unfold aV at hw;omega
 have hlen:la=lb:=by omega
 subst hlen;go_enter Tryz.func97,Tryz.ntmps97
 go_wp2
 go_loopw [5] (fun i wr=>∃j:Nat,j<=la/\i=.int .i64 j/\Below w.heap.size w wr) (fun i _=>la-(intOf i).toNat)
 case atStart=>exact ⟨0,Nat.zero_le _,rfl,Below.refl _ _⟩
 obtain ⟨j,hj,rfl,hb⟩:=hrel;by_cases hjn:j<la
 . rcases dW rfl h with h0'|⟨bx,ox,rfl,hbx,hcx⟩
   . omega
   rcases dW rfl h' with h0'|⟨bY,oy,rfl,hby,hcy⟩
   . omega
   have hdj:d[j]?=some (d[j]'(by omega)):=List.getElem?_eq_getElem (by omega);generalize d[j]'(by omega)=x at hdj;have hil:=Nat.le_trans (eN hdj) hw;obtain ⟨v0,v1,v2,v3,hv0,hv1,hv2,hv3,hrv⟩:=hcx j x hdj;obtain ⟨u0,u1,u2,u3,hu0,hu1,hu2,hu3,hru⟩:=hcy j x hdj;obtain ⟨a0,c0,a1,c1,a3,c3,ss,cs,f,bs,rfl,rfl,rfl,rfl,rfl,p0,p1,p3⟩:=fR hrv;obtain ⟨b0,d0,b1,d1,b3,d3,ss',cs',f',bs',hxx,rfl,rfl,rfl,rfl,s0,s1,s3⟩:=fR hru;obtain ⟨rfl,rfl,rfl,rfl⟩:ss=ss'/\cs=cs'/\f=f'/\bs=bs':=by simpa using hxx
   have hx0:=(hb.cell (p:=⟨bx,ox+j*4,none⟩) hbx).trans hv0;have hx1:=(hb.cell (p:=⟨bx,ox+j*4+1,none⟩) hbx).trans hv1;have hx2:=(hb.cell (p:=⟨bx,ox+j*4+2,none⟩) hbx).trans hv2;have hx3:=(hb.cell (p:=⟨bx,ox+j*4+3,none⟩) hbx).trans hv3;have hy0:=(hb.cell (p:=⟨bY,oy+j*4,none⟩) hby).trans hu0;have hy1:=(hb.cell (p:=⟨bY,oy+j*4+1,none⟩) hby).trans hu1;have hy2:=(hb.cell (p:=⟨bY,oy+j*4+2,none⟩) hby).trans hu2;have hy3:=(hb.cell (p:=⟨bY,oy+j*4+3,none⟩) hby).trans hu3;have zx:bx<wr.heap.size:=Nat.lt_of_lt_of_le hbx hb.size;have zy:bY<wr.heap.size:=Nat.lt_of_lt_of_le hby hb.size;have i1:(0:Int)<=(j:Int):=by omega
   have i2:(j:Int)<(la:Int):=by omega
   have P0:=aa (p0.below hb);have S0:=aa (s0.below hb);have P1:=aa (p1.below hb);have S1:=aa (s1.below hb);have P3:=aa (p3.below hb);have S3:=aa (s3.below hb);clear hcx hcy hdj hv0 hv1 hv2 hv3 hu0 hu1 hu2 hu3 hrv hru hxx p0 p1 p3 s0 s1 s3;go_wp2_with fail
   go_region_held3 (fun w'=>w'.cell? ⟨bx,ox+j*4,none⟩=some (.slice a0 ss.length c0)/\w'.cell? ⟨bx,ox+j*4+1,none⟩=some (.slice a1 cs.length c1)/\w'.cell? ⟨bx,ox+j*4+2,none⟩=some (.bool f)/\w'.cell? ⟨bx,ox+j*4+3,none⟩=some (.slice a3 bs.length c3)/\w'.cell? ⟨bY,oy+j*4,none⟩=some (.slice b0 ss.length d0)/\w'.cell? ⟨bY,oy+j*4+1,none⟩=some (.slice b1 cs.length d1)/\w'.cell? ⟨bY,oy+j*4+2,none⟩=some (.bool f)/\w'.cell? ⟨bY,oy+j*4+3,none⟩=some (.slice b3 bs.length d3))
    (first|(exact ⟨(hbC.cell (p:=⟨bx,ox+j*4,none⟩) zx).trans hx0,(hbC.cell (p:=⟨bx,ox+j*4+1,none⟩) zx).trans hx1,(hbC.cell (p:=⟨bx,ox+j*4+2,none⟩) zx).trans hx2,(hbC.cell (p:=⟨bx,ox+j*4+3,none⟩) zx).trans hx3,(hbC.cell (p:=⟨bY,oy+j*4,none⟩) zy).trans hy0,(hbC.cell (p:=⟨bY,oy+j*4+1,none⟩) zy).trans hy1,(hbC.cell (p:=⟨bY,oy+j*4+2,none⟩) zy).trans hy2,(hbC.cell (p:=⟨bY,oy+j*4+3,none⟩) zy).trans hy3⟩)|(exact ⟨hx0,hx1,hx2,hx3,hy0,hy1,hy2,hy3⟩)|go_keep)
    (first|(go_at_call 173;refine (pA _ E E' _ _ _ _ _ _ _ _ _ _ _ _ _ _ _ _ _ _ ss cs f bs (by exact P0.out.drew) (by exact P1.out.drew) (by exact P3.out.drew) (by exact S0.out.drew) (by exact S1.out.drew) (by exact S3.out.drew) hil).mono ?_;rintro e wC ⟨rfl,hbC0⟩;have hbC:Below wr.heap.size wr wC:=(Below.refl wr.heap.size wr).drew.trans hbC0))
   go_wp2
   go_roundw
   case rel=>exact ⟨j+1,by omega,by go_num,Below.andThen hb hbC⟩
   case measure=>simp [intOf];omega
 go_wp2
 go_ret
 exact ⟨rfl,hb⟩
theorem ni (W:World) (E E':TypeId) (a b:Option Addr) (la lb ca cb:Nat) (d:List (Int×List Int)) (h:(aU E).Rd W [.slice a la ca] d) (h':(aU E').Rd W [.slice b lb cb] d) (hw:bh d<=2097152):
 Calls Tryz.prog 98 #[.slice a la ca,.slice b lb cb] W fun e w'=>e=.returned (.bool true)/\aN W w':=by
 obtain ⟨hl,hc,hm⟩:=af h;obtain ⟨hl',hc',hm'⟩:=af h';have hla:la<=2097152:=by unfold bh at hw;omega
 have hlen:la=lb:=by omega
 subst hlen;go_enter Tryz.func98,Tryz.ntmps98
 go_wp2
 go_loopw [5] (fun i wr=>∃j:Nat,j<=la/\i=.int .i64 j/\aN W wr) (fun i _=>la-(intOf i).toNat)
 case atStart=>exact ⟨0,Nat.zero_le _,rfl,aN.refl _⟩
 obtain ⟨i,hi,rfl,hs2⟩:=hrel;by_cases hil:i<la
 . have i1:(0:Int)<=(i:Int):=by omega
   have i2:(i:Int)<(la:Int):=by omega
   obtain ⟨ga,oa,x0,x,va,na,rfl,hx,hca0,hca,hra⟩:=sJ (j:=i) h hil;obtain ⟨gb,ob,y0,y,vb,nb,rfl,hx',hcb0,hcb,hrb⟩:=sJ (j:=i) h' hil;obtain ⟨rfl,rfl⟩:x0=y0/\x=y:=by have:=hx.symm.trans hx';simpa using this
   have lx:x.length<=2097152:=Nat.le_trans (cE hx) hw;have Ca0:Hid (∀v:World,aN W v->v.cell? ⟨ga,oa+i*2,none⟩=some (.int .i64 x0)):=fun v s=>(s.cell _).trans hca0;have Ca:Hid (∀v:World,aN W v->v.cell? ⟨ga,oa+i*2+1,none⟩=some (.slice va x.length na)):=fun v s=>(s.cell _).trans hca;have Cb0:Hid (∀v:World,aN W v->v.cell? ⟨gb,ob+i*2,none⟩=some (.int .i64 x0)):=fun v s=>(s.cell _).trans hcb0;have Cb:Hid (∀v:World,aN W v->v.cell? ⟨gb,ob+i*2+1,none⟩=some (.slice vb x.length nb)):=fun v s=>(s.cell _).trans hcb;have Ra:=aa hra;have Rb:=aa hrb;have hsd:aN W wr.drew:=hs2.drew;have hde:decide (x=x)=true:=by simp
   have hee:(x0==x0)=true:=by simp
   clear hx hx' hca hcb hca0 hcb0 hra hrb;go_wp2_with fail
   go_region_held3 (fun v=>v.cell? ⟨ga,oa+i*2,none⟩=some (.int .i64 x0)/\v.cell? ⟨ga,oa+i*2+1,none⟩=some (.slice va x.length na)/\v.cell? ⟨gb,ob+i*2,none⟩=some (.int .i64 x0)/\v.cell? ⟨gb,ob+i*2+1,none⟩=some (.slice vb x.length nb))
    (first|(with_reducible exact ⟨Ca0.out wa sa,Ca.out wa sa,Cb0.out wa sa,Cb.out wa sa⟩)|(with_reducible exact ⟨Ca0.out wr.drew hsd,Ca.out wr.drew hsd,Cb0.out wr.drew hsd,Cb.out wr.drew hsd⟩)|(with_reducible exact ⟨Ca0.out wr hs2,Ca.out wr hs2,Cb0.out wr hs2,Cb.out wr hs2⟩)|go_keep)
    (first|(go_at_call 47;refine (fE _ _ _ _ _ _ _ x x rfl rfl (Ra.out.same hsd) (Rb.out.same hsd) lx).mono ?_;rintro e wa ⟨rfl,sa0⟩;have sa:aN W wa:=hsd.trans sa0;clear sa0))
   go_wp2
   go_roundw
   case rel=>exact ⟨i+1,by omega,by go_num,sa⟩
   case measure=>simp [intOf];omega
 go_wp2
 go_ret
 exact ⟨rfl,hs2⟩
theorem fM (w:World) (E E' F F' G G':TypeId) (x:al) (am ad bm bd:Option Addr) (nm cm nd cd pm em pd ed:Nat) (ms:List ai) (ds:List (Int×List Int)) (h0:(bt E F).Rd w [.slice am nm cm] ms) (h1:(aU G).Rd w [.slice ad nd cd] ds) (g0:(bt E' F').Rd w [.slice bm pm em] ms) (g1:(aU G').Rd w [.slice bd pd ed] ds) (hw:aM ms ds<=2097152):
 Calls Tryz.prog 25 #[.agg #[.int .i64 x.id,.int .i64 x.n,.int .i64 x.s,.slice am nm cm,.int .i64 x.lost,.int .i64 x.vG,.int .i64 x.seq,.int .i64 x.tail,.int .i64 x.gen,.slice ad nd cd,.int .i64 x.vI,.bool x.down,.bool x.vH],.agg #[.int .i64 x.id,.int .i64 x.n,.int .i64 x.s,.slice bm pm em,.int .i64 x.lost,.int .i64 x.vG,.int .i64 x.seq,.int .i64 x.tail,.int .i64 x.gen,.slice bd pd ed,.int .i64 x.vI,.bool x.down,.bool x.vH]] w fun e w'=>e=.returned (.bool true)/\Below w.heap.size w w':=by
 have hwm:aV ms<=2097152:=by unfold aM at hw;omega
 have hwd:bh ds<=2097152:=by unfold aM at hw;omega
 have hA:=(ae w (.cells #[.int .i64 x.id,.int .i64 x.n,.int .i64 x.s,.slice am nm cm,.int .i64 x.lost,.int .i64 x.vG,.int .i64 x.seq,.int .i64 x.tail,.int .i64 x.gen,.slice ad nd cd,.int .i64 x.vI,.bool x.down,.bool x.vH] 29)).alloc (by simp) (.cells #[.int .i64 x.id,.int .i64 x.n,.int .i64 x.s,.slice bm pm em,.int .i64 x.lost,.int .i64 x.vG,.int .i64 x.seq,.int .i64 x.tail,.int .i64 x.gen,.slice bd pd ed,.int .i64 x.vI,.bool x.down,.bool x.vH] 29);have X0:=(Box.new w 29 #[.int .i64 x.id,.int .i64 x.n,.int .i64 x.s,.slice am nm cm,.int .i64 x.lost,.int .i64 x.vG,.int .i64 x.seq,.int .i64 x.tail,.int .i64 x.gen,.slice ad nd cd,.int .i64 x.vI,.bool x.down,.bool x.vH]).alloc (.cells #[.int .i64 x.id,.int .i64 x.n,.int .i64 x.s,.slice bm pm em,.int .i64 x.lost,.int .i64 x.vG,.int .i64 x.seq,.int .i64 x.tail,.int .i64 x.gen,.slice bd pd ed,.int .i64 x.vI,.bool x.down,.bool x.vH] 29);have Y0:=Box.new (w.alloc (.cells #[.int .i64 x.id,.int .i64 x.n,.int .i64 x.s,.slice am nm cm,.int .i64 x.lost,.int .i64 x.vG,.int .i64 x.seq,.int .i64 x.tail,.int .i64 x.gen,.slice ad nd cd,.int .i64 x.vI,.bool x.down,.bool x.vH] 29)) 29 #[.int .i64 x.id,.int .i64 x.n,.int .i64 x.s,.slice bm pm em,.int .i64 x.lost,.int .i64 x.vG,.int .i64 x.seq,.int .i64 x.tail,.int .i64 x.gen,.slice bd pd ed,.int .i64 x.vI,.bool x.down,.bool x.vH];rw [World.size_alloc] at Y0;have p0:=h0.below hA;have p1:=h1.below hA;have q0:=g0.below hA;have q1:=g1.below hA;have z0:=X0.lt;have z1:=Y0.lt;go_enter Tryz.func25,Tryz.ntmps25
 obtain ⟨k0,k1,k2,k3,k4,k5,k6,k7,k8,k9,k10,k11,k12⟩:=X0.cells13;obtain ⟨l0,l1,l2,l3,l4,l5,l6,l7,l8,l9,l10,l11,l12⟩:=Y0.cells13;have X1:=aa X0;have Y1:=aa Y0;have B1:=aa hA;clear X0 Y0 hA;go_wp2_with fail
 generalize (w.alloc (.cells #[.int .i64 x.id,.int .i64 x.n,.int .i64 x.s,.slice am nm cm,.int .i64 x.lost,.int .i64 x.vG,.int .i64 x.seq,.int .i64 x.tail,.int .i64 x.gen,.slice ad nd cd,.int .i64 x.vI,.bool x.down,.bool x.vH] 29)).alloc (.cells #[.int .i64 x.id,.int .i64 x.n,.int .i64 x.s,.slice bm pm em,.int .i64 x.lost,.int .i64 x.vG,.int .i64 x.seq,.int .i64 x.tail,.int .i64 x.gen,.slice bd pd ed,.int .i64 x.vI,.bool x.down,.bool x.vH] 29)=W at p0 p1 q0 q1 z0 z1 X1 Y1 B1 k0 k1 k2 k3 k4 k5 k6 k7 k8 k9 k10 k11 k12 l0 l1 l2 l3 l4 l5 l6 l7 l8 l9 l10 l11 l12 ⊢;refine (nM _ E E' F F' _ _ _ _ _ _ ms p0 q0 hwm).mono ?_
 rintro e w2 ⟨rfl,b2⟩;have X2:=X1.out.below b2 z0;have Y2:=Y1.out.below b2 z1;have B2:=aa (Below.andThen B1.out b2);have r1:=p1.below b2;have s1:=q1.below b2;clear k0 k1 k2 k3 k4 k5 k6 k7 k8 k9 k10 k11 k12 l0 l1 l2 l3 l4 l5 l6 l7 l8 l9 l10 l11 l12 X1 Y1 B1 p0 p1 q0 q1 b2;obtain ⟨k0,k1,k2,k3,k4,k5,k6,k7,k8,k9,k10,k11,k12⟩:=X2.cells13;obtain ⟨l0,l1,l2,l3,l4,l5,l6,l7,l8,l9,l10,l11,l12⟩:=Y2.cells13;have X3:=aa X2;have Y3:=aa Y2;clear X2 Y2;go_wp2_with fail
 refine (ni _ G G' _ _ _ _ _ _ ds r1 s1 hwd).mono ?_
 rintro e w3 ⟨rfl,s3⟩;have X4:=X3.out.same s3;have Y4:=Y3.out.same s3;have B4:=aa (Below.andSame B2.out s3);clear k0 k1 k2 k3 k4 k5 k6 k7 k8 k9 k10 k11 k12 l0 l1 l2 l3 l4 l5 l6 l7 l8 l9 l10 l11 l12 X3 Y3 B2 r1 s1 s3;obtain ⟨k0,k1,k2,k3,k4,k5,k6,k7,k8,k9,k10,k11,k12⟩:=X4.cells13;obtain ⟨l0,l1,l2,l3,l4,l5,l6,l7,l8,l9,l10,l11,l12⟩:=Y4.cells13;clear X4 Y4;go_wp2
 go_ret
 exact ⟨rfl,B4.out⟩
theorem kd (a0:Option Addr) (len0 cap0:Nat) (z0:List Int) (w:World) (w0:pC .u8 w a0 len0 cap0 z0):
 Calls Tryz.prog 4 #[.slice a0 len0 cap0] w fun e w'=>e=.returned (.bool true)/\Below w.heap.size w w':=by
 obtain ⟨hr,hl,hwf,hml⟩:=w0.reads;generalize z0.take len0=zs at hr hl hwf;unfold maxLen at hml;have hby:=qA hwf;clear w0 hwf;by_cases hbig:len0<=1048576
 rotate_left
 . go_enter Tryz.func4,Tryz.ntmps4
   go_wp2_with fail
   refine (sG _ _ _ _).mono ?_
   rintro e wb ⟨rfl,rfl⟩;go_wp2
   go_ret
   exact ⟨rfl,Below.refl _ _⟩
 have hlb:len0<=2097152:=by omega
 have HBY:=aa hby;clear hby;go_enter Tryz.func4,Tryz.ntmps4
 go_wp2_with fail
 refine (sG _ _ _ _).mono ?_
 rintro e wb ⟨rfl,rfl⟩;go_wp2_with fail
 refine (jr _ _ _ _ zs hl hr HBY.out hlb).mono ?_
 rintro e w1 ⟨v,s,au,cu,us,fr,rfl,⟨x1,ms1,ds1,vm1,vd1,cvm1,cvd1,fd1,rfl,hm,hd,_,hwt1,hb⟩,hu,hul⟩;have B_1:=aa (hb);have HR_1:=aa (hr.below hb);have M1_1:=aa (hm.rd);have D1_1:=aa (hd.rd);have U_1:=aa (hu);clear hu;clear hm hd hb;have hw1:aM ms1 ds1<=1048576:=by omega
 clear hwt1;unfold aC;have ba:Below w1.heap.size w1 (w1.alloc (.cells #[.int .i64 x1.id,.int .i64 x1.n,.int .i64 x1.s,.slice vm1 ms1.length cvm1,.int .i64 x1.lost,.int .i64 x1.vG,.int .i64 x1.seq,.int .i64 x1.tail,.int .i64 x1.gen,.slice vd1 ds1.length cvd1,.int .i64 x1.vI,.bool x1.down,.bool x1.vH] 29)):=(Below.refl _ _).alloc (Nat.le_refl _) _;have B_2:=aa (Below.andThen B_1.out ba);have HR_2:=aa (HR_1.out.below ba);have M1_2:=aa (M1_1.out.below ba);have D1_2:=aa (D1_1.out.below ba);have U_2:=aa (U_1.out.below ba);clear B_1 HR_1 M1_1 D1_1 U_1;clear ba;have T1_2:=aa (Box.new w1 29 #[.int .i64 x1.id,.int .i64 x1.n,.int .i64 x1.s,.slice vm1 ms1.length cvm1,.int .i64 x1.lost,.int .i64 x1.vG,.int .i64 x1.seq,.int .i64 x1.tail,.int .i64 x1.gen,.slice vd1 ds1.length cvd1,.int .i64 x1.vI,.bool x1.down,.bool x1.vH]);go_upto_region 4 with fail
 generalize w1.alloc (.cells #[.int .i64 x1.id,.int .i64 x1.n,.int .i64 x1.s,.slice vm1 ms1.length cvm1,.int .i64 x1.lost,.int .i64 x1.vG,.int .i64 x1.seq,.int .i64 x1.tail,.int .i64 x1.gen,.slice vd1 ds1.length cvd1,.int .i64 x1.vI,.bool x1.down,.bool x1.vH] 29)=w2 at B_2 HR_2 M1_2 D1_2 U_2 T1_2 ⊢;obtain ⟨b1,hb1⟩:∃b,w1.heap.size=b:=⟨_,rfl⟩;rw [hb1] at T1_2 ⊢;clear hb1;have hwq0:=qX (x:=x1) (s:=s) (zs:=us) hw1;obtain ⟨y1,ns1,hq0⟩:∃(y:al) (ns:List ai),bH x1 ms1 ds1 s us=(y,ns):=⟨_,_,rfl⟩;have HQ1:=aa hq0;have hwq1:aM ns1 ds1<=2097152:=by rw [hq0] at hwq0;exact hwq0
 clear hwq0 hq0;obtain ⟨sc,hsc⟩:∃sc,bI x1 ms1 ds1 s us=sc:=⟨_,rfl⟩;have HQC:=aa hsc;clear hsc;obtain ⟨k0,k1,k2,k3,k4,k5,k6,k7,k8,k9,k10,k11,k12⟩:=T1_2.out.cells13;go_wp2_with fail
 refine (js _ 171 101 90 x1 _ _ _ _ _ _ ms1 ds1 M1_2.out D1_2.out (by omega) s _ _ us fr U_2.out (by omega)).mono ?_
 rintro e w3 ho;clear k0 k1 k2 k3 k4 k5 k6 k7 k8 k9 k10 k11 k12;rw [HQ1.out,HQC.out] at ho;obtain ⟨a3,d3,c3,f3,rfl,oi,hb⟩:=ho;dsimp only at oi
 unfold aC;have B_3:=aa (Below.andThen B_2.out hb);have HR_3:=aa (HR_2.out.below hb);have M1_3:=aa (M1_2.out.below hb);have D1_3:=aa (D1_2.out.below hb);have U_3:=aa (U_2.out.below hb);have T1_3:=aa (T1_2.out.below hb T1_2.out.lt);clear B_2 HR_2 M1_2 D1_2 U_2 T1_2;have GM_3:=aa (oi.rdm);have GD_3:=aa (oi.rdd);clear oi hb;have ba:Below w3.heap.size w3 (w3.alloc (.cells #[.int .i64 y1.id,.int .i64 y1.n,.int .i64 y1.s,.slice a3 ns1.length c3,.int .i64 y1.lost,.int .i64 y1.vG,.int .i64 y1.seq,.int .i64 y1.tail,.int .i64 y1.gen,.slice d3 ds1.length f3,.int .i64 y1.vI,.bool y1.down,.bool y1.vH] 29)):=(Below.refl _ _).alloc (Nat.le_refl _) _;have B_4:=aa (Below.andThen B_3.out ba);have HR_4:=aa (HR_3.out.below ba);have M1_4:=aa (M1_3.out.below ba);have D1_4:=aa (D1_3.out.below ba);have U_4:=aa (U_3.out.below ba);have T1_4:=aa (T1_3.out.below ba T1_3.out.lt);have GM_4:=aa (GM_3.out.below ba);have GD_4:=aa (GD_3.out.below ba);clear B_3 HR_3 M1_3 D1_3 U_3 T1_3 GM_3 GD_3;clear ba;have TG_4:=aa (Box.new w3 29 #[.int .i64 y1.id,.int .i64 y1.n,.int .i64 y1.s,.slice a3 ns1.length c3,.int .i64 y1.lost,.int .i64 y1.vG,.int .i64 y1.seq,.int .i64 y1.tail,.int .i64 y1.gen,.slice d3 ds1.length f3,.int .i64 y1.vI,.bool y1.down,.bool y1.vH]);go_upto_region 5 with fail
 generalize w3.alloc (.cells #[.int .i64 y1.id,.int .i64 y1.n,.int .i64 y1.s,.slice a3 ns1.length c3,.int .i64 y1.lost,.int .i64 y1.vG,.int .i64 y1.seq,.int .i64 y1.tail,.int .i64 y1.gen,.slice d3 ds1.length f3,.int .i64 y1.vI,.bool y1.down,.bool y1.vH] 29)=w4 at B_4 HR_4 M1_4 D1_4 U_4 T1_4 GM_4 GD_4 TG_4 ⊢;obtain ⟨b6,hb6⟩:∃b,w3.heap.size=b:=⟨_,rfl⟩;rw [hb6] at TG_4 ⊢;clear hb6;obtain ⟨k0,k1,k2,k3,k4,k5,k6,k7,k8,k9,k10,k11,k12⟩:=T1_4.out.cells13;go_wp2_with fail
 refine (jt _ 171 101 90 x1 _ _ _ _ _ _ ms1 ds1 M1_4.out D1_4.out (by omega) s _ _ us fr U_4.out (by omega)).mono ?_
 rintro e w5 ho;clear k0 k1 k2 k3 k4 k5 k6 k7 k8 k9 k10 k11 k12;rw [HQ1.out,HQC.out] at ho;obtain ⟨a5,d5,c5,f5,rfl,oi,hb⟩:=ho;dsimp only at oi
 unfold aC;have B_5:=aa (Below.andThen B_4.out hb);have HR_5:=aa (HR_4.out.below hb);have M1_5:=aa (M1_4.out.below hb);have D1_5:=aa (D1_4.out.below hb);have U_5:=aa (U_4.out.below hb);have T1_5:=aa (T1_4.out.below hb T1_4.out.lt);have GM_5:=aa (GM_4.out.below hb);have GD_5:=aa (GD_4.out.below hb);have TG_5:=aa (TG_4.out.below hb TG_4.out.lt);clear B_4 HR_4 M1_4 D1_4 U_4 T1_4 GM_4 GD_4 TG_4;have HM_5:=aa (oi.rdm);have HD_5:=aa (oi.rdd);clear oi hb;clear T1_5 M1_5 D1_5 U_5;clear HQ1 HQC hw1;have ba:Below w5.heap.size w5 (w5.alloc (.cells #[.int .i64 y1.id,.int .i64 y1.n,.int .i64 y1.s,.slice a5 ns1.length c5,.int .i64 y1.lost,.int .i64 y1.vG,.int .i64 y1.seq,.int .i64 y1.tail,.int .i64 y1.gen,.slice d5 ds1.length f5,.int .i64 y1.vI,.bool y1.down,.bool y1.vH] 29)):=(Below.refl _ _).alloc (Nat.le_refl _) _;have B_6:=aa (Below.andThen B_5.out ba);have HR_6:=aa (HR_5.out.below ba);have GM_6:=aa (GM_5.out.below ba);have GD_6:=aa (GD_5.out.below ba);have TG_6:=aa (TG_5.out.below ba TG_5.out.lt);have HM_6:=aa (HM_5.out.below ba);have HD_6:=aa (HD_5.out.below ba);clear B_5 HR_5 GM_5 GD_5 TG_5 HM_5 HD_5;clear ba;have TH_6:=aa (Box.new w5 29 #[.int .i64 y1.id,.int .i64 y1.n,.int .i64 y1.s,.slice a5 ns1.length c5,.int .i64 y1.lost,.int .i64 y1.vG,.int .i64 y1.seq,.int .i64 y1.tail,.int .i64 y1.gen,.slice d5 ds1.length f5,.int .i64 y1.vI,.bool y1.down,.bool y1.vH]);go_upto_region 6 with fail
 generalize w5.alloc (.cells #[.int .i64 y1.id,.int .i64 y1.n,.int .i64 y1.s,.slice a5 ns1.length c5,.int .i64 y1.lost,.int .i64 y1.vG,.int .i64 y1.seq,.int .i64 y1.tail,.int .i64 y1.gen,.slice d5 ds1.length f5,.int .i64 y1.vI,.bool y1.down,.bool y1.vH] 29)=w6 at B_6 HR_6 GM_6 GD_6 TG_6 HM_6 HD_6 TH_6 ⊢;obtain ⟨b8,hb8⟩:∃b,w5.heap.size=b:=⟨_,rfl⟩;rw [hb8] at TH_6 ⊢;clear hb8;go_wp2_with fail
 refine (iE _ _ _ _ zs hl HR_6.out HBY.out hlb).mono ?_
 rintro e w7 ⟨v,rfl,⟨x2,ms2,ds2,vm2,vd2,cvm2,cvd2,fd2,rfl,hm,hd,_,hwt2,hb⟩⟩;have B_7:=aa (Below.andThen B_6.out hb);have HR_7:=aa (HR_6.out.below hb);have GM_7:=aa (GM_6.out.below hb);have GD_7:=aa (GD_6.out.below hb);have TG_7:=aa (TG_6.out.below hb TG_6.out.lt);have HM_7:=aa (HM_6.out.below hb);have HD_7:=aa (HD_6.out.below hb);have TH_7:=aa (TH_6.out.below hb TH_6.out.lt);clear B_6 HR_6 GM_6 GD_6 TG_6 HM_6 HD_6 TH_6;have M2_7:=aa (hm.rd);have D2_7:=aa (hd.rd);clear hm hd hb;have hw2:aM ms2 ds2<=1048576:=by omega
 clear hwt2;unfold aC;have ba:Below w7.heap.size w7 (w7.alloc (.cells #[.int .i64 x2.id,.int .i64 x2.n,.int .i64 x2.s,.slice vm2 ms2.length cvm2,.int .i64 x2.lost,.int .i64 x2.vG,.int .i64 x2.seq,.int .i64 x2.tail,.int .i64 x2.gen,.slice vd2 ds2.length cvd2,.int .i64 x2.vI,.bool x2.down,.bool x2.vH] 29)):=(Below.refl _ _).alloc (Nat.le_refl _) _;have B_8:=aa (Below.andThen B_7.out ba);have HR_8:=aa (HR_7.out.below ba);have GM_8:=aa (GM_7.out.below ba);have GD_8:=aa (GD_7.out.below ba);have TG_8:=aa (TG_7.out.below ba TG_7.out.lt);have HM_8:=aa (HM_7.out.below ba);have HD_8:=aa (HD_7.out.below ba);have TH_8:=aa (TH_7.out.below ba TH_7.out.lt);have M2_8:=aa (M2_7.out.below ba);have D2_8:=aa (D2_7.out.below ba);clear B_7 HR_7 GM_7 GD_7 TG_7 HM_7 HD_7 TH_7 M2_7 D2_7;clear ba;have T2_8:=aa (Box.new w7 29 #[.int .i64 x2.id,.int .i64 x2.n,.int .i64 x2.s,.slice vm2 ms2.length cvm2,.int .i64 x2.lost,.int .i64 x2.vG,.int .i64 x2.seq,.int .i64 x2.tail,.int .i64 x2.gen,.slice vd2 ds2.length cvd2,.int .i64 x2.vI,.bool x2.down,.bool x2.vH]);go_upto_region 7 with fail
 generalize w7.alloc (.cells #[.int .i64 x2.id,.int .i64 x2.n,.int .i64 x2.s,.slice vm2 ms2.length cvm2,.int .i64 x2.lost,.int .i64 x2.vG,.int .i64 x2.seq,.int .i64 x2.tail,.int .i64 x2.gen,.slice vd2 ds2.length cvd2,.int .i64 x2.vI,.bool x2.down,.bool x2.vH] 29)=w8 at B_8 HR_8 GM_8 GD_8 TG_8 HM_8 HD_8 TH_8 M2_8 D2_8 T2_8 ⊢;obtain ⟨b2,hb2⟩:∃b,w7.heap.size=b:=⟨_,rfl⟩;rw [hb2] at T2_8 ⊢;clear hb2;go_wp2_with fail
 refine (pp _ _ _ _ zs hl HR_8.out HBY.out hlb).mono ?_
 rintro e w9 ⟨v,rfl,⟨x3,ms3,ds3,vm3,vd3,cvm3,cvd3,fd3,rfl,hm,hd,_,hwt3,hb⟩⟩;have B_9:=aa (Below.andThen B_8.out hb);have HR_9:=aa (HR_8.out.below hb);have GM_9:=aa (GM_8.out.below hb);have GD_9:=aa (GD_8.out.below hb);have TG_9:=aa (TG_8.out.below hb TG_8.out.lt);have HM_9:=aa (HM_8.out.below hb);have HD_9:=aa (HD_8.out.below hb);have TH_9:=aa (TH_8.out.below hb TH_8.out.lt);have M2_9:=aa (M2_8.out.below hb);have D2_9:=aa (D2_8.out.below hb);have T2_9:=aa (T2_8.out.below hb T2_8.out.lt);clear B_8 HR_8 GM_8 GD_8 TG_8 HM_8 HD_8 TH_8 M2_8 D2_8 T2_8;have M3_9:=aa (hm.rd);have D3_9:=aa (hd.rd);clear hm hd hb;have hw3:aM ms3 ds3<=1048576:=by omega
 clear hwt3;unfold aC;have ba:Below w9.heap.size w9 (w9.alloc (.cells #[.int .i64 x3.id,.int .i64 x3.n,.int .i64 x3.s,.slice vm3 ms3.length cvm3,.int .i64 x3.lost,.int .i64 x3.vG,.int .i64 x3.seq,.int .i64 x3.tail,.int .i64 x3.gen,.slice vd3 ds3.length cvd3,.int .i64 x3.vI,.bool x3.down,.bool x3.vH] 29)):=(Below.refl _ _).alloc (Nat.le_refl _) _;have B_10:=aa (Below.andThen B_9.out ba);have HR_10:=aa (HR_9.out.below ba);have GM_10:=aa (GM_9.out.below ba);have GD_10:=aa (GD_9.out.below ba);have TG_10:=aa (TG_9.out.below ba TG_9.out.lt);have HM_10:=aa (HM_9.out.below ba);have HD_10:=aa (HD_9.out.below ba);have TH_10:=aa (TH_9.out.below ba TH_9.out.lt);have M2_10:=aa (M2_9.out.below ba);have D2_10:=aa (D2_9.out.below ba);have T2_10:=aa (T2_9.out.below ba T2_9.out.lt);have M3_10:=aa (M3_9.out.below ba);have D3_10:=aa (D3_9.out.below ba);clear B_9 HR_9 GM_9 GD_9 TG_9 HM_9 HD_9 TH_9 M2_9 D2_9 T2_9 M3_9 D3_9;clear ba;have T3_10:=aa (Box.new w9 29 #[.int .i64 x3.id,.int .i64 x3.n,.int .i64 x3.s,.slice vm3 ms3.length cvm3,.int .i64 x3.lost,.int .i64 x3.vG,.int .i64 x3.seq,.int .i64 x3.tail,.int .i64 x3.gen,.slice vd3 ds3.length cvd3,.int .i64 x3.vI,.bool x3.down,.bool x3.vH]);go_upto_region 8 with fail
 generalize w9.alloc (.cells #[.int .i64 x3.id,.int .i64 x3.n,.int .i64 x3.s,.slice vm3 ms3.length cvm3,.int .i64 x3.lost,.int .i64 x3.vG,.int .i64 x3.seq,.int .i64 x3.tail,.int .i64 x3.gen,.slice vd3 ds3.length cvd3,.int .i64 x3.vI,.bool x3.down,.bool x3.vH] 29)=w10 at B_10 HR_10 GM_10 GD_10 TG_10 HM_10 HD_10 TH_10 M2_10 D2_10 T2_10 M3_10 D3_10 T3_10 ⊢;obtain ⟨b3,hb3⟩:∃b,w9.heap.size=b:=⟨_,rfl⟩;rw [hb3] at T3_10 ⊢;clear hb3;go_wp2_with fail
 refine (ny _ _ _ _ zs hl HR_10.out HBY.out hlb).mono ?_
 rintro e w11 ⟨v,rfl,⟨x4,ms4,ds4,vm4,vd4,cvm4,cvd4,fd4,rfl,hm,hd,_,hwt4,hb⟩⟩;have B_11:=aa (Below.andThen B_10.out hb);have HR_11:=aa (HR_10.out.below hb);have GM_11:=aa (GM_10.out.below hb);have GD_11:=aa (GD_10.out.below hb);have TG_11:=aa (TG_10.out.below hb TG_10.out.lt);have HM_11:=aa (HM_10.out.below hb);have HD_11:=aa (HD_10.out.below hb);have TH_11:=aa (TH_10.out.below hb TH_10.out.lt);have M2_11:=aa (M2_10.out.below hb);have D2_11:=aa (D2_10.out.below hb);have T2_11:=aa (T2_10.out.below hb T2_10.out.lt);have M3_11:=aa (M3_10.out.below hb);have D3_11:=aa (D3_10.out.below hb);have T3_11:=aa (T3_10.out.below hb T3_10.out.lt);clear B_10 HR_10 GM_10 GD_10 TG_10 HM_10 HD_10 TH_10 M2_10 D2_10 T2_10 M3_10 D3_10 T3_10;have M4_11:=aa (hm.rd);have D4_11:=aa (hd.rd);clear hm hd hb;have hw4:aM ms4 ds4<=1048576:=by omega
 clear hwt4;unfold aC;have ba:Below w11.heap.size w11 (w11.alloc (.cells #[.int .i64 x4.id,.int .i64 x4.n,.int .i64 x4.s,.slice vm4 ms4.length cvm4,.int .i64 x4.lost,.int .i64 x4.vG,.int .i64 x4.seq,.int .i64 x4.tail,.int .i64 x4.gen,.slice vd4 ds4.length cvd4,.int .i64 x4.vI,.bool x4.down,.bool x4.vH] 29)):=(Below.refl _ _).alloc (Nat.le_refl _) _;have B_12:=aa (Below.andThen B_11.out ba);have HR_12:=aa (HR_11.out.below ba);have GM_12:=aa (GM_11.out.below ba);have GD_12:=aa (GD_11.out.below ba);have TG_12:=aa (TG_11.out.below ba TG_11.out.lt);have HM_12:=aa (HM_11.out.below ba);have HD_12:=aa (HD_11.out.below ba);have TH_12:=aa (TH_11.out.below ba TH_11.out.lt);have M2_12:=aa (M2_11.out.below ba);have D2_12:=aa (D2_11.out.below ba);have T2_12:=aa (T2_11.out.below ba T2_11.out.lt);have M3_12:=aa (M3_11.out.below ba);have D3_12:=aa (D3_11.out.below ba);have T3_12:=aa (T3_11.out.below ba T3_11.out.lt);have M4_12:=aa (M4_11.out.below ba);have D4_12:=aa (D4_11.out.below ba);clear B_11 HR_11 GM_11 GD_11 TG_11 HM_11 HD_11 TH_11 M2_11 D2_11 T2_11 M3_11 D3_11 T3_11 M4_11 D4_11;clear ba;have T4_12:=aa (Box.new w11 29 #[.int .i64 x4.id,.int .i64 x4.n,.int .i64 x4.s,.slice vm4 ms4.length cvm4,.int .i64 x4.lost,.int .i64 x4.vG,.int .i64 x4.seq,.int .i64 x4.tail,.int .i64 x4.gen,.slice vd4 ds4.length cvd4,.int .i64 x4.vI,.bool x4.down,.bool x4.vH]);go_upto_region 9 with fail
 generalize w11.alloc (.cells #[.int .i64 x4.id,.int .i64 x4.n,.int .i64 x4.s,.slice vm4 ms4.length cvm4,.int .i64 x4.lost,.int .i64 x4.vG,.int .i64 x4.seq,.int .i64 x4.tail,.int .i64 x4.gen,.slice vd4 ds4.length cvd4,.int .i64 x4.vI,.bool x4.down,.bool x4.vH] 29)=w12 at B_12 HR_12 GM_12 GD_12 TG_12 HM_12 HD_12 TH_12 M2_12 D2_12 T2_12 M3_12 D3_12 T3_12 M4_12 D4_12 T4_12 ⊢;obtain ⟨b4,hb4⟩:∃b,w11.heap.size=b:=⟨_,rfl⟩;rw [hb4] at T4_12 ⊢;clear hb4;have hwq0:=ud (x:=x2) hw2;obtain ⟨y2,ns2,hq0⟩:∃(y:al) (ns:List ai),hJ x2 ms2 ds2=(y,ns):=⟨_,_,rfl⟩;have HQ2:=aa hq0;have hwq2:aM ns2 ds2<=2097152:=by rw [hq0] at hwq0;exact hwq0
 clear hwq0 hq0;have hw2b:aM ms2 ds2<=2097152:=by omega
 have hwq0:=ue (x:=x3) hw3;obtain ⟨y3,ns3,hq0⟩:∃(y:al) (ns:List ai),gd x3 ms3 ds3=(y,ns):=⟨_,_,rfl⟩;have HQ3:=aa hq0;have hwq3:aM ns3 ds3<=2097152:=by rw [hq0] at hwq0;exact hwq0
 clear hwq0 hq0;have hw3b:aM ms3 ds3<=2097152:=by omega
 have hwq0:=sS (x:=x4) hw4;obtain ⟨y4,ns4,hq0⟩:∃(y:al) (ns:List ai),eo x4 ms4 ds4=(y,ns):=⟨_,_,rfl⟩;have HQ4:=aa hq0;have hwq4:aM ns4 ds4<=2097152:=by rw [hq0] at hwq0;exact hwq0
 clear hwq0 hq0;have hw4b:aM ms4 ds4<=2097152:=by omega
 go_wp2_with fail
 refine wp_region_held_drew (S:=fun w'=>(w'.cell? ⟨b6,0,none⟩=some (.int .i64 y1.id)/\w'.cell? ⟨b6,1,none⟩=some (.int .i64 y1.n)/\w'.cell? ⟨b6,2,none⟩=some (.int .i64 y1.s)/\w'.cell? ⟨b6,3,none⟩=some (.slice a3 ns1.length c3)/\w'.cell? ⟨b6,4,none⟩=some (.int .i64 y1.lost)/\w'.cell? ⟨b6,5,none⟩=some (.int .i64 y1.vG)/\w'.cell? ⟨b6,6,none⟩=some (.int .i64 y1.seq)/\w'.cell? ⟨b6,7,none⟩=some (.int .i64 y1.tail)/\w'.cell? ⟨b6,8,none⟩=some (.int .i64 y1.gen)/\w'.cell? ⟨b6,9,none⟩=some (.slice d3 ds1.length f3)/\w'.cell? ⟨b6,10,none⟩=some (.int .i64 y1.vI)/\w'.cell? ⟨b6,11,none⟩=some (.bool y1.down)/\w'.cell? ⟨b6,12,none⟩=some (.bool y1.vH))/\(w'.cell? ⟨b8,0,none⟩=some (.int .i64 y1.id)/\w'.cell? ⟨b8,1,none⟩=some (.int .i64 y1.n)/\w'.cell? ⟨b8,2,none⟩=some (.int .i64 y1.s)/\w'.cell? ⟨b8,3,none⟩=some (.slice a5 ns1.length c5)/\w'.cell? ⟨b8,4,none⟩=some (.int .i64 y1.lost)/\w'.cell? ⟨b8,5,none⟩=some (.int .i64 y1.vG)/\w'.cell? ⟨b8,6,none⟩=some (.int .i64 y1.seq)/\w'.cell? ⟨b8,7,none⟩=some (.int .i64 y1.tail)/\w'.cell? ⟨b8,8,none⟩=some (.int .i64 y1.gen)/\w'.cell? ⟨b8,9,none⟩=some (.slice d5 ds1.length f5)/\w'.cell? ⟨b8,10,none⟩=some (.int .i64 y1.vI)/\w'.cell? ⟨b8,11,none⟩=some (.bool y1.down)/\w'.cell? ⟨b8,12,none⟩=some (.bool y1.vH))/\(w'.cell? ⟨b2,0,none⟩=some (.int .i64 x2.id)/\w'.cell? ⟨b2,1,none⟩=some (.int .i64 x2.n)/\w'.cell? ⟨b2,2,none⟩=some (.int .i64 x2.s)/\w'.cell? ⟨b2,3,none⟩=some (.slice vm2 ms2.length cvm2)/\w'.cell? ⟨b2,4,none⟩=some (.int .i64 x2.lost)/\w'.cell? ⟨b2,5,none⟩=some (.int .i64 x2.vG)/\w'.cell? ⟨b2,6,none⟩=some (.int .i64 x2.seq)/\w'.cell? ⟨b2,7,none⟩=some (.int .i64 x2.tail)/\w'.cell? ⟨b2,8,none⟩=some (.int .i64 x2.gen)/\w'.cell? ⟨b2,9,none⟩=some (.slice vd2 ds2.length cvd2)/\w'.cell? ⟨b2,10,none⟩=some (.int .i64 x2.vI)/\w'.cell? ⟨b2,11,none⟩=some (.bool x2.down)/\w'.cell? ⟨b2,12,none⟩=some (.bool x2.vH))/\(w'.cell? ⟨b3,0,none⟩=some (.int .i64 x3.id)/\w'.cell? ⟨b3,1,none⟩=some (.int .i64 x3.n)/\w'.cell? ⟨b3,2,none⟩=some (.int .i64 x3.s)/\w'.cell? ⟨b3,3,none⟩=some (.slice vm3 ms3.length cvm3)/\w'.cell? ⟨b3,4,none⟩=some (.int .i64 x3.lost)/\w'.cell? ⟨b3,5,none⟩=some (.int .i64 x3.vG)/\w'.cell? ⟨b3,6,none⟩=some (.int .i64 x3.seq)/\w'.cell? ⟨b3,7,none⟩=some (.int .i64 x3.tail)/\w'.cell? ⟨b3,8,none⟩=some (.int .i64 x3.gen)/\w'.cell? ⟨b3,9,none⟩=some (.slice vd3 ds3.length cvd3)/\w'.cell? ⟨b3,10,none⟩=some (.int .i64 x3.vI)/\w'.cell? ⟨b3,11,none⟩=some (.bool x3.down)/\w'.cell? ⟨b3,12,none⟩=some (.bool x3.vH))/\(w'.cell? ⟨b4,0,none⟩=some (.int .i64 x4.id)/\w'.cell? ⟨b4,1,none⟩=some (.int .i64 x4.n)/\w'.cell? ⟨b4,2,none⟩=some (.int .i64 x4.s)/\w'.cell? ⟨b4,3,none⟩=some (.slice vm4 ms4.length cvm4)/\w'.cell? ⟨b4,4,none⟩=some (.int .i64 x4.lost)/\w'.cell? ⟨b4,5,none⟩=some (.int .i64 x4.vG)/\w'.cell? ⟨b4,6,none⟩=some (.int .i64 x4.seq)/\w'.cell? ⟨b4,7,none⟩=some (.int .i64 x4.tail)/\w'.cell? ⟨b4,8,none⟩=some (.int .i64 x4.gen)/\w'.cell? ⟨b4,9,none⟩=some (.slice vd4 ds4.length cvd4)/\w'.cell? ⟨b4,10,none⟩=some (.int .i64 x4.vI)/\w'.cell? ⟨b4,11,none⟩=some (.bool x4.down)/\w'.cell? ⟨b4,12,none⟩=some (.bool x4.vH))) (by kernel_rfl) ?_ (fun vF=>?_)
 . exact ⟨TG_12.out.cells13,TH_12.out.cells13,T2_12.out.cells13,T3_12.out.cells13,T4_12.out.cells13⟩
 clear vF;have bd:Below w12.heap.size w12 w12.drew:=(Below.refl _ _).drew;have B_13:=aa (Below.andThen B_12.out bd);have HR_13:=aa (HR_12.out.below bd);have GM_13:=aa (GM_12.out.below bd);have GD_13:=aa (GD_12.out.below bd);have TG_13:=aa (TG_12.out.below bd TG_12.out.lt);have HM_13:=aa (HM_12.out.below bd);have HD_13:=aa (HD_12.out.below bd);have TH_13:=aa (TH_12.out.below bd TH_12.out.lt);have M2_13:=aa (M2_12.out.below bd);have D2_13:=aa (D2_12.out.below bd);have T2_13:=aa (T2_12.out.below bd T2_12.out.lt);have M3_13:=aa (M3_12.out.below bd);have D3_13:=aa (D3_12.out.below bd);have T3_13:=aa (T3_12.out.below bd T3_12.out.lt);have M4_13:=aa (M4_12.out.below bd);have D4_13:=aa (D4_12.out.below bd);have T4_13:=aa (T4_12.out.below bd T4_12.out.lt);clear B_12 HR_12 GM_12 GD_12 TG_12 HM_12 HD_12 TH_12 M2_12 D2_12 T2_12 M3_12 D3_12 T3_12 M4_12 D4_12 T4_12;clear bd;generalize w12.drew=w13 at B_13 HR_13 GM_13 GD_13 TG_13 HM_13 HD_13 TH_13 M2_13 D2_13 T2_13 M3_13 D3_13 T3_13 M4_13 D4_13 T4_13 ⊢;refine ab 0 (⟨TG_13.out.cells13,TH_13.out.cells13,T2_13.out.cells13,T3_13.out.cells13,T4_13.out.cells13⟩) ?_
 refine ab 1 (⟨TG_13.out.cells13,TH_13.out.cells13,T2_13.out.cells13,T3_13.out.cells13,T4_13.out.cells13⟩) ?_
 refine ab 2 (⟨TG_13.out.cells13,TH_13.out.cells13,T2_13.out.cells13,T3_13.out.cells13,T4_13.out.cells13⟩) ?_
 refine ab 3 (⟨TG_13.out.cells13,TH_13.out.cells13,T2_13.out.cells13,T3_13.out.cells13,T4_13.out.cells13⟩) ?_
 refine ab 4 (⟨TG_13.out.cells13,TH_13.out.cells13,T2_13.out.cells13,T3_13.out.cells13,T4_13.out.cells13⟩) ?_
 refine ab 5 (⟨TG_13.out.cells13,TH_13.out.cells13,T2_13.out.cells13,T3_13.out.cells13,T4_13.out.cells13⟩) ?_
 refine aq (i:=6) (by kernel_rfl) rfl (by kernel_rfl) (fun K hK=>?_)
 go_simp
 refine (fM _ 171 171 101 101 90 90 y1 _ _ _ _ _ _ _ _ _ _ _ _ ns1 ds1 GM_13.out GD_13.out HM_13.out HD_13.out hwq1).mono ?_
 rintro e w14 ⟨rfl,hb⟩;have B_14:=aa (Below.andThen B_13.out hb);have HR_14:=aa (HR_13.out.below hb);have GM_14:=aa (GM_13.out.below hb);have GD_14:=aa (GD_13.out.below hb);have TG_14:=aa (TG_13.out.below hb TG_13.out.lt);have HM_14:=aa (HM_13.out.below hb);have HD_14:=aa (HD_13.out.below hb);have TH_14:=aa (TH_13.out.below hb TH_13.out.lt);have M2_14:=aa (M2_13.out.below hb);have D2_14:=aa (D2_13.out.below hb);have T2_14:=aa (T2_13.out.below hb T2_13.out.lt);have M3_14:=aa (M3_13.out.below hb);have D3_14:=aa (D3_13.out.below hb);have T3_14:=aa (T3_13.out.below hb T3_13.out.lt);have M4_14:=aa (M4_13.out.below hb);have D4_14:=aa (D4_13.out.below hb);have T4_14:=aa (T4_13.out.below hb T4_13.out.lt);clear B_13 HR_13 GM_13 GD_13 TG_13 HM_13 HD_13 TH_13 M2_13 D2_13 T2_13 M3_13 D3_13 T3_13 M4_13 D4_13 T4_13;clear hb;clear GM_14 GD_14 HM_14 HD_14;go_wp2_with fail
 refine hK.out _ _ ?_ (fun vF=>?_)
 . exact ⟨TG_14.out.cells13,TH_14.out.cells13,T2_14.out.cells13,T3_14.out.cells13,T4_14.out.cells13⟩
 clear hK K vF;refine ab 7 (⟨TG_14.out.cells13,TH_14.out.cells13,T2_14.out.cells13,T3_14.out.cells13,T4_14.out.cells13⟩) ?_
 refine ab 8 (⟨TG_14.out.cells13,TH_14.out.cells13,T2_14.out.cells13,T3_14.out.cells13,T4_14.out.cells13⟩) ?_
 refine ab 9 (⟨TG_14.out.cells13,TH_14.out.cells13,T2_14.out.cells13,T3_14.out.cells13,T4_14.out.cells13⟩) ?_
 refine ab 11 (⟨TG_14.out.cells13,TH_14.out.cells13,T2_14.out.cells13,T3_14.out.cells13,T4_14.out.cells13⟩) ?_
 refine aq (i:=10) (by kernel_rfl) rfl (by kernel_rfl) (fun K hK=>?_)
 go_simp
 refine (pw _ 171 101 90 x2 _ _ _ _ _ _ ms2 ds2 M2_14.out D2_14.out hw2b).mono ?_
 rintro e w15 ho;rw [HQ2.out] at ho;obtain ⟨a15,d15,c15,f15,rfl,oi,hb⟩:=ho;dsimp only at oi
 unfold aC;have B_15:=aa (Below.andThen B_14.out hb);have HR_15:=aa (HR_14.out.below hb);have TG_15:=aa (TG_14.out.below hb TG_14.out.lt);have TH_15:=aa (TH_14.out.below hb TH_14.out.lt);have M2_15:=aa (M2_14.out.below hb);have D2_15:=aa (D2_14.out.below hb);have T2_15:=aa (T2_14.out.below hb T2_14.out.lt);have M3_15:=aa (M3_14.out.below hb);have D3_15:=aa (D3_14.out.below hb);have T3_15:=aa (T3_14.out.below hb T3_14.out.lt);have M4_15:=aa (M4_14.out.below hb);have D4_15:=aa (D4_14.out.below hb);have T4_15:=aa (T4_14.out.below hb T4_14.out.lt);clear B_14 HR_14 TG_14 TH_14 M2_14 D2_14 T2_14 M3_14 D3_14 T3_14 M4_14 D4_14 T4_14;have P2M_15:=aa (oi.rdm);have P2D_15:=aa (oi.rdd);clear oi hb;go_wp2_with fail
 refine hK.out _ _ ?_ (fun vF=>?_)
 . exact ⟨TG_15.out.cells13,TH_15.out.cells13,T2_15.out.cells13,T3_15.out.cells13,T4_15.out.cells13⟩
 clear hK K vF;refine aq (i:=12) (by kernel_rfl) rfl (by kernel_rfl) (fun K hK=>?_)
 go_simp
 refine (py _ 171 101 90 x2 _ _ _ _ _ _ ms2 ds2 M2_15.out D2_15.out hw2b).mono ?_
 rintro e w16 ho;rw [HQ2.out] at ho;obtain ⟨a16,d16,c16,f16,rfl,oi,hb⟩:=ho;dsimp only at oi
 unfold aC;have B_16:=aa (Below.andThen B_15.out hb);have HR_16:=aa (HR_15.out.below hb);have TG_16:=aa (TG_15.out.below hb TG_15.out.lt);have TH_16:=aa (TH_15.out.below hb TH_15.out.lt);have M2_16:=aa (M2_15.out.below hb);have D2_16:=aa (D2_15.out.below hb);have T2_16:=aa (T2_15.out.below hb T2_15.out.lt);have M3_16:=aa (M3_15.out.below hb);have D3_16:=aa (D3_15.out.below hb);have T3_16:=aa (T3_15.out.below hb T3_15.out.lt);have M4_16:=aa (M4_15.out.below hb);have D4_16:=aa (D4_15.out.below hb);have T4_16:=aa (T4_15.out.below hb T4_15.out.lt);have P2M_16:=aa (P2M_15.out.below hb);have P2D_16:=aa (P2D_15.out.below hb);clear B_15 HR_15 TG_15 TH_15 M2_15 D2_15 T2_15 M3_15 D3_15 T3_15 M4_15 D4_15 T4_15 P2M_15 P2D_15;have S2M_16:=aa (oi.rdm);have S2D_16:=aa (oi.rdd);clear oi hb;go_wp2_with fail
 refine hK.out _ _ ?_ (fun vF=>?_)
 . exact ⟨TG_16.out.cells13,TH_16.out.cells13,T2_16.out.cells13,T3_16.out.cells13,T4_16.out.cells13⟩
 clear hK K vF;refine aq (i:=13) (by kernel_rfl) rfl (by kernel_rfl) (fun K hK=>?_)
 go_simp
 refine (fM _ 171 171 101 101 90 90 y2 _ _ _ _ _ _ _ _ _ _ _ _ ns2 ds2 P2M_16.out P2D_16.out S2M_16.out S2D_16.out hwq2).mono ?_
 rintro e w17 ⟨rfl,hb⟩;have B_17:=aa (Below.andThen B_16.out hb);have HR_17:=aa (HR_16.out.below hb);have TG_17:=aa (TG_16.out.below hb TG_16.out.lt);have TH_17:=aa (TH_16.out.below hb TH_16.out.lt);have M2_17:=aa (M2_16.out.below hb);have D2_17:=aa (D2_16.out.below hb);have T2_17:=aa (T2_16.out.below hb T2_16.out.lt);have M3_17:=aa (M3_16.out.below hb);have D3_17:=aa (D3_16.out.below hb);have T3_17:=aa (T3_16.out.below hb T3_16.out.lt);have M4_17:=aa (M4_16.out.below hb);have D4_17:=aa (D4_16.out.below hb);have T4_17:=aa (T4_16.out.below hb T4_16.out.lt);have P2M_17:=aa (P2M_16.out.below hb);have P2D_17:=aa (P2D_16.out.below hb);have S2M_17:=aa (S2M_16.out.below hb);have S2D_17:=aa (S2D_16.out.below hb);clear B_16 HR_16 TG_16 TH_16 M2_16 D2_16 T2_16 M3_16 D3_16 T3_16 M4_16 D4_16 T4_16 P2M_16 P2D_16 S2M_16 S2D_16;clear hb;clear P2M_17 P2D_17 S2M_17 S2D_17;go_wp2_with fail
 refine hK.out _ _ ?_ (fun vF=>?_)
 . exact ⟨TG_17.out.cells13,TH_17.out.cells13,T2_17.out.cells13,T3_17.out.cells13,T4_17.out.cells13⟩
 clear hK K vF;refine ab 14 (⟨TG_17.out.cells13,TH_17.out.cells13,T2_17.out.cells13,T3_17.out.cells13,T4_17.out.cells13⟩) ?_
 refine ab 15 (⟨TG_17.out.cells13,TH_17.out.cells13,T2_17.out.cells13,T3_17.out.cells13,T4_17.out.cells13⟩) ?_
 refine ab 16 (⟨TG_17.out.cells13,TH_17.out.cells13,T2_17.out.cells13,T3_17.out.cells13,T4_17.out.cells13⟩) ?_
 refine ab 18 (⟨TG_17.out.cells13,TH_17.out.cells13,T2_17.out.cells13,T3_17.out.cells13,T4_17.out.cells13⟩) ?_
 refine aq (i:=17) (by kernel_rfl) rfl (by kernel_rfl) (fun K hK=>?_)
 go_simp
 refine (px _ 171 101 90 x3 _ _ _ _ _ _ ms3 ds3 M3_17.out D3_17.out hw3b).mono ?_
 rintro e w18 ho;rw [HQ3.out] at ho;obtain ⟨a18,d18,c18,f18,rfl,oi,hb⟩:=ho;dsimp only at oi
 unfold aC;have B_18:=aa (Below.andThen B_17.out hb);have HR_18:=aa (HR_17.out.below hb);have TG_18:=aa (TG_17.out.below hb TG_17.out.lt);have TH_18:=aa (TH_17.out.below hb TH_17.out.lt);have M2_18:=aa (M2_17.out.below hb);have D2_18:=aa (D2_17.out.below hb);have T2_18:=aa (T2_17.out.below hb T2_17.out.lt);have M3_18:=aa (M3_17.out.below hb);have D3_18:=aa (D3_17.out.below hb);have T3_18:=aa (T3_17.out.below hb T3_17.out.lt);have M4_18:=aa (M4_17.out.below hb);have D4_18:=aa (D4_17.out.below hb);have T4_18:=aa (T4_17.out.below hb T4_17.out.lt);clear B_17 HR_17 TG_17 TH_17 M2_17 D2_17 T2_17 M3_17 D3_17 T3_17 M4_17 D4_17 T4_17;have P3M_18:=aa (oi.rdm);have P3D_18:=aa (oi.rdd);clear oi hb;go_wp2_with fail
 refine hK.out _ _ ?_ (fun vF=>?_)
 . exact ⟨TG_18.out.cells13,TH_18.out.cells13,T2_18.out.cells13,T3_18.out.cells13,T4_18.out.cells13⟩
 clear hK K vF;refine aq (i:=19) (by kernel_rfl) rfl (by kernel_rfl) (fun K hK=>?_)
 go_simp
 refine (pz _ 171 101 90 x3 _ _ _ _ _ _ ms3 ds3 M3_18.out D3_18.out hw3b).mono ?_
 rintro e w19 ho;rw [HQ3.out] at ho;obtain ⟨a19,d19,c19,f19,rfl,oi,hb⟩:=ho;dsimp only at oi
 unfold aC;have B_19:=aa (Below.andThen B_18.out hb);have HR_19:=aa (HR_18.out.below hb);have TG_19:=aa (TG_18.out.below hb TG_18.out.lt);have TH_19:=aa (TH_18.out.below hb TH_18.out.lt);have M2_19:=aa (M2_18.out.below hb);have D2_19:=aa (D2_18.out.below hb);have T2_19:=aa (T2_18.out.below hb T2_18.out.lt);have M3_19:=aa (M3_18.out.below hb);have D3_19:=aa (D3_18.out.below hb);have T3_19:=aa (T3_18.out.below hb T3_18.out.lt);have M4_19:=aa (M4_18.out.below hb);have D4_19:=aa (D4_18.out.below hb);have T4_19:=aa (T4_18.out.below hb T4_18.out.lt);have P3M_19:=aa (P3M_18.out.below hb);have P3D_19:=aa (P3D_18.out.below hb);clear B_18 HR_18 TG_18 TH_18 M2_18 D2_18 T2_18 M3_18 D3_18 T3_18 M4_18 D4_18 T4_18 P3M_18 P3D_18;have S3M_19:=aa (oi.rdm);have S3D_19:=aa (oi.rdd);clear oi hb;go_wp2_with fail
 refine hK.out _ _ ?_ (fun vF=>?_)
 . exact ⟨TG_19.out.cells13,TH_19.out.cells13,T2_19.out.cells13,T3_19.out.cells13,T4_19.out.cells13⟩
 clear hK K vF;refine aq (i:=20) (by kernel_rfl) rfl (by kernel_rfl) (fun K hK=>?_)
 go_simp
 refine (fM _ 171 171 101 101 90 90 y3 _ _ _ _ _ _ _ _ _ _ _ _ ns3 ds3 P3M_19.out P3D_19.out S3M_19.out S3D_19.out hwq3).mono ?_
 rintro e w20 ⟨rfl,hb⟩;have B_20:=aa (Below.andThen B_19.out hb);have HR_20:=aa (HR_19.out.below hb);have TG_20:=aa (TG_19.out.below hb TG_19.out.lt);have TH_20:=aa (TH_19.out.below hb TH_19.out.lt);have M2_20:=aa (M2_19.out.below hb);have D2_20:=aa (D2_19.out.below hb);have T2_20:=aa (T2_19.out.below hb T2_19.out.lt);have M3_20:=aa (M3_19.out.below hb);have D3_20:=aa (D3_19.out.below hb);have T3_20:=aa (T3_19.out.below hb T3_19.out.lt);have M4_20:=aa (M4_19.out.below hb);have D4_20:=aa (D4_19.out.below hb);have T4_20:=aa (T4_19.out.below hb T4_19.out.lt);have P3M_20:=aa (P3M_19.out.below hb);have P3D_20:=aa (P3D_19.out.below hb);have S3M_20:=aa (S3M_19.out.below hb);have S3D_20:=aa (S3D_19.out.below hb);clear B_19 HR_19 TG_19 TH_19 M2_19 D2_19 T2_19 M3_19 D3_19 T3_19 M4_19 D4_19 T4_19 P3M_19 P3D_19 S3M_19 S3D_19;clear hb;clear P3M_20 P3D_20 S3M_20 S3D_20;go_wp2_with fail
 refine hK.out _ _ ?_ (fun vF=>?_)
 . exact ⟨TG_20.out.cells13,TH_20.out.cells13,T2_20.out.cells13,T3_20.out.cells13,T4_20.out.cells13⟩
 clear hK K vF;refine ab 21 (⟨TG_20.out.cells13,TH_20.out.cells13,T2_20.out.cells13,T3_20.out.cells13,T4_20.out.cells13⟩) ?_
 refine ab 22 (⟨TG_20.out.cells13,TH_20.out.cells13,T2_20.out.cells13,T3_20.out.cells13,T4_20.out.cells13⟩) ?_
 refine ab 23 (⟨TG_20.out.cells13,TH_20.out.cells13,T2_20.out.cells13,T3_20.out.cells13,T4_20.out.cells13⟩) ?_
 refine ab 25 (⟨TG_20.out.cells13,TH_20.out.cells13,T2_20.out.cells13,T3_20.out.cells13,T4_20.out.cells13⟩) ?_
 refine aq (i:=24) (by kernel_rfl) rfl (by kernel_rfl) (fun K hK=>?_)
 go_simp
 refine (nK _ 171 101 90 x4 _ _ _ _ _ _ ms4 ds4 M4_20.out D4_20.out hw4b).mono ?_
 rintro e w21 ho;rw [HQ4.out] at ho;obtain ⟨a21,d21,c21,f21,rfl,oi,hb⟩:=ho;dsimp only at oi
 unfold aC;have B_21:=aa (Below.andThen B_20.out hb);have HR_21:=aa (HR_20.out.below hb);have TG_21:=aa (TG_20.out.below hb TG_20.out.lt);have TH_21:=aa (TH_20.out.below hb TH_20.out.lt);have M2_21:=aa (M2_20.out.below hb);have D2_21:=aa (D2_20.out.below hb);have T2_21:=aa (T2_20.out.below hb T2_20.out.lt);have M3_21:=aa (M3_20.out.below hb);have D3_21:=aa (D3_20.out.below hb);have T3_21:=aa (T3_20.out.below hb T3_20.out.lt);have M4_21:=aa (M4_20.out.below hb);have D4_21:=aa (D4_20.out.below hb);have T4_21:=aa (T4_20.out.below hb T4_20.out.lt);clear B_20 HR_20 TG_20 TH_20 M2_20 D2_20 T2_20 M3_20 D3_20 T3_20 M4_20 D4_20 T4_20;have P4M_21:=aa (oi.rdm);have P4D_21:=aa (oi.rdd);clear oi hb;go_wp2_with fail
 refine hK.out _ _ ?_ (fun vF=>?_)
 . exact ⟨TG_21.out.cells13,TH_21.out.cells13,T2_21.out.cells13,T3_21.out.cells13,T4_21.out.cells13⟩
 clear hK K vF;refine aq (i:=26) (by kernel_rfl) rfl (by kernel_rfl) (fun K hK=>?_)
 go_simp
 refine (nL _ 171 101 90 x4 _ _ _ _ _ _ ms4 ds4 M4_21.out D4_21.out hw4b).mono ?_
 rintro e w22 ho;rw [HQ4.out] at ho;obtain ⟨a22,d22,c22,f22,rfl,oi,hb⟩:=ho;dsimp only at oi
 unfold aC;have B_22:=aa (Below.andThen B_21.out hb);have HR_22:=aa (HR_21.out.below hb);have TG_22:=aa (TG_21.out.below hb TG_21.out.lt);have TH_22:=aa (TH_21.out.below hb TH_21.out.lt);have M2_22:=aa (M2_21.out.below hb);have D2_22:=aa (D2_21.out.below hb);have T2_22:=aa (T2_21.out.below hb T2_21.out.lt);have M3_22:=aa (M3_21.out.below hb);have D3_22:=aa (D3_21.out.below hb);have T3_22:=aa (T3_21.out.below hb T3_21.out.lt);have M4_22:=aa (M4_21.out.below hb);have D4_22:=aa (D4_21.out.below hb);have T4_22:=aa (T4_21.out.below hb T4_21.out.lt);have P4M_22:=aa (P4M_21.out.below hb);have P4D_22:=aa (P4D_21.out.below hb);clear B_21 HR_21 TG_21 TH_21 M2_21 D2_21 T2_21 M3_21 D3_21 T3_21 M4_21 D4_21 T4_21 P4M_21 P4D_21;have S4M_22:=aa (oi.rdm);have S4D_22:=aa (oi.rdd);clear oi hb;go_wp2_with fail
 refine hK.out _ _ ?_ (fun vF=>?_)
 . exact ⟨TG_22.out.cells13,TH_22.out.cells13,T2_22.out.cells13,T3_22.out.cells13,T4_22.out.cells13⟩
 clear hK K vF;refine aq (i:=27) (by kernel_rfl) rfl (by kernel_rfl) (fun K hK=>?_)
 go_simp
 refine (fM _ 171 171 101 101 90 90 y4 _ _ _ _ _ _ _ _ _ _ _ _ ns4 ds4 P4M_22.out P4D_22.out S4M_22.out S4D_22.out hwq4).mono ?_
 rintro e w23 ⟨rfl,hb⟩;have B_23:=aa (Below.andThen B_22.out hb);have HR_23:=aa (HR_22.out.below hb);have TG_23:=aa (TG_22.out.below hb TG_22.out.lt);have TH_23:=aa (TH_22.out.below hb TH_22.out.lt);have M2_23:=aa (M2_22.out.below hb);have D2_23:=aa (D2_22.out.below hb);have T2_23:=aa (T2_22.out.below hb T2_22.out.lt);have M3_23:=aa (M3_22.out.below hb);have D3_23:=aa (D3_22.out.below hb);have T3_23:=aa (T3_22.out.below hb T3_22.out.lt);have M4_23:=aa (M4_22.out.below hb);have D4_23:=aa (D4_22.out.below hb);have T4_23:=aa (T4_22.out.below hb T4_22.out.lt);have P4M_23:=aa (P4M_22.out.below hb);have P4D_23:=aa (P4D_22.out.below hb);have S4M_23:=aa (S4M_22.out.below hb);have S4D_23:=aa (S4D_22.out.below hb);clear B_22 HR_22 TG_22 TH_22 M2_22 D2_22 T2_22 M3_22 D3_22 T3_22 M4_22 D4_22 T4_22 P4M_22 P4D_22 S4M_22 S4D_22;clear hb;clear P4M_23 P4D_23 S4M_23 S4D_23;go_wp2_with fail
 refine hK.out _ _ ?_ (fun vF=>?_)
 . exact ⟨TG_23.out.cells13,TH_23.out.cells13,T2_23.out.cells13,T3_23.out.cells13,T4_23.out.cells13⟩
 clear hK K vF;refine ab 28 (⟨TG_23.out.cells13,TH_23.out.cells13,T2_23.out.cells13,T3_23.out.cells13,T4_23.out.cells13⟩) ?_
 refine ab 29 (⟨TG_23.out.cells13,TH_23.out.cells13,T2_23.out.cells13,T3_23.out.cells13,T4_23.out.cells13⟩) ?_
 refine wpAnyH_done (by kernel_rfl) ?_ _
 go_wp2
 go_ret
 exact ⟨rfl,B_23.out⟩
end Go.Proofs.YtejeekndbnpmoaaGreat

namespace Go.Proofs.YtejeekndbnpmoaaGreat.fnWritesBent
open Go.ChangeShapes Go.WideShapes Go.ChangeAt Go.RowKit
open Go.ChangeMaps (open_string shut_string)
set_option linter.unusedVariables false
theorem own:ownKnob Tryz.prog.godebug=none:=by kernel_rfl
theorem vE:laidOutB Tryz.prog=true:=by kernel_rfl
theorem cC (a0:Option Addr) (len0 cap0:Nat) (z0:List Int) (w:World) (w0:pC .u8 w a0 len0 cap0 z0):
 Calls Tryz.prog 4 #[.slice a0 len0 cap0] w fun e w'=>e=.returned (.bool true)/\Below w.heap.size w w':=by
 exact kd a0 len0 cap0 z0 w w0
theorem lifted (os:Os) (started:os.Started) (H:Type) (enc:TypeId×Value->H):
 ReturnsInHanded {} Tryz.checked os 4 .any (Rows.fnWritesBentSpec.pre6 enc Tryz.prog Tryz.f4 Rows.fnWritesBentRow.domain false) (Rows.fnWritesBentSpec.post enc Tryz.prog Tryz.f4 false true false false):=by
 refine returnsInHanded_of_change (C:=Tryz.checked) own started (by kernel_rfl) Tryz.func4
  (ChangeSpec.witness6 (enc:=enc) (C:=Tryz.checked) false ⟨#[],#[.slice none 0 0],[]⟩ 8 (by kernel_rfl) (by kernel_rfl) (by kernel_rfl) (by kernel_rfl)) ?_
 intro W base args ds gs before hval0 hW hcnd _;have hval:∀(j:Nat) t v,Tryz.f4.params[j]?=some t->args[j]?=some v->Value.okWide Tryz.prog W .any base t v:=hval0;have hW':=hW;obtain ⟨p,q,hA0,hV,rfl,hfz,hnd⟩:=hW;have hA:DataW.TrodAll enc Tryz.prog W 0 (fun _=>true) true Tryz.f4.params.toList args.toList ds p:=hA0;rw [Tryz.params4] at hA hval;obtain ⟨v0,vs0,d0,ds0,p0,q0,hargs,rfl,rfl,h0,r0⟩:=trodAll_cons hA;obtain ⟨rfl,rfl,rfl⟩:=trodAll_nil r0;obtain rfl:args=#[v0]:=by cases args;simp_all
 obtain ⟨rfl,rfl⟩:=trodVars_none hV;obtain ⟨a0,len0,cap0,rfl⟩:=okWide_slice Tryz.underlying22 (hval 0 22 v0 rfl rfl);have k0:=h0;have lt0:∀x∈p0,x.block<W.heap.size:=by obtain ⟨m,hm⟩:=k0;exact DataW.trod_lt m _ _ _ hm
 obtain ⟨z0,w0⟩:∃zs,pC .u8 W a0 len0 cap0 zs:=by
  obtain ⟨fuel,hf⟩:=h0;rcases open_ints Tryz.underlying22 Tryz.underlying5 (by kernel_rfl) hf with ⟨hcs,_⟩|⟨x,l,c,zs,hcs,_,hl,hm,hz,_,hcell,hwz⟩
  . simp [Value.cells] at hcs
    obtain ⟨rfl,rfl,rfl⟩:=hcs;exact ⟨[],.inl ⟨rfl,rfl,rfl,rfl⟩⟩
  simp [Value.cells] at hcs
  obtain ⟨rfl,rfl,rfl⟩:=hcs;exact ⟨zs,.inr ⟨_,rfl,hl,hm,by simpa using hz,hcell,hwz⟩⟩
 clear hA0 hval0;refine (cC a0 len0 cap0 z0 W w0).mono fun e W' ⟨he,bel⟩=>?_
 subst he;exact ⟨_,rfl,_,_,_,[],_,[],hW',trodAll_mk1 (shut_bool Tryz.underlying4 _),(trodAll_cons_mk (Below.trod vE (by kernel_rfl) (of_decide_eq_true (by kernel_rfl)) k0 bel lt0) trodAll_mk0),rfl,bel.frame _,fun h=>by cases h⟩
theorem over:Rows.fnWritesBentRow.holds Tryz.pinned (OpenSpec.ofChange Rows.fnWritesBentSpec):=
 OpenClaim.holds_of_wide 4 Tryz.f4 rfl rfl rfl rfl rfl rfl rfl ⟨rfl,rfl,rfl,rfl,rfl⟩ rfl rfl rfl rfl rfl (by kernel_rfl) Tryz.func4 (by kernel_rfl)
  (of_decide_eq_true (by kernel_rfl)) (by unfold Func.isWrapper;first|(rw [if_pos (by decide +kernel)];kernel_rfl)|(rw [if_neg (by decide +kernel)];exact ⟨rfl,rfl⟩))
  (fun os started H enc _=>lifted os started H enc)
end Go.Proofs.YtejeekndbnpmoaaGreat.fnWritesBent
namespace Go.Proofs.YtejeekndbnpmoaaGreat
theorem fnWritesBent_holds:Rows.FnWritesBentSaid:=fnWritesBent.over
#print axioms fnWritesBent_holds
end Go.Proofs.YtejeekndbnpmoaaGreat


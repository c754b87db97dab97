/-
 The program's list of entries in order: what tells an entry's stripe, and the search by it (slices.BinarySearchFunc): where a stripe's entry stands or would stand, and whether it is there. Conditions: at most 2097152 entries, ascending by stripe; stripes and what is sought lie in 0 .. 100.
-/
import Derived.Test.YtgjomldcnjjpaaaGreatRowArrsSq28
import Derived.Deep.Cut
import Derived.Test.YtgjomldcnjjpaaaGreatRowArrsSq19

set_option maxRecDepth 100000
set_option maxHeartbeats 8000000
set_option linter.unusedSimpArgs false

namespace Go.Proofs.YtgjomldcnjjpaaaGreat
open Go.RowKit

theorem mU (w:World) (E F:TypeId) (a:Option Addr) (n cap:Nat) (ms:List ai) (id:Int) (h0:(bI E F).Rd w [.slice a n cap] ms) (hw:aQ ms<=2097152):
 Calls Tryz.prog 46 #[.slice a n cap,.int .i64 id] w fun e w'=>NewOut w w' e ms id:=by
 obtain ⟨hl,hc,hm⟩:=ag h0;have hn:n<=2097152:=by unfold aQ at hw;omega
 have hA:=(af w (.cells #[.int .i64 0,.int .i64 0,.int .i64 0,.int .i64 0,.int .i64 0,.int .i64 0,.int .i64 0,.int .i64 0] 71)).alloc (by simp) (.cells #[.int .i64 0,.int .i64 0,.int .i64 0,.int .i64 0,.int .i64 0,.int .i64 0,.int .i64 0,.int .i64 0] 71);have R0:=(Box.new w 71 #[.int .i64 0,.int .i64 0,.int .i64 0,.int .i64 0,.int .i64 0,.int .i64 0,.int .i64 0,.int .i64 0]).alloc (.cells #[.int .i64 0,.int .i64 0,.int .i64 0,.int .i64 0,.int .i64 0,.int .i64 0,.int .i64 0,.int .i64 0] 71);have T0:=Box.new (w.alloc (.cells #[.int .i64 0,.int .i64 0,.int .i64 0,.int .i64 0,.int .i64 0,.int .i64 0,.int .i64 0,.int .i64 0] 71)) 71 #[.int .i64 0,.int .i64 0,.int .i64 0,.int .i64 0,.int .i64 0,.int .i64 0,.int .i64 0,.int .i64 0];rw [World.size_alloc] at T0;go_enter Tryz.func46,Tryz.ntmps46
 go_wp2
 generalize (w.alloc (.cells #[.int .i64 0,.int .i64 0,.int .i64 0,.int .i64 0,.int .i64 0,.int .i64 0,.int .i64 0,.int .i64 0] 71)).alloc (.cells #[.int .i64 0,.int .i64 0,.int .i64 0,.int .i64 0,.int .i64 0,.int .i64 0,.int .i64 0,.int .i64 0] 71)=W at hA R0 T0 ⊢;obtain ⟨RB,hRB⟩:∃RB,w.heap.size=RB:=⟨_,rfl⟩;obtain ⟨TB,hTB⟩:∃TB,w.heap.size+1=TB:=⟨_,rfl⟩;rw [hTB] at T0 ⊢;rw [hRB] at R0 ⊢;have q1:w.heap.size<=RB/\RB<TB:=by omega
 have HRB:=aa hRB;clear hTB hRB;go_loopw [7,15] (fun fv i wr=>∃(j:Nat) (y:Sup) (fb:Bool),j<=n/\i=.int .i64 j/\fv=.bool fb/\bR ms id j=(y,fb)/\Box wr TB 71 #[.int .i64 y.id,.int .i64 y.gen,.int .i64 y.role,.int .i64 y.n,.int .i64 y.s,.int .i64 y.tail,.int .i64 y.lost,.int .i64 y.xW]/\Box wr RB 71 #[.int .i64 0,.int .i64 0,.int .i64 0,.int .i64 0,.int .i64 0,.int .i64 0,.int .i64 0,.int .i64 0]/\Below w.heap.size w wr) (fun _ i _=>n-(intOf i).toNat)
 case atStart=>exact ⟨0,oV,false,by omega,rfl,rfl,rfl,T0,R0,hA⟩
 obtain ⟨j,y,fb,hj,rfl,rfl,hst,T1,R1,B1⟩:=hrel;clear T0 R0 hA;have HST:=aa hst;have zR:=R1.lt;have zT:=T1.lt;have zw:=B1.size;clear hst;by_cases hjn:j<n
 . have k2:(j:Int)<(n:Int):=by omega
   have k1:(0:Int)<=(j:Int):=by omega
   have hdj:ms[j]?=some (ms[j]'(by omega)):=List.getElem?_eq_getElem (by omega);generalize ms[j]'(by omega)=d at hdj;have hin:=Nat.le_trans (ei hdj) hw;rcases eb rfl h0 with h0'|⟨b,off,rfl,hbl,hcs⟩
   . omega
   obtain ⟨u0,u1,u2,u3,hv0,hv1,hv2,hv3,hrv⟩:=hcs j d hdj;obtain ⟨a0,c0,a1,c1,a3,c3,ss,cs,f,bs,rfl,rfl,rfl,rfl,rfl,r0,r1,r3⟩:=fV hrv;have HDJ:=aa hdj;have pv0:=(B1.cell (p:=⟨b,off+j*4,none⟩) hbl).trans hv0;have pv1:=(B1.cell (p:=⟨b,off+j*4+1,none⟩) hbl).trans hv1;have pv2:=(B1.cell (p:=⟨b,off+j*4+2,none⟩) hbl).trans hv2;have pv3:=(B1.cell (p:=⟨b,off+j*4+3,none⟩) hbl).trans hv3;have nb:=af wr (.cells #[.slice a0 ss.length c0,.slice a1 cs.length c1,.bool f,.slice a3 bs.length c3] 55);have hbm:=Below.andThen B1 nb;have R0':=aa (r0.below hbm);have R1':=aa (r1.below hbm);have R3':=aa (r3.below hbm);have T3p:=aa (T1.below nb zT);have R3p:=aa (R1.below nb zR);have B3p:=aa hbm;have hzm:(wr.alloc (.cells #[.slice a0 ss.length c0,.slice a1 cs.length c1,.bool f,.slice a3 bs.length c3] 55)).heap.size=wr.heap.size+1:=by simp
   clear hcs hdj hv0 hv1 hv2 hv3 hrv r0 r1 r3 nb hbm T1 R1 B1;go_wp2_with fail
   generalize wr.alloc (.cells #[.slice a0 ss.length c0,.slice a1 cs.length c1,.bool f,.slice a3 bs.length c3] 55)=wm at R0' R1' R3' T3p R3p B3p hzm ⊢;have zTm:=T3p.out.lt;have zRm:=R3p.out.lt;clear hzm;refine (jG _ E _ _ _ _ _ _ _ _ _ ss cs f bs id (j:Int) R0'.out R1'.out R3'.out hin).mono ?_
   clear R0' R1' R3' pv0 pv1 pv2 pv3;rintro e w1 ⟨x,rfl,hx,b1⟩;have UP:=aa (fun h=>new_up (ms:=ms) (id:=id) HDJ.out HST.out hx h);have DN:=aa (fun h=>vE (ms:=ms) (id:=id) HDJ.out HST.out hx h);clear hx;generalize dN (ss,cs,f,bs) id (j:Int)=k at UP DN ⊢;have T2:=T3p.out.below b1 (by omega);have R2:=R3p.out.below b1 (by omega);have B2:=Below.andThen B3p.out b1;have z1:=b1.size;clear T3p R3p B3p b1;have T3:=T2.alloc (.cells #[.int .i64 x.id,.int .i64 x.gen,.int .i64 x.role,.int .i64 x.n,.int .i64 x.s,.int .i64 x.tail,.int .i64 x.lost,.int .i64 x.xW] 71);have R3:=aa (R2.alloc (.cells #[.int .i64 x.id,.int .i64 x.gen,.int .i64 x.role,.int .i64 x.n,.int .i64 x.s,.int .i64 x.tail,.int .i64 x.lost,.int .i64 x.xW] 71));have B3:=aa (B2.alloc B2.size (.cells #[.int .i64 x.id,.int .i64 x.gen,.int .i64 x.role,.int .i64 x.n,.int .i64 x.s,.int .i64 x.tail,.int .i64 x.lost,.int .i64 x.xW] 71));have X3:=Box.new w1 71 #[.int .i64 x.id,.int .i64 x.gen,.int .i64 x.role,.int .i64 x.n,.int .i64 x.s,.int .i64 x.tail,.int .i64 x.lost,.int .i64 x.xW];have zT1:=T2.lt;obtain ⟨x0,x1,x2,x3,x4,x5,x6,x7⟩:=X3.cells8;obtain ⟨t0,t1,t2,t3,t4,t5,t6,t7⟩:=T3.cells8;have fz:=T3.frozen;have TT:=aa T3;clear T2 R2 B2 X3 T3;go_upto_region 6 with fail
   generalize w1.alloc (.cells #[.int .i64 x.id,.int .i64 x.gen,.int .i64 x.role,.int .i64 x.n,.int .i64 x.s,.int .i64 x.tail,.int .i64 x.lost,.int .i64 x.xW] 71)=w2 at R3 B3 TT x0 x1 x2 x3 x4 x5 x6 x7 t0 t1 t2 t3 t4 t5 t6 t7 fz ⊢;obtain ⟨XB,hXB⟩:∃XB,w1.heap.size=XB:=⟨_,rfl⟩;rw [hXB] at x0 x1 x2 x3 x4 x5 x6 x7 zT1 ⊢;have hne:¬TB=XB:=by omega
   have hne2:¬XB=TB:=by omega
   clear hXB;by_cases hb:cM k x y fb=true
   . have HN:=aa (UP.out hb)
     have hbt:=ec w2 TB (.int .i64 x.id) (.int .i64 x.gen) (.int .i64 x.role) (.int .i64 x.n) (.int .i64 x.s) (.int .i64 x.tail) (.int .i64 x.lost) (.int .i64 x.xW);have TF:=aa (rB TT.out (.int .i64 x.id) (.int .i64 x.gen) (.int .i64 x.role) (.int .i64 x.n) (.int .i64 x.s) (.int .i64 x.tail) (.int .i64 x.lost) (.int .i64 x.xW));have RF:=aa (R3.out.kept (hbt.block _ (by have:=R3.out.lt;omega) (by omega)));have BF:=aa (Below.andBut B3.out hbt (by omega));unfold lA at TF RF BF;clear hbt UP DN R3 B3 TT;unfold cM at hb;simp only [Bool.and_eq_true,Bool.or_eq_true,Bool.not_eq_true',decide_eq_true_eq] at hb
     obtain ⟨hk,hc⟩:=hb;subst hk;by_cases hf:fb=true
     . subst hf
       have hc:y.gen<x.gen:=by simpa using hc
       go_wp2
       go_roundw
       case rel=>exact ⟨j+1,x,true,by omega,by go_num,rfl,HN.out,TF.out,RF.out,BF.out⟩
       case measure=>simp [intOf];omega
     have hf:fb=false:=by simpa using hf
     subst hf;clear hc;go_wp2
     go_roundw
     case rel=>exact ⟨j+1,x,true,by omega,by go_num,rfl,HN.out,TF.out,RF.out,BF.out⟩
     case measure=>simp [intOf];omega
   have hb':cM k x y fb=false:=by simpa using hb
   have HN:=aa (DN.out hb');clear UP DN hb fz;unfold cM at hb';by_cases hk:k=true
   . subst hk
     by_cases hf:fb=true
     . subst hf
       have hc:¬y.gen<x.gen:=by simpa using hb'
       clear hb';go_wp2
       go_roundw
       case rel=>exact ⟨j+1,y,true,by omega,by go_num,rfl,HN.out,TT.out,R3.out,B3.out⟩
       case measure=>simp [intOf];omega
     have hf:fb=false:=by simpa using hf
     subst hf;simp at hb'
   have hk:k=false:=by simpa using hk
   subst hk;clear hb';go_wp2
   go_roundw
   case rel=>exact ⟨j+1,y,fb,by omega,by go_num,rfl,HN.out,TT.out,R3.out,B3.out⟩
   case measure=>simp [intOf];omega
 have e:j=n:=by omega
 subst e;obtain ⟨t0,t1,t2,t3,t4,t5,t6,t7⟩:=T1.cells8;obtain ⟨r0,r1,r2,r3,r4,r5,r6,r7⟩:=R1.cells8;have fz:=R1.frozen;have FB:=aa (Below.andBut B1 (ec wr RB (.int .i64 y.id) (.int .i64 y.gen) (.int .i64 y.role) (.int .i64 y.n) (.int .i64 y.s) (.int .i64 y.tail) (.int .i64 y.lost) (.int .i64 y.xW)) (by omega));unfold lA at FB;have hne:¬TB=RB:=by omega
 have hne2:¬RB=TB:=by omega
 clear T1 R1 B1;go_wp2
 refine bodyPost_ret (v:=.tuple #[.agg #[.int .i64 y.id,.int .i64 y.gen,.int .i64 y.role,.int .i64 y.n,.int .i64 y.s,.int .i64 y.tail,.int .i64 y.lost,.int .i64 y.xW],.bool fb]) (by simp [results,Tryz.results46,go_sem,r0,r1,r2,r3,r4,r5,r6,r7]) rfl ?_
 exact ⟨by rw [hl,HST.out],FB.out⟩
def Found (ds:List (Int×List Int)) (t:Int) (w:World) (e:Ending) (w':World):Prop:=∃(k:Nat) (r:Bool),e=.returned (.tuple #[.int .i64 k,.bool r])/\pe ds t k r/\Below w.heap.size w w'
theorem tK (w:World) (y:Int) (a:Option Addr) (n c:Nat):Calls Tryz.prog 178 #[.agg #[.int .i64 y,.slice a n c]] w fun e w'=>e=.returned (.int .i64 y)/\Below w.heap.size w w':=by
 have hA:=af w (.cells #[.int .i64 y,.slice a n c] 93);have xm:=Box.new w 93 #[.int .i64 y,.slice a n c];have c0:(w.alloc (.cells #[.int .i64 y,.slice a n c] 93)).cell? ⟨w.heap.size,0,none⟩=some (.int .i64 y):=xm.cell 0;have HA:=aa hA;clear hA xm;go_enter Tryz.func178,Tryz.ntmps178
 go_wp2
 go_ret
 exact ⟨rfl,HA.out⟩
theorem qp (w:World) (y t:Int) (a:Option Addr) (n c:Nat) (hy:0<=y/\y<=100) (ht:0<=t/\t<=100):Calls Tryz.prog 143 #[.agg #[.int .i64 y,.slice a n c],.int .i64 t] w fun e w'=>e=.returned (.int .i64 (y-t))/\Below w.heap.size w w':=by
 have hA:=af w (.cells #[.int .i64 y,.slice a n c] 93);have xm:=Box.new w 93 #[.int .i64 y,.slice a n c];have c0:(w.alloc (.cells #[.int .i64 y,.slice a n c] 93)).cell? ⟨w.heap.size,0,none⟩=some (.int .i64 y):=xm.cell 0;have c1:(w.alloc (.cells #[.int .i64 y,.slice a n c] 93)).cell? ⟨w.heap.size,1,none⟩=some (.slice a n c):=xm.cell 1;have HA:=aa hA;have gw:IntKind.i64.wrap (y-t)=y-t:=IntWalk.i64_in _ (by omega)
 have na : ∀ w, Sem.run Tryz.prog (nilAhead (284 + 1) 93 (.agg #[.int .i64 y, .slice a n c]) "loop.example/g00398/impl.stripe") w = .ok (some false) w := fun w => by kernel_rfl
 clear hA xm;go_enter Tryz.func143,Tryz.ntmps143
 go_wp2_with fail
 refine (tK _ _ _ _ _).mono ?_
 rintro e w1 ⟨rfl,b1⟩;have HB:=aa (Below.andThen HA.out b1);clear b1 HA c0 c1;go_wp2
 go_ret
 exact ⟨rfl,HB.out⟩
theorem sG (w:World) (G:TypeId) (a:Option Addr) (len cap:Nat) (ds:List (Int×List Int)) (t:Int) (h1:(aW G).Rd w [.slice a len cap] ds) (hlen:len<=2097152) (ha:rM ds) (ht:0<=t/\t<=100):
 Calls Tryz.prog 142 #[.slice a len cap,.int .i64 t,.func (Fn.func 143) #[] #[]] w fun e w'=>Found ds t w e w':=by
 obtain ⟨hz,_,_⟩:=ag h1;have HT:=aa ht;have HASC:=aa ha;clear ht ha;go_enter Tryz.func142,Tryz.ntmps142
 go_wp2
 go_loopw [9,10] (fun iv jv wr=>∃(i j:Nat),i<=j/\j<=len/\iv=.int .i64 i/\jv=.int .i64 j/\(∀q e,q<i->ds[q]?=some e->e.1<t)/\(∀q e,j<=q->ds[q]?=some e->t<=e.1)/\Below w.heap.size w wr) (fun iv jv _=>(intOf jv).toNat-(intOf iv).toNat)
 case atStart=>exact ⟨0,len,Nat.zero_le _,Nat.le_refl _,rfl,rfl,fun q e h=>absurd h (by omega),fun q e h he=>absurd (List.getElem?_eq_some_iff.1 he).1 (by omega),Below.refl _ _⟩
 obtain ⟨i,j,hij,hj,rfl,rfl,hlo,hhi,hs⟩:=hrel;by_cases hlt:i<j
 . have k1:(i:Int)<(j:Int):=by omega
   rcases cW rfl h1 with h0|⟨b,off,rfl,hbl,hcs⟩
   . omega
   obtain ⟨m,hm⟩:∃m:Nat,((i:Int)+(j:Int)) / 2=(m:Int):=⟨(i+j) / 2,by omega⟩;have hm1:i<=m:=by omega
   have hm2:m<j:=by omega
   have hdj:ds[m]?=some (ds[m]'(by omega)):=List.getElem?_eq_getElem (by omega);generalize ds[m]'(by omega)=d at hdj;obtain ⟨u0,u1,hv0,hv1,hrv⟩:=hcs m d hdj;obtain ⟨rfl,hr1⟩:=eL hrv;obtain ⟨y,ys⟩:=d;simp only at hv0 hr1
   obtain ⟨a1,c1,rfl⟩:=aC hr1;have hc0:=(hs.cell (p:=⟨b,off+m*2,none⟩) hbl).trans hv0;have hc1:=(hs.cell (p:=⟨b,off+m*2+1,none⟩) hbl).trans hv1;have gw1:IntKind.i64.wrap ((i:Int)+(j:Int))=(i:Int)+(j:Int):=IntWalk.i64_in _ (by omega);have gw3:IntKind.i64.wrap (m:Int)=(m:Int):=IntWalk.i64_in _ (by omega);have k2:(0:Int)<=(m:Int):=by omega
   have k3:(m:Int)<(len:Int):=by omega
   have HLO:=aa hlo;have HHI:=aa hhi;have HDJ:=aa hdj;have HS:=aa hs;have HY:Hid (0<=y/\y<=100):=HASC.out.2 m _ hdj;clear hlo hhi hcs hv0 hv1 hrv hr1 hdj hs;go_wp2_with fail
   refine (qp _ _ _ _ _ _ HY.out HT.out).mono ?_
   rintro e w1 ⟨rfl,b1⟩;have HB:=aa (Below.andThen HS.out b1);clear b1 HS hc0 hc1;by_cases hx:y-t<0
   . go_wp2
     go_roundw
     case rel=>exact ⟨m+1,j,by omega,hj,by go_num,rfl,fun q e hq he=>by
      by_cases hqm:q=m
      . subst hqm
        rw [HDJ.out] at he;simp at he
        subst he;show y<t
        omega
      have:=HASC.out.1 q m e _ (by omega) he HDJ.out;have:e.1<y:=this;omega,HHI.out,HB.out⟩
     case measure=>simp [intOf];omega
   go_wp2
   go_roundw
   case rel=>exact ⟨i,m,hm1,by omega,rfl,rfl,HLO.out,fun q e hq he=>by
    by_cases hqm:q=m
    . subst hqm
      rw [HDJ.out] at he;simp at he
      subst he;show t<=y
      omega
    have:=HASC.out.1 m q _ e (by omega) HDJ.out he;have:y<e.1:=this;omega,HB.out⟩
   case measure=>simp [intOf];omega
 have e:i=j:=by omega
 subst e;by_cases hil:i<len
 . rcases cW rfl h1 with h0|⟨b,off,rfl,hbl,hcs⟩
   . omega
   have hdj:ds[i]?=some (ds[i]'(by omega)):=List.getElem?_eq_getElem (by omega);generalize ds[i]'(by omega)=d at hdj;obtain ⟨u0,u1,hv0,hv1,hrv⟩:=hcs i d hdj;obtain ⟨rfl,hr1⟩:=eL hrv;obtain ⟨y,ys⟩:=d;simp only at hv0 hr1
   obtain ⟨a1,c1,rfl⟩:=aC hr1;have hc0:=(hs.cell (p:=⟨b,off+i*2,none⟩) hbl).trans hv0;have hc1:=(hs.cell (p:=⟨b,off+i*2+1,none⟩) hbl).trans hv1;have k2:(0:Int)<=(i:Int):=by omega
   have k3:(i:Int)<(len:Int):=by omega
   have HLO:=aa hlo;have HHI:=aa hhi;have HDJ:=aa hdj;have HS:=aa hs;have HY:Hid (0<=y/\y<=100):=HASC.out.2 i _ hdj;clear hlo hhi hcs hv0 hv1 hrv hr1 hdj hs;go_wp2_with fail
   refine (qp _ _ _ _ _ _ HY.out HT.out).mono ?_
   rintro e w1 ⟨rfl,b1⟩;have HB:=aa (Below.andThen HS.out b1);clear b1 HS hc0 hc1;by_cases hx:y-t=0
   . have HP:Hid (pe ds t i true):=⟨by omega,HLO.out,HHI.out,.inl ⟨rfl,_,HDJ.out,by show y=t;omega⟩⟩
     go_wp2
     go_ret2
     exact ⟨i,true,by first|rfl|simp [hx],HP.out,HB.out⟩
   have HP:Hid (pe ds t i false):=⟨by omega,HLO.out,HHI.out,.inr ⟨rfl,fun e he h'=>by
    rw [HDJ.out] at he;simp at he
    subst he;have:y=t:=h';omega⟩⟩
   have e1:(y-t==0)=false:=by simpa using hx
   go_wp2
   go_ret2
   exact ⟨i,false,by first|rfl|simp [hx],HP.out,HB.out⟩
 have HP:Hid (pe ds t i false):=⟨by omega,hlo,hhi,.inr ⟨rfl,fun e he=>by have:=(List.getElem?_eq_some_iff.1 he).1;omega⟩⟩;have k3:¬(i:Int)<(len:Int):=by omega
 have HS:=aa hs;clear hlo hhi hs;go_wp2
 go_ret2
 exact ⟨i,false,by first|rfl|simp,HP.out,HS.out⟩
theorem xe (w:World) (G:TypeId) (a:Option Addr) (len cap:Nat) (ds:List (Int×List Int)) (t:Int) (h1:(aW G).Rd w [.slice a len cap] ds) (hlen:len<=2097152) (ha:rM ds) (ht:0<=t/\t<=100):
 Calls Tryz.prog 124 #[.slice a len cap,.int .i64 t] w fun e w'=>Found ds t w e w':=by
 go_enter Tryz.func124,Tryz.ntmps124
 go_wp2_with fail
 refine (sG _ G _ _ _ ds t h1 hlen ha ht).mono ?_
 rintro e w1 ⟨k,r,rfl,hp,b1⟩;have HP:=aa hp;have HB:=aa b1;clear hp b1 h1 ha ht;go_wp2
 go_ret2
 exact ⟨k,r,rfl,HP.out,HB.out⟩
def Asked (ds:List (Int×List Int)) (t:Int) (Q:Nat->List Int->Option Addr->Nat->Prop) (w:World) (e:Ending) (w':World):Prop:=
 ((at8 ds t=-1/\e=.returned (.tuple #[.agg #[.int .i64 0,.slice none 0 0],.bool false]))∨∃(k:Nat) (ys:List Int) (a':Option Addr) (c':Nat),at8 ds t=(k:Int)/\ds[k]?=some (t,ys)/\e=.returned (.tuple #[.agg #[.int .i64 t,.slice a' ys.length c'],.bool true])/\Q k ys a' c')/\Below w.heap.size w w'
theorem of_any (w:World) (G:TypeId) (a:Option Addr) (len cap:Nat) (ds:List (Int×List Int)) (t:Int) (h1:(aW G).Rd w [.slice a len cap] ds) (hlen:len<=2097152) (ha:rM ds) (ht:0<=t/\t<=100) (Q:Nat->List Int->Option Addr->Nat->Prop) (hQ:vL w a ds Q):
 Calls Tryz.prog 104 #[.slice a len cap,.int .i64 t] w fun e w'=>Asked ds t Q w e w':=by
 have hA:=af w (.cells #[.int .i64 0,.slice none 0 0] 93);have R0:=Box.new w 93 #[.int .i64 0,.slice none 0 0];have zR:=R0.lt;have r1:=h1.below hA;have HA:=aa hA;have hl:=(ag h1).1;clear h1;go_enter Tryz.func104,Tryz.ntmps104
 go_wp2_with fail
 generalize w.alloc (.cells #[.int .i64 0,.slice none 0 0] 93)=W at hA R0 zR r1 HA ⊢;refine (xe _ G _ _ _ ds t r1 hlen ha ht).mono ?_
 rintro e w1 ⟨k,r,rfl,hp,b1⟩;have R1:=R0.below b1 zR;have B1:=Below.andThen hA b1;have z1:=b1.size;clear R0 r1 b1 hA HA;cases r
 . have HM:=aa (hp.miss ha)
   have BN:=af w1 (.cells #[.int .i64 0,.slice none 0 0] 93);have N1:=Box.new w1 93 #[.int .i64 0,.slice none 0 0];have R2:=R1.below BN R1.lt;have B2:=Below.andThen B1 BN;have n0:=N1.cell 0;have n1:=N1.cell 1;have s0:=R2.cell 0;have s1:=R2.cell 1;have fz:=R2.frozen;have HB:Hid (Below w.heap.size w (((w1.alloc (.cells #[.int .i64 0,.slice none 0 0] 93)).setCell ⟨w.heap.size,0,none⟩ (.int .i64 0)).setCell ⟨w.heap.size,1,none⟩ (.slice none 0 0))):=(B2.setCell (Nat.le_refl _) _).setCell (Nat.le_refl _) _;clear R1 B1 BN N1 R2 B2 hp hQ ha ht;go_wp2
   refine bodyPost_ret (v:=.tuple #[.agg #[.int .i64 0,.slice none 0 0],.bool false]) (by simp [results,Tryz.results104,go_sem,s0,s1]) rfl ?_
   exact ⟨.inl ⟨HM.out,rfl⟩,HB.out⟩
 obtain ⟨hat,d,hdk,hdt⟩:=hp.hit;obtain ⟨y,ys⟩:=d;simp only at hdt
 subst hdt;obtain ⟨b,off,a1,c1,rfl,hbl,hv0,hv1,hq⟩:=hQ k _ hdk;have hc0:=(B1.cell (p:=⟨b,off+k*2,none⟩) hbl).trans hv0;have hc1:=(B1.cell (p:=⟨b,off+k*2+1,none⟩) hbl).trans hv1;have hkl:=(List.getElem?_eq_some_iff.1 hdk).1;have k2:(0:Int)<=(k:Int):=by omega
 have k3:(k:Int)<(len:Int):=by omega
 have s0:=R1.cell 0;have s1:=R1.cell 1;have fz:=R1.frozen;have HH:=aa hat;have HK:=aa hdk;have HQ:=aa hq;have HB:Hid (Below w.heap.size w ((w1.setCell ⟨w.heap.size,0,none⟩ (.int .i64 y)).setCell ⟨w.heap.size,1,none⟩ (.slice a1 ys.length c1))):=(B1.setCell (Nat.le_refl _) _).setCell (Nat.le_refl _) _;clear R1 B1 hp hQ ha ht hat hdk hq hv0 hv1;go_wp2
 refine bodyPost_ret (v:=.tuple #[.agg #[.int .i64 y,.slice a1 ys.length c1],.bool true]) (by simp [results,Tryz.results104,go_sem,s0,s1]) rfl ?_
 exact ⟨.inr ⟨k,ys,a1,c1,HH.out,HK.out,rfl,HQ.out⟩,HB.out⟩
end Go.Proofs.YtgjomldcnjjpaaaGreat

/-
 The walk of the specification's l12Spare: a new disk in the place of the lost one. Conditions: a right Geo; a disk is lost; the power goes within 1000 operations, or stays; every disk is right; Gen 0 to 60000.
-/
import Derived.Test.YtgjomldcnjjpaaaGreatRowArrsSq15
import Derived.Test.YtgjomldcnjjpaaaGreatRowArrsSq19
import Derived.Test.YtgjomldcnjjpaaaGreatRowArrsSq43
import Derived.Test.YtgjomldcnjjpaaaGreatRowArrsSq40
import Derived.Test.YtgjomldcnjjpaaaGreatRowArrsSq12
import Derived.Test.YtgjomldcnjjpaaaGreatRowArrsSq24
import Derived.Test.YtgjomldcnjjpaaaGreatRowArrsSq22
import Derived.Test.YtgjomldcnjjpaaaGreatRowArrsSq36

set_option maxRecDepth 100000
set_option maxHeartbeats 8000000
set_option linter.unusedSimpArgs false

namespace Go.Proofs.YtgjomldcnjjpaaaGreat
open Go.RowKit

def sf (ds:List aH) (s:Int):List Int:=(ds.getD (at8 ds s).toNat (0,[])).2
def fu (x:aq) (ms:List ai) (ds:List aH) (s:Int):aq×List ai:=if at8 ds s=-1 then (x,ms) else eF x ms ds s (sf ds s)
def gX (x:aq) (ms:List ai) (ds:List aH) (s:Int):Int:=if at8 ds s=-1 then 0 else dW x ms ds s (sf ds s)
def jV (x:aq) (ms:List ai) (ds:List aH) (s:Int):List aH:=if at8 ds s=-1 then ds else if dW x ms ds s (sf ds s)=0 then ds.take (at8 ds s).toNat++ds.drop ((at8 ds s).toNat+1) else ds
def Fl8 (w:World) (B:Nat) (fm fd:List Nat) (y:aq) (ns:List ai) (es:List aH) (w':World):Prop:=
 ∃fm' fd',aK w' B y ns es fm' fd'/\aA (B :: (fm++fd)) w w'/\∀b,b∈fm'∨b∈fd'->b∈fm∨b∈fd∨w.heap.size<=b
theorem Fl8.below {w w':World} {B:Nat} {x:aq} {ms:List ai} {ds:List aH} {fm fd:List Nat} (h:aK w B x ms ds fm fd) (hb:Below w.heap.size w w'):Fl8 w B fm fd x ms ds w':=
 ⟨fm,fd,h.below hb,aA.ofBelow hb _,fun _ h=>h.elim .inl (fun h=>.inr (.inl h))⟩
theorem qT {a b:Int} {p:Prop} (h:(Ending.returned (Value.int .i64 a)=.returned (.int .i64 b))/\p):(Ending.returned (Value.int .i64 a)=.returned (.int .i64 b))/\p:=h
theorem wy {t:Ty} {E:TypeId} (w:World):(ce t E).Mine (w.alloc (.cells #[] E)) [.slice (some ⟨w.heap.size,0,none⟩) 0 0] [] [w.heap.size]:=
 ⟨.inr ⟨w.heap.size,0,#[],[],rfl,Nat.le_refl _,Nat.zero_le _,Box.new w E #[],by simp,rfl,rfl,by simp⟩,by simp⟩
theorem wB {w3 w4 w5 w6:World} {fd fp5:List Nat} (b4:Below w3.heap.size w3 w4) (t5:aA [w3.heap.size] w4 w5) (t6:aA fp5 w5 w6) (n5:∀b∈fp5,b∈fd∨w3.heap.size<=b):aA fd w3 w6:=by
 have z4:=b4.size;have z5:=t5.size;refine ⟨t6.os.trans (t5.os.trans b4.os),t6.tape.trans (t5.tape.trans b4.tape),t6.output.trans (t5.output.trans b4.output),Nat.le_trans z4 (Nat.le_trans z5 t6.size),fun k hk hn=>?_⟩
 rw [t6.block k (by omega) (fun hm=>(n5 k hm).elim hn (fun h=>by omega)),t5.block k (by omega) (by simp;omega),b4.block k hk]
theorem xP {w w3 w6:World} {B:Nat} {y2:aq} {ns:List ai} {ds es:List aH} {fm fd fm3 fp6:List Nat} {bm bd a6:Option Addr} {cm cd c6:Nat} (HT:aA (B :: (fm++fd)) w w3) (T:aA fd w3 w6) (X3:Box w3 B 31 (bH y2 (.slice bm ns.length cm) (.slice bd ds.length cd))) (m3:(bI 119 55).Mine w3 [.slice bm ns.length cm] ns fm3) (hr3:∀b∈fm3,b∉fd) (r13:B∉fm3) (r23:B∉fd) (m6:(aW 93).Mine w6 [.slice a6 es.length c6] es fp6) (n6:∀b∈fp6,b∈fd∨w3.heap.size<=b) (h3:∀b∈fm3,b∈fm∨w.heap.size<=b):
 Fl8 w B fm fd y2 ns es (w6.setCell ⟨B,9,none⟩ (.slice a6 es.length c6)):=by
 have zB:=X3.lt;have zw:=HT.size;have hB6:B∉fp6:=fun hm=>(n6 B hm).elim r23 (fun h=>by omega);have X6:=X3.turned T r23;refine ⟨fm3,fp6,⟨bm,a6,cm,c6,X6.set 9 _,(m3.kept T hr3).setCell r13 _,m6.setCell hB6 _,fun b hb hb6=>?_,r13,hB6⟩,?_,fun b hb=>?_⟩
 . rcases n6 b hb6 with h|h
   . exact hr3 b hb h
   have:=m3.lt b hb;omega
 . have h1:=(aT.set (B:=B) (j:=9) (fm:=fm) (w:=w6) (.slice a6 es.length c6)).1
   refine ⟨h1.os.trans (T.os.trans HT.os),h1.tape.trans (T.tape.trans HT.tape),h1.output.trans (T.output.trans HT.output),Nat.le_trans zw (Nat.le_trans T.size h1.size),fun k hk hn=>?_⟩
   simp only [List.mem_cons,List.mem_append,not_or] at hn
   have:=T.size;rw [h1.block k (by omega) (by simp [hn.1,hn.2.1]),T.block k (by omega) hn.2.2,HT.block k hk (by simp [hn.1,hn.2.1,hn.2.2])]
 rcases hb with hb|hb
 . exact (h3 b hb).elim .inl (fun h=>.inr (.inr h))
 exact (n6 b hb).elim (fun h=>.inr (.inl h)) (fun h=>.inr (.inr (by omega)))
theorem mG (w:World) (B:Nat) (x:aq) (ms:List ai) (ds:List aH) (fm fd:List Nat) (h:aK w B x ms ds fm fd) (hw:bh ms ds<=2097152) (s:Int):
 Calls Tryz.prog 111 #[.pointer (some ⟨B,0,none⟩),.int .i64 s] w fun e w'=>e=.returned (.int .i64 (gX x ms ds s))/\Fl8 w B fm fd (fu x ms ds s).1 (fu x ms ds s).2 (jV x ms ds s) w':=by
 have hwd:aX ds<=2097152:=by unfold bh at hw;omega
 have HA:=aa h;have hlB:=h.lt;obtain ⟨bm,bd,cm,cd,X,hm,hd,hr,r1,r2⟩:=h;have hnd:ds.length<=2097152:=by unfold aX at hwd;omega
 unfold bH at X;obtain ⟨k0,k1,k2,k3,k4,k5,k6,k7,k8,k9,k10,k11,k12⟩:=X.cells13;have HX:=aa X;have HM:=aa hm;have HD:=aa hd;have hdr:=hd.rd;clear X hm hd;go_enter Tryz.func111,Tryz.ntmps111
 go_wp2_with fail
 refine (rI _ 93 x _ _ _ _ _ _ ds s hdr hnd).mono ?_
 rintro e w1 ⟨rfl,b1⟩;have X1:=HX.out.below b1 hlB;have z1:=b1.size;have B1:=aa b1;clear k0 k1 k2 k3 k4 k5 k6 k7 k8 k9 k10 k11 k12 hdr b1;obtain ⟨k0,k1,k2,k3,k4,k5,k6,k7,k8,k9,k10,k11,k12⟩:=X1.cells13;clear X1;rcases iA ds s with hat|⟨j,d,hat,hdj,hds⟩
 . have HF:Hid (Ending.returned (Value.int .i64 0)=.returned (.int .i64 (gX x ms ds s))/\Fl8 w B fm fd (fu x ms ds s).1 (fu x ms ds s).2 (jV x ms ds s) w1):=by
    unfold Hid gX fu jV;rw [if_pos hat,if_pos hat,if_pos hat];exact ⟨rfl,Fl8.below HA.out B1.out⟩
   rw [hat];clear hat;go_wp2
   go_ret
   exact qT HF.out
 have hjl:=(List.getElem?_eq_some_iff.1 hdj).1;have hne:¬at8 ds s=-1:=by omega
 have HFC:Hid (gX x ms ds s=dW x ms ds s d.2/\fu x ms ds s=eF x ms ds s d.2/\jV x ms ds s=if dW x ms ds s d.2=0 then ds.take j++ds.drop (j+1) else ds):=by
  have h9:sf ds s=d.2:=by unfold sf;rw [hat,Int.toNat_natCast,List.getD_eq_getElem?_getD,hdj];rfl
  unfold Hid gX fu jV;rw [if_neg hne,if_neg hne,if_neg hne,h9,hat,Int.toNat_natCast];exact ⟨rfl,rfl,rfl⟩
 have hil:=cK hdj;obtain ⟨g,rfl⟩:=cY HD.out (by omega);obtain ⟨fps,e1,e2,e3,e4⟩:=lG HD.out;obtain ⟨f,g',av,cv,hf,hg',hgl,hgd,hgf,v0,v1,hmd⟩:=e4 j d hdj;simp only [Option.some.injEq,Addr.mk.injEq,and_true] at hg'
 subst hg';obtain ⟨y,ys⟩:=d;simp only at v0 v1 HFC hil hds
 have hff:Hid (∀b∈f,b∈fd):=fun b hb=>e3 b (List.mem_flatten.2 ⟨f,List.mem_of_getElem? hf,hb⟩);have HME:=aa hmd;have u1:=(B1.out.cell (p:=⟨g,j*2+1,none⟩) hgl).trans v1;have i1:(0:Int)<=(j:Int):=by omega
 have i3:(j:Int)<(ds.length:Int):=by omega
 rw [hat];clear hat hne hdj e1 e2 e3 e4 hf hmd v0;have hS:w1.drew.cell? ⟨B,0,none⟩=some (.int .i64 x.id)/\w1.drew.cell? ⟨B,1,none⟩=some (.int .i64 x.n)/\w1.drew.cell? ⟨B,2,none⟩=some (.int .i64 x.s)/\w1.drew.cell? ⟨B,3,none⟩=some (.slice bm ms.length cm)/\w1.drew.cell? ⟨B,4,none⟩=some (.int .i64 x.lost)/\w1.drew.cell? ⟨B,5,none⟩=some (.int .i64 x.xW)/\w1.drew.cell? ⟨B,6,none⟩=some (.int .i64 x.seq)/\w1.drew.cell? ⟨B,7,none⟩=some (.int .i64 x.tail)/\w1.drew.cell? ⟨B,8,none⟩=some (.int .i64 x.gen)/\w1.drew.cell? ⟨B,9,none⟩=some (.slice (some ⟨g,0,none⟩) ds.length cd)/\w1.drew.cell? ⟨B,10,none⟩=some (.int .i64 x.xY)/\w1.drew.cell? ⟨B,11,none⟩=some (.bool x.down)/\w1.drew.cell? ⟨B,12,none⟩=some (.bool x.xX)/\w1.drew.cell? ⟨g,j*2+1,none⟩=some (.slice av ys.length cv):=⟨k0,k1,k2,k3,k4,k5,k6,k7,k8,k9,k10,k11,k12,u1⟩;go_wp2_with fail
 refine ao.start (S:=fun w'=>w'.cell? ⟨B,0,none⟩=some (.int .i64 x.id)/\w'.cell? ⟨B,1,none⟩=some (.int .i64 x.n)/\w'.cell? ⟨B,2,none⟩=some (.int .i64 x.s)/\w'.cell? ⟨B,3,none⟩=some (.slice bm ms.length cm)/\w'.cell? ⟨B,4,none⟩=some (.int .i64 x.lost)/\w'.cell? ⟨B,5,none⟩=some (.int .i64 x.xW)/\w'.cell? ⟨B,6,none⟩=some (.int .i64 x.seq)/\w'.cell? ⟨B,7,none⟩=some (.int .i64 x.tail)/\w'.cell? ⟨B,8,none⟩=some (.int .i64 x.gen)/\w'.cell? ⟨B,9,none⟩=some (.slice (some ⟨g,0,none⟩) ds.length cd)/\w'.cell? ⟨B,10,none⟩=some (.int .i64 x.xY)/\w'.cell? ⟨B,11,none⟩=some (.bool x.down)/\w'.cell? ⟨B,12,none⟩=some (.bool x.xX)/\w'.cell? ⟨g,j*2+1,none⟩=some (.slice av ys.length cv)) (k:=13) (by kernel_rfl) ?_
 refine ao.t 0 hS ?_
 refine ao.t 1 hS ?_
 refine ao.t 2 hS ?_
 refine ao.t 3 hS ?_
 refine ao.t 4 hS ?_
 refine ao.t 5 hS ?_
 refine ao.t 6 hS ?_
 refine ao.t 7 hS ?_
 refine ao.t 8 hS ?_
 refine ao.t 9 hS ?_
 refine ao.t 10 hS ?_
 refine ao.t 11 hS ?_
 refine ao.one (i:=12) (by kernel_rfl) rfl (fun K hK=>?_)
 go_simp
 refine (ts _ 119 55 93 x _ _ _ _ _ _ ms ds ((HM.out.below B1.out).adrew.rd) ((HD.out.below B1.out).adrew.rd) hw s av cv ys (eL ((HME.out.below B1.out).adrew.rd)).2 (by omega)).mono ?_
 rintro e w2 ⟨rfl,b2'⟩;have B2:Hid (Below w.heap.size w w2):=Below.andThen B1.out.drew b2';have z2:=B2.out.size;have X2:=HX.out.below B2.out hlB;have hS2:w2.cell? ⟨B,0,none⟩=some (.int .i64 x.id)/\w2.cell? ⟨B,1,none⟩=some (.int .i64 x.n)/\w2.cell? ⟨B,2,none⟩=some (.int .i64 x.s)/\w2.cell? ⟨B,3,none⟩=some (.slice bm ms.length cm)/\w2.cell? ⟨B,4,none⟩=some (.int .i64 x.lost)/\w2.cell? ⟨B,5,none⟩=some (.int .i64 x.xW)/\w2.cell? ⟨B,6,none⟩=some (.int .i64 x.seq)/\w2.cell? ⟨B,7,none⟩=some (.int .i64 x.tail)/\w2.cell? ⟨B,8,none⟩=some (.int .i64 x.gen)/\w2.cell? ⟨B,9,none⟩=some (.slice (some ⟨g,0,none⟩) ds.length cd)/\w2.cell? ⟨B,10,none⟩=some (.int .i64 x.xY)/\w2.cell? ⟨B,11,none⟩=some (.bool x.down)/\w2.cell? ⟨B,12,none⟩=some (.bool x.xX)/\w2.cell? ⟨g,j*2+1,none⟩=some (.slice av ys.length cv):=by
  obtain ⟨q0,q1,q2,q3,q4,q5,q6,q7,q8,q9,q10,q11,q12⟩:=X2.cells13;exact ⟨q0,q1,q2,q3,q4,q5,q6,q7,q8,q9,q10,q11,q12,(B2.out.cell (p:=⟨g,j*2+1,none⟩) hgl).trans v1⟩
 clear b2' hS k0 k1 k2 k3 k4 k5 k6 k7 k8 k9 k10 k11 k12 u1;go_wp2_with fail
 refine hK.out _ _ (fun _=>hS2) ?_
 clear hK K;refine ao.one (i:=13) (by kernel_rfl) rfl (fun K hK=>?_)
 go_simp
 refine hK.out _ _ (fun h=>absurd rfl h) ?_
 clear hK K;refine ao.done (by kernel_rfl) ?_ _
 obtain ⟨k0,k1,k2,k3,k4,k5,k6,k7,k8,k9,k10,k11,k12,u1⟩:=hS2;clear X2;by_cases hc:dm x ms ds s ys=0
 . obtain ⟨ha,hz,haw,hdn,hin,hbr,hsq,hgn⟩:=lP hc
   have HV:Hid (eF x ms ds s ys=aZ (x,ms) s ys):=by unfold Hid eF;rw [if_pos hc]
   have HVC:Hid (dW x ms ds s ys=dnC (aZ (x,ms) s ys).1.down):=by unfold Hid dW;rw [if_pos hc];rfl
   obtain ⟨_,_,hwe,hmi⟩:=mE (HME.out.below B2.out);simp only [List.cons.injEq,Value.slice.injEq,and_true,true_and] at hwe
   obtain ⟨rfl,rfl⟩:=hwe;have HLW:=aa (se w2 B x ms ds fm fd (HA.out.below B2.out) ha hdn hsq s hin av cv ys f hmi (fun b hb=>⟨fun e=>r2 (e▸hff.out b hb),fun hm=>hr b hm (hff.out b hb)⟩) hz);have e0:(dm x ms ds s ys !=0)=false:=by simp [hc]
   clear ha hz haw hdn hin hbr hsq hgn hc hmi;generalize dm x ms ds s ys=cd0 at e0 ⊢;go_wp2_with fail
   refine HLW.out.mono ?_
   rintro e w3 ⟨rfl,fm3,A3,M3⟩;have HT:Hid (aA (B :: (fm++fd)) w w3):=(aA.ofBelow B2.out _).trans ⟨M3.1.os,M3.1.tape,M3.1.output,M3.1.size,fun k hk hn=>M3.1.block k hk (fun hm=>hn (by
    rcases List.mem_cons.1 hm with h|h
    . rw [h];exact List.mem_cons_self
    exact List.mem_cons_of_mem _ (List.mem_append_left _ h)))⟩
   have HN3:Hid (∀b∈fm3,b∈fm∨w.heap.size<=b):=fun b hb=>(M3.2 b hb).elim .inl (fun h=>.inr (by omega));have z3:=M3.1.size;clear k0 k1 k2 k3 k4 k5 k6 k7 k8 k9 k10 k11 k12 u1 M3 HLW e0;generalize aZ (x,ms) s ys=st at A3 HV HVC ⊢;obtain ⟨y2,ns⟩:=st;dsimp only at A3 HVC ⊢
   have HA3:=aa A3;cases hdn:y2.down
   . have HC:Hid (gX x ms ds s=0/\fu x ms ds s=(y2,ns)/\jV x ms ds s=ds.take j++ds.drop (j+1)):=by
      unfold Hid;rw [HFC.out.1,HFC.out.2.1,HFC.out.2.2,HV.out,HVC.out,hdn];exact ⟨rfl,rfl,rfl⟩
     rw [show dnC false=0 from rfl];clear hdn HV HVC HFC;obtain ⟨bm3,bd3,cm3,cd3,X3,m3,d3,hr3,r13,r23⟩:=A3;obtain ⟨g3,rfl⟩:=cY d3 (by omega);have fz:=X3.frozen;have k9:w3.cell? ⟨B,9,none⟩=some (.slice (some ⟨g3,0,none⟩) ds.length cd3):=X3.cell 9;have zB3:=X3.lt;obtain ⟨cs,fq,s1,s2,s3,s4,s5,s6⟩:=xO d3;have hcd:ds.length<=cd3:=by
      rcases d3.1 with ⟨h1,_⟩|⟨_,_,_,_,h1,h2,_⟩
      . simp at h1
      simp only [List.cons.injEq,Value.slice.injEq,and_true,true_and] at h1;omega
     have XH:=aa X3;have MH:=aa m3;have DH:=aa d3;have S5:=aa s5;have S6:=aa s6;have S4:=aa s4;clear X3 m3 d3 s4 s5 s6;have c1:(j:Int)<=(cd3:Int):=by omega
     have c2:(j:Int)+1<=(ds.length:Int):=by omega
     have c3:(0:Int)<=(j:Int)+1:=by omega
     have c4:(ds.length:Int)<=(cd3:Int):=by omega
     have hS:w3.drew.cell? ⟨B,9,none⟩=some (.slice (some ⟨g3,0,none⟩) ds.length cd3):=k9;have cw:IntKind.i64.wrap ((j:Int)+1)=(j:Int)+1:=IntWalk.i64_in _ (by omega);have ct:((j:Int)+1).toNat=j+1:=by omega
     obtain ⟨ad,had,hads⟩:∃ad:Addr,(if cd3=j+1 then some (⟨g3,0,none⟩:Addr) else some ⟨g3,(j+1)*2,none⟩)=some ad/\(ad=⟨g3,(j+1)*2,none⟩∨ds.length=j+1):=by
      split
      . exact ⟨_,rfl,.inr (by omega)⟩
      exact ⟨_,rfl,.inl rfl⟩
     go_wp2_with fail
     refine ao.start (S:=fun w'=>w'.cell? ⟨B,9,none⟩=some (.slice (some ⟨g3,0,none⟩) ds.length cd3)) (k:=19) (by kernel_rfl) ?_
     refine ao.t 0 hS ?_
     refine ao.t 2 hS ?_
     refine ao.t 3 hS ?_
     refine ao.t 4 hS ?_
     refine ao.t 5 hS ?_
     refine ao.t 6 hS ?_
     refine ao.t 7 hS ?_
     refine ao.t 9 hS ?_
     refine ao.t 10 hS ?_
     refine ao.t 11 hS ?_
     refine ao.t 12 hS ?_
     refine ao.t 13 hS ?_
     refine ao.t 14 hS ?_
     refine ao.t 15 hS ?_
     have B4:Hid (Below w3.heap.size w3 (w3.alloc (.cells #[] 93)).drew):=(af w3 (.cells #[] 93)).drew;have M4:=aa (wy (t:=tWr) (E:=93) w3).adrew;have hS4:(w3.alloc (.cells #[] 93)).drew.cell? ⟨B,9,none⟩=some (.slice (some ⟨g3,0,none⟩) ds.length cd3):=(B4.out.cell (p:=⟨B,9,none⟩) zB3).trans k9;refine ao.one (i:=1) (by kernel_rfl) rfl (fun K hK=>?_)
     go_simp
     refine hK.out _ _ (fun _=>hS4) ?_
     clear hK K hS;generalize (w3.alloc (.cells #[] 93)).drew=w4 at B4 M4 hS4 ⊢;have M4:Hid ((aW 93).Mine w4 [.slice (some ⟨w3.heap.size,0,none⟩) 0 0] [] [w3.heap.size]):=M4;have hq:g3<w3.heap.size/\(∀b∈fq.flatten,b<w3.heap.size)/\g3∉fq.flatten/\fq.flatten.Nodup/\(∀b∈fq.flatten,b∈fd):=by
      have hl:=DH.out.lt;have hn:=DH.out.2;rw [s2] at hl hn ⊢;rw [List.nodup_cons] at hn;exact ⟨hl _ List.mem_cons_self,fun b hb=>hl b (List.mem_cons_of_mem _ hb),hn.1,hn.2,fun b hb=>List.mem_cons_of_mem _ hb⟩
     obtain ⟨q1,q2,q3,q4,q5⟩:=hq;clear s2;have ON:=aa (wr_one q4 s3 S5.out);have qt:∀b∈(fq.take j).flatten,b∈fq.flatten:=fun b hb=>(kY (List.take_sublist _ _)).subset hb;have qd:∀b∈(fq.drop (j+1)).flatten,b∈fq.flatten:=fun b hb=>(kY (List.drop_sublist _ _)).subset hb;have E1:Hid (jl tWr w4 (cs.take (j*2)) (ds.take j) (fq.take j)):=by
      have h:=S6.out 0 j (by omega);rw [Nat.zero_mul,List.drop_zero,List.drop_zero,List.drop_zero] at h;exact h.kept (aA.ofBelow B4.out []) (by simp)
     have E2:Hid (jl tWr w3 (cs.drop ((j+1)*2)) (ds.drop (j+1)) (fq.drop (j+1))):=by
      have h:=S6.out (j+1) (ds.length-(j+1)) (by omega);have hA:(ds.drop (j+1)).take (ds.length-(j+1))=ds.drop (j+1):=List.take_of_length_le (by simp);have hB:(fq.drop (j+1)).take (ds.length-(j+1))=fq.drop (j+1):=List.take_of_length_le (by rw [List.length_drop,s1];exact Nat.le_refl _);have h2:(cs.drop ((j+1)*tWr.n)).take ((ds.length-(j+1))*tWr.n)=cs.drop ((j+1)*2):=List.take_of_length_le (by rw [List.length_drop,s3,Nat.sub_mul];exact Nat.le_refl _);rw [hA,hB,h2] at h;exact h
     have R1:Hid (∀k u,(cs.take (j*2))[k]?=some u->w4.cell? ((⟨g3,0,none⟩:Addr).add k)=some u):=fun k u hu=>by
      rw [List.getElem?_take] at hu;split at hu
      . have h:=S4.out k u hu
        have h2:=(B4.out.cell (p:=⟨g3,k,none⟩) q1).trans h;by_cases hk0:k=0
        . subst hk0;simpa [Addr.add] using h2
        simpa [Addr.add,hk0] using h2
      simp at hu
     have D1:Hid (∀b∈[w3.heap.size],b∉(fq.take j).flatten):=fun b hb hm=>by
      have h1:=q2 b (qt b hm);simp at hb
      omega
     have lt1:(ds.take j).length=j:=by rw [List.length_take];omega
     obtain ⟨i4,hi4,hz0,hz1,hz2⟩:=info_parts Tryz.infoEnt;refine ao.one (i:=8) (by kernel_rfl) rfl (fun K hK=>?_)
     refine qe tWr rfl _ _ 29 rfl 93 i4 (.agg #[.int .i64 0,.slice none 0 0]) 32 Tryz.underlying29 hi4 hz0 hz1 hz2 rfl Nat.zero_lt_two w3.heap.size 0 [] [w3.heap.size] rfl M4.out ⟨g3,0,none⟩ cd3 (cs.take (j*2)) (ds.take j) (fq.take j) (by rw [lt1];rfl) E1.out D1.out R1.out (fun u hu=>ON.out u (List.mem_of_mem_take hu)) (by rw [lt1];unfold maxLen;simp;omega) (by rw [lt1];simp;omega) ?_
     intro g5 c5 w5 fp5 m5 n5 t5;simp only [List.length_nil,Nat.zero_add,List.nil_append] at m5 ⊢
     have z4:=B4.out.size;have z5:=t5.size;have N5:Hid (∀b∈fp5,b∈(fq.take j).flatten∨w3.heap.size<=b):=fun b hb=>by
      rcases n5 b hb with h|h|h
      . simp at h;exact .inr (by omega)
      . exact .inl h
      exact .inr (by omega)
     have T5:Hid (aA [w3.heap.size] w4 w5):=t5;have M5:=aa m5;have F5:Hid (∀k,k<w3.heap.size->w5.heap[k]?=w3.heap[k]?):=fun k hk=>by rw [T5.out.block k (by omega) (by simp;omega),B4.out.block k hk]
     have X5:=XH.out.kept (F5.out B zB3);have hS5:w5.cell? ⟨B,9,none⟩=some (.slice (some ⟨g3,0,none⟩) ds.length cd3):=X5.cell 9;refine hK.out _ _ (fun _=>hS5) ?_
     clear hK K hS4 m5 n5 t5 X5;simp only [Act.put,List.setIfInBounds_toArray,List.set_cons_zero,List.set_cons_succ]
     have E5:Hid (jl tWr w5 (cs.drop ((j+1)*2)) (ds.drop (j+1)) (fq.drop (j+1))):=E2.out.kept (fp:=[]) (aA.mono (fp:=[]) ⟨T5.out.os.trans B4.out.os,T5.out.tape.trans B4.out.tape,T5.out.output.trans B4.out.output,Nat.le_trans z4 z5,fun k hk _=>F5.out k hk⟩ (by simp)) (by simp);have R5:Hid (∀k u,(cs.drop ((j+1)*2))[k]?=some u->w5.cell? (ad.add k)=some u):=fun k u hu=>by
      rcases hads with rfl|h0
      . rw [List.getElem?_drop] at hu
        have h:=S4.out _ u hu;have h2:w5.cell? ⟨g3,(j+1)*2+k,none⟩=some u:=by rw [←h];simp only [World.cell?,F5.out g3 q1]
        by_cases hk0:k=0
        . subst hk0;simpa [Addr.add] using h2
        simpa [Addr.add,hk0] using h2
      rw [List.getElem?_eq_none (by rw [List.length_drop,s3,h0];simp)] at hu;simp at hu
     have D5:Hid (∀b∈fp5,b∉(fq.drop (j+1)).flatten):=fun b hb hm=>by
      rcases N5.out b hb with h|h
      . exact tu q4 b h hm
      have:=q2 b (qd b hm);omega
     have ld:(ds.drop (j+1)).length=ds.length-(j+1):=List.length_drop;refine ao.one (i:=16) (by kernel_rfl) rfl (fun K hK=>?_)
     refine qe tWr rfl _ _ 29 rfl 93 i4 (.agg #[.int .i64 0,.slice none 0 0]) 32 Tryz.underlying29 hi4 hz0 hz1 hz2 rfl Nat.zero_lt_two g5 c5 (ds.take j) fp5 rfl M5.out ad (cd3-(j+1)) (cs.drop ((j+1)*2)) (ds.drop (j+1)) (fq.drop (j+1)) (by rw [ld];rfl) E5.out D5.out R5.out (fun u hu=>ON.out u (List.mem_of_mem_drop hu)) (by rw [lt1,ld];unfold maxLen;omega) (by rw [lt1,ld];omega) ?_
     intro g6 c6 w6 fp6 m6 n6 t6;rw [←List.length_append] at m6 ⊢;have T6:=aa (wB (fd:=fd) B4.out T5.out t6 (fun b hb=>(N5.out b hb).elim (fun h=>.inl (q5 b (qt b h))) .inr));have N6:Hid (∀b∈fp6,b∈fd∨w3.heap.size<=b):=fun b hb=>by
      rcases n6 b hb with h|h|h
      . exact (N5.out b h).elim (fun h=>.inl (q5 b (qt b h))) .inr
      . exact .inl (q5 b (qd b h))
      exact .inr (by omega)
     have X6:=XH.out.turned T6.out r23;have fz6:=X6.frozen;have hS6:w6.cell? ⟨B,9,none⟩=some (.slice (some ⟨g3,0,none⟩) ds.length cd3):=X6.cell 9;have FIN:Hid (Ending.returned (Value.int .i64 0)=.returned (.int .i64 (gX x ms ds s))/\Fl8 w B fm fd (fu x ms ds s).1 (fu x ms ds s).2 (jV x ms ds s) (w6.setCell ⟨B,9,none⟩ (.slice (some ⟨g6,0,none⟩) (ds.take j++ds.drop (j+1)).length c6))):=by
      unfold Hid;rw [HC.out.1,HC.out.2.1,HC.out.2.2];exact ⟨rfl,xP HT.out T6.out XH.out MH.out hr3 r13 r23 m6 N6.out HN3.out⟩
     refine hK.out _ _ (fun _=>hS6) ?_
     clear hK K hS5 m6 n6 t6 X6;generalize (ds.take j++ds.drop (j+1)).length=l6 at FIN ⊢;simp only [Act.put,List.setIfInBounds_toArray,List.set_cons_zero,List.set_cons_succ]
     refine ao.one (i:=17) (by kernel_rfl) rfl (fun K hK=>?_)
     go_simp
     refine hK.out _ _ (fun _=>hS6) ?_
     clear hK K;refine ao.one (i:=18) (by kernel_rfl) rfl (fun K hK=>?_)
     go_simp
     refine hK.out _ _ (fun _=>hS6) ?_
     clear hK K;refine ao.one (i:=19) (by kernel_rfl) rfl (fun K hK=>?_)
     go_simp
     refine hK.out _ _ (fun h=>absurd rfl h) ?_
     clear hK K;refine ao.done (by kernel_rfl) ?_ _
     go_wp2
     go_ret
     exact qT FIN.out
   have HF:Hid (Ending.returned (Value.int .i64 6)=.returned (.int .i64 (gX x ms ds s))/\Fl8 w B fm fd (fu x ms ds s).1 (fu x ms ds s).2 (jV x ms ds s) w3):=by
    unfold Hid;rw [HFC.out.1,HFC.out.2.1,HFC.out.2.2,HV.out,HVC.out,hdn,if_neg (by decide)];exact ⟨rfl,fm3,fd,HA3.out,HT.out,fun b hb=>hb.elim (fun h=>(HN3.out b h).elim .inl (fun h=>.inr (.inr h))) (fun h=>.inr (.inl h))⟩
   rw [show dnC true=6 from rfl];clear hdn A3;go_wp2
   go_ret
   exact qT HF.out
 have e0:(dm x ms ds s ys !=0)=true:=by simpa using hc
 have HF:Hid (Ending.returned (Value.int .i64 (dm x ms ds s ys))=.returned (.int .i64 (gX x ms ds s))/\Fl8 w B fm fd (fu x ms ds s).1 (fu x ms ds s).2 (jV x ms ds s) w2):=by
  have h1:dW x ms ds s ys=dm x ms ds s ys:=by unfold dW;rw [if_neg hc]
  have h2:eF x ms ds s ys=(x,ms):=by unfold eF;rw [if_neg hc]
  unfold Hid;rw [HFC.out.1,HFC.out.2.1,HFC.out.2.2,h1,h2,if_neg hc];exact ⟨rfl,Fl8.below HA.out B2.out⟩
 clear hc;go_wp2
 go_ret
 exact qT HF.out
theorem xQ {x:aq} {ms:List ai} {ds:List aH} {t:Int} (h:at8 ds t=-1):gX x ms ds t=0/\fu x ms ds t=(x,ms)/\jV x ms ds t=ds:=by
 unfold gX fu jV;rw [if_pos h,if_pos h,if_pos h];exact ⟨rfl,rfl,rfl⟩
theorem uc {x:aq} {ms:List ai} {ds:List aH} {t:Int} {k:Nat} {ys:List Int} (h:at8 ds t=(k:Int)) (hk:ds[k]?=some (t,ys)):gX x ms ds t=dW x ms ds t ys/\fu x ms ds t=eF x ms ds t ys/\jV x ms ds t=if dW x ms ds t ys=0 then ds.take k++ds.drop (k+1) else ds:=by
 have h9:sf ds t=ys:=by unfold sf;rw [h,Int.toNat_natCast,List.getD_eq_getElem?_getD,hk];rfl
 unfold gX fu jV;rw [if_neg (by omega),if_neg (by omega),if_neg (by omega),h9,h,Int.toNat_natCast];exact ⟨rfl,rfl,rfl⟩
def xZ (q:aq×List ai):List aH->(aq×List ai)×List aH×Int
 | []=>(q,[],0)
 | e :: es=>if gX q.1 q.2 (e :: es) e.1=0 then xZ (fu q.1 q.2 (e :: es) e.1) es else (fu q.1 q.2 (e :: es) e.1,e :: es,gX q.1 q.2 (e :: es) e.1)
theorem wE (e:aH) (es:List aH):at8 (e :: es) e.1=((0:Nat):Int):=qA (j:=0) (e:=e) rfl rfl (fun i _ hi=>by omega)
theorem ud {q:aq×List ai} {e:aH} {es:List aH}:jV q.1 q.2 (e :: es) e.1=if gX q.1 q.2 (e :: es) e.1=0 then es else e :: es:=by
 obtain ⟨h1,_,h3⟩:=uc (x:=q.1) (ms:=q.2) (wE e es) (show (e :: es)[0]?=some (e.1,e.2) from rfl);rw [h3,h1];rfl
theorem qf {q:aq×List ai} {e:aH} {es:List aH} (h:gX q.1 q.2 (e :: es) e.1=0):xZ q (e :: es)=xZ (fu q.1 q.2 (e :: es) e.1) es:=by
 conv=>lhs;unfold xZ
 rw [if_pos h]
theorem qg {q:aq×List ai} {e:aH} {es:List aH} (h:¬gX q.1 q.2 (e :: es) e.1=0):xZ q (e :: es)=(fu q.1 q.2 (e :: es) e.1,e :: es,gX q.1 q.2 (e :: es) e.1):=by
 conv=>lhs;unfold xZ
 rw [if_neg h]
theorem xR (q:aq×List ai) (ds:List aH) (t:Int):aQ (fu q.1 q.2 ds t).2<=max (aQ q.2) 10005:=by
 unfold fu;split
 . exact Nat.le_max_left _ _
 unfold eF;split
 . rename_i hc
   obtain ⟨ha,_⟩:=lP hc;obtain ⟨fc,mk,_,_⟩:=qa ha;obtain ⟨k1,k2⟩:=qR (q:=(q.1,q.2)) mk fc t (sf ds t);have h1:=qO ha;have h2:=rY k1 (by rw [k2];show q.2.length<=5;omega);exact Nat.le_trans h2 (Nat.le_max_right _ _)
 exact Nat.le_max_left _ _
def sn (d:Bool):Int:=if d=true then 6 else 0
theorem ue {a b:Int} {p:Prop} (h:(Ending.returned (Value.int .i64 a)=.returned (.int .i64 b))/\p):(Ending.returned (Value.int .i64 a)=.returned (.int .i64 b))/\p:=h
def lR (s:Int):ai:=(bC (6+s),[],false,[])
def fM (q:aq×List ai):aq×List ai:=ge ({q.1 with xW:=0},q.2.set q.1.lost.toNat (lR q.1.s))
theorem jW {w:World} {B:Nat} {x:aq} {ms:List ai} {ds:List (Int×List Int)} {fm fd:List Nat} (h:aK w B x ms ds fm fd) (k:Int):aK (w.setCell ⟨B,5,none⟩ (.int .i64 k)) B {x with xW:=k} ms ds fm fd:=by
 obtain ⟨bm,bd,cm,cd,X,hm,hd,hr,r1,r2⟩:=h;exact ⟨bm,bd,cm,cd,X.set 5 _,hm.setCell r1 _,hd.setCell r2 _,hr,r1,r2⟩
theorem qU (w:World) (B:Nat) (x:aq) (ms:List ai) (ds:List (Int×List Int)) (fm fd:List Nat) (h:aK w B x ms ds fm fd) (hf:x.xY<=1000) (hM:dh ms) (hg0:0<=x.gen) (hg1:x.gen<=60000) (hg:bL x.n x.s=true) (m:Nat) (hlo:x.lost=(m:Int)) (hm:m<ms.length):
 Calls Tryz.prog 115 #[.pointer (some ⟨B,0,none⟩)] w fun e w'=>e=.returned (.int .i64 (sn (fM (x,ms)).1.down))/\∃fm',aK w' B (fM (x,ms)).1 (fM (x,ms)).2 ds fm' fd/\aT B fm w fm' w':=by
 obtain ⟨g1,g2,g3,g4⟩:=aB.1 hg;obtain ⟨bm,bd,cm,cd,X,hmm,hdd,hr,r1,r2⟩:=h;have hm63:=(ag hmm.rd).2;obtain ⟨g,rfl⟩:=cY hmm (by omega);have X0:=X;unfold bH at X0;obtain ⟨k0,k1,k2,k3,k4,k5,k6,k7,k8,k9,k10,k11,k12⟩:=X0.cells13;rw [hlo] at k4;have zB:=X.lt;have HOK:Hid (dh (ms.set m (lR x.s))):=hM.set (oe (by omega) (by omega));have HSA:Hid (fM (x,ms)=ge ({x with xW:=0},ms.set m (lR x.s))):=by unfold Hid fM;dsimp only;rw [hlo,Int.toNat_natCast]
 have XH:=aa X;have MH:=aa hmm;have DH:=aa hdd;have hS:w.drew.cell? ⟨B,3,none⟩=some (.slice (some ⟨g,0,none⟩) ms.length cm)/\w.drew.cell? ⟨B,4,none⟩=some (.int .i64 (m:Int))/\w.drew.cell? ⟨B,1,none⟩=some (.int .i64 x.n)/\w.drew.cell? ⟨B,2,none⟩=some (.int .i64 x.s):=⟨k3,k4,k1,k2⟩;have i1:(0:Int)<=(m:Int):=by omega
 have i3:(m:Int)<(ms.length:Int):=by omega
 clear X X0 hmm hdd hM hlo hg k0 k5 k6 k7 k8 k9 k10 k11 k12;go_enter Tryz.func115,Tryz.ntmps115
 go_wp2_with fail
 refine ao.start (S:=fun w'=>w'.cell? ⟨B,3,none⟩=some (.slice (some ⟨g,0,none⟩) ms.length cm)/\w'.cell? ⟨B,4,none⟩=some (.int .i64 (m:Int))/\w'.cell? ⟨B,1,none⟩=some (.int .i64 x.n)/\w'.cell? ⟨B,2,none⟩=some (.int .i64 x.s)) (k:=15) (by kernel_rfl) ?_
 refine ao.t 0 hS ?_
 refine ao.t 1 hS ?_
 refine ao.t 2 hS ?_
 refine ao.t 3 hS ?_
 refine ao.t 4 hS ?_
 refine ao.t 5 hS ?_
 refine ao.t 6 hS ?_
 refine ao.t 7 hS ?_
 refine ao.t 8 hS ?_
 refine ao.t 9 hS ?_
 refine ao.t 10 hS ?_
 refine ao.t 11 hS ?_
 refine ao.one (i:=12) (by kernel_rfl) rfl (fun K hK=>?_)
 go_simp
 refine (eH _ x.n x.s ⟨g3,g4⟩).mono ?_
 rintro e w1 ⟨rfl,b1'⟩;have b1:Below w.heap.size w w1:=(Below.refl w.heap.size w).drew.trans b1';have hS1:w1.cell? ⟨B,3,none⟩=some (.slice (some ⟨g,0,none⟩) ms.length cm)/\w1.cell? ⟨B,4,none⟩=some (.int .i64 (m:Int))/\w1.cell? ⟨B,1,none⟩=some (.int .i64 x.n)/\w1.cell? ⟨B,2,none⟩=some (.int .i64 x.s):=⟨(b1.cell (p:=⟨B,3,none⟩) zB).trans k3,(b1.cell (p:=⟨B,4,none⟩) zB).trans k4,(b1.cell (p:=⟨B,1,none⟩) zB).trans k1,(b1.cell (p:=⟨B,2,none⟩) zB).trans k2⟩;have z1:=b1.size;have B1:=aa b1;clear b1 b1';go_wp2_with fail
 refine hK.out _ _ (fun _=>hS1) ?_
 clear hK K;refine ao.one (i:=13) (by kernel_rfl) rfl (fun K hK=>?_)
 go_simp
 refine (gI _ (6+x.s)).mono ?_
 rintro e w2 ⟨a0,c0,rfl,o2,b2⟩;have b02:=Below.andThen B1.out b2;have z2:=b2.size;have om:(cu 119).Own w2 w.heap.size w2.heap.size [.slice a0 (bC (6+x.s)).length c0,.slice none 0 0,.bool false,.slice none 0 0] (lR x.s):=cH o2 ((cP (t:=tWr) (E:=119) w2).own (lo:=w2.heap.size) (hi:=w2.heap.size) (by simp)) ((cP (t:=eT) (E:=3) w2).own (lo:=w2.heap.size) (hi:=w2.heap.size) (by simp)) (.inl (Nat.le_refl _)) (.inl (Nat.le_refl _)) (.inl (Nat.le_refl _)) ⟨z1,Nat.le_refl _⟩ ⟨by omega,Nat.le_refl _⟩ ⟨by omega,Nat.le_refl _⟩;obtain ⟨fpx,mx,rx⟩:=om.mine;obtain ⟨cOld,fz,hgm,fm9,hA9,hMv9⟩:=iz (m:=m) XH.out MH.out DH.out hr r1 r2 b02 (by omega) mx (fun b hb=>(rx b hb).1);obtain ⟨o0,t0⟩:=cOld 0 (by omega);obtain ⟨o1,t1⟩:=cOld 1 (by omega);obtain ⟨o2',t2⟩:=cOld 2 (by omega);obtain ⟨o3,t3⟩:=cOld 3 (by omega);rw [Nat.add_zero] at t0;have HA:=aa hA9;have HMV:=aa hMv9;have hS2:w2.cell? ⟨B,3,none⟩=some (.slice (some ⟨g,0,none⟩) ms.length cm)/\w2.cell? ⟨B,4,none⟩=some (.int .i64 (m:Int))/\w2.cell? ⟨B,1,none⟩=some (.int .i64 x.n)/\w2.cell? ⟨B,2,none⟩=some (.int .i64 x.s):=⟨(b02.cell (p:=⟨B,3,none⟩) zB).trans k3,(b02.cell (p:=⟨B,4,none⟩) zB).trans k4,(b02.cell (p:=⟨B,1,none⟩) zB).trans k1,(b02.cell (p:=⟨B,2,none⟩) zB).trans k2⟩;have gB:¬g=B:=fun e=>r1 (e▸hgm);unfold gL at HA HMV;clear k3 k4 k1 k2 o2 om b2 b02 mx rx cOld hA9 hMv9 XH MH DH hS1 B1;go_wp2_with fail
 refine hK.out _ _ (fun _=>hS2) ?_
 clear hK K;refine ao.t 14 hS2 ?_
 refine ao.one (i:=15) (by kernel_rfl) rfl (fun K hK=>?_)
 go_simp
 refine hK.out _ _ (fun h=>absurd rfl h) ?_
 clear hK K;refine ao.done (by kernel_rfl) ?_ _
 clear hS hS2 t0 t1 t2 t3 fz;generalize (((w2.setCell ⟨g,m*4,none⟩ (.slice a0 (bC (6+x.s)).length c0)).setCell ⟨g,m*4+1,none⟩ (.slice none 0 0)).setCell ⟨g,m*4+2,none⟩ (.bool false)).setCell ⟨g,m*4+3,none⟩ (.slice none 0 0)=w3 at HA HMV ⊢;obtain ⟨c4,c5,c8,c11,c12,fz⟩:=iI HA.out;generalize ms.set m (lR x.s)=ns at HA HSA HOK;have HA4:=aa (jW HA.out 0);have MV4:=aa (HMV.out.trans (aT.set (B:=B) (j:=5) (fm:=fm9) (w:=w3) (.int .i64 0)));have HMK:=aa (iO _ B {x with xW:=0} ns ds fm9 fd HA4.out hf HOK.out hg0 hg1);go_wp2_with fail
 refine HMK.out.mono ?_
 rintro e w5 ⟨rfl,fm5,A5,M5⟩;have MV5:=aa (MV4.out.trans M5);clear M5 HMK HA4 MV4 HA HMV c4 c5 c8 c11 c12 fz;generalize ge ({x with xW:=0},ns)=st at A5 HSA;obtain ⟨y,os⟩:=st;dsimp only at A5
 have HA5:=aa A5;obtain ⟨_,_,_,d11,_,_⟩:=iI A5;clear A5;cases hdn:y.down
 . have HF:Hid (Ending.returned (Value.int .i64 0)=.returned (.int .i64 (sn (fM (x,ms)).1.down))/\∃fm',aK w5 B (fM (x,ms)).1 (fM (x,ms)).2 ds fm' fd/\aT B fm w fm' w5):=by
    unfold Hid;rw [HSA.out];refine ⟨?_,fm5,HA5.out,MV5.out⟩
    show _=Ending.returned (.int .i64 (sn y.down))
    rw [hdn];rfl
   rw [hdn] at d11;clear hdn;go_wp2
   go_ret
   exact ue HF.out
 have HF:Hid (Ending.returned (Value.int .i64 6)=.returned (.int .i64 (sn (fM (x,ms)).1.down))/\∃fm',aK w5 B (fM (x,ms)).1 (fM (x,ms)).2 ds fm' fd/\aT B fm w fm' w5):=by
  unfold Hid;rw [HSA.out];refine ⟨?_,fm5,HA5.out,MV5.out⟩
  show _=Ending.returned (.int .i64 (sn y.down))
  rw [hdn];rfl
 rw [hdn] at d11;clear hdn;go_wp2
 go_ret
 exact ue HF.out
end Go.Proofs.YtgjomldcnjjpaaaGreat

/-
 Plain lemmas: what is done to an array that is right, where the power stays, leaves it right. No condition; nothing of the program is named here.
-/
import Derived.Test.YtejeekndbnpmoaaGreatRowWritesBentSq2
import Derived.Test.YtejeekndbnpmoaaGreatRowWritesBentSq3
import Derived.Test.YtejeekndbnpmoaaGreatRowWritesBentSq12
import Derived.Test.YtejeekndbnpmoaaGreatRowWritesBentSq10
import Derived.Test.YtejeekndbnpmoaaGreatRowWritesBentSq4

set_option maxRecDepth 100000
set_option maxHeartbeats 8000000
set_option linter.unusedSimpArgs false

namespace Go.Proofs.YtejeekndbnpmoaaGreat
open Go.RowKit

def qa (ds:List aF) (s:Int):List Int:=(ds.getD (at8 ds s).toNat (0,[])).2
def eH (x:al) (ms:List ai) (ds:List aF) (s:Int):al×List ai:=if at8 ds s=-1 then (x,ms) else bH x ms ds s (qa ds s)
def gy (x:al) (ms:List ai) (ds:List aF) (s:Int):Int:=if at8 ds s=-1 then 0 else bI x ms ds s (qa ds s)
def jB (x:al) (ms:List ai) (ds:List aF) (s:Int):List aF:=if at8 ds s=-1 then ds else if bI x ms ds s (qa ds s)=0 then ds.take (at8 ds s).toNat++ds.drop ((at8 ds s).toNat+1) else ds
def Fl8 (w:World) (B:Nat) (fm fd:List Nat) (y:al) (ns:List ai) (es:List aF) (w':World):Prop:=
 ∃fm' fd',aD w' B y ns es fm' fd'/\aw (B :: (fm++fd)) w w'/\∀b,b∈fm'∨b∈fd'->b∈fm∨b∈fd∨w.heap.size<=b
theorem Fl8.below {w w':World} {B:Nat} {x:al} {ms:List ai} {ds:List aF} {fm fd:List Nat} (h:aD w B x ms ds fm fd) (hb:Below w.heap.size w w'):Fl8 w B fm fd x ms ds w':=
 ⟨fm,fd,h.below hb,aw.ofBelow hb _,fun _ h=>h.elim .inl (fun h=>.inr (.inl h))⟩
theorem pg {a b:Int} {p:Prop} (h:(Ending.returned (Value.int .i64 a)=.returned (.int .i64 b))/\p):(Ending.returned (Value.int .i64 a)=.returned (.int .i64 b))/\p:=h
theorem ur {t:Ty} {E:TypeId} (w:World):(bQ t E).Mine (w.alloc (.cells #[] E)) [.slice (some ⟨w.heap.size,0,none⟩) 0 0] [] [w.heap.size]:=
 ⟨.inr ⟨w.heap.size,0,#[],[],rfl,Nat.le_refl _,Nat.zero_le _,Box.new w E #[],by simp,rfl,rfl,by simp⟩,by simp⟩
theorem ut {w3 w4 w5 w6:World} {fd fp5:List Nat} (b4:Below w3.heap.size w3 w4) (t5:aw [w3.heap.size] w4 w5) (t6:aw fp5 w5 w6) (n5:∀b∈fp5,b∈fd∨w3.heap.size<=b):aw fd w3 w6:=by
 have z4:=b4.size;have z5:=t5.size;refine ⟨t6.os.trans (t5.os.trans b4.os),t6.tape.trans (t5.tape.trans b4.tape),t6.output.trans (t5.output.trans b4.output),Nat.le_trans z4 (Nat.le_trans z5 t6.size),fun k hk hn=>?_⟩
 rw [t6.block k (by omega) (fun hm=>(n5 k hm).elim hn (fun h=>by omega)),t5.block k (by omega) (by simp;omega),b4.block k hk]
theorem vt {w w3 w6:World} {B:Nat} {y2:al} {ns:List ai} {ds es:List aF} {fm fd fm3 fp6:List Nat} {bm bd a6:Option Addr} {cm cd c6:Nat} (HT:aw (B :: (fm++fd)) w w3) (T:aw fd w3 w6) (X3:Box w3 B 29 (aC y2 (.slice bm ns.length cm) (.slice bd ds.length cd))) (m3:(bt 171 101).Mine w3 [.slice bm ns.length cm] ns fm3) (hr3:∀b∈fm3,b∉fd) (r13:B∉fm3) (r23:B∉fd) (m6:(aU 90).Mine w6 [.slice a6 es.length c6] es fp6) (n6:∀b∈fp6,b∈fd∨w3.heap.size<=b) (h3:∀b∈fm3,b∈fm∨w.heap.size<=b):
 Fl8 w B fm fd y2 ns es (w6.setCell ⟨B,9,none⟩ (.slice a6 es.length c6)):=by
 have zB:=X3.lt;have zw:=HT.size;have hB6:B∉fp6:=fun hm=>(n6 B hm).elim r23 (fun h=>by omega);have X6:=X3.turned T r23;refine ⟨fm3,fp6,⟨bm,a6,cm,c6,X6.set 9 _,(m3.kept T hr3).setCell r13 _,m6.setCell hB6 _,fun b hb hb6=>?_,r13,hB6⟩,?_,fun b hb=>?_⟩
 . rcases n6 b hb6 with h|h
   . exact hr3 b hb h
   have:=m3.lt b hb;omega
 . have h1:=(aJ.set (B:=B) (j:=9) (fm:=fm) (w:=w6) (.slice a6 es.length c6)).1
   refine ⟨h1.os.trans (T.os.trans HT.os),h1.tape.trans (T.tape.trans HT.tape),h1.output.trans (T.output.trans HT.output),Nat.le_trans zw (Nat.le_trans T.size h1.size),fun k hk hn=>?_⟩
   simp only [List.mem_cons,List.mem_append,not_or] at hn
   have:=T.size;rw [h1.block k (by omega) (by simp [hn.1,hn.2.1]),T.block k (by omega) hn.2.2,HT.block k hk (by simp [hn.1,hn.2.1,hn.2.2])]
 rcases hb with hb|hb
 . exact (h3 b hb).elim .inl (fun h=>.inr (.inr h))
 exact (n6 b hb).elim (fun h=>.inr (.inl h)) (fun h=>.inr (.inr (by omega)))
theorem kY (w:World) (B:Nat) (x:al) (ms:List ai) (ds:List aF) (fm fd:List Nat) (h:aD w B x ms ds fm fd) (hw:aM ms ds<=2097152) (s:Int):
 Calls Tryz.prog 123 #[.pointer (some ⟨B,0,none⟩),.int .i64 s] w fun e w'=>e=.returned (.int .i64 (gy x ms ds s))/\Fl8 w B fm fd (eH x ms ds s).1 (eH x ms ds s).2 (jB x ms ds s) w':=by
 have hwd:bh ds<=2097152:=by unfold aM at hw;omega
 have HA:=aa h;have hlB:=h.lt;obtain ⟨bm,bd,cm,cd,X,hm,hd,hr,r1,r2⟩:=h;have hnd:ds.length<=2097152:=by unfold bh at hwd;omega
 unfold aC at X;obtain ⟨k0,k1,k2,k3,k4,k5,k6,k7,k8,k9,k10,k11,k12⟩:=X.cells13;have HX:=aa X;have HM:=aa hm;have HD:=aa hd;have hdr:=hd.rd;clear X hm hd;go_enter Tryz.func123,Tryz.ntmps123
 go_wp2_with fail
 refine (pE _ 90 x _ _ _ _ _ _ ds s hdr hnd).mono ?_
 rintro e w1 ⟨rfl,b1⟩;have X1:=HX.out.below b1 hlB;have z1:=b1.size;have B1:=aa b1;clear k0 k1 k2 k3 k4 k5 k6 k7 k8 k9 k10 k11 k12 hdr b1;obtain ⟨k0,k1,k2,k3,k4,k5,k6,k7,k8,k9,k10,k11,k12⟩:=X1.cells13;clear X1;rcases gL ds s with hat|⟨j,d,hat,hdj,hds⟩
 . have HF:Hid (Ending.returned (Value.int .i64 0)=.returned (.int .i64 (gy x ms ds s))/\Fl8 w B fm fd (eH x ms ds s).1 (eH x ms ds s).2 (jB x ms ds s) w1):=by
    unfold Hid gy eH jB;rw [if_pos hat,if_pos hat,if_pos hat];exact ⟨rfl,Fl8.below HA.out B1.out⟩
   rw [hat];clear hat;go_wp2
   go_ret
   exact pg HF.out
 have hjl:=(List.getElem?_eq_some_iff.1 hdj).1;have hne:¬at8 ds s=-1:=by omega
 have HFC:Hid (gy x ms ds s=bI x ms ds s d.2/\eH x ms ds s=bH x ms ds s d.2/\jB x ms ds s=if bI x ms ds s d.2=0 then ds.take j++ds.drop (j+1) else ds):=by
  have h9:qa ds s=d.2:=by unfold qa;rw [hat,Int.toNat_natCast,List.getD_eq_getElem?_getD,hdj];rfl
  unfold Hid gy eH jB;rw [if_neg hne,if_neg hne,if_neg hne,h9,hat,Int.toNat_natCast];exact ⟨rfl,rfl,rfl⟩
 have hil:=cE hdj;obtain ⟨g,rfl⟩:=bU HD.out (by omega);obtain ⟨fps,e1,e2,e3,e4⟩:=kh HD.out;obtain ⟨f,g',av,cv,hf,hg',hgl,hgd,hgf,v0,v1,hmd⟩:=e4 j d hdj;simp only [Option.some.injEq,Addr.mk.injEq,and_true] at hg'
 subst hg';obtain ⟨y,ys⟩:=d;simp only at v0 v1 HFC hil hds
 have hff:Hid (∀b∈f,b∈fd):=fun b hb=>e3 b (List.mem_flatten.2 ⟨f,List.mem_of_getElem? hf,hb⟩);have HME:=aa hmd;have u1:=(B1.out.cell (p:=⟨g,j*2+1,none⟩) hgl).trans v1;have i1:(0:Int)<=(j:Int):=by omega
 have i3:(j:Int)<(ds.length:Int):=by omega
 rw [hat];clear hat hne hdj e1 e2 e3 e4 hf hmd v0;have hS:w1.drew.cell? ⟨B,0,none⟩=some (.int .i64 x.id)/\w1.drew.cell? ⟨B,1,none⟩=some (.int .i64 x.n)/\w1.drew.cell? ⟨B,2,none⟩=some (.int .i64 x.s)/\w1.drew.cell? ⟨B,3,none⟩=some (.slice bm ms.length cm)/\w1.drew.cell? ⟨B,4,none⟩=some (.int .i64 x.lost)/\w1.drew.cell? ⟨B,5,none⟩=some (.int .i64 x.vG)/\w1.drew.cell? ⟨B,6,none⟩=some (.int .i64 x.seq)/\w1.drew.cell? ⟨B,7,none⟩=some (.int .i64 x.tail)/\w1.drew.cell? ⟨B,8,none⟩=some (.int .i64 x.gen)/\w1.drew.cell? ⟨B,9,none⟩=some (.slice (some ⟨g,0,none⟩) ds.length cd)/\w1.drew.cell? ⟨B,10,none⟩=some (.int .i64 x.vI)/\w1.drew.cell? ⟨B,11,none⟩=some (.bool x.down)/\w1.drew.cell? ⟨B,12,none⟩=some (.bool x.vH)/\w1.drew.cell? ⟨g,j*2+1,none⟩=some (.slice av ys.length cv):=⟨k0,k1,k2,k3,k4,k5,k6,k7,k8,k9,k10,k11,k12,u1⟩;go_wp2_with fail
 refine ah.start (S:=fun w'=>w'.cell? ⟨B,0,none⟩=some (.int .i64 x.id)/\w'.cell? ⟨B,1,none⟩=some (.int .i64 x.n)/\w'.cell? ⟨B,2,none⟩=some (.int .i64 x.s)/\w'.cell? ⟨B,3,none⟩=some (.slice bm ms.length cm)/\w'.cell? ⟨B,4,none⟩=some (.int .i64 x.lost)/\w'.cell? ⟨B,5,none⟩=some (.int .i64 x.vG)/\w'.cell? ⟨B,6,none⟩=some (.int .i64 x.seq)/\w'.cell? ⟨B,7,none⟩=some (.int .i64 x.tail)/\w'.cell? ⟨B,8,none⟩=some (.int .i64 x.gen)/\w'.cell? ⟨B,9,none⟩=some (.slice (some ⟨g,0,none⟩) ds.length cd)/\w'.cell? ⟨B,10,none⟩=some (.int .i64 x.vI)/\w'.cell? ⟨B,11,none⟩=some (.bool x.down)/\w'.cell? ⟨B,12,none⟩=some (.bool x.vH)/\w'.cell? ⟨g,j*2+1,none⟩=some (.slice av ys.length cv)) (k:=13) (by kernel_rfl) ?_
 refine ah.t 0 hS ?_
 refine ah.t 1 hS ?_
 refine ah.t 2 hS ?_
 refine ah.t 3 hS ?_
 refine ah.t 4 hS ?_
 refine ah.t 5 hS ?_
 refine ah.t 6 hS ?_
 refine ah.t 7 hS ?_
 refine ah.t 8 hS ?_
 refine ah.t 9 hS ?_
 refine ah.t 10 hS ?_
 refine ah.t 11 hS ?_
 refine ah.one (i:=12) (by kernel_rfl) rfl (fun K hK=>?_)
 go_simp
 refine (mB _ 171 101 90 x _ _ _ _ _ _ ms ds ((HM.out.below B1.out).adrew.rd) ((HD.out.below B1.out).adrew.rd) hw s av cv ys (eI ((HME.out.below B1.out).adrew.rd)).2 (by omega)).mono ?_
 rintro e w2 ⟨rfl,b2'⟩;have B2:Hid (Below w.heap.size w w2):=Below.andThen B1.out.drew b2';have z2:=B2.out.size;have X2:=HX.out.below B2.out hlB;have hS2:w2.cell? ⟨B,0,none⟩=some (.int .i64 x.id)/\w2.cell? ⟨B,1,none⟩=some (.int .i64 x.n)/\w2.cell? ⟨B,2,none⟩=some (.int .i64 x.s)/\w2.cell? ⟨B,3,none⟩=some (.slice bm ms.length cm)/\w2.cell? ⟨B,4,none⟩=some (.int .i64 x.lost)/\w2.cell? ⟨B,5,none⟩=some (.int .i64 x.vG)/\w2.cell? ⟨B,6,none⟩=some (.int .i64 x.seq)/\w2.cell? ⟨B,7,none⟩=some (.int .i64 x.tail)/\w2.cell? ⟨B,8,none⟩=some (.int .i64 x.gen)/\w2.cell? ⟨B,9,none⟩=some (.slice (some ⟨g,0,none⟩) ds.length cd)/\w2.cell? ⟨B,10,none⟩=some (.int .i64 x.vI)/\w2.cell? ⟨B,11,none⟩=some (.bool x.down)/\w2.cell? ⟨B,12,none⟩=some (.bool x.vH)/\w2.cell? ⟨g,j*2+1,none⟩=some (.slice av ys.length cv):=by
  obtain ⟨q0,q1,q2,q3,q4,q5,q6,q7,q8,q9,q10,q11,q12⟩:=X2.cells13;exact ⟨q0,q1,q2,q3,q4,q5,q6,q7,q8,q9,q10,q11,q12,(B2.out.cell (p:=⟨g,j*2+1,none⟩) hgl).trans v1⟩
 clear b2' hS k0 k1 k2 k3 k4 k5 k6 k7 k8 k9 k10 k11 k12 u1;go_wp2_with fail
 refine hK.out _ _ (fun _=>hS2) ?_
 clear hK K;refine ah.one (i:=13) (by kernel_rfl) rfl (fun K hK=>?_)
 go_simp
 refine hK.out _ _ (fun h=>absurd rfl h) ?_
 clear hK K;refine ah.done (by kernel_rfl) ?_ _
 obtain ⟨k0,k1,k2,k3,k4,k5,k6,k7,k8,k9,k10,k11,k12,u1⟩:=hS2;clear X2;by_cases hc:aY x ms ds s ys=0
 . obtain ⟨ha,hz,haw,hdn,hin,hbr,hsq,hgn⟩:=fP hc
   have HV:Hid (bH x ms ds s ys=aH (x,ms) s ys):=by unfold Hid bH;rw [if_pos hc]
   have HVC:Hid (bI x ms ds s ys=dnC (aH (x,ms) s ys).1.down):=by unfold Hid bI;rw [if_pos hc];rfl
   obtain ⟨_,_,hwe,hmi⟩:=kV (HME.out.below B2.out);simp only [List.cons.injEq,Value.slice.injEq,and_true,true_and] at hwe
   obtain ⟨rfl,rfl⟩:=hwe;have HLW:=aa (kX w2 B x ms ds fm fd (HA.out.below B2.out) ha hdn hsq s hin av cv ys f hmi (fun b hb=>⟨fun e=>r2 (e▸hff.out b hb),fun hm=>hr b hm (hff.out b hb)⟩) hz);have e0:(aY x ms ds s ys !=0)=false:=by simp [hc]
   clear ha hz haw hdn hin hbr hsq hgn hc hmi;generalize aY x ms ds s ys=cd0 at e0 ⊢;go_wp2_with fail
   refine HLW.out.mono ?_
   rintro e w3 ⟨rfl,fm3,A3,M3⟩;have HT:Hid (aw (B :: (fm++fd)) w w3):=(aw.ofBelow B2.out _).trans ⟨M3.1.os,M3.1.tape,M3.1.output,M3.1.size,fun k hk hn=>M3.1.block k hk (fun hm=>hn (by
    rcases List.mem_cons.1 hm with h|h
    . rw [h];exact List.mem_cons_self
    exact List.mem_cons_of_mem _ (List.mem_append_left _ h)))⟩
   have HN3:Hid (∀b∈fm3,b∈fm∨w.heap.size<=b):=fun b hb=>(M3.2 b hb).elim .inl (fun h=>.inr (by omega));have z3:=M3.1.size;clear k0 k1 k2 k3 k4 k5 k6 k7 k8 k9 k10 k11 k12 u1 M3 HLW e0;generalize aH (x,ms) s ys=st at A3 HV HVC ⊢;obtain ⟨y2,ns⟩:=st;dsimp only at A3 HVC ⊢
   have HA3:=aa A3;cases hdn:y2.down
   . have HC:Hid (gy x ms ds s=0/\eH x ms ds s=(y2,ns)/\jB x ms ds s=ds.take j++ds.drop (j+1)):=by
      unfold Hid;rw [HFC.out.1,HFC.out.2.1,HFC.out.2.2,HV.out,HVC.out,hdn];exact ⟨rfl,rfl,rfl⟩
     rw [show dnC false=0 from rfl];clear hdn HV HVC HFC;obtain ⟨bm3,bd3,cm3,cd3,X3,m3,d3,hr3,r13,r23⟩:=A3;obtain ⟨g3,rfl⟩:=bU d3 (by omega);have fz:=X3.frozen;have k9:w3.cell? ⟨B,9,none⟩=some (.slice (some ⟨g3,0,none⟩) ds.length cd3):=X3.cell 9;have zB3:=X3.lt;obtain ⟨cs,fq,s1,s2,s3,s4,s5,s6⟩:=vr d3;have hcd:ds.length<=cd3:=by
      rcases d3.1 with ⟨h1,_⟩|⟨_,_,_,_,h1,h2,_⟩
      . simp at h1
      simp only [List.cons.injEq,Value.slice.injEq,and_true,true_and] at h1;omega
     have XH:=aa X3;have MH:=aa m3;have DH:=aa d3;have S5:=aa s5;have S6:=aa s6;have S4:=aa s4;clear X3 m3 d3 s4 s5 s6;have c1:(j:Int)<=(cd3:Int):=by omega
     have c2:(j:Int)+1<=(ds.length:Int):=by omega
     have c3:(0:Int)<=(j:Int)+1:=by omega
     have c4:(ds.length:Int)<=(cd3:Int):=by omega
     have hS:w3.drew.cell? ⟨B,9,none⟩=some (.slice (some ⟨g3,0,none⟩) ds.length cd3):=k9;have cw:IntKind.i64.wrap ((j:Int)+1)=(j:Int)+1:=IntWalk.i64_in _ (by omega);have ct:((j:Int)+1).toNat=j+1:=by omega
     obtain ⟨ad,had,hads⟩:∃ad:Addr,(if cd3=j+1 then some (⟨g3,0,none⟩:Addr) else some ⟨g3,(j+1)*2,none⟩)=some ad/\(ad=⟨g3,(j+1)*2,none⟩∨ds.length=j+1):=by
      split
      . exact ⟨_,rfl,.inr (by omega)⟩
      exact ⟨_,rfl,.inl rfl⟩
     go_wp2_with fail
     refine ah.start (S:=fun w'=>w'.cell? ⟨B,9,none⟩=some (.slice (some ⟨g3,0,none⟩) ds.length cd3)) (k:=19) (by kernel_rfl) ?_
     refine ah.t 0 hS ?_
     refine ah.t 2 hS ?_
     refine ah.t 3 hS ?_
     refine ah.t 4 hS ?_
     refine ah.t 5 hS ?_
     refine ah.t 6 hS ?_
     refine ah.t 7 hS ?_
     refine ah.t 9 hS ?_
     refine ah.t 10 hS ?_
     refine ah.t 11 hS ?_
     refine ah.t 12 hS ?_
     refine ah.t 13 hS ?_
     refine ah.t 14 hS ?_
     refine ah.t 15 hS ?_
     have B4:Hid (Below w3.heap.size w3 (w3.alloc (.cells #[] 90)).drew):=(ae w3 (.cells #[] 90)).drew;have M4:=aa (ur (t:=tWr) (E:=90) w3).adrew;have hS4:(w3.alloc (.cells #[] 90)).drew.cell? ⟨B,9,none⟩=some (.slice (some ⟨g3,0,none⟩) ds.length cd3):=(B4.out.cell (p:=⟨B,9,none⟩) zB3).trans k9;refine ah.one (i:=1) (by kernel_rfl) rfl (fun K hK=>?_)
     go_simp
     refine hK.out _ _ (fun _=>hS4) ?_
     clear hK K hS;generalize (w3.alloc (.cells #[] 90)).drew=w4 at B4 M4 hS4 ⊢;have M4:Hid ((aU 90).Mine w4 [.slice (some ⟨w3.heap.size,0,none⟩) 0 0] [] [w3.heap.size]):=M4;have hq:g3<w3.heap.size/\(∀b∈fq.flatten,b<w3.heap.size)/\g3∉fq.flatten/\fq.flatten.Nodup/\(∀b∈fq.flatten,b∈fd):=by
      have hl:=DH.out.lt;have hn:=DH.out.2;rw [s2] at hl hn ⊢;rw [List.nodup_cons] at hn;exact ⟨hl _ List.mem_cons_self,fun b hb=>hl b (List.mem_cons_of_mem _ hb),hn.1,hn.2,fun b hb=>List.mem_cons_of_mem _ hb⟩
     obtain ⟨q1,q2,q3,q4,q5⟩:=hq;clear s2;have ON:=aa (wr_one q4 s3 S5.out);have qt:∀b∈(fq.take j).flatten,b∈fq.flatten:=fun b hb=>(jU (List.take_sublist _ _)).subset hb;have qd:∀b∈(fq.drop (j+1)).flatten,b∈fq.flatten:=fun b hb=>(jU (List.drop_sublist _ _)).subset hb;have E1:Hid (iV tWr w4 (cs.take (j*2)) (ds.take j) (fq.take j)):=by
      have h:=S6.out 0 j (by omega);rw [Nat.zero_mul,List.drop_zero,List.drop_zero,List.drop_zero] at h;exact h.kept (aw.ofBelow B4.out []) (by simp)
     have E2:Hid (iV tWr w3 (cs.drop ((j+1)*2)) (ds.drop (j+1)) (fq.drop (j+1))):=by
      have h:=S6.out (j+1) (ds.length-(j+1)) (by omega);have hA:(ds.drop (j+1)).take (ds.length-(j+1))=ds.drop (j+1):=List.take_of_length_le (by simp);have hB:(fq.drop (j+1)).take (ds.length-(j+1))=fq.drop (j+1):=List.take_of_length_le (by rw [List.length_drop,s1];exact Nat.le_refl _);have h2:(cs.drop ((j+1)*tWr.n)).take ((ds.length-(j+1))*tWr.n)=cs.drop ((j+1)*2):=List.take_of_length_le (by rw [List.length_drop,s3,Nat.sub_mul];exact Nat.le_refl _);rw [hA,hB,h2] at h;exact h
     have R1:Hid (∀k u,(cs.take (j*2))[k]?=some u->w4.cell? ((⟨g3,0,none⟩:Addr).add k)=some u):=fun k u hu=>by
      rw [List.getElem?_take] at hu;split at hu
      . have h:=S4.out k u hu
        have h2:=(B4.out.cell (p:=⟨g3,k,none⟩) q1).trans h;by_cases hk0:k=0
        . subst hk0;simpa [Addr.add] using h2
        simpa [Addr.add,hk0] using h2
      simp at hu
     have D1:Hid (∀b∈[w3.heap.size],b∉(fq.take j).flatten):=fun b hb hm=>by
      have h1:=q2 b (qt b hm);simp at hb
      omega
     have lt1:(ds.take j).length=j:=by rw [List.length_take];omega
     obtain ⟨i4,hi4,hz0,hz1,hz2⟩:=info_parts Tryz.infoEnt;refine ah.one (i:=8) (by kernel_rfl) rfl (fun K hK=>?_)
     refine oh tWr rfl _ _ 27 rfl 90 i4 (.agg #[.int .i64 0,.slice none 0 0]) 32 Tryz.underlying27 hi4 hz0 hz1 hz2 rfl Nat.zero_lt_two w3.heap.size 0 [] [w3.heap.size] rfl M4.out ⟨g3,0,none⟩ cd3 (cs.take (j*2)) (ds.take j) (fq.take j) (by rw [lt1];rfl) E1.out D1.out R1.out (fun u hu=>ON.out u (List.mem_of_mem_take hu)) (by rw [lt1];unfold maxLen;simp;omega) (by rw [lt1];simp;omega) ?_
     intro g5 c5 w5 fp5 m5 n5 t5;simp only [List.length_nil,Nat.zero_add,List.nil_append] at m5 ⊢
     have z4:=B4.out.size;have z5:=t5.size;have N5:Hid (∀b∈fp5,b∈(fq.take j).flatten∨w3.heap.size<=b):=fun b hb=>by
      rcases n5 b hb with h|h|h
      . simp at h;exact .inr (by omega)
      . exact .inl h
      exact .inr (by omega)
     have T5:Hid (aw [w3.heap.size] w4 w5):=t5;have M5:=aa m5;have F5:Hid (∀k,k<w3.heap.size->w5.heap[k]?=w3.heap[k]?):=fun k hk=>by rw [T5.out.block k (by omega) (by simp;omega),B4.out.block k hk]
     have X5:=XH.out.kept (F5.out B zB3);have hS5:w5.cell? ⟨B,9,none⟩=some (.slice (some ⟨g3,0,none⟩) ds.length cd3):=X5.cell 9;refine hK.out _ _ (fun _=>hS5) ?_
     clear hK K hS4 m5 n5 t5 X5;simp only [Act.put,List.setIfInBounds_toArray,List.set_cons_zero,List.set_cons_succ]
     have E5:Hid (iV tWr w5 (cs.drop ((j+1)*2)) (ds.drop (j+1)) (fq.drop (j+1))):=E2.out.kept (fp:=[]) (aw.mono (fp:=[]) ⟨T5.out.os.trans B4.out.os,T5.out.tape.trans B4.out.tape,T5.out.output.trans B4.out.output,Nat.le_trans z4 z5,fun k hk _=>F5.out k hk⟩ (by simp)) (by simp);have R5:Hid (∀k u,(cs.drop ((j+1)*2))[k]?=some u->w5.cell? (ad.add k)=some u):=fun k u hu=>by
      rcases hads with rfl|h0
      . rw [List.getElem?_drop] at hu
        have h:=S4.out _ u hu;have h2:w5.cell? ⟨g3,(j+1)*2+k,none⟩=some u:=by rw [←h];simp only [World.cell?,F5.out g3 q1]
        by_cases hk0:k=0
        . subst hk0;simpa [Addr.add] using h2
        simpa [Addr.add,hk0] using h2
      rw [List.getElem?_eq_none (by rw [List.length_drop,s3,h0];simp)] at hu;simp at hu
     have D5:Hid (∀b∈fp5,b∉(fq.drop (j+1)).flatten):=fun b hb hm=>by
      rcases N5.out b hb with h|h
      . exact rg q4 b h hm
      have:=q2 b (qd b hm);omega
     have ld:(ds.drop (j+1)).length=ds.length-(j+1):=List.length_drop;refine ah.one (i:=16) (by kernel_rfl) rfl (fun K hK=>?_)
     refine oh tWr rfl _ _ 27 rfl 90 i4 (.agg #[.int .i64 0,.slice none 0 0]) 32 Tryz.underlying27 hi4 hz0 hz1 hz2 rfl Nat.zero_lt_two g5 c5 (ds.take j) fp5 rfl M5.out ad (cd3-(j+1)) (cs.drop ((j+1)*2)) (ds.drop (j+1)) (fq.drop (j+1)) (by rw [ld];rfl) E5.out D5.out R5.out (fun u hu=>ON.out u (List.mem_of_mem_drop hu)) (by rw [lt1,ld];unfold maxLen;omega) (by rw [lt1,ld];omega) ?_
     intro g6 c6 w6 fp6 m6 n6 t6;rw [←List.length_append] at m6 ⊢;have T6:=aa (ut (fd:=fd) B4.out T5.out t6 (fun b hb=>(N5.out b hb).elim (fun h=>.inl (q5 b (qt b h))) .inr));have N6:Hid (∀b∈fp6,b∈fd∨w3.heap.size<=b):=fun b hb=>by
      rcases n6 b hb with h|h|h
      . exact (N5.out b h).elim (fun h=>.inl (q5 b (qt b h))) .inr
      . exact .inl (q5 b (qd b h))
      exact .inr (by omega)
     have X6:=XH.out.turned T6.out r23;have fz6:=X6.frozen;have hS6:w6.cell? ⟨B,9,none⟩=some (.slice (some ⟨g3,0,none⟩) ds.length cd3):=X6.cell 9;have FIN:Hid (Ending.returned (Value.int .i64 0)=.returned (.int .i64 (gy x ms ds s))/\Fl8 w B fm fd (eH x ms ds s).1 (eH x ms ds s).2 (jB x ms ds s) (w6.setCell ⟨B,9,none⟩ (.slice (some ⟨g6,0,none⟩) (ds.take j++ds.drop (j+1)).length c6))):=by
      unfold Hid;rw [HC.out.1,HC.out.2.1,HC.out.2.2];exact ⟨rfl,vt HT.out T6.out XH.out MH.out hr3 r13 r23 m6 N6.out HN3.out⟩
     refine hK.out _ _ (fun _=>hS6) ?_
     clear hK K hS5 m6 n6 t6 X6;generalize (ds.take j++ds.drop (j+1)).length=l6 at FIN ⊢;simp only [Act.put,List.setIfInBounds_toArray,List.set_cons_zero,List.set_cons_succ]
     refine ah.one (i:=17) (by kernel_rfl) rfl (fun K hK=>?_)
     go_simp
     refine hK.out _ _ (fun _=>hS6) ?_
     clear hK K;refine ah.one (i:=18) (by kernel_rfl) rfl (fun K hK=>?_)
     go_simp
     refine hK.out _ _ (fun _=>hS6) ?_
     clear hK K;refine ah.one (i:=19) (by kernel_rfl) rfl (fun K hK=>?_)
     go_simp
     refine hK.out _ _ (fun h=>absurd rfl h) ?_
     clear hK K;refine ah.done (by kernel_rfl) ?_ _
     go_wp2
     go_ret
     exact pg FIN.out
   have HF:Hid (Ending.returned (Value.int .i64 6)=.returned (.int .i64 (gy x ms ds s))/\Fl8 w B fm fd (eH x ms ds s).1 (eH x ms ds s).2 (jB x ms ds s) w3):=by
    unfold Hid;rw [HFC.out.1,HFC.out.2.1,HFC.out.2.2,HV.out,HVC.out,hdn,if_neg (by decide)];exact ⟨rfl,fm3,fd,HA3.out,HT.out,fun b hb=>hb.elim (fun h=>(HN3.out b h).elim .inl (fun h=>.inr (.inr h))) (fun h=>.inr (.inl h))⟩
   rw [show dnC true=6 from rfl];clear hdn A3;go_wp2
   go_ret
   exact pg HF.out
 have e0:(aY x ms ds s ys !=0)=true:=by simpa using hc
 have HF:Hid (Ending.returned (Value.int .i64 (aY x ms ds s ys))=.returned (.int .i64 (gy x ms ds s))/\Fl8 w B fm fd (eH x ms ds s).1 (eH x ms ds s).2 (jB x ms ds s) w2):=by
  have h1:bI x ms ds s ys=aY x ms ds s ys:=by unfold bI;rw [if_neg hc]
  have h2:bH x ms ds s ys=(x,ms):=by unfold bH;rw [if_neg hc]
  unfold Hid;rw [HFC.out.1,HFC.out.2.1,HFC.out.2.2,h1,h2,if_neg hc];exact ⟨rfl,Fl8.below HA.out B2.out⟩
 clear hc;go_wp2
 go_ret
 exact pg HF.out
theorem vu {x:al} {ms:List ai} {ds:List aF} {t:Int} (h:at8 ds t=-1):gy x ms ds t=0/\eH x ms ds t=(x,ms)/\jB x ms ds t=ds:=by
 unfold gy eH jB;rw [if_pos h,if_pos h,if_pos h];exact ⟨rfl,rfl,rfl⟩
theorem sp {x:al} {ms:List ai} {ds:List aF} {t:Int} {k:Nat} {ys:List Int} (h:at8 ds t=(k:Int)) (hk:ds[k]?=some (t,ys)):gy x ms ds t=bI x ms ds t ys/\eH x ms ds t=bH x ms ds t ys/\jB x ms ds t=if bI x ms ds t ys=0 then ds.take k++ds.drop (k+1) else ds:=by
 have h9:qa ds t=ys:=by unfold qa;rw [h,Int.toNat_natCast,List.getD_eq_getElem?_getD,hk];rfl
 unfold gy eH jB;rw [if_neg (by omega),if_neg (by omega),if_neg (by omega),h9,h,Int.toNat_natCast];exact ⟨rfl,rfl,rfl⟩
def fK (q:al×List ai):List aF->(al×List ai)×List aF×Int
 | []=>(q,[],0)
 | e :: es=>if gy q.1 q.2 (e :: es) e.1=0 then fK (eH q.1 q.2 (e :: es) e.1) es else (eH q.1 q.2 (e :: es) e.1,e :: es,gy q.1 q.2 (e :: es) e.1)
theorem uu (e:aF) (es:List aF):at8 (e :: es) e.1=((0:Nat):Int):=se (j:=0) (e:=e) rfl rfl (fun i _ hi=>by omega)
theorem sr {q:al×List ai} {e:aF} {es:List aF}:jB q.1 q.2 (e :: es) e.1=if gy q.1 q.2 (e :: es) e.1=0 then es else e :: es:=by
 obtain ⟨h1,_,h3⟩:=sp (x:=q.1) (ms:=q.2) (uu e es) (show (e :: es)[0]?=some (e.1,e.2) from rfl);rw [h3,h1];rfl
theorem oq {q:al×List ai} {e:aF} {es:List aF} (h:gy q.1 q.2 (e :: es) e.1=0):fK q (e :: es)=fK (eH q.1 q.2 (e :: es) e.1) es:=by
 conv=>lhs;unfold fK
 rw [if_pos h]
theorem ot {q:al×List ai} {e:aF} {es:List aF} (h:¬gy q.1 q.2 (e :: es) e.1=0):fK q (e :: es)=(eH q.1 q.2 (e :: es) e.1,e :: es,gy q.1 q.2 (e :: es) e.1):=by
 conv=>lhs;unfold fK
 rw [if_neg h]
theorem vv (q:al×List ai) (ds:List aF) (t:Int):aV (eH q.1 q.2 ds t).2<=max (aV q.2) 10005:=by
 unfold eH;split
 . exact Nat.le_max_left _ _
 unfold bH;split
 . rename_i hc
   obtain ⟨ha,_⟩:=fP hc;obtain ⟨fc,mk,_,_⟩:=cH ha;obtain ⟨k1,k2⟩:=jT (q:=(q.1,q.2)) mk fc t (qa ds t);have h1:=eg ha;have h2:=jP k1 (by rw [k2];show q.2.length<=5;omega);exact Nat.le_trans h2 (Nat.le_max_right _ _)
 exact Nat.le_max_left _ _
def jV (x:al):Prop:=x.down=false/\x.vI=-1
theorem uv {x:al} (h:jV x):opX x=x/\opB x=true:=by
 unfold opX opB;rw [h.1,h.2];simp
def jW (ms ms':List ai):Prop:=ms'.length=ms.length/\∀(i:Nat) (d d':ai),ms[i]?=some d->ms'[i]?=some d'->d'.1.length=d.1.length/\d'.2.2.1=d.2.2.1
theorem jW.refl (ms:List ai):jW ms ms:=⟨rfl,fun i d d' h h'=>by rw [h] at h';cases h';exact ⟨rfl,rfl⟩⟩
theorem jW.trans {a b c:List ai} (h:jW a b) (k:jW b c):jW a c:=
 ⟨k.1.trans h.1,fun i d d' h1 h2=>by
  have hi:=(List.getElem?_eq_some_iff.1 h1).1;have hb:=List.getElem?_eq_getElem (show i<b.length by rw [h.1];exact hi);obtain ⟨a1,a2⟩:=h.2 i d _ h1 hb;obtain ⟨b1,b2⟩:=k.2 i _ d' hb h2;exact ⟨b1.trans a1,b2.trans a2⟩⟩
def fB (q q':al×List ai):Prop:=q'.1=q.1/\jW q.2 q'.2/\(bM q.2->bM q'.2)
theorem fB.refl (q:al×List ai):fB q q:=⟨rfl,jW.refl _,fun h=>h⟩
theorem fB.trans {a b c:al×List ai} (h:fB a b) (k:fB b c):fB a c:=⟨k.1.trans h.1,h.2.1.trans k.2.1,fun m=>k.2.2 (h.2.2 m)⟩
theorem fB.idle {a b:al×List ai} (h:fB a b) (hi:jV a.1):jV b.1:=by rw [h.1];exact hi
theorem qb {q:al×List ai} (h:jV q.1) (i:Nat) (f:ai->ai) (hf:∀d:ai,(f d).1.length=d.1.length/\(f d).2.2.1=d.2.2.1) (hm:∀d:ai,bp d.1 d.2.1 d.2.2.2=true->bp (f d).1 (f d).2.1 (f d).2.2.2=true):fB q (doS q i f):=by
 refine ⟨?_,⟨ji q i f,fun j d d' h1 h2=>?_⟩,fun m=>oV m hm⟩
 . unfold doS
   split
   . rfl
   rw [(uv h).1];split<;>rfl
 unfold doS at h2;split at h2
 . rw [h1] at h2;cases h2;exact ⟨rfl,rfl⟩
 split at h2
 . by_cases hij:i=j
   . subst hij
     have hi:=(List.getElem?_eq_some_iff.1 h1).1;rw [List.getElem?_set_self hi,eE h1] at h2;cases h2;exact hf d
   rw [List.getElem?_set_ne hij,h1] at h2;cases h2;exact ⟨rfl,rfl⟩
 rw [h1] at h2;cases h2;exact ⟨rfl,rfl⟩
theorem sZ (d:ai):(flM d).1.length=d.1.length/\(flM d).2.2.1=d.2.2.1:=by
 refine ⟨?_,rfl⟩
 show (gU d.1 d.2.1 d.2.2.1 d.2.2.2).length=_
 unfold gU;split
 . exact cI _ _
 rfl
theorem jk {q:al×List ai} (h:jV q.1) (i:Nat) (n:Int) (s:List Int):fB q (fA q i n s):=qb h i _ (fun _=>⟨rfl,rfl⟩) (oW n s)
theorem iz {q:al×List ai} (h:jV q.1):∀j,fB q (aS q j)
 | 0=>fB.refl q
 | j+1=>by
  rw [io];have ih:=iz h j;exact ih.trans (qb (ih.idle h) j flM sZ qS)
theorem mE {q:al×List ai} (h:jV q.1):∀j,fB q (dl q j)
 | 0=>fB.refl q
 | j+1=>by
  rw [ip];have ih:=mE h j;exact ih.trans (jk (ih.idle h) j _ _)
theorem mF {q:al×List ai} (h:jV q.1) (n:Int) (s:List Int):∀j,fB q (dp q n s j)
 | 0=>fB.refl q
 | j+1=>by
  have e:dp q n s (j+1)=fA (dp q n s j) j n s:=by unfold dp;rw [List.range_succ,List.foldl_append];rfl
  rw [e];have ih:=mF h n s j;exact ih.trans (jk (ih.idle h) j _ _)
theorem kZ {q:al×List ai} (h:jV q.1) (s p:Int) (zs:List Int):∀j,fB q (bg q s p zs j)
 | 0=>fB.refl q
 | j+1=>by
  have e:bg q s p zs (j+1)=if cM (bg q s p zs j).1 (bg q s p zs j).2 (j:Int) s=true then fA (bg q s p zs j) j (bV s) [gf (bg q s p zs j).1.n p zs j] else bg q s p zs j:=by unfold bg;rw [List.range_succ,List.foldl_append];rfl
  rw [e];have ih:=kZ h s p zs j;split
  . exact ih.trans (jk (ih.idle h) j _ _)
  exact ih
theorem mG {q:al×List ai} (h:jV q.1):fB ({q.1 with gen:=q.1.gen+1},q.2) (cK q):=by
 have h1:=mE (q:=({q.1 with gen:=q.1.gen+1},q.2)) h q.2.length;exact h1.trans (iz (h1.idle h) _)
theorem le {q:al×List ai} (h:jV q.1):fB ({q.1 with tail:=q.1.seq,gen:=q.1.gen+1},q.2) (bD q):=by
 have h1:=iz (q:=q) h q.2.length;have hi:=h1.idle h;unfold bD;rw [if_neg (by rw [hi.1];simp)];have h2:=mG (q:=({(aS q q.2.length).1 with tail:=(aS q q.2.length).1.seq},(aS q q.2.length).2)) hi;refine ⟨?_,h1.2.1.trans h2.2.1,fun m=>h2.2.2 (h1.2.2 m)⟩
 rw [h2.1];show ({(aS q q.2.length).1 with tail:=(aS q q.2.length).1.seq,gen:=(aS q q.2.length).1.gen+1}:al)=_
 rw [h1.1]
def gI (x:al):al:=if 4<=x.seq-x.tail then {x with tail:=x.seq,gen:=x.gen+1,seq:=x.seq+1} else {x with seq:=x.seq+1}
theorem qe {q:al×List ai} (h:jV q.1) (s:Int) (zs:List Int):fB (gI q.1,q.2) (aH q s zs):=by
 have k1:fB ((if 4<=q.1.seq-q.1.tail then {q.1 with tail:=q.1.seq,gen:=q.1.gen+1} else q.1:al),q.2) (wr1 q):=by
  unfold wr1;split
  . exact le h
  exact fB.refl q
 have hi1:jV (wr1 q).1:=by
  rw [k1.1];split
  . exact h
  exact h
 have k2:fB (wr1 q) (wr2 (wr1 q) s zs):=by
  unfold wr2 qW;have h1:=mF hi1 (cD (wr1 q).1.seq) (ep (wr1 q).1.seq s zs) (wr1 q).2.length;exact h1.trans (iz (h1.idle hi1) _)
 have hi2:=k2.idle hi1;unfold aH;rw [if_neg (by rw [hi1.1];simp)];unfold mt;rw [if_neg (by rw [hi2.1];simp)];unfold wr3;have k3:=kZ (q:=({(wr2 (wr1 q) s zs).1 with seq:=(wr2 (wr1 q) s zs).1.seq+1},(wr2 (wr1 q) s zs).2)) hi2 s (bX (wr2 (wr1 q) s zs).1.n (wr2 (wr1 q) s zs).1.s s) zs (wr2 (wr1 q) s zs).2.length;refine ⟨?_,(k1.2.1.trans k2.2.1).trans k3.2.1,fun m=>k3.2.2 (k2.2.2 (k1.2.2 m))⟩
 rw [k3.1];show ({(wr2 (wr1 q) s zs).1 with seq:=(wr2 (wr1 q) s zs).1.seq+1}:al)=gI q.1
 rw [k2.1,k1.1];unfold gI;split<;>rfl
theorem bf {x:al} {ms:List ai} {ds:List (Int×List Int)}:aZ x ms ds=true ↔ bF x.n x.s=true/\inB x.id 1 60000=true/\cJ x ms=true/\dZ x ds=true/\dq x=true/\dB x=true:=by
 unfold aZ;simp only [Bool.and_eq_true]
theorem dH {x:al} {ms:List ai}:cJ x ms=true ↔ (∀(i:Nat) (d:ai),ms[i]?=some d->bp d.1 d.2.1 d.2.2.2=true/\(d.1.length:Int)=6+x.s/\(d.2.2.1=true->(i:Int)=x.lost∨x.vH=true))/\(ms.length:Int)=x.n:=by
 unfold cJ;rw [Bool.and_eq_true,dy,decide_eq_true_eq];refine and_congr_left fun _=>?_
 constructor
 . intro h i d hd
   have:=h i d hd;unfold di at this;simp only [Bool.and_eq_true,decide_eq_true_eq,Bool.or_eq_true,Bool.not_eq_true'] at this
   refine ⟨this.1,this.2.1,fun hf=>?_⟩
   rcases this.2.2 with h|h|h
   . rw [hf] at h;cases h
   . exact .inl h
   exact .inr h
 intro h i d hd;obtain ⟨h1,h2,h3⟩:=h i d hd;unfold di;simp only [Bool.and_eq_true,decide_eq_true_eq,Bool.or_eq_true,Bool.not_eq_true']
 refine ⟨h1,h2,?_⟩
 cases hf:d.2.2.1
 . exact .inl rfl
 exact .inr (h3 hf)
theorem fL {x:al}:dB x=true ↔ (0<=x.tail/\x.tail<=60000)/\(x.tail<=x.seq/\x.seq<=60000)/\x.seq<=x.tail+4/\(0<=x.gen/\x.gen<=60000)/\-1<=x.vI/\x.vI<=1000:=by
 unfold dB;simp only [Bool.and_eq_true,aI,decide_eq_true_eq]
theorem ta {ss:List (List Int)} {cs:List (Int×List Int)} {bs:List Int} (h:bp ss cs bs=true):bp ss [] bs=true:=by
 rw [ec] at h ⊢;exact ⟨h.1,by simp,h.2.2.1,h.2.2.2.1,by simp⟩
theorem mH {x x':al} {ms:List ai} {m:Nat} {d:ai} (h:cJ x ms=true) (hn:x'.n=x.n) (hs:x'.s=x.s) (hd:bp d.1 d.2.1 d.2.2.2=true) (hl:(d.1.length:Int)=6+x.s) (hf:d.2.2.1=true->(m:Int)=x'.lost∨x'.vH=true)
 (ho:∀(i:Nat) (e:ai),i≠m->ms[i]?=some e->e.2.2.1=true->(i:Int)=x'.lost∨x'.vH=true):cJ x' (ms.set m d)=true:=by
 rw [dH] at h ⊢;refine ⟨fun i e he=>?_,by rw [List.length_set,hn];exact h.2⟩
 by_cases him:m=i
 . subst him
   have hi:m<ms.length:=by have:=(List.getElem?_eq_some_iff.1 he).1;simpa using this
   rw [List.getElem?_set_self hi] at he;cases he;exact ⟨hd,by rw [hs];exact hl,hf⟩
 rw [List.getElem?_set_ne him] at he;obtain ⟨a1,a2,a3⟩:=h.1 i e he;exact ⟨a1,by rw [hs];exact a2,ho i e (fun e=>him e.symm) he⟩
theorem jX {x:al} {ds:List aF}:dZ x ds=true ↔ (∀(i:Nat) (e:aF),ds[i]?=some e->inB e.1 0 (x.s-1)=true/\(e.2.length:Int)=x.n-1/\cG e.2=true)/\∀(i j:Nat) (e e':aF),i<j->ds[i]?=some e->ds[j]?=some e'->e.1<e'.1:=by
 unfold dZ;rw [dy];constructor
 . intro he
   have h1:∀(i:Nat) (e e':aF),ds[i]?=some e->ds[i+1]?=some e'->e.1<e'.1:=fun i e e' h h'=>by
    have:=he (i+1) e' h';unfold dj at this;simp only [Bool.and_eq_true,Bool.or_eq_true,decide_eq_true_eq,Nat.add_sub_cancel] at this
    rcases this.2.2.2 with h0|h0
    . omega
    rw [List.getD_eq_getElem?_getD,h] at h0;exact h0
   refine ⟨fun i e h=>?_,fun i j=>?_⟩
   . have:=he i e h
     unfold dj at this;simp only [Bool.and_eq_true,decide_eq_true_eq] at this
     exact ⟨this.1,this.2.1,this.2.2.1⟩
   induction j with
   | zero=>intro e e' h;omega
   | succ j ih=>
    intro e e' hij h h';by_cases hj:i=j
    . subst hj
      exact h1 i e e' h h'
    have hjl:=(List.getElem?_eq_some_iff.1 h').1;have hjj:=List.getElem?_eq_getElem (show j<ds.length by omega);have a1:=ih e _ (by omega) h hjj;have a2:=h1 j _ e' hjj h';omega
 rintro ⟨h1,h2⟩ i e he;unfold dj;obtain ⟨a1,a2,a3⟩:=h1 i e he;simp only [Bool.and_eq_true,Bool.or_eq_true,decide_eq_true_eq]
 refine ⟨a1,a2,a3,?_⟩
 by_cases hi:i=0
 . exact .inl hi
 have hl:=(List.getElem?_eq_some_iff.1 he).1;have hp:=List.getElem?_eq_getElem (show i-1<ds.length by omega);refine .inr ?_
 rw [List.getD_eq_getElem?_getD,hp];exact h2 (i-1) i _ e (by omega) hp he
theorem uw {x:al} {ds es:List aF} (h:dZ x ds=true) (f:Nat->Nat) (hf:∀i j,i<j->f i<f j) (he:∀i e,es[i]?=some e->ds[f i]?=some e):dZ x es=true:=by
 rw [jX] at h ⊢;exact ⟨fun i e h'=>h.1 _ e (he i e h'),fun i j e e' hij h1 h2=>h.2 _ _ e e' (hf i j hij) (he i e h1) (he j e' h2)⟩
theorem qf {x:al} {ds:List aF} (h:dZ x ds=true) (k:Nat) (hk:k<=ds.length):dZ x (ds.take k++ds.drop (k+1))=true:=by
 refine uw h (fun i=>if i<k then i else i+1) (fun i j hij=>?_) (fun i e he=>?_)
 . split<;>split<;>omega
 skip
 have e1:(ds.take k).length=k:=by simp;omega
 by_cases hi:i<k
 . rw [if_pos hi]
   rw [List.getElem?_append_left (by omega),List.getElem?_take,if_pos hi] at he;exact he
 rw [if_neg hi];rw [List.getElem?_append_right (by omega),e1,List.getElem?_drop,show k+1+(i-k)=i+1 by omega] at he;exact he
theorem ia {x:al} {ms ms':List ai} (h:cJ x ms=true) (hs:jW ms ms') (hm:bM ms'):cJ x ms'=true:=by
 rw [dH] at h ⊢;refine ⟨fun i d hd=>?_,by rw [hs.1];exact h.2⟩
 have hi:=(List.getElem?_eq_some_iff.1 hd).1;have h0:=List.getElem?_eq_getElem (show i<ms.length by rw [←hs.1];exact hi);obtain ⟨a1,a2,a3⟩:=h.1 i _ h0;obtain ⟨b1,b2⟩:=hs.2 i _ d h0 hd;exact ⟨hm i d hd,by rw [b1];exact a2,fun hf=>a3 (by rw [←b2];exact hf)⟩
theorem mI {x:al} {ms:List ai} (h:cJ x ms=true):bM ms:=fun i d hd=>((dH.1 h).1 i d hd).1
def cA (G:Int) (q:al×List ai) (ds:List aF):Prop:=aZ q.1 q.2 ds=true/\jV q.1/\q.1.vH=false/\q.1.gen<=G/\q.1.seq<=G
theorem rj {G:Int} {q:al×List ai} {ds:List aF} (h:cA G q ds) (hG:G<59000):cA (G+1) (bD q) ds:=by
 obtain ⟨ha,hi,hb,h1,h2⟩:=h;have k:=le (q:=q) hi;obtain ⟨p1,p2,p3,p4,p5,p6⟩:=bf.1 ha;have p6':=fL.1 p6;refine ⟨bf.2 ?_,k.idle hi,?_,?_,?_⟩
 . rw [k.1]
   refine ⟨p1,p2,ia p3 k.2.1 (k.2.2 (mI p3)),p4,p5,fL.2 ?_⟩
   show (0<=q.1.seq/\q.1.seq<=60000)/\(q.1.seq<=q.1.seq/\q.1.seq<=60000)/\q.1.seq<=q.1.seq+4/\(0<=q.1.gen+1/\q.1.gen+1<=60000)/\-1<=q.1.vI/\q.1.vI<=1000
   omega
 . rw [k.1];exact hb
 . rw [k.1];show q.1.gen+1<=G+1;omega
 rw [k.1];show q.1.seq<=G+1;omega
theorem mJ {G:Int} {q:al×List ai} {ds:List aF} (h:cA G q ds) (t:Int):cA (G+1) (eH q.1 q.2 ds t) (jB q.1 q.2 ds t):=by
 obtain ⟨ha,hi,hb,h1,h2⟩:=h;obtain ⟨p1,p2,p3,p4,p5,p6⟩:=bf.1 ha;have p6':=fL.1 p6;have hsame:cA (G+1) (q.1,q.2) ds:=⟨ha,hi,hb,by show q.1.gen<=G+1;omega,by show q.1.seq<=G+1;omega⟩;rcases gL ds t with hat|⟨k,d,hat,hk,hdt⟩
 . obtain ⟨_,e2,e3⟩:=vu (x:=q.1) (ms:=q.2) hat
   rw [e2,e3];exact hsame
 obtain ⟨y,ys⟩:=d;simp only at hdt
 subst hdt;obtain ⟨e1,e2,e3⟩:=sp (x:=q.1) (ms:=q.2) hat hk;rw [e2,e3];by_cases hc:aY q.1 q.2 ds y ys=0
 . obtain ⟨_,_,_,_,_,_,hsq,hgn⟩:=fP hc
   have hO:bH q.1 q.2 ds y ys=aH (q.1,q.2) y ys:=by unfold bH;rw [if_pos hc]
   have kk:=qe (q:=(q.1,q.2)) hi y ys;have hkl:=(List.getElem?_eq_some_iff.1 hk).1;have hC:bI q.1 q.2 ds y ys=0:=by
    unfold bI;rw [if_pos hc,if_neg];have:(aH (q.1,q.2) y ys).1.down=false:=by rw [kk.1];unfold gI;split<;>exact hi.1
    rw [this];simp
   rw [hO,if_pos hC];have hx:(aH (q.1,q.2) y ys).1=gI q.1:=kk.1;refine ⟨bf.2 ?_,?_,?_,?_,?_⟩
   . rw [hx]
     unfold gI;split
     . refine ⟨p1,p2,ia p3 kk.2.1 (kk.2.2 (mI p3)),qf p4 k (by omega),p5,fL.2 ?_⟩
       show (0<=q.1.seq/\q.1.seq<=60000)/\(q.1.seq<=q.1.seq+1/\q.1.seq+1<=60000)/\q.1.seq+1<=q.1.seq+4/\(0<=q.1.gen+1/\q.1.gen+1<=60000)/\-1<=q.1.vI/\q.1.vI<=1000
       omega
     refine ⟨p1,p2,ia p3 kk.2.1 (kk.2.2 (mI p3)),qf p4 k (by omega),p5,fL.2 ?_⟩
     show (0<=q.1.tail/\q.1.tail<=60000)/\(q.1.tail<=q.1.seq+1/\q.1.seq+1<=60000)/\q.1.seq+1<=q.1.tail+4/\(0<=q.1.gen/\q.1.gen<=60000)/\-1<=q.1.vI/\q.1.vI<=1000
     omega
   . rw [hx];unfold gI;split<;>exact hi
   . rw [hx];unfold gI;split<;>exact hb
   . rw [hx];unfold gI
     split
     . show q.1.gen+1<=G+1;omega
     show q.1.gen<=G+1;omega
   rw [hx];unfold gI;split
   . show q.1.seq+1<=G+1;omega
   show q.1.seq+1<=G+1;omega
 have hO:bH q.1 q.2 ds y ys=(q.1,q.2):=by unfold bH;rw [if_neg hc]
 have hC:¬bI q.1 q.2 ds y ys=0:=by unfold bI;rw [if_neg hc];exact hc
 rw [hO,if_neg hC];exact hsame
theorem ou:∀(ds:List aF) {G:Int} {q:al×List ai},cA G q ds->cA (G+ds.length) (fK q ds).1 (fK q ds).2.1
 | [],G,q,h=>by
  show cA (G+((0:Nat):Int)) q []
  rw [show G+((0:Nat):Int)=G by omega];exact h
 | e :: es,G,q,h=>by
  have h1:=mJ h e.1;rw [sr] at h1;by_cases hc:gy q.1 q.2 (e :: es) e.1=0
  . rw [if_pos hc] at h1
    rw [oq hc];have h2:=ou es h1;have e1:G+1+(es.length:Int)=G+((e :: es).length:Int):=by simp;omega
    rw [e1] at h2;exact h2
  rw [if_neg hc] at h1;rw [ot hc];obtain ⟨a1,a2,a3,a4,a5⟩:=h1;refine ⟨a1,a2,a3,?_,?_⟩
  . show _<=G+((e :: es).length:Int)
    have:(1:Int)<=((e :: es).length:Int):=by simp;omega
    exact Int.le_trans a4 (by omega)
  show _<=G+((e :: es).length:Int)
  have:(1:Int)<=((e :: es).length:Int):=by simp;omega
  exact Int.le_trans a5 (by omega)
end Go.Proofs.YtejeekndbnpmoaaGreat

/-
 What SpoilAt makes of an array, in plain words. No condition.
-/
import Derived.Test.YtejokiafgbjdaaaGreatRowFailsBentSq33
import Derived.Test.YtejokiafgbjdaaaGreatRowFailsBentSq19
import Derived.Test.YtejokiafgbjdaaaGreatRowFailsBentSq34
import Derived.Test.YtejokiafgbjdaaaGreatRowFailsBentSq13
import Derived.Test.YtejokiafgbjdaaaGreatRowFailsBentSq10
import Derived.Test.YtejokiafgbjdaaaGreatRowFailsBentSq3
import Derived.Test.YtejokiafgbjdaaaGreatRowFailsBentSq16
import Derived.Test.YtejokiafgbjdaaaGreatRowFailsBentSq21
import Derived.Test.YtejokiafgbjdaaaGreatRowFailsBentSq7

set_option maxRecDepth 100000
set_option maxHeartbeats 8000000
set_option linter.unusedSimpArgs false

namespace Go.Proofs.YtejokiafgbjdaaaGreat
open Go.RowKit

theorem aS {x:al} {ms:List ai} {ds:List (Int×List Int)}:aX x ms ds=true ↔ bI x.n x.s=true/\inB x.id 1 60000=true/\bS x ms=true/\dU x ds=true/\cS x=true/\dM x=true:=by
 unfold aX;simp only [Bool.and_eq_true]
theorem dh {x:al} {ms:List ai}:bS x ms=true ↔ (∀(i:Nat) (d:ai),ms[i]?=some d->aW d.1 d.2.1 d.2.2.2=true/\(d.1.length:Int)=6+x.s/\(d.2.2.1=true->(i:Int)=x.lost∨x.uH=true))/\(ms.length:Int)=x.n:=by
 unfold bS;rw [Bool.and_eq_true,dj,decide_eq_true_eq];refine and_congr_left fun _=>?_
 constructor
 . intro h i d hd
   have:=h i d hd;unfold cV at this;simp only [Bool.and_eq_true,decide_eq_true_eq,Bool.or_eq_true,Bool.not_eq_true'] at this
   refine ⟨this.1,this.2.1,fun hf=>?_⟩
   rcases this.2.2 with h|h|h
   . rw [hf] at h;cases h
   . exact .inl h
   exact .inr h
 intro h i d hd;obtain ⟨h1,h2,h3⟩:=h i d hd;unfold cV;simp only [Bool.and_eq_true,decide_eq_true_eq,Bool.or_eq_true,Bool.not_eq_true']
 refine ⟨h1,h2,?_⟩
 cases hf:d.2.2.1
 . exact .inl rfl
 exact .inr (h3 hf)
theorem fy {x:al}:dM x=true ↔ (0<=x.tail/\x.tail<=60000)/\(x.tail<=x.seq/\x.seq<=60000)/\x.seq<=x.tail+4/\(0<=x.gen/\x.gen<=60000)/\-1<=x.uI/\x.uI<=1000:=by
 unfold dM;simp only [Bool.and_eq_true,aG,decide_eq_true_eq]
theorem rZ {ss:List (List Int)} {cs:List (Int×List Int)} {bs:List Int} (h:aW ss cs bs=true):aW ss [] bs=true:=by
 rw [dW] at h ⊢;exact ⟨h.1,by simp,h.2.2.1,h.2.2.2.1,by simp⟩
theorem jw {x x':al} {ms:List ai} {m:Nat} {d:ai} (h:bS x ms=true) (hn:x'.n=x.n) (hs:x'.s=x.s) (hd:aW d.1 d.2.1 d.2.2.2=true) (hl:(d.1.length:Int)=6+x.s) (hf:d.2.2.1=true->(m:Int)=x'.lost∨x'.uH=true)
 (ho:∀(i:Nat) (e:ai),i≠m->ms[i]?=some e->e.2.2.1=true->(i:Int)=x'.lost∨x'.uH=true):bS x' (ms.set m d)=true:=by
 rw [dh] at h ⊢;refine ⟨fun i e he=>?_,by rw [List.length_set,hn];exact h.2⟩
 by_cases him:m=i
 . subst him
   have hi:m<ms.length:=by have:=(List.getElem?_eq_some_iff.1 he).1;simpa using this
   rw [List.getElem?_set_self hi] at he;cases he;exact ⟨hd,by rw [hs];exact hl,hf⟩
 rw [List.getElem?_set_ne him] at he;obtain ⟨a1,a2,a3⟩:=h.1 i e he;exact ⟨a1,by rw [hs];exact a2,ho i e (fun e=>him e.symm) he⟩
theorem qQ (w:World):CallsD Tryz.prog 177 #[] (.panicking nN) w fun e u' w'=>e=.returned (.tuple #[])/\u'=.panicking [{ v:=jB,recovered:=true }]/\w'=w:=by
 have n1:∀w:World,Sem.run Tryz.prog (binOp BinOp.neq 20 jB .nilIface) w=.ok (.bool true) w:=fun _=>by kernel_rfl
 have n2:∀w:World,Sem.run Tryz.prog (binOp BinOp.neq 20 jB jB) w=.ok (.bool false) w:=fun _=>by kernel_rfl
 refine callsD_of_wpS Tryz.func177 rfl fun c₀ cs hu=>?_
 apply wpS_seq
 apply wpS_region
 simp [wpOpsS,go_sem,recoverD,hu,Tryz.ntmps177,Exit.thenS]
 refine wpS_of_wp ?_
 have ht:((Array.replicate 11 undef).setIfInBounds 1 jB).setIfInBounds 0 jB=#[jB,jB,undef,undef,undef,undef,undef,undef,undef,undef,undef]:=rfl;rw [ht];go_wp2
 exact ⟨rfl,_,rfl,.tuple #[],results_none rfl _ _ _,rfl,rfl,rfl⟩
theorem qR (w:World):CallsD Tryz.prog 177 #[] .returning w fun e u' w'=>e=.returned (.tuple #[])/\u'=.returning/\w'=w:=by
 have n1:∀w:World,Sem.run Tryz.prog (binOp BinOp.neq 20 .nilIface .nilIface) w=.ok (.bool false) w:=fun _=>by kernel_rfl
 refine callsD_of_wpS Tryz.func177 rfl fun c₀ cs hu=>?_
 apply wpS_seq
 apply wpS_region
 simp [wpOpsS,go_sem,recoverD,hu,Tryz.ntmps177,Exit.thenS]
 refine wpS_of_wp ?_
 have ht:((Array.replicate 11 undef).setIfInBounds 1 Value.nilIface).setIfInBounds 0 Value.nilIface=#[Value.nilIface,Value.nilIface,undef,undef,undef,undef,undef,undef,undef,undef,undef]:=rfl;rw [ht];go_wp2
 exact ⟨rfl,.returning,by cases c₀;simp_all,.tuple #[],results_none rfl _ _ _,rfl,rfl,rfl⟩
theorem tU {w w4:World} {B:Nat} {y:al} {ns:List ai} {ds:List (Int×List Int)} {bm bd:Option Addr} {cm cd:Nat} {fm fd:List Nat} {e:Ending} (hb:Below w.heap.size w w4) (he:e=.returned (.agg (aC y (.slice bm ns.length cm) (.slice bd ds.length cd)))) (hm:(bk 142 78).Mine w4 [.slice bm ns.length cm] ns fm) (hd:(aU 61).Mine w4 [.slice bd ds.length cd] ds fd) (hr:∀b∈fm,b∉fd) (rm:∀b∈fm,B<=b) (rd:∀b∈fd,B<=b) (h1:w.heap.size<=B):iC w w4 e (y,ns) ds:=
 ⟨bm,bd,cm,cd,he,⟨fm,fd,hm,hd,hr,fun b hb=>⟨Nat.le_trans h1 (rm b hb),hm.lt b hb⟩,fun b hb=>⟨Nat.le_trans h1 (rd b hb),hd.lt b hb⟩⟩,hb⟩
theorem qS (w:World) (E F G:TypeId) (x:al) (am ad:Option Addr) (nm cm nd cd:Nat) (ms:List ai) (ds:List (Int×List Int)) (h0:(bk E F).Rd w [.slice am nm cm] ms) (h1:(aU G).Rd w [.slice ad nd cd] ds) (hw:aM ms ds<=2097152)
 (Fw:FuncId) (cap:Array Value) (q:al×List ai) (hen:∀B:Nat,mG Fw (#[.pointer (some ⟨B,0,none⟩)]++cap))
 (hwork:∀(w':World) (B:Nat) (fm fd:List Nat),Below w.heap.size w w'->w.heap.size<=B->aD w' B x ms ds fm fd->(∀b∈fm,w.heap.size<=b)->(∀b∈fd,w.heap.size<=b)->Calls Tryz.prog Fw (#[.pointer (some ⟨B,0,none⟩)]++cap) w' (Did w' B fm ds fd q)):
 Calls Tryz.prog 118 #[.agg #[.int .i64 x.id,.int .i64 x.n,.int .i64 x.s,.slice am nm cm,.int .i64 x.lost,.int .i64 x.uG,.int .i64 x.seq,.int .i64 x.tail,.int .i64 x.gen,.slice ad nd cd,.int .i64 x.uI,.bool x.down,.bool x.uH],.func (Fn.func Fw) #[] cap] w fun e w'=>iC w w' e q ds:=by
 obtain ⟨rfl,_⟩:=ae h0;obtain ⟨rfl,_⟩:=ae h1;have hA:=(ah w (.cells #[.int .i64 x.id,.int .i64 x.n,.int .i64 x.s,.slice am ms.length cm,.int .i64 x.lost,.int .i64 x.uG,.int .i64 x.seq,.int .i64 x.tail,.int .i64 x.gen,.slice ad ds.length cd,.int .i64 x.uI,.bool x.down,.bool x.uH] 29)).alloc (by simp) (.cells #[.int .i64 0,.int .i64 0,.int .i64 0,.slice none 0 0,.int .i64 0,.int .i64 0,.int .i64 0,.int .i64 0,.int .i64 0,.slice none 0 0,.int .i64 0,.bool false,.bool false] 29);have X0:Box ((w.alloc (.cells #[.int .i64 x.id,.int .i64 x.n,.int .i64 x.s,.slice am ms.length cm,.int .i64 x.lost,.int .i64 x.uG,.int .i64 x.seq,.int .i64 x.tail,.int .i64 x.gen,.slice ad ds.length cd,.int .i64 x.uI,.bool x.down,.bool x.uH] 29)).alloc (.cells #[.int .i64 0,.int .i64 0,.int .i64 0,.slice none 0 0,.int .i64 0,.int .i64 0,.int .i64 0,.int .i64 0,.int .i64 0,.slice none 0 0,.int .i64 0,.bool false,.bool false] 29)) w.heap.size 29 #[.int .i64 x.id,.int .i64 x.n,.int .i64 x.s,.slice am ms.length cm,.int .i64 x.lost,.int .i64 x.uG,.int .i64 x.seq,.int .i64 x.tail,.int .i64 x.gen,.slice ad ds.length cd,.int .i64 x.uI,.bool x.down,.bool x.uH]:=(Box.new w _ _).alloc _;have R0:=Box.new (w.alloc (.cells #[.int .i64 x.id,.int .i64 x.n,.int .i64 x.s,.slice am ms.length cm,.int .i64 x.lost,.int .i64 x.uG,.int .i64 x.seq,.int .i64 x.tail,.int .i64 x.gen,.slice ad ds.length cd,.int .i64 x.uI,.bool x.down,.bool x.uH] 29)) 29 #[.int .i64 0,.int .i64 0,.int .i64 0,.slice none 0 0,.int .i64 0,.int .i64 0,.int .i64 0,.int .i64 0,.int .i64 0,.slice none 0 0,.int .i64 0,.bool false,.bool false];rw [World.size_alloc] at R0;have zX:=X0.lt;have zR:=R0.lt;have r0:=h0.below hA;have r1:=h1.below hA;have hzW:((w.alloc (.cells #[.int .i64 x.id,.int .i64 x.n,.int .i64 x.s,.slice am ms.length cm,.int .i64 x.lost,.int .i64 x.uG,.int .i64 x.seq,.int .i64 x.tail,.int .i64 x.gen,.slice ad ds.length cd,.int .i64 x.uI,.bool x.down,.bool x.uH] 29)).alloc (.cells #[.int .i64 0,.int .i64 0,.int .i64 0,.slice none 0 0,.int .i64 0,.int .i64 0,.int .i64 0,.int .i64 0,.int .i64 0,.slice none 0 0,.int .i64 0,.bool false,.bool false] 29)).heap.size=w.heap.size+1+1:=by simp
 obtain ⟨k0,k1,k2,k3,k4,k5,k6,k7,k8,k9,k10,k11,k12⟩:=X0.cells13;have HW:=aa hwork;clear hwork;have hmf:∀(fn:Fn) (first cap:Array Value) (w:World),(Instr.makeFunc fn first cap).run Tryz.prog w=.ok (.func fn first cap) w:=fun _ _ _ _=>rfl;go_enter_defers Tryz.func118,Tryz.ntmps118
 go_wp2_with fail
 generalize (w.alloc (.cells #[.int .i64 x.id,.int .i64 x.n,.int .i64 x.s,.slice am ms.length cm,.int .i64 x.lost,.int .i64 x.uG,.int .i64 x.seq,.int .i64 x.tail,.int .i64 x.gen,.slice ad ds.length cd,.int .i64 x.uI,.bool x.down,.bool x.uH] 29)).alloc (.cells #[.int .i64 0,.int .i64 0,.int .i64 0,.slice none 0 0,.int .i64 0,.int .i64 0,.int .i64 0,.int .i64 0,.int .i64 0,.slice none 0 0,.int .i64 0,.bool false,.bool false] 29)=W at hA X0 R0 zX zR r0 r1 hzW k0 k1 k2 k3 k4 k5 k6 k7 k8 k9 k10 k11 k12 ⊢;obtain ⟨BO,hBO⟩:∃BO,w.heap.size+1=BO:=⟨_,rfl⟩;rw [hBO] at R0 zR hzW ⊢;have q1:w.heap.size+1<=BO/\BO<=w.heap.size+1:=by omega
 clear hBO;refine (en _ E F G x _ _ _ _ _ _ ms ds r0 r1 hw).mono ?_
 rintro e w1 ⟨bm,cm1,bd,cd1,m,rfl,om,od,zm,zm2,b1⟩;have R1:=R0.below b1 zR;have hbt:=cz BO [(0,.int .i64 x.id),(1,.int .i64 x.n),(2,.int .i64 x.s),(3,.slice bm ms.length cm1),(4,.int .i64 x.lost),(5,.int .i64 x.uG),(6,.int .i64 x.seq),(7,.int .i64 x.tail),(8,.int .i64 x.gen),(9,.slice bd ds.length cd1),(10,.int .i64 x.uI),(11,.bool x.down),(12,.bool x.uH)] w1;have Y:Box (bM w1 BO [(0,.int .i64 x.id),(1,.int .i64 x.n),(2,.int .i64 x.s),(3,.slice bm ms.length cm1),(4,.int .i64 x.lost),(5,.int .i64 x.uG),(6,.int .i64 x.seq),(7,.int .i64 x.tail),(8,.int .i64 x.gen),(9,.slice bd ds.length cd1),(10,.int .i64 x.uI),(11,.bool x.down),(12,.bool x.uH)]) BO 29 (aC x (.slice bm ms.length cm1) (.slice bd ds.length cd1)):=pM R1 _ _ _ _ _ _ _ _ _ _ _ _ _;obtain ⟨fm,mm,rm⟩:=om.mine;obtain ⟨fd,md,rd⟩:=od.mine;have AA:aD (bM w1 BO [(0,.int .i64 x.id),(1,.int .i64 x.n),(2,.int .i64 x.s),(3,.slice bm ms.length cm1),(4,.int .i64 x.lost),(5,.int .i64 x.uG),(6,.int .i64 x.seq),(7,.int .i64 x.tail),(8,.int .i64 x.gen),(9,.slice bd ds.length cd1),(10,.int .i64 x.uI),(11,.bool x.down),(12,.bool x.uH)]) BO x ms ds fm fd:=⟨bm,bd,cm1,cd1,Y,mm.but hbt (fun b hb=>by have:=rm b hb;omega),md.but hbt (fun b hb=>by have:=rd b hb;omega),fun b hb hb'=>by have h1:=rm b hb;have h2:=rd b hb';omega,fun hm=>by have:=rm _ hm;omega,fun hm=>by have:=rd _ hm;omega⟩;have B1:=Below.andBut (Below.andThen hA b1) hbt (by omega);have rm2:∀b∈fm,BO<b:=fun b hb=>by have:=rm b hb;omega
 have rd2:∀b∈fd,BO<b:=fun b hb=>by have:=rd b hb;omega
 have WK:=aa (HW.out _ BO fm fd B1 (by omega) AA (fun b hb=>by have:=rm2 b hb;omega) (fun b hb=>by have:=rd2 b hb;omega));have hcf:∀w:World,Sem.run Tryz.prog (callFunc Fw (#[.pointer (some ⟨BO,0,none⟩)]++cap)) w=.ok (.enter Fw (#[.pointer (some ⟨BO,0,none⟩)]++cap)) w:=hen BO;have BH:=aa B1;have zW:=AA.lt;simp only [bM] at WK BH zW
 obtain ⟨t0,t1,t2,t3,t4,t5,t6,t7,t8,t9,t10,t11,t12⟩:=R1.cells13;have fz:=R1.frozen;clear X0 R0 r0 r1 om od b1 hbt Y mm md AA B1 rm rd hA HW k0 k1 k2 k3 k4 k5 k6 k7 k8 k9 k10 k11 k12;go_wp2_with fail
 refine WK.out.mono ?_
 rintro e w4 ⟨he,fm4,hA4,hMv4⟩;clear WK hcf fz t0 t1 t2 t3 t4 t5 t6 t7 t8 t9 t10 t11 t12;have rm4:∀b∈fm4,BO<b:=fun b hb=>by rcases hMv4.2 b hb with h|h;exact rm2 b h;omega
 have B4:=BH.out.trans (hMv4.belowN (N:=w.heap.size) (by omega) (fun b hb=>by have:=rm2 b hb;omega) (by have:=BH.out.size;omega));obtain ⟨y,ns⟩:=q;dsimp only at hA4 he
 obtain ⟨vm,vd,cvm,cvd,Yf,mf,df,hrf,r1f,r2f⟩:=hA4;clear hMv4 BH zW;have Y0:=Yf;unfold aC at Y0;obtain ⟨s0,s1,s2,s3,s4,s5,s6,s7,s8,s9,s10,s11,s12⟩:=Y0.cells13;have fz:=Y0.frozen;unfold dD at he;cases hdn:y.down
 . rw [if_neg (by simp [hdn])] at he
   subst he;clear hdn;have HO:=aa (bR (y:=y) (e:=.returned (.agg (aC y _ _))) B4 Yf rfl mf df hrf (lo:=BO+1) (fun b hb=>rm4 b hb) (fun b hb=>rd2 b hb) (by omega) (by omega));unfold aC at HO;simp only [bM] at HO
   clear B4 Yf Y0 mf df;go_wp2
   refine leaves_cons (f:=177) (args:=#[]) (by simp) (by simp [go_sem]) ?_
   refine (qR _).mono ?_
   rintro e u' w'' ⟨rfl,rfl,rfl⟩;exact ⟨.agg #[.int .i64 y.id,.int .i64 y.n,.int .i64 y.s,.slice vm ns.length cvm,.int .i64 y.lost,.int .i64 y.uG,.int .i64 y.seq,.int .i64 y.tail,.int .i64 y.gen,.slice vd ds.length cvd,.int .i64 y.uI,.bool y.down,.bool y.uH],by simp [results,Tryz.results118,go_sem,s0,s1,s2,s3,s4,s5,s6,s7,s8,s9,s10,s11,s12],HO.out⟩
 rw [if_pos hdn] at he;subst he;clear hdn;have HO:=aa (tU (y:=y) (e:=.returned (.agg (aC y _ _))) B4 rfl mf df hrf (B:=BO) (fun b hb=>Nat.le_of_lt (rm4 b hb)) (fun b hb=>Nat.le_of_lt (rd2 b hb)) (by omega));unfold aC at HO;clear B4 Yf Y0 mf df;go_wp2
 refine leaves_cons (f:=177) (args:=#[]) (by simp) (by simp [go_sem]) ?_
 refine (qQ _).mono ?_
 rintro e u' w'' ⟨rfl,rfl,rfl⟩;exact ⟨.agg #[.int .i64 y.id,.int .i64 y.n,.int .i64 y.s,.slice vm ns.length cvm,.int .i64 y.lost,.int .i64 y.uG,.int .i64 y.seq,.int .i64 y.tail,.int .i64 y.gen,.slice vd ds.length cvd,.int .i64 y.uI,.bool y.down,.bool y.uH],by simp [results,Tryz.results118,go_sem,s0,s1,s2,s3,s4,s5,s6,s7,s8,s9,s10,s11,s12],HO.out⟩
theorem Tryz.infoOp:(Tryz.prog.info? 165).map (fun i=>(i.zero,i.size,i.bytes))=some (some .nilFunc,1,8):=by kernel_rfl
theorem nP (w:World) (B:Nat) (x:al) (ms:List ai) (ds:List (Int×List Int)) (fm fd:List Nat) (h:aD w B x ms ds fm fd) (hl:ms.length<=2097152) (K:Nat->DOp) (F:FuncId) (cap:Array Value)
 (hen:∀m:Nat,mG F (#[.int .i64 (m:Int)]++cap)) (hop:∀(m:Nat) (w':World),m<ms.length->Below w.heap.size w w'->Calls Tryz.prog F (#[.int .i64 (m:Int)]++cap) w' fun e w''=>∃v,e=.returned v/\(mT B).Own w'' w'.heap.size w''.heap.size [v] (K m)/\Below w'.heap.size w' w''):
 Calls Tryz.prog 227 #[.pointer (some ⟨B,0,none⟩),.func (Fn.func F) #[] cap] w fun e w'=>∃bo co,e=.returned (.slice bo (dL K ms ms.length).length co)/\(sG B).Own w' w.heap.size w'.heap.size [.slice bo (dL K ms ms.length).length co] (dL K ms ms.length)/\Below w.heap.size w w':=by
 obtain ⟨i4,hi4,hz0,hz1,hz2⟩:=info_parts Tryz.infoOp;obtain ⟨bm,bd,cm,cd,X,hmm,hdd,hr,r1,r2⟩:=h;have zB:=X.lt;have k3:w.cell? ⟨B,3,none⟩=some (.slice bm ms.length cm):=by
  unfold aC at X;exact X.cells13.2.2.2.1
 have hmx:=(ae hmm.rd).2;have ML:=aa (eh (t:=mT B) (E:=165) w);have HB0:=aa (ah w (.cells #[] 165));have MM:=aa hmm;have HOP:=aa hop;have k3':(w.alloc (.cells #[] 165)).cell? ⟨B,3,none⟩=some (.slice bm ms.length cm):=(HB0.out.cell (p:=⟨B,3,none⟩) zB).trans k3;clear hmm hdd X hop;go_enter Tryz.func227,Tryz.ntmps227
 go_wp2
 go_loopw [5,14] (fun v i wr=>∃(j:Nat) (fp:List Nat),j<=ms.length/\i=.int .i64 j/\(sG B).Mine wr [v] (dL K ms j) fp/\(∀b∈fp,w.heap.size<=b)/\Below w.heap.size w wr) (fun _ i _=>ms.length-(intOf i).toNat)
 case atStart=>exact ⟨0,[w.heap.size],Nat.zero_le _,rfl,ML.out,by simp,HB0.out⟩
 obtain ⟨j,fp,hj,rfl,hm,hfp,hb⟩:=hrel;have hs:=hb.size;by_cases hjn:j<ms.length
 . have i2:(j:Int)<(ms.length:Int):=by omega
   have i1:(0:Int)<=(j:Int):=by omega
   obtain ⟨g,rfl⟩:=bG MM.out (by omega);have hdj:ms[j]?=some (ms[j]'(by omega)):=List.getElem?_eq_getElem (by omega);generalize ms[j]'(by omega)=d at hdj;obtain ⟨hgl,a0,a1,a3,c0,c1,c3,ss,cs,f,bs,rfl,q0,q1,q2,q3,_,_,_⟩:=dp MM.out hdj;have p0:=(hb.cell (p:=⟨g,j*4,none⟩) hgl).trans q0;have p1:=(hb.cell (p:=⟨g,j*4+1,none⟩) hgl).trans q1;have p2:=(hb.cell (p:=⟨g,j*4+2,none⟩) hgl).trans q2;have p3:=(hb.cell (p:=⟨g,j*4+3,none⟩) hgl).trans q3;have hfl:dm ms j=f:=by unfold dm;rw [dr hdj]
   have HL:=aa (nu K ms j);rw [hfl] at HL;clear q0 q1 q2 q3 hdj hfl;cases f
   . have HL2:Hid (dL K ms (j+1)=dL K ms j++[K j]):=HL.out
     have hkl:=ti K ms j;have L1:Hid ((dL K ms j).length+1<=maxLen):=by unfold Hid maxLen;omega
     have L2:Hid (((dL K ms j).length+1)*8<=140737488355328):=by unfold Hid;omega
     have HM:=aa hm;have HFP:=aa hfp;have HB:=aa hb;have hcf:∀w:World,Sem.run Tryz.prog (callFunc F (#[.int .i64 (j:Int)]++cap)) w=.ok (.enter F (#[.int .i64 (j:Int)]++cap)) w:=hen j;clear hm hfp hb HL hkl;go_wp2_with fail
     have bA:=Below.andThen HB.out (ah wr (.cells #[.slice a0 ss.length c0,.slice a1 cs.length c1,.bool false,.slice a3 bs.length c3] 78));refine (HOP.out j _ hjn bA).mono ?_
     rintro e w1 ⟨v,rfl,ov,b1⟩;obtain ⟨fpx,mx,rx⟩:=ov.mine;obtain ⟨F1,cp1,hv,_⟩:=mx.1;have hv':v=.func (Fn.func F1) #[] cp1:=by simpa using hv
     subst hv';have bw1:=Below.andThen (ah wr (.cells #[.slice a0 ss.length c0,.slice a1 cs.length c1,.bool false,.slice a3 bs.length c3] 78)) b1;have bB:=ah w1 (.cells #[.func (Fn.func F1) #[] cp1] 165);have zA:(wr.alloc (.cells #[.slice a0 ss.length c0,.slice a1 cs.length c1,.bool false,.slice a3 bs.length c3] 78)).heap.size=wr.heap.size+1:=by simp
     have z1:=b1.size;have z2:(w1.alloc (.cells #[.func (Fn.func F1) #[] cp1] 165)).heap.size=w1.heap.size+1:=by simp
     have M1:=aa ((HM.out.below bw1).alloc (.cells #[.func (Fn.func F1) #[] cp1] 165));have M2:=aa (mx.alloc (.cells #[.func (Fn.func F1) #[] cp1] 165));have NN:=aa (aZ w1 #[.func (Fn.func F1) #[] cp1] 165);have hfl:=HM.out.lt;have DJ:Hid (∀b∈fp,b∉fpx):=fun b hb hb'=>by
      have h1:=hfl b hb;have h2:=rx b hb';omega
     have RX:=aa rx;have BB:=aa (Below.andThen bA (Below.andThen b1 bB));clear ov mx rx hv bA bw1 bB b1 hfl;go_wp2_with (at_builtin;refine bO (mT B) rfl _ _ 155 rfl 165 i4 .nilFunc 8 Tryz.underlying155 hi4 hz0 hz1 hz2 rfl Nat.zero_lt_one u5 (dL K ms j) fp rfl ?_ ⟨w1.heap.size,0,none⟩ 1 [.func (Fn.func F1) #[] cp1] (K j) fpx rfl ?_ ?_ ?_ ?_ ?_ ?_ ?_;exact M1.out;exact M2.out;exact DJ.out;exact NN.out;(intro u hu;simp at hu;rw [hu];rfl);exact L1.out;exact L2.out;intro v2 w2 fp2 m1 m2 m3;rw [←HL2.out] at m1;have N1:=aa m1;have N2:=aa m2;have N3:=aa m3;clear m1 m2 m3)
     have hf2:∀b∈fp2,w.heap.size<=b:=fun b hb=>by
      rcases N2.out b hb with h|h|h
      . exact HFP.out b h
      . have:=RX.out b h
        omega
      have h1:=h.1;omega
     have HBB:=aa (BB.out.trans (N3.out.below (N:=w.heap.size) (by omega) (fun b hb=>HFP.out b hb)));have HF2:=aa hf2;clear hf2;go_roundw
     case rel=>exact ⟨j+1,fp2,by omega,by go_num,N1.out,HF2.out,HBB.out⟩
     case measure=>simp [intOf];omega
   have HL2:Hid (dL K ms (j+1)=dL K ms j):=by unfold Hid;rw [HL.out,if_pos rfl,List.append_nil]
   have HM:=aa (hm.alloc (.cells #[.slice a0 ss.length c0,.slice a1 cs.length c1,.bool true,.slice a3 bs.length c3] 78));have HB:=aa (Below.andThen hb (ah wr (.cells #[.slice a0 ss.length c0,.slice a1 cs.length c1,.bool true,.slice a3 bs.length c3] 78)));have HFP:=aa hfp;clear hm hb hfp HL;go_wp2
   go_roundw
   case rel=>exact ⟨j+1,fp,by omega,by go_num,by rw [HL2.out];exact HM.out,HFP.out,HB.out⟩
   case measure=>simp [intOf];omega
 have e:j=ms.length:=by omega
 subst e;have hltb:=hm.lt;obtain ⟨bo,co,hv⟩:=aw hm.rd;subst hv;have HO:=aa (hm.own (lo:=w.heap.size) (hi:=wr.heap.size) (fun b hb'=>⟨hfp b hb',hltb b hb'⟩));have i2:¬((ms.length:Int)<(ms.length:Int)):=by omega
 clear hm;go_wp2
 go_ret
 exact ⟨_,_,rfl,HO.out,hb⟩
theorem mU (w:World) (B p q m:Nat) (hp:Box w p 63 #[.pointer (some ⟨B,0,none⟩)]) (hq:Box w q 3 #[.int .i64 (m:Int)]):oK B [p,q] 260 #[.pointer (some ⟨p,0,none⟩),.pointer (some ⟨q,0,none⟩)] (eK m) w:=by
 intro x ms ds fm fd hA hM hdis hlt;dsimp only [eK] at hlt
 obtain ⟨bm,bd,cm,cd,X,hmm,hdd,hr,r1,r2⟩:=hA;have hm63:=(ae hmm.rd).2;obtain ⟨g,rfl⟩:=bG hmm (by omega);have hdj:ms[m]?=some (ms[m]'(by omega)):=List.getElem?_eq_getElem (by omega);generalize ms[m]'(by omega)=d at hdj;have hgm:ms.getD m ew=d:=dr hdj;obtain ⟨hgl,a0,a1,a3,c0,c1,c3,ss,cs,f,bs,rfl,q0,q1,q2,q3,p0,p1,p3⟩:=dp hmm hdj;have X0:=X;unfold aC at X0;obtain ⟨k0,k1,k2,k3,k4,k5,k6,k7,k8,k9,k10,k11,k12⟩:=X0.cells13;have zp:=hp.lt;have cp:=hp.cell 0;have zq:=hq.lt;have cq:=hq.cell 0;have hwt:=dB (hM m _ hdj) f;dsimp only at hwt
 have zB:=X.lt;have XH:=aa X;have MH:=aa hmm;have DH:=aa hdd;have R0:=aa p0;have R1:=aa p1;have R3:=aa p3;have HG:=aa hgm;have hS:w.drew.cell? ⟨p,0,none⟩=some (.pointer (some ⟨B,0,none⟩))/\w.drew.cell? ⟨q,0,none⟩=some (.int .i64 (m:Int))/\w.drew.cell? ⟨B,3,none⟩=some (.slice (some ⟨g,0,none⟩) ms.length cm)/\w.drew.cell? ⟨g,m*4,none⟩=some (.slice a0 ss.length c0)/\w.drew.cell? ⟨g,m*4+1,none⟩=some (.slice a1 cs.length c1)/\w.drew.cell? ⟨g,m*4+2,none⟩=some (.bool f)/\w.drew.cell? ⟨g,m*4+3,none⟩=some (.slice a3 bs.length c3):=⟨cp,cq,k3,q0,q1,q2,q3⟩;have i1:(0:Int)<=(m:Int):=by omega
 have i3:(m:Int)<(ms.length:Int):=by omega
 clear X X0 hmm hdd p0 p1 p3 hM hdj hgm hdis;go_enter Tryz.func260,Tryz.ntmps260
 go_wp2_with fail
 refine af.start (S:=fun w'=>w'.cell? ⟨p,0,none⟩=some (.pointer (some ⟨B,0,none⟩))/\w'.cell? ⟨q,0,none⟩=some (.int .i64 (m:Int))/\w'.cell? ⟨B,3,none⟩=some (.slice (some ⟨g,0,none⟩) ms.length cm)/\w'.cell? ⟨g,m*4,none⟩=some (.slice a0 ss.length c0)/\w'.cell? ⟨g,m*4+1,none⟩=some (.slice a1 cs.length c1)/\w'.cell? ⟨g,m*4+2,none⟩=some (.bool f)/\w'.cell? ⟨g,m*4+3,none⟩=some (.slice a3 bs.length c3)) (k:=14) (by kernel_rfl) ?_
 refine af.t 0 hS ?_
 refine af.t 1 hS ?_
 refine af.t 2 hS ?_
 refine af.t 3 hS ?_
 refine af.t 4 hS ?_
 refine af.t 5 hS ?_
 refine af.t 6 hS ?_
 refine af.t 7 hS ?_
 refine af.t 8 hS ?_
 refine af.t 9 hS ?_
 refine af.t 10 hS ?_
 refine af.t 11 hS ?_
 refine af.one (i:=12) (by kernel_rfl) rfl (fun K hK=>?_)
 go_simp
 refine (jK _ 142 _ _ _ _ _ _ _ _ _ ss cs f bs R0.out.drew R1.out.drew R3.out.drew (by omega)).mono ?_
 rintro e w2 ⟨u0,u1,u3,rfl,o2,b2'⟩;have b2:Below w.heap.size w w2:=(Below.refl w.heap.size w).drew.trans b2';have o2b:(bC 142).Own w2 w.heap.size w2.heap.size [u0,u1,.bool f,u3] _:=o2;obtain ⟨d0,l0,f0,d1,l1,f1,d3,l3,f3,hv0,hv1,hv3⟩:=bE o2b;subst hv0 hv1 hv3;obtain ⟨fpx,mx,rx⟩:=o2b.mine;obtain ⟨cOld,fz,hgm,fm9,hA9,hMv9⟩:=di (m:=m) XH.out MH.out DH.out hr r1 r2 b2 (by omega) mx (fun b hb=>(rx b hb).1);obtain ⟨o0,t0⟩:=cOld 0 (by omega);obtain ⟨o1,t1⟩:=cOld 1 (by omega);obtain ⟨o2',t2⟩:=cOld 2 (by omega);obtain ⟨o3,t3⟩:=cOld 3 (by omega);rw [Nat.add_zero] at t0;have HA:=aa hA9;have HMV:=aa hMv9;have hS2:w2.cell? ⟨p,0,none⟩=some (.pointer (some ⟨B,0,none⟩))/\w2.cell? ⟨q,0,none⟩=some (.int .i64 (m:Int))/\w2.cell? ⟨B,3,none⟩=some (.slice (some ⟨g,0,none⟩) ms.length cm)/\w2.cell? ⟨g,m*4,none⟩=some (.slice a0 ss.length c0)/\w2.cell? ⟨g,m*4+1,none⟩=some (.slice a1 cs.length c1)/\w2.cell? ⟨g,m*4+2,none⟩=some (.bool f)/\w2.cell? ⟨g,m*4+3,none⟩=some (.slice a3 bs.length c3):=⟨(b2.cell (p:=⟨p,0,none⟩) zp).trans cp,(b2.cell (p:=⟨q,0,none⟩) zq).trans cq,(b2.cell (p:=⟨B,3,none⟩) zB).trans k3,(b2.cell (p:=⟨g,m*4,none⟩) hgl).trans q0,(b2.cell (p:=⟨g,m*4+1,none⟩) hgl).trans q1,(b2.cell (p:=⟨g,m*4+2,none⟩) hgl).trans q2,(b2.cell (p:=⟨g,m*4+3,none⟩) hgl).trans q3⟩;have gB:¬g=B:=fun e=>r1 (e▸hgm);unfold ez at HA HMV;clear cp cq k3 q0 q1 q2 q3 o2 o2b b2 b2' mx rx cOld hA9 hMv9 XH MH DH R0 R1 R3 hwt;go_wp2_with fail
 refine hK.out _ _ (fun _=>hS2) ?_
 clear hK K;refine af.t 13 hS2 ?_
 refine af.one (i:=14) (by kernel_rfl) rfl (fun K hK=>?_)
 go_simp
 refine hK.out _ _ (fun h=>absurd rfl h) ?_
 clear hK K;refine af.done (by kernel_rfl) ?_ _
 clear hS hS2 t0 t1 t2 t3 fz;go_wp2
 refine bodyPost_end (v:=.tuple #[]) (results_none rfl _ _ _) rfl ?_
 refine ⟨rfl,fm9,?_,HMV.out⟩
 show aD _ B x (ms.set m (opF (eK m) x (ms.getD m ew))) ds fm9 fd
 rw [HG.out];exact HA.out
theorem pT (w:World) (B m:Nat):Calls Tryz.prog 251 #[.pointer (some ⟨B,0,none⟩),.int .i64 (m:Int)] w fun e w'=>∃v,e=.returned v/\(mT B).Own w' w.heap.size w'.heap.size [v] (eK m)/\Below w.heap.size w w':=by
 have hmf:∀(fn:Fn) (first cap:Array Value) (w:World),(Instr.makeFunc fn first cap).run Tryz.prog w=.ok (.func fn first cap) w:=fun _ _ _ _=>rfl;have hb:Below w.heap.size w ((w.alloc (.cells #[.pointer (some ⟨B,0,none⟩)] 63)).alloc (.cells #[.int .i64 (m:Int)] 3)):=((Below.refl _ _).alloc (Nat.le_refl _) _).alloc (by simp) _;have b0:Box ((w.alloc (.cells #[.pointer (some ⟨B,0,none⟩)] 63)).alloc (.cells #[.int .i64 (m:Int)] 3)) w.heap.size 63 #[.pointer (some ⟨B,0,none⟩)]:=(Box.new w _ _).alloc _;have b1:=Box.new (w.alloc (.cells #[.pointer (some ⟨B,0,none⟩)] 63)) 3 #[.int .i64 (m:Int)];rw [World.size_alloc] at b1;have hsz:((w.alloc (.cells #[.pointer (some ⟨B,0,none⟩)] 63)).alloc (.cells #[.int .i64 (m:Int)] 3)).heap.size=w.heap.size+1+1:=by simp
 have HO:Hid ((mT B).Own ((w.alloc (.cells #[.pointer (some ⟨B,0,none⟩)] 63)).alloc (.cells #[.int .i64 (m:Int)] 3)) w.heap.size ((w.alloc (.cells #[.pointer (some ⟨B,0,none⟩)] 63)).alloc (.cells #[.int .i64 (m:Int)] 3)).heap.size [.func (Fn.func 260) #[] #[.pointer (some ⟨w.heap.size,0,none⟩),.pointer (some ⟨w.heap.size+1,0,none⟩)]] (eK m)):=by
  refine ⟨[w.heap.size,w.heap.size+1],⟨260,_,rfl,?_,?_,fun w' hk hs=>?_⟩,?_,?_⟩
  . exact gV Tryz.func260 (by kernel_rfl) (by kernel_rfl) _
  . intro b hb';simp at hb';omega
  . exact mU w' B _ _ m (b0.kept (hk _ (by simp))) (b1.kept (hk _ (by simp)))
  . simp
  intro b hb';simp at hb';omega
 have HB:=aa hb;clear hb b0 b1 hsz;go_enter Tryz.func251,Tryz.ntmps251
 go_wp2
 go_ret
 exact ⟨_,rfl,HO.out,HB.out⟩
theorem oM (w:World) (B p m:Nat) (hp:Box w p 63 #[.pointer (some ⟨B,0,none⟩)]):Calls Tryz.prog 250 #[.int .i64 (m:Int),.pointer (some ⟨p,0,none⟩)] w fun e w'=>∃v,e=.returned v/\(mT B).Own w' w.heap.size w'.heap.size [v] (eK m)/\Below w.heap.size w w':=by
 have c0:w.cell? ⟨p,0,none⟩=some (.pointer (some ⟨B,0,none⟩)):=hp.cell 0;go_enter Tryz.func250,Tryz.ntmps250
 go_wp2_with fail
 refine (pT _ B m).mono ?_
 rintro e w1 ⟨v,rfl,ov,b1⟩;have OV:=aa ov;have B1:=aa b1;clear ov b1;go_wp2
 go_ret
 exact ⟨_,rfl,OV.out,B1.out⟩
theorem pU (w:World) (B:Nat) (x:al) (ms:List ai) (ds:List (Int×List Int)) (fm fd:List Nat) (h:aD w B x ms ds fm fd) (hl:ms.length<=2097152):Calls Tryz.prog 230 #[.pointer (some ⟨B,0,none⟩)] w fun e w'=>∃bo co,e=.returned (.slice bo (dL eK ms ms.length).length co)/\(sG B).Own w' w.heap.size w'.heap.size [.slice bo (dL eK ms ms.length).length co] (dL eK ms ms.length)/\Below w.heap.size w w':=by
 have hmf:∀(fn:Fn) (first cap:Array Value) (w:World),(Instr.makeFunc fn first cap).run Tryz.prog w=.ok (.func fn first cap) w:=fun _ _ _ _=>rfl;have bA:=ah w (.cells #[.pointer (some ⟨B,0,none⟩)] 63);have bx:=Box.new w 63 #[.pointer (some ⟨B,0,none⟩)];have HA:=aa (h.alloc (.cells #[.pointer (some ⟨B,0,none⟩)] 63));have hlt:=bx.lt;clear h;go_enter Tryz.func230,Tryz.ntmps230
 go_wp2_with fail
 refine (nP _ B x ms ds fm fd HA.out hl eK 250 #[.pointer (some ⟨w.heap.size,0,none⟩)] (fun m=>gV Tryz.func250 (by kernel_rfl) (by kernel_rfl) _) (fun m w' hm hb=>?_)).mono ?_
 . exact oM w' B _ m (bx.below hb hlt)
 rintro e w1 ⟨bo,co,rfl,oo,b1⟩;have OO:=aa (oo.widen (lo':=w.heap.size) (hi':=w1.heap.size) (by simp) (Nat.le_refl _));have B1:=aa (Below.andThen bA b1);clear oo b1 bA bx;go_wp2
 go_ret
 exact ⟨_,_,rfl,OO.out,B1.out⟩
theorem mV (w:World) (B:Nat) (x:al) (ms:List ai) (ds:List (Int×List Int)) (fm fd:List Nat) (h:aD w B x ms ds fm fd) (hf:x.uI<=1000) (hdn:x.down=false) (hM:bJ ms) (hl:ms.length<=2097152):Calls Tryz.prog 189 #[.pointer (some ⟨B,0,none⟩)] w (Did w B fm ds fd (bw (x,ms) ms.length)):=by
 have HA:=aa h;have HR:Hid (dC (x,ms) (dL eK ms ms.length)=bw (x,ms) ms.length):=tj (x,ms) ms.length;have HF:Hid (x.uI<=1000/\x.down=false):=⟨hf,hdn⟩;have hlB:=h.lt;have hlm:=h.ltm.1;clear h hf hdn;go_enter Tryz.func189,Tryz.ntmps189
 go_wp2_with fail
 refine (pU _ B x ms ds fm fd HA.out hl).mono ?_
 rintro e w1 ⟨bo,co,rfl,oo,b1⟩;obtain ⟨fo,mo,ro⟩:=oo.mine;have HP:=aa (kO w1 B x ms ds fm fd (HA.out.below b1) HF.out.1 HF.out.2 hM bo co (dL eK ms ms.length) fo mo (fun b hb=>⟨fun e=>by have:=(ro b hb).1;omega,fun hm=>by have h1:=(ro b hb).1;have h2:=hlm b hm;omega⟩) (fun o ho=>by
  obtain ⟨i,hi,hfl,rfl⟩:=pk ho;exact ⟨hi,hfl⟩))
 have MB:=aa ((aI.refl B fm w).below b1);clear oo mo ro b1 hlm;go_wp2_with fail
 refine HP.out.mono ?_
 rintro e w2 hd;rw [HR.out] at hd;obtain ⟨he,fm2,hA2,hMv2⟩:=hd;have HD:Hid (Did w B fm ds fd (bw (x,ms) ms.length) e w2):=⟨he,fm2,hA2,MB.out.trans hMv2⟩;unfold dD at he;clear hA2 hMv2 HR;cases hst:(bw (x,ms) ms.length).1.down
 . rw [if_neg (by simp [hst])] at he
   subst he;clear hst;go_wp2
   refine bodyPost_end (v:=.tuple #[]) (results_none rfl _ _ _) rfl ?_
   exact HD.out
 rw [if_pos hst] at he;subst he;clear hst;go_wp2
 exact ⟨rfl,HD.out⟩
def ef (x:al) (ms:List ai) (ds:List (Int×List Int)) (m s:Int):Bool:=aX x ms ds&&(inB m 0 ((ms.length:Int)-1)&&inB s 0 (x.s-1))
def im (d:ai) (s:Int):ai:=(d.1,d.2.1,d.2.2.1,ev d.1 d.2.1 d.2.2.2 (bp s))
def ey (x:al) (ms:List ai) (ds:List (Int×List Int)) (m s:Int):al×List ai:=(x,if ef x ms ds m s=true then ms.set m.toNat (im (ms.getD m.toNat ew) s) else ms)
theorem fV {x:al} {ms:List ai} {ds:List (Int×List Int)} {m s:Int} (h:ef x ms ds m s=false):ey x ms ds m s=(x,ms):=by unfold ey;rw [if_neg (by simp [h])]
theorem mI {x:al} {ms:List ai} {ds:List (Int×List Int)} {j:Nat} {s:Int} {d:ai} (h:ef x ms ds (j:Int) s=true) (hd:ms[j]?=some d):ey x ms ds (j:Int) s=(x,ms.set j (im d s)):=by
 unfold ey;rw [if_pos h,Int.toNat_natCast,List.getD_eq_getElem?_getD,hd];rfl
theorem uD (ss:List (List Int)) (cs:List (Int×List Int)) (bs:List Int) (n:Int):(ev ss cs bs n).length<=bs.length+1:=by
 unfold ev;by_cases h:fX ss cs bs n=true
 . rw [if_pos h]
   unfold iB;have:(bs.filter fun x=>decide (x<=n)).length<=bs.length:=List.length_filter_le _ _;simp only [List.length_append,List.length_take,List.length_cons,List.length_drop]
   omega
 rw [if_neg h];omega
theorem sI {x:al} {ms:List ai} {ds:List (Int×List Int)} {m s:Int} (hw:aM ms ds<=1048576):aM (ey x ms ds m s).2 ds<=2097152:=by
 cases h:ef x ms ds m s
 . rw [fV h];dsimp only;omega
 have h1:inB m 0 ((ms.length:Int)-1)=true:=by unfold ef at h;simp only [Bool.and_eq_true] at h;exact h.2.1
 obtain ⟨h2,h3⟩:=aG.1 h1;obtain ⟨j,rfl⟩:=Int.eq_ofNat_of_zero_le h2;have hj:j<ms.length:=by omega
 rw [mI h (List.getElem?_eq_getElem hj)];have e1:=pR (ms.map aJ) j (aJ (im ms[j] s)) (by simpa using hj);have e2:=uD ms[j].1 ms[j].2.1 ms[j].2.2.2 (bp s);rw [List.getElem_map] at e1;have e3:aJ (im ms[j] s)<=aJ ms[j]+1:=by unfold aJ im;dsimp only;omega
 unfold aM aK at hw ⊢;rw [List.map_set,List.length_set];omega
end Go.Proofs.YtejokiafgbjdaaaGreat

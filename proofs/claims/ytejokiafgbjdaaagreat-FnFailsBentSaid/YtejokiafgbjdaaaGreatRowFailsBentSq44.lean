/-
 The specification's FailDisk walked. Condition: the array weighs at most 2097152.
-/
import Derived.Test.YtejokiafgbjdaaaGreatRowFailsBentSq38
import Derived.Test.YtejokiafgbjdaaaGreatRowFailsBentSq39
import Derived.Test.YtejokiafgbjdaaaGreatRowFailsBentSq40
import Derived.Test.YtejokiafgbjdaaaGreatRowFailsBentSq17
import Derived.Test.YtejokiafgbjdaaaGreatRowFailsBentSq16
import Derived.Test.YtejokiafgbjdaaaGreatRowFailsBentSq19
import Derived.Test.YtejokiafgbjdaaaGreatRowFailsBentSq30
import Derived.Test.YtejokiafgbjdaaaGreatRowFailsBentSq24
import Derived.Test.YtejokiafgbjdaaaGreatRowFailsBentSq13
import Derived.Test.YtejokiafgbjdaaaGreatRowFailsBentSq20
import Derived.Test.YtejokiafgbjdaaaGreatRowFailsBentSq41
import Derived.Test.YtejokiafgbjdaaaGreatRowFailsBentSq3
import Derived.Test.YtejokiafgbjdaaaGreatRowFailsBentSq18
import Derived.Test.YtejokiafgbjdaaaGreatRowFailsBentSq22

set_option maxRecDepth 100000
set_option maxHeartbeats 8000000
set_option linter.unusedSimpArgs false

namespace Go.Proofs.YtejokiafgbjdaaaGreat
open Go.RowKit

theorem qP {ms:List ai} {ds:List (Int×List Int)} {j:Nat} {d:ai} (hd:ms[j]?=some d) (hw:aM ms ds<=2097152):aM (ms.set j (du d)) ds<=2097152:=by
 obtain ⟨hj,rfl⟩:=List.getElem?_eq_some_iff.1 hd;have e1:=pR (ms.map aJ) j (aJ (du ms[j])) (by simpa using hj);rw [List.getElem_map] at e1;have e3:aJ (du ms[j])<=aJ ms[j]:=by unfold aJ du aY dw;simp only [List.length_nil,List.map_nil,List.foldr_nil];omega
 unfold aM aK at hw ⊢;rw [List.map_set,List.length_set];omega
def fS (x:al) (ms:List ai) (ds:List (Int×List Int)) (m:Int):Bool:=aX x ms ds&&(inB m 0 ((ms.length:Int)-1)&&!(ms.getD m.toNat ew).2.2.1)
def fU (x:al) (ms:List ai) (ds:List (Int×List Int)) (m:Int):al×List ai:=if fS x ms ds m=true then dv (x,ms) m.toNat else (x,ms)
theorem il {x:al} {ms:List ai} {ds:List (Int×List Int)} {m:Int} (h:fS x ms ds m=false):fU x ms ds m=(x,ms):=by unfold fU;rw [if_neg (by simp [h])]
theorem oI {x:al} {ms:List ai} {ds:List (Int×List Int)} {j:Nat} (h:fS x ms ds (j:Int)=true):fU x ms ds (j:Int)=dv (x,ms) j:=by
 unfold fU;rw [if_pos h,Int.toNat_natCast]
theorem tS {x:al} {ms:List ai} {ds:List (Int×List Int)} {m:Nat} (ha:aX x ms ds=true) (hm:m<ms.length) (hb:(bT x (m:Int)).uH=false):aX (bT x (m:Int)) (ms.set m (du (ms.getD m ew))) ds=true:=by
 obtain ⟨p1,p2,p3,p4,p5,p6⟩:=aS.1 ha;have g1:=az.1 p1;have hl:x.lost=-1∨x.lost=(m:Int):=by
  by_cases h:x.lost=-1∨x.lost=(m:Int)
  . exact h
  unfold bT at hb;rw [if_neg h] at hb;cases hb
 have hx:bT x (m:Int)={x with lost:=(m:Int),uG:=0}:=by unfold bT;rw [if_pos hl]
 have hbr:x.uH=false:=by rw [hx] at hb;exact hb
 have h3:=dh.1 p3;have hmd:=List.getElem?_eq_getElem hm;have hg:ms.getD m ew=ms[m]:=dr hmd;obtain ⟨a1,a2,_⟩:=h3.1 m _ hmd;have hn:=h3.2;rw [hx,hg];refine aS.2 ⟨p1,p2,?_,p4,?_,p6⟩
 . refine jw p3 rfl rfl (jy _ a1) a2 (fun _=>.inl rfl) (fun i e hne he hf=>?_)
   rcases (h3.1 i e he).2.2 hf with h|h
   . rcases hl with h'|h'<;>omega
   rw [hbr] at h;cases h
 unfold cS;simp only [Bool.and_eq_true,aG,Bool.or_eq_true,Bool.not_eq_true',decide_eq_true_eq,decide_eq_false_iff_not]
 refine ⟨⟨by omega,by omega⟩,⟨by omega,by omega⟩,.inr trivial⟩
theorem sE (x:al) (m:Int):pQ x m=bT x m:=rfl
theorem sF {x:al} {ms:List ai} {ds:List (Int×List Int)} {m:Nat} (ha:aX x ms ds=true) (hm:m<ms.length) (hb:(bT x (m:Int)).uH=false):jp (bT x (m:Int)) (ms.set m (du (ms.getD m ew))) ds=dv (x,ms) m:=by
 unfold jp dv;rw [tS ha hm hb];dsimp only
 rw [hb];simp
theorem pS {x:al} {ms:List ai} {m:Nat} (hb:(bT x (m:Int)).uH=true):dv (x,ms) m=(bT x (m:Int),ms.set m (du (ms.getD m ew))):=by
 unfold dv;rw [if_neg (by dsimp only;rw [hb];simp)]
theorem tT {x:al} {ms:List ai} {ds:List (Int×List Int)} {m:Int} (hw:aM ms ds<=1048576):aM (fU x ms ds m).2 ds<=2097152:=by
 cases h:fS x ms ds m
 . rw [il h];dsimp only;omega
 have h0:=h;unfold fS at h0;simp only [Bool.and_eq_true,aG] at h0
 obtain ⟨ha,⟨h2,h3⟩,_⟩:=h0;obtain ⟨j,rfl⟩:=Int.eq_ofNat_of_zero_le h2;have hj:j<ms.length:=by omega
 rw [oI h];obtain ⟨fc,mk,_⟩:=eL ha;have hmd:=List.getElem?_eq_getElem hj;have hg:ms.getD j ew=ms[j]:=dr hmd;have mk2:bJ (ms.set j (du (ms.getD j ew))):=by rw [hg];exact mk.set (jy _ (mk j _ hmd))
 have hfu:(bT x (j:Int)).uI=x.uI:=by unfold bT;split<;>rfl
 unfold dv;split
 . obtain ⟨a,c⟩:=po (q:=(bT x (j:Int),ms.set j (du (ms.getD j ew)))) mk2 (by rw [hfu];exact fc)
   exact nv ha a (by rw [c];simp) hw
 exact nv (q:=(bT x (j:Int),ms.set j (du (ms.getD j ew)))) ha mk2 (by simp) hw
theorem kg (w:World) (E F G:TypeId) (x:al) (am ad:Option Addr) (nm cm nd cd:Nat) (ms:List ai) (ds:List (Int×List Int)) (m:Int) (h0:(bk E F).Rd w [.slice am nm cm] ms) (h1:(aU G).Rd w [.slice ad nd cd] ds) (hw:aM ms ds<=2097152):
 Calls Tryz.prog 24 #[.agg #[.int .i64 x.id,.int .i64 x.n,.int .i64 x.s,.slice am nm cm,.int .i64 x.lost,.int .i64 x.uG,.int .i64 x.seq,.int .i64 x.tail,.int .i64 x.gen,.slice ad nd cd,.int .i64 x.uI,.bool x.down,.bool x.uH],.int .i64 m] w fun e w'=>iC w w' e (fU x ms ds m) ds:=by
 obtain ⟨rfl,_⟩:=ae h0;obtain ⟨rfl,_⟩:=ae h1;have hwm:aK ms<=2097152:=by unfold aM at hw;omega
 have hnm:ms.length<=2097152:=by unfold aK at hwm;omega
 have hA:=(ah w (.cells #[.int .i64 x.id,.int .i64 x.n,.int .i64 x.s,.slice am ms.length cm,.int .i64 x.lost,.int .i64 x.uG,.int .i64 x.seq,.int .i64 x.tail,.int .i64 x.gen,.slice ad ds.length cd,.int .i64 x.uI,.bool x.down,.bool x.uH] 29)).alloc (by simp) (.cells #[.int .i64 0,.int .i64 0,.int .i64 0,.slice none 0 0,.int .i64 0,.int .i64 0,.int .i64 0,.int .i64 0,.int .i64 0,.slice none 0 0,.int .i64 0,.bool false,.bool false] 29);have X0:Box ((w.alloc (.cells #[.int .i64 x.id,.int .i64 x.n,.int .i64 x.s,.slice am ms.length cm,.int .i64 x.lost,.int .i64 x.uG,.int .i64 x.seq,.int .i64 x.tail,.int .i64 x.gen,.slice ad ds.length cd,.int .i64 x.uI,.bool x.down,.bool x.uH] 29)).alloc (.cells #[.int .i64 0,.int .i64 0,.int .i64 0,.slice none 0 0,.int .i64 0,.int .i64 0,.int .i64 0,.int .i64 0,.int .i64 0,.slice none 0 0,.int .i64 0,.bool false,.bool false] 29)) w.heap.size 29 #[.int .i64 x.id,.int .i64 x.n,.int .i64 x.s,.slice am ms.length cm,.int .i64 x.lost,.int .i64 x.uG,.int .i64 x.seq,.int .i64 x.tail,.int .i64 x.gen,.slice ad ds.length cd,.int .i64 x.uI,.bool x.down,.bool x.uH]:=(Box.new w _ _).alloc _;have R0:=Box.new (w.alloc (.cells #[.int .i64 x.id,.int .i64 x.n,.int .i64 x.s,.slice am ms.length cm,.int .i64 x.lost,.int .i64 x.uG,.int .i64 x.seq,.int .i64 x.tail,.int .i64 x.gen,.slice ad ds.length cd,.int .i64 x.uI,.bool x.down,.bool x.uH] 29)) 29 #[.int .i64 0,.int .i64 0,.int .i64 0,.slice none 0 0,.int .i64 0,.int .i64 0,.int .i64 0,.int .i64 0,.int .i64 0,.slice none 0 0,.int .i64 0,.bool false,.bool false];rw [World.size_alloc] at R0;have zX:=X0.lt;have zR:=R0.lt;have r0:=h0.below hA;have r1:=h1.below hA;obtain ⟨k0,k1,k2,k3,k4,k5,k6,k7,k8,k9,k10,k11,k12⟩:=X0.cells13;go_enter Tryz.func24,Tryz.ntmps24
 go_wp2_with fail
 generalize (w.alloc (.cells #[.int .i64 x.id,.int .i64 x.n,.int .i64 x.s,.slice am ms.length cm,.int .i64 x.lost,.int .i64 x.uG,.int .i64 x.seq,.int .i64 x.tail,.int .i64 x.gen,.slice ad ds.length cd,.int .i64 x.uI,.bool x.down,.bool x.uH] 29)).alloc (.cells #[.int .i64 0,.int .i64 0,.int .i64 0,.slice none 0 0,.int .i64 0,.int .i64 0,.int .i64 0,.int .i64 0,.int .i64 0,.slice none 0 0,.int .i64 0,.bool false,.bool false] 29)=W at hA X0 R0 zX zR r0 r1 k0 k1 k2 k3 k4 k5 k6 k7 k8 k9 k10 k11 k12 ⊢;refine (en _ E F G x _ _ _ _ _ _ ms ds r0 r1 hw).mono ?_
 rintro e w1 ⟨bm,cm1,bd,cd1,mx,rfl,om,od,zm,zm2,b1⟩;have bn:=ah w1 (.cells #[.int .i64 x.id,.int .i64 x.n,.int .i64 x.s,.slice bm ms.length cm1,.int .i64 x.lost,.int .i64 x.uG,.int .i64 x.seq,.int .i64 x.tail,.int .i64 x.gen,.slice bd ds.length cd1,.int .i64 x.uI,.bool x.down,.bool x.uH] 29);have b12:Below W.heap.size W (w1.alloc (.cells #[.int .i64 x.id,.int .i64 x.n,.int .i64 x.s,.slice bm ms.length cm1,.int .i64 x.lost,.int .i64 x.uG,.int .i64 x.seq,.int .i64 x.tail,.int .i64 x.gen,.slice bd ds.length cd1,.int .i64 x.uI,.bool x.down,.bool x.uH] 29)):=Below.andThen b1 bn;have Y:=Box.new w1 29 #[.int .i64 x.id,.int .i64 x.n,.int .i64 x.s,.slice bm ms.length cm1,.int .i64 x.lost,.int .i64 x.uG,.int .i64 x.seq,.int .i64 x.tail,.int .i64 x.gen,.slice bd ds.length cd1,.int .i64 x.uI,.bool x.down,.bool x.uH];have zY:=Y.lt;have z1:=b1.size;obtain ⟨fm,mm,rm⟩:=(om.below bn).mine;obtain ⟨fd,md,rd⟩:=(od.below bn).mine;have A2:aD (w1.alloc (.cells #[.int .i64 x.id,.int .i64 x.n,.int .i64 x.s,.slice bm ms.length cm1,.int .i64 x.lost,.int .i64 x.uG,.int .i64 x.seq,.int .i64 x.tail,.int .i64 x.gen,.slice bd ds.length cd1,.int .i64 x.uI,.bool x.down,.bool x.uH] 29)) w1.heap.size x ms ds fm fd:=⟨bm,bd,cm1,cd1,Y,mm,md,fun b hb hb'=>by have h1:=rm b hb;have h2:=rd b hb';omega,fun hm=>by have:=rm _ hm;omega,fun hm=>by have:=rd _ hm;omega⟩;have X2:=X0.below b12 zX;have R2:=R0.below b12 zR;have p0:=r0.below b12;have p1:=r1.below b12;have B2:=Below.andThen hA b12;have rm2:∀b∈fm,W.heap.size<=b:=fun b hb=>by have:=rm b hb;omega
 have rd2:∀b∈fd,W.heap.size<=b:=fun b hb=>by have:=rd b hb;omega
 clear k0 k1 k2 k3 k4 k5 k6 k7 k8 k9 k10 k11 k12 X0 R0 r0 r1 om od b1 bn b12 Y mm rm md rd hA;obtain ⟨k0,k1,k2,k3,k4,k5,k6,k7,k8,k9,k10,k11,k12⟩:=X2.cells13;go_wp2_with fail
 generalize w1.alloc (.cells #[.int .i64 x.id,.int .i64 x.n,.int .i64 x.s,.slice bm ms.length cm1,.int .i64 x.lost,.int .i64 x.uG,.int .i64 x.seq,.int .i64 x.tail,.int .i64 x.gen,.slice bd ds.length cd1,.int .i64 x.uI,.bool x.down,.bool x.uH] 29)=w2 at A2 X2 R2 p0 p1 B2 zY k0 k1 k2 k3 k4 k5 k6 k7 k8 k9 k10 k11 k12 ⊢;obtain ⟨B,hB⟩:∃B,w1.heap.size=B:=⟨_,rfl⟩;rw [hB] at A2 zY z1 ⊢;clear hB;refine (eR _ E F G x _ _ _ _ _ _ ms ds p0 p1 hw).mono ?_
 rintro e w3 ⟨rfl,b3⟩;have A3:=A2.below b3;have X3:=X2.below b3 X2.lt;have R3:=R2.below b3 R2.lt;have B3:=Below.andThen B2 b3;have q3:=p0.below b3;have z3:=b3.size;clear k0 k1 k2 k3 k4 k5 k6 k7 k8 k9 k10 k11 k12 A2 X2 R2 p0 p1 B2 b3;obtain ⟨k0,k1,k2,k3,k4,k5,k6,k7,k8,k9,k10,k11,k12⟩:=X3.cells13;cases ha:aX x ms ds
 . have HV:Hid (fU x ms ds m=(x,ms)):=il (by unfold fS;rw [ha];rfl)
   obtain ⟨vm,vd,cvm,cvd,Yf,mf,df,hrf,r1f,r2f⟩:=A3;have Y0:=Yf;unfold aC at Y0;obtain ⟨t0,t1,t2,t3,t4,t5,t6,t7,t8,t9,t10,t11,t12⟩:=Y0.cells13;obtain ⟨s0,s1,s2,s3,s4,s5,s6,s7,s8,s9,s10,s11,s12⟩:=R3.cells13;have fzr:=R3.frozen;have HO:=aa (bR (y:=x) (e:=.returned (.agg (aC x _ _))) B3 R3 rfl mf df hrf rm2 rd2 (by omega) (by omega));unfold aC at HO;simp only [bM] at HO
   clear X3 R3 B3 Yf Y0 mf df;go_wp2
   refine bodyPost_ret (v:=.agg #[.int .i64 x.id,.int .i64 x.n,.int .i64 x.s,.slice vm ms.length cvm,.int .i64 x.lost,.int .i64 x.uG,.int .i64 x.seq,.int .i64 x.tail,.int .i64 x.gen,.slice vd ds.length cvd,.int .i64 x.uI,.bool x.down,.bool x.uH]) (by simp [results,Tryz.results24,go_sem,s0,s1,s2,s3,s4,s5,s6,s7,s8,s9,s10,s11,s12]) rfl ?_
   rw [HV.out];exact HO.out
 obtain ⟨fc,mk,gc0,gc1⟩:=eL ha;go_wp2_with fail
 refine (iF _ x _ _ _ _ _ _ m).mono ?_
 rintro e w4 ⟨rfl,b4⟩;have A4:=A3.below b4;have X4:=X3.below b4 X3.lt;have R4:=R3.below b4 R3.lt;have B4:=Below.andThen B3 b4;have q4:=q3.below b4;have z4:=b4.size;clear k0 k1 k2 k3 k4 k5 k6 k7 k8 k9 k10 k11 k12 A3 X3 R3 B3 b4 q3;obtain ⟨k0,k1,k2,k3,k4,k5,k6,k7,k8,k9,k10,k11,k12⟩:=X4.cells13;cases hm:inB m 0 ((ms.length:Int)-1)
 . have HV:Hid (fU x ms ds m=(x,ms)):=il (by unfold fS;rw [ha,hm];rfl)
   obtain ⟨vm,vd,cvm,cvd,Yf,mf,df,hrf,r1f,r2f⟩:=A4;have Y0:=Yf;unfold aC at Y0;obtain ⟨t0,t1,t2,t3,t4,t5,t6,t7,t8,t9,t10,t11,t12⟩:=Y0.cells13;obtain ⟨s0,s1,s2,s3,s4,s5,s6,s7,s8,s9,s10,s11,s12⟩:=R4.cells13;have fzr:=R4.frozen;have HO:=aa (bR (y:=x) (e:=.returned (.agg (aC x _ _))) B4 R4 rfl mf df hrf rm2 rd2 (by omega) (by omega));unfold aC at HO;simp only [bM] at HO
   clear X4 R4 B4 Yf Y0 mf df;go_wp2
   refine bodyPost_ret (v:=.agg #[.int .i64 x.id,.int .i64 x.n,.int .i64 x.s,.slice vm ms.length cvm,.int .i64 x.lost,.int .i64 x.uG,.int .i64 x.seq,.int .i64 x.tail,.int .i64 x.gen,.slice vd ds.length cvd,.int .i64 x.uI,.bool x.down,.bool x.uH]) (by simp [results,Tryz.results24,go_sem,s0,s1,s2,s3,s4,s5,s6,s7,s8,s9,s10,s11,s12]) rfl ?_
   rw [HV.out];exact HO.out
 obtain ⟨m1,m2⟩:=aG.1 hm;obtain ⟨j,rfl⟩:=Int.eq_ofNat_of_zero_le m1;have hj:j<ms.length:=by omega
 have i1:(0:Int)<=(j:Int):=by omega
 have i3:(j:Int)<(ms.length:Int):=by omega
 obtain ⟨d,hdj⟩:∃d,ms[j]?=some d:=⟨_,List.getElem?_eq_getElem hj⟩;have hgd:ms.getD j ew=d:=dr hdj;rcases cF rfl q4 with h0'|⟨b,off,rfl,hbl,hcs⟩
 . omega
 obtain ⟨v0,v1,v2,v3,q0,q1,q2,q3',hrv⟩:=hcs j d hdj;obtain ⟨a0,c0,a1,c1,a3,c3,ss,cs,f,bs,hde,rfl,rfl,rfl,rfl,p0,p1,p3⟩:=dP hrv;have hf2:f=d.2.2.1:=by rw [hde]
 rw [hf2] at q2;clear p0 p1 p3 hcs hrv q0 q1 q3' hde hf2 k0 k1 k2 k3 k4 k5 k6 k7 k8 k9 k10 k11 k12;clear a0 c0 a1 c1 a3 c3 ss cs f bs;obtain ⟨k0,k1,k2,k3,k4,k5,k6,k7,k8,k9,k10,k11,k12⟩:=X4.cells13;cases hff:d.2.2.1
 case true=>
  rw [hff] at q2;have HV:Hid (fU x ms ds (j:Int)=(x,ms)):=il (by unfold fS;rw [Int.toNat_natCast,hgd,hff];simp);clear hff;obtain ⟨vm,vd,cvm,cvd,Yf,mf,df,hrf,r1f,r2f⟩:=A4;have Y0:=Yf;unfold aC at Y0;obtain ⟨t0,t1,t2,t3,t4,t5,t6,t7,t8,t9,t10,t11,t12⟩:=Y0.cells13;obtain ⟨s0,s1,s2,s3,s4,s5,s6,s7,s8,s9,s10,s11,s12⟩:=R4.cells13;have fzr:=R4.frozen;have HO:=aa (bR (y:=x) (e:=.returned (.agg (aC x _ _))) B4 R4 rfl mf df hrf rm2 rd2 (by omega) (by omega));unfold aC at HO;simp only [bM] at HO
  clear X4 R4 B4 Yf Y0 mf df;go_wp2
  refine bodyPost_ret (v:=.agg #[.int .i64 x.id,.int .i64 x.n,.int .i64 x.s,.slice vm ms.length cvm,.int .i64 x.lost,.int .i64 x.uG,.int .i64 x.seq,.int .i64 x.tail,.int .i64 x.gen,.slice vd ds.length cvd,.int .i64 x.uI,.bool x.down,.bool x.uH]) (by simp [results,Tryz.results24,go_sem,s0,s1,s2,s3,s4,s5,s6,s7,s8,s9,s10,s11,s12]) rfl ?_
  rw [HV.out];exact HO.out
 rw [hff] at q2;have HB:Hid (fS x ms ds (j:Int)=true):=by unfold Hid fS;rw [ha,hm,Int.toNat_natCast,hgd,hff];rfl
 clear hff;obtain ⟨bmf,bdf,cmf,cdf,Y,mmf,ddf,hrf,r1f,r2f⟩:=A4;obtain ⟨gm,hbm⟩:=bG mmf (by omega);subst hbm;have HVF:=aa (oI HB.out);have HFX:=aa (sF (ds:=ds) ha hj);have HFB:=aa (pS (x:=x) (ms:=ms) (m:=j));have hms2:bJ (ms.set j (du d)):=mk.set (jy _ (mk j _ hdj));have HW2:=aa (qP (ds:=ds) hdj hw);have hgl:=mmf.lt gm (kd mmf);rw [hgd] at HFX HFB;obtain ⟨_,a0,a1,a3,c0,c1,c3,ss,cs,f,bs,rfl,q0,q1,q2',q3,p0,p1,p3⟩:=dp mmf hdj;have hwd:=Nat.le_trans (cD hdj) hwm;have Y0:=Y;unfold aC at Y0;have zB:=Y.lt;have Y00:=Y0.cells13;have hS:w4.drew.cell? ⟨B,3,none⟩=some (.slice (some ⟨gm,0,none⟩) ms.length cmf)/\w4.drew.cell? ⟨gm,j*4,none⟩=some (.slice a0 ss.length c0)/\w4.drew.cell? ⟨gm,j*4+1,none⟩=some (.slice a1 cs.length c1)/\w4.drew.cell? ⟨gm,j*4+2,none⟩=some (.bool f)/\w4.drew.cell? ⟨gm,j*4+3,none⟩=some (.slice a3 bs.length c3):=⟨Y00.2.2.2.1,q0,q1,q2',q3⟩;have YH:=aa Y;have MH:=aa mmf;have DH:=aa ddf;have P0:=aa p0;have P1:=aa p1;have P3:=aa p3;have HNS:=aa hms2;clear Y Y0 Y00 mmf ddf p0 p1 p3 hm ha hgd hms2;go_wp2_with fail
 refine af.start (S:=fun w'=>w'.cell? ⟨B,3,none⟩=some (.slice (some ⟨gm,0,none⟩) ms.length cmf)/\w'.cell? ⟨gm,j*4,none⟩=some (.slice a0 ss.length c0)/\w'.cell? ⟨gm,j*4+1,none⟩=some (.slice a1 cs.length c1)/\w'.cell? ⟨gm,j*4+2,none⟩=some (.bool f)/\w'.cell? ⟨gm,j*4+3,none⟩=some (.slice a3 bs.length c3)) (k:=10) (by kernel_rfl) ?_
 refine af.t 0 hS ?_
 refine af.t 1 hS ?_
 refine af.t 2 hS ?_
 refine af.t 3 hS ?_
 refine af.t 4 hS ?_
 refine af.t 5 hS ?_
 refine af.t 6 hS ?_
 refine af.t 7 hS ?_
 refine af.one (i:=8) (by kernel_rfl) rfl (fun K hK=>?_)
 go_simp
 refine (kR _ 142 _ _ _ _ _ _ _ _ _ ss cs f bs P0.out.drew P1.out.drew P3.out.drew hwd).mono ?_
 rintro e w6 ⟨u0,u1,u3,rfl,o6,b6'⟩;have b6:Below w4.heap.size w4 w6:=(Below.refl w4.heap.size w4).drew.trans b6';have o6b:(bC 142).Own w6 w4.heap.size w6.heap.size [u0,u1,.bool true,u3] (du (ss,cs,f,bs)):=o6;obtain ⟨d0,l0,f0,d1,l1,f1,d3,l3,f3,hv0,hv1,hv3⟩:=bE o6b;subst hv0 hv1 hv3;obtain ⟨fpx,mx6,rx⟩:=o6b.mine;obtain ⟨cOld,fz,hgm,fm9,hA9,hMv9⟩:=di (m:=j) YH.out MH.out DH.out hrf r1f r2f b6 hj mx6 (fun b hb=>(rx b hb).1);obtain ⟨y0,t0⟩:=cOld 0 (by omega);obtain ⟨y1,t1⟩:=cOld 1 (by omega);obtain ⟨y2,t2⟩:=cOld 2 (by omega);obtain ⟨y3,t3⟩:=cOld 3 (by omega);rw [Nat.add_zero] at t0;have HA:=aa hA9;have HMV:=aa hMv9;have hS2:w6.cell? ⟨B,3,none⟩=some (.slice (some ⟨gm,0,none⟩) ms.length cmf)/\w6.cell? ⟨gm,j*4,none⟩=some (.slice a0 ss.length c0)/\w6.cell? ⟨gm,j*4+1,none⟩=some (.slice a1 cs.length c1)/\w6.cell? ⟨gm,j*4+2,none⟩=some (.bool f)/\w6.cell? ⟨gm,j*4+3,none⟩=some (.slice a3 bs.length c3):=⟨(b6.cell (p:=⟨B,3,none⟩) zB).trans hS.1,(b6.cell (p:=⟨gm,j*4,none⟩) hgl).trans hS.2.1,(b6.cell (p:=⟨gm,j*4+1,none⟩) hgl).trans hS.2.2.1,(b6.cell (p:=⟨gm,j*4+2,none⟩) hgl).trans hS.2.2.2.1,(b6.cell (p:=⟨gm,j*4+3,none⟩) hgl).trans hS.2.2.2.2⟩;have gB:¬gm=B:=fun e=>r1f (e▸hgm);unfold ez at HA HMV;clear o6 o6b b6 b6' mx6 rx cOld hA9 hMv9 YH MH DH P0 P1 P3;go_wp2_with fail
 refine hK.out _ _ (fun _=>hS2) ?_
 clear hK K;refine af.t 9 hS2 ?_
 refine af.one (i:=10) (by kernel_rfl) rfl (fun K hK=>?_)
 go_simp
 refine hK.out _ _ (fun h=>absurd rfl h) ?_
 clear hK K;refine af.done (by kernel_rfl) ?_ _
 clear hS hS2 t0 t1 t2 t3 fz;generalize (((w6.setCell ⟨gm,j*4,none⟩ (.slice d0 l0 f0)).setCell ⟨gm,j*4+1,none⟩ (.slice d1 l1 f1)).setCell ⟨gm,j*4+2,none⟩ (.bool true)).setCell ⟨gm,j*4+3,none⟩ (.slice d3 l3 f3)=w7 at HA HMV ⊢;obtain ⟨ns,hns⟩:∃ns,ms.set j (du (ss,cs,f,bs))=ns:=⟨_,rfl⟩;rw [hns] at HA HFX HFB HW2 HNS;clear hns;have A7:=HA.out;have rm7:∀b∈fm9,W.heap.size<=b:=fun b hb=>by rcases HMV.out.2 b hb with h|h;exact rm2 b h;omega
 have R7:=HMV.out.box R4 (by omega) (fun hm=>by have:=rm2 _ hm;omega);have B7:=B4.trans (HMV.out.belowN (N:=w.heap.size) (by omega) (fun b hb=>by have:=rm2 b hb;omega) (by omega));have z7:=HMV.out.size;clear HA HMV R4 B4 X4 k0 k1 k2 k3 k4 k5 k6 k7 k8 k9 k10 k11 k12 q2;go_wp2_with fail
 refine (oJ _ B x ns ds fm9 fd A7 (j:Int)).mono ?_
 rintro e w8 ⟨rfl,A8,b8⟩;have R8:=R7.kept (b8.block _ R7.lt (by omega));have B8:=Below.andBut B7 b8 (by omega);have z8:=b8.size;rw [sE] at A8;clear A7 R7 B7 b8;generalize bT x (j:Int)=y at A8 HFX HFB;obtain ⟨y0,y1,y2,y4,y5,y6,y7,y8,y10,y11,y12⟩:=y;obtain ⟨vm,vd,cvm,cvd,Yf,mf,df,hrf,r1f,r2f⟩:=A8;have Y0:=Yf;dsimp only [aC] at Y0
 obtain ⟨t0,t1,t2,t3,t4,t5,t6,t7,t8,t9,t10,t11,t12⟩:=Y0.cells13;obtain ⟨s0,s1,s2,s3,s4,s5,s6,s7,s8,s9,s10,s11,s12⟩:=R8.cells13;have fzr:=R8.frozen;cases y12
 case true=>
  have HV:=aa (HVF.out.trans (HFB.out rfl));have HO:=aa (bR (y:=(⟨y0,y1,y2,y4,y5,y6,y7,y8,y10,y11,true⟩:al)) (e:=.returned (.agg (aC (⟨y0,y1,y2,y4,y5,y6,y7,y8,y10,y11,true⟩:al) _ _))) B8 R8 rfl mf df hrf rm7 rd2 (by omega) (by omega));dsimp only [aC,bM] at HO
  clear R8 B8 Yf Y0 mf df HFX HFB HVF;go_wp2
  refine bodyPost_ret (v:=.agg #[.int .i64 y0,.int .i64 y1,.int .i64 y2,.slice vm ns.length cvm,.int .i64 y4,.int .i64 y5,.int .i64 y6,.int .i64 y7,.int .i64 y8,.slice vd ds.length cvd,.int .i64 y10,.bool y11,.bool true]) (by simp [results,Tryz.results24,go_sem,s0,s1,s2,s3,s4,s5,s6,s7,s8,s9,s10,s11,s12]) rfl ?_
  rw [HV.out];exact HO.out
 have HFX2:=aa (HVF.out.trans (HFX.out rfl).symm);have RM:=aa mf.rd;have RD:=aa df.rd;clear Yf Y0 mf df HFX HFB HVF s0 s1 s2 s3 s4 s5 s6 s7 s8 s9 s10 s11 s12 fzr;obtain ⟨z,os,hz⟩:∃z os,jp (⟨y0,y1,y2,y4,y5,y6,y7,y8,y10,y11,false⟩:al) ns ds=(z,os):=⟨_,_,rfl⟩;rw [hz] at HFX2;have HZ:=aa hz;clear hz;have HMK:=aa (oO w8 _ _ _ (⟨y0,y1,y2,y4,y5,y6,y7,y8,y10,y11,false⟩:al) _ _ _ _ _ _ ns ds RM.out RD.out HW2.out);rw [HZ.out] at HMK;dsimp only at HMK
 go_wp2_with fail
 refine HMK.out.mono ?_
 rintro e w9 ⟨gm9,gd9,gcm9,gcd9,rfl,⟨fm10,fd10,mk10,dk10,hr10,rm10,rd10⟩,b9⟩;have R9:=R8.below b9 R8.lt;have B9:=Below.andThen B8 b9;have z9:=b9.size;have zR8:=R8.lt;obtain ⟨s0,s1,s2,s3,s4,s5,s6,s7,s8,s9,s10,s11,s12⟩:=R9.cells13;have fzr:=R9.frozen;have HO:=aa (bR (y:=z) (e:=.returned (.agg (aC z _ _))) B9 R9 rfl mk10 dk10 hr10 (lo:=w8.heap.size) (fun b hb=>(rm10 b hb).1) (fun b hb=>(rd10 b hb).1) (by omega) (by omega));unfold aC at HO;simp only [bM] at HO
 unfold aC;dsimp only
 clear t0 t1 t2 t3 t4 t5 t6 t7 t8 t9 t10 t11 t12 R8 B8 b9 R9 B9 mk10 dk10 HMK;go_wp2
 refine bodyPost_ret (v:=.agg #[.int .i64 z.id,.int .i64 z.n,.int .i64 z.s,.slice gm9 os.length gcm9,.int .i64 z.lost,.int .i64 z.uG,.int .i64 z.seq,.int .i64 z.tail,.int .i64 z.gen,.slice gd9 ds.length gcd9,.int .i64 z.uI,.bool z.down,.bool z.uH]) (by simp [results,Tryz.results24,go_sem,s0,s1,s2,s3,s4,s5,s6,s7,s8,s9,s10,s11,s12]) rfl ?_
 rw [HFX2.out];exact HO.out
theorem kh (w:World) (E F G:TypeId) (x:al) (am ad:Option Addr) (nm cm nd cd:Nat) (ms:List ai) (ds:List (Int×List Int)) (m:Int) (h0:(bk E F).Rd w [.slice am nm cm] ms) (h1:(aU G).Rd w [.slice ad nd cd] ds) (hw:aM ms ds<=2097152):
 Calls Tryz.prog 25 #[.agg #[.int .i64 x.id,.int .i64 x.n,.int .i64 x.s,.slice am nm cm,.int .i64 x.lost,.int .i64 x.uG,.int .i64 x.seq,.int .i64 x.tail,.int .i64 x.gen,.slice ad nd cd,.int .i64 x.uI,.bool x.down,.bool x.uH],.int .i64 m] w fun e w'=>iC w w' e (fU x ms ds m) ds:=by
 obtain ⟨rfl,_⟩:=ae h0;obtain ⟨rfl,_⟩:=ae h1;have hwm:aK ms<=2097152:=by unfold aM at hw;omega
 have hnm:ms.length<=2097152:=by unfold aK at hwm;omega
 have hA:=(ah w (.cells #[.int .i64 x.id,.int .i64 x.n,.int .i64 x.s,.slice am ms.length cm,.int .i64 x.lost,.int .i64 x.uG,.int .i64 x.seq,.int .i64 x.tail,.int .i64 x.gen,.slice ad ds.length cd,.int .i64 x.uI,.bool x.down,.bool x.uH] 29)).alloc (by simp) (.cells #[.int .i64 0,.int .i64 0,.int .i64 0,.slice none 0 0,.int .i64 0,.int .i64 0,.int .i64 0,.int .i64 0,.int .i64 0,.slice none 0 0,.int .i64 0,.bool false,.bool false] 29);have X0:Box ((w.alloc (.cells #[.int .i64 x.id,.int .i64 x.n,.int .i64 x.s,.slice am ms.length cm,.int .i64 x.lost,.int .i64 x.uG,.int .i64 x.seq,.int .i64 x.tail,.int .i64 x.gen,.slice ad ds.length cd,.int .i64 x.uI,.bool x.down,.bool x.uH] 29)).alloc (.cells #[.int .i64 0,.int .i64 0,.int .i64 0,.slice none 0 0,.int .i64 0,.int .i64 0,.int .i64 0,.int .i64 0,.int .i64 0,.slice none 0 0,.int .i64 0,.bool false,.bool false] 29)) w.heap.size 29 #[.int .i64 x.id,.int .i64 x.n,.int .i64 x.s,.slice am ms.length cm,.int .i64 x.lost,.int .i64 x.uG,.int .i64 x.seq,.int .i64 x.tail,.int .i64 x.gen,.slice ad ds.length cd,.int .i64 x.uI,.bool x.down,.bool x.uH]:=(Box.new w _ _).alloc _;have R0:=Box.new (w.alloc (.cells #[.int .i64 x.id,.int .i64 x.n,.int .i64 x.s,.slice am ms.length cm,.int .i64 x.lost,.int .i64 x.uG,.int .i64 x.seq,.int .i64 x.tail,.int .i64 x.gen,.slice ad ds.length cd,.int .i64 x.uI,.bool x.down,.bool x.uH] 29)) 29 #[.int .i64 0,.int .i64 0,.int .i64 0,.slice none 0 0,.int .i64 0,.int .i64 0,.int .i64 0,.int .i64 0,.int .i64 0,.slice none 0 0,.int .i64 0,.bool false,.bool false];rw [World.size_alloc] at R0;have zX:=X0.lt;have zR:=R0.lt;have r0:=h0.below hA;have r1:=h1.below hA;obtain ⟨k0,k1,k2,k3,k4,k5,k6,k7,k8,k9,k10,k11,k12⟩:=X0.cells13;go_enter Tryz.func25,Tryz.ntmps25
 go_wp2_with fail
 generalize (w.alloc (.cells #[.int .i64 x.id,.int .i64 x.n,.int .i64 x.s,.slice am ms.length cm,.int .i64 x.lost,.int .i64 x.uG,.int .i64 x.seq,.int .i64 x.tail,.int .i64 x.gen,.slice ad ds.length cd,.int .i64 x.uI,.bool x.down,.bool x.uH] 29)).alloc (.cells #[.int .i64 0,.int .i64 0,.int .i64 0,.slice none 0 0,.int .i64 0,.int .i64 0,.int .i64 0,.int .i64 0,.int .i64 0,.slice none 0 0,.int .i64 0,.bool false,.bool false] 29)=W at hA X0 R0 zX zR r0 r1 k0 k1 k2 k3 k4 k5 k6 k7 k8 k9 k10 k11 k12 ⊢;refine (mu _ E F G x _ _ _ _ _ _ ms ds r0 r1 hw).mono ?_
 rintro e w1 ⟨bm,cm1,bd,cd1,mx,rfl,om,od,zm,zm2,b1⟩;have bn:=ah w1 (.cells #[.int .i64 x.id,.int .i64 x.n,.int .i64 x.s,.slice bm ms.length cm1,.int .i64 x.lost,.int .i64 x.uG,.int .i64 x.seq,.int .i64 x.tail,.int .i64 x.gen,.slice bd ds.length cd1,.int .i64 x.uI,.bool x.down,.bool x.uH] 29);have b12:Below W.heap.size W (w1.alloc (.cells #[.int .i64 x.id,.int .i64 x.n,.int .i64 x.s,.slice bm ms.length cm1,.int .i64 x.lost,.int .i64 x.uG,.int .i64 x.seq,.int .i64 x.tail,.int .i64 x.gen,.slice bd ds.length cd1,.int .i64 x.uI,.bool x.down,.bool x.uH] 29)):=Below.andThen b1 bn;have Y:=Box.new w1 29 #[.int .i64 x.id,.int .i64 x.n,.int .i64 x.s,.slice bm ms.length cm1,.int .i64 x.lost,.int .i64 x.uG,.int .i64 x.seq,.int .i64 x.tail,.int .i64 x.gen,.slice bd ds.length cd1,.int .i64 x.uI,.bool x.down,.bool x.uH];have zY:=Y.lt;have z1:=b1.size;obtain ⟨fm,mm,rm⟩:=(om.below bn).mine;obtain ⟨fd,md,rd⟩:=(od.below bn).mine;have A2:aD (w1.alloc (.cells #[.int .i64 x.id,.int .i64 x.n,.int .i64 x.s,.slice bm ms.length cm1,.int .i64 x.lost,.int .i64 x.uG,.int .i64 x.seq,.int .i64 x.tail,.int .i64 x.gen,.slice bd ds.length cd1,.int .i64 x.uI,.bool x.down,.bool x.uH] 29)) w1.heap.size x ms ds fm fd:=⟨bm,bd,cm1,cd1,Y,mm,md,fun b hb hb'=>by have h1:=rm b hb;have h2:=rd b hb';omega,fun hm=>by have:=rm _ hm;omega,fun hm=>by have:=rd _ hm;omega⟩;have X2:=X0.below b12 zX;have R2:=R0.below b12 zR;have p0:=r0.below b12;have p1:=r1.below b12;have B2:=Below.andThen hA b12;have rm2:∀b∈fm,W.heap.size<=b:=fun b hb=>by have:=rm b hb;omega
 have rd2:∀b∈fd,W.heap.size<=b:=fun b hb=>by have:=rd b hb;omega
 clear k0 k1 k2 k3 k4 k5 k6 k7 k8 k9 k10 k11 k12 X0 R0 r0 r1 om od b1 bn b12 Y mm rm md rd hA;obtain ⟨k0,k1,k2,k3,k4,k5,k6,k7,k8,k9,k10,k11,k12⟩:=X2.cells13;go_wp2_with fail
 generalize w1.alloc (.cells #[.int .i64 x.id,.int .i64 x.n,.int .i64 x.s,.slice bm ms.length cm1,.int .i64 x.lost,.int .i64 x.uG,.int .i64 x.seq,.int .i64 x.tail,.int .i64 x.gen,.slice bd ds.length cd1,.int .i64 x.uI,.bool x.down,.bool x.uH] 29)=w2 at A2 X2 R2 p0 p1 B2 zY k0 k1 k2 k3 k4 k5 k6 k7 k8 k9 k10 k11 k12 ⊢;obtain ⟨B,hB⟩:∃B,w1.heap.size=B:=⟨_,rfl⟩;rw [hB] at A2 zY z1 ⊢;clear hB;refine (eP _ E F G x _ _ _ _ _ _ ms ds p0 p1 hw).mono ?_
 rintro e w3 ⟨rfl,b3⟩;have A3:=A2.below b3;have X3:=X2.below b3 X2.lt;have R3:=R2.below b3 R2.lt;have B3:=Below.andThen B2 b3;have q3:=p0.below b3;have z3:=b3.size;clear k0 k1 k2 k3 k4 k5 k6 k7 k8 k9 k10 k11 k12 A2 X2 R2 p0 p1 B2 b3;obtain ⟨k0,k1,k2,k3,k4,k5,k6,k7,k8,k9,k10,k11,k12⟩:=X3.cells13;cases ha:aX x ms ds
 . have HV:Hid (fU x ms ds m=(x,ms)):=il (by unfold fS;rw [ha];rfl)
   obtain ⟨vm,vd,cvm,cvd,Yf,mf,df,hrf,r1f,r2f⟩:=A3;have Y0:=Yf;unfold aC at Y0;obtain ⟨t0,t1,t2,t3,t4,t5,t6,t7,t8,t9,t10,t11,t12⟩:=Y0.cells13;obtain ⟨s0,s1,s2,s3,s4,s5,s6,s7,s8,s9,s10,s11,s12⟩:=R3.cells13;have fzr:=R3.frozen;have HO:=aa (bR (y:=x) (e:=.returned (.agg (aC x _ _))) B3 R3 rfl mf df hrf rm2 rd2 (by omega) (by omega));unfold aC at HO;simp only [bM] at HO
   clear X3 R3 B3 Yf Y0 mf df;go_wp2
   refine bodyPost_ret (v:=.agg #[.int .i64 x.id,.int .i64 x.n,.int .i64 x.s,.slice vm ms.length cvm,.int .i64 x.lost,.int .i64 x.uG,.int .i64 x.seq,.int .i64 x.tail,.int .i64 x.gen,.slice vd ds.length cvd,.int .i64 x.uI,.bool x.down,.bool x.uH]) (by simp [results,Tryz.results25,go_sem,s0,s1,s2,s3,s4,s5,s6,s7,s8,s9,s10,s11,s12]) rfl ?_
   rw [HV.out];exact HO.out
 obtain ⟨fc,mk,gc0,gc1⟩:=eL ha;have hw1:IntKind.i64.wrap ((ms.length:Int)-1)=(ms.length:Int)-1:=IntWalk.i64_in _ (by omega);go_wp2_with fail
 refine (aB _ _ _ _).mono ?_
 rintro e wq ⟨rfl,hq⟩;obtain rfl:=hq.symm;cases hm:inB m 0 ((ms.length:Int)-1)
 . have HV:Hid (fU x ms ds m=(x,ms)):=il (by unfold fS;rw [ha,hm];rfl)
   obtain ⟨vm,vd,cvm,cvd,Yf,mf,df,hrf,r1f,r2f⟩:=A3;have Y0:=Yf;unfold aC at Y0;obtain ⟨t0,t1,t2,t3,t4,t5,t6,t7,t8,t9,t10,t11,t12⟩:=Y0.cells13;obtain ⟨s0,s1,s2,s3,s4,s5,s6,s7,s8,s9,s10,s11,s12⟩:=R3.cells13;have fzr:=R3.frozen;have HO:=aa (bR (y:=x) (e:=.returned (.agg (aC x _ _))) B3 R3 rfl mf df hrf rm2 rd2 (by omega) (by omega));unfold aC at HO;simp only [bM] at HO
   clear X3 R3 B3 Yf Y0 mf df;go_wp2
   refine bodyPost_ret (v:=.agg #[.int .i64 x.id,.int .i64 x.n,.int .i64 x.s,.slice vm ms.length cvm,.int .i64 x.lost,.int .i64 x.uG,.int .i64 x.seq,.int .i64 x.tail,.int .i64 x.gen,.slice vd ds.length cvd,.int .i64 x.uI,.bool x.down,.bool x.uH]) (by simp [results,Tryz.results25,go_sem,s0,s1,s2,s3,s4,s5,s6,s7,s8,s9,s10,s11,s12]) rfl ?_
   rw [HV.out];exact HO.out
 obtain ⟨m1,m2⟩:=aG.1 hm;obtain ⟨j,rfl⟩:=Int.eq_ofNat_of_zero_le m1;have hj:j<ms.length:=by omega
 have i1:(0:Int)<=(j:Int):=by omega
 have i3:(j:Int)<(ms.length:Int):=by omega
 obtain ⟨d,hdj⟩:∃d,ms[j]?=some d:=⟨_,List.getElem?_eq_getElem hj⟩;have hgd:ms.getD j ew=d:=dr hdj;rcases cF rfl q3 with h0'|⟨b,off,rfl,hbl,hcs⟩
 . omega
 obtain ⟨v0,v1,v2,v3,q0,q1,q2,q3',hrv⟩:=hcs j d hdj;obtain ⟨a0,c0,a1,c1,a3,c3,ss,cs,f,bs,hde,rfl,rfl,rfl,rfl,p0,p1,p3⟩:=dP hrv;have hf2:f=d.2.2.1:=by rw [hde]
 rw [hf2] at q2;clear p0 p1 p3 hcs hrv q0 q1 q3' hde hf2 k0 k1 k2 k3 k4 k5 k6 k7 k8 k9 k10 k11 k12;clear a0 c0 a1 c1 a3 c3 ss cs f bs;obtain ⟨k0,k1,k2,k3,k4,k5,k6,k7,k8,k9,k10,k11,k12⟩:=X3.cells13;cases hff:d.2.2.1
 case true=>
  rw [hff] at q2;have HV:Hid (fU x ms ds (j:Int)=(x,ms)):=il (by unfold fS;rw [Int.toNat_natCast,hgd,hff];simp);clear hff;obtain ⟨vm,vd,cvm,cvd,Yf,mf,df,hrf,r1f,r2f⟩:=A3;have Y0:=Yf;unfold aC at Y0;obtain ⟨t0,t1,t2,t3,t4,t5,t6,t7,t8,t9,t10,t11,t12⟩:=Y0.cells13;obtain ⟨s0,s1,s2,s3,s4,s5,s6,s7,s8,s9,s10,s11,s12⟩:=R3.cells13;have fzr:=R3.frozen;have HO:=aa (bR (y:=x) (e:=.returned (.agg (aC x _ _))) B3 R3 rfl mf df hrf rm2 rd2 (by omega) (by omega));unfold aC at HO;simp only [bM] at HO
  clear X3 R3 B3 Yf Y0 mf df;go_wp2
  refine bodyPost_ret (v:=.agg #[.int .i64 x.id,.int .i64 x.n,.int .i64 x.s,.slice vm ms.length cvm,.int .i64 x.lost,.int .i64 x.uG,.int .i64 x.seq,.int .i64 x.tail,.int .i64 x.gen,.slice vd ds.length cvd,.int .i64 x.uI,.bool x.down,.bool x.uH]) (by simp [results,Tryz.results25,go_sem,s0,s1,s2,s3,s4,s5,s6,s7,s8,s9,s10,s11,s12]) rfl ?_
  rw [HV.out];exact HO.out
 rw [hff] at q2;have HB:Hid (fS x ms ds (j:Int)=true):=by unfold Hid fS;rw [ha,hm,Int.toNat_natCast,hgd,hff];rfl
 clear hff;have HV:Hid (fU x ms ds (j:Int)=dv (x,ms) j):=oI HB.out;clear hm ha hgd;go_wp2_with fail
 refine (kI _ B x ms ds fm fd A3 fc mk gc0 gc1 j hj).mono ?_
 rintro e w4 ⟨rfl,fm4,A4,M4⟩;have rm4:∀b∈fm4,W.heap.size<=b:=fun b hb=>by rcases M4.2 b hb with h|h;exact rm2 b h;omega
 have R4:=M4.box R3 (by omega) (fun hm=>by have:=rm2 _ hm;omega);have B4:=B3.trans (M4.belowN (N:=w.heap.size) (by omega) (fun b hb=>by have:=rm2 b hb;omega) (by omega));have z4:=M4.size;clear k0 k1 k2 k3 k4 k5 k6 k7 k8 k9 k10 k11 k12 A3 X3 R3 B3 M4 q2;generalize dv (x,ms) j=st at A4 HV;obtain ⟨y,ns⟩:=st;dsimp only at A4
 obtain ⟨vm,vd,cvm,cvd,Yf,mf,df,hrf,r1f,r2f⟩:=A4;have Y0:=Yf;unfold aC at Y0;obtain ⟨t0,t1,t2,t3,t4,t5,t6,t7,t8,t9,t10,t11,t12⟩:=Y0.cells13;obtain ⟨s0,s1,s2,s3,s4,s5,s6,s7,s8,s9,s10,s11,s12⟩:=R4.cells13;have fzr:=R4.frozen;have HO:=aa (bR (y:=y) (e:=.returned (.agg (aC y _ _))) B4 R4 rfl mf df hrf rm4 rd2 (by omega) (by omega));unfold aC at HO;simp only [bM] at HO
 clear R4 B4 Yf Y0 mf df;go_wp2
 refine bodyPost_ret (v:=.agg #[.int .i64 y.id,.int .i64 y.n,.int .i64 y.s,.slice vm ns.length cvm,.int .i64 y.lost,.int .i64 y.uG,.int .i64 y.seq,.int .i64 y.tail,.int .i64 y.gen,.slice vd ds.length cvd,.int .i64 y.uI,.bool y.down,.bool y.uH]) (by simp [results,Tryz.results25,go_sem,s0,s1,s2,s3,s4,s5,s6,s7,s8,s9,s10,s11,s12]) rfl ?_
 rw [HV.out];exact HO.out
end Go.Proofs.YtejokiafgbjdaaaGreat

/-
 The walk of the specification's SpoilSec: one sector more that can't be read, among the others, in memory of its own; else the disk as it was. Condition: the disk weighs at most 2097152.
-/
import Derived.Test.YtgjomldcnjjpaaaGreatRowArrsSq11
import Derived.Test.YtgjomldcnjjpaaaGreatRowArrsSq19
import Derived.Test.YtgjomldcnjjpaaaGreatRowArrsSq3
import Derived.Test.YtgjomldcnjjpaaaGreatRowArrsSq5

set_option maxRecDepth 100000
set_option maxHeartbeats 8000000
set_option linter.unusedSimpArgs false

namespace Go.Proofs.YtgjomldcnjjpaaaGreat
open Go.RowKit

def lM (ss:List (List Int)) (cs:List (Int×List Int)) (bs:List Int) (n:Int):Bool:=bF ss cs bs&&(inB n 0 ((ss.length:Int)-1)&&!inL bs n)
def lN (bs:List Int) (n:Int):List Int:=bs.take (bs.filter fun x=>decide (x<=n)).length++n :: bs.drop (bs.filter fun x=>decide (x<=n)).length
def jh (ss:List (List Int)) (cs:List (Int×List Int)) (bs:List Int) (n:Int):List Int:=if lM ss cs bs n=true then lN bs n else bs
theorem tm {bs:List Int} {n:Int} {k:Nat} (h1:∀x∈bs.take k,x<=n) (h2:∀x∈bs.drop k,n<x) (hk:k<=bs.length):lN bs n=bs.take k++n :: bs.drop k:=by
 have e:(bs.filter fun x=>decide (x<=n)).length=k:=by
  have h3:(bs.take k++bs.drop k).filter (fun x=>decide (x<=n))=bs.take k:=by
   rw [List.filter_append,List.filter_eq_self.2 (fun x hx=>by simp [h1 x hx]),List.filter_eq_nil_iff.2 (fun x hx=>by have:=h2 x hx;simp;omega),List.append_nil]
  rw [List.take_append_drop] at h3;rw [h3,List.length_take];omega
 unfold lN;rw [e]
theorem vZ {ss:List (List Int)} {cs:List (Int×List Int)} {bs:List Int} (h:bF ss cs bs=true):∀i,i+1<bs.length->bs.getD i 0<bs.getD (i+1) 0:=by
 unfold bF at h;simp only [Bool.and_eq_true] at h
 have h1:=h.2.2.1;unfold iJ at h1;rw [List.all_eq_true] at h1;intro i hi;have h2:=h1 (i+1) (List.mem_range.2 hi);unfold dV at h2;simp at h2
 have h3:=h2.2;rw [List.getD_eq_getElem?_getD,List.getD_eq_getElem?_getD];exact h3
theorem xJ {bs:List Int} {n:Int} {k:Nat} (ha:∀i,i+1<bs.length->bs.getD i 0<bs.getD (i+1) 0) (hk:k<=bs.length) (h:k=0∨bs.getD (k-1) 0<=n):∀x∈bs.take k,x<=n:=by
 intro x hx;obtain ⟨i,hi⟩:=List.mem_iff_getElem?.1 hx;rw [List.getElem?_take] at hi;by_cases hik:i<k
 . rw [if_pos hik] at hi
   have hd:bs.getD i 0=x:=by rw [List.getD_eq_getElem?_getD,hi];rfl
   rcases h with h|h
   . omega
   have mono:∀d,i+d<k->bs.getD i 0<=bs.getD (i+d) 0:=by
    intro d;induction d with
    | zero=>intro _;exact Int.le_refl _
    | succ d ih=>
     intro hd';have h1:=ih (by omega);have h2:=ha (i+d) (by omega);have e:i+d+1=i+(d+1):=by omega
     rw [e] at h2;omega
   have h3:=mono (k-1-i) (by omega);have e:i+(k-1-i)=k-1:=by omega
   rw [e,hd] at h3;omega
 rw [if_neg hik] at hi;simp at hi
theorem iD (w:World) (E:TypeId) (a0 a1 a3:Option Addr) (n0 c0 n1 c1 n3 c3:Nat) (ss:List (List Int)) (cs:List (Int×List Int)) (f:Bool) (bs:List Int) (n:Int) (h0:aU.Rd w [.slice a0 n0 c0] ss) (h1:(aW E).Rd w [.slice a1 n1 c1] cs) (h3:aD.Rd w [.slice a3 n3 c3] bs) (hw:aM (ss,cs,f,bs)<=2097152):
 Calls Tryz.prog 118 #[.agg #[.slice a0 n0 c0,.slice a1 n1 c1,.bool f,.slice a3 n3 c3],.int .i64 n] w fun e w'=>∃v0 v1 v3,e=.returned (.agg #[v0,v1,.bool f,v3])/\(cu 119).Own w' w.heap.size w'.heap.size [v0,v1,.bool f,v3] (ss,cs,f,jh ss cs bs n)/\Below w.heap.size w w':=by
 obtain ⟨hl0,_,hm0⟩:=ag h0;obtain ⟨hl1,_,hm1⟩:=ag h1;obtain ⟨hl3,_,hm3⟩:=ag h3;have hw3:n3<=2097152:=by unfold aM at hw;simp only at hw;omega
 have hA:Below w.heap.size w ((w.alloc (.cells #[.slice a0 n0 c0,.slice a1 n1 c1,.bool f,.slice a3 n3 c3] 55)).alloc (.cells #[.slice none 0 0,.slice none 0 0,.bool false,.slice none 0 0] 55)):=((Below.refl _ _).alloc (Nat.le_refl _) _).alloc (by simp) _;have xm:Box ((w.alloc (.cells #[.slice a0 n0 c0,.slice a1 n1 c1,.bool f,.slice a3 n3 c3] 55)).alloc (.cells #[.slice none 0 0,.slice none 0 0,.bool false,.slice none 0 0] 55)) w.heap.size 55 #[.slice a0 n0 c0,.slice a1 n1 c1,.bool f,.slice a3 n3 c3]:=(Box.new w _ _).alloc _;have xr:Box ((w.alloc (.cells #[.slice a0 n0 c0,.slice a1 n1 c1,.bool f,.slice a3 n3 c3] 55)).alloc (.cells #[.slice none 0 0,.slice none 0 0,.bool false,.slice none 0 0] 55)) (w.heap.size+1) 55 #[.slice none 0 0,.slice none 0 0,.bool false,.slice none 0 0]:=by
  have:=Box.new (w.alloc (.cells #[.slice a0 n0 c0,.slice a1 n1 c1,.bool f,.slice a3 n3 c3] 55)) 55 #[.slice none 0 0,.slice none 0 0,.bool false,.slice none 0 0];rw [show (w.alloc (.cells #[.slice a0 n0 c0,.slice a1 n1 c1,.bool f,.slice a3 n3 c3] 55)).heap.size=w.heap.size+1 by simp] at this;exact this
 go_enter Tryz.func118,Tryz.ntmps118
 go_wp2_with fail
 generalize hW:(w.alloc (.cells #[.slice a0 n0 c0,.slice a1 n1 c1,.bool f,.slice a3 n3 c3] 55)).alloc (.cells #[.slice none 0 0,.slice none 0 0,.bool false,.slice none 0 0] 55)=W at hA xm xr ⊢;clear hW;have zr:=xr.lt;have B0:=aa hA;clear hA;have XM0:=aa xm;clear xm;have XR0:=aa xr;clear xr;refine (fE _ E _ _ _ _ _ _ _ _ _ ss cs f bs (h0.below B0.out) (h1.below B0.out) (h3.below B0.out) hw).mono ?_
 intro e w1 hc;obtain ⟨b0,b1,b3,e0,e1,e3,m1,m2,rfl,o3,o0,o1,r1,r2,r3,hb1⟩:=de hl0 hl1 hl3 hc;clear hc;have B1:=aa (Below.andThen B0.out hb1);have XM1:=aa (XM0.out.below hb1 (by omega));have XR1:=aa (XR0.out.below hb1 (by omega));have z1:=hb1.size;clear B0 XM0 XR0 hb1;have S1:=aa o0;clear o0;have C1:=aa o1;clear o1;have D1:=aa o3;clear o3;have ba:Below w1.heap.size w1 (w1.alloc (.cells #[.slice b0 n0 e0,.slice b1 n1 e1,.bool f,.slice b3 n3 e3] 55)):=(Below.refl _ _).alloc (Nat.le_refl _) _;have yo:=Box.new w1 55 #[.slice b0 n0 e0,.slice b1 n1 e1,.bool f,.slice b3 n3 e3];have zo:=yo.lt;have B2:=aa (Below.andThen B1.out ba);have XM2:=aa (XM1.out.below ba (by omega));have XR2:=aa (XR1.out.below ba (by omega));have S2:=aa (S1.out.below ba);have C2:=aa (C1.out.below ba);have D2:=aa (D1.out.below ba);have z2:=ba.size;clear B1 XM1 XR1 S1 C1 D1 ba;have XO2:=aa yo;clear yo;have sW:w.heap.size+1<W.heap.size:=zr;obtain ⟨q0,q1,q2,q3⟩:=XM2.out.cells4;go_wp2_with fail
 generalize w1.alloc (.cells #[.slice b0 n0 e0,.slice b1 n1 e1,.bool f,.slice b3 n3 e3] 55)=w2 at B2 XM2 XR2 S2 C2 D2 XO2 z2 zo q0 q1 q2 q3 ⊢;refine (bw _ E _ _ _ _ _ _ _ _ _ ss cs f bs (h0.below B2.out) (h1.below B2.out) (h3.below B2.out) hw).mono ?_
 rintro e w3 ⟨rfl,hb3⟩;clear q0 q1 q2 q3;have B3:=aa (Below.andThen B2.out hb3);have XM3:=aa (XM2.out.below hb3 (by omega));have XR3:=aa (XR2.out.below hb3 (by omega));have S3:=aa (S2.out.below hb3);have C3:=aa (C2.out.below hb3);have D3:=aa (D2.out.below hb3);have XO3:=aa (XO2.out.below hb3 (by omega));have z3:=hb3.size;clear B2 XM2 XR2 S2 C2 D2 XO2 hb3;cases hM:bF ss cs bs
 . have HK:Hid (jh ss cs bs n=bs):=by
    have hk:lM ss cs bs n=false:=by unfold lM;simp [hM]
    unfold Hid jh;rw [hk];rfl
   obtain ⟨q0,q1,q2,q3⟩:=XM3.out.cells4;obtain ⟨x0,x1,x2,x3⟩:=XO3.out.cells4;obtain ⟨p0,p1,p2,p3⟩:=XR3.out.cells4;have fz:=XR3.out.frozen;have FIN:=aa (eh (f:=f) B3.out D3.out S3.out C3.out r2 r1 r3 (by omega) sW (by omega));clear B3 XM3 XR3 S3 C3 D3 XO3;go_wp2
   refine bodyPost_ret (v:=.agg #[.slice b0 n0 e0,.slice b1 n1 e1,.bool f,.slice b3 n3 e3]) (by simp [results,Tryz.results118,go_sem,p0,p1,p2,p3]) rfl ?_
   exact ⟨_,_,_,rfl,by rw [HK.out];exact FIN.out.1,FIN.out.2⟩
 obtain ⟨q0,q1,q2,q3⟩:=XM3.out.cells4;have gw:IntKind.i64.wrap ((n0:Int)-1)=(n0:Int)-1:=IntWalk.i64_in _ (by omega);go_wp2_with fail
 refine (aE _ _ _ _).mono ?_
 rintro e w4 ⟨rfl,hw4⟩;have hs4:aP w3 w4:=by rw [hw4];exact aP.refl _
 clear hw4 gw;clear q0 q1 q2 q3;have B4:=aa (Below.andSame B3.out hs4);have XM4:=aa (XM3.out.same hs4);have XR4:=aa (XR3.out.same hs4);have S4:=aa (S3.out.same hs4);have C4:=aa (C3.out.same hs4);have D4:=aa (D3.out.same hs4);have XO4:=aa (XO3.out.same hs4);have z4:=Nat.le_of_eq hs4.size.symm;clear B3 XM3 XR3 S3 C3 D3 XO3 hs4;cases hI:inB n 0 ((n0:Int)-1)
 . have hI2:inB n 0 ((ss.length:Int)-1)=false:=by rw [hl0];exact hI
   have HK:Hid (jh ss cs bs n=bs):=by
    have hk:lM ss cs bs n=false:=by unfold lM;simp [hI2]
    unfold Hid jh;rw [hk];rfl
   obtain ⟨q0,q1,q2,q3⟩:=XM4.out.cells4;obtain ⟨x0,x1,x2,x3⟩:=XO4.out.cells4;obtain ⟨p0,p1,p2,p3⟩:=XR4.out.cells4;have fz:=XR4.out.frozen;have FIN:=aa (eh (f:=f) B4.out D4.out S4.out C4.out r2 r1 r3 (by omega) sW (by omega));clear B4 XM4 XR4 S4 C4 D4 XO4;go_wp2
   refine bodyPost_ret (v:=.agg #[.slice b0 n0 e0,.slice b1 n1 e1,.bool f,.slice b3 n3 e3]) (by simp [results,Tryz.results118,go_sem,p0,p1,p2,p3]) rfl ?_
   exact ⟨_,_,_,rfl,by rw [HK.out];exact FIN.out.1,FIN.out.2⟩
 obtain ⟨q0,q1,q2,q3⟩:=XM4.out.cells4;go_wp2_with fail
 refine (lD _ _ _ _ bs _ hl3 (aR (h3.below B4.out)).1 hw3).mono ?_
 rintro e w5 ⟨rfl,hs5⟩;clear q0 q1 q2 q3;have B5:=aa (Below.andSame B4.out hs5);have XM5:=aa (XM4.out.same hs5);have XR5:=aa (XR4.out.same hs5);have S5:=aa (S4.out.same hs5);have C5:=aa (C4.out.same hs5);have D5:=aa (D4.out.same hs5);have XO5:=aa (XO4.out.same hs5);have z5:=Nat.le_of_eq hs5.size.symm;clear B4 XM4 XR4 S4 C4 D4 XO4 hs5;cases hH:inL bs n;rotate_left
 . skip
   have HK:Hid (jh ss cs bs n=bs):=by
    have hk:lM ss cs bs n=false:=by unfold lM;simp [hH]
    unfold Hid jh;rw [hk];rfl
   obtain ⟨q0,q1,q2,q3⟩:=XM5.out.cells4;obtain ⟨x0,x1,x2,x3⟩:=XO5.out.cells4;obtain ⟨p0,p1,p2,p3⟩:=XR5.out.cells4;have fz:=XR5.out.frozen;have FIN:=aa (eh (f:=f) B5.out D5.out S5.out C5.out r2 r1 r3 (by omega) sW (by omega));clear B5 XM5 XR5 S5 C5 D5 XO5;go_wp2
   refine bodyPost_ret (v:=.agg #[.slice b0 n0 e0,.slice b1 n1 e1,.bool f,.slice b3 n3 e3]) (by simp [results,Tryz.results118,go_sem,p0,p1,p2,p3]) rfl ?_
   exact ⟨_,_,_,rfl,by rw [HK.out];exact FIN.out.1,FIN.out.2⟩
 have HK:Hid (jh ss cs bs n=lN bs n):=by
  have hk:lM ss cs bs n=true:=by unfold lM;rw [hM,hl0,hI,hH];rfl
  unfold Hid jh;rw [hk];rfl
 clear hH;obtain ⟨i3,hi3,hy0,hy1,hy2⟩:=info_parts Tryz.info3;obtain ⟨fpD,mD,rD⟩:=D5.out.mine;have MA:=aa (mD.alloc (.cells #[.int .i64 n] 3));have RD:=aa rD;clear mD rD;have LI:Hid (eT.Mine (w5.alloc (.cells #[.int .i64 n] 3)) [.int .i64 n] n []):=⟨⟨rfl,rfl⟩,by simp⟩;have NN:=aa (bN w5 #[.int .i64 n] 3);have ZA:Hid ((w5.alloc (.cells #[.int .i64 n] 3)).heap.size=w5.heap.size+1):=by unfold Hid;simp
 have BA:Hid (Below w5.heap.size w5 (w5.alloc (.cells #[.int .i64 n] 3))):=(Below.refl _ _).alloc (Nat.le_refl _) _;have L1:Hid (bs.length+1<=maxLen):=by unfold Hid maxLen;omega
 have L2:Hid ((bs.length+1)*8<=140737488355328):=by unfold Hid;omega
 obtain ⟨x0,x1,x2,x3⟩:=XO5.out.cells4;obtain ⟨q0,q1,q2,q3⟩:=XM5.out.cells4;go_wp2_with (at_builtin;refine cO eT rfl (.tmp 29) (.tmp 31) 42 rfl 3 i3 (.int .i64 0) 8 Tryz.underlying42 hi3 hy0 hy1 hy2 rfl Nat.zero_lt_one (.slice b3 n3 e3) bs fpD rfl ?_ ⟨w5.heap.size,0,none⟩ 1 [.int .i64 n] n [] rfl ?_ ?_ ?_ ?_ ?_ ?_ ?_;exact MA.out;exact LI.out;simp;exact NN.out;(intro u hu;simp at hu;rw [hu];rfl);exact L1.out;exact L2.out;intro v2 w6 fpA m1' m2' m3';obtain ⟨a6,c6,hv6⟩:=aC m1'.rd;rw [List.length_append,List.length_cons,List.length_nil,hl3] at hv6;subst hv6;have y6:Box w6 w1.heap.size 55 _:=(XO5.out.alloc _).turned m3' (fun hm=>by have:=RD.out _ hm;omega);obtain ⟨t0,t1,t2,t3⟩:=y6.cells4;have fz:=y6.frozen 3;have Y6:=aa y6;have M1:=aa m1';have M2:=aa m2';have M3:=aa m3';clear y6 m1' m2' m3')
 have ha:But W.heap.size m1 w5 w6:=(But.of_below BA.out).trans (M3.out.but (fun b hb=>RD.out b hb));have zA:=ZA.out;have zT:=M3.out.size;obtain ⟨g,hga,rfl,hfg⟩:∃g,(g∈fpA)/\a6=some ⟨g,0,none⟩/\fpA=[g]:=by
  rcases np M1.out.1 with ⟨hv,_,_⟩|⟨g,cap,hv,hf,_⟩
  . simp at hv
  simp only [Value.slice.injEq] at hv
  exact ⟨g,by rw [hf];simp,hv.1,hf⟩
 have hgr:W.heap.size<=g/\g<w6.heap.size/\(g<m1∨w1.heap.size<g):=by
  have h1:=M1.out.lt g hga;rcases M2.out g hga with h|h|h
  . have:=RD.out g h
    omega
  . simp at h
  have:=h.1;omega
 have gO:w1.heap.size≠g:=by omega
 have mZ:=M1.out.setCell (g:=w1.heap.size) (j:=3) (fun hm=>by rw [hfg] at hm;simp at hm;omega) (.slice (some ⟨g,0,none⟩) (n3+1) c6);have yZ:=Y6.out.set 3 (.slice (some ⟨g,0,none⟩) (n3+1) c6);have hb7:But w1.heap.size (w1.heap.size+1) w6 (w6.setCell ⟨w1.heap.size,3,none⟩ (.slice (some ⟨g,0,none⟩) (n3+1) c6)):=But.setCell (Nat.le_refl _) (Nat.lt_succ_self _) _;clear XO5;clear D5;clear q0 q1 q2 q3 x0 x1 x2 x3;have B6:=aa (Below.andBut B5.out ha (by omega));have XM6:=aa (XM5.out.kept (ha.block _ (by omega) (by omega)));have XR6:=aa (XR5.out.kept (ha.block _ (by omega) (by omega)));have S6:=aa (S5.out.but ha (by omega));have C6:=aa (C5.out.but ha (by omega));have z6:=ha.size;clear B5 XM5 XR5 S5 C5 ha;have B7:=aa (Below.andBut B6.out hb7 (by omega));have XM7:=aa (XM6.out.kept (hb7.block _ (by omega) (by omega)));have XR7:=aa (XR6.out.kept (hb7.block _ (by omega) (by omega)));have S7:=aa (S6.out.but hb7 (by omega));have C7:=aa (C6.out.but hb7 (by omega));have z7:=hb7.size;clear B6 XM6 XR6 S6 C6 hb7;have YZ:=aa yZ;have MZ:=aa mZ;clear mZ yZ M1 M2 M3 Y6 MA LI NN BA L1 L2 RD t0 t1 t2 t3 fz ZA;generalize (w6.setCell ⟨w1.heap.size,3,none⟩ (.slice (some ⟨g,0,none⟩) (n3+1) c6))=w7 at B7 XM7 XR7 S7 C7 z7 YZ MZ ⊢;have XO7:Hid (Box w7 w1.heap.size 55 #[.slice b0 n0 e0,.slice b1 n1 e1,.bool f,.slice (some ⟨g,0,none⟩) (n3+1) c6]):=YZ.out;clear YZ;have OW:Hid (Own .i64 3 w7 g (g+1) (.slice (some ⟨g,0,none⟩) (n3+1) c6) (bs++[n])):=by
  rcases np MZ.out.1 with ⟨hv,_,_⟩|⟨g',cap,hv,hf,ho⟩
  . simp at hv
  simp only [Value.slice.injEq,Option.some.injEq,Addr.mk.injEq,and_true] at hv
  obtain ⟨rfl,_,rfl⟩:=hv;exact ho
 have hcap:n3+1<=c6:=(ag MZ.out.rd).2.1;have hcm:c6<=9223372036854775807:=(ag MZ.out.rd).2.2;clear MZ;have hg7:g<w7.heap.size:=by omega
 have hasc:=vZ hM;have HASC:=aa hasc;clear hasc;go_loopw [6] (fun kv wr=>∃(k:Nat) (L:List Int),k<=n3/\kv=.int .i64 k/\Own .i64 3 wr g (g+1) (.slice (some ⟨g,0,none⟩) (n3+1) c6) L/\L.take k=bs.take k/\L.drop (k+1)=bs.drop k/\(∀x∈bs.drop k,n<x)/\But g (g+1) w7 wr) (fun kv _=>(intOf kv).toNat)
 case atStart=>exact ⟨n3,bs++[n],Nat.le_refl _,rfl,OW.out,by rw [←hl3];simp,by rw [←hl3];simp,by rw [←hl3];simp,But.refl _ _ _⟩
 obtain ⟨k,L,hk,rfl,ho,ht,hd,hgt,hb⟩:=hrel;have hLl:=ho.length;have hs:=hb.size;have xo:=XO7.out.kept (hb.block _ (by omega) (by omega));obtain ⟨y0,y1,y2,y3⟩:=xo.cells4;cases k with
 | zero=>
  have HI:Hid (lN bs n=bs.take 0++n :: bs.drop 0):=tm (by simp) hgt (Nat.zero_le _);obtain ⟨cw,fw,hst,hbt⟩:=ho.store (0) (by omega) n;have hset:L.set (0) n=lN bs n:=by rw [HI.out,List.set_eq_take_append_cons_drop,if_pos (by omega),ht,hd]
  rw [hset] at hst;generalize L.getD (0) 0=yy at cw;have xu:=xo.other gO (0) (.int .i64 n);obtain ⟨u0,u1,u2,u3⟩:=xu.cells4;have xp:=(XR7.out.kept (hb.block _ (by omega) (by omega))).other (g:=g) (by omega) (0) (.int .i64 n);obtain ⟨p0,p1,p2,p3⟩:=xp.cells4;have fz:=xp.frozen;have hb2:=hb.trans hbt;have KD:=aa (ja hst);have KS:=aa (S7.out.but hb2 (by omega));have KC:=aa (C7.out.but hb2 (by omega));have KB:=aa (Below.andBut B7.out hb2 (by omega));have zw:=hb2.size;clear hst hbt hset xu xp hb hb2 ho ht hd hgt xo HI HASC;go_wp2
  generalize (wr.setCell ⟨g,0,none⟩ (.int .i64 n))=wz at u0 u1 u2 u3 p0 p1 p2 p3 fz KD KS KC KB zw ⊢;have hbt:But (w.heap.size+1) (w.heap.size+1+1) wz ((((wz.setCell ⟨w.heap.size+1,0,none⟩ (.slice b0 n0 e0)).setCell ⟨w.heap.size+1,1,none⟩ (.slice b1 n1 e1)).setCell ⟨w.heap.size+1,2,none⟩ (.bool f)).setCell ⟨w.heap.size+1,3,none⟩ (.slice (some ⟨g,0,none⟩) (n3+1) c6)):=
   (((But.setCell (by omega) (by omega) _).trans (But.setCell (by omega) (by omega) _)).trans (But.setCell (by omega) (by omega) _)).trans (But.setCell (by omega) (by omega) _)
  have z99:=hbt.size;refine bodyPost_ret (v:=.agg #[.slice b0 n0 e0,.slice b1 n1 e1,.bool f,.slice (some ⟨g,0,none⟩) (n3+1) c6]) (by simp [results,Tryz.results118,go_sem,p0,p1,p2,p3]) rfl ?_
  have FIN:Hid ((cu 119).Own ((((wz.setCell ⟨w.heap.size+1,0,none⟩ (.slice b0 n0 e0)).setCell ⟨w.heap.size+1,1,none⟩ (.slice b1 n1 e1)).setCell ⟨w.heap.size+1,2,none⟩ (.bool f)).setCell ⟨w.heap.size+1,3,none⟩ (.slice (some ⟨g,0,none⟩) (n3+1) c6)) w.heap.size ((((wz.setCell ⟨w.heap.size+1,0,none⟩ (.slice b0 n0 e0)).setCell ⟨w.heap.size+1,1,none⟩ (.slice b1 n1 e1)).setCell ⟨w.heap.size+1,2,none⟩ (.bool f)).setCell ⟨w.heap.size+1,3,none⟩ (.slice (some ⟨g,0,none⟩) (n3+1) c6)).heap.size [.slice b0 n0 e0,.slice b1 n1 e1,.bool f,.slice (some ⟨g,0,none⟩) (n3+1) c6] (ss,cs,f,lN bs n)):=cH (KS.out.but hbt (by omega)) (KC.out.but hbt (by omega)) (KD.out.but hbt (by omega)) (by omega) (by omega) (by omega) (by omega) (by omega) (by omega);have FB:=aa (Below.andBut KB.out hbt (by omega));exact ⟨_,_,_,rfl,by rw [HK.out];exact FIN.out,FB.out⟩
 | succ k=>
  have hx:bs.getD k 0=L.getD k 0:=by
   have h1:(L.take (k+1))[k]?=(bs.take (k+1))[k]?:=by rw [ht]
   rw [List.getElem?_take,List.getElem?_take,if_pos (by omega),if_pos (by omega)] at h1;rw [List.getD_eq_getElem?_getD,List.getD_eq_getElem?_getD,h1]
  have hck:=(ho.store k (by omega) 0).1;rw [←hx] at hck;have hdk:bs.drop k=bs.getD k 0 :: bs.drop (k+1):=by rw [List.drop_eq_getElem_cons (by omega),List.getD_eq_getElem?_getD,List.getElem?_eq_getElem (by omega)];rfl
  have htk:L.take k=bs.take k:=by have:=congrArg (List.take k) ht;rw [List.take_take,List.take_take,Nat.min_eq_left (by omega)] at this;exact this
  have HLE:Hid (bs.getD k 0<=n->lN bs n=bs.take (k+1)++n :: bs.drop (k+1)):=fun hle=>tm (xJ HASC.out (by omega) (.inr hle)) hgt (by omega);generalize bs.getD k 0=x at hx hck hdk HLE;have k1:(0:Int)<((k:Int)+1):=by omega
  have k2:(0:Int)<=(k:Int):=by omega
  have k3:(k:Int)<(n3:Int)+1:=by omega
  have gw:IntKind.i64.wrap ((k:Int)+1-1)=(k:Int):=by rw [IntWalk.i64_in _ (by omega)];omega
  have gw2:IntKind.i64.wrap (k:Int)=(k:Int):=IntWalk.i64_in _ (by omega);have k4:((k:Int)+1)<(n3:Int)+1:=by omega
  have k5:(0:Int)<=(k:Int)+1:=by omega
  by_cases hxn:n<x
  . obtain ⟨cw,fw,hst,hbt⟩:=ho.store (k+1) (by omega) x
    have hti:(L.set (k+1) x).take k=bs.take k:=by
     rw [←htk];apply List.ext_getElem?
     intro m;rw [List.getElem?_take,List.getElem?_take];by_cases hm:m<k
     . rw [if_pos hm,if_pos hm,List.getElem?_set_ne (by omega)]
     rw [if_neg hm,if_neg hm]
    have hdi:(L.set (k+1) x).drop (k+1)=bs.drop k:=by
     rw [hdk,←hd,List.drop_eq_getElem_cons (by rw [List.length_set];omega),List.getElem_set_self];congr 1
     apply List.ext_getElem?
     intro m;rw [List.getElem?_drop,List.getElem?_drop,List.getElem?_set_ne (by omega)]
    have hgk:∀y∈bs.drop k,n<y:=by
     rw [hdk];intro y hy;rcases List.mem_cons.1 hy with rfl|hy
     . exact hxn
     exact hgt y hy
    have HCK:Hid ((wr.setCell ⟨g,k+1,none⟩ (.int .i64 x)).cell? ⟨g,k,none⟩=some (.int .i64 x)):=by
     have h1:=(hst.store k (by omega) 0).1;rw [List.getD_eq_getElem?_getD,List.getElem?_set_ne (by omega),←List.getD_eq_getElem?_getD,←hx] at h1;exact h1
    generalize L.getD (k+1) 0=yy at cw;have HST:=aa hst;have HBT:=aa hbt;have HTI:=aa hti;have HDI:=aa hdi;have HGK:=aa hgk;have HB:=aa hb;have XOR:=aa xo;have GO:=aa gO;clear hst hbt hti hdi hgk hb ho ht hd hgt hx hdk htk HLE xo;go_wp2_with fail
    go_region_held3 (fun w'=>w'.cell? ⟨w1.heap.size,3,none⟩=some (.slice (some ⟨g,0,none⟩) (n3+1) c6)/\w'.cell? ⟨g,k,none⟩=some (.int .i64 x))
     (first|(exact ⟨y3,hck⟩)|(exact ⟨(XOR.out.other GO.out (k+1) (.int .i64 x)).cell 3,HCK.out⟩)|go_keep)
     (fail)
    clear y0 y1 y2 y3 hck cw fw;go_wp2
    go_roundw
    case rel=>exact ⟨k,L.set (k+1) x,by omega,by go_num,(HST.out.same ((aP.refl _).drew)),HTI.out,HDI.out,HGK.out,(HB.out.trans HBT.out).trans (But.of_below (((aP.refl _).drew).below _))⟩
    case measure=>simp [intOf]
  have HI:=aa (HLE.out (by omega));obtain ⟨cw,fw,hst,hbt⟩:=ho.store (k+1) (by omega) n;have hset:L.set (k+1) n=lN bs n:=by rw [HI.out,List.set_eq_take_append_cons_drop,if_pos (by omega),ht,hd]
  rw [hset] at hst;generalize L.getD (k+1) 0=yy at cw;have xu:=xo.other gO (k+1) (.int .i64 n);obtain ⟨u0,u1,u2,u3⟩:=xu.cells4;have xp:=(XR7.out.kept (hb.block _ (by omega) (by omega))).other (g:=g) (by omega) (k+1) (.int .i64 n);obtain ⟨p0,p1,p2,p3⟩:=xp.cells4;have fz:=xp.frozen;have hb2:=hb.trans hbt;have KD:=aa (ja hst);have KS:=aa (S7.out.but hb2 (by omega));have KC:=aa (C7.out.but hb2 (by omega));have KB:=aa (Below.andBut B7.out hb2 (by omega));have zw:=hb2.size;clear hst hbt hset xu xp hb hb2 ho ht hd hgt xo HI HASC HLE hx hdk htk;go_wp2
  generalize (wr.setCell ⟨g,k+1,none⟩ (.int .i64 n))=wz at u0 u1 u2 u3 p0 p1 p2 p3 fz KD KS KC KB zw ⊢;have hbt:But (w.heap.size+1) (w.heap.size+1+1) wz ((((wz.setCell ⟨w.heap.size+1,0,none⟩ (.slice b0 n0 e0)).setCell ⟨w.heap.size+1,1,none⟩ (.slice b1 n1 e1)).setCell ⟨w.heap.size+1,2,none⟩ (.bool f)).setCell ⟨w.heap.size+1,3,none⟩ (.slice (some ⟨g,0,none⟩) (n3+1) c6)):=
   (((But.setCell (by omega) (by omega) _).trans (But.setCell (by omega) (by omega) _)).trans (But.setCell (by omega) (by omega) _)).trans (But.setCell (by omega) (by omega) _)
  have z99:=hbt.size;refine bodyPost_ret (v:=.agg #[.slice b0 n0 e0,.slice b1 n1 e1,.bool f,.slice (some ⟨g,0,none⟩) (n3+1) c6]) (by simp [results,Tryz.results118,go_sem,p0,p1,p2,p3]) rfl ?_
  have FIN:Hid ((cu 119).Own ((((wz.setCell ⟨w.heap.size+1,0,none⟩ (.slice b0 n0 e0)).setCell ⟨w.heap.size+1,1,none⟩ (.slice b1 n1 e1)).setCell ⟨w.heap.size+1,2,none⟩ (.bool f)).setCell ⟨w.heap.size+1,3,none⟩ (.slice (some ⟨g,0,none⟩) (n3+1) c6)) w.heap.size ((((wz.setCell ⟨w.heap.size+1,0,none⟩ (.slice b0 n0 e0)).setCell ⟨w.heap.size+1,1,none⟩ (.slice b1 n1 e1)).setCell ⟨w.heap.size+1,2,none⟩ (.bool f)).setCell ⟨w.heap.size+1,3,none⟩ (.slice (some ⟨g,0,none⟩) (n3+1) c6)).heap.size [.slice b0 n0 e0,.slice b1 n1 e1,.bool f,.slice (some ⟨g,0,none⟩) (n3+1) c6] (ss,cs,f,lN bs n)):=cH (KS.out.but hbt (by omega)) (KC.out.but hbt (by omega)) (KD.out.but hbt (by omega)) (by omega) (by omega) (by omega) (by omega) (by omega) (by omega);have FB:=aa (Below.andBut KB.out hbt (by omega));exact ⟨_,_,_,rfl,by rw [HK.out];exact FIN.out,FB.out⟩
end Go.Proofs.YtgjomldcnjjpaaaGreat

/-
 The codes of both sides, and a stripe as it is to be, by the program. Condition: the array weighs at most 2097152.
-/
import Derived.Test.YtfimpohbpccjaaaGreatRowGetBlockSq15
import Derived.Test.YtfimpohbpccjaaaGreatRowGetBlockSq3
import Derived.Test.YtfimpohbpccjaaaGreatRowGetBlockSq17
import Derived.Test.YtfimpohbpccjaaaGreatRowGetBlockSq13
import Derived.Test.YtfimpohbpccjaaaGreatRowGetBlockSq18
import Derived.Test.YtfimpohbpccjaaaGreatRowGetBlockSq16
import Derived.Test.YtfimpohbpccjaaaGreatRowGetBlockSq6
import Derived.Test.YtfimpohbpccjaaaGreatRowGetBlockSq14

set_option maxRecDepth 100000
set_option maxHeartbeats 8000000
set_option linter.unusedSimpArgs false

namespace Go.Proofs.YtfimpohbpccjaaaGreat
open Go.RowKit

theorem fQ (w:World) (E F G:TypeId) (x:aw) (am ad:Option Addr) (nm cm nd cd:Nat) (ms:List ax) (ds:List (Int×List Int)) (h0:(bf E F).Rd w [.slice am nm cm] ms) (h1:(aV G).Rd w [.slice ad nd cd] ds) (hw:bh ms ds<=2097152):
 Calls Tryz.prog 35 #[.agg #[.int .i64 x.id,.int .i64 x.n,.int .i64 x.s,.slice am nm cm,.int .i64 x.lost,.int .i64 x.jh,.int .i64 x.seq,.int .i64 x.tail,.int .i64 x.gen,.slice ad nd cd,.int .i64 x.jj,.bool x.down,.bool x.ji]] w fun e w'=>e=.returned (.int .i64 (da x ms ds))/\Below w.heap.size w w':=by
 have hA:=af w (.cells #[.int .i64 x.id,.int .i64 x.n,.int .i64 x.s,.slice am nm cm,.int .i64 x.lost,.int .i64 x.jh,.int .i64 x.seq,.int .i64 x.tail,.int .i64 x.gen,.slice ad nd cd,.int .i64 x.jj,.bool x.down,.bool x.ji] 35);have X:=Box.new w 35 #[.int .i64 x.id,.int .i64 x.n,.int .i64 x.s,.slice am nm cm,.int .i64 x.lost,.int .i64 x.jh,.int .i64 x.seq,.int .i64 x.tail,.int .i64 x.gen,.slice ad nd cd,.int .i64 x.jj,.bool x.down,.bool x.ji];have zX:=X.lt;obtain ⟨k0,k1,k2,k3,k4,k5,k6,k7,k8,k9,k10,k11,k12⟩:=X.cells13;have r0:=h0.below hA;have r1:=h1.below hA;have HV:Hid (da x ms ds=if aS x ms ds=true then (if x.down=true then 6 else 0) else 1):=rfl;go_enter Tryz.func35,Tryz.ntmps35
 go_wp2_with fail
 generalize w.alloc (.cells #[.int .i64 x.id,.int .i64 x.n,.int .i64 x.s,.slice am nm cm,.int .i64 x.lost,.int .i64 x.jh,.int .i64 x.seq,.int .i64 x.tail,.int .i64 x.gen,.slice ad nd cd,.int .i64 x.jj,.bool x.down,.bool x.ji] 35)=W at hA X zX r0 r1 k0 k1 k2 k3 k4 k5 k6 k7 k8 k9 k10 k11 k12 ⊢;refine (dE _ E F G x _ _ _ _ _ _ ms ds r0 r1 hw).mono ?_
 rintro e w1 ⟨rfl,b1⟩;have X1:=X.below b1 zX;have HB:=ab (Below.andThen hA b1);clear k0 k1 k2 k3 k4 k5 k6 k7 k8 k9 k10 k11 k12 X r0 r1 b1 hA;obtain ⟨k0,k1,k2,k3,k4,k5,k6,k7,k8,k9,k10,k11,k12⟩:=X1.cells13;clear X1;cases ha:aS x ms ds
 . have HR:Hid (1=da x ms ds):=by unfold Hid;rw [HV.out,if_neg (by simp [ha])]
   clear ha;go_wp2
   go_ret
   exact ⟨ai HR.out,HB.out⟩
 cases hd:x.down
 . have HR:Hid (0=da x ms ds):=by unfold Hid;rw [HV.out,if_pos ha,if_neg (by simp [hd])]
   rw [hd] at k11;clear ha hd;go_wp2
   go_ret
   exact ⟨ai HR.out,HB.out⟩
 have HR:Hid (6=da x ms ds):=by unfold Hid;rw [HV.out,if_pos ha,if_pos hd]
 rw [hd] at k11;clear ha hd;go_wp2
 go_ret
 exact ⟨ai HR.out,HB.out⟩
theorem eE (w:World) (E F G:TypeId) (x:aw) (am ad:Option Addr) (nm cm nd cd:Nat) (ms:List ax) (ds:List (Int×List Int)) (s:Int) (h0:(bf E F).Rd w [.slice am nm cm] ms) (h1:(aV G).Rd w [.slice ad nd cd] ds) (hw:bh ms ds<=2097152):
 Calls Tryz.prog 19 #[.agg #[.int .i64 x.id,.int .i64 x.n,.int .i64 x.s,.slice am nm cm,.int .i64 x.lost,.int .i64 x.jh,.int .i64 x.seq,.int .i64 x.tail,.int .i64 x.gen,.slice ad nd cd,.int .i64 x.jj,.bool x.down,.bool x.ji],.int .i64 s] w fun e w'=>e=.returned (.int .i64 (dv x ms ds s))/\Below w.heap.size w w':=by
 have hA:=af w (.cells #[.int .i64 x.id,.int .i64 x.n,.int .i64 x.s,.slice am nm cm,.int .i64 x.lost,.int .i64 x.jh,.int .i64 x.seq,.int .i64 x.tail,.int .i64 x.gen,.slice ad nd cd,.int .i64 x.jj,.bool x.down,.bool x.ji] 35);have X:=Box.new w 35 #[.int .i64 x.id,.int .i64 x.n,.int .i64 x.s,.slice am nm cm,.int .i64 x.lost,.int .i64 x.jh,.int .i64 x.seq,.int .i64 x.tail,.int .i64 x.gen,.slice ad nd cd,.int .i64 x.jj,.bool x.down,.bool x.ji];have zX:=X.lt;obtain ⟨k0,k1,k2,k3,k4,k5,k6,k7,k8,k9,k10,k11,k12⟩:=X.cells13;have r0:=h0.below hA;have r1:=h1.below hA;have HV:Hid (dv x ms ds s=if da x ms ds=0 then (if aH x.n x.s s=true then 0 else 2) else da x ms ds):=rfl;go_enter Tryz.func19,Tryz.ntmps19
 go_wp2_with fail
 generalize w.alloc (.cells #[.int .i64 x.id,.int .i64 x.n,.int .i64 x.s,.slice am nm cm,.int .i64 x.lost,.int .i64 x.jh,.int .i64 x.seq,.int .i64 x.tail,.int .i64 x.gen,.slice ad nd cd,.int .i64 x.jj,.bool x.down,.bool x.ji] 35)=W at hA X zX r0 r1 k0 k1 k2 k3 k4 k5 k6 k7 k8 k9 k10 k11 k12 ⊢;refine (fQ _ E F G x _ _ _ _ _ _ ms ds r0 r1 hw).mono ?_
 rintro e w1 ⟨rfl,b1⟩;have X1:=X.below b1 zX;have zX1:=X1.lt;have HB:=ab (Below.andThen hA b1);clear k0 k1 k2 k3 k4 k5 k6 k7 k8 k9 k10 k11 k12 X r0 r1 b1 hA;obtain ⟨k0,k1,k2,k3,k4,k5,k6,k7,k8,k9,k10,k11,k12⟩:=X1.cells13;clear X1;generalize da x ms ds=q at HV ⊢;by_cases hq:q=0
 . subst hq
   have HV2:Hid (dv x ms ds s=if aH x.n x.s s=true then 0 else 2):=by unfold Hid;rw [HV.out,if_pos rfl]
   clear HV;go_wp2_with fail
   refine (aN _ x.n x.s s).mono ?_
   rintro e w2 ⟨rfl,b2⟩;have HB2:=ab (Below.andThen HB.out b2);clear k0 k1 k2 k3 k4 k5 k6 k7 k8 k9 k10 k11 k12 b2 HB;cases hb:aH x.n x.s s
   . have HR:Hid (2=dv x ms ds s):=by unfold Hid;rw [HV2.out,if_neg (by simp [hb])]
     clear hb;go_wp2
     go_ret
     exact ⟨ai HR.out,HB2.out⟩
   have HR:Hid (0=dv x ms ds s):=by unfold Hid;rw [HV2.out,if_pos hb]
   clear hb;go_wp2
   go_ret
   exact ⟨ai HR.out,HB2.out⟩
 have HR:Hid (q=dv x ms ds s):=by unfold Hid;rw [HV.out,if_neg hq]
 have e0:(q !=0)=true:=by simpa using hq
 clear hq HV;go_wp2
 go_ret
 exact ⟨ai HR.out,HB.out⟩
theorem gN (w:World) (E:TypeId) (x:aw) (ms:List ax) (j:Nat) (v:Value) (s:Int) (hd:DiskV w E x ms j v) (hw:aE ms<=2097152):
 Calls Tryz.prog 79 #[v,.int .i64 s] w fun e w'=>e=.returned (.tuple #[.int .i64 (bC x ms (j:Int) s),.bool (bA x ms (j:Int) s)])/\Below w.heap.size w w':=by
 obtain ⟨a0,a1,a3,c0,c1,c3,ss,cs,f,bs,hj,r0,r1,r3,h⟩:=hd;have hwm:=Nat.le_trans (cE hj) hw;obtain ⟨hh,hv⟩:=je (x:=x) (s:=s) hj;have hl:=iP (x:=x) (s:=s) hj;rcases h with ⟨rfl,rfl⟩|⟨rfl,hx,rfl⟩|⟨rfl,hx,rfl⟩
 . exact eV w x ms j s (by rw [hh,hl];rfl)
 . exact fZ w E x ms j s a0 a1 a3 c0 c1 c3 ss cs bs r0 r1 r3 hwm (by rw [hh,hl];simp [hx]) hv
 exact fA w E x ms j s a0 a1 a3 c0 c1 c3 ss cs bs r0 r1 r3 hwm (by rw [hh,hl];simp [hx]) hv
theorem fill6 (x:aw) (ms:List ax) (s:Int) (n j:Nat) (h:j<n):(bt x ms s j++List.replicate (n-j) (0:Int)).set j (bC x ms (j:Int) s)=bt x ms s (j+1)++List.replicate (n-(j+1)) (0:Int):=by
 have e:n-j=(n-(j+1))+1:=by omega
 rw [List.set_append,if_neg (by rw [ch];omega),ch,Nat.sub_self,e,List.replicate_succ,List.set_cons_zero,eH,List.append_assoc];rfl
theorem eW (w:World) (E F G:TypeId) (x:aw) (am ad:Option Addr) (nm cm nd cd:Nat) (ms:List ax) (ds:List (Int×List Int)) (s:Int) (h0:(bf E F).Rd w [.slice am nm cm] ms) (h1:(aV G).Rd w [.slice ad nd cd] ds) (hw:bh ms ds<=2097152):
 Calls Tryz.prog 58 #[.agg #[.int .i64 x.id,.int .i64 x.n,.int .i64 x.s,.slice am nm cm,.int .i64 x.lost,.int .i64 x.jh,.int .i64 x.seq,.int .i64 x.tail,.int .i64 x.gen,.slice ad nd cd,.int .i64 x.jj,.bool x.down,.bool x.ji],.int .i64 s] w fun e w'=>∃a' l' c',e=.returned (.tuple #[.slice a' l' c',.bool (bi x ms ds s)])/\aI.Own w' w.heap.size w'.heap.size [.slice a' l' c'] (bW x ms ds s)/\Below w.heap.size w w':=by
 have hwm:aE ms<=2097152:=by unfold bh at hw;omega
 obtain ⟨hl,hc,hm⟩:=ag h0;obtain ⟨i0,hi,hz0,hz1,hz2⟩:=info_parts Tryz.info3;have hA:=af w (.cells #[.int .i64 x.id,.int .i64 x.n,.int .i64 x.s,.slice am nm cm,.int .i64 x.lost,.int .i64 x.jh,.int .i64 x.seq,.int .i64 x.tail,.int .i64 x.gen,.slice ad nd cd,.int .i64 x.jj,.bool x.down,.bool x.ji] 35);have X:=Box.new w 35 #[.int .i64 x.id,.int .i64 x.n,.int .i64 x.s,.slice am nm cm,.int .i64 x.lost,.int .i64 x.jh,.int .i64 x.seq,.int .i64 x.tail,.int .i64 x.gen,.slice ad nd cd,.int .i64 x.jj,.bool x.down,.bool x.ji];obtain ⟨k0,k1,k2,k3,k4,k5,k6,k7,k8,k9,k10,k11,k12⟩:=X.cells13;have zA:=X.lt;have r0:=h0.below hA;have r1:=h1.below hA;go_enter Tryz.func58,Tryz.ntmps58
 go_wp2_with fail
 generalize w.alloc (.cells #[.int .i64 x.id,.int .i64 x.n,.int .i64 x.s,.slice am nm cm,.int .i64 x.lost,.int .i64 x.jh,.int .i64 x.seq,.int .i64 x.tail,.int .i64 x.gen,.slice ad nd cd,.int .i64 x.jj,.bool x.down,.bool x.ji] 35)=W at hA X zA r0 r1 k0 k1 k2 k3 k4 k5 k6 k7 k8 k9 k10 k11 k12 ⊢;refine (dE _ E F G x _ _ _ _ _ _ ms ds r0 r1 hw).mono ?_
 rintro e w1 ⟨rfl,b1⟩;have X1:=X.below b1 zA;have B1:=Below.andThen hA b1;have q1:=r0.below b1;clear k0 k1 k2 k3 k4 k5 k6 k7 k8 k9 k10 k11 k12 X b1 hA zA r0 r1;obtain ⟨k0,k1,k2,k3,k4,k5,k6,k7,k8,k9,k10,k11,k12⟩:=X1.cells13;cases ha:aS x ms ds
 . skip
   have HF:Hid (bi x ms ds s=false/\bW x ms ds s=[]):=by unfold Hid bi bW el;simp [ha]
   have FO:=ab ((aC (aT.lit .i64 3 w1 [] 0 #[] rfl rfl (by unfold maxLen;omega))).widen (lo':=w.heap.size) B1.size (Nat.le_refl _));have FB:=ab (B1.alloc B1.size (.cells #[] 3));go_wp2
   refine bodyPost_ret (v:=.tuple #[.slice (some ⟨w1.heap.size,0,none⟩) 0 0,.bool false]) (by simp [results,Tryz.results58,go_sem]) rfl ?_
   exact ⟨_,_,_,by rw [HF.out.1],by rw [HF.out.2];exact FO.out,FB.out⟩
 have hg:bo x.n x.s=true:=by unfold aS at ha;simp only [Bool.and_eq_true] at ha;exact ha.1
 have hmn:(ms.length:Int)=x.n:=by unfold aS bB at ha;simp only [Bool.and_eq_true,decide_eq_true_eq] at ha;exact ha.2.2.1.2
 have HMN:=ab hmn;clear hmn;obtain ⟨g1,g2,g3,g4⟩:=ap.1 hg;cases hbr:x.ji
 . rw [hbr] at k12
   go_wp2_with fail
   refine (aN _ x.n x.s s).mono ?_
   rintro e w2 ⟨rfl,b2⟩;have X2:=X1.below b2 X1.lt;have B2:=Below.andThen B1 b2;have q2:=q1.below b2;clear k0 k1 k2 k3 k4 k5 k6 k7 k8 k9 k10 k11 k12 X1 b2 B1 q1;have hst:=dJ (x:=x) (y:=s) hg;cases hin:aH x.n x.s s
   . skip
     have HF:Hid (bi x ms ds s=false/\bW x ms ds s=[]):=by unfold Hid bi bW el;rw [←hst,hin];simp
     have FO:=ab ((aC (aT.lit .i64 3 w2 [] 0 #[] rfl rfl (by unfold maxLen;omega))).widen (lo':=w.heap.size) B2.size (Nat.le_refl _));have FB:=ab (B2.alloc B2.size (.cells #[] 3));go_wp2
     refine bodyPost_ret (v:=.tuple #[.slice (some ⟨w2.heap.size,0,none⟩) 0 0,.bool false]) (by simp [results,Tryz.results58,go_sem]) rfl ?_
     exact ⟨_,_,_,by rw [HF.out.1],by rw [HF.out.2];exact FO.out,FB.out⟩
   have HF:Hid (bi x ms ds s=bw x ms s/\bW x ms ds s=bM x ms s):=by unfold Hid bi bW el;rw [ha,hbr,←hst,hin];exact ⟨rfl,rfl⟩
   clear hst hbr ha hin;obtain ⟨n,hn⟩:∃n:Nat,x.n=(n:Int):=⟨x.n.toNat,by omega⟩;have HN:=ab hn;have HNT:Hid (x.n.toNat=n):=by unfold Hid;omega
   have hn5:n<=5:=by omega
   have hn3:3<=n:=by omega
   have hnm:n=nm:=by have:=HMN.out;omega
   have HNM:=ab hnm;clear hnm;obtain ⟨k0,k1,k2,k3,k4,k5,k6,k7,k8,k9,k10,k11,k12⟩:=X2.cells13;rw [hn] at k1;clear hn k0 k2 k3 k4 k5 k6 k7 k8 k9 k10 k11 k12;have hb3:i0.bytes*n<=281474976710656:=by rw [hz2];omega
   have hm3:n<=maxLen:=by unfold maxLen;omega
   go_wp2_with (at_make;refine wpList_make_full _ rfl _ _ 42 rfl w2.heap.size 3 i0 (.int .i64 0) 1 Tryz.underlying42 hi hz0 hz1 _ _ _ _ n rfl rfl rfl rfl hb3 hm3 (Nat.le_refl _) ?_;intro w3 hown hgrow)
   have hO:aT .i64 3 w3 w2.heap.size (.slice (some ⟨w2.heap.size,0,none⟩) n n) (List.replicate n 0):=by
    rw [dQ] at hown;unfold aT;rw [List.length_replicate];exact hown
   have hO1:=hO.own;have hB1:Below w2.heap.size w2 w3:=(Below.refl _ _).grown hgrow (Nat.le_refl _) (by simp);have zw:w2.heap.size<w3.heap.size:=hO1.2 _ rfl;generalize w3.heap.size=hi1 at hO1 zw;clear hown hgrow hO k1;go_loopw [7,32] (fun lo i wr=>∃j:Nat,j<=n/\i=.int .i64 j/\lo=.int .i64 (cA (aZ x ms s j))/\(aZ x ms s j).length<=1/\Own .i64 3 wr w2.heap.size hi1 (.slice (some ⟨w2.heap.size,0,none⟩) n n) (bt x ms s j++List.replicate (n-j) 0)/\Below w2.heap.size w2 wr) (fun _ i _=>n-(intOf i).toNat)
   case atStart=>exact ⟨0,Nat.zero_le _,rfl,rfl,Nat.zero_le _,by simpa [bt] using hO1,hB1⟩
   clear hO1 hB1;obtain ⟨j,hj,rfl,rfl,hm1,ho,hb⟩:=hrel;have Xr:=X2.below hb X2.lt;have zs:=hb.size;by_cases hlt:j<n
   . obtain ⟨k0,k1,k2,k3,k4,k5,k6,k7,k8,k9,k10,k11,k12⟩:=Xr.cells13
     have hlt':(j:Int)<(n:Int):=by omega
     go_wp2_with fail
     refine (gK _ E F x _ _ _ _ _ _ ms j (q2.below hb) hwm (by have:=HNM.out;omega)).mono ?_
     rintro e w5 ⟨v,rfl,hd,b5⟩;have o5:=ho.below b5;have B5:=hb.trans (b5.mono zs);clear k0 k1 k2 k3 k4 k5 k6 k7 k8 k9 k10 k11 k12 Xr b5 ho hb;go_wp2_with fail
     refine (gN _ E x ms j v s hd hwm).mono ?_
     rintro e w6 ⟨rfl,b6⟩;have o6:=o5.below b6;have B6:=B5.trans (b6.mono B5.size);clear b6 o5 B5 hd;have hfs:=fill6 x ms s n j hlt;obtain ⟨hcy,hfy,hst,hbt⟩:=o6.store j hlt (bC x ms (j:Int) s);rw [hfs] at hst;have HST:=ab hst;have HB:Hid (Below w2.heap.size w2 (w6.setCell ⟨w2.heap.size,j,none⟩ (.int .i64 (bC x ms (j:Int) s)))):=B6.setCell (Nat.le_refl _) _;have hj0:(0:Int)<=(j:Int):=Int.natCast_nonneg _;clear hst hbt hfs;generalize (bt x ms s j++List.replicate (n-j) 0).getD j 0=old at hcy;cases hh:bA x ms (j:Int) s
     . have hmn:=eI hh
       rcases cQ hm1 with h00|⟨p,hp⟩
       . have hl0:cA (aZ x ms s j)=-1:=by rw [h00];rfl
         have hl1:cA (aZ x ms s (j+1))=(j:Int):=by rw [hmn,h00];rfl
         have hc1:(aZ x ms s (j+1)).length<=1:=by rw [hmn,h00];exact Nat.le_refl _
         have HL1:=ab hl1;have HC1:=ab hc1;rw [hl0];clear hmn h00 hl0 hl1 hc1 B6 o6;generalize bC x ms (j:Int) s=y at HST HB ⊢;go_wp2
         go_roundw
         case rel=>exact ⟨j+1,by omega,by go_num,by rw [HL1.out],HC1.out,HST.out,HB.out⟩
         case measure=>simp [intOf];omega
       have hl0:cA (aZ x ms s j)=(p:Int):=by rw [hp];rfl
       obtain ⟨t1,t2⟩:=fk (x:=x) (ms:=ms) (s:=s) (j:=j+1) (by rw [hmn,hp];exact Nat.le_refl _) (by have:=HNT.out;omega);have HT1:=ab t1;have HT2:=ab t2;rw [hl0];have hp0:((p:Int) !=-1)=true:=by simp
       have hp1:((p:Int)==-1)=false:=by simp
       clear hmn hp hl0 t1 t2 HST HB;have FO:=ab ((aC (aT.lit .i64 3 w6 [] 0 #[] rfl rfl (by unfold maxLen;omega))).widen (lo':=w.heap.size) (Nat.le_trans B2.size B6.size) (Nat.le_refl _));have FB:=ab (B2.trans ((B6.alloc B6.size (.cells #[] 3)).mono B2.size));clear B6 o6;go_wp2
       refine bodyPost_ret (v:=.tuple #[.slice (some ⟨w6.heap.size,0,none⟩) 0 0,.bool false]) (by simp [results,Tryz.results58,go_sem]) rfl ?_
       exact ⟨_,_,_,by rw [HF.out.1,HT1.out],by rw [HF.out.2,HT2.out];exact FO.out,FB.out⟩
     have hmy:=dT hh;have HL1:Hid (cA (aZ x ms s (j+1))=cA (aZ x ms s j)):=by unfold Hid;rw [hmy]
     have HC1:Hid ((aZ x ms s (j+1)).length<=1):=by unfold Hid;rw [hmy];exact hm1
     clear hmy B6 o6;generalize bC x ms (j:Int) s=y at HST HB ⊢;go_wp2
     go_roundw
     case rel=>exact ⟨j+1,by omega,by go_num,by rw [HL1.out],HC1.out,HST.out,HB.out⟩
     case measure=>simp [intOf];omega
   have ej:j=n:=by omega
   subst ej;rw [Nat.sub_self,List.replicate_zero,List.append_nil] at ho;have hlen:=ch x ms s j;rcases cQ hm1 with h00|⟨p,hp⟩
   . have hl0:cA (aZ x ms s j)=-1:=by rw [h00];rfl
     obtain ⟨t1,t2⟩:=dK (x:=x) (ms:=ms) (s:=s) (by rw [HNT.out];exact h00);rw [HNT.out] at t2;have HT1:=ab t1;have HT2:=ab t2;rw [hl0];clear h00 hl0 t1 t2;have FO:=ab ((aC ho.1).widen (lo':=w.heap.size) B2.size (Nat.le_refl _));have FB:=ab (B2.trans (hb.mono B2.size));clear ho hb Xr hlen hm1 hj hlt;go_wp2
     refine bodyPost_ret (v:=.tuple #[.slice (some ⟨w2.heap.size,0,none⟩) j j,.bool true]) (by simp [results,Tryz.results58,go_sem]) rfl ?_
     exact ⟨_,_,_,by rw [HF.out.1,HT1.out],by rw [HF.out.2,HT2.out];exact FO.out,FB.out⟩
   have hl0:cA (aZ x ms s j)=(p:Int):=by rw [hp];rfl
   have hpj:p<j:=fU (x:=x) (ms:=ms) (s:=s) (by rw [hp];simp);obtain ⟨t1,t2⟩:=dU (x:=x) (ms:=ms) (s:=s) (p:=p) (by rw [HNT.out];exact hp);rw [HNT.out] at t2;have HT1:=ab t1;have HT2:=ab t2;rw [hl0];clear hp hl0 t1 t2;have hp0:((p:Int) !=-1)=true:=by simp
   have hp1:((p:Int)==-1)=false:=by simp
   have hp2:(0:Int)<=(p:Int):=by omega
   have hp3:(p:Int)<(j:Int):=by omega
   go_wp2_with fail
   refine (dB _ _ _ _ (bt x ms s j) (p:Int) hlen ho.reads (by omega)).mono ?_
   rintro e w7 ⟨rfl,hs7⟩;have O1:=ho.same hs7;have B7:=hb.trans (hs7.below _);obtain ⟨c1,f1,O2,t2⟩:=O1.store p hpj (bG (bt x ms s j) (p:Int) j);have FO:=ab ((aC O2.1).widen (lo':=w.heap.size) B2.size (Nat.le_refl _));have FB:=ab (B2.trans ((B7.setCell (p:=⟨w2.heap.size,p,none⟩) (Nat.le_refl _) (.int .i64 (bG (bt x ms s j) (p:Int) j))).mono B2.size));generalize (bt x ms s j).getD p 0=y at c1;generalize bG (bt x ms s j) (p:Int) j=q at FO FB HT2 ⊢;clear O1 O2 t2 ho hb hs7 Xr B7;go_wp2
   refine bodyPost_ret (v:=.tuple #[.slice (some ⟨w2.heap.size,0,none⟩) j j,.bool true]) (by simp [results,Tryz.results58,go_sem]) rfl ?_
   exact ⟨_,_,_,by rw [HF.out.1,HT1.out],by rw [HF.out.2,HT2.out];exact FO.out,FB.out⟩
 rw [hbr] at k12;have HF:Hid (bi x ms ds s=false/\bW x ms ds s=[]):=by unfold Hid bi bW el;simp [hbr]
 have FO:=ab ((aC (aT.lit .i64 3 w1 [] 0 #[] rfl rfl (by unfold maxLen;omega))).widen (lo':=w.heap.size) B1.size (Nat.le_refl _));have FB:=ab (B1.alloc B1.size (.cells #[] 3));go_wp2
 refine bodyPost_ret (v:=.tuple #[.slice (some ⟨w1.heap.size,0,none⟩) 0 0,.bool false]) (by simp [results,Tryz.results58,go_sem]) rfl ?_
 exact ⟨_,_,_,by rw [HF.out.1],by rw [HF.out.2];exact FO.out,FB.out⟩
theorem dfill6 (x:aw) (s:Int) (l:List Int) (n j:Nat) (h:j<n):(bZ x s l j++List.replicate (n-j) (0:Int)).set j (l.getD (cx x.n x.s s (j:Int)).toNat 0)=bZ x s l (j+1)++List.replicate (n-(j+1)) (0:Int):=by
 have e:n-j=(n-(j+1))+1:=by omega
 rw [List.set_append,if_neg (by rw [de];omega),de,Nat.sub_self,e,List.replicate_succ,List.set_cons_zero,eL,List.append_assoc];rfl
theorem eR (w:World) (E F G:TypeId) (x:aw) (am ad:Option Addr) (nm cm nd cd:Nat) (ms:List ax) (ds:List (Int×List Int)) (s:Int) (h0:(bf E F).Rd w [.slice am nm cm] ms) (h1:(aV G).Rd w [.slice ad nd cd] ds) (hw:bh ms ds<=2097152):
 Calls Tryz.prog 39 #[.agg #[.int .i64 x.id,.int .i64 x.n,.int .i64 x.s,.slice am nm cm,.int .i64 x.lost,.int .i64 x.jh,.int .i64 x.seq,.int .i64 x.tail,.int .i64 x.gen,.slice ad nd cd,.int .i64 x.jj,.bool x.down,.bool x.ji],.int .i64 s] w fun e w'=>∃a' l' c',e=.returned (.tuple #[.slice a' l' c',.bool (bi x ms ds s)])/\aI.Own w' w.heap.size w'.heap.size [.slice a' l' c'] (dy x ms ds s)/\Below w.heap.size w w':=by
 obtain ⟨i0,hi,hz0,hz1,hz2⟩:=info_parts Tryz.info3;have hA:=af w (.cells #[.int .i64 x.id,.int .i64 x.n,.int .i64 x.s,.slice am nm cm,.int .i64 x.lost,.int .i64 x.jh,.int .i64 x.seq,.int .i64 x.tail,.int .i64 x.gen,.slice ad nd cd,.int .i64 x.jj,.bool x.down,.bool x.ji] 35);have X:=Box.new w 35 #[.int .i64 x.id,.int .i64 x.n,.int .i64 x.s,.slice am nm cm,.int .i64 x.lost,.int .i64 x.jh,.int .i64 x.seq,.int .i64 x.tail,.int .i64 x.gen,.slice ad nd cd,.int .i64 x.jj,.bool x.down,.bool x.ji];obtain ⟨k0,k1,k2,k3,k4,k5,k6,k7,k8,k9,k10,k11,k12⟩:=X.cells13;have zA:=X.lt;have r0:=h0.below hA;have r1:=h1.below hA;go_enter Tryz.func39,Tryz.ntmps39
 go_wp2_with fail
 generalize w.alloc (.cells #[.int .i64 x.id,.int .i64 x.n,.int .i64 x.s,.slice am nm cm,.int .i64 x.lost,.int .i64 x.jh,.int .i64 x.seq,.int .i64 x.tail,.int .i64 x.gen,.slice ad nd cd,.int .i64 x.jj,.bool x.down,.bool x.ji] 35)=W at hA X zA r0 r1 k0 k1 k2 k3 k4 k5 k6 k7 k8 k9 k10 k11 k12 ⊢;refine (eW _ E F G x _ _ _ _ _ _ ms ds s r0 r1 hw).mono ?_
 rintro e w1 ⟨a',l',c',rfl,o1,b1⟩;have X1:=X.below b1 zA;have B1:=Below.andThen hA b1;clear k0 k1 k2 k3 k4 k5 k6 k7 k8 k9 k10 k11 k12 X b1 r0 r1;cases hok:bi x ms ds s
 . have HF:Hid (dy x ms ds s=[]):=by
    unfold Hid;unfold bi at hok;unfold dy;cases hk:el x ms ds s
    . rfl
    rw [hk,Bool.true_and] at hok;rw [if_pos rfl];unfold cX;rw [hok];rfl
   have FO:=ab ((aC (aT.lit .i64 3 w1 [] 0 #[] rfl rfl (by unfold maxLen;omega))).widen (lo':=w.heap.size) B1.size (Nat.le_refl _));have FB:=ab (B1.alloc B1.size (.cells #[] 3));clear o1;go_wp2
   refine bodyPost_ret (v:=.tuple #[.slice (some ⟨w1.heap.size,0,none⟩) 0 0,.bool false]) (by simp [results,Tryz.results39,go_sem]) rfl ?_
   exact ⟨_,_,_,by rw [hok],by rw [HF.out];exact FO.out,FB.out⟩
 have hk:el x ms ds s=true:=by unfold bi at hok;simp only [Bool.and_eq_true] at hok;exact hok.1
 have hwb:bw x ms s=true:=by unfold bi at hok;simp only [Bool.and_eq_true] at hok;exact hok.2
 have hin:inB s 0 (x.s-1)=true:=by unfold el at hk;simp only [Bool.and_eq_true] at hk;exact hk.2.2
 have hg:bo x.n x.s=true:=by unfold el aS at hk;simp only [Bool.and_eq_true] at hk;exact hk.1.1
 obtain ⟨g1,g2,g3,g4⟩:=ap.1 hg;have hL:bW x ms ds s=bM x ms s:=by unfold bW;rw [if_pos hk];rfl
 have hD:dy x ms ds s=bZ x s (bM x ms s) (x.n.toNat-1):=by
  unfold dy;rw [if_pos hk];unfold cX;rw [if_pos (show bw {x with ji:=false} ms s=true from hwb)];rfl
 have hwl:=eM hwb;rw [hL] at o1;generalize bM x ms s=ps at o1 hD hwl;obtain ⟨hr1,hln,hcap,hmax⟩:=az o1.rd;obtain ⟨m,hm⟩:∃m:Nat,x.n=(m:Int)+1:=⟨x.n.toNat-1,by omega⟩;have hm5:m<=4:=by omega
 have hm2:2<=m:=by omega
 have hl5:l'=m+1:=by omega
 subst hl5;have HD:Hid (dy x ms ds s=bZ x s ps m):=by unfold Hid;rw [hD];congr 1;omega
 have HM:=ab hm;have HOK:=ab hok;have HIN:=ab hin;have HG:=ab hg;clear hD hm hwl hok hk hwb hL hin hg;rcases hr1 with hnil|⟨b,off,rfl,hbl,hcs⟩
 . rw [hnil] at hln;simp at hln
 have HCS:=ab hcs;clear hcs;obtain ⟨k0,k1,k2,k3,k4,k5,k6,k7,k8,k9,k10,k11,k12⟩:=X1.cells13;go_wp2_with fail
 refine (aW _ x.n x.s g1 g2).mono ?_
 rintro e w2 ⟨rfl,b2⟩;have X2:=X1.below b2 X1.lt;have B2:=Below.andThen B1 b2;have zb2:=b2.size;have hC2:∀i,i<ps.length->w2.cell? ⟨b,off+i,none⟩=some (.int .i64 (ps.getD i 0)):=fun i h=>(b2.cell (p:=⟨b,off+i,none⟩) hbl).trans (HCS.out i h);have HC2:=ab hC2;have hbl2:b<w2.heap.size:=Nat.lt_of_lt_of_le hbl b2.size;clear k0 k1 k2 k3 k4 k5 k6 k7 k8 k9 k10 k11 k12 X1 b2 B1 hC2 HCS hbl o1;have hb3:i0.bytes*m<=281474976710656:=by rw [hz2];omega
 have hm3:m<=maxLen:=by unfold maxLen;omega
 rw [show x.n-1=(m:Int) from by have:=HM.out;omega];go_wp2_with (at_make;refine wpList_make_full _ rfl _ _ 42 rfl w2.heap.size 3 i0 (.int .i64 0) 1 Tryz.underlying42 hi hz0 hz1 _ _ _ _ m rfl rfl rfl rfl hb3 hm3 (Nat.le_refl _) ?_;intro w3 hown hgrow)
 have hO:aT .i64 3 w3 w2.heap.size (.slice (some ⟨w2.heap.size,0,none⟩) m m) (List.replicate m 0):=by
  rw [dQ] at hown;unfold aT;rw [List.length_replicate];exact hown
 have hO1:=hO.own;have hB1:Below w2.heap.size w2 w3:=(Below.refl _ _).grown hgrow (Nat.le_refl _) (by simp);generalize w3.heap.size=hi1 at hO1;clear hown hgrow hO;go_loopw [25] (fun i wr=>∃j:Nat,j<=m/\i=.int .i64 j/\Own .i64 3 wr w2.heap.size hi1 (.slice (some ⟨w2.heap.size,0,none⟩) m m) (bZ x s ps j++List.replicate (m-j) 0)/\Below w2.heap.size w2 wr) (fun i _=>m-(intOf i).toNat)
 case atStart=>exact ⟨0,Nat.zero_le _,rfl,by simpa [bZ] using hO1,hB1⟩
 clear hO1 hB1;obtain ⟨j,hj,rfl,ho,hb⟩:=hrel;by_cases hlt:j<m
 . have Xr:=X2.below hb X2.lt
   obtain ⟨k0,k1,k2,k3,k4,k5,k6,k7,k8,k9,k10,k11,k12⟩:=Xr.cells13;obtain ⟨d1,d2⟩:=gX (i:=(j:Int)) HG.out HIN.out (by omega) (by have:=HM.out;omega);have hfs:=dfill6 x s ps m j hlt;go_wp2_with fail
   refine (eQ _ x.n x.s s (j:Int)).mono ?_
   rintro e w5 ⟨rfl,b5⟩;obtain ⟨d,hd⟩:=Int.eq_ofNat_of_zero_le d1;rw [hd] at d2 hfs ⊢;rw [Int.toNat_natCast] at hfs;have hdn:d<m+1:=by have:=HM.out;omega
   have hcd:=(b5.cell (p:=⟨b,off+d,none⟩) (Nat.lt_of_lt_of_le hbl2 hb.size)).trans ((hb.cell (p:=⟨b,off+d,none⟩) hbl2).trans (HC2.out d (by omega)));have o5:=ho.below b5;have B5:=hb.trans (b5.mono hb.size);obtain ⟨hcy,hfy,hst,hbt⟩:=o5.store j hlt (ps.getD d 0);rw [hfs] at hst;have HST:=ab hst;have HB:Hid (Below w2.heap.size w2 (w5.setCell ⟨w2.heap.size,j,none⟩ (.int .i64 (ps.getD d 0)))):=B5.setCell (Nat.le_refl _) _;generalize ps.getD d 0=y at hcd HST HB;generalize (bZ x s ps j++List.replicate (m-j) 0).getD j 0=old at hcy;have i1:(0:Int)<=(d:Int):=by omega
   have i2:(d:Int)<((m+1:Nat):Int):=by omega
   have i3:(0:Int)<=(j:Int):=by omega
   have i4:(j:Int)<(m:Int):=by omega
   clear k0 k1 k2 k3 k4 k5 k6 k7 k8 k9 k10 k11 k12 Xr b5 ho hb hst hbt o5 B5 hfs d1 d2 hd;go_wp2
   go_roundw
   case rel=>exact ⟨j+1,by omega,by go_num,HST.out,HB.out⟩
   case measure=>simp [intOf];omega
 have ej:j=m:=by omega
 subst ej;rw [Nat.sub_self,List.replicate_zero,List.append_nil] at ho;have FO:=ab ((aC ho.1).widen (lo':=w.heap.size) B2.size (Nat.le_refl _));have FB:=ab (B2.trans (hb.mono B2.size));clear ho hb;go_wp2
 refine bodyPost_ret (v:=.tuple #[.slice (some ⟨w2.heap.size,0,none⟩) j j,.bool true]) (by simp [results,Tryz.results39,go_sem]) rfl ?_
 exact ⟨_,_,_,by rw [HOK.out],by rw [HD.out];exact FO.out,FB.out⟩
theorem gP (w:World) (E F G:TypeId) (x:aw) (am ad:Option Addr) (nm cm nd cd:Nat) (ms:List ax) (ds:List (Int×List Int)) (b:Int) (h0:(bf E F).Rd w [.slice am nm cm] ms) (h1:(aV G).Rd w [.slice ad nd cd] ds) (hw:bh ms ds<=2097152):
 Calls Tryz.prog 11 #[.agg #[.int .i64 x.id,.int .i64 x.n,.int .i64 x.s,.slice am nm cm,.int .i64 x.lost,.int .i64 x.jh,.int .i64 x.seq,.int .i64 x.tail,.int .i64 x.gen,.slice ad nd cd,.int .i64 x.jj,.bool x.down,.bool x.ji],.int .i64 b] w fun e w'=>e=.returned (.int .i64 (bu x ms ds b))/\Below w.heap.size w w':=by
 have hA:=af w (.cells #[.int .i64 x.id,.int .i64 x.n,.int .i64 x.s,.slice am nm cm,.int .i64 x.lost,.int .i64 x.jh,.int .i64 x.seq,.int .i64 x.tail,.int .i64 x.gen,.slice ad nd cd,.int .i64 x.jj,.bool x.down,.bool x.ji] 35);have X:=Box.new w 35 #[.int .i64 x.id,.int .i64 x.n,.int .i64 x.s,.slice am nm cm,.int .i64 x.lost,.int .i64 x.jh,.int .i64 x.seq,.int .i64 x.tail,.int .i64 x.gen,.slice ad nd cd,.int .i64 x.jj,.bool x.down,.bool x.ji];have zX:=X.lt;obtain ⟨k0,k1,k2,k3,k4,k5,k6,k7,k8,k9,k10,k11,k12⟩:=X.cells13;have r0:=h0.below hA;have r1:=h1.below hA;have HV:Hid (bu x ms ds b=if da x ms ds=0 then (if aU x.n x.s b=true then 0 else 2) else da x ms ds):=rfl;have HU:Hid (da x ms ds=if aS x ms ds=true then (if x.down=true then 6 else 0) else 1):=rfl;go_enter Tryz.func11,Tryz.ntmps11
 go_wp2_with fail
 generalize w.alloc (.cells #[.int .i64 x.id,.int .i64 x.n,.int .i64 x.s,.slice am nm cm,.int .i64 x.lost,.int .i64 x.jh,.int .i64 x.seq,.int .i64 x.tail,.int .i64 x.gen,.slice ad nd cd,.int .i64 x.jj,.bool x.down,.bool x.ji] 35)=W at hA X zX r0 r1 k0 k1 k2 k3 k4 k5 k6 k7 k8 k9 k10 k11 k12 ⊢;refine (eT _ E F G x _ _ _ _ _ _ ms ds r0 r1 hw).mono ?_
 rintro e w1 ⟨rfl,b1⟩;have X1:=X.below b1 zX;have zX1:=X1.lt;have HB:=ab (Below.andThen hA b1);clear k0 k1 k2 k3 k4 k5 k6 k7 k8 k9 k10 k11 k12 X r0 r1 b1 hA;obtain ⟨k0,k1,k2,k3,k4,k5,k6,k7,k8,k9,k10,k11,k12⟩:=X1.cells13;clear X1;cases ha:aS x ms ds
 . have HR:Hid (1=bu x ms ds b):=by unfold Hid;rw [HV.out,HU.out,if_neg (show ¬aS x ms ds=true by simp [ha])];rfl
   clear ha;go_wp2
   go_ret
   exact ⟨ai HR.out,HB.out⟩
 cases hd:x.down
 . have hq0:da x ms ds=0:=by rw [HU.out,if_pos ha,if_neg (by simp [hd])]
   have HV2:Hid (bu x ms ds b=if aU x.n x.s b=true then 0 else 2):=by unfold Hid;rw [HV.out,if_pos hq0]
   clear hq0;have hg:=cW ha;have hbn:1<=bg x.n x.s/\bg x.n x.s<=1000:=by
    obtain ⟨g1,g2,g3,g4⟩:=ap.1 hg;unfold bg;rw [if_pos hg];have h1:1*2<=x.s*(x.n-1):=Int.mul_le_mul g3 (by omega) (by omega) (by omega);have h2:x.s*(x.n-1)<=8*4:=Int.mul_le_mul g4 (by omega) (by omega) (by omega);omega
   rw [hd] at k11;have HBB:Hid (aU x.n x.s b=inB b 0 (bg x.n x.s-1)):=rfl;clear ha hd HV HU hg;go_wp2_with fail
   refine (cR _ x.n x.s).mono ?_
   rintro e w2 ⟨rfl,b2⟩;have HB2:=ab (Below.andThen HB.out b2);clear k0 k1 k2 k3 k4 k5 k6 k7 k8 k9 k10 k11 k12 b2 HB;generalize bg x.n x.s=bn at hbn HBB ⊢;have gw:IntKind.i64.wrap (bn-1)=bn-1:=IntWalk.i64_in _ (by omega);go_wp2_with fail
   refine (al _ _ _ _).mono ?_
   rintro e w3 ⟨rfl,hw3⟩;subst w3;rw [←HBB.out];cases hb:aU x.n x.s b
   . have HR:Hid (2=bu x ms ds b):=by unfold Hid;rw [HV2.out,if_neg (by simp [hb])]
     clear hb;go_wp2
     go_ret
     exact ⟨ai HR.out,HB2.out⟩
   have HR:Hid (0=bu x ms ds b):=by unfold Hid;rw [HV2.out,if_pos hb]
   clear hb;go_wp2
   go_ret
   exact ⟨ai HR.out,HB2.out⟩
 have HR:Hid (6=bu x ms ds b):=by unfold Hid;rw [HV.out,HU.out,if_pos ha,if_pos hd];rfl
 rw [hd] at k11;clear ha hd;go_wp2
 go_ret
 exact ⟨ai HR.out,HB.out⟩
theorem gd (w:World) (E F G:TypeId) (x:aw) (am ad:Option Addr) (nm cm nd cd:Nat) (ms:List ax) (ds:List (Int×List Int)) (s:Int) (h0:(bf E F).Rd w [.slice am nm cm] ms) (h1:(aV G).Rd w [.slice ad nd cd] ds) (hw:bh ms ds<=2097152) (ha:aS x ms ds=true) (hs:inB s 0 (x.s-1)=true):
 Calls Tryz.prog 20 #[.agg #[.int .i64 x.id,.int .i64 x.n,.int .i64 x.s,.slice am nm cm,.int .i64 x.lost,.int .i64 x.jh,.int .i64 x.seq,.int .i64 x.tail,.int .i64 x.gen,.slice ad nd cd,.int .i64 x.jj,.bool x.down,.bool x.ji],.int .i64 s] w fun e w'=>∃a' l' c',e=.returned (.tuple #[.slice a' l' c',.bool (ok8 x ms ds s)])/\aI.Own w' w.heap.size w'.heap.size [.slice a' l' c'] (cC x ms ds s)/\Below w.heap.size w w':=by
 have hwd:aA ds<=2097152:=by unfold bh at hw;omega
 obtain ⟨hl1,_,_⟩:=ag h1;have hnd:nd<=2097152:=by unfold aA at hwd;omega
 obtain ⟨_,_,_,g4⟩:=ap.1 (cW ha);have hsr:0<=s/\s<=100:=by have:=aP.1 hs;omega
 have HASC:=ab (iX ha);have HE:Hid (at8 ds s=-1->ok8 x ms ds s=bi x ms ds s/\cC x ms ds s=dy x ms ds s):=fun hat=>by
  unfold ok8 cC bi dy el;rw [if_pos hat,if_pos hat,ha,hs];cases x.ji<;>exact ⟨rfl,rfl⟩
 have HI:Hid (∀(k:Nat) (ys:List Int),at8 ds s=(k:Int)->ds[k]?=some (s,ys)->ok8 x ms ds s=true/\cC x ms ds s=ys/\ys.length<=2097152):=fun k ys hat hk=>by
  have hil:ys.length<=aA ds:=bE hk;unfold ok8 cC;rw [if_neg (by omega),if_neg (by omega),hat,Int.toNat_natCast,List.getD_eq_getElem?_getD,hk];exact ⟨rfl,rfl,by show ys.length<=_;omega⟩
 have hA:=af w (.cells #[.int .i64 x.id,.int .i64 x.n,.int .i64 x.s,.slice am nm cm,.int .i64 x.lost,.int .i64 x.jh,.int .i64 x.seq,.int .i64 x.tail,.int .i64 x.gen,.slice ad nd cd,.int .i64 x.jj,.bool x.down,.bool x.ji] 35);have X:=Box.new w 35 #[.int .i64 x.id,.int .i64 x.n,.int .i64 x.s,.slice am nm cm,.int .i64 x.lost,.int .i64 x.jh,.int .i64 x.seq,.int .i64 x.tail,.int .i64 x.gen,.slice ad nd cd,.int .i64 x.jj,.bool x.down,.bool x.ji];have zX:=X.lt;obtain ⟨k0,k1,k2,k3,k4,k5,k6,k7,k8,k9,k10,k11,k12⟩:=X.cells13;have r0:=h0.below hA;have r1:=h1.below hA;go_enter Tryz.func20,Tryz.ntmps20
 go_wp2_with fail
 generalize w.alloc (.cells #[.int .i64 x.id,.int .i64 x.n,.int .i64 x.s,.slice am nm cm,.int .i64 x.lost,.int .i64 x.jh,.int .i64 x.seq,.int .i64 x.tail,.int .i64 x.gen,.slice ad nd cd,.int .i64 x.jj,.bool x.down,.bool x.ji] 35)=W at hA X zX r0 r1 k0 k1 k2 k3 k4 k5 k6 k7 k8 k9 k10 k11 k12 ⊢;refine (of_any _ G _ _ _ ds s r1 hnd HASC.out hsr _ (iW r1)).mono ?_
 rintro e w1 ⟨hcase,b1⟩;have z1:=b1.size;have B1:=Below.andThen hA b1;rcases hcase with ⟨hat,rfl⟩|⟨k,ys,a1,c1,hat,hk,rfl,hq⟩
 . have HV:=ab (HE.out hat)
   have X1:=(X.below b1 zX).alloc (.cells #[.int .i64 0,.slice none 0 0] 63);have BN:=af w1 (.cells #[.int .i64 0,.slice none 0 0] 63);have B2:=Below.andThen B1 BN;have r0':=(r0.below b1).below BN;have r1':=(r1.below b1).below BN;clear k0 k1 k2 k3 k4 k5 k6 k7 k8 k9 k10 k11 k12 X r0 r1 b1 hA hat HE HI B1 BN;obtain ⟨k0,k1,k2,k3,k4,k5,k6,k7,k8,k9,k10,k11,k12⟩:=X1.cells13;clear X1;go_wp2_with fail
   generalize w1.alloc (.cells #[.int .i64 0,.slice none 0 0] 63)=w2 at B2 r0' r1' k0 k1 k2 k3 k4 k5 k6 k7 k8 k9 k10 k11 k12 ⊢;refine (eR _ E F G x _ _ _ _ _ _ ms ds s r0' r1' hw).mono ?_
   rintro e w3 ⟨a3,l3,c3,rfl,o3,b3⟩;have HB:=ab (Below.andThen B2 b3);have HO:=ab (o3.widen (lo':=w.heap.size) B2.size (Nat.le_refl _));clear k0 k1 k2 k3 k4 k5 k6 k7 k8 k9 k10 k11 k12 r0' r1' b3 o3 B2;go_wp2
   go_ret2
   rw [HV.out.1,HV.out.2];exact ⟨a3,l3,c3,rfl,HO.out,HB.out⟩
 have HV:=ab (HI.out k ys hat hk);have BN:=af w1 (.cells #[.int .i64 s,.slice a1 ys.length c1] 63);have N1:=Box.new w1 63 #[.int .i64 s,.slice a1 ys.length c1];have n1:=N1.cell 1;have B2:=Below.andThen B1 BN;have q2:=(hq.below b1).below BN;clear k0 k1 k2 k3 k4 k5 k6 k7 k8 k9 k10 k11 k12 X r0 r1 b1 hA hat hk HE HI B1 BN N1 hq;go_wp2_with fail
 generalize w1.alloc (.cells #[.int .i64 s,.slice a1 ys.length c1] 63)=w2 at B2 q2 n1 ⊢;refine (db _ _ _ _ ys q2 HV.out.2.2).mono ?_
 rintro e w3 ⟨a3,c3,rfl,o3,b3⟩;have HB:=ab (Below.andThen B2 b3);have HO:=ab (o3.widen (lo':=w.heap.size) B2.size (Nat.le_refl _));clear q2 n1 b3 o3 B2;go_wp2
 go_ret2
 rw [HV.out.1,HV.out.2.1];exact ⟨a3,ys.length,c3,rfl,HO.out,HB.out⟩
end Go.Proofs.YtfimpohbpccjaaaGreat

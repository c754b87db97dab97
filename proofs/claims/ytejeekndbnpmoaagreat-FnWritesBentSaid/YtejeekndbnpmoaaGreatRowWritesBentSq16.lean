/-
 The walks of the program's look whether an array is right: disk by disk, entry by entry, and as a whole. Condition: it weighs at most 2097152.
-/
import Derived.Test.YtejeekndbnpmoaaGreatRowWritesBentSq15
import Derived.Test.YtejeekndbnpmoaaGreatRowWritesBentSq11
import Derived.Test.YtejeekndbnpmoaaGreatRowWritesBentSq13
import Derived.Test.YtejeekndbnpmoaaGreatRowWritesBentSq14
import Derived.Test.YtejeekndbnpmoaaGreatRowWritesBentSq10
import Derived.Test.YtejeekndbnpmoaaGreatRowWritesBentSq2
import Derived.Test.YtejeekndbnpmoaaGreatRowWritesBentSq3
import Derived.Test.YtejeekndbnpmoaaGreatRowWritesBentSq4
import Derived.Test.YtejeekndbnpmoaaGreatRowWritesBentSq7

set_option maxRecDepth 100000
set_option maxHeartbeats 8000000
set_option linter.unusedSimpArgs false

namespace Go.Proofs.YtejeekndbnpmoaaGreat
open Go.RowKit

def cU (q:al×List ai):al×List ai:=fA q q.1.lost.toNat (bV q.1.vG) [(dv q.1 q.2 q.1.vG).getD q.1.lost.toNat 0]
def iZ (q:al×List ai):al×List ai:=if db q.1 q.2 q.1.vG=true then (if (cU q).1.down=true then cU q else ({(cU q).1 with vG:=(cU q).1.vG+1},(cU q).2)) else q
def lh (q:al×List ai):Int:=if db q.1 q.2 q.1.vG=true then ql (cU q).1.down else 5
theorem qm (w:World) (B:Nat) (x:al) (ms:List ai) (ds:List (Int×List Int)) (fm fd:List Nat) (h:aD w B x ms ds fm fd) (hf:x.vI<=1000) (hM:bM ms) (hg:bF x.n x.s=true) (hwm:aV ms<=2097152) (m:Nat) (hlo:x.lost=(m:Int)) (hm:m<ms.length) (hml:(m:Int)<x.n) (hbu:0<=x.vG/\x.vG<=100):
 Calls Tryz.prog 142 #[.pointer (some ⟨B,0,none⟩)] w fun e w'=>e=.returned (.int .i64 (lh (x,ms)))/\∃fm',aD w' B (iZ (x,ms)).1 (iZ (x,ms)).2 ds fm' fd/\aJ B fm w fm' w':=by
 obtain ⟨g1,g2,g3,g4⟩:=aB.1 hg;have HA:=aa h;have hlB:=h.lt;have hlm:=h.ltm.1;have HSC:Hid (lh (x,ms)=if db x ms x.vG=true then ql (cU (x,ms)).1.down else 5):=rfl;have HSA:Hid (iZ (x,ms)=if db x ms x.vG=true then (if (cU (x,ms)).1.down=true then cU (x,ms) else ({(cU (x,ms)).1 with vG:=(cU (x,ms)).1.vG+1},(cU (x,ms)).2)) else (x,ms)):=rfl;have HSQ:Hid (cU (x,ms)=fA (x,ms) m (bV x.vG) [(dv x ms x.vG).getD m 0]):=by unfold Hid cU;dsimp only;rw [hlo,Int.toNat_natCast]
 have HSN:=aa (gc (q:=(x,ms)) m (fun d=>wrM d (bV x.vG) [(dv x ms x.vG).getD m 0]) hf);obtain ⟨bm,bd,cm,cd,X,hmm,hdd,hr,r1,r2⟩:=h;unfold aC at X;obtain ⟨k0,k1,k2,k3,k4,k5,k6,k7,k8,k9,k10,k11,k12⟩:=X.cells13;have HM:=aa hmm.rd;have HLO:=aa hlo;clear hlo;have hS:w.drew.cell? ⟨B,0,none⟩=some (.int .i64 x.id)/\w.drew.cell? ⟨B,1,none⟩=some (.int .i64 x.n)/\w.drew.cell? ⟨B,2,none⟩=some (.int .i64 x.s)/\w.drew.cell? ⟨B,3,none⟩=some (.slice bm ms.length cm)/\w.drew.cell? ⟨B,4,none⟩=some (.int .i64 x.lost)/\w.drew.cell? ⟨B,5,none⟩=some (.int .i64 x.vG)/\w.drew.cell? ⟨B,6,none⟩=some (.int .i64 x.seq)/\w.drew.cell? ⟨B,7,none⟩=some (.int .i64 x.tail)/\w.drew.cell? ⟨B,8,none⟩=some (.int .i64 x.gen)/\w.drew.cell? ⟨B,9,none⟩=some (.slice bd ds.length cd)/\w.drew.cell? ⟨B,10,none⟩=some (.int .i64 x.vI)/\w.drew.cell? ⟨B,11,none⟩=some (.bool x.down)/\w.drew.cell? ⟨B,12,none⟩=some (.bool x.vH):=⟨k0,k1,k2,k3,k4,k5,k6,k7,k8,k9,k10,k11,k12⟩;clear hmm hdd hr r1 r2;go_enter Tryz.func142,Tryz.ntmps142
 go_wp2_with fail
 refine wp_region_held_drew (S:=fun w'=>w'.cell? ⟨B,0,none⟩=some (.int .i64 x.id)/\w'.cell? ⟨B,1,none⟩=some (.int .i64 x.n)/\w'.cell? ⟨B,2,none⟩=some (.int .i64 x.s)/\w'.cell? ⟨B,3,none⟩=some (.slice bm ms.length cm)/\w'.cell? ⟨B,4,none⟩=some (.int .i64 x.lost)/\w'.cell? ⟨B,5,none⟩=some (.int .i64 x.vG)/\w'.cell? ⟨B,6,none⟩=some (.int .i64 x.seq)/\w'.cell? ⟨B,7,none⟩=some (.int .i64 x.tail)/\w'.cell? ⟨B,8,none⟩=some (.int .i64 x.gen)/\w'.cell? ⟨B,9,none⟩=some (.slice bd ds.length cd)/\w'.cell? ⟨B,10,none⟩=some (.int .i64 x.vI)/\w'.cell? ⟨B,11,none⟩=some (.bool x.down)/\w'.cell? ⟨B,12,none⟩=some (.bool x.vH)) (by kernel_rfl) ?_ (fun vF=>?_)
 . exact hS
 refine ab 0 vF ?_
 refine ab 1 vF ?_
 refine ab 2 vF ?_
 refine ab 3 vF ?_
 refine ab 4 vF ?_
 refine ab 5 vF ?_
 refine ab 6 vF ?_
 refine aq (i:=7) (by kernel_rfl) rfl (by kernel_rfl) (fun K hK=>?_)
 go_simp
 refine (lg _ 171 101 x _ _ _ _ _ _ ms x.vG HM.out.drew hwm hg).mono ?_
 rintro e w1 ⟨a1,l1,c1,rfl,o1,b1'⟩;have b1:Below w.heap.size w w1:=(Below.refl w.heap.size w).drew.trans b1';have o1b:aA.Own w1 w.heap.size w1.heap.size [.slice a1 l1 c1] (dv x ms x.vG):=o1;have hS1:w1.cell? ⟨B,0,none⟩=some (.int .i64 x.id)/\w1.cell? ⟨B,1,none⟩=some (.int .i64 x.n)/\w1.cell? ⟨B,2,none⟩=some (.int .i64 x.s)/\w1.cell? ⟨B,3,none⟩=some (.slice bm ms.length cm)/\w1.cell? ⟨B,4,none⟩=some (.int .i64 x.lost)/\w1.cell? ⟨B,5,none⟩=some (.int .i64 x.vG)/\w1.cell? ⟨B,6,none⟩=some (.int .i64 x.seq)/\w1.cell? ⟨B,7,none⟩=some (.int .i64 x.tail)/\w1.cell? ⟨B,8,none⟩=some (.int .i64 x.gen)/\w1.cell? ⟨B,9,none⟩=some (.slice bd ds.length cd)/\w1.cell? ⟨B,10,none⟩=some (.int .i64 x.vI)/\w1.cell? ⟨B,11,none⟩=some (.bool x.down)/\w1.cell? ⟨B,12,none⟩=some (.bool x.vH):=⟨(b1.cell (p:=⟨B,0,none⟩) hlB).trans k0,(b1.cell (p:=⟨B,1,none⟩) hlB).trans k1,(b1.cell (p:=⟨B,2,none⟩) hlB).trans k2,(b1.cell (p:=⟨B,3,none⟩) hlB).trans k3,(b1.cell (p:=⟨B,4,none⟩) hlB).trans k4,(b1.cell (p:=⟨B,5,none⟩) hlB).trans k5,(b1.cell (p:=⟨B,6,none⟩) hlB).trans k6,(b1.cell (p:=⟨B,7,none⟩) hlB).trans k7,(b1.cell (p:=⟨B,8,none⟩) hlB).trans k8,(b1.cell (p:=⟨B,9,none⟩) hlB).trans k9,(b1.cell (p:=⟨B,10,none⟩) hlB).trans k10,(b1.cell (p:=⟨B,11,none⟩) hlB).trans k11,(b1.cell (p:=⟨B,12,none⟩) hlB).trans k12⟩;have OW:=aa o1b;have B1:=aa b1;have z1:=b1.size;clear o1 o1b b1 b1' vF;go_wp2_with fail
 refine hK.out _ _ ?_ (fun vF=>?_)
 . exact hS1
 clear hK K;refine ab 8 vF ?_
 refine ab 9 vF ?_
 refine ab 10 vF ?_
 refine ab 11 vF ?_
 refine ab 12 vF ?_
 refine wpAnyH_done (by kernel_rfl) ?_ _
 clear vF hS hS1 k0 k1 k2 k3 k4 k5 k6 k7 k8 k9 k10 k11 k12 HM X;have HA1:=aa (HA.out.below B1.out);have MV1:=aa ((aJ.refl B fm w).below B1.out);cases hwb:db x ms x.vG
 . have HV:Hid (iZ (x,ms)=(x,ms)/\lh (x,ms)=5):=by unfold Hid;rw [HSA.out,HSC.out,hwb];exact ⟨rfl,rfl⟩
   clear hwb;go_wp2
   go_ret
   refine ⟨aG HV.out.2.symm,fm,?_,MV1.out⟩
   rw [HV.out.1];exact HA1.out
 have hwl:=mN hwb;have HV:Hid (iZ (x,ms)=(if (cU (x,ms)).1.down=true then cU (x,ms) else ({(cU (x,ms)).1 with vG:=(cU (x,ms)).1.vG+1},(cU (x,ms)).2))/\lh (x,ms)=ql (cU (x,ms)).1.down):=by unfold Hid;rw [HSA.out,HSC.out,hwb];exact ⟨rfl,rfl⟩
 clear hwb HSA HSC;obtain ⟨hln,_⟩:=af OW.out.rd;subst hln;obtain ⟨fw,mw,rw1⟩:=OW.out.mine;generalize dv x ms x.vG=ps at mw OW hwl HSQ HSN ⊢;have hmp:m<ps.length:=by omega
 clear hwl;rcases (aP mw.rd).1.cases with h0|⟨gb,off,hgo,hgl,hcz⟩
 . omega
 subst hgo;have hcm:=hcz m hmp;generalize hy:ps.getD m 0=y at hcm HSQ HSN;have HY:=aa hy;clear hy;obtain ⟨bm,bd,cm,cd,X1,_⟩:=HA1.out;unfold aC at X1;obtain ⟨k0,k1,k2,k3,k4,k5,k6,k7,k8,k9,k10,k11,k12⟩:=X1.cells13;rw [HLO.out] at k4;have hT:w1.drew.cell? ⟨B,4,none⟩=some (.int .i64 (m:Int))/\w1.drew.cell? ⟨B,5,none⟩=some (.int .i64 x.vG)/\w1.drew.cell? ⟨gb,off+m,none⟩=some (.int .i64 y):=⟨k4,k5,hcm⟩;have i1:(0:Int)<=(m:Int):=by omega
 have i3:(m:Int)<(ps.length:Int):=by omega
 clear k0 k1 k2 k3 k6 k7 k8 k9 k10 k11 k12 hcz X1;go_wp2_with fail
 refine wp_region_held_drew (S:=fun w'=>w'.cell? ⟨B,4,none⟩=some (.int .i64 (m:Int))/\w'.cell? ⟨B,5,none⟩=some (.int .i64 x.vG)/\w'.cell? ⟨gb,off+m,none⟩=some (.int .i64 y)) (by kernel_rfl) ?_ (fun vF=>?_)
 . exact hT
 refine ab 0 vF ?_
 refine ab 1 vF ?_
 refine ab 2 vF ?_
 refine ab 3 vF ?_
 refine ab 4 vF ?_
 refine ab 5 vF ?_
 refine ab 6 vF ?_
 refine ab 7 vF ?_
 refine ab 8 vF ?_
 refine ab 10 vF ?_
 refine ab 11 vF ?_
 refine ab 12 vF ?_
 refine ab 13 vF ?_
 refine ab 14 vF ?_
 refine ab 15 vF ?_
 refine ab 16 vF ?_
 have bn:=ae w1 (.cells #[.int .i64 y] 3);have zn:(w1.alloc (.cells #[.int .i64 y] 3)).heap.size=w1.heap.size+1:=by simp
 have hT2:(w1.alloc (.cells #[.int .i64 y] 3)).drew.cell? ⟨B,4,none⟩=some (.int .i64 (m:Int))/\(w1.alloc (.cells #[.int .i64 y] 3)).drew.cell? ⟨B,5,none⟩=some (.int .i64 x.vG)/\(w1.alloc (.cells #[.int .i64 y] 3)).drew.cell? ⟨gb,off+m,none⟩=some (.int .i64 y):=⟨(bn.cell (p:=⟨B,4,none⟩) (show B<w1.heap.size by omega)).trans k4,(bn.cell (p:=⟨B,5,none⟩) (show B<w1.heap.size by omega)).trans k5,(bn.cell (p:=⟨gb,off+m,none⟩) hgl).trans hcm⟩;have osec:=aR (bj.lit .i64 3 w1 [y] 1 #[.int .i64 y] rfl rfl (by unfold maxLen;omega));obtain ⟨fs,msec,rs⟩:=osec.mine;have HA2:=aa (HA1.out.below bn).drew;have MV2:=aa (MV1.out.below bn).drew;have MS:Hid (aA.Mine (w1.alloc (.cells #[.int .i64 y] 3)).drew [.slice (some ⟨w1.heap.size,0,none⟩) 1 1] [y] fs):=msec.below ((Below.refl _ _).drew);have hfl:=HA1.out.ltm.1;have hmw:=(mw.below bn);have MW:=aa (hmw.below ((Below.refl _ _).drew));have RW:=aa rw1;have zBs:B<(w1.alloc (.cells #[.int .i64 y] 3)).heap.size:=by omega
 have HPT:=aa (hU (w1.alloc (.cells #[.int .i64 y] 3)).drew B x ms ds fm fd HA2.out hf hM m hm (bV x.vG) (some ⟨w1.heap.size,0,none⟩) 1 1 [y] fs MS.out (fun hm'=>by have:=(rs _ hm').1;omega) (fun b hb hm'=>by have h1:=(rs b hb).1;have h2:=hfl b hm';omega) (by omega));clear osec msec rs bn hmw;refine uC (i:=9) (i':=17) (by kernel_rfl) rfl rfl (by kernel_rfl) (by kernel_rfl) (fun K hK=>?_) (fun K hK=>?_)
 . go_simp
   refine (cz _ x.vG).mono ?_
   rintro e w1d ⟨rfl,hwd⟩;subst hwd;clear vF;go_wp2_with fail
   refine hK.out _ _ ?_ (fun vF=>?_)
   . exact hT
   clear hK K vF;refine aq (i:=17) (by kernel_rfl) rfl (by kernel_rfl) (fun K hK=>?_)
   go_simp
   refine hK.out _ _ ?_ (fun vF=>?_)
   . exact hT2
   clear hK K vF;refine aq (i:=18) (by kernel_rfl) rfl (by kernel_rfl) (fun K hK=>?_)
   go_simp
   refine HPT.out.mono ?_
   rintro e w4 ⟨rfl,fm4,hA4,hMv4⟩;have MV4:=aa (MV2.out.trans hMv4);rw [←HSQ.out] at hA4;have hsn:dw x (cU (x,ms)).1:=by rw [HSQ.out];exact HSN.out
   obtain ⟨d4,d5,_,d11,_,fz⟩:=ic hA4;have hT4:w4.cell? ⟨B,4,none⟩=some (.int .i64 (m:Int))/\w4.cell? ⟨B,5,none⟩=some (.int .i64 x.vG)/\w4.cell? ⟨gb,off+m,none⟩=some (.int .i64 y):=by
    refine ⟨?_,?_,?_⟩
    . rw [d4,hsn.2.2.2.1,HLO.out]
    . rw [d5,hsn.2.2.2.2.1]
    have hbw:=hMv4.mine MW.out (fun hm'=>by have:=(RW.out _ hm').1;omega) (fun b hb hm'=>by have h1:=(RW.out b hb).1;have h2:=hlm b hm';omega);rcases (aP hbw.rd).1.cases with h0|⟨gb2,off2,hgo2,_,hcz2⟩
    . omega
    simp at hgo2
    obtain ⟨rfl,rfl⟩:=hgo2;rw [hcz2 m hmp,HY.out]
   clear hMv4 HPT MV2 HA2;go_wp2_with fail
   refine hK.out _ _ ?_ (fun vF=>?_)
   . exact hT4
   clear hK K;refine wpAnyH_done (by kernel_rfl) ?_ _
   clear vF hT hT2 hT4 k4 k5 hcm;have hbq:(cU (x,ms)).1.vG=x.vG:=hsn.2.2.2.2.1;generalize cU (x,ms)=st at hA4 HV d4 d5 d11 hbq;obtain ⟨u,qs⟩:=st;dsimp only at hA4 HV d4 d5 d11 hbq
   have hwr:IntKind.i64.wrap (u.vG+1)=u.vG+1:=IntWalk.i64_in _ (by omega);clear hsn HSN HSQ hbq;cases hud:u.down
   . have HV2:Hid (iZ (x,ms)=({u with vG:=u.vG+1},qs)/\lh (x,ms)=0):=by unfold Hid;rw [HV.out.1,HV.out.2,hud];exact ⟨rfl,rfl⟩
     rw [hud] at d11;have HA5:=aa (jE hA4 (u.vG+1));have MV5:=aa (MV4.out.trans (aJ.set (B:=B) (j:=5) (fm:=fm4) (w:=w4) (.int .i64 (u.vG+1))));clear hud hA4 HV;go_wp2
     go_ret
     refine ⟨aG HV2.out.2.symm,fm4,?_,MV5.out⟩
     rw [HV2.out.1];exact HA5.out
   have HV2:Hid (iZ (x,ms)=(u,qs)/\lh (x,ms)=6):=by unfold Hid;rw [HV.out.1,HV.out.2,hud];exact ⟨rfl,rfl⟩
   rw [hud] at d11;have HA5:=aa hA4;clear hud hA4 HV;go_wp2
   go_ret
   refine ⟨aG HV2.out.2.symm,fm4,?_,MV4.out⟩
   rw [HV2.out.1];exact HA5.out
 go_simp
 clear vF;refine hK.out _ _ ?_ (fun vF=>?_)
 . exact hT2
 clear hK K;refine aq (i:=9) (by kernel_rfl) rfl (by kernel_rfl) (fun K hK=>?_)
 go_simp
 refine (cz _ x.vG).mono ?_
 rintro e w1d ⟨rfl,hwd⟩;subst hwd;clear vF;go_wp2_with fail
 refine hK.out _ _ ?_ (fun vF=>?_)
 . exact hT2
 clear hK K vF;refine aq (i:=18) (by kernel_rfl) rfl (by kernel_rfl) (fun K hK=>?_)
 go_simp
 refine HPT.out.mono ?_
 rintro e w4 ⟨rfl,fm4,hA4,hMv4⟩;have MV4:=aa (MV2.out.trans hMv4);rw [←HSQ.out] at hA4;have hsn:dw x (cU (x,ms)).1:=by rw [HSQ.out];exact HSN.out
 obtain ⟨d4,d5,_,d11,_,fz⟩:=ic hA4;have hT4:w4.cell? ⟨B,4,none⟩=some (.int .i64 (m:Int))/\w4.cell? ⟨B,5,none⟩=some (.int .i64 x.vG)/\w4.cell? ⟨gb,off+m,none⟩=some (.int .i64 y):=by
  refine ⟨?_,?_,?_⟩
  . rw [d4,hsn.2.2.2.1,HLO.out]
  . rw [d5,hsn.2.2.2.2.1]
  have hbw:=hMv4.mine MW.out (fun hm'=>by have:=(RW.out _ hm').1;omega) (fun b hb hm'=>by have h1:=(RW.out b hb).1;have h2:=hlm b hm';omega);rcases (aP hbw.rd).1.cases with h0|⟨gb2,off2,hgo2,_,hcz2⟩
  . omega
  simp at hgo2
  obtain ⟨rfl,rfl⟩:=hgo2;rw [hcz2 m hmp,HY.out]
 clear hMv4 HPT MV2 HA2;go_wp2_with fail
 refine hK.out _ _ ?_ (fun vF=>?_)
 . exact hT4
 clear hK K;refine wpAnyH_done (by kernel_rfl) ?_ _
 clear vF hT hT2 hT4 k4 k5 hcm;have hbq:(cU (x,ms)).1.vG=x.vG:=hsn.2.2.2.2.1;generalize cU (x,ms)=st at hA4 HV d4 d5 d11 hbq;obtain ⟨u,qs⟩:=st;dsimp only at hA4 HV d4 d5 d11 hbq
 have hwr:IntKind.i64.wrap (u.vG+1)=u.vG+1:=IntWalk.i64_in _ (by omega);clear hsn HSN HSQ hbq;cases hud:u.down
 . have HV2:Hid (iZ (x,ms)=({u with vG:=u.vG+1},qs)/\lh (x,ms)=0):=by unfold Hid;rw [HV.out.1,HV.out.2,hud];exact ⟨rfl,rfl⟩
   rw [hud] at d11;have HA5:=aa (jE hA4 (u.vG+1));have MV5:=aa (MV4.out.trans (aJ.set (B:=B) (j:=5) (fm:=fm4) (w:=w4) (.int .i64 (u.vG+1))));clear hud hA4 HV;go_wp2
   go_ret
   refine ⟨aG HV2.out.2.symm,fm4,?_,MV5.out⟩
   rw [HV2.out.1];exact HA5.out
 have HV2:Hid (iZ (x,ms)=(u,qs)/\lh (x,ms)=6):=by unfold Hid;rw [HV.out.1,HV.out.2,hud];exact ⟨rfl,rfl⟩
 rw [hud] at d11;have HA5:=aa hA4;clear hud hA4 HV;go_wp2
 go_ret
 refine ⟨aG HV2.out.2.symm,fm4,?_,MV4.out⟩
 rw [HV2.out.1];exact HA5.out
theorem sD {ds:List aF} {e:aF} {k h i:Nat} (hk:k<=ds.length):(ds.take k++[e]++ds.drop h)[i]?=if i<k then ds[i]? else if i=k then some e else ds[i-k-1+h]?:=by
 have e1:(ds.take k).length=k:=by simp;omega
 have e2:(ds.take k++[e]).length=k+1:=by simp;omega
 by_cases h1:i<k
 . rw [if_pos h1,List.getElem?_append_left (by omega),List.getElem?_append_left (by omega),List.getElem?_take,if_pos h1]
 rw [if_neg h1];by_cases h2:i=k
 . rw [if_pos h2,List.getElem?_append_left (by omega),List.getElem?_append_right (by omega),e1,h2,Nat.sub_self]
   rfl
 rw [if_neg h2,List.getElem?_append_right (by omega),e2,List.getElem?_drop];congr 1
 omega
theorem uD {x:al} {ms:List ai} {ds:List aF} {t:Int} {ys:List Int} (ha:aZ x ms ds=true) (ht:inB t 0 (x.s-1)=true) (hl:(ys.length:Int)=x.n-1) (hw:cG ys=true):dZ x (lq ds (t,ys))=true:=by
 have hA:=sj ha;have he:=(bf.1 ha).2.2.2.1;obtain ⟨k,r,hp⟩:=vy hA t;rw [vx hA hp];rw [jX] at he ⊢;obtain ⟨h1,h2,h3,h4⟩:=hp;have hkh:k<=(if r=true then k+1 else k):=by split<;>omega
 have hgt:∀(i:Nat) (e:aF),(if r=true then k+1 else k)<=i->ds[i]?=some e->t<e.1:=fun i e hi hd=>by
  rcases h4 with ⟨rfl,d,hkd,hdt⟩|⟨rfl,hn⟩
  . rw [if_pos rfl] at hi
    have:=he.2 k i d e (by omega) hkd hd;omega
  rw [if_neg (by simp)] at hi;have h5:=h3 i e hi hd;by_cases hik:i=k
  . subst hik
    have:=hn e hd;omega
  have hkl:k<ds.length:=by have:=(List.getElem?_eq_some_iff.1 hd).1;omega
  have hkk:=List.getElem?_eq_getElem hkl;have:=he.2 k i _ e (by omega) hkk hd;have:=h3 k _ (Nat.le_refl _) hkk;omega
 generalize (if r=true then k+1 else k)=h at hkh hgt ⊢;constructor
 . intro i e hd
   rw [sD h1] at hd;by_cases c1:i<k
   . rw [if_pos c1] at hd
     exact he.1 i e hd
   rw [if_neg c1] at hd;by_cases c2:i=k
   . rw [if_pos c2] at hd
     cases hd;exact ⟨ht,hl,hw⟩
   rw [if_neg c2] at hd;exact he.1 _ e hd
 intro i j e e' hij hi hj;rw [sD h1] at hi hj;by_cases c1:i<k
 . rw [if_pos c1] at hi
   by_cases d1:j<k
   . rw [if_pos d1] at hj
     exact he.2 i j e e' hij hi hj
   rw [if_neg d1] at hj;by_cases d2:j=k
   . rw [if_pos d2] at hj
     cases hj;exact h2 i e c1 hi
   rw [if_neg d2] at hj;exact he.2 i _ e e' (by omega) hi hj
 rw [if_neg c1] at hi;rw [if_neg (by omega),if_neg (by omega)] at hj;by_cases c2:i=k
 . rw [if_pos c2] at hi
   cases hi;exact hgt _ e' (by omega) hj
 rw [if_neg c2] at hi;exact he.2 _ _ e e' (by omega) hi hj
theorem uE {a b:Int} (ha:isW a=true) (hb:isW b=true):isW (bits BinOp.xor IntKind.i64 a b)=true:=by
 unfold isW at ha hb ⊢;simp only [Bool.and_eq_true,decide_eq_true_eq] at ha hb ⊢
 rw [xor_bv];have h1:(bv a).toNat<2 ^ 16:=by unfold bv;rw [BitVec.toNat_ofInt];omega
 have h2:(bv b).toNat<2 ^ 16:=by unfold bv;rw [BitVec.toNat_ofInt];omega
 have h3:(bv a ^^^ bv b).toNat<2 ^ 16:=by rw [BitVec.toNat_xor];exact Nat.xor_lt_two_pow h1 h2
 unfold ofBv;rw [IntKind.wrap_i64];omega
theorem mO {l:List Int}:cG l=true ↔ ∀(i:Nat) (x:Int),l[i]?=some x->isW x=true:=by
 unfold cG;rw [List.all_eq_true];exact ⟨fun h i x hx=>h x (List.mem_of_getElem? hx),fun h x hx=>by obtain ⟨i,hi⟩:=List.mem_iff_getElem?.1 hx;exact h i x hi⟩
theorem kH {l:List Int} (h:cG l=true) (i:Nat):isW (l.getD i 0)=true:=by
 rw [List.getD_eq_getElem?_getD];cases hi:l[i]? with
 | none=>rfl
 | some x=>exact mO.1 h i x hi
theorem qo {l:List Int} {i:Nat} {n:Int} (h:cG l=true) (hn:isW n=true):cG (l.set i n)=true:=by
 rw [mO];intro j x hx;by_cases hij:i=j
 . subst hij
   have hl:i<l.length:=by have:=(List.getElem?_eq_some_iff.1 hx).1;simpa using this
   rw [List.getElem?_set_self hl] at hx;cases hx;exact hn
 rw [List.getElem?_set_ne hij] at hx;exact mO.1 h j x hx
theorem qp {α:Type} {l:List α} {f:α->Int} (h:∀a∈l,isW (f a)=true):cG (l.map f)=true:=by
 unfold cG;rw [List.all_eq_true];intro x hx;obtain ⟨a,ha,rfl⟩:=List.mem_map.1 hx;exact h a ha
theorem tf {ss:List (List Int)} {cs:List (Int×List Int)} {f:Bool} {bs:List Int} {n:Int}:cG (eK ss cs f bs n)=true:=by
 unfold eK;split
 . rename_i h
   unfold dV at h;simp only [Bool.and_eq_true] at h
   obtain ⟨h1,h2,_,_⟩:=(ec ss cs bs).1 h.1;have hs:∀zs:List Int,da zs=true->cG zs=true:=fun zs hz=>by unfold da at hz;simp only [Bool.and_eq_true] at hz;exact hz.2
   cases hl:cT cs n with
   | some zs=>
    have:=h2 _ (km hl);unfold wrB at this;simp only [Bool.and_eq_true] at this
    exact hs _ this.2
   | none=>
    show cG (mK ss n)=true
    unfold mK;rw [List.getD_eq_getElem?_getD];cases hi:ss[n.toNat]? with
    | none=>rfl
    | some zs=>exact hs _ (h1 zs (List.mem_of_getElem? hi))
 rfl
theorem rB (x:al) (ms:List ai) (m s:Int):isW (gj x ms m s)=true:=by
 unfold gj;split
 . exact kH tf 0
 rfl
theorem jF {zs:List Int} (h:cG zs=true) (k:Int):∀j,isW (ge zs k j)=true
 | 0=>rfl
 | j+1=>by
  rw [lW];split
  . exact jF h k j
  exact uE (jF h k j) (kH h j)
theorem qr (x:al) (ms:List ai) (s:Int):cG (dv x ms s)=true:=by
 have hw:cG (eG x ms s x.n.toNat)=true:=qp fun i _=>rB x ms _ s;unfold dv;split
 . exact hw
 . exact qo hw (jF hw _ _)
 rfl
theorem rE (x:al) (ms:List ai) (s:Int):cG (ib x ms s)=true:=by
 unfold ib;split
 . exact qp fun i _=>kH (qr x ms s) _
 rfl
theorem tg {x:al} {ms:List ai} {ds:List aF} (ha:aZ x ms ds=true) (s:Int):cG (jq x ms ds s)=true:=by
 have he:=jX.1 (bf.1 ha).2.2.2.1;unfold jq;split
 . split
   . rfl
   exact rE x ms s
 rename_i hn
 rcases gL ds s with hat|⟨j,d,hat,hdj,_⟩
 . exact absurd hat hn
 rw [hat,Int.toNat_natCast,List.getD_eq_getElem?_getD,hdj];exact (he.1 j d hdj).2.2
theorem uF {G:Int} {q:al×List ai} {ds:List aF} (h:cA G q ds) {b n:Int} (hb:cl q.1.n q.1.s b=true) (hn:isW n=true):cA G q (oC q.1 q.2 ds b n):=by
 obtain ⟨ha,hi,hbr,h1,h2⟩:=h;refine ⟨?_,hi,hbr,h1,h2⟩
 unfold oC;split
 . rename_i hk
   obtain ⟨p1,p2,p3,p4,p5,p6⟩:=bf.1 ha;obtain ⟨s1,s2,i1,i2⟩:=qi p1 hb;have hin:inB (bC q.1.n q.1.s b) 0 (q.1.s-1)=true:=aI.2 ⟨s1,s2⟩;refine bf.2 ⟨p1,p2,p3,uD ha hin ?_ ?_,p5,p6⟩
   . rw [List.length_set];exact qj ha hk
   exact qo (tg ha _) hn
 exact ha
theorem oD {G:Int} {q:al×List ai} {ds:List aF} (h:cA G q ds) (hG:G<59000):cA (G+1) (cK q) ds:=by
 obtain ⟨ha,hi,hb,h1,h2⟩:=h;have k:=mG (q:=q) hi;obtain ⟨p1,p2,p3,p4,p5,p6⟩:=bf.1 ha;have p6':=fL.1 p6;refine ⟨bf.2 ?_,k.idle hi,?_,?_,?_⟩
 . rw [k.1]
   refine ⟨p1,p2,ia p3 k.2.1 (k.2.2 (mI p3)),p4,p5,fL.2 ?_⟩
   show (0<=q.1.tail/\q.1.tail<=60000)/\(q.1.tail<=q.1.seq/\q.1.seq<=60000)/\q.1.seq<=q.1.tail+4/\(0<=q.1.gen+1/\q.1.gen+1<=60000)/\-1<=q.1.vI/\q.1.vI<=1000
   omega
 . rw [k.1];exact hb
 . rw [k.1];show q.1.gen+1<=G+1;omega
 rw [k.1];show q.1.seq<=G+1;omega
theorem ti {G:Int} {q:al×List ai} {ds:List aF} (h:cA G q ds) (hG:G<59000) (hl:q.1.lost=-1) {m:Nat} (hm:(m:Int)<q.1.n):cA (G+1) (gk q m) ds:=by
 obtain ⟨ha,hi,hb,h1,h2⟩:=h;obtain ⟨p1,p2,p3,p4,p5,p6⟩:=bf.1 ha;have g1:=aB.1 p1;have hx:dT q.1 (m:Int)={q.1 with lost:=(m:Int),vG:=0}:=by unfold dT;rw [if_pos (.inl hl)]
 have h3:=dH.1 p3;have hml:m<q.2.length:=by have:=h3.2;omega
 have hmd:=List.getElem?_eq_getElem hml;have hg:q.2.getD m gZ=q.2[m]:=eE hmd;obtain ⟨a1,a2,_⟩:=h3.1 m _ hmd;have hgood:cA G (dT q.1 (m:Int),q.2.set m (iX (q.2.getD m gZ))) ds:=by
  rw [hx,hg];refine ⟨bf.2 ⟨p1,p2,?_,p4,?_,p6⟩,hi,hb,h1,h2⟩
  . refine mH p3 rfl rfl (ta a1) a2 (fun _=>.inl rfl) (fun i e hne he hf=>?_)
    rcases (h3.1 i e he).2.2 hf with h|h
    . omega
    rw [hb] at h;cases h
  unfold dq;simp only [Bool.and_eq_true,aI,Bool.or_eq_true,Bool.not_eq_true',decide_eq_true_eq,decide_eq_false_iff_not]
  refine ⟨⟨by omega,by omega⟩,⟨by omega,by omega⟩,.inr trivial⟩
 have hc:(!(dT q.1 (m:Int)).down&&!(dT q.1 (m:Int)).vH&&decide ((dT q.1 (m:Int)).gen<60000))=true:=by
  rw [hx];show (!q.1.down&&!q.1.vH&&decide (q.1.gen<60000))=true
  rw [hi.1,hb];simp
  omega
 unfold gk;rw [if_pos hc];exact oD hgood hG
theorem rF {G:Int} {q:al×List ai} {ds:List aF} (h:cA G q ds) (hG:G<59000) (hl:0<=q.1.lost):cA (G+1) (eS q) ds:=by
 obtain ⟨ha,hi,hb,h1,h2⟩:=h;obtain ⟨p1,p2,p3,p4,p5,p6⟩:=bf.1 ha;have g1:=aB.1 p1;have h3:=dH.1 p3;have hlt:(q.1.lost.toNat:Int)=q.1.lost:=by omega
 have hlen:((dS (6+q.1.s)).length:Int)=6+q.1.s:=by unfold dS;rw [if_pos ⟨by omega,by omega⟩,List.length_replicate];omega
 have hgood:cA G ({q.1 with vG:=0},q.2.set q.1.lost.toNat (kF q.1.s)) ds:=by
  refine ⟨bf.2 ⟨p1,p2,?_,p4,?_,p6⟩,hi,hb,h1,h2⟩
  . refine mH p3 rfl rfl (lR (by omega) (by omega)) hlen (fun h=>by cases h) (fun i e hne he hf=>?_)
    exact (h3.1 i e he).2.2 hf
  unfold dq at p5 ⊢;simp only [Bool.and_eq_true,aI,Bool.or_eq_true,Bool.not_eq_true',decide_eq_true_eq,decide_eq_false_iff_not] at p5 ⊢
  exact ⟨p5.1,⟨by omega,by omega⟩,.inr trivial⟩
 unfold eS;exact oD hgood hG
theorem tj {G:Int} {q:al×List ai} {ds:List aF} (h:cA G q ds) (hl:0<=q.1.lost) (hbs:q.1.vG<q.1.s):cA G (iZ q) ds:=by
 obtain ⟨ha,hi,hb,h1,h2⟩:=h;have h0:cA G q ds:=⟨ha,hi,hb,h1,h2⟩;obtain ⟨p1,p2,p3,p4,p5,p6⟩:=bf.1 ha;unfold iZ;split
 . have k:fB q (cU q):=jk hi _ _ _
   rw [if_neg (by rw [(k.idle hi).1];simp)];have hm:=ia p3 k.2.1 (k.2.2 (mI p3));rw [show cU q=((cU q).1,(cU q).2) from rfl,k.1];refine ⟨bf.2 ⟨p1,p2,hm,p4,?_,p6⟩,hi,hb,h1,h2⟩
   unfold dq at p5 ⊢;simp only [Bool.and_eq_true,aI,Bool.or_eq_true,Bool.not_eq_true',decide_eq_true_eq,decide_eq_false_iff_not] at p5 ⊢
   exact ⟨p5.1,⟨by omega,by omega⟩,.inl (by omega)⟩
 exact h0
def pj (w w':World) (e:Ending) (q:al×List ai) (code:Int) (ds:List (Int×List Int)):Prop:=
 ∃(bm bd:Option Addr) (cm cd:Nat),e=.returned (.tuple #[.agg (aC q.1 (.slice bm q.2.length cm) (.slice bd ds.length cd)),.int .i64 code])/\eJ w' w.heap.size w'.heap.size bm bd q.2.length cm ds.length cd q.2 ds/\Below w.heap.size w w'
theorem ja {w w4:World} {R lo:Nat} {y:al} {ns:List ai} {ds:List (Int×List Int)} {vm vd:Option Addr} {cvm cvd:Nat} {fm fd:List Nat} {e:Ending} {T:TypeId} {cs:Array Value} {code:Int} (hb:Below w.heap.size w w4) (_:Box w4 R T cs) (he:e=.returned (.tuple #[.agg (aC y (.slice vm ns.length cvm) (.slice vd ds.length cvd)),.int .i64 code])) (hm:(bt 171 101).Mine w4 [.slice vm ns.length cvm] ns fm) (hd:(aU 90).Mine w4 [.slice vd ds.length cvd] ds fd) (hr:∀b∈fm,b∉fd) (rm:∀b∈fm,lo<=b) (rd:∀b∈fd,lo<=b) (h1:w.heap.size<=R) (h2:R<lo):
 pj w (bK w4 R [(0,.int .i64 y.id),(1,.int .i64 y.n),(2,.int .i64 y.s),(3,.slice vm ns.length cvm),(4,.int .i64 y.lost),(5,.int .i64 y.vG),(6,.int .i64 y.seq),(7,.int .i64 y.tail),(8,.int .i64 y.gen),(9,.slice vd ds.length cvd),(10,.int .i64 y.vI),(11,.bool y.down),(12,.bool y.vH)]) e (y,ns) code ds:=by
 have hbt:=bN R [(0,.int .i64 y.id),(1,.int .i64 y.n),(2,.int .i64 y.s),(3,.slice vm ns.length cvm),(4,.int .i64 y.lost),(5,.int .i64 y.vG),(6,.int .i64 y.seq),(7,.int .i64 y.tail),(8,.int .i64 y.gen),(9,.slice vd ds.length cvd),(10,.int .i64 y.vI),(11,.bool y.down),(12,.bool y.vH)] w4;have hz:=hbt.size;have hlm:=hm.lt;have hld:=hd.lt;refine ⟨vm,vd,cvm,cvd,he,⟨fm,fd,hm.but hbt (fun b hb=>by have:=rm b hb;omega),hd.but hbt (fun b hb=>by have:=rd b hb;omega),hr,fun b hb=>?_,fun b hb=>?_⟩,Below.andBut hb hbt h1⟩
 . have h3:=rm b hb
   have h4:=hlm b hb;omega
 have h3:=rd b hb;have h4:=hld b hb;omega
theorem bP (w:World) (n s:Int) (h1:3<=n) (h2:n<=5):Calls Tryz.prog 75 #[.agg #[.int .i64 n,.int .i64 s]] w fun e w'=>e=.returned (.int .i64 (n-1))/\Below w.heap.size w w':=by
 have hA:=ae w (.cells #[.int .i64 n,.int .i64 s] 25);obtain ⟨k0,k1⟩:=(bL.new w 25 n s).cells;go_enter Tryz.func75,Tryz.ntmps75
 go_wp2
 go_ret
 exact ⟨aG (by first|rfl|omega),hA⟩
theorem jb (w:World) (n s:Int):Calls Tryz.prog 153 #[.agg #[.int .i64 n,.int .i64 s]] w fun e w'=>e=.returned (.int .i64 (aX n s))/\Below w.heap.size w w':=by
 have hA:=ae w (.cells #[.int .i64 n,.int .i64 s] 25);have X:=bL.new w 25 n s;obtain ⟨k0,k1⟩:=X.cells;have zA:=X.lt;go_enter Tryz.func153,Tryz.ntmps153
 go_wp2_with fail
 refine (eV _ _ _).mono ?_
 rintro e w1 ⟨rfl,b1⟩;have X1:=X.below b1 zA;have z1:=X1.lt;obtain ⟨p0,p1⟩:=X1.cells;have B1:=Below.andThen hA b1;clear k0 k1 X b1 hA zA;by_cases hg:bF n s=true
 . obtain ⟨h1,h2,h3,h4⟩:=aB.1 hg
   have hm:=iN hg;have HB:=aa (fU hg);have gw:IntKind.i64.wrap (s*(n-1))=s*(n-1):=IntWalk.i64_in _ (by omega);go_wp2_with fail
   go_region_held3 (fun w'=>w'.cell? ⟨w.heap.size,0,none⟩=some (.int .i64 n)/\w'.cell? ⟨w.heap.size,1,none⟩=some (.int .i64 s))
    (first|(exact ⟨(b2.cell (p:=⟨w.heap.size,0,none⟩) z1).trans p0,(b2.cell (p:=⟨w.heap.size,1,none⟩) z1).trans p1⟩)|(exact ⟨p0,p1⟩)|go_keep)
    (first
     | (go_at_call 75;refine (bP _ _ _ h1 h2).mono ?_;rintro e w2 ⟨rfl,b2'⟩;have b2:Below w1.heap.size w1 w2:=(by exact (Below.refl w1.heap.size w1).drew.trans b2')))
   go_wp2
   go_ret
   exact ⟨aG (by rw [HB.out]),Below.andThen B1 b2⟩
 have hg:bF n s=false:=by simpa using hg
 go_wp2
 go_ret
 exact ⟨aG (fh hg).symm,B1⟩
theorem dI {n s t:Int}:bG n s t=true ↔ bF n s=true/\0<=t/\t<s:=by unfold bG;rw [Bool.and_eq_true,aI];constructor<;>(rintro ⟨a,b⟩;exact ⟨a,by omega⟩)
theorem ft {n s t:Int}:bG n s t=false ↔ ¬(bF n s=true/\0<=t/\t<s):=by rw [←dI];simp
theorem cg (w:World) (n s t:Int):Calls Tryz.prog 71 #[.agg #[.int .i64 n,.int .i64 s],.int .i64 t] w fun e w'=>e=.returned (.bool (bG n s t))/\Below w.heap.size w w':=by
 have hA:=ae w (.cells #[.int .i64 n,.int .i64 s] 25);have X:=bL.new w 25 n s;obtain ⟨k0,k1⟩:=X.cells;have zA:=X.lt;go_enter Tryz.func71,Tryz.ntmps71
 go_wp2_with fail
 refine (eV _ _ _).mono ?_
 rintro e w1 ⟨rfl,b1⟩;have X1:=X.below b1 zA;obtain ⟨p0,p1⟩:=X1.cells;have B1:=Below.andThen hA b1;clear k0 k1 X b1 hA zA;by_cases hg:bF n s=true
 . by_cases h1:0<=t
   . by_cases h2:t<s
     . go_wp2
       go_ret
       exact ⟨ag (by symm;rw [dI];exact ⟨hg,h1,h2⟩),B1⟩
     go_wp2
     go_ret
     exact ⟨ag (by first|(exact (ft.2 (by omega)).symm)|(rw [ft.2 (by omega)];simp;omega)),B1⟩
   go_wp2
   go_ret
   exact ⟨ag (by first|(exact (ft.2 (by omega)).symm)|(rw [ft.2 (by omega)];simp;omega)),B1⟩
 have hg:bF n s=false:=by simpa using hg
 go_wp2
 go_ret
 exact ⟨ag (by symm;rw [ft];simp [hg]),B1⟩
theorem ie (w:World) (n s t:Int):Calls Tryz.prog 15 #[.agg #[.int .i64 n,.int .i64 s],.int .i64 t] w fun e w'=>e=.returned (.int .i64 (bX n s t))/\Below w.heap.size w w':=by
 have hA:=ae w (.cells #[.int .i64 n,.int .i64 s] 25);have X:=bL.new w 25 n s;obtain ⟨k0,k1⟩:=X.cells;have zA:=X.lt;go_enter Tryz.func15,Tryz.ntmps15
 go_wp2_with fail
 refine (cg _ _ _ _).mono ?_
 rintro e w1 ⟨rfl,b1⟩;have X1:=X.below b1 zA;obtain ⟨p0,p1⟩:=X1.cells;have B1:=Below.andThen hA b1;clear k0 k1 X b1 hA zA;by_cases hg:bG n s t=true
 . obtain ⟨hg1,h1,h2⟩:=dI.1 hg
   obtain ⟨g1,g2,g3,g4⟩:=aB.1 hg1;have hm1:0<=t % n:=Int.emod_nonneg _ (by omega);have hm2:t % n<n:=Int.emod_lt_of_pos _ (by omega);have HB:Hid (bX n s t=n-1-t % n):=by unfold Hid bX;rw [if_pos hg]
   go_wp2_with fail
   go_quiet (fail)
   go_wp2
   go_ret
   exact ⟨aG (by rw [HB.out]),Below.andSame B1 ((aN.refl _).drewN _)⟩
 have hg':bG n s t=false:=by simpa using hg
 go_wp2
 go_ret
 exact ⟨aG (by unfold bX;rw [if_neg hg]),B1⟩
theorem ex {n s b:Int}:cl n s b=true ↔ 0<=b/\b<aX n s:=by unfold cl;rw [aI];omega
theorem mP {n s b:Int}:cl n s b=false ↔ ¬(0<=b/\b<aX n s):=by rw [←ex];simp
theorem jG {n s b:Int} (h:cl n s b=true):bF n s=true:=by
 rw [ex] at h;by_cases hg:bF n s=true
 . exact hg
 rw [fh (by simpa using hg)] at h;omega
theorem qu (w:World) (n s b:Int):Calls Tryz.prog 154 #[.agg #[.int .i64 n,.int .i64 s],.int .i64 b] w fun e w'=>e=.returned (.agg #[.int .i64 (bC n s b),.int .i64 (cS n s b)])/\Below w.heap.size w w':=by
 have hA:Below w.heap.size w ((w.alloc (.cells #[.int .i64 n,.int .i64 s] 25)).alloc (.cells #[.int .i64 0,.int .i64 0] 131)):=(ae w _).alloc (by simp) _;have X:bL ((w.alloc (.cells #[.int .i64 n,.int .i64 s] 25)).alloc (.cells #[.int .i64 0,.int .i64 0] 131)) w.heap.size 25 n s:=(bL.new w 25 n s).below (ae _ _) (by simp);have Y:bL ((w.alloc (.cells #[.int .i64 n,.int .i64 s] 25)).alloc (.cells #[.int .i64 0,.int .i64 0] 131)) (w.heap.size+1) 131 0 0:=by
  have:=bL.new (w.alloc (.cells #[.int .i64 n,.int .i64 s] 25)) 131 0 0;simpa using this
 obtain ⟨k0,k1⟩:=X.cells;obtain ⟨j0,j1⟩:=Y.cells;have f0:=Y.frozen 0;have f1:=Y.frozen 1;go_enter Tryz.func154,Tryz.ntmps154
 by_cases h0:0<=b
 . go_wp2_with fail
   refine (jb _ _ _).mono ?_
   rintro e w1 ⟨rfl,b1⟩;have hz:w.heap.size+1<((w.alloc (.cells #[.int .i64 n,.int .i64 s] 25)).alloc (.cells #[.int .i64 0,.int .i64 0] 131)).heap.size:=by simp
   have X1:=X.below b1 (by omega);have Y1:=Y.below b1 hz;have B1:=hA.trans (b1.mono hA.size);have hr:=eU n s;clear k0 k1 j0 j1 f0 f1 X Y hA b1 hz;obtain ⟨k0,k1⟩:=X1.cells;obtain ⟨j0,j1⟩:=Y1.cells;have f0:=Y1.frozen 0;have f1:=Y1.frozen 1;have z1:=Y1.lt;by_cases h1:b<aX n s
   . have hb:=ex.2 ⟨h0,h1⟩
     obtain ⟨g1,g2,g3,g4⟩:=aB.1 (jG hb);have HS:Hid (bC n s b=b / (n-1)):=by unfold Hid bC;rw [if_pos hb]
     have HI:Hid (cS n s b=b % (n-1)):=by unfold Hid cS;rw [if_pos hb]
     have d1:0<=b / (n-1):=Int.ediv_nonneg (by omega) (by omega);have d2:b / (n-1)<=b:=Int.ediv_le_self _ (by omega);have d3:0<=b % (n-1):=Int.emod_nonneg _ (by omega);have d4:b % (n-1)<n-1:=Int.emod_lt_of_pos _ (by omega);have e1:¬n-1=0:=by omega
     have e3:b.tmod (n-1)=b % (n-1):=Int.tmod_eq_emod_of_nonneg h0;have e2:IntKind.i64.wrap (b.tdiv (n-1))=b / (n-1):=by rw [Int.tdiv_eq_ediv_of_nonneg h0];exact IntWalk.i64_in _ (by omega)
     go_wp2_with fail
     go_region_held3 (fun w'=>w'.cell? ⟨w.heap.size,0,none⟩=some (.int .i64 n)/\w'.cell? ⟨w.heap.size,1,none⟩=some (.int .i64 s))
      (first|(exact X3.cells)|(exact X2.cells)|(exact X1.cells)|go_keep)
      (first
       | (go_at_call 75;refine (bP _ _ _ g1 g2).mono ?_;rintro e w3 ⟨rfl,b3⟩;have B3:=Below.andThen B2 b3;have X3:=X2.below b3 X2.lt;have Y3:=Y2.below b3 Y2.lt;obtain ⟨k0,k1⟩:=X3.cells;obtain ⟨j0,j1⟩:=Y3.cells;have f0:=Y3.frozen 0;have f1:=Y3.frozen 1)
       | (go_at_call 75;refine (bP _ _ _ g1 g2).mono ?_;rintro e w2 ⟨rfl,b2⟩;have B2:=Below.andThen B1.drew b2;have X2:=X1.drew.below b2 X1.lt;have Y2:=Y1.drew.below b2 Y1.lt;obtain ⟨k0,k1⟩:=X2.cells))
     have Z:=Y3.set2 (b / (n-1)) (b % (n-1));have BZ:=(B3.setCell (p:=⟨w.heap.size+1,0,none⟩) (by simp) (.int .i64 (b / (n-1)))).setCell (p:=⟨w.heap.size+1,1,none⟩) (by simp) (.int .i64 (b % (n-1)));generalize ((w3.setCell ⟨w.heap.size+1,0,none⟩ (.int .i64 (b / (n-1)))).setCell ⟨w.heap.size+1,1,none⟩ (.int .i64 (b % (n-1))))=w4 at Z BZ ⊢;obtain ⟨q0,q1⟩:=Z.cells;go_wp2
     refine bodyPost_ret (v:=.agg #[.int .i64 (b / (n-1)),.int .i64 (b % (n-1))]) (by simp [results,Tryz.results154,go_sem,q0,q1]) rfl ?_
     exact ⟨by rw [HS.out,HI.out],BZ⟩
   have HN:cl n s b=false:=mP.2 (fun h=>h1 h.2);have Z:=Y1.set2 (-1) (-1);have BZ:=(B1.setCell (p:=⟨w.heap.size+1,0,none⟩) (by simp) (.int .i64 (-1))).setCell (p:=⟨w.heap.size+1,1,none⟩) (by simp) (.int .i64 (-1));obtain ⟨q0,q1⟩:=Z.cells;go_wp2
   refine bodyPost_ret (v:=.agg #[.int .i64 (-1),.int .i64 (-1)]) (by simp [results,Tryz.results154,go_sem,q0,q1]) rfl ?_
   exact ⟨by unfold bC cS;rw [HN];rfl,BZ⟩
 have HN:cl n s b=false:=mP.2 (fun h=>h0 h.1);clear j0 j1 k0 k1 f0 f1;go_wp2
 refine bodyPost_ret (v:=.agg #[.int .i64 (-1),.int .i64 (-1)]) (by simp [results,Tryz.results154,go_sem]) rfl ?_
 exact ⟨by unfold bC cS;rw [HN];rfl,(ae w _).alloc (by simp) _⟩
def iJ (x:al):Bool:=inB x.seq 0 60000&&(inB x.tail 0 60000&&inB (x.seq-x.tail) 0 4)
theorem rG {x:al} (hg:bF x.n x.s=true):gP x.n x.s x.lost x.vG=dq x:=by
 obtain ⟨g1,g2,g3,g4⟩:=aB.1 hg;rw [Bool.eq_iff_iff,ki];unfold dq;simp only [Bool.and_eq_true,aI,Bool.or_eq_true,Bool.not_eq_true',decide_eq_false_iff_not,decide_eq_true_eq]
 omega
theorem tk (x:al):dB x=(inB x.gen 0 60000&&(inB x.vI (-1) 1000&&iJ x)):=by
 rw [Bool.eq_iff_iff];unfold dB iJ;simp only [Bool.and_eq_true,aI,decide_eq_true_eq]
 omega
theorem tm {x:al} {ms:List ai} {ds:List (Int×List Int)} (hg:bF x.n x.s=true):aZ x ms ds=(inB x.id 1 60000&&(gP x.n x.s x.lost x.vG&&(inB x.gen 0 60000&&(inB x.vI (-1) 1000&&(cJ x ms&&(iJ x&&dZ x ds)))))):=by
 unfold aZ;rw [hg,rG hg,tk];cases inB x.id 1 60000<;>cases dq x<;>cases inB x.gen 0 60000<;>cases inB x.vI (-1) 1000<;>cases cJ x ms<;>cases iJ x<;>cases dZ x ds<;>rfl
theorem mQ {x:al} {y:Int} (hg:bF x.n x.s=true):bG x.n x.s y=inB y 0 (x.s-1):=by unfold bG;rw [hg];rfl
theorem qv {zs:List Int} (h:zs.length<=12):da zs=cG zs:=by unfold da;simp [h]
theorem vB {x:al} {ds:List (Int×List Int)} {p:Nat} {y:Int} {zs:List Int} {q:Int×List Int} (hq:ds[p]?=some q) (h:y<=q.1):dj x ds (p+1) (y,zs)=false:=by
 have:ds.getD (p+1-1) (0,[])=q:=by rw [Nat.add_sub_cancel,List.getD_eq_getElem?_getD,hq];rfl
 unfold dj;rw [this];have h2:¬q.1<y:=by omega
 simp [h2]
theorem ef (w:World) (n s:Int) (hs:1<=s/\s<=8):Calls Tryz.prog 156 #[.agg #[.int .i64 n,.int .i64 s]] w fun e w'=>e=.returned (.int .i64 (6+s))/\Below w.heap.size w w':=by
 have hA:=ae w (.cells #[.int .i64 n,.int .i64 s] 25);obtain ⟨k0,k1⟩:=(bL.new w 25 n s).cells;have hd:bV s=6+s:=by unfold bV;split<;>omega
 have HD:=aa hd;clear hd;go_enter Tryz.func156,Tryz.ntmps156
 go_wp2_with fail
 refine (iS _ _).mono ?_
 rintro e w1 ⟨rfl,h1⟩;subst h1;rw [HD.out];go_wp2
 go_ret
 exact ⟨rfl,hA⟩
theorem rH (w:World) (E F:TypeId) (x:al) (am ad:Option Addr) (nm cm nd cd:Nat) (ms:List ai) (h0:(bt E F).Rd w [.slice am nm cm] ms) (hw:aV ms<=2097152) (hg:bF x.n x.s=true):
 Calls Tryz.prog 80 #[.agg #[.int .i64 x.id,.int .i64 x.n,.int .i64 x.s,.slice am nm cm,.int .i64 x.lost,.int .i64 x.vG,.int .i64 x.seq,.int .i64 x.tail,.int .i64 x.gen,.slice ad nd cd,.int .i64 x.vI,.bool x.down,.bool x.vH]] w fun e w'=>e=.returned (.bool (cJ x ms))/\Below w.heap.size w w':=by
 obtain ⟨hl,hc,hm⟩:=af h0;obtain ⟨g1,g2,g3,g4⟩:=aB.1 hg;have hA:=ae w (.cells #[.int .i64 x.id,.int .i64 x.n,.int .i64 x.s,.slice am nm cm,.int .i64 x.lost,.int .i64 x.vG,.int .i64 x.seq,.int .i64 x.tail,.int .i64 x.gen,.slice ad nd cd,.int .i64 x.vI,.bool x.down,.bool x.vH] 29);have X:=Box.new w 29 #[.int .i64 x.id,.int .i64 x.n,.int .i64 x.s,.slice am nm cm,.int .i64 x.lost,.int .i64 x.vG,.int .i64 x.seq,.int .i64 x.tail,.int .i64 x.gen,.slice ad nd cd,.int .i64 x.vI,.bool x.down,.bool x.vH];have zA:=X.lt;have hnm:nm<=2097152:=by unfold aV at hw;omega
 have h1:=h0.below hA;obtain ⟨k0,k1,k2,k3,k4,k5,k6,k7,k8,k9,k10,k11,k12⟩:=X.cells13;by_cases hN:(nm:Int)=x.n
 . have hN1:((nm:Int)==x.n)=true:=by simpa using hN
   have hN2:((nm:Int) !=x.n)=false:=by simpa using hN
   have HN:=aa hN;clear hN;go_enter Tryz.func80,Tryz.ntmps80
   go_wp2
   generalize w.alloc (.cells #[.int .i64 x.id,.int .i64 x.n,.int .i64 x.s,.slice am nm cm,.int .i64 x.lost,.int .i64 x.vG,.int .i64 x.seq,.int .i64 x.tail,.int .i64 x.gen,.slice ad nd cd,.int .i64 x.vI,.bool x.down,.bool x.vH] 29)=W at hA X zA h1 k0 k1 k2 k3 k4 k5 k6 k7 k8 k9 k10 k11 k12 ⊢;clear k0 k1 k2 k3 k4 k5 k6 k7 k8 k9 k10 k11 k12;go_loopw [15] (fun i wr=>∃j:Nat,j<=nm/\i=.int .i64 j/\(∀(q:Nat) (m:ai),q<j->ms[q]?=some m->di x q m=true)/\Below W.heap.size W wr) (fun i _=>nm-(intOf i).toNat)
   case atStart=>exact ⟨0,Nat.zero_le _,rfl,fun q m hq=>by omega,Below.refl _ _⟩
   obtain ⟨j,hj,rfl,hall,hb⟩:=hrel;have Xr:=X.below hb zA;by_cases hjn:j<nm
   . rcases dW rfl h1 with h0'|⟨b,off,rfl,hbl,hcs⟩
     . omega
     have hdj:ms[j]?=some (ms[j]'(by omega)):=List.getElem?_eq_getElem (by omega);generalize ms[j]'(by omega)=m at hdj;obtain ⟨v0,v1,v2,v3,hv0,hv1,hv2,hv3,hrv⟩:=hcs j m hdj;obtain ⟨a0,c0,a1,c1,a3,c3,ss,cs,f,bs,rfl,rfl,rfl,rfl,rfl,r0,r1,r3⟩:=fR hrv;have u0:=(hb.cell (p:=⟨b,off+j*4,none⟩) hbl).trans hv0;have u1:=(hb.cell (p:=⟨b,off+j*4+1,none⟩) hbl).trans hv1;have u2:=(hb.cell (p:=⟨b,off+j*4+2,none⟩) hbl).trans hv2;have u3:=(hb.cell (p:=⟨b,off+j*4+3,none⟩) hbl).trans hv3;have i1:(0:Int)<=(j:Int):=by omega
     have i2:(j:Int)<(nm:Int):=by omega
     have hwm:=Nat.le_trans (eN hdj) hw;have HDJ:=aa hdj;clear hcs hv0 hv1 hv2 hv3 hrv hdj;have b1:=ae wr (.cells #[.slice a0 ss.length c0,.slice a1 cs.length c1,.bool f,.slice a3 bs.length c3] 101);have Y1:=Box.new wr 101 #[.slice a0 ss.length c0,.slice a1 cs.length c1,.bool f,.slice a3 bs.length c3];have X1:=Xr.below b1 Xr.lt;have R0:=(r0.below hb).below b1;have R1:=(r1.below hb).below b1;have R3:=(r3.below hb).below b1;have B1:=hb.trans (b1.mono hb.size);clear r0 r1 r3 b1;obtain ⟨y0,y1,y2,y3⟩:=Y1.cells4;obtain ⟨e0,e1,e2,e3,e4,e5,e6,e7,e8,e9,e10,e11,e12⟩:=X1.cells13;have zy:=Y1.lt;have zx:=X1.lt;clear e0 e3 e5 e6 e7 e8 e9 e10 e11;cases hM:bp ss cs bs
     . skip
       go_wp2_with fail
       generalize wr.alloc (.cells #[.slice a0 ss.length c0,.slice a1 cs.length c1,.bool f,.slice a3 bs.length c3] 101)=w1 at X1 Y1 R0 R1 R3 B1 y0 y1 y2 y3 e1 e2 e4 e12 zy zx ⊢;refine wp_region_held_drew (S:=fun w'=>w'.cell? ⟨wr.heap.size,0,none⟩=some (.slice a0 ss.length c0)/\w'.cell? ⟨wr.heap.size,1,none⟩=some (.slice a1 cs.length c1)/\w'.cell? ⟨wr.heap.size,2,none⟩=some (.bool f)/\w'.cell? ⟨wr.heap.size,3,none⟩=some (.slice a3 bs.length c3)/\w'.cell? ⟨w.heap.size,1,none⟩=some (.int .i64 x.n)/\w'.cell? ⟨w.heap.size,2,none⟩=some (.int .i64 x.s)) (by kernel_rfl) ?_ (fun vF=>?_)
       . exact ⟨y0,y1,y2,y3,e1,e2⟩
       refine ab 0 vF ?_
       refine aq (i:=1) (by kernel_rfl) rfl (by kernel_rfl) (fun K hK=>?_)
       go_simp
       refine (ce _ E _ _ _ _ _ _ _ _ _ ss cs f bs R0.drew R1.drew R3.drew hwm).mono ?_
       rintro e w2 ⟨rfl,b2⟩;rw [hM];have b2':Below w1.heap.size w1 w2:=(Below.refl w1.heap.size w1).drew.trans b2;clear b2;go_wp2_with fail
       clear vF;refine hK.out _ _ ?_ (fun vF=>?_)
       . exact ⟨(b2'.cell (p:=⟨wr.heap.size,0,none⟩) zy).trans y0,(b2'.cell (p:=⟨wr.heap.size,1,none⟩) zy).trans y1,(b2'.cell (p:=⟨wr.heap.size,2,none⟩) zy).trans y2,(b2'.cell (p:=⟨wr.heap.size,3,none⟩) zy).trans y3,(b2'.cell (p:=⟨w.heap.size,1,none⟩) zx).trans e1,(b2'.cell (p:=⟨w.heap.size,2,none⟩) zx).trans e2⟩
       clear hK K;refine ab 2 vF ?_
       refine ab 3 vF ?_
       refine ao 4 vF ?_
       refine ao 5 vF ?_
       refine ao 6 vF ?_
       refine ao 7 vF ?_
       refine ao 8 vF ?_
       refine fN (i:=9) (by kernel_rfl) rfl (by kernel_rfl) vF ?_
       simp only [Act.put,List.setIfInBounds_toArray,List.set_cons_zero,List.set_cons_succ]
       refine ao 10 vF ?_
       refine ab 11 vF ?_
       refine wpAnyH_done (by kernel_rfl) ?_ _
       clear vF;have HB:=aa (hA.trans ((B1.trans (b2'.mono B1.size)).mono hA.size));go_wp2
       go_ret
       exact ⟨ag (by rw [show cJ x ms=false from (by unfold cJ;rw [fW HDJ.out (by unfold di;simp [hM])];rfl)]),HB.out⟩
     by_cases hS:(ss.length:Int)=6+x.s
     . have hS1:((ss.length:Int)==6+x.s)=true:=by simpa using hS
       have hS2:((ss.length:Int) !=6+x.s)=false:=by simpa using hS
       have HS:=aa hS;clear hS;cases f
       . skip
         go_wp2_with fail
         generalize wr.alloc (.cells #[.slice a0 ss.length c0,.slice a1 cs.length c1,.bool false,.slice a3 bs.length c3] 101)=w1 at X1 Y1 R0 R1 R3 B1 y0 y1 y2 y3 e1 e2 e4 e12 zy zx ⊢;refine wp_region_held_drew (S:=fun w'=>w'.cell? ⟨wr.heap.size,0,none⟩=some (.slice a0 ss.length c0)/\w'.cell? ⟨wr.heap.size,1,none⟩=some (.slice a1 cs.length c1)/\w'.cell? ⟨wr.heap.size,2,none⟩=some (.bool false)/\w'.cell? ⟨wr.heap.size,3,none⟩=some (.slice a3 bs.length c3)/\w'.cell? ⟨w.heap.size,1,none⟩=some (.int .i64 x.n)/\w'.cell? ⟨w.heap.size,2,none⟩=some (.int .i64 x.s)) (by kernel_rfl) ?_ (fun vF=>?_)
         . exact ⟨y0,y1,y2,y3,e1,e2⟩
         refine ab 0 vF ?_
         refine aq (i:=1) (by kernel_rfl) rfl (by kernel_rfl) (fun K hK=>?_)
         go_simp
         refine (ce _ E _ _ _ _ _ _ _ _ _ ss cs false bs R0.drew R1.drew R3.drew hwm).mono ?_
         rintro e w2 ⟨rfl,b2⟩;rw [hM];have b2':Below w1.heap.size w1 w2:=(Below.refl w1.heap.size w1).drew.trans b2;clear b2;go_wp2_with fail
         clear vF;refine hK.out _ _ ?_ (fun vF=>?_)
         . exact ⟨(b2'.cell (p:=⟨wr.heap.size,0,none⟩) zy).trans y0,(b2'.cell (p:=⟨wr.heap.size,1,none⟩) zy).trans y1,(b2'.cell (p:=⟨wr.heap.size,2,none⟩) zy).trans y2,(b2'.cell (p:=⟨wr.heap.size,3,none⟩) zy).trans y3,(b2'.cell (p:=⟨w.heap.size,1,none⟩) zx).trans e1,(b2'.cell (p:=⟨w.heap.size,2,none⟩) zx).trans e2⟩
         clear hK K;refine ab 2 vF ?_
         refine ab 3 vF ?_
         refine ab 4 vF ?_
         refine ab 5 vF ?_
         refine ab 6 vF ?_
         refine ab 7 vF ?_
         refine ab 8 vF ?_
         refine aq (i:=9) (by kernel_rfl) rfl (by kernel_rfl) (fun K hK=>?_)
         go_simp
         refine (ef _ x.n x.s ⟨g3,g4⟩).mono ?_
         rintro e w3 ⟨rfl,b3⟩;have b3':Below w1.heap.size w1 w3:=Below.andThen b2' b3;clear b3;go_wp2_with fail
         clear vF;refine hK.out _ _ ?_ (fun vF=>?_)
         . exact ⟨(b3'.cell (p:=⟨wr.heap.size,0,none⟩) zy).trans y0,(b3'.cell (p:=⟨wr.heap.size,1,none⟩) zy).trans y1,(b3'.cell (p:=⟨wr.heap.size,2,none⟩) zy).trans y2,(b3'.cell (p:=⟨wr.heap.size,3,none⟩) zy).trans y3,(b3'.cell (p:=⟨w.heap.size,1,none⟩) zx).trans e1,(b3'.cell (p:=⟨w.heap.size,2,none⟩) zx).trans e2⟩
         clear hK K;refine ab 10 vF ?_
         refine ab 11 vF ?_
         refine wpAnyH_done (by kernel_rfl) ?_ _
         clear vF;have n0:=(b3'.cell (p:=⟨w.heap.size,4,none⟩) zx).trans e4;have n1:=(b3'.cell (p:=⟨w.heap.size,12,none⟩) zx).trans e12;have n2:=(b3'.cell (p:=⟨wr.heap.size,2,none⟩) zy).trans y2;have HB:=aa (B1.trans (b3'.mono B1.size));have hat:di x j (ss,cs,false,bs)=true:=(by unfold di;simp [hM,HS.out]);go_wp2
         go_roundw
         case rel=>exact ⟨j+1,by omega,by go_num,fun q m hq hm'=>by
          rcases Nat.lt_or_ge q j with h|h
          . exact hall q m h hm'
          obtain rfl:q=j:=by omega
          rw [HDJ.out] at hm';cases hm';exact hat,HB.out⟩
         case measure=>simp [intOf];omega
       by_cases hL:(j:Int)=x.lost
       . have hL1:((j:Int)==x.lost)=true:=by simpa using hL
         have hL2:((j:Int) !=x.lost)=false:=by simpa using hL
         have HL:=aa hL;clear hL;go_wp2_with fail
         generalize wr.alloc (.cells #[.slice a0 ss.length c0,.slice a1 cs.length c1,.bool true,.slice a3 bs.length c3] 101)=w1 at X1 Y1 R0 R1 R3 B1 y0 y1 y2 y3 e1 e2 e4 e12 zy zx ⊢;refine wp_region_held_drew (S:=fun w'=>w'.cell? ⟨wr.heap.size,0,none⟩=some (.slice a0 ss.length c0)/\w'.cell? ⟨wr.heap.size,1,none⟩=some (.slice a1 cs.length c1)/\w'.cell? ⟨wr.heap.size,2,none⟩=some (.bool true)/\w'.cell? ⟨wr.heap.size,3,none⟩=some (.slice a3 bs.length c3)/\w'.cell? ⟨w.heap.size,1,none⟩=some (.int .i64 x.n)/\w'.cell? ⟨w.heap.size,2,none⟩=some (.int .i64 x.s)) (by kernel_rfl) ?_ (fun vF=>?_)
         . exact ⟨y0,y1,y2,y3,e1,e2⟩
         refine ab 0 vF ?_
         refine aq (i:=1) (by kernel_rfl) rfl (by kernel_rfl) (fun K hK=>?_)
         go_simp
         refine (ce _ E _ _ _ _ _ _ _ _ _ ss cs true bs R0.drew R1.drew R3.drew hwm).mono ?_
         rintro e w2 ⟨rfl,b2⟩;rw [hM];have b2':Below w1.heap.size w1 w2:=(Below.refl w1.heap.size w1).drew.trans b2;clear b2;go_wp2_with fail
         clear vF;refine hK.out _ _ ?_ (fun vF=>?_)
         . exact ⟨(b2'.cell (p:=⟨wr.heap.size,0,none⟩) zy).trans y0,(b2'.cell (p:=⟨wr.heap.size,1,none⟩) zy).trans y1,(b2'.cell (p:=⟨wr.heap.size,2,none⟩) zy).trans y2,(b2'.cell (p:=⟨wr.heap.size,3,none⟩) zy).trans y3,(b2'.cell (p:=⟨w.heap.size,1,none⟩) zx).trans e1,(b2'.cell (p:=⟨w.heap.size,2,none⟩) zx).trans e2⟩
         clear hK K;refine ab 2 vF ?_
         refine ab 3 vF ?_
         refine ab 4 vF ?_
         refine ab 5 vF ?_
         refine ab 6 vF ?_
         refine ab 7 vF ?_
         refine ab 8 vF ?_
         refine aq (i:=9) (by kernel_rfl) rfl (by kernel_rfl) (fun K hK=>?_)
         go_simp
         refine (ef _ x.n x.s ⟨g3,g4⟩).mono ?_
         rintro e w3 ⟨rfl,b3⟩;have b3':Below w1.heap.size w1 w3:=Below.andThen b2' b3;clear b3;go_wp2_with fail
         clear vF;refine hK.out _ _ ?_ (fun vF=>?_)
         . exact ⟨(b3'.cell (p:=⟨wr.heap.size,0,none⟩) zy).trans y0,(b3'.cell (p:=⟨wr.heap.size,1,none⟩) zy).trans y1,(b3'.cell (p:=⟨wr.heap.size,2,none⟩) zy).trans y2,(b3'.cell (p:=⟨wr.heap.size,3,none⟩) zy).trans y3,(b3'.cell (p:=⟨w.heap.size,1,none⟩) zx).trans e1,(b3'.cell (p:=⟨w.heap.size,2,none⟩) zx).trans e2⟩
         clear hK K;refine ab 10 vF ?_
         refine ab 11 vF ?_
         refine wpAnyH_done (by kernel_rfl) ?_ _
         clear vF;have n0:=(b3'.cell (p:=⟨w.heap.size,4,none⟩) zx).trans e4;have n1:=(b3'.cell (p:=⟨w.heap.size,12,none⟩) zx).trans e12;have n2:=(b3'.cell (p:=⟨wr.heap.size,2,none⟩) zy).trans y2;have HB:=aa (B1.trans (b3'.mono B1.size));have hat:di x j (ss,cs,true,bs)=true:=(by unfold di;simp [hM,HS.out,HL.out]);go_wp2
         go_roundw
         case rel=>exact ⟨j+1,by omega,by go_num,fun q m hq hm'=>by
          rcases Nat.lt_or_ge q j with h|h
          . exact hall q m h hm'
          obtain rfl:q=j:=by omega
          rw [HDJ.out] at hm';cases hm';exact hat,HB.out⟩
         case measure=>simp [intOf];omega
       have hL1:((j:Int)==x.lost)=false:=by simpa using hL
       have hL2:((j:Int) !=x.lost)=true:=by simpa using hL
       have HL:=aa hL;clear hL;cases hBr:x.vH
       . rw [hBr] at e12
         go_wp2_with fail
         generalize wr.alloc (.cells #[.slice a0 ss.length c0,.slice a1 cs.length c1,.bool true,.slice a3 bs.length c3] 101)=w1 at X1 Y1 R0 R1 R3 B1 y0 y1 y2 y3 e1 e2 e4 e12 zy zx ⊢;refine wp_region_held_drew (S:=fun w'=>w'.cell? ⟨wr.heap.size,0,none⟩=some (.slice a0 ss.length c0)/\w'.cell? ⟨wr.heap.size,1,none⟩=some (.slice a1 cs.length c1)/\w'.cell? ⟨wr.heap.size,2,none⟩=some (.bool true)/\w'.cell? ⟨wr.heap.size,3,none⟩=some (.slice a3 bs.length c3)/\w'.cell? ⟨w.heap.size,1,none⟩=some (.int .i64 x.n)/\w'.cell? ⟨w.heap.size,2,none⟩=some (.int .i64 x.s)) (by kernel_rfl) ?_ (fun vF=>?_)
         . exact ⟨y0,y1,y2,y3,e1,e2⟩
         refine ab 0 vF ?_
         refine aq (i:=1) (by kernel_rfl) rfl (by kernel_rfl) (fun K hK=>?_)
         go_simp
         refine (ce _ E _ _ _ _ _ _ _ _ _ ss cs true bs R0.drew R1.drew R3.drew hwm).mono ?_
         rintro e w2 ⟨rfl,b2⟩;rw [hM];have b2':Below w1.heap.size w1 w2:=(Below.refl w1.heap.size w1).drew.trans b2;clear b2;go_wp2_with fail
         clear vF;refine hK.out _ _ ?_ (fun vF=>?_)
         . exact ⟨(b2'.cell (p:=⟨wr.heap.size,0,none⟩) zy).trans y0,(b2'.cell (p:=⟨wr.heap.size,1,none⟩) zy).trans y1,(b2'.cell (p:=⟨wr.heap.size,2,none⟩) zy).trans y2,(b2'.cell (p:=⟨wr.heap.size,3,none⟩) zy).trans y3,(b2'.cell (p:=⟨w.heap.size,1,none⟩) zx).trans e1,(b2'.cell (p:=⟨w.heap.size,2,none⟩) zx).trans e2⟩
         clear hK K;refine ab 2 vF ?_
         refine ab 3 vF ?_
         refine ab 4 vF ?_
         refine ab 5 vF ?_
         refine ab 6 vF ?_
         refine ab 7 vF ?_
         refine ab 8 vF ?_
         refine aq (i:=9) (by kernel_rfl) rfl (by kernel_rfl) (fun K hK=>?_)
         go_simp
         refine (ef _ x.n x.s ⟨g3,g4⟩).mono ?_
         rintro e w3 ⟨rfl,b3⟩;have b3':Below w1.heap.size w1 w3:=Below.andThen b2' b3;clear b3;go_wp2_with fail
         clear vF;refine hK.out _ _ ?_ (fun vF=>?_)
         . exact ⟨(b3'.cell (p:=⟨wr.heap.size,0,none⟩) zy).trans y0,(b3'.cell (p:=⟨wr.heap.size,1,none⟩) zy).trans y1,(b3'.cell (p:=⟨wr.heap.size,2,none⟩) zy).trans y2,(b3'.cell (p:=⟨wr.heap.size,3,none⟩) zy).trans y3,(b3'.cell (p:=⟨w.heap.size,1,none⟩) zx).trans e1,(b3'.cell (p:=⟨w.heap.size,2,none⟩) zx).trans e2⟩
         clear hK K;refine ab 10 vF ?_
         refine ab 11 vF ?_
         refine wpAnyH_done (by kernel_rfl) ?_ _
         clear vF;have n0:=(b3'.cell (p:=⟨w.heap.size,4,none⟩) zx).trans e4;have n1:=(b3'.cell (p:=⟨w.heap.size,12,none⟩) zx).trans e12;have n2:=(b3'.cell (p:=⟨wr.heap.size,2,none⟩) zy).trans y2;have HB:=aa (hA.trans ((B1.trans (b3'.mono B1.size)).mono hA.size));go_wp2
         go_ret
         exact ⟨ag (by rw [show cJ x ms=false from (by unfold cJ;rw [fW HDJ.out (by unfold di;simp [HL.out,hBr])];rfl)]),HB.out⟩
       rw [hBr] at e12;go_wp2_with fail
       generalize wr.alloc (.cells #[.slice a0 ss.length c0,.slice a1 cs.length c1,.bool true,.slice a3 bs.length c3] 101)=w1 at X1 Y1 R0 R1 R3 B1 y0 y1 y2 y3 e1 e2 e4 e12 zy zx ⊢;refine wp_region_held_drew (S:=fun w'=>w'.cell? ⟨wr.heap.size,0,none⟩=some (.slice a0 ss.length c0)/\w'.cell? ⟨wr.heap.size,1,none⟩=some (.slice a1 cs.length c1)/\w'.cell? ⟨wr.heap.size,2,none⟩=some (.bool true)/\w'.cell? ⟨wr.heap.size,3,none⟩=some (.slice a3 bs.length c3)/\w'.cell? ⟨w.heap.size,1,none⟩=some (.int .i64 x.n)/\w'.cell? ⟨w.heap.size,2,none⟩=some (.int .i64 x.s)) (by kernel_rfl) ?_ (fun vF=>?_)
       . exact ⟨y0,y1,y2,y3,e1,e2⟩
       refine ab 0 vF ?_
       refine aq (i:=1) (by kernel_rfl) rfl (by kernel_rfl) (fun K hK=>?_)
       go_simp
       refine (ce _ E _ _ _ _ _ _ _ _ _ ss cs true bs R0.drew R1.drew R3.drew hwm).mono ?_
       rintro e w2 ⟨rfl,b2⟩;rw [hM];have b2':Below w1.heap.size w1 w2:=(Below.refl w1.heap.size w1).drew.trans b2;clear b2;go_wp2_with fail
       clear vF;refine hK.out _ _ ?_ (fun vF=>?_)
       . exact ⟨(b2'.cell (p:=⟨wr.heap.size,0,none⟩) zy).trans y0,(b2'.cell (p:=⟨wr.heap.size,1,none⟩) zy).trans y1,(b2'.cell (p:=⟨wr.heap.size,2,none⟩) zy).trans y2,(b2'.cell (p:=⟨wr.heap.size,3,none⟩) zy).trans y3,(b2'.cell (p:=⟨w.heap.size,1,none⟩) zx).trans e1,(b2'.cell (p:=⟨w.heap.size,2,none⟩) zx).trans e2⟩
       clear hK K;refine ab 2 vF ?_
       refine ab 3 vF ?_
       refine ab 4 vF ?_
       refine ab 5 vF ?_
       refine ab 6 vF ?_
       refine ab 7 vF ?_
       refine ab 8 vF ?_
       refine aq (i:=9) (by kernel_rfl) rfl (by kernel_rfl) (fun K hK=>?_)
       go_simp
       refine (ef _ x.n x.s ⟨g3,g4⟩).mono ?_
       rintro e w3 ⟨rfl,b3⟩;have b3':Below w1.heap.size w1 w3:=Below.andThen b2' b3;clear b3;go_wp2_with fail
       clear vF;refine hK.out _ _ ?_ (fun vF=>?_)
       . exact ⟨(b3'.cell (p:=⟨wr.heap.size,0,none⟩) zy).trans y0,(b3'.cell (p:=⟨wr.heap.size,1,none⟩) zy).trans y1,(b3'.cell (p:=⟨wr.heap.size,2,none⟩) zy).trans y2,(b3'.cell (p:=⟨wr.heap.size,3,none⟩) zy).trans y3,(b3'.cell (p:=⟨w.heap.size,1,none⟩) zx).trans e1,(b3'.cell (p:=⟨w.heap.size,2,none⟩) zx).trans e2⟩
       clear hK K;refine ab 10 vF ?_
       refine ab 11 vF ?_
       refine wpAnyH_done (by kernel_rfl) ?_ _
       clear vF;have n0:=(b3'.cell (p:=⟨w.heap.size,4,none⟩) zx).trans e4;have n1:=(b3'.cell (p:=⟨w.heap.size,12,none⟩) zx).trans e12;have n2:=(b3'.cell (p:=⟨wr.heap.size,2,none⟩) zy).trans y2;have HB:=aa (B1.trans (b3'.mono B1.size));have hat:di x j (ss,cs,true,bs)=true:=(by unfold di;simp [hM,HS.out,hBr]);go_wp2
       go_roundw
       case rel=>exact ⟨j+1,by omega,by go_num,fun q m hq hm'=>by
        rcases Nat.lt_or_ge q j with h|h
        . exact hall q m h hm'
        obtain rfl:q=j:=by omega
        rw [HDJ.out] at hm';cases hm';exact hat,HB.out⟩
       case measure=>simp [intOf];omega
     have hS1:((ss.length:Int)==6+x.s)=false:=by simpa using hS
     have hS2:((ss.length:Int) !=6+x.s)=true:=by simpa using hS
     have HS:=aa hS;clear hS;go_wp2_with fail
     generalize wr.alloc (.cells #[.slice a0 ss.length c0,.slice a1 cs.length c1,.bool f,.slice a3 bs.length c3] 101)=w1 at X1 Y1 R0 R1 R3 B1 y0 y1 y2 y3 e1 e2 e4 e12 zy zx ⊢;refine wp_region_held_drew (S:=fun w'=>w'.cell? ⟨wr.heap.size,0,none⟩=some (.slice a0 ss.length c0)/\w'.cell? ⟨wr.heap.size,1,none⟩=some (.slice a1 cs.length c1)/\w'.cell? ⟨wr.heap.size,2,none⟩=some (.bool f)/\w'.cell? ⟨wr.heap.size,3,none⟩=some (.slice a3 bs.length c3)/\w'.cell? ⟨w.heap.size,1,none⟩=some (.int .i64 x.n)/\w'.cell? ⟨w.heap.size,2,none⟩=some (.int .i64 x.s)) (by kernel_rfl) ?_ (fun vF=>?_)
     . exact ⟨y0,y1,y2,y3,e1,e2⟩
     refine ab 0 vF ?_
     refine aq (i:=1) (by kernel_rfl) rfl (by kernel_rfl) (fun K hK=>?_)
     go_simp
     refine (ce _ E _ _ _ _ _ _ _ _ _ ss cs f bs R0.drew R1.drew R3.drew hwm).mono ?_
     rintro e w2 ⟨rfl,b2⟩;rw [hM];have b2':Below w1.heap.size w1 w2:=(Below.refl w1.heap.size w1).drew.trans b2;clear b2;go_wp2_with fail
     clear vF;refine hK.out _ _ ?_ (fun vF=>?_)
     . exact ⟨(b2'.cell (p:=⟨wr.heap.size,0,none⟩) zy).trans y0,(b2'.cell (p:=⟨wr.heap.size,1,none⟩) zy).trans y1,(b2'.cell (p:=⟨wr.heap.size,2,none⟩) zy).trans y2,(b2'.cell (p:=⟨wr.heap.size,3,none⟩) zy).trans y3,(b2'.cell (p:=⟨w.heap.size,1,none⟩) zx).trans e1,(b2'.cell (p:=⟨w.heap.size,2,none⟩) zx).trans e2⟩
     clear hK K;refine ab 2 vF ?_
     refine ab 3 vF ?_
     refine ab 4 vF ?_
     refine ab 5 vF ?_
     refine ab 6 vF ?_
     refine ab 7 vF ?_
     refine ab 8 vF ?_
     refine aq (i:=9) (by kernel_rfl) rfl (by kernel_rfl) (fun K hK=>?_)
     go_simp
     refine (ef _ x.n x.s ⟨g3,g4⟩).mono ?_
     rintro e w3 ⟨rfl,b3⟩;have b3':Below w1.heap.size w1 w3:=Below.andThen b2' b3;clear b3;go_wp2_with fail
     clear vF;refine hK.out _ _ ?_ (fun vF=>?_)
     . exact ⟨(b3'.cell (p:=⟨wr.heap.size,0,none⟩) zy).trans y0,(b3'.cell (p:=⟨wr.heap.size,1,none⟩) zy).trans y1,(b3'.cell (p:=⟨wr.heap.size,2,none⟩) zy).trans y2,(b3'.cell (p:=⟨wr.heap.size,3,none⟩) zy).trans y3,(b3'.cell (p:=⟨w.heap.size,1,none⟩) zx).trans e1,(b3'.cell (p:=⟨w.heap.size,2,none⟩) zx).trans e2⟩
     clear hK K;refine ab 10 vF ?_
     refine ab 11 vF ?_
     refine wpAnyH_done (by kernel_rfl) ?_ _
     clear vF;have n0:=(b3'.cell (p:=⟨w.heap.size,4,none⟩) zx).trans e4;have n1:=(b3'.cell (p:=⟨w.heap.size,12,none⟩) zx).trans e12;have n2:=(b3'.cell (p:=⟨wr.heap.size,2,none⟩) zy).trans y2;have HB:=aa (hA.trans ((B1.trans (b3'.mono B1.size)).mono hA.size));go_wp2
     go_ret
     exact ⟨ag (by rw [show cJ x ms=false from (by unfold cJ;rw [fW HDJ.out (by unfold di;simp [HS.out])];rfl)]),HB.out⟩
   have e:j=nm:=by omega
   subst e;have hAll:kR (di x) ms=true:=dy.2 (fun q m hq=>hall q m (by have:=(List.getElem?_eq_some_iff.1 hq).1;omega) hq);have HB:=aa (hA.trans (hb.mono hA.size));have hR:cJ x ms=true:=by unfold cJ;rw [hAll,hl];simpa using HN.out
   go_wp2
   go_ret
   exact ⟨ag hR.symm,HB.out⟩
 have hN1:((nm:Int)==x.n)=false:=by simpa using hN
 have hN2:((nm:Int) !=x.n)=true:=by simpa using hN
 have hR:cJ x ms=false:=by unfold cJ;rw [hl];simp [hN]
 have HR:=aa hR;clear hN hR;go_enter Tryz.func80,Tryz.ntmps80
 go_wp2
 go_ret
 exact ⟨ag HR.out.symm,hA⟩
end Go.Proofs.YtejeekndbnpmoaaGreat

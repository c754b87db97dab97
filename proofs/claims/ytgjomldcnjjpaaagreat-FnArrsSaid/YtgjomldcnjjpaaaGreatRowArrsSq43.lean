/-
 The walk of the specification's l11Fail: a disk fails that is there. Conditions: the power goes within 1000 operations, or stays; every disk is right; Gen 0 to 60000.
-/
import Derived.Test.YtgjomldcnjjpaaaGreatRowArrsSq40
import Derived.Test.YtgjomldcnjjpaaaGreatRowArrsSq36
import Derived.Test.YtgjomldcnjjpaaaGreatRowArrsSq1
import Derived.Test.YtgjomldcnjjpaaaGreatRowArrsSq22
import Derived.Test.YtgjomldcnjjpaaaGreatRowArrsSq14

set_option maxRecDepth 100000
set_option maxHeartbeats 8000000
set_option linter.unusedSimpArgs false

namespace Go.Proofs.YtgjomldcnjjpaaaGreat
open Go.RowKit

theorem sc {c:Bool} {p G:Prop} (hc:c=true) (h:if c=true then p else G):p:=by
 rw [if_pos hc] at h;exact h
theorem iP {a b:Int} {p:Prop} (h:(Ending.returned (Value.int .i64 a)=.returned (.int .i64 b))/\p):(Ending.returned (Value.int .i64 a)=.returned (.int .i64 b))/\p:=h
theorem fN {w:World} {B:Nat} {x:aq} {ms:List ai} {ds:List (Int×List Int)} {fm fd:List Nat} (h:aK w B x ms ds fm fd):w.cell? ⟨B,11,none⟩=some (.bool x.down)/\w.cell? ⟨B,6,none⟩=some (.int .i64 x.seq)/\w.cell? ⟨B,7,none⟩=some (.int .i64 x.tail)/\∀j,w.frozen? ⟨B,j,none⟩=false:=by
 obtain ⟨bm,bd,cm,cd,X,_⟩:=h;have fz:=X.frozen;unfold bH at X;obtain ⟨k0,k1,k2,k3,k4,k5,k6,k7,k8,k9,k10,k11,k12⟩:=X.cells13;exact ⟨k11,k6,k7,fz⟩
theorem sd {w:World} {B:Nat} {x:aq} {ms:List ai} {ds:List (Int×List Int)} {fm fd:List Nat} (h:aK w B x ms ds fm fd):aK (w.setCell ⟨B,6,none⟩ (.int .i64 (x.seq+1))) B {x with seq:=x.seq+1} ms ds fm fd:=by
 obtain ⟨bm,bd,cm,cd,X,hm,hd,hr,r1,r2⟩:=h;exact ⟨bm,bd,cm,cd,X.set 6 _,hm.setCell r1 _,hd.setCell r2 _,hr,r1,r2⟩
def dnC (d:Bool):Int:=if d=true then 6 else 0
theorem se (w:World) (B:Nat) (x:aq) (ms:List ai) (ds:List (Int×List Int)) (fm fd:List Nat) (h:aK w B x ms ds fm fd) (ha:bf x ms ds=true) (hdn:x.down=false) (hsq:¬x.seq=60000) (s:Int) (hs:inB s 0 (x.s-1)=true) (ar:Option Addr) (cr:Nat) (zs:List Int) (fr:List Nat) (h5:aD.Mine w [.slice ar zs.length cr] zs fr) (h5d:∀b∈fr,b≠B/\b∉fm) (hz:(zs.length:Int)=x.n-1):Calls Tryz.prog 133 #[.pointer (some ⟨B,0,none⟩),.int .i64 s,.slice ar zs.length cr] w fun e w'=>e=.returned (.int .i64 (dnC (aZ (x,ms) s zs).1.down))/\∃fm',aK w' B (aZ (x,ms) s zs).1 (aZ (x,ms) s zs).2 ds fm' fd/\aT B fm w fm' w':=by
 obtain ⟨fc,mk,gc0,gc1⟩:=qa ha;have hln:=qO ha;have hrg:0<=x.tail/\x.tail<=x.seq/\x.seq<=60000/\x.seq<=x.tail+4/\bL x.n x.s=true:=by
  unfold bf ez at ha;simp only [Bool.and_eq_true,aG,decide_eq_true_eq] at ha
  obtain ⟨hgeo,_,_,_,_,htl,hsq2,hst,_⟩:=ha;exact ⟨htl.1,hsq2.1,hsq2.2,hst,hgeo⟩
 obtain ⟨t0,t1,t2,t3,hgeo⟩:=hrg;have FT1:=aa (ub (q:=(x,ms)) mk fc);have hl5:=h5.lt;have hlB:=h.lt;have hz4:zs.length<=4:=by omega
 have hn5:ms.length<=5:=by omega
 have HLN:Hid ((ms.length:Int)=x.n/\(zs.length:Int)=x.n-1):=⟨hln.2.2,hz⟩;have HG:=aa hgeo;have H5:=aa h5;have HD5:=aa h5d;have HS:=aa hs;have HA0:=aa h;have HDN:=aa hdn;have HC:=aa (jk w B x ms ds fm fd h fc mk gc0 gc1);have HSQ:Hid (0<=x.seq/\x.seq<60000):=⟨by omega,by omega⟩;have hwq:IntKind.i64.wrap (x.seq-x.tail)=x.seq-x.tail:=IntWalk.i64_in _ (by omega);obtain ⟨k11,k6,k7,fz0⟩:=fN h;obtain ⟨i3,hi3,hx0,hx1,hx2⟩:=info_parts Tryz.info3;clear h5 h5d hs hz hln hgeo hdn ha h fz0;go_enter Tryz.func133,Tryz.ntmps133
 go_wp2_with fail
 go_quiet (fail)
 have bq:Below w.heap.size w (w.drewN nq):=((aP.refl w).drewN nq).below _;have HA0d:=aa (HA0.out.below bq);have MV0:=aa ((aT.refl B fm w).below bq);have k11d:=(bq.cell (p:=⟨B,11,none⟩) hlB).trans k11;clear bq;generalize w.drewN nq=wd at HA0d MV0 k11d ⊢;have HCd:=aa (jk wd B x ms ds fm fd HA0d.out fc mk gc0 gc1);by_cases hfull:4<=x.seq-x.tail
 . have HW1:Hid (wr1 (x,ms)=et (x,ms)):=by unfold Hid wr1;rw [if_pos (by dsimp only;omega)]
   rw [HW1.out] at FT1;have e4:decide (4<=x.seq-x.tail)=true:=by simpa using hfull
   go_wp2_with fail
   refine HCd.out.mono ?_
   rintro e w1 ⟨rfl,fm1,hA1,hMv1⟩;have MV:=aa (MV0.out.trans hMv1);have HWA:Hid (aZ (x,ms) s zs=if (et (x,ms)).1.down=true then et (x,ms) else qP (et (x,ms)) s zs):=by unfold Hid aZ;rw [HW1.out]
   clear HW1 hMv1 HC HCd HA0d MV0 k11 k6 k7 hfull e4 k11d;generalize et (x,ms)=st at hA1 HWA FT1;obtain ⟨y,ns⟩:=st;dsimp only at hA1 HWA
   have FT:=aa FT1.out;have HA1:=aa hA1;obtain ⟨y11,_,_,_⟩:=fN hA1;clear FT1;cases hyd:y.down
   . rw [hyd] at y11
     have HW:Hid (aZ (x,ms) s zs=if (wr2 (y,ns) s zs).1.down=true then wr2 (y,ns) s zs else wr3 (wr2 (y,ns) s zs) s zs):=by unfold Hid;rw [HWA.out,if_neg (by simp [hyd])];rfl
     clear hA1 HWA hyd;obtain ⟨kM,kL,kn,ks,kq,kf⟩:=FT.out;dsimp only at kM kL kn ks kq kf
     have HN:Hid (y.n=x.n/\y.s=x.s/\y.seq=x.seq/\ns.length=ms.length):=⟨kn,ks,kq,kL⟩;have hn5y:ns.length<=5:=by omega
     have H5a:=aa (MV.out.mine H5.out (fun hm=>(HD5.out B hm).1 rfl) (fun b hb=>(HD5.out b hb).2));obtain ⟨_,c6,_,_⟩:=fN HA1.out;have zw:=HA1.out.lt;have zfm:=HA1.out.ltm.1;have FW:=aa (qQ (q:=(y,ns)) kM kf s zs);have HKM:Hid (dh ns/\y.xY<=1000):=⟨kM,kf⟩;clear kn ks kq kL kM kf;go_wp2_with fail
     have hS:w1.drew.cell? ⟨B,6,none⟩=some (.int .i64 y.seq):=c6;refine wp_region_held_drew (S:=fun w'=>w'.cell? ⟨B,6,none⟩=some (.int .i64 y.seq)) (by kernel_rfl) ?_ (fun xV=>?_)
     . exact hS
     refine ae 0 xV ?_
     refine ae 1 xV ?_
     refine ae 2 xV ?_
     refine ae 3 xV ?_
     refine ae 4 xV ?_
     refine ae 5 xV ?_
     refine ae 7 xV ?_
     have bn:=af w1 (.cells #[] 3);have zn:(w1.alloc (.cells #[] 3)).heap.size=w1.heap.size+1:=by simp
     have hS2:(w1.alloc (.cells #[] 3)).drew.cell? ⟨B,6,none⟩=some (.int .i64 y.seq):=(bn.cell (p:=⟨B,6,none⟩) zw).trans c6;have HGB:Hid ((w1.alloc (.cells #[] 3)).drew.heap[w1.heap.size]?=some (.cells #[] 3 (0,0))):=Box.new w1 3 #[];have RD:Hid (aD.Rd (w1.alloc (.cells #[] 3)).drew [.slice ar zs.length cr] zs):=(H5a.out.rd.below bn).drew;have BN:=aa bn;clear bn;refine aw (i:=6) (by kernel_rfl) rfl (by kernel_rfl) (fun K hK=>?_)
     go_simp
     clear xV;refine hK.out _ _ ?_ (fun xV=>?_)
     . exact hS2
     clear hK K;refine aw (i:=8) (by kernel_rfl) rfl (by kernel_rfl) (fun K hK=>?_)
     refine sc (G:=True) (by kernel_rfl) (eO (ops:=#[]) (by rfl) _ _ 42 (by rfl) i3 Tryz.underlying42 hi3 hx0 hx1 hx2 w1.heap.size (by rfl) HGB.out ar zs.length cr zs (by rfl) RD.out (by omega) ?_)
     intro ac cc wc fpx mx rx tx;have tx':aA [w1.heap.size] (w1.alloc (.cells #[] 3)) wc:=aA.undrew tx;have zd:(w1.alloc (.cells #[] 3)).drew.heap.size=(w1.alloc (.cells #[] 3)).heap.size:=rfl;have hbc:Below w1.heap.size w1 wc:=BN.out.trans (tx'.below (N:=w1.heap.size) (by omega) (by simp));have hS3:wc.cell? ⟨B,6,none⟩=some (.int .i64 y.seq):=(hbc.cell (p:=⟨B,6,none⟩) zw).trans c6;have rx2:∀b∈fpx,w1.heap.size<=b:=fun b hb=>by have:=rx b hb;omega
     have AC:=aa (HA1.out.below hbc);have MVc:=aa (MV.out.below hbc);have MX:=aa mx;have RX:=aa rx2;clear mx rx tx tx' rx2 hbc zd BN HGB RD hS hS2 c6 xV;refine hK.out _ _ ?_ (fun xV=>?_)
     . exact hS3
     clear hK K;simp only [Act.put,List.setIfInBounds_toArray,List.set_cons_zero,List.set_cons_succ]
     refine ae 9 xV ?_
     refine aw (i:=10) (by kernel_rfl) rfl (by kernel_rfl) (fun K hK=>?_)
     go_simp
     refine (qb _ B y ns ds fm1 fd AC.out HKM.out.2 HKM.out.1 y.seq s ac _ cc zs fpx MX.out (fun hm=>by have:=RX.out _ hm;omega) (fun b hb hm=>by have h1:=RX.out b hb;have h2:=zfm b hm;omega) (by omega)).mono ?_
     rintro e w4 ⟨rfl,fm4,hA4,hMv4⟩;have MV4:=aa (MVc.out.trans hMv4);have HR2:Hid (wr2 (y,ns) s zs=tr (y,ns) y.seq s zs):=rfl;rw [←HR2.out] at hA4;have hS4:w4.cell? ⟨B,6,none⟩=some (.int .i64 y.seq):=by
      have h1:=(fN hA4).2.1;rw [FW.out.2.2.2.2.1] at h1;exact h1
     clear HR2 hMv4 MVc AC MX RX hS3 HA1 xV;go_wp2_with fail
     refine hK.out _ _ ?_ (fun xV=>?_)
     . exact hS4
     clear hK K hS4;refine wpAnyH_done (by kernel_rfl) ?_ _
     clear xV;generalize wr2 (y,ns) s zs=st at hA4 FW HW;obtain ⟨u,ps⟩:=st;dsimp only at hA4 HW
     obtain ⟨uM,uL,un,us,uq,uf⟩:=FW.out;dsimp only at uM uL un us uq uf
     obtain ⟨d11,d6,d7,fz⟩:=fN hA4;cases hud:u.down
     . rw [hud] at d11
       have HW3:Hid (aZ (x,ms) s zs=wr3 (u,ps) s zs):=by unfold Hid;rw [HW.out,if_neg (by simp [hud])]
       have HA5:=aa (sd hA4);have MV5:=aa (MV4.out.trans (aT.set (B:=B) (j:=6) (fm:=fm4) (w:=w4) (.int .i64 (u.seq+1))));have hwr:IntKind.i64.wrap (u.seq+1)=u.seq+1:=IntWalk.i64_in _ (by have h1:=HSQ.out;have h2:=HN.out;omega);have HU:Hid (u.n=x.n/\u.s=x.s/\ps.length=ms.length):=⟨un.trans HN.out.1,us.trans HN.out.2.1,uL.trans HN.out.2.2.2⟩;have H5b:=aa (MV5.out.mine H5.out (fun hm=>(HD5.out B hm).1 rfl) (fun b hb=>(HD5.out b hb).2));have hd5:∀b∈fr,b∉fm4:=fun b hb hm=>by
        rcases MV5.out.2 b hm with h1|h1
        . exact (HD5.out b hb).2 h1
        have:=hl5 b hb;omega
       have HD9:=aa hd5;have HUF:Hid (u.xY<=1000/\dh ps):=⟨uf,uM⟩;have HRW:Hid (wr3 (u,ps) s zs=bO ({u with seq:=u.seq+1},ps) s (eS u.n u.s s) zs ps.length):=rfl;clear hA4 hud HW uM uL un us uq uf MV4 FW hd5;go_wp2_with fail
       clear d11 d6 d7 fz;generalize w4.setCell ⟨B,6,none⟩ (.int .i64 (u.seq+1))=w5 at HA5 MV5 H5b ⊢;refine (oh w5 B {u with seq:=u.seq+1} ps ds fm4 fd HA5.out HUF.out.1 HUF.out.2 s ar _ cr zs fr H5b.out (fun hm=>(HD5.out B hm).1 rfl) HD9.out (by dsimp only;rw [HU.out.1,HU.out.2.1];exact HG.out) (by dsimp only;rw [HU.out.2.1];exact HS.out) (by have h1:=HU.out;have h2:=HLN.out;dsimp only;omega) (by have h1:=HU.out;have h2:=HLN.out;dsimp only;omega)).mono ?_
       rintro e w7 ⟨rfl,fm7,hA7,hMv7⟩;have MV7:=aa (MV5.out.trans hMv7);have HW7:Hid (aZ (x,ms) s zs=bO ({u with seq:=u.seq+1},ps) s (eS u.n u.s s) zs ps.length):=by unfold Hid;rw [HW3.out];exact HRW.out
       clear hMv7 MV5 HRW HW3 HA5 H5b HD9;dsimp only at hA7
       generalize bO ({u with seq:=u.seq+1},ps) s (eS u.n u.s s) zs ps.length=st at hA7 HW7;obtain ⟨v,qs⟩:=st;dsimp only at hA7
       obtain ⟨g11,_,_,_⟩:=fN hA7;have HA7:=aa hA7;clear hA7;cases hvd:v.down
       . rw [hvd] at g11
         have HF:Hid (Ending.returned (Value.int .i64 0)=.returned (.int .i64 (dnC (aZ (x,ms) s zs).1.down))/\∃fm',aK w7 B (aZ (x,ms) s zs).1 (aZ (x,ms) s zs).2 ds fm' fd/\aT B fm w fm' w7):=by
          unfold Hid;rw [HW7.out];exact ⟨by show _=Ending.returned (.int .i64 (dnC v.down));rw [hvd];rfl,fm7,HA7.out,MV7.out⟩
         clear hvd;go_wp2
         go_ret
         exact iP HF.out
       rw [hvd] at g11;have HF:Hid (Ending.returned (Value.int .i64 6)=.returned (.int .i64 (dnC (aZ (x,ms) s zs).1.down))/\∃fm',aK w7 B (aZ (x,ms) s zs).1 (aZ (x,ms) s zs).2 ds fm' fd/\aT B fm w fm' w7):=by
        unfold Hid;rw [HW7.out];exact ⟨by show _=Ending.returned (.int .i64 (dnC v.down));rw [hvd];rfl,fm7,HA7.out,MV7.out⟩
       clear hvd;go_wp2
       go_ret
       exact iP HF.out
     rw [hud] at d11;have HWu:Hid (aZ (x,ms) s zs=(u,ps)):=by unfold Hid;rw [HW.out,if_pos hud]
     have HF:Hid (Ending.returned (Value.int .i64 6)=.returned (.int .i64 (dnC (aZ (x,ms) s zs).1.down))/\∃fm',aK w4 B (aZ (x,ms) s zs).1 (aZ (x,ms) s zs).2 ds fm' fd/\aT B fm w fm' w4):=by
      unfold Hid;rw [HWu.out];exact ⟨by show _=Ending.returned (.int .i64 (dnC u.down));rw [hud];rfl,fm4,hA4,MV4.out⟩
     clear hud hA4 HW;go_wp2
     go_ret
     exact iP HF.out
   rw [hyd] at y11;have HWu:Hid (aZ (x,ms) s zs=(y,ns)):=by unfold Hid;rw [HWA.out,if_pos hyd]
   have HF:Hid (Ending.returned (Value.int .i64 6)=.returned (.int .i64 (dnC (aZ (x,ms) s zs).1.down))/\∃fm',aK w1 B (aZ (x,ms) s zs).1 (aZ (x,ms) s zs).2 ds fm' fd/\aT B fm w fm' w1):=by
    unfold Hid;rw [HWu.out];exact ⟨by show _=Ending.returned (.int .i64 (dnC y.down));rw [hyd];rfl,fm1,hA1,MV.out⟩
   clear hyd hA1 HWA;go_wp2
   go_ret
   exact iP HF.out
 have HW1:Hid (wr1 (x,ms)=(x,ms)):=by unfold Hid wr1;rw [if_neg (by dsimp only;omega)]
 rw [HW1.out] at FT1;have e4:decide (4<=x.seq-x.tail)=false:=by simpa using hfull
 have HW:Hid (aZ (x,ms) s zs=if (wr2 (x,ms) s zs).1.down=true then wr2 (x,ms) s zs else wr3 (wr2 (x,ms) s zs) s zs):=by unfold Hid aZ;rw [HW1.out,if_neg (by dsimp only;simp [HDN.out])];rfl
 have FT:=aa FT1.out;have MV:=aa MV0.out;have HA1:=aa HA0d.out;have y11:wd.cell? ⟨B,11,none⟩=some (.bool false):=by rw [←HDN.out];exact k11d
 clear HW1 FT1 HC HCd MV0 HA0d k11 k6 k7 k11d;obtain ⟨kM,kL,kn,ks,kq,kf⟩:=FT.out;dsimp only at kM kL kn ks kq kf
 have HN:Hid (x.n=x.n/\x.s=x.s/\x.seq=x.seq/\ms.length=ms.length):=⟨kn,ks,kq,kL⟩;have hn5y:ms.length<=5:=by omega
 have H5a:=aa (MV.out.mine H5.out (fun hm=>(HD5.out B hm).1 rfl) (fun b hb=>(HD5.out b hb).2));obtain ⟨_,c6,_,_⟩:=fN HA1.out;have zw:=HA1.out.lt;have zfm:=HA1.out.ltm.1;have FW:=aa (qQ (q:=(x,ms)) kM kf s zs);have HKM:Hid (dh ms/\x.xY<=1000):=⟨kM,kf⟩;clear kn ks kq kL kM kf;go_wp2_with fail
 have hS:wd.drew.cell? ⟨B,6,none⟩=some (.int .i64 x.seq):=c6;refine wp_region_held_drew (S:=fun w'=>w'.cell? ⟨B,6,none⟩=some (.int .i64 x.seq)) (by kernel_rfl) ?_ (fun xV=>?_)
 . exact hS
 refine ae 0 xV ?_
 refine ae 1 xV ?_
 refine ae 2 xV ?_
 refine ae 3 xV ?_
 refine ae 4 xV ?_
 refine ae 5 xV ?_
 refine ae 7 xV ?_
 have bn:=af wd (.cells #[] 3);have zn:(wd.alloc (.cells #[] 3)).heap.size=wd.heap.size+1:=by simp
 have hS2:(wd.alloc (.cells #[] 3)).drew.cell? ⟨B,6,none⟩=some (.int .i64 x.seq):=(bn.cell (p:=⟨B,6,none⟩) zw).trans c6;have HGB:Hid ((wd.alloc (.cells #[] 3)).drew.heap[wd.heap.size]?=some (.cells #[] 3 (0,0))):=Box.new wd 3 #[];have RD:Hid (aD.Rd (wd.alloc (.cells #[] 3)).drew [.slice ar zs.length cr] zs):=(H5a.out.rd.below bn).drew;have BN:=aa bn;clear bn;refine aw (i:=6) (by kernel_rfl) rfl (by kernel_rfl) (fun K hK=>?_)
 go_simp
 clear xV;refine hK.out _ _ ?_ (fun xV=>?_)
 . exact hS2
 clear hK K;refine aw (i:=8) (by kernel_rfl) rfl (by kernel_rfl) (fun K hK=>?_)
 refine sc (G:=True) (by kernel_rfl) (eO (ops:=#[]) (by rfl) _ _ 42 (by rfl) i3 Tryz.underlying42 hi3 hx0 hx1 hx2 wd.heap.size (by rfl) HGB.out ar zs.length cr zs (by rfl) RD.out (by omega) ?_)
 intro ac cc wc fpx mx rx tx;have tx':aA [wd.heap.size] (wd.alloc (.cells #[] 3)) wc:=aA.undrew tx;have zd:(wd.alloc (.cells #[] 3)).drew.heap.size=(wd.alloc (.cells #[] 3)).heap.size:=rfl;have hbc:Below wd.heap.size wd wc:=BN.out.trans (tx'.below (N:=wd.heap.size) (by omega) (by simp));have hS3:wc.cell? ⟨B,6,none⟩=some (.int .i64 x.seq):=(hbc.cell (p:=⟨B,6,none⟩) zw).trans c6;have rx2:∀b∈fpx,wd.heap.size<=b:=fun b hb=>by have:=rx b hb;omega
 have AC:=aa (HA1.out.below hbc);have MVc:=aa (MV.out.below hbc);have MX:=aa mx;have RX:=aa rx2;clear mx rx tx tx' rx2 hbc zd BN HGB RD hS hS2 c6 xV;refine hK.out _ _ ?_ (fun xV=>?_)
 . exact hS3
 clear hK K;simp only [Act.put,List.setIfInBounds_toArray,List.set_cons_zero,List.set_cons_succ]
 refine ae 9 xV ?_
 refine aw (i:=10) (by kernel_rfl) rfl (by kernel_rfl) (fun K hK=>?_)
 go_simp
 refine (qb _ B x ms ds fm fd AC.out HKM.out.2 HKM.out.1 x.seq s ac _ cc zs fpx MX.out (fun hm=>by have:=RX.out _ hm;omega) (fun b hb hm=>by have h1:=RX.out b hb;have h2:=zfm b hm;omega) (by omega)).mono ?_
 rintro e w4 ⟨rfl,fm4,hA4,hMv4⟩;have MV4:=aa (MVc.out.trans hMv4);have HR2:Hid (wr2 (x,ms) s zs=tr (x,ms) x.seq s zs):=rfl;rw [←HR2.out] at hA4;have hS4:w4.cell? ⟨B,6,none⟩=some (.int .i64 x.seq):=by
  have h1:=(fN hA4).2.1;rw [FW.out.2.2.2.2.1] at h1;exact h1
 clear HR2 hMv4 MVc AC MX RX hS3 HA1 xV;go_wp2_with fail
 refine hK.out _ _ ?_ (fun xV=>?_)
 . exact hS4
 clear hK K hS4;refine wpAnyH_done (by kernel_rfl) ?_ _
 clear xV;generalize wr2 (x,ms) s zs=st at hA4 FW HW;obtain ⟨u,ps⟩:=st;dsimp only at hA4 HW
 obtain ⟨uM,uL,un,us,uq,uf⟩:=FW.out;dsimp only at uM uL un us uq uf
 obtain ⟨d11,d6,d7,fz⟩:=fN hA4;cases hud:u.down
 . rw [hud] at d11
   have HW3:Hid (aZ (x,ms) s zs=wr3 (u,ps) s zs):=by unfold Hid;rw [HW.out,if_neg (by simp [hud])]
   have HA5:=aa (sd hA4);have MV5:=aa (MV4.out.trans (aT.set (B:=B) (j:=6) (fm:=fm4) (w:=w4) (.int .i64 (u.seq+1))));have hwr:IntKind.i64.wrap (u.seq+1)=u.seq+1:=IntWalk.i64_in _ (by have h1:=HSQ.out;have h2:=HN.out;omega);have HU:Hid (u.n=x.n/\u.s=x.s/\ps.length=ms.length):=⟨un,us,uL⟩;have H5b:=aa (MV5.out.mine H5.out (fun hm=>(HD5.out B hm).1 rfl) (fun b hb=>(HD5.out b hb).2));have hd5:∀b∈fr,b∉fm4:=fun b hb hm=>by
    rcases MV5.out.2 b hm with h1|h1
    . exact (HD5.out b hb).2 h1
    have:=hl5 b hb;omega
   have HD9:=aa hd5;have HUF:Hid (u.xY<=1000/\dh ps):=⟨uf,uM⟩;have HRW:Hid (wr3 (u,ps) s zs=bO ({u with seq:=u.seq+1},ps) s (eS u.n u.s s) zs ps.length):=rfl;clear hA4 hud HW uM uL un us uq uf MV4 FW hd5;go_wp2_with fail
   clear d11 d6 d7 fz;generalize w4.setCell ⟨B,6,none⟩ (.int .i64 (u.seq+1))=w5 at HA5 MV5 H5b ⊢;refine (oh w5 B {u with seq:=u.seq+1} ps ds fm4 fd HA5.out HUF.out.1 HUF.out.2 s ar _ cr zs fr H5b.out (fun hm=>(HD5.out B hm).1 rfl) HD9.out (by dsimp only;rw [HU.out.1,HU.out.2.1];exact HG.out) (by dsimp only;rw [HU.out.2.1];exact HS.out) (by have h1:=HU.out;have h2:=HLN.out;dsimp only;omega) (by have h1:=HU.out;have h2:=HLN.out;dsimp only;omega)).mono ?_
   rintro e w7 ⟨rfl,fm7,hA7,hMv7⟩;have MV7:=aa (MV5.out.trans hMv7);have HW7:Hid (aZ (x,ms) s zs=bO ({u with seq:=u.seq+1},ps) s (eS u.n u.s s) zs ps.length):=by unfold Hid;rw [HW3.out];exact HRW.out
   clear hMv7 MV5 HRW HW3 HA5 H5b HD9;dsimp only at hA7
   generalize bO ({u with seq:=u.seq+1},ps) s (eS u.n u.s s) zs ps.length=st at hA7 HW7;obtain ⟨v,qs⟩:=st;dsimp only at hA7
   obtain ⟨g11,_,_,_⟩:=fN hA7;have HA7:=aa hA7;clear hA7;cases hvd:v.down
   . rw [hvd] at g11
     have HF:Hid (Ending.returned (Value.int .i64 0)=.returned (.int .i64 (dnC (aZ (x,ms) s zs).1.down))/\∃fm',aK w7 B (aZ (x,ms) s zs).1 (aZ (x,ms) s zs).2 ds fm' fd/\aT B fm w fm' w7):=by
      unfold Hid;rw [HW7.out];exact ⟨by show _=Ending.returned (.int .i64 (dnC v.down));rw [hvd];rfl,fm7,HA7.out,MV7.out⟩
     clear hvd;go_wp2
     go_ret
     exact iP HF.out
   rw [hvd] at g11;have HF:Hid (Ending.returned (Value.int .i64 6)=.returned (.int .i64 (dnC (aZ (x,ms) s zs).1.down))/\∃fm',aK w7 B (aZ (x,ms) s zs).1 (aZ (x,ms) s zs).2 ds fm' fd/\aT B fm w fm' w7):=by
    unfold Hid;rw [HW7.out];exact ⟨by show _=Ending.returned (.int .i64 (dnC v.down));rw [hvd];rfl,fm7,HA7.out,MV7.out⟩
   clear hvd;go_wp2
   go_ret
   exact iP HF.out
 rw [hud] at d11;have HWu:Hid (aZ (x,ms) s zs=(u,ps)):=by unfold Hid;rw [HW.out,if_pos hud]
 have HF:Hid (Ending.returned (Value.int .i64 6)=.returned (.int .i64 (dnC (aZ (x,ms) s zs).1.down))/\∃fm',aK w4 B (aZ (x,ms) s zs).1 (aZ (x,ms) s zs).2 ds fm' fd/\aT B fm w fm' w4):=by
  unfold Hid;rw [HWu.out];exact ⟨by show _=Ending.returned (.int .i64 (dnC u.down));rw [hud];rfl,fm4,hA4,MV4.out⟩
 clear hud hA4 HW;go_wp2
 go_ret
 exact iP HF.out
def jm (d:ai):ai:=(d.1,[],true,d.2.2.2)
def ep (x:aq) (m:Int):aq:=if x.lost=-1∨x.lost=m then {x with lost:=m,xW:=0} else {x with xX:=true}
def gU (q:aq×List ai) (m:Nat):aq×List ai:=if (!(ep q.1 (m:Int)).down&&!(ep q.1 (m:Int)).xX&&decide ((ep q.1 (m:Int)).gen<60000))=true then ge (ep q.1 (m:Int),q.2.set m (jm (q.2.getD m rX))) else (ep q.1 (m:Int),q.2.set m (jm (q.2.getD m rX)))
theorem wI (d:ai) (h:bF d.1 d.2.1 d.2.2.2=true):bF (jm d).1 (jm d).2.1 (jm d).2.2.2=true:=by
 unfold jm;dsimp only
 unfold bF at h ⊢;simp only [Bool.and_eq_true] at h ⊢
 simp_all
theorem jn {w:World} {B:Nat} {x:aq} {ms:List ai} {ds:List (Int×List Int)} {fm fd:List Nat} (h:aK w B x ms ds fm fd) (m:Int):aK ((w.setCell ⟨B,4,none⟩ (.int .i64 m)).setCell ⟨B,5,none⟩ (.int .i64 0)) B {x with lost:=m,xW:=0} ms ds fm fd/\aK (w.setCell ⟨B,12,none⟩ (.bool true)) B {x with xX:=true} ms ds fm fd:=by
 obtain ⟨bm,bd,cm,cd,X,hm,hd,hr,r1,r2⟩:=h;exact ⟨⟨bm,bd,cm,cd,(X.set 4 _).set 5 _,(hm.setCell r1 _).setCell r1 _,(hd.setCell r2 _).setCell r2 _,hr,r1,r2⟩,⟨bm,bd,cm,cd,X.set 12 _,hm.setCell r1 _,hd.setCell r2 _,hr,r1,r2⟩⟩
theorem iI {w:World} {B:Nat} {x:aq} {ms:List ai} {ds:List (Int×List Int)} {fm fd:List Nat} (h:aK w B x ms ds fm fd):w.cell? ⟨B,4,none⟩=some (.int .i64 x.lost)/\w.cell? ⟨B,5,none⟩=some (.int .i64 x.xW)/\w.cell? ⟨B,8,none⟩=some (.int .i64 x.gen)/\w.cell? ⟨B,11,none⟩=some (.bool x.down)/\w.cell? ⟨B,12,none⟩=some (.bool x.xX)/\∀j,w.frozen? ⟨B,j,none⟩=false:=by
 obtain ⟨bm,bd,cm,cd,X,_⟩:=h;have fz:=X.frozen;unfold bH at X;obtain ⟨k0,k1,k2,k3,k4,k5,k6,k7,k8,k9,k10,k11,k12⟩:=X.cells13;exact ⟨k4,k5,k8,k11,k12,fz⟩
theorem sl (w:World) (B:Nat) (x:aq) (ms:List ai) (ds:List (Int×List Int)) (fm fd:List Nat) (h:aK w B x ms ds fm fd) (hf:x.xY<=1000) (hM:dh ms) (hg0:0<=x.gen) (hg1:x.gen<=60000) (m:Nat) (hm:m<ms.length):
 Calls Tryz.prog 114 #[.pointer (some ⟨B,0,none⟩),.int .i64 (m:Int)] w fun e w'=>e=.returned (.tuple #[])/\∃fm',aK w' B (gU (x,ms) m).1 (gU (x,ms) m).2 ds fm' fd/\aT B fm w fm' w':=by
 obtain ⟨bm,bd,cm,cd,X,hmm,hdd,hr,r1,r2⟩:=h;have hm63:=(ag hmm.rd).2;obtain ⟨g,rfl⟩:=cY hmm (by omega);have hdj:ms[m]?=some (ms[m]'hm):=List.getElem?_eq_getElem hm;generalize ms[m]'hm=d at hdj;have hgm:ms.getD m rX=d:=iM hdj;obtain ⟨hgl,a0,a1,a3,c0,c1,c3,ss,cs,f,bs,rfl,q0,q1,q2,q3,p0,p1,p3⟩:=gh hmm hdj;have X0:=X;unfold bH at X0;have k3:=X0.cells13.2.2.2.1;have hwt:=fL (hM m _ hdj) f;dsimp only at hwt
 have zB:=X.lt;have HOK:=aa (hM.set (i:=m) (wI _ (hM m _ hdj)));have HFA:Hid (gU (x,ms) m=if (!(ep x (m:Int)).down&&!(ep x (m:Int)).xX&&decide ((ep x (m:Int)).gen<60000))=true then ge (ep x (m:Int),ms.set m (jm (ss,cs,f,bs))) else (ep x (m:Int),ms.set m (jm (ss,cs,f,bs)))):=by unfold Hid gU;dsimp only;rw [hgm]
 have XH:=aa X;have MH:=aa hmm;have DH:=aa hdd;have R0:=aa p0;have R1:=aa p1;have R3:=aa p3;have hS:w.drew.cell? ⟨B,3,none⟩=some (.slice (some ⟨g,0,none⟩) ms.length cm)/\w.drew.cell? ⟨g,m*4,none⟩=some (.slice a0 ss.length c0)/\w.drew.cell? ⟨g,m*4+1,none⟩=some (.slice a1 cs.length c1)/\w.drew.cell? ⟨g,m*4+2,none⟩=some (.bool f)/\w.drew.cell? ⟨g,m*4+3,none⟩=some (.slice a3 bs.length c3):=⟨k3,q0,q1,q2,q3⟩;have i1:(0:Int)<=(m:Int):=by omega
 have i3:(m:Int)<(ms.length:Int):=by omega
 clear X X0 hmm hdd p0 p1 p3 hM hdj hgm;go_enter Tryz.func114,Tryz.ntmps114
 go_wp2_with fail
 refine ao.start (S:=fun w'=>w'.cell? ⟨B,3,none⟩=some (.slice (some ⟨g,0,none⟩) ms.length cm)/\w'.cell? ⟨g,m*4,none⟩=some (.slice a0 ss.length c0)/\w'.cell? ⟨g,m*4+1,none⟩=some (.slice a1 cs.length c1)/\w'.cell? ⟨g,m*4+2,none⟩=some (.bool f)/\w'.cell? ⟨g,m*4+3,none⟩=some (.slice a3 bs.length c3)) (k:=14) (by kernel_rfl) ?_
 refine ao.t 0 hS ?_
 refine ao.t 1 hS ?_
 refine ao.t 2 hS ?_
 refine ao.t 3 hS ?_
 refine ao.t 4 hS ?_
 refine ao.t 5 hS ?_
 refine ao.t 6 hS ?_
 refine ao.t 7 hS ?_
 refine ao.t 8 hS ?_
 refine ao.t 9 hS ?_
 refine ao.t 10 hS ?_
 refine ao.t 11 hS ?_
 refine ao.one (i:=12) (by kernel_rfl) rfl (fun K hK=>?_)
 go_simp
 refine (iT _ 119 _ _ _ _ _ _ _ _ _ ss cs f bs R0.out.drew R1.out.drew R3.out.drew (by omega)).mono ?_
 rintro e w2 ⟨u0,u1,u3,rfl,o2,b2'⟩;have b2:Below w.heap.size w w2:=(Below.refl w.heap.size w).drew.trans b2';have o2b:(cu 119).Own w2 w.heap.size w2.heap.size [u0,u1,.bool true,u3] (ss,[],true,bs):=o2;obtain ⟨d0,l0,f0,d1,l1,f1,d3,l3,f3,hv0,hv1,hv3⟩:=cU o2b;subst hv0 hv1 hv3;obtain ⟨fpx,mx,rx⟩:=o2b.mine;obtain ⟨cOld,fz,hgm,fm9,hA9,hMv9⟩:=iz (m:=m) XH.out MH.out DH.out hr r1 r2 b2 (by omega) mx (fun b hb=>(rx b hb).1);obtain ⟨o0,t0⟩:=cOld 0 (by omega);obtain ⟨o1,t1⟩:=cOld 1 (by omega);obtain ⟨o2',t2⟩:=cOld 2 (by omega);obtain ⟨o3,t3⟩:=cOld 3 (by omega);rw [Nat.add_zero] at t0;have HA:Hid (aK _ B x (ms.set m (jm (ss,cs,f,bs))) ds fm9 fd):=hA9;have HMV:=aa hMv9;have hS2:w2.cell? ⟨B,3,none⟩=some (.slice (some ⟨g,0,none⟩) ms.length cm)/\w2.cell? ⟨g,m*4,none⟩=some (.slice a0 ss.length c0)/\w2.cell? ⟨g,m*4+1,none⟩=some (.slice a1 cs.length c1)/\w2.cell? ⟨g,m*4+2,none⟩=some (.bool f)/\w2.cell? ⟨g,m*4+3,none⟩=some (.slice a3 bs.length c3):=⟨(b2.cell (p:=⟨B,3,none⟩) zB).trans k3,(b2.cell (p:=⟨g,m*4,none⟩) hgl).trans q0,(b2.cell (p:=⟨g,m*4+1,none⟩) hgl).trans q1,(b2.cell (p:=⟨g,m*4+2,none⟩) hgl).trans q2,(b2.cell (p:=⟨g,m*4+3,none⟩) hgl).trans q3⟩;have gB:¬g=B:=fun e=>r1 (e▸hgm);unfold gL at HA HMV;clear k3 q0 q1 q2 q3 o2 o2b b2 b2' mx rx cOld hA9 hMv9 XH MH DH R0 R1 R3 hwt;go_wp2_with fail
 refine hK.out _ _ (fun _=>hS2) ?_
 clear hK K;refine ao.t 13 hS2 ?_
 refine ao.one (i:=14) (by kernel_rfl) rfl (fun K hK=>?_)
 go_simp
 refine hK.out _ _ (fun h=>absurd rfl h) ?_
 clear hK K;refine ao.done (by kernel_rfl) ?_ _
 clear hS hS2 t0 t1 t2 t3 fz;generalize (((w2.setCell ⟨g,m*4,none⟩ (.slice d0 l0 f0)).setCell ⟨g,m*4+1,none⟩ (.slice d1 l1 f1)).setCell ⟨g,m*4+2,none⟩ (.bool true)).setCell ⟨g,m*4+3,none⟩ (.slice d3 l3 f3)=w3 at HA HMV ⊢;obtain ⟨c4,c5,c8,c11,c12,fz⟩:=iI HA.out;generalize ms.set m (jm (ss,cs,f,bs))=ns at HA HFA HOK;by_cases l1:x.lost=-1
 . have hlo:x.lost=-1∨x.lost=(m:Int):=.inl l1
   have e1:(x.lost==-1)=true:=by simpa using l1
   clear l1;have HFX:Hid (ep x (m:Int)=({x with lost:=(m:Int),xW:=0}:aq)):=by unfold Hid ep;rw [if_pos hlo]
   clear hlo;have HA4:=aa (jn HA.out (m:Int)).1;have MV4:=aa ((HMV.out.trans (aT.set (B:=B) (j:=4) (fm:=fm9) (w:=w3) (.int .i64 (m:Int)))).trans (aT.set (B:=B) (j:=5) (.int .i64 0)));cases hdn:x.down
   . cases hbr:x.xX
     . by_cases hgg:x.gen<60000
       . have HV:Hid (gU (x,ms) m=ge (({x with lost:=(m:Int),xW:=0}:aq),ns)):=by unfold Hid;rw [HFA.out,HFX.out,if_pos (by simp [hdn,hbr,hgg])]
         rw [hdn] at c11;rw [hbr] at c12;clear hdn hbr;have HMK:=aa (iO _ B ({x with lost:=(m:Int),xW:=0}:aq) ns ds fm9 fd HA4.out hf HOK.out hg0 hg1);go_wp2_with fail
         refine HMK.out.mono ?_
         rintro e w5 ⟨rfl,fm5,A5,M5⟩;have HA5:=aa A5;have MV5:=aa (MV4.out.trans M5);clear A5 M5 HMK HA4 MV4;go_wp2
         refine bodyPost_end (v:=.tuple #[]) (results_none rfl _ _ _) rfl ?_
         refine ⟨rfl,fm5,?_,MV5.out⟩
         rw [HV.out];exact HA5.out
       have HV:Hid (gU (x,ms) m=(({x with lost:=(m:Int),xW:=0}:aq),ns)):=by unfold Hid;rw [HFA.out,HFX.out,if_neg (by simp [hgg])]
       rw [hdn] at c11;rw [hbr] at c12;clear hdn hbr;go_wp2
       refine bodyPost_end (v:=.tuple #[]) (results_none rfl _ _ _) rfl ?_
       refine ⟨rfl,fm9,?_,MV4.out⟩
       rw [HV.out];exact HA4.out
     have HV:Hid (gU (x,ms) m=(({x with lost:=(m:Int),xW:=0}:aq),ns)):=by unfold Hid;rw [HFA.out,HFX.out,if_neg (by simp [hbr])]
     rw [hdn] at c11;rw [hbr] at c12;clear hdn hbr;go_wp2
     refine bodyPost_end (v:=.tuple #[]) (results_none rfl _ _ _) rfl ?_
     refine ⟨rfl,fm9,?_,MV4.out⟩
     rw [HV.out];exact HA4.out
   have HV:Hid (gU (x,ms) m=(({x with lost:=(m:Int),xW:=0}:aq),ns)):=by unfold Hid;rw [HFA.out,HFX.out,if_neg (by simp [hdn])]
   rw [hdn] at c11;clear hdn;go_wp2
   refine bodyPost_end (v:=.tuple #[]) (results_none rfl _ _ _) rfl ?_
   refine ⟨rfl,fm9,?_,MV4.out⟩
   rw [HV.out];exact HA4.out
 have e1:(x.lost==-1)=false:=by simpa using l1
 by_cases l2:x.lost=(m:Int)
 . have hlo:x.lost=-1∨x.lost=(m:Int):=.inr l2
   have e2:(x.lost==(m:Int))=true:=by simpa using l2
   clear l1 l2;have HFX:Hid (ep x (m:Int)=({x with lost:=(m:Int),xW:=0}:aq)):=by unfold Hid ep;rw [if_pos hlo]
   clear hlo;have HA4:=aa (jn HA.out (m:Int)).1;have MV4:=aa ((HMV.out.trans (aT.set (B:=B) (j:=4) (fm:=fm9) (w:=w3) (.int .i64 (m:Int)))).trans (aT.set (B:=B) (j:=5) (.int .i64 0)));cases hdn:x.down
   . cases hbr:x.xX
     . by_cases hgg:x.gen<60000
       . have HV:Hid (gU (x,ms) m=ge (({x with lost:=(m:Int),xW:=0}:aq),ns)):=by unfold Hid;rw [HFA.out,HFX.out,if_pos (by simp [hdn,hbr,hgg])]
         rw [hdn] at c11;rw [hbr] at c12;clear hdn hbr;have HMK:=aa (iO _ B ({x with lost:=(m:Int),xW:=0}:aq) ns ds fm9 fd HA4.out hf HOK.out hg0 hg1);go_wp2_with fail
         refine HMK.out.mono ?_
         rintro e w5 ⟨rfl,fm5,A5,M5⟩;have HA5:=aa A5;have MV5:=aa (MV4.out.trans M5);clear A5 M5 HMK HA4 MV4;go_wp2
         refine bodyPost_end (v:=.tuple #[]) (results_none rfl _ _ _) rfl ?_
         refine ⟨rfl,fm5,?_,MV5.out⟩
         rw [HV.out];exact HA5.out
       have HV:Hid (gU (x,ms) m=(({x with lost:=(m:Int),xW:=0}:aq),ns)):=by unfold Hid;rw [HFA.out,HFX.out,if_neg (by simp [hgg])]
       rw [hdn] at c11;rw [hbr] at c12;clear hdn hbr;go_wp2
       refine bodyPost_end (v:=.tuple #[]) (results_none rfl _ _ _) rfl ?_
       refine ⟨rfl,fm9,?_,MV4.out⟩
       rw [HV.out];exact HA4.out
     have HV:Hid (gU (x,ms) m=(({x with lost:=(m:Int),xW:=0}:aq),ns)):=by unfold Hid;rw [HFA.out,HFX.out,if_neg (by simp [hbr])]
     rw [hdn] at c11;rw [hbr] at c12;clear hdn hbr;go_wp2
     refine bodyPost_end (v:=.tuple #[]) (results_none rfl _ _ _) rfl ?_
     refine ⟨rfl,fm9,?_,MV4.out⟩
     rw [HV.out];exact HA4.out
   have HV:Hid (gU (x,ms) m=(({x with lost:=(m:Int),xW:=0}:aq),ns)):=by unfold Hid;rw [HFA.out,HFX.out,if_neg (by simp [hdn])]
   rw [hdn] at c11;clear hdn;go_wp2
   refine bodyPost_end (v:=.tuple #[]) (results_none rfl _ _ _) rfl ?_
   refine ⟨rfl,fm9,?_,MV4.out⟩
   rw [HV.out];exact HA4.out
 have e2:(x.lost==(m:Int))=false:=by simpa using l2
 have HFX:Hid (ep x (m:Int)=({x with xX:=true}:aq)):=by unfold Hid ep;rw [if_neg (fun h=>h.elim l1 l2)]
 clear l1 l2;have HA4:=aa (jn HA.out (m:Int)).2;have MV4:=aa (HMV.out.trans (aT.set (B:=B) (j:=12) (fm:=fm9) (w:=w3) (.bool true)));have HV:Hid (gU (x,ms) m=(({x with xX:=true}:aq),ns)):=by unfold Hid;rw [HFA.out,HFX.out,if_neg (by simp)]
 cases hdn:x.down
 . rw [hdn] at c11
   clear hdn;go_wp2
   refine bodyPost_end (v:=.tuple #[]) (results_none rfl _ _ _) rfl ?_
   refine ⟨rfl,fm9,?_,MV4.out⟩
   rw [HV.out];exact HA4.out
 rw [hdn] at c11;clear hdn;go_wp2
 refine bodyPost_end (v:=.tuple #[]) (results_none rfl _ _ _) rfl ?_
 refine ⟨rfl,fm9,?_,MV4.out⟩
 rw [HV.out];exact HA4.out
end Go.Proofs.YtgjomldcnjjpaaaGreat

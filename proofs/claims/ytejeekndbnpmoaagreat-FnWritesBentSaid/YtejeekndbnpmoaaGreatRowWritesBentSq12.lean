/-
 Plain lemmas on entries in cells, one behind the other: how they outlast later steps. No condition; nothing of the program is named here.
-/
import Derived.Test.YtejeekndbnpmoaaGreatRowWritesBentSq10
import Derived.Test.YtejeekndbnpmoaaGreatRowWritesBentSq4
import Derived.Test.YtejeekndbnpmoaaGreatRowWritesBentSq3
import Derived.Test.YtejeekndbnpmoaaGreatRowWritesBentSq7
import Derived.Test.YtejeekndbnpmoaaGreatRowWritesBentSq6
import Derived.BigQuiet
import Derived.WalkSmall
import Derived.Handy
import Derived.Test.YtejeekndbnpmoaaGreatRowWritesBentSq11
import Derived.Test.YtejeekndbnpmoaaGreatRowWritesBentSq2
import Derived.Test.YtejeekndbnpmoaaGreatRowWritesBentSq1

set_option maxRecDepth 100000
set_option maxHeartbeats 8000000
set_option linter.unusedSimpArgs false

namespace Go.Proofs.YtejeekndbnpmoaaGreat
open Go.RowKit

theorem sY (x:Sup):(dN x).length<=9:=by unfold dN;split<;>simp
theorem gg (w:World) (B:Nat) (x:al) (ms:List ai) (ds:List (Int×List Int)) (fm fd:List Nat) (h:aD w B x ms ds fm fd) (hf:x.vI<=1000) (hM:bM ms) (hg0:0<=x.gen) (hg1:x.gen<=60000):
 Calls Tryz.prog 103 #[.pointer (some ⟨B,0,none⟩)] w fun e w'=>e=.returned (.tuple #[])/\∃fm',aD w' B (cK (x,ms)).1 (cK (x,ms)).2 ds fm' fd/\aJ B fm w fm' w':=by
 obtain ⟨x1,hx1⟩:∃x1:al,x1={x with gen:=x.gen+1}:=⟨_,rfl⟩;have hf1:x1.vI<=1000:=by rw [hx1];exact hf
 have hgen:x1.gen=x.gen+1:=by rw [hx1]
 have hgw:IntKind.i64.wrap (x.gen+1)=x.gen+1:=IntWalk.i64_in _ (by omega);have HK:Hid (∀j,_):=fun j=>ew (q:=(x1,ms)) hM hf1 j;have HMK:Hid (cK (x,ms)=aS (dl (x1,ms) ms.length) ms.length):=by rw [hx1];rfl
 obtain ⟨bm0,bd0,cm0,cd0,X0,hm0,hd0,hr0,r10,r20⟩:=h;have hmx:=(af hm0.rd).2;have A1:Hid (aD (w.setCell ⟨B,8,none⟩ (.int .i64 (x.gen+1))) B x1 ms ds fm fd):=by
  unfold Hid;rw [hx1];exact ⟨bm0,bd0,cm0,cd0,X0.set 8 (.int .i64 (x.gen+1)),hm0.setCell (g:=B) (j:=8) r10 _,hd0.setCell (g:=B) (j:=8) r20 _,hr0,r10,r20⟩
 have M1:=aa (aJ.set (B:=B) (j:=8) (fm:=fm) (w:=w) (.int .i64 (x.gen+1)));unfold aC at X0;obtain ⟨k0,k1,k2,k3,k4,k5,k6,k7,k8,k9,k10,k11,k12⟩:=X0.cells13;have fz:=X0.frozen;have hgn:0<=x1.gen/\x1.gen<=60001:=by omega
 clear X0 hm0 hd0 hr0 r10 r20 hx1 hgen;go_enter Tryz.func103,Tryz.ntmps103
 go_wp2
 generalize w.setCell ⟨B,8,none⟩ (.int .i64 (x.gen+1))=W at A1 M1 ⊢;clear k0 k1 k2 k3 k4 k5 k6 k7 k8 k9 k10 k11 k12 fz;go_loopw [2] (fun i wr=>∃(j:Nat) (fm1:List Nat),j<=ms.length/\i=.int .i64 j/\aD wr B (dl (x1,ms) j).1 (dl (x1,ms) j).2 ds fm1 fd/\aJ B fm w fm1 wr) (fun i _=>ms.length-(intOf i).toNat)
 case atStart=>exact ⟨0,fm,Nat.zero_le _,rfl,A1.out,M1.out⟩
 clear A1 M1;obtain ⟨j,fm1,hj,rfl,hA,hMv⟩:=hrel;obtain ⟨hMj,hsj,hlj⟩:=HK.out j;have hfj:=hsj.2.2.2.2.2.2.2.2.2.1;have hgj:=hsj.2.2.2.2.2.2.2.1;have HS:=aa (ip (x1,ms) j);generalize hst:dl (x1,ms) j=st at hA hMj hsj hlj hfj hgj HS;have HST:=aa hst;clear hst;obtain ⟨y,ns⟩:=st;dsimp only at hA hMj hsj hlj hfj hgj HS
 have hgy:0<=y.gen/\y.gen<=60001:=by omega
 clear hgj hsj;have HA:=aa hA;obtain ⟨bm,bd,cm,cd,X,hmm,hdd,hr,r1,r2⟩:=hA;rw [hlj] at X;unfold aC at X;have zB:=X.lt;have XH:=aa X;obtain ⟨k0,k1,k2,k3,k4,k5,k6,k7,k8,k9,k10,k11,k12⟩:=X.cells13;clear hmm hdd hr r1 r2 X;by_cases hjn:j<ms.length
 . have i2:(j:Int)<(ms.length:Int):=by omega
   have t2:y.gen.tmod 2=y.gen % 2:=Int.tmod_eq_emod_of_nonneg hgy.1;have t3:IntKind.i64.wrap (y.gen % 2)=y.gen % 2:=IntWalk.i64_in _ (by omega);have t4:¬(2:Int)=0:=by omega
   have MV:=aa hMv;clear hMv;have hS:wr.drew.cell? ⟨B,0,none⟩=some (.int .i64 y.id)/\wr.drew.cell? ⟨B,1,none⟩=some (.int .i64 y.n)/\wr.drew.cell? ⟨B,2,none⟩=some (.int .i64 y.s)/\wr.drew.cell? ⟨B,4,none⟩=some (.int .i64 y.lost)/\wr.drew.cell? ⟨B,5,none⟩=some (.int .i64 y.vG)/\wr.drew.cell? ⟨B,7,none⟩=some (.int .i64 y.tail)/\wr.drew.cell? ⟨B,8,none⟩=some (.int .i64 y.gen):=⟨k0,k1,k2,k4,k5,k7,k8⟩;go_wp2_with fail
   refine wp_region_held_drew (S:=fun w'=>w'.cell? ⟨B,0,none⟩=some (.int .i64 y.id)/\w'.cell? ⟨B,1,none⟩=some (.int .i64 y.n)/\w'.cell? ⟨B,2,none⟩=some (.int .i64 y.s)/\w'.cell? ⟨B,4,none⟩=some (.int .i64 y.lost)/\w'.cell? ⟨B,5,none⟩=some (.int .i64 y.vG)/\w'.cell? ⟨B,7,none⟩=some (.int .i64 y.tail)/\w'.cell? ⟨B,8,none⟩=some (.int .i64 y.gen)) (by kernel_rfl) ?_ (fun vF=>?_)
   . exact hS
   refine ab 0 vF ?_
   refine ab 1 vF ?_
   refine ab 2 vF ?_
   refine ab 3 vF ?_
   refine ab 4 vF ?_
   refine ab 5 vF ?_
   refine ab 6 vF ?_
   refine ab 7 vF ?_
   refine ab 8 vF ?_
   refine ab 9 vF ?_
   refine ab 10 vF ?_
   refine ab 11 vF ?_
   refine ab 12 vF ?_
   refine ab 13 vF ?_
   refine ab 14 vF ?_
   refine ab 15 vF ?_
   refine ab 16 vF ?_
   refine ab 17 vF ?_
   refine ab 18 vF ?_
   refine ab 19 vF ?_
   refine ab 20 vF ?_
   refine ab 21 vF ?_
   refine ab 22 vF ?_
   refine ab 23 vF ?_
   refine ab 24 vF ?_
   refine ab 25 vF ?_
   refine ab 26 vF ?_
   refine ab 27 vF ?_
   refine ab 28 vF ?_
   refine ab 29 vF ?_
   refine ab 30 vF ?_
   refine ab 31 vF ?_
   refine ab 32 vF ?_
   refine ab 33 vF ?_
   refine ab 34 vF ?_
   refine ab 35 vF ?_
   refine ab 36 vF ?_
   refine ab 37 vF ?_
   refine ab 38 vF ?_
   refine aq (i:=39) (by kernel_rfl) rfl (by kernel_rfl) (fun K hK=>?_)
   go_simp
   refine (gQ _ (gx y j)).mono ?_
   rintro e w2 ⟨ap,lp,cp,rfl,o2,b2'⟩;have b2:Below wr.heap.size wr w2:=(Below.refl wr.heap.size wr).drew.trans b2';have o2b:aA.Own w2 wr.heap.size w2.heap.size [.slice ap lp cp] (dN (gx y j)):=o2;obtain ⟨fpp,mp,rp⟩:=o2b.mine;have hlp:lp<=9:=by have h1:=(af o2b.rd).1;have h2:=sY (gx y j);omega
   have hS2:w2.cell? ⟨B,0,none⟩=some (.int .i64 y.id)/\w2.cell? ⟨B,1,none⟩=some (.int .i64 y.n)/\w2.cell? ⟨B,2,none⟩=some (.int .i64 y.s)/\w2.cell? ⟨B,4,none⟩=some (.int .i64 y.lost)/\w2.cell? ⟨B,5,none⟩=some (.int .i64 y.vG)/\w2.cell? ⟨B,7,none⟩=some (.int .i64 y.tail)/\w2.cell? ⟨B,8,none⟩=some (.int .i64 y.gen):=⟨(b2.cell (p:=⟨B,0,none⟩) zB).trans k0,(b2.cell (p:=⟨B,1,none⟩) zB).trans k1,(b2.cell (p:=⟨B,2,none⟩) zB).trans k2,(b2.cell (p:=⟨B,4,none⟩) zB).trans k4,(b2.cell (p:=⟨B,5,none⟩) zB).trans k5,(b2.cell (p:=⟨B,7,none⟩) zB).trans k7,(b2.cell (p:=⟨B,8,none⟩) zB).trans k8⟩;have A2:=aa (HA.out.below b2);have LT:=aa HA.out.ltm;have MV2:=aa (MV.out.below b2);have MP:=aa mp;have RP:=aa rp;clear k0 k1 k2 k3 k4 k5 k6 k7 k8 k9 k10 k11 k12 o2 o2b b2 b2' mp rp MV HA;go_wp2_with fail
   clear vF;refine hK.out _ _ ?_ (fun vF=>?_)
   . exact hS2
   clear hK K;refine aq (i:=40) (by kernel_rfl) rfl (by kernel_rfl) (fun K hK=>?_)
   go_simp
   refine (hU _ B y ns ds fm1 fd A2.out hfj hMj j (by omega) _ _ _ _ (dN (gx y j)) fpp MP.out (fun hm=>by have:=RP.out _ hm;omega) (fun b hb hm=>by have h1:=RP.out b hb;have h2:=LT.out.1 b hm;omega) (by omega)).mono ?_
   rintro e w3 ⟨rfl,fm3,hA3,hMv3⟩;have hsm:dw y (fA (y,ns) j (y.gen % 2) (dN (gx y j))).1:=gc _ _ hfj;have hS3:w3.cell? ⟨B,0,none⟩=some (.int .i64 y.id)/\w3.cell? ⟨B,1,none⟩=some (.int .i64 y.n)/\w3.cell? ⟨B,2,none⟩=some (.int .i64 y.s)/\w3.cell? ⟨B,4,none⟩=some (.int .i64 y.lost)/\w3.cell? ⟨B,5,none⟩=some (.int .i64 y.vG)/\w3.cell? ⟨B,7,none⟩=some (.int .i64 y.tail)/\w3.cell? ⟨B,8,none⟩=some (.int .i64 y.gen):=by
    obtain ⟨_,_,_,_,X3,_⟩:=hA3;unfold aC at X3;obtain ⟨k0,k1,k2,k3,k4,k5,k6,k7,k8,k9,k10,k11,k12⟩:=X3.cells13;obtain ⟨e1,e2,e3,e4,e5,e6,e7,e8,_⟩:=hsm;rw [e1] at k0;rw [e2] at k1;rw [e3] at k2;rw [e4] at k4;rw [e5] at k5;rw [e7] at k7;rw [e8] at k8;exact ⟨k0,k1,k2,k4,k5,k7,k8⟩
   have HA3:Hid (aD w3 B (dl (x1,ms) (j+1)).1 (dl (x1,ms) (j+1)).2 ds fm3 fd):=by unfold Hid;rw [HS.out];exact hA3
   have HM3:=aa (MV2.out.trans hMv3);clear hA3 hMv3 A2 MV2 MP RP LT hS2 hsm;go_wp2_with fail
   clear vF;refine hK.out _ _ ?_ (fun vF=>?_)
   . exact hS3
   clear hK K;refine wpAnyH_done (by kernel_rfl) ?_ _
   clear vF;clear hS hS3;go_wp2
   go_roundw
   case rel=>exact ⟨j+1,fm3,by omega,by go_num,HA3.out,HM3.out⟩
   case measure=>simp [intOf];omega
 have ej:j=ms.length:=by omega
 subst ej;have HMV:=aa hMv;clear hMv;go_wp2_with fail
 refine (ir _ B y ns ds fm1 fd HA.out hfj hMj).mono ?_
 rintro e w3 ⟨rfl,fm3,hA3,hMv3⟩;clear k0 k1 k2 k3 k4 k5 k6 k7 k8 k9 k10 k11 k12;go_wp2
 refine bodyPost_end (v:=.tuple #[]) (results_none rfl _ _ _) rfl ?_
 exact ⟨rfl,fm3,by rw [HMK.out,HST.out,←hlj];exact hA3,HMV.out.trans hMv3⟩
theorem gF (w:World) (B:Nat) (x:al) (ms:List ai) (ds:List (Int×List Int)) (fm fd:List Nat) (h:aD w B x ms ds fm fd) (hf:x.vI<=1000) (hM:bM ms) (hg0:0<=x.gen) (hg1:x.gen<=60000):
 Calls Tryz.prog 105 #[.pointer (some ⟨B,0,none⟩)] w fun e w'=>e=.returned (.tuple #[])/\∃fm',aD w' B (bD (x,ms)).1 (bD (x,ms)).2 ds fm' fd/\aJ B fm w fm' w':=by
 obtain ⟨hMj,hsj,hlj⟩:=dm (q:=(x,ms)) hM hf ms.length;have hfj:=hsj.2.2.2.2.2.2.2.2.2.1;have hgj:=hsj.2.2.2.2.2.2.2.1;have HC:Hid (bD (x,ms)=if (aS (x,ms) ms.length).1.down=true then aS (x,ms) ms.length else cK ({(aS (x,ms) ms.length).1 with tail:=(aS (x,ms) ms.length).1.seq},(aS (x,ms) ms.length).2)):=rfl;go_enter Tryz.func105,Tryz.ntmps105
 go_wp2_with fail
 refine (ir _ B x ms ds fm fd h hf hM).mono ?_
 rintro e w1 ⟨rfl,fm1,hA,hMv⟩;generalize aS (x,ms) ms.length=st at hA hMj hsj hlj hfj hgj HC;obtain ⟨y,ns⟩:=st;dsimp only at hA hMj hsj hlj hfj hgj HC
 have HA:=aa hA;obtain ⟨bm,bd,cm,cd,X,hmm,hdd,hr,r1,r2⟩:=hA;have X0:=X;unfold aC at X0;obtain ⟨k0,k1,k2,k3,k4,k5,k6,k7,k8,k9,k10,k11,k12⟩:=X0.cells13;have fz:=X0.frozen;cases hdn:y.down
 . rw [hdn] at k11
   have HC2:Hid (bD (x,ms)=cK ({y with tail:=y.seq},ns)):=by unfold Hid;rw [HC.out,if_neg (by simp [hdn])]
   have A2:Hid (aD (w1.setCell ⟨B,7,none⟩ (.int .i64 y.seq)) B {y with tail:=y.seq} ns ds fm1 fd):=⟨bm,bd,cm,cd,X.set 7 (.int .i64 y.seq),hmm.setCell (g:=B) (j:=7) r1 _,hdd.setCell (g:=B) (j:=7) r2 _,hr,r1,r2⟩;have M2:=aa (hMv.trans (aJ.set (B:=B) (j:=7) (fm:=fm1) (.int .i64 y.seq)));clear X X0 hmm hdd hMv HA hdn;go_wp2_with fail
   refine (gg _ B {y with tail:=y.seq} ns ds fm1 fd A2.out hfj hMj (by dsimp only;omega) (by dsimp only;omega)).mono ?_
   rintro e w3 ⟨rfl,fm3,hA3,hMv3⟩;clear k0 k1 k2 k3 k4 k5 k6 k7 k8 k9 k10 k11 k12 fz;go_wp2
   refine bodyPost_end (v:=.tuple #[]) (results_none rfl _ _ _) rfl ?_
   exact ⟨rfl,fm3,by rw [HC2.out];exact hA3,M2.out.trans hMv3⟩
 rw [hdn] at k11;have HC2:Hid (bD (x,ms)=(y,ns)):=by unfold Hid;rw [HC.out,if_pos hdn]
 clear X X0 hmm hdd hdn;go_wp2
 refine bodyPost_ret (v:=.tuple #[]) (by simp [results,Tryz.results105,go_sem]) rfl ?_
 exact ⟨rfl,fm1,by rw [HC2.out];exact HA.out,hMv⟩
theorem pV (w:World) (x:al) (am ad:Option Addr) (nm cm nd cd:Nat) (m:Int):
 Calls Tryz.prog 126 #[.agg #[.int .i64 x.id,.int .i64 x.n,.int .i64 x.s,.slice am nm cm,.int .i64 x.lost,.int .i64 x.vG,.int .i64 x.seq,.int .i64 x.tail,.int .i64 x.gen,.slice ad nd cd,.int .i64 x.vI,.bool x.down,.bool x.vH],.int .i64 m] w fun e w'=>e=.returned (.bool (inB m 0 ((nm:Int)-1)))/\Below w.heap.size w w':=by
 have hA:=ae w (.cells #[.int .i64 x.id,.int .i64 x.n,.int .i64 x.s,.slice am nm cm,.int .i64 x.lost,.int .i64 x.vG,.int .i64 x.seq,.int .i64 x.tail,.int .i64 x.gen,.slice ad nd cd,.int .i64 x.vI,.bool x.down,.bool x.vH] 29);have X:=Box.new w 29 #[.int .i64 x.id,.int .i64 x.n,.int .i64 x.s,.slice am nm cm,.int .i64 x.lost,.int .i64 x.vG,.int .i64 x.seq,.int .i64 x.tail,.int .i64 x.gen,.slice ad nd cd,.int .i64 x.vI,.bool x.down,.bool x.vH];have k3:=X.cells13.2.2.2.1;have HI:Hid (inB m 0 ((nm:Int)-1)=(decide (0<=m)&&decide (m<(nm:Int)))):=by
  unfold Hid inB;congr 1
  rw [decide_eq_decide];omega
 by_cases h:0<=m
 . by_cases h2:m<(nm:Int)
   . go_enter Tryz.func126,Tryz.ntmps126
     go_wp2
     go_ret
     exact ⟨ag (by rw [HI.out];simp [h,h2]),hA⟩
   go_enter Tryz.func126,Tryz.ntmps126
   go_wp2
   go_ret
   exact ⟨ag (by rw [HI.out];simp [h2]),hA⟩
 go_enter Tryz.func126,Tryz.ntmps126
 go_wp2
 go_ret
 exact ⟨ag (by rw [HI.out,show decide (0<=m)=false from (by simpa using h)];rfl),hA⟩
def DiskV (w:World) (E:TypeId) (x:al) (ms:List ai) (j:Nat) (v:Value):Prop:=
 ∃(a0 a1 a3:Option Addr) (c0 c1 c3:Nat) (ss:List (List Int)) (cs:List (Int×List Int)) (f:Bool) (bs:List Int),ms[j]?=some (ss,cs,f,bs)/\aT.Rd w [.slice a0 ss.length c0] ss/\(aU E).Rd w [.slice a1 cs.length c1] cs/\aA.Rd w [.slice a3 bs.length c3] bs /\
  ((f=true/\v=.iface 123 (.agg #[]))∨(f=false/\(j:Int)=x.lost/\v=.iface 127 (.agg #[.slice a0 ss.length c0,.slice a1 cs.length c1,.bool false,.slice a3 bs.length c3,.int .i64 x.vG]))∨(f=false/\¬(j:Int)=x.lost/\v=.iface 129 (.agg #[.slice a0 ss.length c0,.slice a1 cs.length c1,.bool false,.slice a3 bs.length c3])))
theorem qY (w:World) (E F:TypeId) (x:al) (am ad:Option Addr) (nm cm nd cd:Nat) (ms:List ai) (j:Nat) (h0:(bt E F).Rd w [.slice am nm cm] ms) (hw:aV ms<=2097152) (hj:j<nm):
 Calls Tryz.prog 73 #[.agg #[.int .i64 x.id,.int .i64 x.n,.int .i64 x.s,.slice am nm cm,.int .i64 x.lost,.int .i64 x.vG,.int .i64 x.seq,.int .i64 x.tail,.int .i64 x.gen,.slice ad nd cd,.int .i64 x.vI,.bool x.down,.bool x.vH],.int .i64 (j:Int)] w fun e w'=>∃v,e=.returned v/\DiskV w' E x ms j v/\Below w.heap.size w w':=by
 obtain ⟨hl,hc,hm⟩:=af h0;have hnm:nm<=2097152:=by unfold aV at hw;omega
 have hA:=ae w (.cells #[.int .i64 x.id,.int .i64 x.n,.int .i64 x.s,.slice am nm cm,.int .i64 x.lost,.int .i64 x.vG,.int .i64 x.seq,.int .i64 x.tail,.int .i64 x.gen,.slice ad nd cd,.int .i64 x.vI,.bool x.down,.bool x.vH] 29);have X:=Box.new w 29 #[.int .i64 x.id,.int .i64 x.n,.int .i64 x.s,.slice am nm cm,.int .i64 x.lost,.int .i64 x.vG,.int .i64 x.seq,.int .i64 x.tail,.int .i64 x.gen,.slice ad nd cd,.int .i64 x.vI,.bool x.down,.bool x.vH];obtain ⟨k0,k1,k2,k3,k4,k5,k6,k7,k8,k9,k10,k11,k12⟩:=X.cells13;have h1:=h0.below hA;have i1:(0:Int)<=(j:Int):=by omega
 have i2:(j:Int)<(nm:Int):=by omega
 rcases dW rfl h1 with h0'|⟨b,off,rfl,hbl,hcs⟩
 . omega
 have hdj:ms[j]?=some (ms[j]'(by omega)):=List.getElem?_eq_getElem (by omega);generalize ms[j]'(by omega)=d at hdj;obtain ⟨v0,v1,v2,v3,hv0,hv1,hv2,hv3,hrv⟩:=hcs j d hdj;obtain ⟨a0,c0,a1,c1,a3,c3,ss,cs,f,bs,rfl,rfl,rfl,rfl,rfl,r0,r1,r3⟩:=fR hrv;clear hcs hrv h1 h0;have HR:=aa (And.intro hdj (And.intro r0 (And.intro r1 r3)));clear hdj r0 r1 r3;cases f
 . by_cases hjl:(j:Int)=x.lost
   . have e1:((j:Int)==x.lost)=true:=by simpa using hjl
     have HJ:=aa hjl;clear hjl;go_enter Tryz.func73,Tryz.ntmps73
     go_wp2
     go_quiet (fail)
     go_wp2
     refine bodyPost_ret (v:=.iface 127 (.agg #[.slice a0 ss.length c0,.slice a1 cs.length c1,.bool false,.slice a3 bs.length c3,.int .i64 x.vG])) (by simp [results,Tryz.results73,go_sem]) rfl ?_
     exact ⟨_,rfl,⟨_,_,_,_,_,_,ss,cs,false,bs,HR.out.1,HR.out.2.1.below (below_drewN (Below.refl _ _) _),HR.out.2.2.1.below (below_drewN (Below.refl _ _) _),HR.out.2.2.2.below (below_drewN (Below.refl _ _) _),.inr (.inl ⟨rfl,HJ.out,rfl⟩)⟩,below_drewN hA _⟩
   have e1:((j:Int)==x.lost)=false:=by simpa using hjl
   have HJ:=aa hjl;clear hjl;go_enter Tryz.func73,Tryz.ntmps73
   go_wp2
   refine bodyPost_ret (v:=.iface 129 (.agg #[.slice a0 ss.length c0,.slice a1 cs.length c1,.bool false,.slice a3 bs.length c3])) (by simp [results,Tryz.results73,go_sem]) rfl ?_
   exact ⟨_,rfl,⟨_,_,_,_,_,_,ss,cs,false,bs,HR.out.1,HR.out.2.1,HR.out.2.2.1,HR.out.2.2.2,.inr (.inr ⟨rfl,HJ.out,rfl⟩)⟩,hA⟩
 go_enter Tryz.func73,Tryz.ntmps73
 go_wp2
 refine bodyPost_ret (v:=.iface 123 (.agg #[])) (by simp [results,Tryz.results73,go_sem]) rfl ?_
 exact ⟨_,rfl,⟨_,_,_,_,_,_,ss,cs,true,bs,HR.out.1,HR.out.2.1,HR.out.2.2.1,HR.out.2.2.2,.inl ⟨rfl,rfl⟩⟩,hA⟩
theorem uo (w:World) (v0 v1 v2 v3:Value):Sem.run Tryz.prog (Instr.typeAssert (.iface 129 (.agg #[v0,v1,v2,v3])) 65 129 true) w=.ok (.tuple #[.agg #[v0,v1,v2,v3],.bool true]) w:=by kernel_rfl
theorem qZ (w:World) (v:Value):Sem.run Tryz.prog (Instr.typeAssert (.iface 127 v) 65 129 true) w=.ok (.tuple #[.agg #[.slice none 0 0,.slice none 0 0,.bool false,.slice none 0 0],.bool false]) w:=by kernel_rfl
theorem pb (w:World) (v:Value):Sem.run Tryz.prog (Instr.typeAssert (.iface 123 v) 65 129 true) w=.ok (.tuple #[.agg #[.slice none 0 0,.slice none 0 0,.bool false,.slice none 0 0],.bool false]) w:=by kernel_rfl
theorem vq (w:World) (v0 v1 v2 v3 v4:Value):Sem.run Tryz.prog (Instr.typeAssert (.iface 127 (.agg #[v0,v1,v2,v3,v4])) 65 127 true) w=.ok (.tuple #[.agg #[v0,v1,v2,v3,v4],.bool true]) w:=by kernel_rfl
theorem pW (w:World) (v:Value):Sem.run Tryz.prog (Instr.typeAssert (.iface 123 v) 65 127 true) w=.ok (.tuple #[.agg #[.slice none 0 0,.slice none 0 0,.bool false,.slice none 0 0,.int .i64 0],.bool false]) w:=by kernel_rfl
theorem pX (w:World) (a0 a1 a3:Option Addr) (n0 c0 n1 c1 n3 c3:Nat) (f:Bool) (s:Int):Calls Tryz.prog 152 #[.iface 129 (.agg #[.slice a0 n0 c0,.slice a1 n1 c1,.bool f,.slice a3 n3 c3]),.int .i64 s] w fun e w'=>e=.returned (.bool true)/\Below w.heap.size w w':=by
 have hA:=ae w (.cells #[.slice a0 n0 c0,.slice a1 n1 c1,.bool f,.slice a3 n3 c3] 129);have s1:=uo w (.slice a0 n0 c0) (.slice a1 n1 c1) (.bool f) (.slice a3 n3 c3);go_enter Tryz.func152,Tryz.ntmps152
 go_wp2
 go_ret
 exact ⟨rfl,hA⟩
theorem ra (w:World) (a0 a1 a3:Option Addr) (n0 c0 n1 c1 n3 c3:Nat) (f:Bool) (b s:Int):Calls Tryz.prog 152 #[.iface 127 (.agg #[.slice a0 n0 c0,.slice a1 n1 c1,.bool f,.slice a3 n3 c3,.int .i64 b]),.int .i64 s] w fun e w'=>e=.returned (.bool (decide (s<b)))/\Below w.heap.size w w':=by
 have hA:=ae w (.cells #[.slice a0 n0 c0,.slice a1 n1 c1,.bool f,.slice a3 n3 c3,.int .i64 b] 127);have s1:=qZ w (.agg #[.slice a0 n0 c0,.slice a1 n1 c1,.bool f,.slice a3 n3 c3,.int .i64 b]);have s2:=vq w (.slice a0 n0 c0) (.slice a1 n1 c1) (.bool f) (.slice a3 n3 c3) (.int .i64 b);go_enter Tryz.func152,Tryz.ntmps152
 go_wp2
 go_ret
 exact ⟨rfl,hA⟩
theorem pe (w:World) (s:Int):Calls Tryz.prog 152 #[.iface 123 (.agg #[]),.int .i64 s] w fun e w'=>e=.returned (.bool false)/\w'=w:=by
 have s1:=pb w (.agg #[]);have s2:=pW w (.agg #[]);go_enter Tryz.func152,Tryz.ntmps152
 go_wp2
 go_ret
 exact ⟨rfl,rfl⟩
theorem pY {c:Bool} {p G:Prop} (hc:c=true) (h:if c=true then p else G):p:=by
 rw [if_pos hc] at h;exact h
theorem iy {a b:Int} {p:Prop} (h:(Ending.returned (Value.int .i64 a)=.returned (.int .i64 b))/\p):(Ending.returned (Value.int .i64 a)=.returned (.int .i64 b))/\p:=h
theorem eX {w:World} {B:Nat} {x:al} {ms:List ai} {ds:List (Int×List Int)} {fm fd:List Nat} (h:aD w B x ms ds fm fd):w.cell? ⟨B,11,none⟩=some (.bool x.down)/\w.cell? ⟨B,6,none⟩=some (.int .i64 x.seq)/\w.cell? ⟨B,7,none⟩=some (.int .i64 x.tail)/\∀j,w.frozen? ⟨B,j,none⟩=false:=by
 obtain ⟨bm,bd,cm,cd,X,_⟩:=h;have fz:=X.frozen;unfold aC at X;obtain ⟨k0,k1,k2,k3,k4,k5,k6,k7,k8,k9,k10,k11,k12⟩:=X.cells13;exact ⟨k11,k6,k7,fz⟩
theorem pZ {w:World} {B:Nat} {x:al} {ms:List ai} {ds:List (Int×List Int)} {fm fd:List Nat} (h:aD w B x ms ds fm fd):aD (w.setCell ⟨B,6,none⟩ (.int .i64 (x.seq+1))) B {x with seq:=x.seq+1} ms ds fm fd:=by
 obtain ⟨bm,bd,cm,cd,X,hm,hd,hr,r1,r2⟩:=h;exact ⟨bm,bd,cm,cd,X.set 6 _,hm.setCell r1 _,hd.setCell r2 _,hr,r1,r2⟩
def dnC (d:Bool):Int:=if d=true then 6 else 0
theorem kX (w:World) (B:Nat) (x:al) (ms:List ai) (ds:List (Int×List Int)) (fm fd:List Nat) (h:aD w B x ms ds fm fd) (ha:aZ x ms ds=true) (hdn:x.down=false) (hsq:¬x.seq=60000) (s:Int) (hs:inB s 0 (x.s-1)=true) (ar:Option Addr) (cr:Nat) (zs:List Int) (fr:List Nat) (h5:aA.Mine w [.slice ar zs.length cr] zs fr) (h5d:∀b∈fr,b≠B/\b∉fm) (hz:(zs.length:Int)=x.n-1):Calls Tryz.prog 96 #[.pointer (some ⟨B,0,none⟩),.int .i64 s,.slice ar zs.length cr] w fun e w'=>e=.returned (.int .i64 (dnC (aH (x,ms) s zs).1.down))/\∃fm',aD w' B (aH (x,ms) s zs).1 (aH (x,ms) s zs).2 ds fm' fd/\aJ B fm w fm' w':=by
 obtain ⟨fc,mk,gc0,gc1⟩:=cH ha;have hln:=eg ha;have hrg:0<=x.tail/\x.tail<=x.seq/\x.seq<=60000/\x.seq<=x.tail+4/\bF x.n x.s=true:=by
  unfold aZ dB at ha;simp only [Bool.and_eq_true,aI,decide_eq_true_eq] at ha
  obtain ⟨hgeo,_,_,_,_,htl,hsq2,hst,_⟩:=ha;exact ⟨htl.1,hsq2.1,hsq2.2,hst,hgeo⟩
 obtain ⟨t0,t1,t2,t3,hgeo⟩:=hrg;have FT1:=aa (oZ (q:=(x,ms)) mk fc);have hl5:=h5.lt;have hlB:=h.lt;have hz4:zs.length<=4:=by omega
 have hn5:ms.length<=5:=by omega
 have HLN:Hid ((ms.length:Int)=x.n/\(zs.length:Int)=x.n-1):=⟨hln.2.2,hz⟩;have HG:=aa hgeo;have H5:=aa h5;have HD5:=aa h5d;have HS:=aa hs;have HA0:=aa h;have HDN:=aa hdn;have HC:=aa (gF w B x ms ds fm fd h fc mk gc0 gc1);have HSQ:Hid (0<=x.seq/\x.seq<60000):=⟨by omega,by omega⟩;have hwq:IntKind.i64.wrap (x.seq-x.tail)=x.seq-x.tail:=IntWalk.i64_in _ (by omega);obtain ⟨k11,k6,k7,fz0⟩:=eX h;obtain ⟨i3,hi3,hx0,hx1,hx2⟩:=info_parts Tryz.info3;clear h5 h5d hs hz hln hgeo hdn ha h fz0;go_enter Tryz.func96,Tryz.ntmps96
 go_wp2_with fail
 go_quiet (fail)
 have bq:Below w.heap.size w (w.drewN nq):=((aN.refl w).drewN nq).below _;have HA0d:=aa (HA0.out.below bq);have MV0:=aa ((aJ.refl B fm w).below bq);have k11d:=(bq.cell (p:=⟨B,11,none⟩) hlB).trans k11;clear bq;generalize w.drewN nq=wd at HA0d MV0 k11d ⊢;have HCd:=aa (gF wd B x ms ds fm fd HA0d.out fc mk gc0 gc1);by_cases hfull:4<=x.seq-x.tail
 . have HW1:Hid (wr1 (x,ms)=bD (x,ms)):=by unfold Hid wr1;rw [if_pos (by dsimp only;omega)]
   rw [HW1.out] at FT1;have e4:decide (4<=x.seq-x.tail)=true:=by simpa using hfull
   go_wp2_with fail
   refine HCd.out.mono ?_
   rintro e w1 ⟨rfl,fm1,hA1,hMv1⟩;have MV:=aa (MV0.out.trans hMv1);have HWA:Hid (aH (x,ms) s zs=if (bD (x,ms)).1.down=true then bD (x,ms) else mt (bD (x,ms)) s zs):=by unfold Hid aH;rw [HW1.out]
   clear HW1 hMv1 HC HCd HA0d MV0 k11 k6 k7 hfull e4 k11d;generalize bD (x,ms)=st at hA1 HWA FT1;obtain ⟨y,ns⟩:=st;dsimp only at hA1 HWA
   have FT:=aa FT1.out;have HA1:=aa hA1;obtain ⟨y11,_,_,_⟩:=eX hA1;clear FT1;cases hyd:y.down
   . rw [hyd] at y11
     have HW:Hid (aH (x,ms) s zs=if (wr2 (y,ns) s zs).1.down=true then wr2 (y,ns) s zs else wr3 (wr2 (y,ns) s zs) s zs):=by unfold Hid;rw [HWA.out,if_neg (by simp [hyd])];rfl
     clear hA1 HWA hyd;obtain ⟨kM,kL,kn,ks,kq,kf⟩:=FT.out;dsimp only at kM kL kn ks kq kf
     have HN:Hid (y.n=x.n/\y.s=x.s/\y.seq=x.seq/\ns.length=ms.length):=⟨kn,ks,kq,kL⟩;have hn5y:ns.length<=5:=by omega
     have H5a:=aa (MV.out.mine H5.out (fun hm=>(HD5.out B hm).1 rfl) (fun b hb=>(HD5.out b hb).2));obtain ⟨_,c6,_,_⟩:=eX HA1.out;have zw:=HA1.out.lt;have zfm:=HA1.out.ltm.1;have FW:=aa (jS (q:=(y,ns)) kM kf s zs);have HKM:Hid (bM ns/\y.vI<=1000):=⟨kM,kf⟩;clear kn ks kq kL kM kf;go_wp2_with fail
     have hS:w1.drew.cell? ⟨B,6,none⟩=some (.int .i64 y.seq):=c6;refine wp_region_held_drew (S:=fun w'=>w'.cell? ⟨B,6,none⟩=some (.int .i64 y.seq)) (by kernel_rfl) ?_ (fun vF=>?_)
     . exact hS
     refine ab 0 vF ?_
     refine ab 1 vF ?_
     refine ab 2 vF ?_
     refine ab 3 vF ?_
     refine ab 4 vF ?_
     refine ab 5 vF ?_
     refine ab 7 vF ?_
     have bn:=ae w1 (.cells #[] 3);have zn:(w1.alloc (.cells #[] 3)).heap.size=w1.heap.size+1:=by simp
     have hS2:(w1.alloc (.cells #[] 3)).drew.cell? ⟨B,6,none⟩=some (.int .i64 y.seq):=(bn.cell (p:=⟨B,6,none⟩) zw).trans c6;have HGB:Hid ((w1.alloc (.cells #[] 3)).drew.heap[w1.heap.size]?=some (.cells #[] 3 (0,0))):=Box.new w1 3 #[];have RD:Hid (aA.Rd (w1.alloc (.cells #[] 3)).drew [.slice ar zs.length cr] zs):=(H5a.out.rd.below bn).drew;have BN:=aa bn;clear bn;refine aq (i:=6) (by kernel_rfl) rfl (by kernel_rfl) (fun K hK=>?_)
     go_simp
     clear vF;refine hK.out _ _ ?_ (fun vF=>?_)
     . exact hS2
     clear hK K;refine aq (i:=8) (by kernel_rfl) rfl (by kernel_rfl) (fun K hK=>?_)
     refine pY (G:=True) (by kernel_rfl) (dL (ops:=#[]) (by rfl) _ _ 31 (by rfl) i3 Tryz.underlying31 hi3 hx0 hx1 hx2 w1.heap.size (by rfl) HGB.out ar zs.length cr zs (by rfl) RD.out (by omega) ?_)
     intro ac cc wc fpx mx rx tx;have tx':aw [w1.heap.size] (w1.alloc (.cells #[] 3)) wc:=aw.undrew tx;have zd:(w1.alloc (.cells #[] 3)).drew.heap.size=(w1.alloc (.cells #[] 3)).heap.size:=rfl;have hbc:Below w1.heap.size w1 wc:=BN.out.trans (tx'.below (N:=w1.heap.size) (by omega) (by simp));have hS3:wc.cell? ⟨B,6,none⟩=some (.int .i64 y.seq):=(hbc.cell (p:=⟨B,6,none⟩) zw).trans c6;have rx2:∀b∈fpx,w1.heap.size<=b:=fun b hb=>by have:=rx b hb;omega
     have AC:=aa (HA1.out.below hbc);have MVc:=aa (MV.out.below hbc);have MX:=aa mx;have RX:=aa rx2;clear mx rx tx tx' rx2 hbc zd BN HGB RD hS hS2 c6 vF;refine hK.out _ _ ?_ (fun vF=>?_)
     . exact hS3
     clear hK K;simp only [Act.put,List.setIfInBounds_toArray,List.set_cons_zero,List.set_cons_succ]
     refine ab 9 vF ?_
     refine aq (i:=10) (by kernel_rfl) rfl (by kernel_rfl) (fun K hK=>?_)
     go_simp
     refine (oe _ B y ns ds fm1 fd AC.out HKM.out.2 HKM.out.1 y.seq s ac _ cc zs fpx MX.out (fun hm=>by have:=RX.out _ hm;omega) (fun b hb hm=>by have h1:=RX.out b hb;have h2:=zfm b hm;omega) (by omega)).mono ?_
     rintro e w4 ⟨rfl,fm4,hA4,hMv4⟩;have MV4:=aa (MVc.out.trans hMv4);have HR2:Hid (wr2 (y,ns) s zs=qW (y,ns) y.seq s zs):=rfl;rw [←HR2.out] at hA4;have hS4:w4.cell? ⟨B,6,none⟩=some (.int .i64 y.seq):=by
      have h1:=(eX hA4).2.1;rw [FW.out.2.2.2.2.1] at h1;exact h1
     clear HR2 hMv4 MVc AC MX RX hS3 HA1 vF;go_wp2_with fail
     refine hK.out _ _ ?_ (fun vF=>?_)
     . exact hS4
     clear hK K hS4;refine wpAnyH_done (by kernel_rfl) ?_ _
     clear vF;generalize wr2 (y,ns) s zs=st at hA4 FW HW;obtain ⟨u,ps⟩:=st;dsimp only at hA4 HW
     obtain ⟨uM,uL,un,us,uq,uf⟩:=FW.out;dsimp only at uM uL un us uq uf
     obtain ⟨d11,d6,d7,fz⟩:=eX hA4;cases hud:u.down
     . rw [hud] at d11
       have HW3:Hid (aH (x,ms) s zs=wr3 (u,ps) s zs):=by unfold Hid;rw [HW.out,if_neg (by simp [hud])]
       have HA5:=aa (pZ hA4);have MV5:=aa (MV4.out.trans (aJ.set (B:=B) (j:=6) (fm:=fm4) (w:=w4) (.int .i64 (u.seq+1))));have hwr:IntKind.i64.wrap (u.seq+1)=u.seq+1:=IntWalk.i64_in _ (by have h1:=HSQ.out;have h2:=HN.out;omega);have HU:Hid (u.n=x.n/\u.s=x.s/\ps.length=ms.length):=⟨un.trans HN.out.1,us.trans HN.out.2.1,uL.trans HN.out.2.2.2⟩;have H5b:=aa (MV5.out.mine H5.out (fun hm=>(HD5.out B hm).1 rfl) (fun b hb=>(HD5.out b hb).2));have hd5:∀b∈fr,b∉fm4:=fun b hb hm=>by
        rcases MV5.out.2 b hm with h1|h1
        . exact (HD5.out b hb).2 h1
        have:=hl5 b hb;omega
       have HD9:=aa hd5;have HUF:Hid (u.vI<=1000/\bM ps):=⟨uf,uM⟩;have HRW:Hid (wr3 (u,ps) s zs=bg ({u with seq:=u.seq+1},ps) s (bX u.n u.s s) zs ps.length):=rfl;clear hA4 hud HW uM uL un us uq uf MV4 FW hd5;go_wp2_with fail
       clear d11 d6 d7 fz;generalize w4.setCell ⟨B,6,none⟩ (.int .i64 (u.seq+1))=w5 at HA5 MV5 H5b ⊢;refine (lZ w5 B {u with seq:=u.seq+1} ps ds fm4 fd HA5.out HUF.out.1 HUF.out.2 s ar _ cr zs fr H5b.out (fun hm=>(HD5.out B hm).1 rfl) HD9.out (by dsimp only;rw [HU.out.1,HU.out.2.1];exact HG.out) (by dsimp only;rw [HU.out.2.1];exact HS.out) (by have h1:=HU.out;have h2:=HLN.out;dsimp only;omega) (by have h1:=HU.out;have h2:=HLN.out;dsimp only;omega)).mono ?_
       rintro e w7 ⟨rfl,fm7,hA7,hMv7⟩;have MV7:=aa (MV5.out.trans hMv7);have HW7:Hid (aH (x,ms) s zs=bg ({u with seq:=u.seq+1},ps) s (bX u.n u.s s) zs ps.length):=by unfold Hid;rw [HW3.out];exact HRW.out
       clear hMv7 MV5 HRW HW3 HA5 H5b HD9;dsimp only at hA7
       generalize bg ({u with seq:=u.seq+1},ps) s (bX u.n u.s s) zs ps.length=st at hA7 HW7;obtain ⟨v,qs⟩:=st;dsimp only at hA7
       obtain ⟨g11,_,_,_⟩:=eX hA7;have HA7:=aa hA7;clear hA7;cases hvd:v.down
       . rw [hvd] at g11
         have HF:Hid (Ending.returned (Value.int .i64 0)=.returned (.int .i64 (dnC (aH (x,ms) s zs).1.down))/\∃fm',aD w7 B (aH (x,ms) s zs).1 (aH (x,ms) s zs).2 ds fm' fd/\aJ B fm w fm' w7):=by
          unfold Hid;rw [HW7.out];exact ⟨by show _=Ending.returned (.int .i64 (dnC v.down));rw [hvd];rfl,fm7,HA7.out,MV7.out⟩
         clear hvd;go_wp2
         go_ret
         exact iy HF.out
       rw [hvd] at g11;have HF:Hid (Ending.returned (Value.int .i64 6)=.returned (.int .i64 (dnC (aH (x,ms) s zs).1.down))/\∃fm',aD w7 B (aH (x,ms) s zs).1 (aH (x,ms) s zs).2 ds fm' fd/\aJ B fm w fm' w7):=by
        unfold Hid;rw [HW7.out];exact ⟨by show _=Ending.returned (.int .i64 (dnC v.down));rw [hvd];rfl,fm7,HA7.out,MV7.out⟩
       clear hvd;go_wp2
       go_ret
       exact iy HF.out
     rw [hud] at d11;have HWu:Hid (aH (x,ms) s zs=(u,ps)):=by unfold Hid;rw [HW.out,if_pos hud]
     have HF:Hid (Ending.returned (Value.int .i64 6)=.returned (.int .i64 (dnC (aH (x,ms) s zs).1.down))/\∃fm',aD w4 B (aH (x,ms) s zs).1 (aH (x,ms) s zs).2 ds fm' fd/\aJ B fm w fm' w4):=by
      unfold Hid;rw [HWu.out];exact ⟨by show _=Ending.returned (.int .i64 (dnC u.down));rw [hud];rfl,fm4,hA4,MV4.out⟩
     clear hud hA4 HW;go_wp2
     go_ret
     exact iy HF.out
   rw [hyd] at y11;have HWu:Hid (aH (x,ms) s zs=(y,ns)):=by unfold Hid;rw [HWA.out,if_pos hyd]
   have HF:Hid (Ending.returned (Value.int .i64 6)=.returned (.int .i64 (dnC (aH (x,ms) s zs).1.down))/\∃fm',aD w1 B (aH (x,ms) s zs).1 (aH (x,ms) s zs).2 ds fm' fd/\aJ B fm w fm' w1):=by
    unfold Hid;rw [HWu.out];exact ⟨by show _=Ending.returned (.int .i64 (dnC y.down));rw [hyd];rfl,fm1,hA1,MV.out⟩
   clear hyd hA1 HWA;go_wp2
   go_ret
   exact iy HF.out
 have HW1:Hid (wr1 (x,ms)=(x,ms)):=by unfold Hid wr1;rw [if_neg (by dsimp only;omega)]
 rw [HW1.out] at FT1;have e4:decide (4<=x.seq-x.tail)=false:=by simpa using hfull
 have HW:Hid (aH (x,ms) s zs=if (wr2 (x,ms) s zs).1.down=true then wr2 (x,ms) s zs else wr3 (wr2 (x,ms) s zs) s zs):=by unfold Hid aH;rw [HW1.out,if_neg (by dsimp only;simp [HDN.out])];rfl
 have FT:=aa FT1.out;have MV:=aa MV0.out;have HA1:=aa HA0d.out;have y11:wd.cell? ⟨B,11,none⟩=some (.bool false):=by rw [←HDN.out];exact k11d
 clear HW1 FT1 HC HCd MV0 HA0d k11 k6 k7 k11d;obtain ⟨kM,kL,kn,ks,kq,kf⟩:=FT.out;dsimp only at kM kL kn ks kq kf
 have HN:Hid (x.n=x.n/\x.s=x.s/\x.seq=x.seq/\ms.length=ms.length):=⟨kn,ks,kq,kL⟩;have hn5y:ms.length<=5:=by omega
 have H5a:=aa (MV.out.mine H5.out (fun hm=>(HD5.out B hm).1 rfl) (fun b hb=>(HD5.out b hb).2));obtain ⟨_,c6,_,_⟩:=eX HA1.out;have zw:=HA1.out.lt;have zfm:=HA1.out.ltm.1;have FW:=aa (jS (q:=(x,ms)) kM kf s zs);have HKM:Hid (bM ms/\x.vI<=1000):=⟨kM,kf⟩;clear kn ks kq kL kM kf;go_wp2_with fail
 have hS:wd.drew.cell? ⟨B,6,none⟩=some (.int .i64 x.seq):=c6;refine wp_region_held_drew (S:=fun w'=>w'.cell? ⟨B,6,none⟩=some (.int .i64 x.seq)) (by kernel_rfl) ?_ (fun vF=>?_)
 . exact hS
 refine ab 0 vF ?_
 refine ab 1 vF ?_
 refine ab 2 vF ?_
 refine ab 3 vF ?_
 refine ab 4 vF ?_
 refine ab 5 vF ?_
 refine ab 7 vF ?_
 have bn:=ae wd (.cells #[] 3);have zn:(wd.alloc (.cells #[] 3)).heap.size=wd.heap.size+1:=by simp
 have hS2:(wd.alloc (.cells #[] 3)).drew.cell? ⟨B,6,none⟩=some (.int .i64 x.seq):=(bn.cell (p:=⟨B,6,none⟩) zw).trans c6;have HGB:Hid ((wd.alloc (.cells #[] 3)).drew.heap[wd.heap.size]?=some (.cells #[] 3 (0,0))):=Box.new wd 3 #[];have RD:Hid (aA.Rd (wd.alloc (.cells #[] 3)).drew [.slice ar zs.length cr] zs):=(H5a.out.rd.below bn).drew;have BN:=aa bn;clear bn;refine aq (i:=6) (by kernel_rfl) rfl (by kernel_rfl) (fun K hK=>?_)
 go_simp
 clear vF;refine hK.out _ _ ?_ (fun vF=>?_)
 . exact hS2
 clear hK K;refine aq (i:=8) (by kernel_rfl) rfl (by kernel_rfl) (fun K hK=>?_)
 refine pY (G:=True) (by kernel_rfl) (dL (ops:=#[]) (by rfl) _ _ 31 (by rfl) i3 Tryz.underlying31 hi3 hx0 hx1 hx2 wd.heap.size (by rfl) HGB.out ar zs.length cr zs (by rfl) RD.out (by omega) ?_)
 intro ac cc wc fpx mx rx tx;have tx':aw [wd.heap.size] (wd.alloc (.cells #[] 3)) wc:=aw.undrew tx;have zd:(wd.alloc (.cells #[] 3)).drew.heap.size=(wd.alloc (.cells #[] 3)).heap.size:=rfl;have hbc:Below wd.heap.size wd wc:=BN.out.trans (tx'.below (N:=wd.heap.size) (by omega) (by simp));have hS3:wc.cell? ⟨B,6,none⟩=some (.int .i64 x.seq):=(hbc.cell (p:=⟨B,6,none⟩) zw).trans c6;have rx2:∀b∈fpx,wd.heap.size<=b:=fun b hb=>by have:=rx b hb;omega
 have AC:=aa (HA1.out.below hbc);have MVc:=aa (MV.out.below hbc);have MX:=aa mx;have RX:=aa rx2;clear mx rx tx tx' rx2 hbc zd BN HGB RD hS hS2 c6 vF;refine hK.out _ _ ?_ (fun vF=>?_)
 . exact hS3
 clear hK K;simp only [Act.put,List.setIfInBounds_toArray,List.set_cons_zero,List.set_cons_succ]
 refine ab 9 vF ?_
 refine aq (i:=10) (by kernel_rfl) rfl (by kernel_rfl) (fun K hK=>?_)
 go_simp
 refine (oe _ B x ms ds fm fd AC.out HKM.out.2 HKM.out.1 x.seq s ac _ cc zs fpx MX.out (fun hm=>by have:=RX.out _ hm;omega) (fun b hb hm=>by have h1:=RX.out b hb;have h2:=zfm b hm;omega) (by omega)).mono ?_
 rintro e w4 ⟨rfl,fm4,hA4,hMv4⟩;have MV4:=aa (MVc.out.trans hMv4);have HR2:Hid (wr2 (x,ms) s zs=qW (x,ms) x.seq s zs):=rfl;rw [←HR2.out] at hA4;have hS4:w4.cell? ⟨B,6,none⟩=some (.int .i64 x.seq):=by
  have h1:=(eX hA4).2.1;rw [FW.out.2.2.2.2.1] at h1;exact h1
 clear HR2 hMv4 MVc AC MX RX hS3 HA1 vF;go_wp2_with fail
 refine hK.out _ _ ?_ (fun vF=>?_)
 . exact hS4
 clear hK K hS4;refine wpAnyH_done (by kernel_rfl) ?_ _
 clear vF;generalize wr2 (x,ms) s zs=st at hA4 FW HW;obtain ⟨u,ps⟩:=st;dsimp only at hA4 HW
 obtain ⟨uM,uL,un,us,uq,uf⟩:=FW.out;dsimp only at uM uL un us uq uf
 obtain ⟨d11,d6,d7,fz⟩:=eX hA4;cases hud:u.down
 . rw [hud] at d11
   have HW3:Hid (aH (x,ms) s zs=wr3 (u,ps) s zs):=by unfold Hid;rw [HW.out,if_neg (by simp [hud])]
   have HA5:=aa (pZ hA4);have MV5:=aa (MV4.out.trans (aJ.set (B:=B) (j:=6) (fm:=fm4) (w:=w4) (.int .i64 (u.seq+1))));have hwr:IntKind.i64.wrap (u.seq+1)=u.seq+1:=IntWalk.i64_in _ (by have h1:=HSQ.out;have h2:=HN.out;omega);have HU:Hid (u.n=x.n/\u.s=x.s/\ps.length=ms.length):=⟨un,us,uL⟩;have H5b:=aa (MV5.out.mine H5.out (fun hm=>(HD5.out B hm).1 rfl) (fun b hb=>(HD5.out b hb).2));have hd5:∀b∈fr,b∉fm4:=fun b hb hm=>by
    rcases MV5.out.2 b hm with h1|h1
    . exact (HD5.out b hb).2 h1
    have:=hl5 b hb;omega
   have HD9:=aa hd5;have HUF:Hid (u.vI<=1000/\bM ps):=⟨uf,uM⟩;have HRW:Hid (wr3 (u,ps) s zs=bg ({u with seq:=u.seq+1},ps) s (bX u.n u.s s) zs ps.length):=rfl;clear hA4 hud HW uM uL un us uq uf MV4 FW hd5;go_wp2_with fail
   clear d11 d6 d7 fz;generalize w4.setCell ⟨B,6,none⟩ (.int .i64 (u.seq+1))=w5 at HA5 MV5 H5b ⊢;refine (lZ w5 B {u with seq:=u.seq+1} ps ds fm4 fd HA5.out HUF.out.1 HUF.out.2 s ar _ cr zs fr H5b.out (fun hm=>(HD5.out B hm).1 rfl) HD9.out (by dsimp only;rw [HU.out.1,HU.out.2.1];exact HG.out) (by dsimp only;rw [HU.out.2.1];exact HS.out) (by have h1:=HU.out;have h2:=HLN.out;dsimp only;omega) (by have h1:=HU.out;have h2:=HLN.out;dsimp only;omega)).mono ?_
   rintro e w7 ⟨rfl,fm7,hA7,hMv7⟩;have MV7:=aa (MV5.out.trans hMv7);have HW7:Hid (aH (x,ms) s zs=bg ({u with seq:=u.seq+1},ps) s (bX u.n u.s s) zs ps.length):=by unfold Hid;rw [HW3.out];exact HRW.out
   clear hMv7 MV5 HRW HW3 HA5 H5b HD9;dsimp only at hA7
   generalize bg ({u with seq:=u.seq+1},ps) s (bX u.n u.s s) zs ps.length=st at hA7 HW7;obtain ⟨v,qs⟩:=st;dsimp only at hA7
   obtain ⟨g11,_,_,_⟩:=eX hA7;have HA7:=aa hA7;clear hA7;cases hvd:v.down
   . rw [hvd] at g11
     have HF:Hid (Ending.returned (Value.int .i64 0)=.returned (.int .i64 (dnC (aH (x,ms) s zs).1.down))/\∃fm',aD w7 B (aH (x,ms) s zs).1 (aH (x,ms) s zs).2 ds fm' fd/\aJ B fm w fm' w7):=by
      unfold Hid;rw [HW7.out];exact ⟨by show _=Ending.returned (.int .i64 (dnC v.down));rw [hvd];rfl,fm7,HA7.out,MV7.out⟩
     clear hvd;go_wp2
     go_ret
     exact iy HF.out
   rw [hvd] at g11;have HF:Hid (Ending.returned (Value.int .i64 6)=.returned (.int .i64 (dnC (aH (x,ms) s zs).1.down))/\∃fm',aD w7 B (aH (x,ms) s zs).1 (aH (x,ms) s zs).2 ds fm' fd/\aJ B fm w fm' w7):=by
    unfold Hid;rw [HW7.out];exact ⟨by show _=Ending.returned (.int .i64 (dnC v.down));rw [hvd];rfl,fm7,HA7.out,MV7.out⟩
   clear hvd;go_wp2
   go_ret
   exact iy HF.out
 rw [hud] at d11;have HWu:Hid (aH (x,ms) s zs=(u,ps)):=by unfold Hid;rw [HW.out,if_pos hud]
 have HF:Hid (Ending.returned (Value.int .i64 6)=.returned (.int .i64 (dnC (aH (x,ms) s zs).1.down))/\∃fm',aD w4 B (aH (x,ms) s zs).1 (aH (x,ms) s zs).2 ds fm' fd/\aJ B fm w fm' w4):=by
  unfold Hid;rw [HWu.out];exact ⟨by show _=Ending.returned (.int .i64 (dnC u.down));rw [hud];rfl,fm4,hA4,MV4.out⟩
 clear hud hA4 HW;go_wp2
 go_ret
 exact iy HF.out
theorem mB (w:World) (E F G:TypeId) (x:al) (am ad:Option Addr) (nm cm nd cd:Nat) (ms:List ai) (ds:List (Int×List Int)) (h0:(bt E F).Rd w [.slice am nm cm] ms) (h1:(aU G).Rd w [.slice ad nd cd] ds) (hw:aM ms ds<=2097152) (s:Int) (ar:Option Addr) (cr:Nat) (zs:List Int) (h5:aA.Rd w [.slice ar zs.length cr] zs) (hz5:zs.length<=2097152):
 Calls Tryz.prog 95 #[.agg #[.int .i64 x.id,.int .i64 x.n,.int .i64 x.s,.slice am nm cm,.int .i64 x.lost,.int .i64 x.vG,.int .i64 x.seq,.int .i64 x.tail,.int .i64 x.gen,.slice ad nd cd,.int .i64 x.vI,.bool x.down,.bool x.vH],.int .i64 s,.slice ar zs.length cr] w fun e w'=>e=.returned (.int .i64 (aY x ms ds s zs))/\Below w.heap.size w w':=by
 have hA:=ae w (.cells #[.int .i64 x.id,.int .i64 x.n,.int .i64 x.s,.slice am nm cm,.int .i64 x.lost,.int .i64 x.vG,.int .i64 x.seq,.int .i64 x.tail,.int .i64 x.gen,.slice ad nd cd,.int .i64 x.vI,.bool x.down,.bool x.vH] 29);have X0:=Box.new w 29 #[.int .i64 x.id,.int .i64 x.n,.int .i64 x.s,.slice am nm cm,.int .i64 x.lost,.int .i64 x.vG,.int .i64 x.seq,.int .i64 x.tail,.int .i64 x.gen,.slice ad nd cd,.int .i64 x.vI,.bool x.down,.bool x.vH];have zX:=X0.lt;have r0:=h0.below hA;have r1:=h1.below hA;have r5:=h5.below hA;obtain ⟨k0,k1,k2,k3,k4,k5,k6,k7,k8,k9,k10,k11,k12⟩:=X0.cells13;go_enter Tryz.func95,Tryz.ntmps95
 go_wp2_with fail
 generalize w.alloc (.cells #[.int .i64 x.id,.int .i64 x.n,.int .i64 x.s,.slice am nm cm,.int .i64 x.lost,.int .i64 x.vG,.int .i64 x.seq,.int .i64 x.tail,.int .i64 x.gen,.slice ad nd cd,.int .i64 x.vI,.bool x.down,.bool x.vH] 29)=W at hA X0 zX r0 r1 r5 k0 k1 k2 k3 k4 k5 k6 k7 k8 k9 k10 k11 k12 ⊢;refine (eW _ E F G x _ _ _ _ _ _ ms ds r0 r1 hw).mono ?_
 rintro e w1 ⟨rfl,b1⟩;have X1:=X0.below b1 zX;have p5:=r5.below b1;have B1:=Below.andThen hA b1;clear k0 k1 k2 k3 k4 k5 k6 k7 k8 k9 k10 k11 k12 X0 r0 r1 r5 b1 hA zX;obtain ⟨k0,k1,k2,k3,k4,k5,k6,k7,k8,k9,k10,k11,k12⟩:=X1.cells13;cases ha:aZ x ms ds
 . have HV:Hid (aY x ms ds s zs=1):=by unfold Hid aY;rw [ha,Bool.false_and,if_pos rfl]
   clear ha;have HB:=aa B1;clear B1;go_wp2
   go_ret
   exact ⟨aG HV.out.symm,HB.out⟩
 have hln:=eg ha;have hrg:x.seq<=60000/\1<=x.s/\x.s<=8/\bF x.n x.s=true:=by
  unfold aZ dB at ha;simp only [Bool.and_eq_true,aI,decide_eq_true_eq] at ha
  obtain ⟨hgeo,_,_,_,_,htl,hsq2,hst,_⟩:=ha;have:=aB.1 hgeo;exact ⟨hsq2.2,this.2.2.1,this.2.2.2,hgeo⟩
 obtain ⟨hn3,hn5,hnl⟩:=hln;clear hnl;obtain ⟨hq6,hs1,hs8,hgeo⟩:=hrg;have wn:IntKind.i64.wrap (x.n-1)=x.n-1:=IntWalk.i64_in _ (by omega);have ws:IntKind.i64.wrap (x.s-1)=x.s-1:=IntWalk.i64_in _ (by omega);by_cases hzl:(zs.length:Int)=x.n-1
 . have hne:((zs.length:Int) !=x.n-1)=false:=by simp [hzl]
   have HZL:=aa hzl;have h12:zs.length<=12:=by omega
   have hsec:da zs=cG zs:=by unfold da;rw [decide_eq_true h12,Bool.true_and]
   have HSEC:=aa hsec;clear hzl hsec h12;have X2:=X1;have q5:=p5;have B2:=B1;clear X1 p5 B1;go_wp2_with fail
   refine (dD _ _ _ _ zs rfl (aP q5).1 hz5).mono ?_
   rintro e w3 ⟨rfl,hw3⟩;subst hw3;have X3:=X2;have B3:=B2;clear k0 k1 k2 k3 k4 k5 k6 k7 k8 k9 k10 k11 k12 X2 q5 B2;obtain ⟨k0,k1,k2,k3,k4,k5,k6,k7,k8,k9,k10,k11,k12⟩:=X3.cells13;cases haw:cG zs
   . have HV:Hid (aY x ms ds s zs=1):=by unfold Hid aY;rw [ha,haw,Bool.and_false,Bool.and_false,if_pos rfl]
     clear haw ha;have HB:=aa B3;clear B3;go_wp2
     go_ret
     exact ⟨aG HV.out.symm,HB.out⟩
   have HU:Hid (aY x ms ds s zs=if x.down=true then 6 else if inB s 0 (x.s-1)=false then 2 else if x.vH=true then 5 else if x.seq=60000∨59990<=x.gen then 7 else 0):=by unfold Hid aY;rw [ha,haw,decide_eq_true HZL.out,if_neg (by simp)]
   clear haw ha;cases hdn:x.down
   . rw [hdn] at k11
     have HU2:Hid (aY x ms ds s zs=if inB s 0 (x.s-1)=false then 2 else if x.vH=true then 5 else if x.seq=60000∨59990<=x.gen then 7 else 0):=by unfold Hid;rw [HU.out,hdn,if_neg (by simp)]
     clear hdn HU;go_wp2_with fail
     refine (aE s 0 (x.s-1) _).mono ?_
     rintro e w4 ⟨rfl,hw4⟩;subst hw4;have X4:=X3;have B4:=B3;clear X3 B3;cases hin:inB s 0 (x.s-1)
     . have HV:Hid (aY x ms ds s zs=2):=by unfold Hid;rw [HU2.out,hin,if_pos rfl]
       clear hin;have HB:=aa B4;clear B4;go_wp2
       go_ret
       exact ⟨aG HV.out.symm,HB.out⟩
     have HU3:Hid (aY x ms ds s zs=if x.vH=true then 5 else if x.seq=60000∨59990<=x.gen then 7 else 0):=by unfold Hid;rw [HU2.out,hin,if_neg (by simp)]
     clear hin HU2;cases hbr:x.vH
     . rw [hbr] at k12
       have HU4:Hid (aY x ms ds s zs=if x.seq=60000∨59990<=x.gen then 7 else 0):=by unfold Hid;rw [HU3.out,hbr,if_neg (by simp)]
       clear hbr HU3;by_cases hq:x.seq=60000
       . have HV:Hid (aY x ms ds s zs=7):=by unfold Hid;rw [HU4.out,if_pos (.inl hq)]
         have e1:(x.seq==60000)=true:=by simpa using hq
         have e2:decide (60000<=x.seq)=true:=by simp;omega
         have e3:60000<=x.seq:=by omega
         clear hq;have HB:=aa B4;clear B4;go_wp2
         go_ret
         exact ⟨aG HV.out.symm,HB.out⟩
       have e1:(x.seq==60000)=false:=by simpa using hq
       have e2:¬60000<=x.seq:=by omega
       have e3:decide (60000<=x.seq)=false:=by simp;omega
       by_cases hgn:59990<=x.gen
       . have HV:Hid (aY x ms ds s zs=7):=by unfold Hid;rw [HU4.out,if_pos (.inr hgn)]
         clear hq;have HB:=aa B4;clear B4;go_wp2
         go_ret
         exact ⟨aG HV.out.symm,HB.out⟩
       have HV:Hid (aY x ms ds s zs=0):=by unfold Hid;rw [HU4.out,if_neg (fun h=>h.elim hq hgn)]
       clear hq;have HB:=aa B4;clear B4;go_wp2
       go_ret
       exact ⟨aG HV.out.symm,HB.out⟩
     rw [hbr] at k12;have HV:Hid (aY x ms ds s zs=5):=by unfold Hid;rw [HU3.out,hbr,if_pos rfl]
     clear hbr;have HB:=aa B4;clear B4;go_wp2
     go_ret
     exact ⟨aG HV.out.symm,HB.out⟩
   rw [hdn] at k11;have HV:Hid (aY x ms ds s zs=6):=by unfold Hid;rw [HU.out,hdn,if_pos rfl]
   clear hdn;have HB:=aa B3;clear B3;go_wp2
   go_ret
   exact ⟨aG HV.out.symm,HB.out⟩
 have hne:((zs.length:Int) !=x.n-1)=true:=by simpa using hzl
 have HV:Hid (aY x ms ds s zs=1):=by unfold Hid aY;rw [ha,decide_eq_false hzl,Bool.false_and,Bool.and_false,if_pos rfl]
 clear hzl;have X2:=X1;have q5:=p5;have B2:=B1;clear X1 p5 B1;clear ha;have HB:=aa B2;clear B2;go_wp2
 go_ret
 exact ⟨aG HV.out.symm,HB.out⟩
def iV (t:Ty) (w:World) (vs:List Value) (ys:List t.D) (fs:List (List Nat)):Prop:=
 vs.length=ys.length*t.n/\fs.length=ys.length/\fs.flatten.Nodup/\∀i y,ys[i]?=some y->∃f,fs[i]?=some f/\t.ow w ((vs.drop (i*t.n)).take t.n) y f
theorem iV.lt {t:Ty} {w:World} {vs:List Value} {ys:List t.D} {fs:List (List Nat)} (h:iV t w vs ys fs):∀c∈fs.flatten,c<w.heap.size:=by
 intro c hc;obtain ⟨_,h7,_,h8⟩:=h;obtain ⟨f',hf',hcf⟩:=List.mem_flatten.1 hc;obtain ⟨i,hi⟩:=List.mem_iff_getElem?.1 hf';have hil:i<ys.length:=by rw [←h7];exact (List.getElem?_eq_some_iff.1 hi).1
 obtain ⟨f2,hf2,ho2⟩:=h8 i _ (List.getElem?_eq_getElem hil);rw [hi] at hf2;simp at hf2
 subst hf2;exact t.rdLt (t.owRd ho2) c hcf
theorem rb {t:Ty} {E:TypeId} {w:World} {lo b cap:Nat} {d:List t.D} {fp:List Nat} (h:(bQ t E).Mine w [.slice (some ⟨b,0,none⟩) d.length cap] d fp) (hlo:∀b∈fp,lo<=b):
 ∃xs,w.ownsRow lo E t.n (.slice (some ⟨b,0,none⟩) d.length cap) d.length xs/\∀w' v' vs ys fs,iV t w vs ys fs->(∀b∈fp,b∉fs.flatten)->w'.ownsRow lo E t.n v' (d.length+ys.length) (xs++vs)->w.grownBy w' (some b)->(v'.ownBlock=some b∨v'.ownBlock=some w.heap.size) ->
  ∃fp',(bQ t E).Mine w' [v'] (d++ys) fp'/\(∀c∈fp',c∈fp∨c∈fs.flatten∨(c=w.heap.size/\c<w'.heap.size))/\aw fp w w':=by
 obtain ⟨h,hn⟩:=h;rcases h with ⟨h1,_⟩|⟨b',cap',cur,fps,h1,h2,h3,h4,h5,rfl,h7,h8⟩
 . simp at h1
 simp only [List.cons.injEq,Value.slice.injEq,Option.some.injEq,Addr.mk.injEq,and_true] at h1
 obtain ⟨rfl,_,rfl⟩:=h1;have hle:d.length*t.n<=cap*t.n:=Nat.mul_le_mul_right _ h2;have hxl:(cur.toList.take (d.length*t.n)).length=d.length*t.n:=by
  have hcl:cur.toList.length=cap*t.n:=by rw [Array.length_toList];exact h5
  rw [List.length_take,hcl];omega
 refine ⟨cur.toList.take (d.length*t.n),⟨hxl,.inr ⟨b,cap,cur,rfl,hlo b List.mem_cons_self,h4,h2,h3,h5,rfl⟩⟩,fun w' v' vs ys fs hx hdis ho hg hat=>?_⟩
 have hel:=hx.lt;obtain ⟨e1,e2,e3,e4⟩:=hx;rw [List.nodup_cons] at hn;obtain ⟨hbf,hnf⟩:=hn;have hfplt:∀c∈fps.flatten,c<w.heap.size:=by
  intro c hc;obtain ⟨f',hf',hcf⟩:=List.mem_flatten.1 hc;obtain ⟨i,hi⟩:=List.mem_iff_getElem?.1 hf';have hil:i<d.length:=by rw [←h7];exact (List.getElem?_eq_some_iff.1 hi).1
  obtain ⟨f2,hf2,ho2⟩:=h8 i _ (List.getElem?_eq_getElem hil);rw [hi] at hf2;simp at hf2
  subst hf2;exact t.rdLt (t.owRd ho2) c hcf
 have hbx:b∉fs.flatten:=hdis b List.mem_cons_self;have hkeep:∀c,c<w.heap.size->c≠b->w'.heap[c]?=w.heap[c]?:=fun c hc hne=>hg.block c hc (by simpa using hne);rcases ho.2 with ⟨hv0,h0⟩|⟨g,cap',cur',hv',hb,hg',hnc,hcm,hcs,htake⟩
 . have hd0:d=[]:=List.eq_nil_of_length_eq_zero (by omega)
   have hy0:ys=[]:=List.eq_nil_of_length_eq_zero (by omega);subst hd0 hy0 hv0;exact ⟨[],⟨.inl ⟨rfl,rfl,rfl⟩,List.nodup_nil⟩,by simp,hg.os,hg.tape,hg.output,hg.size,fun k hk hf=>hkeep k hk (fun e=>hf (by rw [e];exact List.mem_cons_self))⟩
 have hgs:g=b∨g=w.heap.size:=by
  rw [hv'] at hat;simpa [Value.ownBlock] using hat
 have hgl:g<w'.heap.size:=(Array.getElem?_eq_some_iff.1 hg').1;subst hv';have hfl:(fps++fs).flatten=fps.flatten++fs.flatten:=by simp
 have hcell:∀k,k<d.length*t.n+ys.length*t.n->cur'.toList[k]?=(cur.toList.take (d.length*t.n)++vs)[k]?:=fun k hk=>by
  have:=congrArg (fun l=>l[k]?) htake;simp only [List.getElem?_take] at this
  rw [if_pos (by rw [Nat.add_mul];omega)] at this;exact this
 have hseg:∀i,i<d.length->(cur'.toList.drop (i*t.n)).take t.n=(cur.toList.drop (i*t.n)).take t.n:=by
  intro i hi;have hmul:(i+1)*t.n<=d.length*t.n:=Nat.mul_le_mul_right _ hi;rw [Nat.add_mul,Nat.one_mul] at hmul;apply List.ext_getElem?
  intro k;rw [List.getElem?_take,List.getElem?_take];by_cases hk:k<t.n
  . rw [if_pos hk,if_pos hk,List.getElem?_drop,List.getElem?_drop,hcell _ (by omega),List.getElem?_append_left (by rw [hxl];omega),List.getElem?_take,if_pos (by omega)]
  rw [if_neg hk,if_neg hk]
 have hnew:∀i,i<ys.length->(cur'.toList.drop ((d.length+i)*t.n)).take t.n=(vs.drop (i*t.n)).take t.n:=by
  intro i hi;have hmul:(i+1)*t.n<=ys.length*t.n:=Nat.mul_le_mul_right _ hi;rw [Nat.add_mul,Nat.one_mul] at hmul;apply List.ext_getElem?
  intro k;rw [List.getElem?_take,List.getElem?_take];by_cases hk:k<t.n
  . rw [if_pos hk,if_pos hk,List.getElem?_drop,List.getElem?_drop,Nat.add_mul,hcell _ (by omega),List.getElem?_append_right (by rw [hxl];omega),hxl]
    congr 1
    omega
  rw [if_neg hk,if_neg hk]
 refine ⟨g :: (fps++fs).flatten,⟨.inr ⟨g,cap',cur',fps++fs,by simp,by simpa using hnc,hcm,hg',hcs,rfl,by simp [h7,e2],fun i y hy=>?_⟩,?_⟩,?_,hg.os,hg.tape,hg.output,hg.size,fun k hk hf=>hkeep k hk (fun e=>hf (by rw [e];exact List.mem_cons_self))⟩
 . by_cases hi:i<d.length
   . rw [List.getElem?_append_left hi] at hy
     obtain ⟨f2,hf2,ho2⟩:=h8 i y hy;refine ⟨f2,by rw [List.getElem?_append_left (by omega)];exact hf2,?_⟩
     rw [hseg i hi];refine t.owKept ho2 (fun c hc=>hkeep c (t.rdLt (t.owRd ho2) c hc) (fun e=>hbf ?_)) hg.size
     rw [←e];exact List.mem_flatten.2 ⟨f2,List.mem_of_getElem? hf2,hc⟩
   rw [List.getElem?_append_right (by omega)] at hy;have hil:=(List.getElem?_eq_some_iff.1 hy).1;obtain ⟨f2,hf2,ho2⟩:=e4 (i-d.length) y hy;refine ⟨f2,by rw [List.getElem?_append_right (by omega),h7];exact hf2,?_⟩
   have:=hnew (i-d.length) hil;rw [show d.length+(i-d.length)=i by omega] at this;rw [this];refine t.owKept ho2 (fun c hc=>?_) hg.size
   have hcm':c∈fs.flatten:=List.mem_flatten.2 ⟨f2,List.mem_of_getElem? hf2,hc⟩;exact hkeep c (hel c hcm') (fun e=>hbx (e▸hcm'))
 . rw [hfl,List.nodup_cons]
   refine ⟨fun hm=>?_,?_⟩
   . rcases List.mem_append.1 hm with hm|hm
     . rcases hgs with rfl|rfl
       . exact hbf hm
       have:=hfplt _ hm;omega
     rcases hgs with rfl|rfl
     . exact hbx hm
     have:=hel _ hm;omega
   rw [List.nodup_append];exact ⟨hnf,e3,fun a ha c hc e=>hdis a (List.mem_cons_of_mem _ ha) (e▸hc)⟩
 intro c hc;rw [hfl] at hc;rcases List.mem_cons.1 hc with rfl|hc
 . rcases hgs with rfl|hgs
   . exact .inl List.mem_cons_self
   exact .inr (.inr ⟨hgs,hgl⟩)
 rcases List.mem_append.1 hc with hc|hc
 . exact .inl (List.mem_cons_of_mem _ hc)
 exact .inr (.inl hc)
theorem oh {P:Program} {w:World} {ops:Array Oper} {o:Oper} {a:Act} {K:Act->World->Prop} {Q:Exit->Act->World->Prop} {G:Prop} (t:Ty) (hgd:o.guard=none) (s x:Operand) (T:TypeId)
 (ho:o.op=.call { callee:=.builtin .append,args:=#[s,x],argTypes:=#[T,T] })
 (E:TypeId) (i:TypeInfo) (z:Value) (bytes:Nat) (ht:P.underlying T=some (.slice E)) (hi:P.info? E=some i) (hz:i.zero=some z)
 (hsize:i.size=t.n) (hby:i.bytes=bytes) (hzs:z.cells.size=t.n) (hsz:0<t.n)
 (b cap:Nat) (d:List t.D) (fp:List Nat) (hs:a.eval s=.slice (some ⟨b,0,none⟩) d.length cap) (hown:(bQ t E).Mine w [.slice (some ⟨b,0,none⟩) d.length cap] d fp)
 (ad:Addr) (c:Nat) (vs:List Value) (ys:List t.D) (fs:List (List Nat)) (hx:a.eval x=.slice (some ad) ys.length c) (hy:iV t w vs ys fs) (hdis:∀b∈fp,b∉fs.flatten) (hr:∀j u,vs[j]?=some u->w.cell? (ad.add j)=some u) (h1:∀u∈vs,u.oneCell'=true)
 (h63:d.length+ys.length<=maxLen) (hbytes:(d.length+ys.length)*bytes<=140737488355328)
 (h:∀g cap' w' fp',(bQ t E).Mine w' [.slice (some ⟨g,0,none⟩) (d.length+ys.length) cap'] (d++ys) fp'->(∀b∈fp',b∈fp∨b∈fs.flatten∨(b=w.heap.size/\b<w'.heap.size))->aw fp w w'->K (a.put o.dst (.slice (some ⟨g,0,none⟩) (d.length+ys.length) cap')) w'):
 if Region.wanted o (yielded ops a.tmps)=true then Oper.wp P o a w K Q else G:=by
 obtain ⟨xs,hrow,hback⟩:=rb (lo:=0) hown (fun _ _=>Nat.zero_le _);have hw:Region.wanted o (yielded ops a.tmps)=true:=by simp [Region.wanted,hgd]
 rw [if_pos hw];obtain ⟨v',w',hr,k1,k2,k3,k4⟩:=run_append_own_at (P:=P) w 0 T o.type E i z t.n bytes ht hi hz hsize hby hzs hsz _ d.length xs hrow ad ys.length c vs hy.1 hr h1 h63 hbytes (Nat.zero_le _);obtain ⟨fp',m1,m2,m3⟩:=hback w' v' vs ys fs hy hdis k1 k2 k4;rcases k1.2 with ⟨hv0,_⟩|⟨g,cap',_,hv',_⟩
 . simp at k3
   exact absurd hv0 k3
 subst hv';unfold Oper.wp execOp;simp only [ho,resolve,invoke,builtin,Sem.run_bind,Sem.run_pure,Result.andThen_ok,List.map_toArray,List.map_cons,List.map_nil,hs,hx,hr]
 exact h g cap' w' fp' m1 m2 m3
theorem jU {l m:List (List Nat)} (h:l.Sublist m):l.flatten.Sublist m.flatten:=by
 induction h with
 | slnil=>exact .slnil
 | cons a _ ih=>rw [List.flatten_cons];exact ih.trans (List.sublist_append_right _ _)
 | cons_cons a _ ih=>rw [List.flatten_cons,List.flatten_cons];exact (List.Sublist.refl a).append ih
theorem rg {l:List (List Nat)} {k:Nat} (h:l.flatten.Nodup):∀b∈(l.take k).flatten,b∉(l.drop (k+1)).flatten:=by
 intro b hb hc;have h1:(l.take k++l.drop k).flatten.Nodup:=by rw [List.take_append_drop];exact h
 rw [List.flatten_append,List.nodup_append] at h1;refine h1.2.2 b hb b ?_ rfl
 have:(l.drop (k+1)).Sublist (l.drop k):=by rw [←List.drop_drop];exact List.drop_sublist _ _
 exact (jU this).subset hc
theorem vr {t:Ty} {E:TypeId} {w:World} {b cap:Nat} {d:List t.D} {fp:List Nat} (h:(bQ t E).Mine w [.slice (some ⟨b,0,none⟩) d.length cap] d fp):
 ∃(cs:List Value) (fps:List (List Nat)),fps.length=d.length/\fp=b :: fps.flatten/\cs.length=d.length*t.n/\(∀j u,cs[j]?=some u->w.cell? ⟨b,j,none⟩=some u) /\
  (∀i y,d[i]?=some y->∃f,fps[i]?=some f/\t.ow w ((cs.drop (i*t.n)).take t.n) y f)/\∀lo m,lo+m<=d.length->iV t w ((cs.drop (lo*t.n)).take (m*t.n)) ((d.drop lo).take m) ((fps.drop lo).take m):=by
 obtain ⟨h,hn⟩:=h;rcases h with ⟨h1,_⟩|⟨b',cap',cur,fps,h1,h2,h3,h4,h5,rfl,h7,h8⟩
 . simp at h1
 simp only [List.cons.injEq,Value.slice.injEq,Option.some.injEq,Addr.mk.injEq,and_true] at h1
 obtain ⟨rfl,_,rfl⟩:=h1;rw [List.nodup_cons] at hn;have hle:d.length*t.n<=cap*t.n:=Nat.mul_le_mul_right _ h2;have hcl:cur.toList.length=cap*t.n:=by rw [Array.length_toList];exact h5
 have hxl:(cur.toList.take (d.length*t.n)).length=d.length*t.n:=by
  rw [List.length_take,hcl];omega
 have hel:∀i y,d[i]?=some y->∃f,fps[i]?=some f/\t.ow w (((cur.toList.take (d.length*t.n)).drop (i*t.n)).take t.n) y f:=by
  intro i y hy;obtain ⟨f,hf,ho⟩:=h8 i y hy;have hi:=(List.getElem?_eq_some_iff.1 hy).1;have hmul:(i+1)*t.n<=d.length*t.n:=Nat.mul_le_mul_right _ hi;rw [Nat.add_mul,Nat.one_mul] at hmul;refine ⟨f,hf,?_⟩
  rw [List.drop_take,List.take_take,Nat.min_eq_left (by omega)];exact ho
 refine ⟨cur.toList.take (d.length*t.n),fps,h7,rfl,hxl,fun j u hu=>?_,hel,fun lo m hlm=>⟨?_,?_,?_,fun i y hy=>?_⟩⟩
 . rw [List.getElem?_take] at hu
   split at hu
   . rw [cell_of_row w b _ cur E (0,0) h4]
     simpa using hu
   simp at hu
 . have hmul:(lo+m)*t.n<=d.length*t.n:=Nat.mul_le_mul_right _ hlm
   rw [Nat.add_mul] at hmul;rw [List.length_take,List.length_drop,hxl,List.length_take,List.length_drop,Nat.min_eq_left (show m<=d.length-lo by omega)];omega
 . simp only [List.length_take,List.length_drop,h7]
 . refine hn.2.sublist ?_
   exact jU ((List.take_sublist _ _).trans (List.drop_sublist _ _))
 rw [List.getElem?_take] at hy;split at hy
 case isTrue him=>
  rw [List.getElem?_drop] at hy;obtain ⟨f,hf,ho⟩:=hel (lo+i) y hy;have hmul:(i+1)*t.n<=m*t.n:=Nat.mul_le_mul_right _ him;rw [Nat.add_mul,Nat.one_mul] at hmul;refine ⟨f,by rw [List.getElem?_take,if_pos him,List.getElem?_drop];exact hf,?_⟩
  rw [List.drop_take,List.take_take,Nat.min_eq_left (by omega),List.drop_drop,←Nat.add_mul];exact ho
 case isFalse=>simp at hy
theorem pf {w:World} {vs:List Value} {x:Int×List Int} {fp:List Nat} (h:tWr.Mine w vs x fp):∃a cap,vs=[.int .i64 x.1,.slice a x.2.length cap]/\aA.Mine w [.slice a x.2.length cap] x.2 fp:=by
 have hl:vs.length=2:=tWr.rdLen (tWr.owRd h.1);match vs,hl,h with
 | [u0,u1],_,h=>
  obtain ⟨f1,f2,hf,m1,m2,_⟩:=et (t:=ey) (u:=aA) (vs:=[u0]) (us:=[u1]) rfl h;obtain ⟨e1,e2⟩:=m1.1;subst e2;obtain ⟨a,cap,rfl⟩:=az m2.rd;refine ⟨a,cap,by simpa using e1,?_⟩
  rw [hf];exact m2
theorem iV.kept {t:Ty} {w w':World} {vs:List Value} {ys:List t.D} {fs:List (List Nat)} {fp:List Nat} (h:iV t w vs ys fs) (ht:aw fp w w') (hd:∀b∈fs.flatten,b∉fp):iV t w' vs ys fs:=by
 have hl:=h.lt;refine ⟨h.1,h.2.1,h.2.2.1,fun i y hy=>?_⟩
 obtain ⟨f,hf,ho⟩:=h.2.2.2 i y hy;have hm:∀b∈f,b∈fs.flatten:=fun b hb=>List.mem_flatten.2 ⟨f,List.mem_of_getElem? hf,hb⟩;exact ⟨f,hf,t.owKept ho (fun b hb=>ht.block b (hl b (hm b hb)) (hd b (hm b hb))) ht.size⟩
theorem wr_one {w:World} {cs:List Value} {ds:List aF} {fps:List (List Nat)} (hn:fps.flatten.Nodup) (hl:cs.length=ds.length*2) (h:∀i y,ds[i]?=some y->∃f,fps[i]?=some f/\tWr.ow w ((cs.drop (i*2)).take 2) y f):∀u∈cs,u.oneCell'=true:=by
 intro u hu;obtain ⟨m,hm⟩:=List.mem_iff_getElem?.1 hu;have hml:=(List.getElem?_eq_some_iff.1 hm).1;have hil:m / 2<ds.length:=by omega
 obtain ⟨f,hf,ho⟩:=h (m / 2) _ (List.getElem?_eq_getElem hil);obtain ⟨a,c,hv,_⟩:=pf ⟨ho,(ez hn hf).1⟩;have h1:((cs.drop (m / 2*2)).take 2)[m % 2]?=some u:=by
  rw [List.getElem?_take,if_pos (by omega),List.getElem?_drop,show m / 2*2+m % 2=m by omega];exact hm
 rw [hv] at h1;have h2:u∈[Value.int .i64 (ds[m / 2]).1,.slice a (ds[m / 2]).2.length c]:=List.mem_of_getElem? h1;simp at h2
 rcases h2 with h2|h2<;>(rw [h2];rfl)
end Go.Proofs.YtejeekndbnpmoaaGreat

/-
 The walks of the program's operations on an array that a pointer leads to: one counted, a list of them performed. Conditions: the power goes within 1000 operations, or stays; every disk is right.
-/
import Derived.Test.YtejeekndbnpmoaaGreatRowWritesBentSq20
import Derived.Test.YtejeekndbnpmoaaGreatRowWritesBentSq23
import Derived.Test.YtejeekndbnpmoaaGreatRowWritesBentSq15
import Derived.Deep.Cut
import Derived.Test.YtejeekndbnpmoaaGreatRowWritesBentSq1
import Derived.Test.YtejeekndbnpmoaaGreatRowWritesBentSq16
import Derived.Test.YtejeekndbnpmoaaGreatRowWritesBentSq11
import Derived.Test.YtejeekndbnpmoaaGreatRowWritesBentSq2
import Derived.Test.YtejeekndbnpmoaaGreatRowWritesBentSq10
import Derived.Recover

set_option maxRecDepth 100000
set_option maxHeartbeats 8000000
set_option linter.unusedSimpArgs false

namespace Go.Proofs.YtejeekndbnpmoaaGreat
open Go.RowKit

def DrwS (w:World) (e:Ending) (w':World):Prop:=∃(v:Value) (s:Int) (au:Option Addr) (cu:Nat) (xs:List Int) (fr:List Nat),e=.returned (.tuple #[v,.int .i64 s,.slice au xs.length cu])/\Drw w w' v/\aA.Mine w' [.slice au xs.length cu] xs fr/\xs.length<=64
theorem jr (w:World) (a:Option Addr) (lb cb:Nat) (zs:List Int) (hz:zs.length=lb) (hr:aK .u8 w a zs) (hby:∀n∈zs,0<=n/\n<=255) (hlb:lb<=2097152):
 Calls Tryz.prog 19 #[.slice a lb cb] w fun e w'=>DrwS w e w':=by
 have hA:=ae w (.cells #[.int .i64 0,.int .i64 0,.int .i64 0,.slice none 0 0,.int .i64 0,.int .i64 0,.int .i64 0,.int .i64 0,.int .i64 0,.slice none 0 0,.int .i64 0,.bool false,.bool false] 29);have X:=Box.new w 29 #[.int .i64 0,.int .i64 0,.int .i64 0,.slice none 0 0,.int .i64 0,.int .i64 0,.int .i64 0,.int .i64 0,.int .i64 0,.slice none 0 0,.int .i64 0,.bool false,.bool false];have zA:=X.lt;have AH:=aa (hr.ahead hz);go_enter Tryz.func19,Tryz.ntmps19
 go_wp2_with fail
 generalize w.alloc (.cells #[.int .i64 0,.int .i64 0,.int .i64 0,.slice none 0 0,.int .i64 0,.int .i64 0,.int .i64 0,.int .i64 0,.int .i64 0,.slice none 0 0,.int .i64 0,.bool false,.bool false] 29)=W at hA X zA ⊢;refine (oE _ _ _ _ zs hz (hr.below hA) hlb).mono ?_
 rintro e w1 ⟨rfl,hc1,hb1⟩;have D1:aO w1 W.heap.size a lb cb zs:=⟨hc1,hz,(hr.below hA).below hb1,hby,hlb,(hr.below hA).ahead hz⟩;have B1:=Below.andThen hA hb1;have X1:=X.below hb1 zA;have zc:=D1.lt;clear hc1 hA X hb1;go_wp2_with fail
 refine (mW _ _ _ _ 14 hlb (by omega)).mono ?_
 rintro e wq ⟨n,rfl,n0,n1,hq⟩;subst hq;go_wp2_with fail
 refine (oJ D1 n n0 (by omega)).mono ?_
 rintro e w2 ⟨x,ms,ds,vm,vd,cvm,cvd,fd,rfl,hm,hd,rd,hwt,D2,b2⟩;have S2:Hid (D8 w w2 w.heap.size wq.heap.size w2.heap.size W.heap.size a lb cb zs #[.int .i64 0,.int .i64 0,.int .i64 0,.slice none 0 0,.int .i64 0,.int .i64 0,.int .i64 0,.int .i64 0,.int .i64 0,.slice none 0 0,.int .i64 0,.bool false,.bool false] x ms ds vm vd cvm cvd fd):=⟨D2,B1.trans (b2.mono (by omega)),X1.below b2 zA,hm,hd,fun b hb=>⟨rd b hb,hd.lt b hb⟩,rfl,zA,zc,b2.size,Nat.le_refl _,AH.out,hwt⟩;clear D1 D2 B1 X1 hm hd rd hwt b2 AH;have nb:=ae w2 (.cells #[.int .i64 x.id,.int .i64 x.n,.int .i64 x.s,.slice vm ms.length cvm,.int .i64 x.lost,.int .i64 x.vG,.int .i64 x.seq,.int .i64 x.tail,.int .i64 x.gen,.slice vd ds.length cvd,.int .i64 x.vI,.bool x.down,.bool x.vH] 29);have Y:=aa (Box.new w2 29 #[.int .i64 x.id,.int .i64 x.n,.int .i64 x.s,.slice vm ms.length cvm,.int .i64 x.lost,.int .i64 x.vG,.int .i64 x.seq,.int .i64 x.tail,.int .i64 x.gen,.slice vd ds.length cvd,.int .i64 x.vI,.bool x.down,.bool x.vH]);have S3:=aa (S2.out.below nb);clear S2 nb;unfold aC;go_upto_region 3 with fail
 generalize w2.alloc (.cells #[.int .i64 x.id,.int .i64 x.n,.int .i64 x.s,.slice vm ms.length cvm,.int .i64 x.lost,.int .i64 x.vG,.int .i64 x.seq,.int .i64 x.tail,.int .i64 x.gen,.slice vd ds.length cvd,.int .i64 x.vI,.bool x.down,.bool x.vH] 29)=w3 at S3 Y ⊢;obtain ⟨B,hB⟩:∃B,w2.heap.size=B:=⟨_,rfl⟩;rw [hB] at S3 Y ⊢;clear hB;obtain ⟨g,hg⟩:∃g,W.heap.size=g:=⟨_,rfl⟩;rw [hg] at S3 ⊢;obtain ⟨R,hR⟩:∃R,w.heap.size=R:=⟨_,rfl⟩;rw [hR] at S3 ⊢;generalize wq.heap.size=N at S3;clear zA zc hg hR;have HRG:Hid (R<g):=S3.out.2.2.2.2.2.2.2.1;have HGB:Hid (g<B):=by have h1:=S3.out.2.2.2.2.2.2.2.2.1;have h2:=S3.out.2.2.2.2.2.2.2.2.2.1;unfold Hid;omega
 have HMB:Hid (B<=B):=Nat.le_refl _;obtain ⟨y0,y1,y2,y3,y4,y5,y6,y7,y8,y9,y10,y11,y12⟩:=Y.out.cells13;go_wp2_with fail
 refine (mX S3.out.1 x vm vd ms.length cvm ds.length cvd).mono ?_
 rintro e w4 ⟨f,rfl,_,D4,b4⟩;have Y4:=Y.out.kept (b4.block _ Y.out.lt (.inr (by have:=HGB.out;omega)));have S5:=aa (((S3.out.draw D4 b4).num (x':={x with vI:=f}) rfl).put (Nat.le_refl B) [(0,.int .i64 x.id),(1,.int .i64 x.n),(2,.int .i64 x.s),(3,.slice vm ms.length cvm),(4,.int .i64 x.lost),(5,.int .i64 x.vG),(6,.int .i64 x.seq),(7,.int .i64 x.tail),(8,.int .i64 x.gen),(9,.slice vd ds.length cvd),(10,.int .i64 f),(11,.bool x.down),(12,.bool x.vH)]);have Y5:=aa (mU Y4 (.int .i64 x.id) (.int .i64 x.n) (.int .i64 x.s) (.slice vm ms.length cvm) (.int .i64 x.lost) (.int .i64 x.vG) (.int .i64 x.seq) (.int .i64 x.tail) (.int .i64 x.gen) (.slice vd ds.length cvd) (.int .i64 f) (.bool x.down) (.bool x.vH));clear y0 y1 y2 y3 y4 y5 y6 y7 y8 y9 y10 y11 y12;obtain ⟨y0,y1,y2,y3,y4,y5,y6,y7,y8,y9,y10,y11,y12⟩:=Y4.cells13;have fzy:=Y4.frozen;simp only [bK] at S5 Y5
 clear S3 D4 b4 Y Y4;unfold aC;go_upto_region 4 with fail
 generalize ((((((((((((w4.setCell ⟨B,0,none⟩ (.int .i64 x.id)).setCell ⟨B,1,none⟩ (.int .i64 x.n)).setCell ⟨B,2,none⟩ (.int .i64 x.s)).setCell ⟨B,3,none⟩ (.slice vm ms.length cvm)).setCell ⟨B,4,none⟩ (.int .i64 x.lost)).setCell ⟨B,5,none⟩ (.int .i64 x.vG)).setCell ⟨B,6,none⟩ (.int .i64 x.seq)).setCell ⟨B,7,none⟩ (.int .i64 x.tail)).setCell ⟨B,8,none⟩ (.int .i64 x.gen)).setCell ⟨B,9,none⟩ (.slice vd ds.length cvd)).setCell ⟨B,10,none⟩ (.int .i64 f)).setCell ⟨B,11,none⟩ (.bool x.down)).setCell ⟨B,12,none⟩ (.bool x.vH)=w5 at S5 Y5 ⊢;clear y0 y1 y2 y3 y4 y5 y6 y7 y8 y9 y10 y11 y12 fzy;have c1:=Y5.out.cells13.2.1;have hnb:=S5.out.2.2.2.2.2.2.2.2.2.2.2.2.2;dsimp only at hnb
 have hws:IntKind.i64.wrap (x.n-1)=x.n-1:=IntWalk.i64_in _ (by omega);go_wp2_with fail
 refine (rV S5.out.1 (x.n-1) (by omega)).mono ?_
 rintro e w6 ⟨u,rfl,xs,hxl,_,hO,D6,b6⟩;obtain ⟨au,cu,hu,_⟩:=hO.shape;subst hu;obtain ⟨fr,mr,rr⟩:=(aR hO).mine;have HRR:Hid (∀b∈fr,B<b):=fun b hb=>Nat.lt_of_lt_of_le Y5.out.lt (rr b hb).1;have S6:=aa (S5.out.draw D6 b6);have Y6:=aa (Y5.out.kept (b6.block _ Y5.out.lt (.inr (by have:=HGB.out;omega))));have M6:=aa mr;clear S5 Y5 D6 b6 hO mr rr c1 hws hnb;go_wp2_with fail
 refine (oK S6.out.1 12 (by omega) (by omega)).mono ?_
 rintro e w7 ⟨b,rfl,D7,b7⟩;have S7:=aa (S6.out.draw D7 b7);have Y7:=aa (Y6.out.kept (b7.block _ Y6.out.lt (.inr (by have:=HGB.out;omega))));have M7:=aa (M6.out.but b7 (fun b hb=>by have:=HRR.out b hb;have:=HGB.out;omega));clear S6 Y6 M6 D7 b7;cases b
 . skip
   go_wp2_with fail
   refine wp_region_held_drew (S:=fun w'=>w'.cell? ⟨B,0,none⟩=some (.int .i64 x.id)/\w'.cell? ⟨B,1,none⟩=some (.int .i64 x.n)/\w'.cell? ⟨B,2,none⟩=some (.int .i64 x.s)/\w'.cell? ⟨B,3,none⟩=some (.slice vm ms.length cvm)/\w'.cell? ⟨B,4,none⟩=some (.int .i64 x.lost)/\w'.cell? ⟨B,5,none⟩=some (.int .i64 x.vG)/\w'.cell? ⟨B,6,none⟩=some (.int .i64 x.seq)/\w'.cell? ⟨B,7,none⟩=some (.int .i64 x.tail)/\w'.cell? ⟨B,8,none⟩=some (.int .i64 x.gen)/\w'.cell? ⟨B,9,none⟩=some (.slice vd ds.length cvd)/\w'.cell? ⟨B,10,none⟩=some (.int .i64 f)/\w'.cell? ⟨B,11,none⟩=some (.bool x.down)/\w'.cell? ⟨B,12,none⟩=some (.bool x.vH)) (by kernel_rfl) ?_ (fun vF=>?_)
   . exact Y7.out.cells13
   clear vF;have bd:Below w7.heap.size w7 w7.drew:=(Below.refl _ _).drew;have S7_1:=aa (S7.out.below bd);have Y7_1:=aa (Y7.out.below bd Y7.out.lt);have M7_1:=aa (M7.out.below bd);clear S7 Y7 M7;generalize w7.drew=wr0 at S7_1 Y7_1 M7_1 ⊢;clear bd;refine ab 0 (Y7_1.out.cells13) ?_
   refine ab 1 (Y7_1.out.cells13) ?_
   refine ab 4 (Y7_1.out.cells13) ?_
   refine aq (i:=2) (by kernel_rfl) rfl (by kernel_rfl) (fun K hK=>?_)
   have nb:=ae wr0 (.cells #[.int .i64 0,.int .i64 0,.int .i64 0,.int .i64 1,.int .i64 2,.int .i64 (-1),.int .i64 8] 3);have L0:=aa (aR (bj.lit .i64 3 wr0 [0,0,0,1,2,-1,8] 7 #[.int .i64 0,.int .i64 0,.int .i64 0,.int .i64 1,.int .i64 2,.int .i64 (-1),.int .i64 8] rfl rfl (by unfold maxLen;omega))).toIn;have zL:B<wr0.heap.size:=Y7_1.out.lt;obtain ⟨BL,hBL⟩:∃BL,wr0.heap.size=BL:=⟨_,rfl⟩;have HBL:Hid (B<BL):=hBL▸zL;have S7_2:=aa (S7_1.out.below nb);have Y7_2:=aa (Y7_1.out.below nb Y7_1.out.lt);have M7_2:=aa (M7_1.out.below nb);clear S7_1 Y7_1 M7_1;go_simp
   refine hK.out _ _ ?_ (fun vF=>?_)
   . exact Y7_2.out.cells13
   clear hK K;rw [hBL] at L0;clear nb zL hBL vF;generalize wr0.alloc (.cells #[.int .i64 0,.int .i64 0,.int .i64 0,.int .i64 1,.int .i64 2,.int .i64 (-1),.int .i64 8] 3)=wr3 at S7_2 Y7_2 M7_2 L0 ⊢;refine aq (i:=3) (by kernel_rfl) rfl (by kernel_rfl) (fun K hK=>?_)
   go_simp
   refine (kI S7_2.out.1 _ _ _ [0,0,0,1,2,-1,8] rfl (aP L0.out.rd).1 (fun q hq=>by cases hq;have h1:=HBL.out;have h2:=HGB.out;show g+1<=BL;omega) (by decide) (by decide)).mono ?_
   rintro e wr4 ⟨sv,rfl,_,Dn,bn⟩;clear L0;have S7_5:=aa (S7_2.out.draw Dn bn);have Y7_5:=aa (Y7_2.out.kept (bn.block _ Y7_2.out.lt (.inr (by have:=HGB.out;omega))));have M7_5:=aa (M7_2.out.but bn (fun b hb=>by have:=(HRR.out b hb);have:=HGB.out;omega));clear S7_2 Y7_2 M7_2;clear Dn bn;go_wp2_with fail
   refine hK.out _ _ ?_ (fun vF=>?_)
   . exact Y7_5.out.cells13
   clear hK K;clear vF;refine aq (i:=5) (by kernel_rfl) rfl (by kernel_rfl) (fun K hK=>?_)
   have RX:=S7_5.out.2.2.1;obtain ⟨r0,r1,r2,r3,r4,r5,r6,r7,r8,r9,r10,r11,r12⟩:=RX.cells13;have fzr:=RX.frozen;clear RX;have S7_6:=aa (S7_5.out.store);have Y7_6:=aa (Y7_5.out.kept ((bN R [(0,.int .i64 x.id),(1,.int .i64 x.n),(2,.int .i64 x.s),(3,.slice vm ms.length cvm),(4,.int .i64 x.lost),(5,.int .i64 x.vG),(6,.int .i64 x.seq),(7,.int .i64 x.tail),(8,.int .i64 x.gen),(9,.slice vd ds.length cvd),(10,.int .i64 f),(11,.bool x.down),(12,.bool x.vH)] wr4).block _ Y7_5.out.lt (.inr (by have:=HGB.out;have:=HRG.out;omega))));have M7_6:=aa (M7_5.out.but (bN R [(0,.int .i64 x.id),(1,.int .i64 x.n),(2,.int .i64 x.s),(3,.slice vm ms.length cvm),(4,.int .i64 x.lost),(5,.int .i64 x.vG),(6,.int .i64 x.seq),(7,.int .i64 x.tail),(8,.int .i64 x.gen),(9,.slice vd ds.length cvd),(10,.int .i64 f),(11,.bool x.down),(12,.bool x.vH)] wr4) (fun b hb=>by have:=(HRR.out b hb);have:=HGB.out;have:=HRG.out;omega));simp only [bK] at S7_6 Y7_6 M7_6
   clear S7_5 Y7_5 M7_5;go_simp
   refine hK.out _ _ ?_ (fun vF=>?_)
   . exact Y7_6.out.cells13
   clear hK K;clear r0 r1 r2 r3 r4 r5 r6 r7 r8 r9 r10 r11 r12 fzr vF;generalize ((((((((((((wr4.setCell ⟨R,0,none⟩ (.int .i64 x.id)).setCell ⟨R,1,none⟩ (.int .i64 x.n)).setCell ⟨R,2,none⟩ (.int .i64 x.s)).setCell ⟨R,3,none⟩ (.slice vm ms.length cvm)).setCell ⟨R,4,none⟩ (.int .i64 x.lost)).setCell ⟨R,5,none⟩ (.int .i64 x.vG)).setCell ⟨R,6,none⟩ (.int .i64 x.seq)).setCell ⟨R,7,none⟩ (.int .i64 x.tail)).setCell ⟨R,8,none⟩ (.int .i64 x.gen)).setCell ⟨R,9,none⟩ (.slice vd ds.length cvd)).setCell ⟨R,10,none⟩ (.int .i64 f)).setCell ⟨R,11,none⟩ (.bool x.down)).setCell ⟨R,12,none⟩ (.bool x.vH)=wr7 at S7_6 Y7_6 M7_6 ⊢;refine ab 6 (Y7_6.out.cells13) ?_
   refine ab 7 (Y7_6.out.cells13) ?_
   refine wpAnyH_done (by kernel_rfl) ?_ _
   have HO:Hid (DrwS w (.returned (.tuple #[.agg #[.int .i64 x.id,.int .i64 x.n,.int .i64 x.s,.slice vm ms.length cvm,.int .i64 x.lost,.int .i64 x.vG,.int .i64 x.seq,.int .i64 x.tail,.int .i64 x.gen,.slice vd ds.length cvd,.int .i64 f,.bool x.down,.bool x.vH],.int .i64 sv,.slice au xs.length cu])) wr7):=⟨_,sv,au,cu,xs,fr,rfl,S7_6.out.drw,M7_6.out,by omega⟩;have RX:=S7_6.out.2.2.1;unfold aC at RX;obtain ⟨r0,r1,r2,r3,r4,r5,r6,r7,r8,r9,r10,r11,r12⟩:=RX.cells13;clear RX S7_6 Y7_6 M7_6;go_wp2
   refine bodyPost_ret (by simp [results,Tryz.results19,go_sem,r0,r1,r2,r3,r4,r5,r6,r7,r8,r9,r10,r11,r12];rfl) rfl ?_
   exact HO.out
 go_wp2_with fail
 refine (jm S7.out.1).mono ?_
 rintro e w8 ⟨u8,ys,rfl,hyl,hO8,D8',b8⟩;obtain ⟨av,cv,hu8,_⟩:=hO8.shape;subst hu8;clear M7 HRR;obtain ⟨fq,mr,rr⟩:=(aR hO8).mine;have HRR:Hid (∀b∈fq,B<b):=fun b hb=>Nat.lt_of_lt_of_le Y7.out.lt (rr b hb).1;have S8:=aa (S7.out.draw D8' b8);have Y8:=aa (Y7.out.kept (b8.block _ Y7.out.lt (.inr (by have:=HGB.out;omega))));have M8:=aa mr;clear S7 Y7 D8' b8 hO8 mr rr;go_wp2_with fail
 refine wp_region_held_drew (S:=fun w'=>w'.cell? ⟨B,0,none⟩=some (.int .i64 x.id)/\w'.cell? ⟨B,1,none⟩=some (.int .i64 x.n)/\w'.cell? ⟨B,2,none⟩=some (.int .i64 x.s)/\w'.cell? ⟨B,3,none⟩=some (.slice vm ms.length cvm)/\w'.cell? ⟨B,4,none⟩=some (.int .i64 x.lost)/\w'.cell? ⟨B,5,none⟩=some (.int .i64 x.vG)/\w'.cell? ⟨B,6,none⟩=some (.int .i64 x.seq)/\w'.cell? ⟨B,7,none⟩=some (.int .i64 x.tail)/\w'.cell? ⟨B,8,none⟩=some (.int .i64 x.gen)/\w'.cell? ⟨B,9,none⟩=some (.slice vd ds.length cvd)/\w'.cell? ⟨B,10,none⟩=some (.int .i64 f)/\w'.cell? ⟨B,11,none⟩=some (.bool x.down)/\w'.cell? ⟨B,12,none⟩=some (.bool x.vH)) (by kernel_rfl) ?_ (fun vF=>?_)
 . exact Y8.out.cells13
 clear vF;have bd:Below w8.heap.size w8 w8.drew:=(Below.refl _ _).drew;have S8_1:=aa (S8.out.below bd);have Y8_1:=aa (Y8.out.below bd Y8.out.lt);have M8_1:=aa (M8.out.below bd);clear S8 Y8 M8;generalize w8.drew=wr0 at S8_1 Y8_1 M8_1 ⊢;clear bd;refine ab 0 (Y8_1.out.cells13) ?_
 refine ab 1 (Y8_1.out.cells13) ?_
 refine ab 4 (Y8_1.out.cells13) ?_
 refine aq (i:=2) (by kernel_rfl) rfl (by kernel_rfl) (fun K hK=>?_)
 have nb:=ae wr0 (.cells #[.int .i64 0,.int .i64 0,.int .i64 0,.int .i64 1,.int .i64 2,.int .i64 (-1),.int .i64 8] 3);have L0:=aa (aR (bj.lit .i64 3 wr0 [0,0,0,1,2,-1,8] 7 #[.int .i64 0,.int .i64 0,.int .i64 0,.int .i64 1,.int .i64 2,.int .i64 (-1),.int .i64 8] rfl rfl (by unfold maxLen;omega))).toIn;have zL:B<wr0.heap.size:=Y8_1.out.lt;obtain ⟨BL,hBL⟩:∃BL,wr0.heap.size=BL:=⟨_,rfl⟩;have HBL:Hid (B<BL):=hBL▸zL;have S8_2:=aa (S8_1.out.below nb);have Y8_2:=aa (Y8_1.out.below nb Y8_1.out.lt);have M8_2:=aa (M8_1.out.below nb);clear S8_1 Y8_1 M8_1;go_simp
 refine hK.out _ _ ?_ (fun vF=>?_)
 . exact Y8_2.out.cells13
 clear hK K;rw [hBL] at L0;clear nb zL hBL vF;generalize wr0.alloc (.cells #[.int .i64 0,.int .i64 0,.int .i64 0,.int .i64 1,.int .i64 2,.int .i64 (-1),.int .i64 8] 3)=wr3 at S8_2 Y8_2 M8_2 L0 ⊢;refine aq (i:=3) (by kernel_rfl) rfl (by kernel_rfl) (fun K hK=>?_)
 go_simp
 refine (kI S8_2.out.1 _ _ _ [0,0,0,1,2,-1,8] rfl (aP L0.out.rd).1 (fun q hq=>by cases hq;have h1:=HBL.out;have h2:=HGB.out;show g+1<=BL;omega) (by decide) (by decide)).mono ?_
 rintro e wr4 ⟨sv,rfl,_,Dn,bn⟩;clear L0;have S8_5:=aa (S8_2.out.draw Dn bn);have Y8_5:=aa (Y8_2.out.kept (bn.block _ Y8_2.out.lt (.inr (by have:=HGB.out;omega))));have M8_5:=aa (M8_2.out.but bn (fun b hb=>by have:=(HRR.out b hb);have:=HGB.out;omega));clear S8_2 Y8_2 M8_2;clear Dn bn;go_wp2_with fail
 refine hK.out _ _ ?_ (fun vF=>?_)
 . exact Y8_5.out.cells13
 clear hK K;clear vF;refine aq (i:=5) (by kernel_rfl) rfl (by kernel_rfl) (fun K hK=>?_)
 have RX:=S8_5.out.2.2.1;obtain ⟨r0,r1,r2,r3,r4,r5,r6,r7,r8,r9,r10,r11,r12⟩:=RX.cells13;have fzr:=RX.frozen;clear RX;have S8_6:=aa (S8_5.out.store);have Y8_6:=aa (Y8_5.out.kept ((bN R [(0,.int .i64 x.id),(1,.int .i64 x.n),(2,.int .i64 x.s),(3,.slice vm ms.length cvm),(4,.int .i64 x.lost),(5,.int .i64 x.vG),(6,.int .i64 x.seq),(7,.int .i64 x.tail),(8,.int .i64 x.gen),(9,.slice vd ds.length cvd),(10,.int .i64 f),(11,.bool x.down),(12,.bool x.vH)] wr4).block _ Y8_5.out.lt (.inr (by have:=HGB.out;have:=HRG.out;omega))));have M8_6:=aa (M8_5.out.but (bN R [(0,.int .i64 x.id),(1,.int .i64 x.n),(2,.int .i64 x.s),(3,.slice vm ms.length cvm),(4,.int .i64 x.lost),(5,.int .i64 x.vG),(6,.int .i64 x.seq),(7,.int .i64 x.tail),(8,.int .i64 x.gen),(9,.slice vd ds.length cvd),(10,.int .i64 f),(11,.bool x.down),(12,.bool x.vH)] wr4) (fun b hb=>by have:=(HRR.out b hb);have:=HGB.out;have:=HRG.out;omega));simp only [bK] at S8_6 Y8_6 M8_6
 clear S8_5 Y8_5 M8_5;go_simp
 refine hK.out _ _ ?_ (fun vF=>?_)
 . exact Y8_6.out.cells13
 clear hK K;clear r0 r1 r2 r3 r4 r5 r6 r7 r8 r9 r10 r11 r12 fzr vF;generalize ((((((((((((wr4.setCell ⟨R,0,none⟩ (.int .i64 x.id)).setCell ⟨R,1,none⟩ (.int .i64 x.n)).setCell ⟨R,2,none⟩ (.int .i64 x.s)).setCell ⟨R,3,none⟩ (.slice vm ms.length cvm)).setCell ⟨R,4,none⟩ (.int .i64 x.lost)).setCell ⟨R,5,none⟩ (.int .i64 x.vG)).setCell ⟨R,6,none⟩ (.int .i64 x.seq)).setCell ⟨R,7,none⟩ (.int .i64 x.tail)).setCell ⟨R,8,none⟩ (.int .i64 x.gen)).setCell ⟨R,9,none⟩ (.slice vd ds.length cvd)).setCell ⟨R,10,none⟩ (.int .i64 f)).setCell ⟨R,11,none⟩ (.bool x.down)).setCell ⟨R,12,none⟩ (.bool x.vH)=wr7 at S8_6 Y8_6 M8_6 ⊢;refine ab 6 (Y8_6.out.cells13) ?_
 refine ab 7 (Y8_6.out.cells13) ?_
 refine wpAnyH_done (by kernel_rfl) ?_ _
 have HO:Hid (DrwS w (.returned (.tuple #[.agg #[.int .i64 x.id,.int .i64 x.n,.int .i64 x.s,.slice vm ms.length cvm,.int .i64 x.lost,.int .i64 x.vG,.int .i64 x.seq,.int .i64 x.tail,.int .i64 x.gen,.slice vd ds.length cvd,.int .i64 f,.bool x.down,.bool x.vH],.int .i64 sv,.slice av ys.length cv])) wr7):=⟨_,sv,av,cv,ys,fq,rfl,S8_6.out.drw,M8_6.out,by omega⟩;have RX:=S8_6.out.2.2.1;unfold aC at RX;obtain ⟨r0,r1,r2,r3,r4,r5,r6,r7,r8,r9,r10,r11,r12⟩:=RX.cells13;clear RX S8_6 Y8_6 M8_6;go_wp2
 refine bodyPost_ret (by simp [results,Tryz.results19,go_sem,r0,r1,r2,r3,r4,r5,r6,r7,r8,r9,r10,r11,r12];rfl) rfl ?_
 exact HO.out
theorem qA {zs:List Int} (h:∀n∈zs,(Lit.int .u8 n).wf=true):∀n∈zs,0<=n/\n<=255:=by
 intro n hn;have:=h n hn;simp [Lit.wf,IntKind.min,IntKind.max,IntKind.signed,IntKind.bits] at this
 omega
theorem sG (a:Option Addr) (len cap:Nat) (w:World):Calls Tryz.prog 9 #[.slice a len cap] w fun e w'=>e=.returned (.bool (decide (1048576<(len:Int))))/\w=w':=by
 go_enter Tryz.func9,Tryz.ntmps9
 go_wp2
 go_ret
 exact ⟨rfl,rfl⟩
theorem mY {n s t i:Int}:fC n s t i=true ↔ ∃b,cl n s b=true/\bC n s b=t/\cS n s b=i:=by
 constructor
 . intro h
   unfold fC at h;rw [Bool.and_eq_true,dI,aI] at h;obtain ⟨⟨hg,h1,h2⟩,h3,h4⟩:=h;obtain ⟨g1,g2,g3,g4⟩:=aB.1 hg;have hb:cl n s (t*(n-1)+i)=true:=by
    rw [ex,fU hg];have:n=3∨n=4∨n=5:=by omega
    rcases this with rfl|rfl|rfl<;>omega
   refine ⟨t*(n-1)+i,hb,?_,?_⟩
   . unfold bC
     rw [if_pos hb];have:n=3∨n=4∨n=5:=by omega
     rcases this with rfl|rfl|rfl<;>omega
   unfold cS;rw [if_pos hb];have:n=3∨n=4∨n=5:=by omega
   rcases this with rfl|rfl|rfl<;>omega
 rintro ⟨b,hb,rfl,rfl⟩;have hg:=jG hb;have hb':=ex.1 hb;rw [fU hg] at hb';obtain ⟨g1,g2,g3,g4⟩:=aB.1 hg;unfold fC;rw [Bool.and_eq_true,dI,aI];unfold bC cS;rw [if_pos hb,if_pos hb];have:n=3∨n=4∨n=5:=by omega
 rcases this with rfl|rfl|rfl<;>exact ⟨⟨hg,by omega⟩,by omega⟩
theorem uS {n s b:Int} (hb:cl n s b=true):fS n s (bC n s b) (cS n s b)=b:=by
 have h:=mY.2 ⟨b,hb,rfl,rfl⟩;unfold fS;rw [if_pos h];obtain ⟨g1,g2,g3,g4⟩:=aB.1 (jG hb);have hb':=ex.1 hb;unfold bC cS;rw [if_pos hb,if_pos hb];have:n=3∨n=4∨n=5:=by omega
 rcases this with rfl|rfl|rfl<;>omega
theorem lw (w:World) (n s t i:Int):Calls Tryz.prog 76 #[.agg #[.int .i64 n,.int .i64 s],.int .i64 t,.int .i64 i] w fun e w'=>e=.returned (.int .i64 (fS n s t i))/\Below w.heap.size w w':=by
 have hA:Below w.heap.size w ((w.alloc (.cells #[.int .i64 n,.int .i64 s] 25)).alloc (.cells #[.int .i64 t,.int .i64 i] 131)):=(ae w _).alloc (by simp) _;have X:bL ((w.alloc (.cells #[.int .i64 n,.int .i64 s] 25)).alloc (.cells #[.int .i64 t,.int .i64 i] 131)) w.heap.size 25 n s:=(bL.new w 25 n s).below (ae _ _) (by simp);have Y:bL ((w.alloc (.cells #[.int .i64 n,.int .i64 s] 25)).alloc (.cells #[.int .i64 t,.int .i64 i] 131)) (w.heap.size+1) 131 t i:=by
  have:=bL.new (w.alloc (.cells #[.int .i64 n,.int .i64 s] 25)) 131 t i;simpa using this
 obtain ⟨k0,k1⟩:=X.cells;obtain ⟨x0,x1⟩:=(bL.new w 25 n s).cells;go_enter Tryz.func76,Tryz.ntmps76
 go_wp2_with fail
 refine (jb _ _ _).mono ?_
 rintro e w1 ⟨rfl,b1⟩;have hz:w.heap.size+1<((w.alloc (.cells #[.int .i64 n,.int .i64 s] 25)).alloc (.cells #[.int .i64 t,.int .i64 i] 131)).heap.size:=by simp
 have X1:=X.below b1 (by omega);have Y1:=Y.below b1 hz;have B1:=hA.trans (b1.mono hA.size);have hr:=eU n s;obtain ⟨nb,hnb⟩:=Int.eq_ofNat_of_zero_le hr.1;have HNB:=aa hnb;rw [hnb] at hr ⊢;clear k0 k1 x0 x1 X Y hA b1 hz hnb;go_wp2_with fail
 go_loopw [14] (fun c wr=>∃j:Nat,j<=nb/\c=.int .i64 j/\(∀k:Nat,k<j->¬(bC n s k=t/\cS n s k=i))/\bL wr w.heap.size 25 n s/\bL wr (w.heap.size+1) 131 t i/\Below w.heap.size w wr) (fun c _=>nb-(intOf c).toNat)
 case atStart=>exact ⟨0,Nat.zero_le _,rfl,by omega,X1,Y1,B1⟩
 obtain ⟨j,hj,rfl,hk,X2,Y2,B2⟩:=hrel;have HK:=aa hk;clear hk X1 Y1 B1;by_cases hlt:j<nb
 . have hb:cl n s j=true:=ex.2 ⟨by omega,by rw [HNB.out];omega⟩
   have HBA:=aa (uS hb);obtain ⟨k0,k1⟩:=X2.cells;obtain ⟨j0,j1⟩:=Y2.cells;generalize hS:bC n s j=S at HBA HK;generalize hI:cS n s j=I at HBA HK;have HP:∀W:World,Calls Tryz.prog 154 #[.agg #[.int .i64 n,.int .i64 s],.int .i64 (j:Int)] W fun e w'=>e=.returned (.agg #[.int .i64 S,.int .i64 I])/\Below W.heap.size W w':=by
    intro W;rw [←hS,←hI];exact qu _ _ _ _
   have HS:=aa hS;have HI:=aa hI;clear hS hI;by_cases h1:S=t
   . by_cases h2:I=i
     . subst h1 h2
       go_wp2_with fail
       go_region_held3 (fun w'=>w'.cell? ⟨w.heap.size,0,none⟩=some (.int .i64 n)/\w'.cell? ⟨w.heap.size,1,none⟩=some (.int .i64 s)/\w'.cell? ⟨w.heap.size+1,0,none⟩=some (.int .i64 S)/\w'.cell? ⟨w.heap.size+1,1,none⟩=some (.int .i64 I))
        (first|(exact ⟨X3.cells.1,X3.cells.2,Y3.cells.1,Y3.cells.2⟩)|(exact ⟨k0,k1,j0,j1⟩)|go_keep)
        (first
         | (go_at_call 154;refine (HP _).mono ?_;rintro e w3 ⟨rfl,b3⟩;have B3:=Below.andThen B2.drew b3;have X3:=X2.drew.below b3 X2.lt;have Y3:=Y2.drew.below b3 Y2.lt))
       go_wp2
       go_ret
       exact ⟨aG HBA.out.symm,B3⟩
     have n2:(I==i)=false:=by simpa using h2
     subst h1;go_wp2_with fail
     go_region_held3 (fun w'=>w'.cell? ⟨w.heap.size,0,none⟩=some (.int .i64 n)/\w'.cell? ⟨w.heap.size,1,none⟩=some (.int .i64 s)/\w'.cell? ⟨w.heap.size+1,0,none⟩=some (.int .i64 S)/\w'.cell? ⟨w.heap.size+1,1,none⟩=some (.int .i64 i))
      (first|(exact ⟨X3.cells.1,X3.cells.2,Y3.cells.1,Y3.cells.2⟩)|(exact ⟨k0,k1,j0,j1⟩)|go_keep)
      (first
       | (go_at_call 154;refine (HP _).mono ?_;rintro e w3 ⟨rfl,b3⟩;have B3:=Below.andThen B2.drew b3;have X3:=X2.drew.below b3 X2.lt;have Y3:=Y2.drew.below b3 Y2.lt))
     go_wp2
     go_roundw
     case rel=>exact ⟨j+1,by omega,by go_num,fun k hk h=>by
      by_cases hkj:k<j
      . exact HK.out k hkj h
      have:k=j:=by omega
      subst this;exact h2 (HI.out▸h.2),X3,Y3,B3⟩
     case measure=>simp [intOf];omega
   have n1:(S==t)=false:=by simpa using h1
   go_wp2_with fail
   go_region_held3 (fun w'=>w'.cell? ⟨w.heap.size,0,none⟩=some (.int .i64 n)/\w'.cell? ⟨w.heap.size,1,none⟩=some (.int .i64 s)/\w'.cell? ⟨w.heap.size+1,0,none⟩=some (.int .i64 t)/\w'.cell? ⟨w.heap.size+1,1,none⟩=some (.int .i64 i))
    (first|(exact ⟨X3.cells.1,X3.cells.2,Y3.cells.1,Y3.cells.2⟩)|(exact ⟨k0,k1,j0,j1⟩)|go_keep)
    (first
     | (go_at_call 154;refine (HP _).mono ?_;rintro e w3 ⟨rfl,b3⟩;have B3:=Below.andThen B2.drew b3;have X3:=X2.drew.below b3 X2.lt;have Y3:=Y2.drew.below b3 Y2.lt))
   go_wp2
   go_roundw
   case rel=>exact ⟨j+1,by omega,by go_num,fun k hk h=>by
    by_cases hkj:k<j
    . exact HK.out k hkj h
    have:k=j:=by omega
    subst this;exact h1 (HS.out▸h.1),X3,Y3,B3⟩
   case measure=>simp [intOf];omega
 go_wp2
 go_ret
 have e:j=nb:=by omega
 subst e;refine ⟨aG ?_,B2⟩
 unfold fS;rw [if_neg];intro h;obtain ⟨b,hb,h1,h2⟩:=mY.1 h;obtain ⟨hb0,hb1⟩:=ex.1 hb;obtain ⟨b,rfl⟩:=Int.eq_ofNat_of_zero_le hb0;rw [HNB.out] at hb1;exact HK.out b (by omega) ⟨h1,h2⟩
theorem tC {n s t i:Int} (h:fC n s t i=true):0<=fS n s t i:=by
 unfold fS;rw [if_pos h];unfold fC at h;rw [Bool.and_eq_true,dI,aI] at h;obtain ⟨⟨hg,h1,h2⟩,h3,h4⟩:=h;obtain ⟨g1,g2,g3,g4⟩:=aB.1 hg;have:n=3∨n=4∨n=5:=by omega
 rcases this with rfl|rfl|rfl<;>omega
theorem uT {n s t i:Int}:fC n s t i=true ↔ bF n s=true/\0<=t/\t<s/\0<=i/\i<=n-2:=by
 unfold fC;rw [Bool.and_eq_true,dI,aI];constructor
 . rintro ⟨⟨a,b,c⟩,d,e⟩
   exact ⟨a,b,c,d,e⟩
 rintro ⟨a,b,c,d,e⟩;exact ⟨⟨a,b,c⟩,d,e⟩
theorem nc (w:World) (n s t i:Int):Calls Tryz.prog 17 #[.agg #[.int .i64 n,.int .i64 s],.int .i64 t,.int .i64 i] w fun e w'=>e=.returned (.int .i64 (fa n s t i))/\Below w.heap.size w w':=by
 have hA:=ae w (.cells #[.int .i64 n,.int .i64 s] 25);have X:=bL.new w 25 n s;obtain ⟨k0,k1⟩:=X.cells;have zA:=X.lt;go_enter Tryz.func17,Tryz.ntmps17
 go_wp2_with fail
 refine (lw _ _ _ _ _).mono ?_
 rintro e w1 ⟨rfl,b1⟩;have X1:=X.below b1 zA;have B1:=Below.andThen hA b1;clear k0 k1 X b1 hA zA;obtain ⟨k0,k1⟩:=X1.cells;by_cases hs:fC n s t i=true
 . have h0:=tC hs
   obtain ⟨hg,h1,h2,h3,h4⟩:=uT.1 hs;obtain ⟨g1,g2,g3,g4⟩:=aB.1 hg;have hm1:0<=t % n:=Int.emod_nonneg _ (by omega);have hm2:t % n<n:=Int.emod_lt_of_pos _ (by omega);have HP:bX n s t=n-1-t % n:=by unfold bX;rw [if_pos (dI.2 ⟨hg,h1,h2⟩)]
   have HPar:∀W:World,Calls Tryz.prog 15 #[.agg #[.int .i64 n,.int .i64 s],.int .i64 t] W fun e w'=>e=.returned (.int .i64 (n-1-t % n))/\Below W.heap.size W w':=by
    intro W;rw [←HP];exact ie _ _ _ _
   have HD:Hid (fa n s t i=(n-1-t % n+1+i) % n):=by unfold Hid fa;rw [if_pos hs]
   clear HP;generalize t % n=r at hm1 hm2 HPar HD;have e0:¬fS n s t i=-1:=by omega
   have e1:¬n=0:=by omega
   have e2:(n-1-r+1+i).tmod n=(n-1-r+1+i) % n:=Int.tmod_eq_emod_of_nonneg (by omega);have e3:IntKind.i64.wrap (n-1-r+1)=n-1-r+1:=IntWalk.i64_in _ (by omega);have e4:IntKind.i64.wrap (n-1-r+1+i)=n-1-r+1+i:=IntWalk.i64_in _ (by omega);have e5:(fS n s t i==-1)=false:=by simpa using e0
   go_wp2_with fail
   go_region_held3 (fun w'=>w'.cell? ⟨w.heap.size,0,none⟩=some (.int .i64 n)/\w'.cell? ⟨w.heap.size,1,none⟩=some (.int .i64 s))
    (first|(exact X2.cells)|(exact X1.cells)|go_keep)
    (first
     | (go_at_call 15;refine (HPar _).mono ?_;rintro e w2 ⟨rfl,b2⟩;have B2:=Below.andThen B1.drew b2;have X2:=X1.drew.below b2 X1.lt))
   go_wp2
   go_ret
   exact ⟨aG HD.out.symm,B2⟩
 have e0:fS n s t i=-1:=by unfold fS;rw [if_neg hs]
 have e5:(fS n s t i==-1)=true:=by simpa using e0
 go_wp2
 go_ret
 exact ⟨aG (by unfold fa;rw [if_neg hs]),B1⟩
def jd (N:Nat) (p:Int) (zs:List Int):List Int:=(List.range N).map fun i:Nat=>gf (N:Int) p zs i
def gu (N:Nat) (p:Int) (zs:List Int) (j:Nat):List Int:=(List.range N).map fun i:Nat=>if (i:Int)=p then fI zs else if ((i:Int)-p-1+(N:Int)) % (N:Int)<(j:Int) then zs.getD (((i:Int)-p-1+(N:Int)) % (N:Int)).toNat 0 else 0
theorem iF (N:Nat) (p:Int) (zs:List Int) (j:Nat):(gu N p zs j).length=N:=by unfold gu;simp
theorem kN {N:Nat} {p:Int} {zs:List Int} {j k:Nat} (hk:k<N):(gu N p zs j)[k]?=some (if (k:Int)=p then fI zs else if ((k:Int)-p-1+(N:Int)) % (N:Int)<(j:Int) then zs.getD (((k:Int)-p-1+(N:Int)) % (N:Int)).toNat 0 else 0):=by
 unfold gu;rw [List.getElem?_map,List.getElem?_range hk];rfl
theorem qB {N P:Nat} {zs:List Int} (hN:3<=N/\N<=5) (hP:P<N):(List.replicate N (0:Int)).set P (fI zs)=gu N (P:Int) zs 0:=by
 apply List.ext_getElem?
 intro k;by_cases hk:k<N
 . rw [kN hk]
   by_cases e:k=P
   . subst e
     rw [List.getElem?_set_self (by simpa using hk),if_pos rfl]
   have h1:¬((k:Int)-(P:Int)-1+(N:Int)) % (N:Int)<((0:Nat):Int):=by
    have:=Int.emod_nonneg ((k:Int)-(P:Int)-1+(N:Int)) (show (N:Int)≠0 by omega);omega
   rw [List.getElem?_set_ne (by omega),if_neg (by omega),if_neg h1,List.getElem?_replicate,if_pos hk]
 rw [List.getElem?_eq_none (by simp;omega),List.getElem?_eq_none (by rw [iF];omega)]
theorem rW {N P D j:Nat} {zs:List Int} (hN:3<=N/\N<=5) (hP:P<N) (hj:j+1<N) (hD:(D:Int)=((P:Int)+1+(j:Int)) % (N:Int)):(gu N (P:Int) zs j).set D (zs.getD j 0)=gu N (P:Int) zs (j+1):=by
 have hDN:D<N:=by
  have:=Int.emod_lt_of_pos ((P:Int)+1+(j:Int)) (show (0:Int)<(N:Int) by omega);omega
 apply List.ext_getElem?
 intro k;by_cases hk:k<N
 . rw [kN hk]
   by_cases e:k=D
   . subst e
     have h1:((k:Int)-(P:Int)-1+(N:Int)) % (N:Int)=(j:Int)/\¬(k:Int)=(P:Int):=by
      obtain ⟨n1,n2⟩:=hN;have:N=3∨N=4∨N=5:=by omega
      rcases this with rfl|rfl|rfl<;>omega
     rw [List.getElem?_set_self (by rw [iF];exact hk),if_neg h1.2,h1.1,if_pos (by omega),Int.toNat_natCast]
   rw [List.getElem?_set_ne (fun h=>e h.symm),kN hk];by_cases e2:(k:Int)=(P:Int)
   . rw [if_pos e2,if_pos e2]
   rw [if_neg e2,if_neg e2];have h1:¬((k:Int)-(P:Int)-1+(N:Int)) % (N:Int)=(j:Int):=by
    obtain ⟨n1,n2⟩:=hN;have:N=3∨N=4∨N=5:=by omega
    rcases this with rfl|rfl|rfl<;>omega
   by_cases h2:((k:Int)-(P:Int)-1+(N:Int)) % (N:Int)<(j:Int)
   . rw [if_pos h2,if_pos (by omega)]
   rw [if_neg h2,if_neg (by omega)]
 rw [List.getElem?_eq_none (by rw [List.length_set,iF];omega),List.getElem?_eq_none (by rw [iF];omega)]
theorem rX {N P:Nat} {zs:List Int} (hN:3<=N/\N<=5) (hP:P<N):gu N (P:Int) zs (N-1)=jd N (P:Int) zs:=by
 unfold gu jd;apply List.map_congr_left
 intro k hk;have hk:=List.mem_range.1 hk;unfold gf;by_cases e2:(k:Int)=(P:Int)
 . rw [if_pos e2,if_pos e2]
 rw [if_neg e2,if_neg e2];have h1:((k:Int)-(P:Int)-1+(N:Int)) % (N:Int)<((N-1:Nat):Int):=by
  obtain ⟨n1,n2⟩:=hN;have:N=3∨N=4∨N=5:=by omega
  rcases this with rfl|rfl|rfl<;>omega
 rw [if_pos h1]
theorem ly (w:World) (N:Nat) (s t:Int) (a:Option Addr) (cap:Nat) (zs:List Int) (hg:bF (N:Int) s=true) (ht:inB t 0 (s-1)=true) (hz:zs.length+1=N) (h5:aA.Rd w [.slice a zs.length cap] zs):
 Calls Tryz.prog 217 #[.agg #[.int .i64 (N:Int),.int .i64 s],.int .i64 t,.slice a zs.length cap] w fun e w'=>∃b,e=.returned (.slice (some ⟨b,0,none⟩) N N)/\aA.Own w' w.heap.size w'.heap.size [.slice (some ⟨b,0,none⟩) N N] (jd N (bX (N:Int) s t) zs)/\Below w.heap.size w w':=by
 obtain ⟨i0,hi,hz0,hz1,hz2⟩:=info_parts Tryz.info3;have hN:3<=N/\N<=5:=by
  have:=aB.1 hg;omega
 obtain ⟨P1,P2⟩:=ug hg ht;have hsp:∀j:Nat,j+1<N->fa (N:Int) s t (j:Int)=(bX (N:Int) s t+1+(j:Int)) % (N:Int):=fun j hj=>by
  have hst:bG (N:Int) s t=true:=by unfold bG;rw [hg,ht];rfl
  have hij:inB (j:Int) 0 ((N:Int)-2)=true:=aI.2 ⟨by omega,by omega⟩;unfold fa bX fC;rw [hst,hij];simp
 obtain ⟨P,hP⟩:=Int.eq_ofNat_of_zero_le P1;have HSP:=aa hsp;rw [hP] at HSP P1 P2 ⊢;have HP:=aa hP;clear hsp hP;have h6:Hid (∀W,Below w.heap.size w W->aA.Rd W [.slice a zs.length cap] zs):=fun W hb=>h5.below hb;have bA:=ae w (.cells #[.int .i64 (N:Int),.int .i64 s] 25);have X:=Box.new w 25 #[.int .i64 (N:Int),.int .i64 s];obtain ⟨g0,g1⟩:=X.cells2;have hsz:(w.alloc (.cells #[.int .i64 (N:Int),.int .i64 s] 25)).heap.size=w.heap.size+1:=by simp
 have hb3:i0.bytes*N<=281474976710656:=by rw [hz2];omega
 have hm3:N<=maxLen:=by unfold maxLen;omega
 have zX:=X.lt;have r5:=h5.below bA;have HB0:=aa bA;go_enter Tryz.func217,Tryz.ntmps217
 go_wp2_with (at_make;refine wpList_make_full _ rfl _ _ 31 rfl (w.alloc (.cells #[.int .i64 (N:Int),.int .i64 s] 25)).heap.size 3 i0 (.int .i64 0) 1 Tryz.underlying31 hi hz0 hz1 _ _ _ _ N rfl rfl rfl rfl hb3 hm3 (Nat.le_refl _) ?_;intro w3 hown hgrow;have hB1:Below (w.alloc (.cells #[.int .i64 (N:Int),.int .i64 s] 25)).heap.size (w.alloc (.cells #[.int .i64 (N:Int),.int .i64 s] 25)) w3:=(Below.refl _ _).grown hgrow (Nat.le_refl _) (by simp);have c0:=(hB1.cell (p:=⟨w.heap.size,0,none⟩) zX).trans g0;have c1:=(hB1.cell (p:=⟨w.heap.size,1,none⟩) zX).trans g1)
 have hO:bj .i64 3 w3 (w.alloc (.cells #[.int .i64 (N:Int),.int .i64 s] 25)).heap.size (.slice (some ⟨(w.alloc (.cells #[.int .i64 (N:Int),.int .i64 s] 25)).heap.size,0,none⟩) N N) (List.replicate N 0):=by
  rw [ke] at hown;unfold bj;rw [List.length_replicate];exact hown
 have hO1:=hO.own;have X3:=X.below hB1 zX;have r3:=r5.below hB1;have B3:=aa (Below.andThen HB0.out hB1);have z3:=hB1.size;clear hown hgrow hO bA X r5 h5 hB1 HB0 g0 g1;rw [hsz] at hO1 z3;obtain ⟨LB,hLB⟩:∃LB,w.heap.size+1=LB:=⟨_,rfl⟩;rw [hLB] at hO1 z3 ⊢;have q0:w.heap.size+1<=LB/\LB<=w.heap.size+1:=by omega
 clear hLB hsz zX hb3 hm3;refine (ie _ (N:Int) s t).mono ?_
 rintro e w4 ⟨rfl,b4⟩;rw [HP.out];have X4:=X3.below b4 X3.lt;have r4:=r3.below b4;have o4:=hO1.below b4;have B4:=aa (Below.andThen B3.out b4);have z4:=b4.size;clear X3 r3 hO1 B3 b4 c0 c1;go_wp2_with fail
 refine (jz _ _ _ _ zs rfl (aP r4).1 (by omega)).mono ?_
 rintro e w5 ⟨rfl,s5⟩;have X5:=X4.same s5;have r5:=r4.same s5;have o5:=o4.same s5;have B5:=Below.andSame B4.out s5;have z5:=s5.size;clear X4 r4 o4 B4 s5;obtain ⟨hcy,hfy,hst,hbt⟩:=o5.store P (by omega) (fI zs);rw [qB hN (by omega)] at hst;have X6:Box (w5.setCell ⟨LB,P,none⟩ (.int .i64 (fI zs))) w.heap.size 25 #[.int .i64 (N:Int),.int .i64 s]:=X5.other (by omega) P _;have B6:Below w.heap.size w (w5.setCell ⟨LB,P,none⟩ (.int .i64 (fI zs))):=B5.setCell (show w.heap.size<=LB by omega) _;have r6:aA.Rd (w5.setCell ⟨LB,P,none⟩ (.int .i64 (fI zs))) [.slice a zs.length cap] zs:=h6.out _ B6;have i3:(0:Int)<=(P:Int):=by omega
 have i4:(P:Int)<(N:Int):=by omega
 generalize (List.replicate N (0:Int)).getD P 0=old at hcy;have HO:=aa hst;have HX:=aa X6;have HB6:=aa B6;have HR6:=aa r6;have hzl:(zs.length:Int)+1=(N:Int):=by omega
 clear X5 r5 o5 B5 hst hbt X6 B6 r6;go_wp2
 generalize w5.setCell ⟨LB,P,none⟩ (.int .i64 (fI zs))=W6 at HO HX HB6 HR6 ⊢;clear hcy hfy;go_loopw [22] (fun i wr=>∃j:Nat,j<=zs.length/\i=.int .i64 j/\Own .i64 3 wr LB w3.heap.size (.slice (some ⟨LB,0,none⟩) N N) (gu N (P:Int) zs j)/\Box wr w.heap.size 25 #[.int .i64 (N:Int),.int .i64 s]/\Below w.heap.size w wr) (fun i _=>zs.length-(intOf i).toNat)
 case atStart=>exact ⟨0,Nat.zero_le _,rfl,HO.out,HX.out,HB6.out⟩
 obtain ⟨j,hj,rfl,ho,xg,hb⟩:=hrel;by_cases hlt:j<zs.length
 . obtain ⟨g0,g1⟩:=xg.cells2
   have rr:=h6.out _ hb;rcases (aP rr).1.cases with h0|⟨b,off,rfl,hbl,hcz⟩
   . omega
   have hcj:=hcz j hlt;have hD:=HSP.out j (by omega);have hnx:=fun D hD=>rW (N:=N) (P:=P) (D:=D) (j:=j) (zs:=zs) hN (by omega) (by omega) hD;generalize zs.getD j 0=y at hcj hnx;have i5:(0:Int)<=(j:Int):=by omega
   have i6:(j:Int)<(zs.length:Int):=by omega
   clear hcz rr;go_wp2_with fail
   refine (nc _ (N:Int) s t (j:Int)).mono ?_
   rintro e w7 ⟨rfl,b7⟩;rw [hD];have q1:=Int.emod_nonneg ((P:Int)+1+(j:Int)) (show (N:Int)≠0 by omega);have q2:=Int.emod_lt_of_pos ((P:Int)+1+(j:Int)) (show (0:Int)<(N:Int) by omega);obtain ⟨D,hDD⟩:=Int.eq_ofNat_of_zero_le q1;have hst:=hnx D hDD.symm;rw [hDD] at q2 ⊢;have o7:=ho.below b7;have x7:=xg.below b7 xg.lt;have hb7:=hb.trans (b7.mono hb.size);obtain ⟨hcy,hfy,hs7,hbt⟩:=o7.store D (by omega) y;rw [hst] at hs7;have HS7:=aa hs7;have HX7:Hid (Box (w7.setCell ⟨LB,D,none⟩ (.int .i64 y)) w.heap.size 25 #[.int .i64 (N:Int),.int .i64 s]):=x7.other (by omega) D _;have HB7:Hid (Below w.heap.size w (w7.setCell ⟨LB,D,none⟩ (.int .i64 y))):=hb7.setCell (show w.heap.size<=LB by omega) _;generalize (gu N (P:Int) zs j).getD D 0=old2 at hcy;have i7:(0:Int)<=(D:Int):=by omega
   have i8:(D:Int)<(N:Int):=by omega
   clear ho xg hb b7 o7 x7 hb7 hs7 hbt hst hnx hD q1 hDD g0 g1;go_wp2
   go_roundw
   case rel=>exact ⟨j+1,by omega,by go_num,HS7.out,HX7.out,HB7.out⟩
   case measure=>simp [intOf];omega
 have ej:j=N-1:=by omega
 have i6:¬(j:Int)<(zs.length:Int):=by omega
 rw [ej,rX hN (by omega)] at ho;have FO:=aa ((aR ho.1).widen (lo':=w.heap.size) (by omega) (Nat.le_refl _));have FB:=aa hb;clear ho hb xg ej;go_wp2
 go_ret
 exact ⟨LB,rfl,FO.out,FB.out⟩
def ne (F:FuncId) (args:Array Value):Prop:=∀w:World,Sem.run Tryz.prog (callFunc F args) w=.ok (.enter F args) w
theorem dz {F : FuncId} {fn : Func} (hf : Tryz.prog.funcs[F]? = some fn) (hn : (fn.name == "runtime.NumGoroutine") = false) (hb : fn.body.isNone = false) (args : Array Value) : ne F args := by
 intro w;have hb':¬fn.body=none:=fun h=>by rw [h] at hb;cases hb
 have hn' : ¬ fn.name = "runtime.NumGoroutine" := by simpa using hn
 simp [go_sem,callFunc,hf,hn',hb']
def nf (B:Nat) (fp:List Nat) (F:FuncId) (cap:Array Value) (o:DOp) (w:World):Prop:=
 ∀(x:al) (ms:List ai) (ds:List (Int×List Int)) (fm fd:List Nat),aD w B x ms ds fm fd->bM ms->(∀b∈fp,b≠B/\b∉fm)->o.1<ms.length ->
  Calls Tryz.prog F cap w fun e w'=>e=.returned (.tuple #[])/\∃fm',aD w' B x (ms.set o.1 (opF o x (ms.getD o.1 gZ))) ds fm' fd/\aJ B fm w fm' w'
def opOw (B:Nat) (w:World) (vs:List Value) (o:DOp) (fp:List Nat):Prop:=
 ∃F cap,vs=[.func (Fn.func F) #[] cap]/\ne F cap/\(∀b∈fp,b<w.heap.size)/\∀w':World,(∀b∈fp,w'.heap[b]?=w.heap[b]?)->w.heap.size<=w'.heap.size->nf B fp F cap o w'
abbrev jI (B:Nat):Ty where
 n:=1
 D:=DOp
 rd:=opOw B
 ow:=opOw B
 owRd:=fun h=>h
 rdLen:=fun ⟨_,_,h,_⟩=>by rw [h];rfl
 rdLt:=fun ⟨_,_,_,_,h,_⟩=>h
 rdKept:=fun ⟨F,cap,h,he,hl,hr⟩ hk hs=>⟨F,cap,h,he,fun b hb=>Nat.lt_of_lt_of_le (hl b hb) hs,fun w'' hk2 hs2=>hr w'' (fun b hb=>(hk2 b hb).trans (hk b hb)) (Nat.le_trans hs hs2)⟩
 owKept:=fun ⟨F,cap,h,he,hl,hr⟩ hk hs=>⟨F,cap,h,he,fun b hb=>Nat.lt_of_lt_of_le (hl b hb) hs,fun w'' hk2 hs2=>hr w'' (fun b hb=>(hk2 b hb).trans (hk b hb)) (Nat.le_trans hs hs2)⟩
abbrev pq (B:Nat):Ty:=bQ (jI B) 173
abbrev ka:Value:=.iface 137 (.agg #[])
abbrev je:List PanicEntry:=[{ v:=ka,recovered:=false }]
def cB (y:al) (e:Ending):Prop:=if y.down=true then e=.panicked je else e=.returned (.tuple #[])
theorem cB.gone {y:al} (h:y.down=true):cB y (.panicked je):=by unfold cB;rw [if_pos h]
theorem cB.fine {y:al} (h:y.down=false):cB y (.returned (.tuple #[])):=by unfold cB;rw [if_neg (by simp [h])]
def Did (w:World) (B:Nat) (fm:List Nat) (ds:List (Int×List Int)) (fd:List Nat) (q:al×List ai) (e:Ending) (w':World):Prop:=cB q.1 e/\∃fm',aD w' B q.1 q.2 ds fm' fd/\aJ B fm w fm' w'
theorem dop_at {w:World} {B n cap j:Nat} {bo:Option Addr} {ops:List DOp} {o:DOp} {fo:List Nat} (h:(pq B).Mine w [.slice bo n cap] ops fo) (hj:ops[j]?=some o):
 ∃(g:Nat) (F:FuncId) (cp:Array Value) (fp:List Nat),bo=some ⟨g,0,none⟩/\g<w.heap.size/\w.cell? ⟨g,j,none⟩=some (.func (Fn.func F) #[] cp)/\ne F cp/\(∀b∈fp,b∈fo)/\∀w':World,(∀b∈fp,w'.heap[b]?=w.heap[b]?)->w.heap.size<=w'.heap.size->nf B fp F cp o w':=by
 obtain ⟨h,_⟩:=h;have hjl:=(List.getElem?_eq_some_iff.1 hj).1;rcases h with ⟨_,h2,_⟩|⟨b,cap',cur,fps,h1,h2,h3,h4,h5,h6,h7,h8⟩
 . rw [h2] at hjl;simp at hjl
 simp only [List.cons.injEq,Value.slice.injEq,and_true] at h1
 obtain ⟨f,hf,F,cp,hv,he,hl,hr⟩:=h8 j o hj;refine ⟨b,F,cp,f,h1.1,(Array.getElem?_eq_some_iff.1 h4).1,?_,he,fun b' hb'=>?_,hr⟩
 . rw [cell_of_row w b _ cur 173 (0,0) h4]
   have:((cur.toList.drop (j*1)).take 1)[0]?=some (.func (Fn.func F) #[] cp):=by rw [hv];rfl
   rw [List.getElem?_take,if_pos (by omega),List.getElem?_drop] at this;simpa using this
 rw [h6];exact List.mem_cons_of_mem _ (List.mem_flatten.2 ⟨f,List.mem_of_getElem? hf,hb'⟩)
theorem uU (w:World) (B:Nat) (x:al) (ms:List ai) (ds:List (Int×List Int)) (fm fd:List Nat) (h:aD w B x ms ds fm fd) (hf:x.vI<=1000) (hdn:x.down=false):
 Calls Tryz.prog 216 #[.pointer (some ⟨B,0,none⟩)] w fun e w'=>cB (opX x) e/\aD w' B (opX x) ms ds fm fd/\aJ B fm w fm w':=by
 obtain ⟨bm,bd,cm,cd,X,hm,hd,hr,r1,r2⟩:=h;unfold aC at X;obtain ⟨k0,k1,k2,k3,k4,k5,k6,k7,k8,k9,k10,k11,k12⟩:=X.cells13;have fz:=X.frozen;by_cases h0:x.vI=0
 . have HX:Hid (opX x={x with down:=true,vI:=-1}):=by unfold Hid opX;rw [if_neg (by simp [hdn]),if_pos h0]
   have Y:=(X.set 11 (.bool true)).set 10 (.int .i64 (-1));have M:=aa ((hm.setCell (g:=B) (j:=11) r1 (.bool true)).setCell (g:=B) (j:=10) r1 (.int .i64 (-1)));have D:=aa ((hd.setCell (g:=B) (j:=11) r2 (.bool true)).setCell (g:=B) (j:=10) r2 (.int .i64 (-1)));have MV:=aa ((aJ.set (B:=B) (j:=11) (fm:=fm) (w:=w) (.bool true)).trans (aJ.set (B:=B) (j:=10) (.int .i64 (-1))));have YH:=aa Y;have HE:Hid (cB (opX x) (.panicked je)):=cB.gone (by rw [HX.out]);rw [h0] at k10;clear Y X hm hd hdn h0;go_enter Tryz.func216,Tryz.ntmps216
   go_wp2
   refine ⟨rfl,HE.out,?_,MV.out⟩
   rw [HX.out];exact ⟨bm,bd,cm,cd,YH.out,M.out,D.out,hr,r1,r2⟩
 have e0:(x.vI==0)=false:=by simpa using h0
 by_cases h1:0<x.vI
 . have hw:IntKind.i64.wrap (x.vI-1)=x.vI-1:=IntWalk.i64_in _ (by omega)
   have HX:Hid (opX x={x with vI:=x.vI-1}):=by unfold Hid opX;rw [if_neg (by simp [hdn]),if_neg h0,if_pos h1]
   have HE:Hid (cB (opX x) (.returned (.tuple #[]))):=cB.fine (by rw [HX.out];exact hdn);have YH:=aa (X.set 10 (.int .i64 (x.vI-1)));have M:=aa (hm.setCell (g:=B) (j:=10) r1 (.int .i64 (x.vI-1)));have D:=aa (hd.setCell (g:=B) (j:=10) r2 (.int .i64 (x.vI-1)));have MV:=aa (aJ.set (B:=B) (j:=10) (fm:=fm) (w:=w) (.int .i64 (x.vI-1)));clear X hm hd hdn h0;go_enter Tryz.func216,Tryz.ntmps216
   go_wp2
   refine bodyPost_end (v:=.tuple #[]) (results_none rfl _ _ _) rfl ?_
   exact ⟨HE.out,by rw [HX.out];exact ⟨bm,bd,cm,cd,YH.out,M.out,D.out,hr,r1,r2⟩,MV.out⟩
 have HX:Hid (opX x=x):=by unfold Hid opX;rw [if_neg (by simp [hdn]),if_neg h0,if_neg h1]
 have HE:Hid (cB (opX x) (.returned (.tuple #[]))):=cB.fine (by rw [HX.out];exact hdn);have YH:=aa X;clear hdn h0 X;go_enter Tryz.func216,Tryz.ntmps216
 go_wp2
 refine bodyPost_end (v:=.tuple #[]) (results_none rfl _ _ _) rfl ?_
 exact ⟨HE.out,by rw [HX.out];exact ⟨bm,bd,cm,cd,YH.out,hm,hd,hr,r1,r2⟩,aJ.refl _ _ _⟩
theorem fv (w:World) (B:Nat) (x:al) (ms:List ai) (ds:List (Int×List Int)) (fm fd:List Nat) (h:aD w B x ms ds fm fd) (hf:x.vI<=1000) (hdn:x.down=false) (hM:bM ms)
 (bo:Option Addr) (co:Nat) (ops:List DOp) (fo:List Nat) (ho:(pq B).Mine w [.slice bo ops.length co] ops fo) (hdis:∀b∈fo,b≠B/\b∉fm) (hop:∀o∈ops,o.1<ms.length/\cN ms o.1=false):
 Calls Tryz.prog 167 #[.pointer (some ⟨B,0,none⟩),.slice bo ops.length co] w (Did w B fm ds fd (dx (x,ms) ops)):=by
 have HK:=aa (fun j:Nat=>qT (q:=(x,ms)) hM hf (ops.take j));have HF:=aa (fun j k:Nat=>ky (x,ms) (ops.take j) k);have H0:=aa h;have hlo:=ho.lt;have hmx:=(af ho.rd).2;have HO:=aa ho;have HD:=aa hdis;have HP:=aa hop;have HN:Hid (x.down=false):=hdn;have zz:=h.lt;have zm:=h.ltm.1;clear h ho hdis hop hdn;have hS:∀wr fm1,aJ B fm w fm1 wr->aw (B :: fm) w wr/\∀b∈fm1,b∈fm∨w.heap.size<=b:=fun _ _ h=>h;go_enter Tryz.func167,Tryz.ntmps167
 go_wp2
 go_loopw [8] (fun i wr=>∃(j:Nat) (fm1:List Nat),j<=ops.length/\i=.int .i64 j/\(dx (x,ms) (ops.take j)).1.down=false/\aD wr B (dx (x,ms) (ops.take j)).1 (dx (x,ms) (ops.take j)).2 ds fm1 fd/\aJ B fm w fm1 wr) (fun i _=>ops.length-(intOf i).toNat)
 case atStart=>exact ⟨0,fm,Nat.zero_le _,rfl,HN.out,H0.out,aJ.refl _ _ _⟩
 obtain ⟨j,fm1,hj,rfl,hdj,hA,hMv⟩:=hrel;obtain ⟨hMj,hsj,hlj⟩:=HK.out j;have hfj:=hsj.2.2.2.2.2.2.2.2.2.1;by_cases hjn:j<ops.length
 . have i2:(j:Int)<(ops.length:Int):=by omega
   have i1:(0:Int)<=(j:Int):=by omega
   have hoj:ops[j]?=some (ops[j]'hjn):=List.getElem?_eq_getElem hjn;obtain ⟨p1,p2⟩:=HP.out _ (List.mem_of_getElem? hoj);generalize ops[j]'hjn=o at hoj p1 p2;have HS:=aa (sR (q:=(x,ms)) hoj);have HE:=aa (fun h=>tW (q:=(x,ms)) (ops:=ops) (j:=j+1) h);have hfl:=(HF.out j o.1).trans p2;generalize hst:dx (x,ms) (ops.take j)=st at hA hMj hsj hlj hfj HS hdj hfl;obtain ⟨y,ns⟩:=st;dsimp only at hA hMj hsj hlj hfj hdj hfl
   clear hst;obtain ⟨g,F,cp,fp,rfl,hg,hc,hen,hfp,hrun⟩:=dop_at HO.out hoj;have hgf:g∈fo:=by
    obtain ⟨hh,_⟩:=HO.out;rcases hh with ⟨h1,_⟩|⟨b,cap',cur,fps,h1,_,_,_,_,h6,_⟩
    . simp at h1
    simp at h1;rw [h6,h1.1];exact List.mem_cons_self
   have hnf:∀b∈fo,b∉(B :: fm):=fun b hb hm=>by
    rcases List.mem_cons.1 hm with e|hm
    . exact (HD.out b hb).1 e
    exact (HD.out b hb).2 hm
   have hcr:wr.cell? ⟨g,j,none⟩=some (.func (Fn.func F) #[] cp):=(World.cell?_of_block (w:=w) (hMv.1.block g hg (hnf g hgf))).trans hc;have MV:=aa hMv;have HA:=aa hA;have HR:=aa hrun;have HFP:=aa hfp;have HNF:=aa hnf;clear hA hMv hrun hfp hnf hc;go_wp2_with fail
   refine (uU _ B y ns ds fm1 fd HA.out hfj hdj).mono ?_
   rintro e w1 ⟨he,hA1,hMv1⟩;cases hob:opB y
   . have hdd:=opX_no hob
     unfold cB at he;rw [if_pos hdd] at he;subst he;have hget:ns[o.1]?=some (ns.getD o.1 gZ):=by rw [List.getD_eq_getElem?_getD,List.getElem?_eq_getElem (by omega)];rfl
     have HV:Hid (dx (x,ms) ops=(opX y,ns)):=by
      have h9:dx (x,ms) (ops.take (j+1))=(opX y,ns):=HS.out.trans (qR hget hfl hob);exact (HE.out (by rw [h9];exact hdd)).trans h9
     have HD2:Hid (Did w B fm ds fd (dx (x,ms) ops) (.panicked je) w1):=by
      unfold Hid Did;rw [HV.out];exact ⟨cB.gone hdd,fm1,hA1,MV.out.trans hMv1⟩
     clear hA1 hMv1;go_wp2
     exact ⟨rfl,HD2.out⟩
   have hdd:=vn hob;unfold cB at he;rw [if_neg (by simp [hdd])] at he;subst he;have hget:ns[o.1]?=some (ns.getD o.1 gZ):=by rw [List.getD_eq_getElem?_getD,List.getElem?_eq_getElem (by omega)];rfl
   have HV:Hid (dx (x,ms) (ops.take (j+1))=(opX y,ns.set o.1 (opF o (opX y) (ns.getD o.1 gZ)))):=by
    refine HS.out.trans ((oU hget hfl hob).trans ?_)
    rw [vp]
   have MV1:=aa (MV.out.trans hMv1);have hsz:=MV1.out.size;have R1:=HR.out w1 (fun b hb=>MV1.out.1.block b (hlo b (HFP.out b hb)) (HNF.out b (HFP.out b hb))) hsz (opX y) ns ds fm1 fd hA1 hMj (fun b hb=>⟨(HD.out b (HFP.out b hb)).1,fun hm=>by
    rcases MV.out.2 b hm with h1|h1
    . exact (HD.out b (HFP.out b hb)).2 h1
    have:=hlo b (HFP.out b hb);omega⟩) (by omega)
   have RH:=aa R1;clear hA1 hMv1 R1;have hcf:∀w:World,Sem.run Tryz.prog (callFunc F cp) w=.ok (.enter F cp) w:=hen;go_wp2_with fail
   refine RH.out.mono ?_
   rintro e w2 ⟨rfl,fm2,hA2,hMv2⟩;have HB:=aa (MV1.out.trans hMv2);have HA2:=aa hA2;clear hA2 hMv2 hcr;go_wp2
   go_roundw
   case rel=>exact ⟨j+1,fm2,by omega,by go_num,by rw [HV.out];exact hdd,by rw [HV.out];exact HA2.out,HB.out⟩
   case measure=>simp [intOf];omega
 have ej:j=ops.length:=by omega
 have i2:¬(j:Int)<(ops.length:Int):=by omega
 subst ej;rw [List.take_length] at hA hdj;have HD2:Hid (Did w B fm ds fd (dx (x,ms) ops) (.returned (.tuple #[])) wr):=⟨cB.fine hdj,fm1,hA,hMv⟩;clear hA hMv;go_wp2
 refine bodyPost_end (v:=.tuple #[]) (results_none rfl _ _ _) rfl ?_
 exact HD2.out
end Go.Proofs.YtejeekndbnpmoaaGreat

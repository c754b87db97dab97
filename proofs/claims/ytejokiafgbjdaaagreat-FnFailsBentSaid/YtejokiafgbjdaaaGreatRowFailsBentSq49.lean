/-
 A drawn array, bent or not. Conditions: as the cursor has it.
-/
import Derived.Test.YtejokiafgbjdaaaGreatRowFailsBentSq48
import Derived.Test.YtejokiafgbjdaaaGreatRowFailsBentSq36
import Derived.Test.YtejokiafgbjdaaaGreatRowFailsBentSq12
import Derived.Test.YtejokiafgbjdaaaGreatRowFailsBentSq7
import Derived.Deep.Cut

set_option maxRecDepth 100000
set_option maxHeartbeats 8000000
set_option linter.unusedSimpArgs false

namespace Go.Proofs.YtejokiafgbjdaaaGreat
open Go.RowKit

theorem dZ {w W:World} {g R B lb cb:Nat} {a:Option Addr} {zs:List Int} {x:al} {ms:List ai} {ds:List aE} {vm vd:Option Addr} {cvm cvd:Nat} {fd:List Nat} {u0 u1 u2 u3 u6 u7 u8 u9 u10 u11 u12 u13 u14 u15 u16 u17 u18 u19 u20 u21 u22 u23 u24 u25 u26 u27 u28 u29 u30 u31 u32 u33 u34 u35 u36 u37 u38 u39 u40 u41 u42 u43 u44 u45 u46 u47 u48 u49 u50 u51 u52 u53 u54 u55 u56 u57 u58 u59 u60 u61 u62 u63 u64 u65 u66 u67 u68 u69 u70 u71 u72 u73 u74 u75 u76 u77 u78 u79 u80 u81 u82 u83 u84 u85 u86 u87 u88 u89 u90 u91:Value} (h:T6 w W g R B lb cb a zs x ms ds vm vd cvm cvd fd) (K:Act->World->Prop) (hK:∀(A:Act) (V:World),Code.wp Tryz.prog Code.ret (bodyPost Tryz.prog Tryz.f43 fun e w'=>Any6 w g a lb cb zs e w') A V->K A V):
 Code.wp Tryz.prog (Code.region 26 #[{ dst := some 91, op := Op.load 29 (Operand.tmp 5), type := 29, pos := "l06_arr.go:194", after := #[], guard := none }, { dst := none, op := Op.store 29 (Operand.tmp 4) (Operand.tmp 91), type := 0, pos := "l06_arr.go:194", after := #[{ on := 0, ground := Ground.data }, { on := 0, ground := Ground.phase }], guard := none }] false) (Exit.then K (bodyPost Tryz.prog Tryz.f43 fun e w' => Any6 w g a lb cb zs e w')) { tmps := #[u0, u1, u2, u3, .pointer (some ⟨R, 0, none⟩), .pointer (some ⟨B, 0, none⟩), u6, u7, u8, u9, u10, u11, u12, u13, u14, u15, u16, u17, u18, u19, u20, u21, u22, u23, u24, u25, u26, u27, u28, u29, u30, u31, u32, u33, u34, u35, u36, u37, u38, u39, u40, u41, u42, u43, u44, u45, u46, u47, u48, u49, u50, u51, u52, u53, u54, u55, u56, u57, u58, u59, u60, u61, u62, u63, u64, u65, u66, u67, u68, u69, u70, u71, u72, u73, u74, u75, u76, u77, u78, u79, u80, u81, u82, u83, u84, u85, u86, u87, u88, u89, u90, u91], defers := [] } W := by
 have HO:=aa h.out;obtain ⟨_,_,RX,YX,_⟩:=h;unfold aC at YX HO;simp only [bM] at HO
 obtain ⟨t0,t1,t2,t3,t4,t5,t6,t7,t8,t9,t10,t11,t12⟩:=YX.cells13;obtain ⟨r0,r1,r2,r3,r4,r5,r6,r7,r8,r9,r10,r11,r12⟩:=RX.cells13;have fz:=RX.frozen;clear RX YX;go_wp2
 refine bodyPost_ret (by simp [results,Tryz.results43,go_sem,r0,r1,r2,r3,r4,r5,r6,r7,r8,r9,r10,r11,r12];rfl) rfl ?_
 exact HO.out
theorem ka {w:World} {g lb cb:Nat} {a:Option Addr} {zs:List Int} (h:aN w g a lb cb zs) (most:Int) (h0:0<=most) (h1:most<=200):
 Calls Tryz.prog 43 #[.pointer (some ⟨g,0,none⟩),.int .i64 most] w fun e w'=>Any6 w g a lb cb zs e w':=by
 have hg:=h.lt;have R0:=Box.new w 29 #[.int .i64 0,.int .i64 0,.int .i64 0,.slice none 0 0,.int .i64 0,.int .i64 0,.int .i64 0,.int .i64 0,.int .i64 0,.slice none 0 0,.int .i64 0,.bool false,.bool false];have D0:=h.alloc (.cells #[.int .i64 0,.int .i64 0,.int .i64 0,.slice none 0 0,.int .i64 0,.int .i64 0,.int .i64 0,.int .i64 0,.int .i64 0,.slice none 0 0,.int .i64 0,.bool false,.bool false] 29);have B0:Below g w (w.alloc (.cells #[.int .i64 0,.int .i64 0,.int .i64 0,.slice none 0 0,.int .i64 0,.int .i64 0,.int .i64 0,.int .i64 0,.int .i64 0,.slice none 0 0,.int .i64 0,.bool false,.bool false] 29)):=(ah w _).mono (by omega);have hz0:(w.alloc (.cells #[.int .i64 0,.int .i64 0,.int .i64 0,.slice none 0 0,.int .i64 0,.int .i64 0,.int .i64 0,.int .i64 0,.int .i64 0,.slice none 0 0,.int .i64 0,.bool false,.bool false] 29)).heap.size=w.heap.size+1:=by simp
 clear h;go_enter Tryz.func43,Tryz.ntmps43
 go_wp2_with fail
 generalize w.alloc (.cells #[.int .i64 0,.int .i64 0,.int .i64 0,.slice none 0 0,.int .i64 0,.int .i64 0,.int .i64 0,.int .i64 0,.int .i64 0,.slice none 0 0,.int .i64 0,.bool false,.bool false] 29)=w0 at R0 D0 B0 hz0 ⊢;refine (qM D0 most h0 h1).mono ?_
 rintro e w1 ⟨q,ds,vm,vd,cvm,cvd,fm,fd,rfl,hm,hd,hr,rm,rd,hgood,D1,B1⟩;obtain ⟨x,ms⟩:=q;dsimp only at hm rm hgood ⊢
 obtain ⟨hwt,_⟩:=jz hgood;dsimp only at hwt
 have hln:3<=ms.length/\ms.length<=5:=tM hgood;have hsec:Hid (∀(k:Nat) (d:ai),ms[k]?=some d->6<d.1.length):=sy hgood;have z1:=B1.size;have R1:=B1.box R0 (by omega) (by omega);have zR1:=R1.lt;have Bl1:Below g w w1:=B0.trans (B1.below (M:=g) (by omega) (Nat.le_refl _));have nb:=ah w1 (.cells #[.int .i64 x.id,.int .i64 x.n,.int .i64 x.s,.slice vm ms.length cvm,.int .i64 x.lost,.int .i64 x.uG,.int .i64 x.seq,.int .i64 x.tail,.int .i64 x.gen,.slice vd ds.length cvd,.int .i64 x.uI,.bool x.down,.bool x.uH] 29);have Y:=Box.new w1 29 #[.int .i64 x.id,.int .i64 x.n,.int .i64 x.s,.slice vm ms.length cvm,.int .i64 x.lost,.int .i64 x.uG,.int .i64 x.seq,.int .i64 x.tail,.int .i64 x.gen,.slice vd ds.length cvd,.int .i64 x.uI,.bool x.down,.bool x.uH];have S1:Hid (S6 w (w1.alloc (.cells #[.int .i64 x.id,.int .i64 x.n,.int .i64 x.s,.slice vm ms.length cvm,.int .i64 x.lost,.int .i64 x.uG,.int .i64 x.seq,.int .i64 x.tail,.int .i64 x.gen,.slice vd ds.length cvd,.int .i64 x.uI,.bool x.down,.bool x.uH] 29)) g w.heap.size w1.heap.size lb cb a zs x ms ds vm vd cvm cvd fm fd):=⟨D1.alloc _,Bl1.trans (nb.mono (by omega)),R1.below nb zR1,Y,hm.below nb,hd.below nb,fun b hb=>⟨hr b hb,by have:=rm b hb;omega,by have:=hm.lt b hb;omega⟩,fun b hb=>⟨by have:=rd b hb;omega,by have:=hd.lt b hb;omega⟩,hg,Nat.le_refl _,by omega,hwt,good_n hgood⟩;clear hm hd hr rm rd hgood D1 B1 R1 Bl1 nb Y R0 D0 B0;unfold aC;go_upto_region 2 with fail
 generalize w1.alloc (.cells #[.int .i64 x.id,.int .i64 x.n,.int .i64 x.s,.slice vm ms.length cvm,.int .i64 x.lost,.int .i64 x.uG,.int .i64 x.seq,.int .i64 x.tail,.int .i64 x.gen,.slice vd ds.length cvd,.int .i64 x.uI,.bool x.down,.bool x.uH] 29)=w2 at S1 ⊢;obtain ⟨B,hB⟩:∃B,w1.heap.size=B:=⟨_,rfl⟩;rw [hB] at S1 ⊢;clear hB;obtain ⟨R,hR⟩:∃R,w.heap.size=R:=⟨_,rfl⟩;rw [hR] at S1 ⊢;clear z1 zR1 hz0;have c3:=(by have h:=S1.out.2.2.2.1;unfold aC at h;exact h.cells13.2.2.2.1:w2.cell? ⟨B,3,none⟩=some (.slice vm ms.length cvm));have hl0:(0:Int)<=(ms.length:Int):=by omega
 go_wp2_with fail
 refine (bF S1.out.1 (ms.length:Int) (by omega) (by omega)).mono ?_
 rintro e w3 ⟨k,rfl,k0,k1,D3,b3⟩;have S3:=aa (S1.out.draw D3 b3);clear S1 D3 b3 c3;obtain ⟨k,rfl⟩:=Int.eq_ofNat_of_zero_le k0;have hk:k<ms.length:=by omega
 clear k0 k1;go_wp2_with fail
 refine (bF S3.out.1 20 (by omega) (by omega)).mono ?_
 rintro e w4 ⟨sv,rfl,v0,v1,D4,b4⟩;have S4:=aa (S3.out.draw D4 b4);clear S3 D4 b4;rcases (show sv=0∨sv=1∨sv=2∨sv=3∨sv=4∨sv=5∨sv=6∨sv=7∨sv=8∨sv=9∨sv=10∨10<sv by omega) with rfl|rfl|rfl|rfl|rfl|rfl|rfl|rfl|rfl|rfl|rfl|hsv
 . obtain ⟨gm,hvm⟩:=bG S4.out.2.2.2.2.1 (show 0<ms.length by omega)
   subst hvm;have hgm:=rJ S4.out.2.2.2.2.1;have c3:w4.drew.cell? ⟨B,3,none⟩=some (.slice (some ⟨gm,0,none⟩) ms.length cvm):=(by have h:=S4.out.2.2.2.1;unfold aC at h;exact h.cells13.2.2.2.1);have i1:(0:Int)<=(k:Int):=by omega
   have i3:(k:Int)<(ms.length:Int):=by omega
   go_wp2_with fail
   refine af.start (S:=fun w'=>w'.cell? ⟨B,3,none⟩=some (.slice (some ⟨gm,0,none⟩) ms.length cvm)) (k:=6) (by kernel_rfl) ?_
   refine af.t 0 c3 ?_
   refine af.t 1 c3 ?_
   refine af.t 2 c3 ?_
   refine af.t 3 c3 ?_
   refine af.one (i:=4) (by kernel_rfl) rfl (fun K hK=>?_)
   go_simp
   refine (sA (ee S4.out.1)).mono ?_
   rintro e w6 ⟨v0,v1,v3,ss,cs,f,bs,rfl,j0,j1,j3,hwd,D6,b6⟩;have b6':But g (g+1) w4 w6:=⟨b6.os,b6.tape,b6.output,b6.size,b6.block⟩;have S6_:=S4.out.draw D6 b6';obtain ⟨a0,n0,hv0⟩:=aw j0.rd;obtain ⟨a1,n1,hv1⟩:=aw j1.rd;obtain ⟨a3,n3,hv3⟩:=aw j3.rd;subst hv0 hv1 hv3;obtain ⟨cOld,fz,HT0⟩:=S6_.put (k:=k) (l:=w4.heap.size) hk (sM (f:=f) j0 j1 j3) S4.out.2.2.2.1.lt (fun b hb=>S4.out.2.2.2.2.1.lt b hb) hwd hgm;obtain ⟨o0,t0⟩:=cOld 0 (by omega);obtain ⟨o1,t1⟩:=cOld 1 (by omega);obtain ⟨o2,t2⟩:=cOld 2 (by omega);obtain ⟨o3,t3⟩:=cOld 3 (by omega);rw [Nat.add_zero] at t0;have S7:=aa HT0;unfold ez at S7;have hS2:w6.cell? ⟨B,3,none⟩=some (.slice (some ⟨gm,0,none⟩) ms.length cvm):=(by have h:=S6_.2.2.2.1;unfold aC at h;exact h.cells13.2.2.2.1);generalize ms.set k (ss,cs,f,bs)=ms2 at S7;clear D6 b6 b6' j0 j1 j3 S6_ cOld HT0 S4 hwd hgm;go_wp2_with fail
   refine hK.out _ _ (fun _=>hS2) ?_
   clear hK K;refine af.t 5 hS2 ?_
   refine af.one (i:=6) (by kernel_rfl) rfl (fun K hK=>?_)
   go_simp
   refine hK.out _ _ (fun h=>absurd rfl h) ?_
   clear hK K;refine af.done (by kernel_rfl) ?_ _
   clear hS2 t0 t1 t2 t3 fz c3;generalize (((w6.setCell ⟨gm,k*4,none⟩ (.slice a0 ss.length n0)).setCell ⟨gm,k*4+1,none⟩ (.slice a1 cs.length n1)).setCell ⟨gm,k*4+2,none⟩ (.bool f)).setCell ⟨gm,k*4+3,none⟩ (.slice a3 bs.length n3)=w7 at S7 ⊢;go_upto_region 26 with fail
   exact dZ S7.out _ (by assumption)
 . have nb:=ah w4 (.cells #[.int .i64 (-2),.int .i64 (-1),.int .i64 0,.int .i64 5] 3)
   have S5:=aa (S4.out.below nb);have RD:Hid (aF .i64 (w4.alloc (.cells #[.int .i64 (-2),.int .i64 (-1),.int .i64 0,.int .i64 5] 3)) (some ⟨w4.heap.size,0,none⟩) [-2,-1,0,5]):=aF.new _ _ _ _ _ rfl;have zB:g+1<=w4.heap.size:=by have:=S4.out.1.lt;omega
   clear S4 nb;go_wp2_with fail
   generalize w4.alloc (.cells #[.int .i64 (-2),.int .i64 (-1),.int .i64 0,.int .i64 5] 3)=w5 at S5 RD ⊢;refine (jW S5.out.1 _ _ _ [-2,-1,0,5] rfl RD.out (fun x hx=>by cases hx;exact zB) (by decide) (by decide)).mono ?_
   rintro e w6 ⟨v,rfl,_,D6,b6⟩;have S6_:=aa (S5.out.draw D6 b6);clear S5 RD D6 b6;have S7:Hid (S6 w (w6.setCell ⟨B,4,none⟩ (.int .i64 v)) g R B lb cb a zs {x with lost:=v} ms ds vm vd cvm cvd fm fd):=S6_.out.set (x':={x with lost:=v}) S6_.out.nb 4 _ rfl;have Y6:=S6_.out.2.2.2.1;unfold aC at Y6;have c:=Y6.cell 4;have fz0:=Y6.frozen;clear Y6 S6_;go_upto_region 26 with fail
   generalize w6.setCell ⟨B,4,none⟩ (.int .i64 v)=w7 at S7 ⊢;clear c fz0;exact dZ S7.out.tail _ (by assumption)
 . have nb:=ah w4 (.cells #[.int .i64 (-1),.int .i64 1,.int .i64 9] 3)
   have S5:=aa (S4.out.below nb);have RD:Hid (aF .i64 (w4.alloc (.cells #[.int .i64 (-1),.int .i64 1,.int .i64 9] 3)) (some ⟨w4.heap.size,0,none⟩) [-1,1,9]):=aF.new _ _ _ _ _ rfl;have zB:g+1<=w4.heap.size:=by have:=S4.out.1.lt;omega
   clear S4 nb;go_wp2_with fail
   generalize w4.alloc (.cells #[.int .i64 (-1),.int .i64 1,.int .i64 9] 3)=w5 at S5 RD ⊢;refine (jW S5.out.1 _ _ _ [-1,1,9] rfl RD.out (fun x hx=>by cases hx;exact zB) (by decide) (by decide)).mono ?_
   rintro e w6 ⟨v,rfl,_,D6,b6⟩;have S6_:=aa (S5.out.draw D6 b6);clear S5 RD D6 b6;have S7:Hid (S6 w (w6.setCell ⟨B,5,none⟩ (.int .i64 v)) g R B lb cb a zs {x with uG:=v} ms ds vm vd cvm cvd fm fd):=S6_.out.set (x':={x with uG:=v}) S6_.out.nb 5 _ rfl;have Y6:=S6_.out.2.2.2.1;unfold aC at Y6;have c:=Y6.cell 5;have fz0:=Y6.frozen;clear Y6 S6_;go_upto_region 26 with fail
   generalize w6.setCell ⟨B,5,none⟩ (.int .i64 v)=w7 at S7 ⊢;clear c fz0;exact dZ S7.out.tail _ (by assumption)
 . have nb:=ah w4 (.cells #[.int .i64 (-1),.int .i64 0,.int .i64 9,.int .i64 60000] 3)
   have S5:=aa (S4.out.below nb);have RD:Hid (aF .i64 (w4.alloc (.cells #[.int .i64 (-1),.int .i64 0,.int .i64 9,.int .i64 60000] 3)) (some ⟨w4.heap.size,0,none⟩) [-1,0,9,60000]):=aF.new _ _ _ _ _ rfl;have zB:g+1<=w4.heap.size:=by have:=S4.out.1.lt;omega
   clear S4 nb;go_wp2_with fail
   generalize w4.alloc (.cells #[.int .i64 (-1),.int .i64 0,.int .i64 9,.int .i64 60000] 3)=w5 at S5 RD ⊢;refine (jW S5.out.1 _ _ _ [-1,0,9,60000] rfl RD.out (fun x hx=>by cases hx;exact zB) (by decide) (by decide)).mono ?_
   rintro e w6 ⟨v,rfl,_,D6,b6⟩;have S6_:=aa (S5.out.draw D6 b6);clear S5 RD D6 b6;have S7:Hid (S6 w (w6.setCell ⟨B,6,none⟩ (.int .i64 v)) g R B lb cb a zs {x with seq:=v} ms ds vm vd cvm cvd fm fd):=S6_.out.set (x':={x with seq:=v}) S6_.out.nb 6 _ rfl;have Y6:=S6_.out.2.2.2.1;unfold aC at Y6;have c:=Y6.cell 6;have fz0:=Y6.frozen;clear Y6 S6_;go_upto_region 26 with fail
   generalize w6.setCell ⟨B,6,none⟩ (.int .i64 v)=w7 at S7 ⊢;clear c fz0;exact dZ S7.out.tail _ (by assumption)
 . have nb:=ah w4 (.cells #[.int .i64 (-1),.int .i64 60000,.int .i64 59990,.int .i64 60001] 3)
   have S5:=aa (S4.out.below nb);have RD:Hid (aF .i64 (w4.alloc (.cells #[.int .i64 (-1),.int .i64 60000,.int .i64 59990,.int .i64 60001] 3)) (some ⟨w4.heap.size,0,none⟩) [-1,60000,59990,60001]):=aF.new _ _ _ _ _ rfl;have zB:g+1<=w4.heap.size:=by have:=S4.out.1.lt;omega
   clear S4 nb;go_wp2_with fail
   generalize w4.alloc (.cells #[.int .i64 (-1),.int .i64 60000,.int .i64 59990,.int .i64 60001] 3)=w5 at S5 RD ⊢;refine (jW S5.out.1 _ _ _ [-1,60000,59990,60001] rfl RD.out (fun x hx=>by cases hx;exact zB) (by decide) (by decide)).mono ?_
   rintro e w6 ⟨v,rfl,_,D6,b6⟩;have S6_:=aa (S5.out.draw D6 b6);clear S5 RD D6 b6;have S7:Hid (S6 w (w6.setCell ⟨B,8,none⟩ (.int .i64 v)) g R B lb cb a zs {x with gen:=v} ms ds vm vd cvm cvd fm fd):=S6_.out.set (x':={x with gen:=v}) S6_.out.nb 8 _ rfl;have Y6:=S6_.out.2.2.2.1;unfold aC at Y6;have c:=Y6.cell 8;have fz0:=Y6.frozen;clear Y6 S6_;go_upto_region 26 with fail
   generalize w6.setCell ⟨B,8,none⟩ (.int .i64 v)=w7 at S7 ⊢;clear c fz0;exact dZ S7.out.tail _ (by assumption)
 . have c9:w4.drew.cell? ⟨B,9,none⟩=some (.slice vd ds.length cvd):=(by have h:=S4.out.2.2.2.1;unfold aC at h;exact h.cells13.2.2.2.2.2.2.2.2.2.1)
   obtain ⟨i4,hi4,hz0,hz1,hz2⟩:=info_parts Tryz.infoEnt;go_wp2_with fail
   refine af.start (S:=fun w'=>w'.cell? ⟨B,9,none⟩=some (.slice vd ds.length cvd)) (k:=11) (by kernel_rfl) ?_
   refine af.t 0 c9 ?_
   refine af.t 1 c9 ?_
   refine af.t 2 c9 ?_
   refine af.t 5 c9 ?_
   refine af.one (i:=3) (by kernel_rfl) rfl (fun K hK=>?_)
   go_simp
   refine (bF (ee S4.out.1) 5 (by omega) (by omega)).mono ?_
   rintro e w5 ⟨st,rfl,s0,s1,D5,b5⟩;have S5:=aa (S4.out.draw D5 ⟨b5.os,b5.tape,b5.output,b5.size,b5.block⟩);have c95:w5.cell? ⟨B,9,none⟩=some (.slice vd ds.length cvd):=(by have h:=S5.out.2.2.2.1;unfold aC at h;exact h.cells13.2.2.2.2.2.2.2.2.2.1);clear S4 D5 b5;go_wp2_with fail
   refine hK.out _ _ (fun _=>c95) ?_
   clear hK K c9;have hws:IntKind.i64.wrap (st-1)=st-1:=IntWalk.i64_in _ (by omega);refine af.t 4 c95 ?_
   refine af.one (i:=6) (by kernel_rfl) rfl (fun K hK=>?_)
   go_simp
   refine (jY S5.out.1).mono ?_
   rintro e w6 ⟨v,xs,rfl,hxl,hO,D6,b6⟩;have S6_:=aa (S5.out.draw D6 b6);have c96:w6.cell? ⟨B,9,none⟩=some (.slice vd ds.length cvd):=(by have h:=S6_.out.2.2.2.1;unfold aC at h;exact h.cells13.2.2.2.2.2.2.2.2.2.1);obtain ⟨av,cv,hv,_⟩:=hO.shape;subst hv;obtain ⟨fx,mx,rx⟩:=(bh hO).mine;have NB5:Hid (B<w5.heap.size/\(∀b∈fd,b<w5.heap.size)/\w5.heap.size<=w6.heap.size):=⟨S5.out.2.2.2.1.lt,S5.out.2.2.2.2.2.1.lt,b6.size⟩;have MX:=aa mx;have RX5:=aa rx;clear S5 D6 b6 hO mx rx;go_wp2_with fail
   refine hK.out _ _ (fun _=>c96) ?_
   clear hK K c95;refine af.t 7 c96 ?_
   have bn:=ah w6 (.cells #[.int .i64 (st-1),.slice av xs.length cv] 61);have A1:=aa (S6_.out.2.2.2.2.2.1.alloc (.cells #[.int .i64 (st-1),.slice av xs.length cv] 61));have A2:=aa (Ty.Mine.alloc (dF (st-1) MX.out) (.cells #[.int .i64 (st-1),.slice av xs.length cv] 61));have NN:=aa (aZ w6 #[.int .i64 (st-1),.slice av xs.length cv] 61);have c97:(w6.alloc (.cells #[.int .i64 (st-1),.slice av xs.length cv] 61)).cell? ⟨B,9,none⟩=some (.slice vd ds.length cvd):=(by have h:=(S6_.out.below bn).2.2.2.1;unfold aC at h;exact h.cells13.2.2.2.2.2.2.2.2.2.1);have BN:=aa bn;clear bn;refine af.one (i:=8) (by kernel_rfl) rfl (fun K hK=>?_)
   go_simp
   refine hK.out _ _ (fun _=>c97) ?_
   clear hK K;try simp only [Act.put,List.setIfInBounds_toArray,List.set_cons_zero,List.set_cons_succ]
   have L0:ds.length<=20000:=by have h:=S6_.out.2.2.2.2.2.2.2.2.2.2.2.1;unfold aM aY at h;omega
   refine af.one (i:=9) (by kernel_rfl) rfl (fun K hK=>?_)
   refine bX tWr rfl _ _ 27 rfl 61 i4 (.agg #[.int .i64 0,.slice none 0 0]) 32 Tryz.underlying27 hi4 hz0 hz1 hz2 rfl Nat.zero_lt_two (.slice vd ds.length cvd) ds fd rfl A1.out ⟨w6.heap.size,0,none⟩ 1 [.int .i64 (st-1),.slice av xs.length cv] (st-1,xs) fx rfl A2.out (fun b hb hm=>by have h1:=NB5.out.2.1 b hb;have h2:=(RX5.out b hm).1;omega) NN.out (by intro u hu;simp at hu;rcases hu with hu|hu<;>(rw [hu];rfl)) (by unfold maxLen;omega) (by omega) ?_
   intro gq cq w8 fp8 m8 n8 t8;have S7:Hid (T6 w (w8.setCell ⟨B,9,none⟩ (.slice (some ⟨gq,0,none⟩) (ds.length+1) cq)) g R B lb cb a zs x ms (ds++[(st-1,xs)]) vm (some ⟨gq,0,none⟩) cvm cq fp8):=S6_.out.ent (N:=w5.heap.size) BN.out m8 (fun b hb=>by
    rcases n8 b hb with h|h|h
    . exact .inl h
    . exact .inr (RX5.out b h).1
    have hz:=NB5.out.2.2;have:(w6.alloc (.cells #[.int .i64 (st-1),.slice av xs.length cv] 61)).heap.size=w6.heap.size+1:=by simp
    exact .inr (by omega)) NB5.out.1 t8 hxl
   have Y8:=((S6_.out.below BN.out).2.2.2.1.turned t8 (fun hm=>(S6_.out.2.2.2.2.2.2.2.1 B hm).2 rfl));unfold aC at Y8;have c98:w8.cell? ⟨B,9,none⟩=some (.slice vd ds.length cvd):=Y8.cells13.2.2.2.2.2.2.2.2.2.1;have fz8:=Y8.frozen;refine hK.out _ _ (fun _=>c98) ?_
   clear hK K c97 c96 m8 n8 t8 A1 A2 NN BN S6_ MX RX5 Y8;try simp only [Act.put,List.setIfInBounds_toArray,List.set_cons_zero,List.set_cons_succ]
   refine af.t 10 c98 ?_
   refine af.one (i:=11) (by kernel_rfl) rfl (fun K hK=>?_)
   go_simp
   refine hK.out _ _ (fun h=>absurd rfl h) ?_
   clear hK K;refine af.done (by kernel_rfl) ?_ _
   have hle:ds.length+1=(ds++[(st-1,xs)]).length:=by simp
   rw [hle] at S7 ⊢;generalize ds++[(st-1,xs)]=ds2 at S7 ⊢;clear c98 fz8 hle;generalize w8.setCell ⟨B,9,none⟩ (.slice (some ⟨gq,0,none⟩) ds2.length cq)=w9 at S7 ⊢;go_upto_region 26 with fail
   exact dZ S7.out _ (by assumption)
 . have S7:Hid (S6 w (w4.setCell ⟨B,12,none⟩ (.bool true)) g R B lb cb a zs {x with uH:=true} ms ds vm vd cvm cvd fm fd):=S4.out.set (x':={x with uH:=true}) S4.out.nb 12 _ rfl
   have Y6:=S4.out.2.2.2.1;unfold aC at Y6;have c:=Y6.cell 12;have fz0:=Y6.frozen;clear Y6 S4;go_upto_region 26 with fail
   generalize w4.setCell ⟨B,12,none⟩ (.bool true)=w7 at S7 ⊢;clear c fz0;exact dZ S7.out.tail _ (by assumption)
 . have nb:=ah w4 (.cells #[.int .i64 (-2),.int .i64 0,.int .i64 1,.int .i64 2,.int .i64 5,.int .i64 1001] 3)
   have S5:=aa (S4.out.below nb);have RD:Hid (aF .i64 (w4.alloc (.cells #[.int .i64 (-2),.int .i64 0,.int .i64 1,.int .i64 2,.int .i64 5,.int .i64 1001] 3)) (some ⟨w4.heap.size,0,none⟩) [-2,0,1,2,5,1001]):=aF.new _ _ _ _ _ rfl;have zB:g+1<=w4.heap.size:=by have:=S4.out.1.lt;omega
   clear S4 nb;go_wp2_with fail
   generalize w4.alloc (.cells #[.int .i64 (-2),.int .i64 0,.int .i64 1,.int .i64 2,.int .i64 5,.int .i64 1001] 3)=w5 at S5 RD ⊢;refine (jW S5.out.1 _ _ _ [-2,0,1,2,5,1001] rfl RD.out (fun x hx=>by cases hx;exact zB) (by decide) (by decide)).mono ?_
   rintro e w6 ⟨v,rfl,_,D6,b6⟩;have S6_:=aa (S5.out.draw D6 b6);clear S5 RD D6 b6;have S7:Hid (S6 w (w6.setCell ⟨B,10,none⟩ (.int .i64 v)) g R B lb cb a zs {x with uI:=v} ms ds vm vd cvm cvd fm fd):=S6_.out.set (x':={x with uI:=v}) S6_.out.nb 10 _ rfl;have Y6:=S6_.out.2.2.2.1;unfold aC at Y6;have c:=Y6.cell 10;have fz0:=Y6.frozen;clear Y6 S6_;go_upto_region 26 with fail
   generalize w6.setCell ⟨B,10,none⟩ (.int .i64 v)=w7 at S7 ⊢;clear c fz0;exact dZ S7.out.tail _ (by assumption)
 . have S7:Hid (S6 w (w4.setCell ⟨B,11,none⟩ (.bool true)) g R B lb cb a zs {x with down:=true} ms ds vm vd cvm cvd fm fd):=S4.out.set (x':={x with down:=true}) S4.out.nb 11 _ rfl
   have Y6:=S4.out.2.2.2.1;unfold aC at Y6;have c:=Y6.cell 11;have fz0:=Y6.frozen;clear Y6 S4;go_upto_region 26 with fail
   generalize w4.setCell ⟨B,11,none⟩ (.bool true)=w7 at S7 ⊢;clear c fz0;exact dZ S7.out.tail _ (by assumption)
 . obtain ⟨gm,hvm⟩:=bG S4.out.2.2.2.2.1 (show 0<ms.length by omega)
   subst hvm;have hgm:=rJ S4.out.2.2.2.2.1;obtain ⟨d,hd⟩:∃d,ms[k]?=some d:=⟨_,List.getElem?_eq_some_iff.2 ⟨hk,rfl⟩⟩;have hq:=hsec.out k d hd;have c3:w4.drew.cell? ⟨B,3,none⟩=some (.slice (some ⟨gm,0,none⟩) ms.length cvm):=(by have h:=S4.out.2.2.2.1;unfold aC at h;exact h.cells13.2.2.2.1);obtain ⟨hgl,a0,a1,a3,n0,n1,n3,ss,cs,f,bs,rfl,p0,p1,p2,p3,r0,r1,r3⟩:=dp S4.out.2.2.2.2.1 hd;have i1:(0:Int)<=(k:Int):=by omega
   have i3:(k:Int)<(ms.length:Int):=by omega
   have hS:w4.drew.cell? ⟨B,3,none⟩=some (.slice (some ⟨gm,0,none⟩) ms.length cvm)/\w4.drew.cell? ⟨gm,k*4,none⟩=some (.slice a0 ss.length n0):=⟨c3,p0⟩;have hdn:bp 0=6:=by decide
   have q6:(6:Int)<(ss.length:Int):=by dsimp only at hq;omega
   go_wp2_with fail
   refine af.start (S:=fun w'=>w'.cell? ⟨B,3,none⟩=some (.slice (some ⟨gm,0,none⟩) ms.length cvm)/\w'.cell? ⟨gm,k*4,none⟩=some (.slice a0 ss.length n0)) (k:=10) (by kernel_rfl) ?_
   refine af.t 0 hS ?_
   refine af.t 1 hS ?_
   refine af.t 2 hS ?_
   refine af.t 3 hS ?_
   refine af.t 4 hS ?_
   refine af.t 5 hS ?_
   refine af.t 7 hS ?_
   refine af.one (i:=6) (by kernel_rfl) rfl (fun K hK=>?_)
   go_simp
   refine (aV _ 0).mono ?_
   rintro e wq ⟨rfl,hq0⟩;subst hq0;rw [hdn];go_wp2_with fail
   refine hK.out _ _ (fun _=>hS) ?_
   clear hK K;refine af.one (i:=8) (by kernel_rfl) rfl (fun K hK=>?_)
   go_simp
   refine (jX (ee S4.out.1)).mono ?_
   rintro e w6 ⟨v,xs,rfl,hxl,_,hO,D6,b6⟩;have b6':But g (g+1) w4 w6:=⟨b6.os,b6.tape,b6.output,b6.size,b6.block⟩;have S6_:=S4.out.draw D6 b6';obtain ⟨av,cv,hv,_⟩:=hO.shape;subst hv;obtain ⟨gs,c0,e1,e2,⟨old,e4⟩,e5,HT0⟩:=S6_.sec (k:=k) (q:=6) (l:=w4.heap.size) hd hq (bh hO).toIn S4.out.2.2.2.1.lt (fun b hb=>S4.out.2.2.2.2.1.lt b hb) (by omega);have hS2:w6.cell? ⟨B,3,none⟩=some (.slice (some ⟨gm,0,none⟩) ms.length cvm)/\w6.cell? ⟨gm,k*4,none⟩=some (.slice a0 ss.length n0):=⟨(by have h:=S6_.2.2.2.1;unfold aC at h;exact h.cells13.2.2.2.1),(by have hk6:=b6'.block gm hgl (by have:=(S4.out.2.2.2.2.2.2.1 gm hgm).2.1;have:=S4.out.2.2.2.2.2.2.2.2.1;omega);simp only [World.cell?,hk6]:w6.cell? ⟨gm,k*4,none⟩=w4.cell? ⟨gm,k*4,none⟩).trans p0⟩;have ea:a0=some ⟨gs,0,none⟩:=by have h:=hS2.2.symm.trans e1;simp at h;exact h.1
   subst ea;have S7:=aa HT0;dsimp only at S7
   generalize ms.set k (ss.set 6 xs,cs,f,bs)=ms2 at S7;clear D6 b6 b6' hO S6_ HT0 S4 hgm e1 r0 r1 r3 p0 p1 p2 p3 c3 hd hS;go_wp2_with fail
   refine hK.out _ _ (fun _=>hS2) ?_
   clear hK K;refine af.t 9 hS2 ?_
   refine af.one (i:=10) (by kernel_rfl) rfl (fun K hK=>?_)
   go_simp
   refine hK.out _ _ (fun h=>absurd rfl h) ?_
   clear hK K;refine af.done (by kernel_rfl) ?_ _
   clear hS2 e4 e5;generalize w6.setCell ⟨gs,6,none⟩ (.slice av xs.length cv)=w7 at S7 ⊢;go_upto_region 26 with fail
   exact dZ S7.out _ (by assumption)
 . go_wp2_with fail
   refine (sC S4.out.1).mono ?_
   rintro e w6 ⟨gn,gs,rfl,hgn,D6,b6⟩;have HGN:=aa hgn;clear hgn;have S6_:=aa (S4.out.draw D6 b6);clear S4 D6 b6;have S7:Hid (S6 w ((w6.setCell ⟨B,1,none⟩ (.int .i64 gn)).setCell ⟨B,2,none⟩ (.int .i64 gs)) g R B lb cb a zs {x with n:=gn,s:=gs} ms ds vm vd cvm cvd fm fd):=(S6_.out.set (x':={x with n:=gn}) HGN.out 1 _ rfl).set HGN.out 2 _ rfl;have Y6:=S6_.out.2.2.2.1;unfold aC at Y6;have ca:=Y6.cell 1;have cb2:=Y6.cell 2;have fz0:=Y6.frozen;clear Y6 S6_;go_upto_region 26 with fail
   generalize (w6.setCell ⟨B,1,none⟩ (.int .i64 gn)).setCell ⟨B,2,none⟩ (.int .i64 gs)=w7 at S7 ⊢;clear ca cb2 fz0;exact dZ S7.out.tail _ (by assumption)
 have n0:(sv==0)=false:=by simp;omega
 have n1:(sv==1)=false:=by simp;omega
 have n2:(sv==2)=false:=by simp;omega
 have n3:(sv==3)=false:=by simp;omega
 have n4:(sv==4)=false:=by simp;omega
 have n5:(sv==5)=false:=by simp;omega
 have n6:(sv==6)=false:=by simp;omega
 have n7:(sv==7)=false:=by simp;omega
 have n8:(sv==8)=false:=by simp;omega
 have n9:(sv==9)=false:=by simp;omega
 have n10:(sv==10)=false:=by simp;omega
 clear hsv v0 v1;go_upto_region 26 with fail
 exact dZ S4.out.tail _ (by assumption)
end Go.Proofs.YtejokiafgbjdaaaGreat

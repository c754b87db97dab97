/-
 The drawn arrays of Sync, Mark, Check and FlushAll walked. Conditions: the bytes are at most 2097152.
-/
import Derived.Test.YtejeekndbnpmoaaGreatRowWritesBentSq20
import Derived.Test.YtejeekndbnpmoaaGreatRowWritesBentSq22
import Derived.Test.YtejeekndbnpmoaaGreatRowWritesBentSq11
import Derived.Deep.Cut
import Derived.Test.YtejeekndbnpmoaaGreatRowWritesBentSq4
import Derived.Laws.IdiomCopy
import Derived.Test.YtejeekndbnpmoaaGreatRowWritesBentSq14
import Derived.Test.YtejeekndbnpmoaaGreatRowWritesBentSq9
import Derived.Test.YtejeekndbnpmoaaGreatRowWritesBentSq6
import Derived.Test.YtejeekndbnpmoaaGreatRowWritesBentSq3
import Derived.Test.YtejeekndbnpmoaaGreatRowWritesBentSq18

set_option maxRecDepth 100000
set_option maxHeartbeats 8000000
set_option linter.unusedSimpArgs false

namespace Go.Proofs.YtejeekndbnpmoaaGreat
open Go.RowKit

theorem eh {w W:World} {g R B lb cb:Nat} {a:Option Addr} {zs:List Int} {x:al} {ms:List ai} {ds:List aF} {vm vd:Option Addr} {cvm cvd:Nat} {fd:List Nat} {u0 u1 u2 u3 u6 u7 u8 u9 u10 u11 u12 u13 u14 u15 u16 u17 u18 u19 u20 u21 u22 u23 u24 u25 u26 u27 u28 u29 u30 u31 u32 u33 u34 u35 u36 u37 u38 u39 u40 u41 u42 u43 u44 u45 u46 u47 u48 u49 u50 u51 u52 u53 u54 u55 u56 u57 u58 u59 u60 u61 u62 u63 u64 u65 u66 u67 u68 u69 u70 u71 u72 u73 u74 u75 u76 u77 u78 u79 u80 u81 u82 u83 u84 u85 u86 u87 u88 u89 u90 u91:Value} (h:T6 w W g R B lb cb a zs x ms ds vm vd cvm cvd fd) (K:Act->World->Prop) (hK:∀(A:Act) (V:World),Code.wp Tryz.prog Code.ret (bodyPost Tryz.prog Tryz.f83 fun e w'=>Any6 w g a lb cb zs e w') A V->K A V):
 Code.wp Tryz.prog (Code.region 26 #[{ dst := some 91, op := Op.load 29 (Operand.tmp 5), type := 29, pos := "l06_arr.go:194", after := #[], guard := none }, { dst := none, op := Op.store 29 (Operand.tmp 4) (Operand.tmp 91), type := 0, pos := "l06_arr.go:194", after := #[{ on := 0, ground := Ground.data }, { on := 0, ground := Ground.phase }], guard := none }] false) (Exit.then K (bodyPost Tryz.prog Tryz.f83 fun e w' => Any6 w g a lb cb zs e w')) { tmps := #[u0, u1, u2, u3, .pointer (some ⟨R, 0, none⟩), .pointer (some ⟨B, 0, none⟩), u6, u7, u8, u9, u10, u11, u12, u13, u14, u15, u16, u17, u18, u19, u20, u21, u22, u23, u24, u25, u26, u27, u28, u29, u30, u31, u32, u33, u34, u35, u36, u37, u38, u39, u40, u41, u42, u43, u44, u45, u46, u47, u48, u49, u50, u51, u52, u53, u54, u55, u56, u57, u58, u59, u60, u61, u62, u63, u64, u65, u66, u67, u68, u69, u70, u71, u72, u73, u74, u75, u76, u77, u78, u79, u80, u81, u82, u83, u84, u85, u86, u87, u88, u89, u90, u91], defers := [] } W := by
 have HO:=aa h.out;obtain ⟨_,_,RX,YX,_⟩:=h;unfold aC at YX HO;simp only [bK] at HO
 obtain ⟨t0,t1,t2,t3,t4,t5,t6,t7,t8,t9,t10,t11,t12⟩:=YX.cells13;obtain ⟨r0,r1,r2,r3,r4,r5,r6,r7,r8,r9,r10,r11,r12⟩:=RX.cells13;have fz:=RX.frozen;clear RX YX;go_wp2
 refine bodyPost_ret (by simp [results,Tryz.results83,go_sem,r0,r1,r2,r3,r4,r5,r6,r7,r8,r9,r10,r11,r12];rfl) rfl ?_
 exact HO.out
theorem oJ {w:World} {g lb cb:Nat} {a:Option Addr} {zs:List Int} (h:aO w g a lb cb zs) (most:Int) (h0:0<=most) (h1:most<=200):
 Calls Tryz.prog 83 #[.pointer (some ⟨g,0,none⟩),.int .i64 most] w fun e w'=>Any6 w g a lb cb zs e w':=by
 have hg:=h.lt;have R0:=Box.new w 29 #[.int .i64 0,.int .i64 0,.int .i64 0,.slice none 0 0,.int .i64 0,.int .i64 0,.int .i64 0,.int .i64 0,.int .i64 0,.slice none 0 0,.int .i64 0,.bool false,.bool false];have D0:=h.alloc (.cells #[.int .i64 0,.int .i64 0,.int .i64 0,.slice none 0 0,.int .i64 0,.int .i64 0,.int .i64 0,.int .i64 0,.int .i64 0,.slice none 0 0,.int .i64 0,.bool false,.bool false] 29);have B0:Below g w (w.alloc (.cells #[.int .i64 0,.int .i64 0,.int .i64 0,.slice none 0 0,.int .i64 0,.int .i64 0,.int .i64 0,.int .i64 0,.int .i64 0,.slice none 0 0,.int .i64 0,.bool false,.bool false] 29)):=(ae w _).mono (by omega);have hz0:(w.alloc (.cells #[.int .i64 0,.int .i64 0,.int .i64 0,.slice none 0 0,.int .i64 0,.int .i64 0,.int .i64 0,.int .i64 0,.int .i64 0,.slice none 0 0,.int .i64 0,.bool false,.bool false] 29)).heap.size=w.heap.size+1:=by simp
 clear h;go_enter Tryz.func83,Tryz.ntmps83
 go_wp2_with fail
 generalize w.alloc (.cells #[.int .i64 0,.int .i64 0,.int .i64 0,.slice none 0 0,.int .i64 0,.int .i64 0,.int .i64 0,.int .i64 0,.int .i64 0,.slice none 0 0,.int .i64 0,.bool false,.bool false] 29)=w0 at R0 D0 B0 hz0 ⊢;refine (rR D0 most h0 h1).mono ?_
 rintro e w1 ⟨q,ds,vm,vd,cvm,cvd,fm,fd,rfl,hm,hd,hr,rm,rd,hgood,D1,B1⟩;obtain ⟨x,ms⟩:=q;dsimp only at hm rm hgood ⊢
 obtain ⟨hwt,_⟩:=jY hgood;dsimp only at hwt
 have hln:3<=ms.length/\ms.length<=5:=uK hgood;have hsec:Hid (∀(k:Nat) (d:ai),ms[k]?=some d->6<d.1.length):=tv hgood;have z1:=B1.size;have R1:=B1.box R0 (by omega) (by omega);have zR1:=R1.lt;have Bl1:Below g w w1:=B0.trans (B1.below (M:=g) (by omega) (Nat.le_refl _));have nb:=ae w1 (.cells #[.int .i64 x.id,.int .i64 x.n,.int .i64 x.s,.slice vm ms.length cvm,.int .i64 x.lost,.int .i64 x.vG,.int .i64 x.seq,.int .i64 x.tail,.int .i64 x.gen,.slice vd ds.length cvd,.int .i64 x.vI,.bool x.down,.bool x.vH] 29);have Y:=Box.new w1 29 #[.int .i64 x.id,.int .i64 x.n,.int .i64 x.s,.slice vm ms.length cvm,.int .i64 x.lost,.int .i64 x.vG,.int .i64 x.seq,.int .i64 x.tail,.int .i64 x.gen,.slice vd ds.length cvd,.int .i64 x.vI,.bool x.down,.bool x.vH];have S1:Hid (S6 w (w1.alloc (.cells #[.int .i64 x.id,.int .i64 x.n,.int .i64 x.s,.slice vm ms.length cvm,.int .i64 x.lost,.int .i64 x.vG,.int .i64 x.seq,.int .i64 x.tail,.int .i64 x.gen,.slice vd ds.length cvd,.int .i64 x.vI,.bool x.down,.bool x.vH] 29)) g w.heap.size w1.heap.size lb cb a zs x ms ds vm vd cvm cvd fm fd):=⟨D1.alloc _,Bl1.trans (nb.mono (by omega)),R1.below nb zR1,Y,hm.below nb,hd.below nb,fun b hb=>⟨hr b hb,by have:=rm b hb;omega,by have:=hm.lt b hb;omega⟩,fun b hb=>⟨by have:=rd b hb;omega,by have:=hd.lt b hb;omega⟩,hg,Nat.le_refl _,by omega,hwt,good_n hgood⟩;clear hm hd hr rm rd hgood D1 B1 R1 Bl1 nb Y R0 D0 B0;unfold aC;go_upto_region 2 with fail
 generalize w1.alloc (.cells #[.int .i64 x.id,.int .i64 x.n,.int .i64 x.s,.slice vm ms.length cvm,.int .i64 x.lost,.int .i64 x.vG,.int .i64 x.seq,.int .i64 x.tail,.int .i64 x.gen,.slice vd ds.length cvd,.int .i64 x.vI,.bool x.down,.bool x.vH] 29)=w2 at S1 ⊢;obtain ⟨B,hB⟩:∃B,w1.heap.size=B:=⟨_,rfl⟩;rw [hB] at S1 ⊢;clear hB;obtain ⟨R,hR⟩:∃R,w.heap.size=R:=⟨_,rfl⟩;rw [hR] at S1 ⊢;clear z1 zR1 hz0;have c3:=(by have h:=S1.out.2.2.2.1;unfold aC at h;exact h.cells13.2.2.2.1:w2.cell? ⟨B,3,none⟩=some (.slice vm ms.length cvm));have hl0:(0:Int)<=(ms.length:Int):=by omega
 go_wp2_with fail
 refine (bJ S1.out.1 (ms.length:Int) (by omega) (by omega)).mono ?_
 rintro e w3 ⟨k,rfl,k0,k1,D3,b3⟩;have S3:=aa (S1.out.draw D3 b3);clear S1 D3 b3 c3;obtain ⟨k,rfl⟩:=Int.eq_ofNat_of_zero_le k0;have hk:k<ms.length:=by omega
 clear k0 k1;go_wp2_with fail
 refine (bJ S3.out.1 20 (by omega) (by omega)).mono ?_
 rintro e w4 ⟨sv,rfl,v0,v1,D4,b4⟩;have S4:=aa (S3.out.draw D4 b4);clear S3 D4 b4;rcases (show sv=0∨sv=1∨sv=2∨sv=3∨sv=4∨sv=5∨sv=6∨sv=7∨sv=8∨sv=9∨sv=10∨10<sv by omega) with rfl|rfl|rfl|rfl|rfl|rfl|rfl|rfl|rfl|rfl|rfl|hsv
 . obtain ⟨gm,hvm⟩:=bU S4.out.2.2.2.2.1 (show 0<ms.length by omega)
   subst hvm;have hgm:=sF S4.out.2.2.2.2.1;have c3:w4.drew.cell? ⟨B,3,none⟩=some (.slice (some ⟨gm,0,none⟩) ms.length cvm):=(by have h:=S4.out.2.2.2.1;unfold aC at h;exact h.cells13.2.2.2.1);have i1:(0:Int)<=(k:Int):=by omega
   have i3:(k:Int)<(ms.length:Int):=by omega
   go_wp2_with fail
   refine ah.start (S:=fun w'=>w'.cell? ⟨B,3,none⟩=some (.slice (some ⟨gm,0,none⟩) ms.length cvm)) (k:=6) (by kernel_rfl) ?_
   refine ah.t 0 c3 ?_
   refine ah.t 1 c3 ?_
   refine ah.t 2 c3 ?_
   refine ah.t 3 c3 ?_
   refine ah.one (i:=4) (by kernel_rfl) rfl (fun K hK=>?_)
   go_simp
   refine (tw (er S4.out.1)).mono ?_
   rintro e w6 ⟨v0,v1,v3,ss,cs,f,bs,rfl,j0,j1,j3,hwd,D6,b6⟩;have b6':But g (g+1) w4 w6:=⟨b6.os,b6.tape,b6.output,b6.size,b6.block⟩;have S6_:=S4.out.draw D6 b6';obtain ⟨a0,n0,hv0⟩:=az j0.rd;obtain ⟨a1,n1,hv1⟩:=az j1.rd;obtain ⟨a3,n3,hv3⟩:=az j3.rd;subst hv0 hv1 hv3;obtain ⟨cOld,fz,HT0⟩:=S6_.put (k:=k) (l:=w4.heap.size) hk (tG (f:=f) j0 j1 j3) S4.out.2.2.2.1.lt (fun b hb=>S4.out.2.2.2.2.1.lt b hb) hwd hgm;obtain ⟨o0,t0⟩:=cOld 0 (by omega);obtain ⟨o1,t1⟩:=cOld 1 (by omega);obtain ⟨o2,t2⟩:=cOld 2 (by omega);obtain ⟨o3,t3⟩:=cOld 3 (by omega);rw [Nat.add_zero] at t0;have S7:=aa HT0;unfold fi at S7;have hS2:w6.cell? ⟨B,3,none⟩=some (.slice (some ⟨gm,0,none⟩) ms.length cvm):=(by have h:=S6_.2.2.2.1;unfold aC at h;exact h.cells13.2.2.2.1);generalize ms.set k (ss,cs,f,bs)=ms2 at S7;clear D6 b6 b6' j0 j1 j3 S6_ cOld HT0 S4 hwd hgm;go_wp2_with fail
   refine hK.out _ _ (fun _=>hS2) ?_
   clear hK K;refine ah.t 5 hS2 ?_
   refine ah.one (i:=6) (by kernel_rfl) rfl (fun K hK=>?_)
   go_simp
   refine hK.out _ _ (fun h=>absurd rfl h) ?_
   clear hK K;refine ah.done (by kernel_rfl) ?_ _
   clear hS2 t0 t1 t2 t3 fz c3;generalize (((w6.setCell ⟨gm,k*4,none⟩ (.slice a0 ss.length n0)).setCell ⟨gm,k*4+1,none⟩ (.slice a1 cs.length n1)).setCell ⟨gm,k*4+2,none⟩ (.bool f)).setCell ⟨gm,k*4+3,none⟩ (.slice a3 bs.length n3)=w7 at S7 ⊢;go_upto_region 26 with fail
   exact eh S7.out _ (by assumption)
 . have nb:=ae w4 (.cells #[.int .i64 (-2),.int .i64 (-1),.int .i64 0,.int .i64 5] 3)
   have S5:=aa (S4.out.below nb);have RD:Hid (aK .i64 (w4.alloc (.cells #[.int .i64 (-2),.int .i64 (-1),.int .i64 0,.int .i64 5] 3)) (some ⟨w4.heap.size,0,none⟩) [-2,-1,0,5]):=aK.new _ _ _ _ _ rfl;have zB:g+1<=w4.heap.size:=by have:=S4.out.1.lt;omega
   clear S4 nb;go_wp2_with fail
   generalize w4.alloc (.cells #[.int .i64 (-2),.int .i64 (-1),.int .i64 0,.int .i64 5] 3)=w5 at S5 RD ⊢;refine (kI S5.out.1 _ _ _ [-2,-1,0,5] rfl RD.out (fun x hx=>by cases hx;exact zB) (by decide) (by decide)).mono ?_
   rintro e w6 ⟨v,rfl,_,D6,b6⟩;have S6_:=aa (S5.out.draw D6 b6);clear S5 RD D6 b6;have S7:Hid (S6 w (w6.setCell ⟨B,4,none⟩ (.int .i64 v)) g R B lb cb a zs {x with lost:=v} ms ds vm vd cvm cvd fm fd):=S6_.out.set (x':={x with lost:=v}) S6_.out.nb 4 _ rfl;have Y6:=S6_.out.2.2.2.1;unfold aC at Y6;have c:=Y6.cell 4;have fz0:=Y6.frozen;clear Y6 S6_;go_upto_region 26 with fail
   generalize w6.setCell ⟨B,4,none⟩ (.int .i64 v)=w7 at S7 ⊢;clear c fz0;exact eh S7.out.tail _ (by assumption)
 . have nb:=ae w4 (.cells #[.int .i64 (-1),.int .i64 1,.int .i64 9] 3)
   have S5:=aa (S4.out.below nb);have RD:Hid (aK .i64 (w4.alloc (.cells #[.int .i64 (-1),.int .i64 1,.int .i64 9] 3)) (some ⟨w4.heap.size,0,none⟩) [-1,1,9]):=aK.new _ _ _ _ _ rfl;have zB:g+1<=w4.heap.size:=by have:=S4.out.1.lt;omega
   clear S4 nb;go_wp2_with fail
   generalize w4.alloc (.cells #[.int .i64 (-1),.int .i64 1,.int .i64 9] 3)=w5 at S5 RD ⊢;refine (kI S5.out.1 _ _ _ [-1,1,9] rfl RD.out (fun x hx=>by cases hx;exact zB) (by decide) (by decide)).mono ?_
   rintro e w6 ⟨v,rfl,_,D6,b6⟩;have S6_:=aa (S5.out.draw D6 b6);clear S5 RD D6 b6;have S7:Hid (S6 w (w6.setCell ⟨B,5,none⟩ (.int .i64 v)) g R B lb cb a zs {x with vG:=v} ms ds vm vd cvm cvd fm fd):=S6_.out.set (x':={x with vG:=v}) S6_.out.nb 5 _ rfl;have Y6:=S6_.out.2.2.2.1;unfold aC at Y6;have c:=Y6.cell 5;have fz0:=Y6.frozen;clear Y6 S6_;go_upto_region 26 with fail
   generalize w6.setCell ⟨B,5,none⟩ (.int .i64 v)=w7 at S7 ⊢;clear c fz0;exact eh S7.out.tail _ (by assumption)
 . have nb:=ae w4 (.cells #[.int .i64 (-1),.int .i64 0,.int .i64 9,.int .i64 60000] 3)
   have S5:=aa (S4.out.below nb);have RD:Hid (aK .i64 (w4.alloc (.cells #[.int .i64 (-1),.int .i64 0,.int .i64 9,.int .i64 60000] 3)) (some ⟨w4.heap.size,0,none⟩) [-1,0,9,60000]):=aK.new _ _ _ _ _ rfl;have zB:g+1<=w4.heap.size:=by have:=S4.out.1.lt;omega
   clear S4 nb;go_wp2_with fail
   generalize w4.alloc (.cells #[.int .i64 (-1),.int .i64 0,.int .i64 9,.int .i64 60000] 3)=w5 at S5 RD ⊢;refine (kI S5.out.1 _ _ _ [-1,0,9,60000] rfl RD.out (fun x hx=>by cases hx;exact zB) (by decide) (by decide)).mono ?_
   rintro e w6 ⟨v,rfl,_,D6,b6⟩;have S6_:=aa (S5.out.draw D6 b6);clear S5 RD D6 b6;have S7:Hid (S6 w (w6.setCell ⟨B,6,none⟩ (.int .i64 v)) g R B lb cb a zs {x with seq:=v} ms ds vm vd cvm cvd fm fd):=S6_.out.set (x':={x with seq:=v}) S6_.out.nb 6 _ rfl;have Y6:=S6_.out.2.2.2.1;unfold aC at Y6;have c:=Y6.cell 6;have fz0:=Y6.frozen;clear Y6 S6_;go_upto_region 26 with fail
   generalize w6.setCell ⟨B,6,none⟩ (.int .i64 v)=w7 at S7 ⊢;clear c fz0;exact eh S7.out.tail _ (by assumption)
 . have nb:=ae w4 (.cells #[.int .i64 (-1),.int .i64 60000,.int .i64 59990,.int .i64 60001] 3)
   have S5:=aa (S4.out.below nb);have RD:Hid (aK .i64 (w4.alloc (.cells #[.int .i64 (-1),.int .i64 60000,.int .i64 59990,.int .i64 60001] 3)) (some ⟨w4.heap.size,0,none⟩) [-1,60000,59990,60001]):=aK.new _ _ _ _ _ rfl;have zB:g+1<=w4.heap.size:=by have:=S4.out.1.lt;omega
   clear S4 nb;go_wp2_with fail
   generalize w4.alloc (.cells #[.int .i64 (-1),.int .i64 60000,.int .i64 59990,.int .i64 60001] 3)=w5 at S5 RD ⊢;refine (kI S5.out.1 _ _ _ [-1,60000,59990,60001] rfl RD.out (fun x hx=>by cases hx;exact zB) (by decide) (by decide)).mono ?_
   rintro e w6 ⟨v,rfl,_,D6,b6⟩;have S6_:=aa (S5.out.draw D6 b6);clear S5 RD D6 b6;have S7:Hid (S6 w (w6.setCell ⟨B,8,none⟩ (.int .i64 v)) g R B lb cb a zs {x with gen:=v} ms ds vm vd cvm cvd fm fd):=S6_.out.set (x':={x with gen:=v}) S6_.out.nb 8 _ rfl;have Y6:=S6_.out.2.2.2.1;unfold aC at Y6;have c:=Y6.cell 8;have fz0:=Y6.frozen;clear Y6 S6_;go_upto_region 26 with fail
   generalize w6.setCell ⟨B,8,none⟩ (.int .i64 v)=w7 at S7 ⊢;clear c fz0;exact eh S7.out.tail _ (by assumption)
 . have c9:w4.drew.cell? ⟨B,9,none⟩=some (.slice vd ds.length cvd):=(by have h:=S4.out.2.2.2.1;unfold aC at h;exact h.cells13.2.2.2.2.2.2.2.2.2.1)
   obtain ⟨i4,hi4,hz0,hz1,hz2⟩:=info_parts Tryz.infoEnt;go_wp2_with fail
   refine ah.start (S:=fun w'=>w'.cell? ⟨B,9,none⟩=some (.slice vd ds.length cvd)) (k:=11) (by kernel_rfl) ?_
   refine ah.t 0 c9 ?_
   refine ah.t 1 c9 ?_
   refine ah.t 2 c9 ?_
   refine ah.t 5 c9 ?_
   refine ah.one (i:=3) (by kernel_rfl) rfl (fun K hK=>?_)
   go_simp
   refine (bJ (er S4.out.1) 5 (by omega) (by omega)).mono ?_
   rintro e w5 ⟨st,rfl,s0,s1,D5,b5⟩;have S5:=aa (S4.out.draw D5 ⟨b5.os,b5.tape,b5.output,b5.size,b5.block⟩);have c95:w5.cell? ⟨B,9,none⟩=some (.slice vd ds.length cvd):=(by have h:=S5.out.2.2.2.1;unfold aC at h;exact h.cells13.2.2.2.2.2.2.2.2.2.1);clear S4 D5 b5;go_wp2_with fail
   refine hK.out _ _ (fun _=>c95) ?_
   clear hK K c9;have hws:IntKind.i64.wrap (st-1)=st-1:=IntWalk.i64_in _ (by omega);refine ah.t 4 c95 ?_
   refine ah.one (i:=6) (by kernel_rfl) rfl (fun K hK=>?_)
   go_simp
   refine (jm S5.out.1).mono ?_
   rintro e w6 ⟨v,xs,rfl,hxl,hO,D6,b6⟩;have S6_:=aa (S5.out.draw D6 b6);have c96:w6.cell? ⟨B,9,none⟩=some (.slice vd ds.length cvd):=(by have h:=S6_.out.2.2.2.1;unfold aC at h;exact h.cells13.2.2.2.2.2.2.2.2.2.1);obtain ⟨av,cv,hv,_⟩:=hO.shape;subst hv;obtain ⟨fx,mx,rx⟩:=(aR hO).mine;have NB5:Hid (B<w5.heap.size/\(∀b∈fd,b<w5.heap.size)/\w5.heap.size<=w6.heap.size):=⟨S5.out.2.2.2.1.lt,S5.out.2.2.2.2.2.1.lt,b6.size⟩;have MX:=aa mx;have RX5:=aa rx;clear S5 D6 b6 hO mx rx;go_wp2_with fail
   refine hK.out _ _ (fun _=>c96) ?_
   clear hK K c95;refine ah.t 7 c96 ?_
   have bn:=ae w6 (.cells #[.int .i64 (st-1),.slice av xs.length cv] 90);have A1:=aa (S6_.out.2.2.2.2.2.1.alloc (.cells #[.int .i64 (st-1),.slice av xs.length cv] 90));have A2:=aa (Ty.Mine.alloc (dK (st-1) MX.out) (.cells #[.int .i64 (st-1),.slice av xs.length cv] 90));have NN:=aa (bk w6 #[.int .i64 (st-1),.slice av xs.length cv] 90);have c97:(w6.alloc (.cells #[.int .i64 (st-1),.slice av xs.length cv] 90)).cell? ⟨B,9,none⟩=some (.slice vd ds.length cvd):=(by have h:=(S6_.out.below bn).2.2.2.1;unfold aC at h;exact h.cells13.2.2.2.2.2.2.2.2.2.1);have BN:=aa bn;clear bn;refine ah.one (i:=8) (by kernel_rfl) rfl (fun K hK=>?_)
   go_simp
   refine hK.out _ _ (fun _=>c97) ?_
   clear hK K;try simp only [Act.put,List.setIfInBounds_toArray,List.set_cons_zero,List.set_cons_succ]
   have L0:ds.length<=20000:=by have h:=S6_.out.2.2.2.2.2.2.2.2.2.2.2.1;unfold aM bh at h;omega
   refine ah.one (i:=9) (by kernel_rfl) rfl (fun K hK=>?_)
   refine cF tWr rfl _ _ 27 rfl 90 i4 (.agg #[.int .i64 0,.slice none 0 0]) 32 Tryz.underlying27 hi4 hz0 hz1 hz2 rfl Nat.zero_lt_two (.slice vd ds.length cvd) ds fd rfl A1.out ⟨w6.heap.size,0,none⟩ 1 [.int .i64 (st-1),.slice av xs.length cv] (st-1,xs) fx rfl A2.out (fun b hb hm=>by have h1:=NB5.out.2.1 b hb;have h2:=(RX5.out b hm).1;omega) NN.out (by intro u hu;simp at hu;rcases hu with hu|hu<;>(rw [hu];rfl)) (by unfold maxLen;omega) (by omega) ?_
   intro gq cq w8 fp8 m8 n8 t8;have S7:Hid (T6 w (w8.setCell ⟨B,9,none⟩ (.slice (some ⟨gq,0,none⟩) (ds.length+1) cq)) g R B lb cb a zs x ms (ds++[(st-1,xs)]) vm (some ⟨gq,0,none⟩) cvm cq fp8):=S6_.out.ent (N:=w5.heap.size) BN.out m8 (fun b hb=>by
    rcases n8 b hb with h|h|h
    . exact .inl h
    . exact .inr (RX5.out b h).1
    have hz:=NB5.out.2.2;have:(w6.alloc (.cells #[.int .i64 (st-1),.slice av xs.length cv] 90)).heap.size=w6.heap.size+1:=by simp
    exact .inr (by omega)) NB5.out.1 t8 hxl
   have Y8:=((S6_.out.below BN.out).2.2.2.1.turned t8 (fun hm=>(S6_.out.2.2.2.2.2.2.2.1 B hm).2 rfl));unfold aC at Y8;have c98:w8.cell? ⟨B,9,none⟩=some (.slice vd ds.length cvd):=Y8.cells13.2.2.2.2.2.2.2.2.2.1;have fz8:=Y8.frozen;refine hK.out _ _ (fun _=>c98) ?_
   clear hK K c97 c96 m8 n8 t8 A1 A2 NN BN S6_ MX RX5 Y8;try simp only [Act.put,List.setIfInBounds_toArray,List.set_cons_zero,List.set_cons_succ]
   refine ah.t 10 c98 ?_
   refine ah.one (i:=11) (by kernel_rfl) rfl (fun K hK=>?_)
   go_simp
   refine hK.out _ _ (fun h=>absurd rfl h) ?_
   clear hK K;refine ah.done (by kernel_rfl) ?_ _
   have hle:ds.length+1=(ds++[(st-1,xs)]).length:=by simp
   rw [hle] at S7 ⊢;generalize ds++[(st-1,xs)]=ds2 at S7 ⊢;clear c98 fz8 hle;generalize w8.setCell ⟨B,9,none⟩ (.slice (some ⟨gq,0,none⟩) ds2.length cq)=w9 at S7 ⊢;go_upto_region 26 with fail
   exact eh S7.out _ (by assumption)
 . have S7:Hid (S6 w (w4.setCell ⟨B,12,none⟩ (.bool true)) g R B lb cb a zs {x with vH:=true} ms ds vm vd cvm cvd fm fd):=S4.out.set (x':={x with vH:=true}) S4.out.nb 12 _ rfl
   have Y6:=S4.out.2.2.2.1;unfold aC at Y6;have c:=Y6.cell 12;have fz0:=Y6.frozen;clear Y6 S4;go_upto_region 26 with fail
   generalize w4.setCell ⟨B,12,none⟩ (.bool true)=w7 at S7 ⊢;clear c fz0;exact eh S7.out.tail _ (by assumption)
 . have nb:=ae w4 (.cells #[.int .i64 (-2),.int .i64 0,.int .i64 1,.int .i64 2,.int .i64 5,.int .i64 1001] 3)
   have S5:=aa (S4.out.below nb);have RD:Hid (aK .i64 (w4.alloc (.cells #[.int .i64 (-2),.int .i64 0,.int .i64 1,.int .i64 2,.int .i64 5,.int .i64 1001] 3)) (some ⟨w4.heap.size,0,none⟩) [-2,0,1,2,5,1001]):=aK.new _ _ _ _ _ rfl;have zB:g+1<=w4.heap.size:=by have:=S4.out.1.lt;omega
   clear S4 nb;go_wp2_with fail
   generalize w4.alloc (.cells #[.int .i64 (-2),.int .i64 0,.int .i64 1,.int .i64 2,.int .i64 5,.int .i64 1001] 3)=w5 at S5 RD ⊢;refine (kI S5.out.1 _ _ _ [-2,0,1,2,5,1001] rfl RD.out (fun x hx=>by cases hx;exact zB) (by decide) (by decide)).mono ?_
   rintro e w6 ⟨v,rfl,_,D6,b6⟩;have S6_:=aa (S5.out.draw D6 b6);clear S5 RD D6 b6;have S7:Hid (S6 w (w6.setCell ⟨B,10,none⟩ (.int .i64 v)) g R B lb cb a zs {x with vI:=v} ms ds vm vd cvm cvd fm fd):=S6_.out.set (x':={x with vI:=v}) S6_.out.nb 10 _ rfl;have Y6:=S6_.out.2.2.2.1;unfold aC at Y6;have c:=Y6.cell 10;have fz0:=Y6.frozen;clear Y6 S6_;go_upto_region 26 with fail
   generalize w6.setCell ⟨B,10,none⟩ (.int .i64 v)=w7 at S7 ⊢;clear c fz0;exact eh S7.out.tail _ (by assumption)
 . have S7:Hid (S6 w (w4.setCell ⟨B,11,none⟩ (.bool true)) g R B lb cb a zs {x with down:=true} ms ds vm vd cvm cvd fm fd):=S4.out.set (x':={x with down:=true}) S4.out.nb 11 _ rfl
   have Y6:=S4.out.2.2.2.1;unfold aC at Y6;have c:=Y6.cell 11;have fz0:=Y6.frozen;clear Y6 S4;go_upto_region 26 with fail
   generalize w4.setCell ⟨B,11,none⟩ (.bool true)=w7 at S7 ⊢;clear c fz0;exact eh S7.out.tail _ (by assumption)
 . obtain ⟨gm,hvm⟩:=bU S4.out.2.2.2.2.1 (show 0<ms.length by omega)
   subst hvm;have hgm:=sF S4.out.2.2.2.2.1;obtain ⟨d,hd⟩:∃d,ms[k]?=some d:=⟨_,List.getElem?_eq_some_iff.2 ⟨hk,rfl⟩⟩;have hq:=hsec.out k d hd;have c3:w4.drew.cell? ⟨B,3,none⟩=some (.slice (some ⟨gm,0,none⟩) ms.length cvm):=(by have h:=S4.out.2.2.2.1;unfold aC at h;exact h.cells13.2.2.2.1);obtain ⟨hgl,a0,a1,a3,n0,n1,n3,ss,cs,f,bs,rfl,p0,p1,p2,p3,r0,r1,r3⟩:=dM S4.out.2.2.2.2.1 hd;have i1:(0:Int)<=(k:Int):=by omega
   have i3:(k:Int)<(ms.length:Int):=by omega
   have hS:w4.drew.cell? ⟨B,3,none⟩=some (.slice (some ⟨gm,0,none⟩) ms.length cvm)/\w4.drew.cell? ⟨gm,k*4,none⟩=some (.slice a0 ss.length n0):=⟨c3,p0⟩;have hdn:bV 0=6:=by decide
   have q6:(6:Int)<(ss.length:Int):=by dsimp only at hq;omega
   go_wp2_with fail
   refine ah.start (S:=fun w'=>w'.cell? ⟨B,3,none⟩=some (.slice (some ⟨gm,0,none⟩) ms.length cvm)/\w'.cell? ⟨gm,k*4,none⟩=some (.slice a0 ss.length n0)) (k:=10) (by kernel_rfl) ?_
   refine ah.t 0 hS ?_
   refine ah.t 1 hS ?_
   refine ah.t 2 hS ?_
   refine ah.t 3 hS ?_
   refine ah.t 4 hS ?_
   refine ah.t 5 hS ?_
   refine ah.t 7 hS ?_
   refine ah.one (i:=6) (by kernel_rfl) rfl (fun K hK=>?_)
   go_simp
   refine (cz _ 0).mono ?_
   rintro e wq ⟨rfl,hq0⟩;subst hq0;rw [hdn];go_wp2_with fail
   refine hK.out _ _ (fun _=>hS) ?_
   clear hK K;refine ah.one (i:=8) (by kernel_rfl) rfl (fun K hK=>?_)
   go_simp
   refine (kJ (er S4.out.1)).mono ?_
   rintro e w6 ⟨v,xs,rfl,hxl,_,hO,D6,b6⟩;have b6':But g (g+1) w4 w6:=⟨b6.os,b6.tape,b6.output,b6.size,b6.block⟩;have S6_:=S4.out.draw D6 b6';obtain ⟨av,cv,hv,_⟩:=hO.shape;subst hv;obtain ⟨gs,c0,e1,e2,⟨old,e4⟩,e5,HT0⟩:=S6_.sec (k:=k) (q:=6) (l:=w4.heap.size) hd hq (aR hO).toIn S4.out.2.2.2.1.lt (fun b hb=>S4.out.2.2.2.2.1.lt b hb) (by omega);have hS2:w6.cell? ⟨B,3,none⟩=some (.slice (some ⟨gm,0,none⟩) ms.length cvm)/\w6.cell? ⟨gm,k*4,none⟩=some (.slice a0 ss.length n0):=⟨(by have h:=S6_.2.2.2.1;unfold aC at h;exact h.cells13.2.2.2.1),(by have hk6:=b6'.block gm hgl (by have:=(S4.out.2.2.2.2.2.2.1 gm hgm).2.1;have:=S4.out.2.2.2.2.2.2.2.2.1;omega);simp only [World.cell?,hk6]:w6.cell? ⟨gm,k*4,none⟩=w4.cell? ⟨gm,k*4,none⟩).trans p0⟩;have ea:a0=some ⟨gs,0,none⟩:=by have h:=hS2.2.symm.trans e1;simp at h;exact h.1
   subst ea;have S7:=aa HT0;dsimp only at S7
   generalize ms.set k (ss.set 6 xs,cs,f,bs)=ms2 at S7;clear D6 b6 b6' hO S6_ HT0 S4 hgm e1 r0 r1 r3 p0 p1 p2 p3 c3 hd hS;go_wp2_with fail
   refine hK.out _ _ (fun _=>hS2) ?_
   clear hK K;refine ah.t 9 hS2 ?_
   refine ah.one (i:=10) (by kernel_rfl) rfl (fun K hK=>?_)
   go_simp
   refine hK.out _ _ (fun h=>absurd rfl h) ?_
   clear hK K;refine ah.done (by kernel_rfl) ?_ _
   clear hS2 e4 e5;generalize w6.setCell ⟨gs,6,none⟩ (.slice av xs.length cv)=w7 at S7 ⊢;go_upto_region 26 with fail
   exact eh S7.out _ (by assumption)
 . go_wp2_with fail
   refine (tB S4.out.1).mono ?_
   rintro e w6 ⟨gn,gs,rfl,hgn,D6,b6⟩;have HGN:=aa hgn;clear hgn;have S6_:=aa (S4.out.draw D6 b6);clear S4 D6 b6;have S7:Hid (S6 w ((w6.setCell ⟨B,1,none⟩ (.int .i64 gn)).setCell ⟨B,2,none⟩ (.int .i64 gs)) g R B lb cb a zs {x with n:=gn,s:=gs} ms ds vm vd cvm cvd fm fd):=(S6_.out.set (x':={x with n:=gn}) HGN.out 1 _ rfl).set HGN.out 2 _ rfl;have Y6:=S6_.out.2.2.2.1;unfold aC at Y6;have ca:=Y6.cell 1;have cb2:=Y6.cell 2;have fz0:=Y6.frozen;clear Y6 S6_;go_upto_region 26 with fail
   generalize (w6.setCell ⟨B,1,none⟩ (.int .i64 gn)).setCell ⟨B,2,none⟩ (.int .i64 gs)=w7 at S7 ⊢;clear ca cb2 fz0;exact eh S7.out.tail _ (by assumption)
 have n0:(sv==0)=false:=by simp;omega
 have n1:(sv==1)=false:=by simp;omega
 have n2:(sv==2)=false:=by simp;omega
 have n3:(sv==3)=false:=by simp;omega
 have n4:(sv==4)=false:=by simp;omega
 have n5:(sv==5)=false:=by simp;omega
 have n6:(sv==6)=false:=by simp;omega
 have n7:(sv==7)=false:=by simp;omega
 have n8:(sv==8)=false:=by simp;omega
 have n9:(sv==9)=false:=by simp;omega
 have n10:(sv==10)=false:=by simp;omega
 clear hsv v0 v1;go_upto_region 26 with fail
 exact eh S4.out.tail _ (by assumption)
def ofW (zs:List Int):Sup:=⟨zs.getD 1 0,zs.getD 2 0,zs.getD 3 0,zs.getD 4 0,zs.getD 5 0,zs.getD 6 0,IntKind.i64.wrap (zs.getD 7 0-1),zs.getD 8 0⟩
def getB (zs:List Int):Bool:=decide (zs.length=9)&&(decide (zs.getD 0 0=21317)&&eA (ofW zs))
def getD (zs:List Int):Sup:=if getB zs=true then ofW zs else supZ
section
variable {P:Program} {ops:Array Oper} {Q:Exit->Act->World->Prop} {I:Array Bool->Act->World->Prop}
end
theorem oK {w:World} {g lb cb:Nat} {a:Option Addr} {zs:List Int} (h:aO w g a lb cb zs) (n:Int) (hn:0<=n) (hn':n<=256):
 Calls Tryz.prog 86 #[.pointer (some ⟨g,0,none⟩),.int .i64 n] w fun e w'=>∃b:Bool,e=.returned (.bool b)/\aO w' g a lb cb zs/\But g (g+1) w w':=by
 go_enter Tryz.func86,Tryz.ntmps86
 go_wp2_with fail
 refine (bJ h n hn hn').mono ?_
 rintro e w1 ⟨x,rfl,_,_,D1,b1⟩;go_wp2
 go_ret
 exact ⟨_,rfl,D1,b1⟩
theorem But.cell {lo hi:Nat} {w w':World} (h:But lo hi w w') {p:Addr} (h1:p.block<w.heap.size) (h2:p.block<lo∨hi<=p.block):w'.cell? p=w.cell? p:=World.cell?_of_block (w:=w) (h.block _ h1 h2)
theorem mW (w:World) (a:Option Addr) (lb cb:Nat) (most:Int) (hl:lb<=2097152) (h3:3<=most):
 Calls Tryz.prog 70 #[.slice a lb cb,.int .i64 most] w fun e w'=>∃n:Int,e=.returned (.int .i64 n)/\0<=n/\n<=most/\w'=w:=by
 have hs:IntKind.i64.wrap (3+(lb:Int) / 12)=3+(lb:Int) / 12:=IntWalk.i64_in _ (by omega);go_enter Tryz.func70,Tryz.ntmps70
 by_cases hc:most<3+(lb:Int) / 12
 . go_wp2
   go_ret
   exact ⟨_,rfl,by omega,by omega,rfl⟩
 go_wp2
 go_ret
 exact ⟨_,rfl,by omega,by omega,rfl⟩
theorem rV {w:World} {g lb cb:Nat} {a:Option Addr} {zs:List Int} (h:aO w g a lb cb zs) (n:Int) (hn:n<=64):
 Calls Tryz.prog 85 #[.pointer (some ⟨g,0,none⟩),.int .i64 n] w fun e w'=>∃v:Value,e=.returned v/\∃xs:List Int,xs.length<=64/\cG xs=true/\bj .i64 3 w' w.heap.size v xs/\aO w' g a lb cb zs/\But g (g+1) w w':=by
 obtain ⟨i0,hi,hz0,hz1,hz2⟩:=info_parts Tryz.info3;have ho1:bj .i64 3 (w.alloc (.cells #[] 3)) w.heap.size (.slice (some ⟨w.heap.size,0,none⟩) 0 0) []:=bj.lit .i64 3 w [] 0 #[] rfl rfl (by unfold maxLen;omega);have hg:=h.lt;have hd1:=h.alloc (.cells #[] 3);have hB1:=(But.refl g (g+1) w).alloc (.cells #[] 3);go_enter Tryz.func85,Tryz.ntmps85
 go_wp2
 go_loopw [5,6] (fun o i wr=>∃(j:Nat) (xs:List Int),xs.length=j/\j<=64/\i=.int .i64 j/\cG xs=true/\bj .i64 3 wr w.heap.size o xs/\aO wr g a lb cb zs/\But g (g+1) w wr) (fun _ i _=>65-(intOf i).toNat)
 case atStart=>exact ⟨0,[],rfl,by omega,rfl,rfl,ho1,hd1,hB1⟩
 clear ho1 hd1 hB1;obtain ⟨j,xs,hj,hj2,rfl,hxs,ho,hd,hb⟩:=hrel;by_cases hlt:(j:Int)<n
 . go_wp2_with fail
   refine (eT hd).mono ?_
   rintro e w2 ⟨x,rfl,hx,hd2,hb2⟩;have ho2:=ho.but hb2 (by omega);have hB2:=hb.trans hb2;have hsz:=hB2.size;clear hb2 ho hd hb;go_wp2_with (at_builtin;refine cZ .i64 (by rfl) _ _ 31 (by rfl) w.heap.size 3 i0 _ 8 Tryz.underlying31 hi hz0 hz1 hz2 rfl _ xs (by rfl) (ho2.alloc _) ⟨w2.heap.size,0,none⟩ 1 1 [x] (by rfl) rfl (aK.new _ _ _ _ _ rfl) ?h1 ?h2 ?h3 ?_)
   case h1=>unfold maxLen;omega
   case h2=>omega
   case h3=>simp;omega
   intro v' w3 ho3 hb3;have hl3:(xs++[x]).length=j+1:=by simp;omega
   have hxs3:cG (xs++[x])=true:=by unfold cG at *;simp [hxs,hx]
   have hd3:=(hd2.alloc (.cells #[.int .i64 x] 3)).lower hb3 hg;have hB3:=(hB2.alloc (.cells #[.int .i64 x] 3)).thenBelow hb3;have hj1:IntKind.i64.wrap ((j:Int)+1)=(j:Int)+1:=IntWalk.i64_in _ (by omega);clear hb3 ho2 hd2 hB2;go_wp2
   go_roundw
   case rel=>exact ⟨j+1,xs++[x],hl3,by omega,by go_num,hxs3,ho3,hd3,hB3⟩
   case measure=>simp [intOf];omega
 go_wp2
 go_ret
 exact ⟨_,rfl,xs,by omega,hxs,ho,hd,hb⟩
theorem jZ {w w1 w2:World} {g B:Nat} (h1:But g (g+1) w w1) (h2:But B (B+1) w1 w2) (hB:w.heap.size<=B:=by omega):But g (g+1) w w2:=by
 refine ⟨h2.os.trans h1.os,h2.tape.trans h1.tape,h2.output.trans h1.output,Nat.le_trans h1.size h2.size,fun k hk ho=>?_⟩
 rw [h2.block k (by have:=h1.size;omega) (by omega),h1.block k hk ho]
theorem mX {w:World} {g lb cb:Nat} {a:Option Addr} {zs:List Int} (h:aO w g a lb cb zs) (x:al) (bm bd:Option Addr) (lm cm ld cd:Nat):
 Calls Tryz.prog 84 #[.pointer (some ⟨g,0,none⟩),.agg (aC x (.slice bm lm cm) (.slice bd ld cd))] w fun e w'=>∃f:Int,e=.returned (.agg (aC { x with vI:=f } (.slice bm lm cm) (.slice bd ld cd)))/\(f=x.vI∨x.vI=-1/\0<=f/\f<14)/\aO w' g a lb cb zs/\But g (g+1) w w':=by
 have hg:=h.lt;have X0:=(Box.new w 29 #[.int .i64 x.id,.int .i64 x.n,.int .i64 x.s,.slice bm lm cm,.int .i64 x.lost,.int .i64 x.vG,.int .i64 x.seq,.int .i64 x.tail,.int .i64 x.gen,.slice bd ld cd,.int .i64 x.vI,.bool x.down,.bool x.vH]).alloc (.cells #[.int .i64 0,.int .i64 0,.int .i64 0,.slice none 0 0,.int .i64 0,.int .i64 0,.int .i64 0,.int .i64 0,.int .i64 0,.slice none 0 0,.int .i64 0,.bool false,.bool false] 29);have R0:=Box.new (w.alloc (.cells #[.int .i64 x.id,.int .i64 x.n,.int .i64 x.s,.slice bm lm cm,.int .i64 x.lost,.int .i64 x.vG,.int .i64 x.seq,.int .i64 x.tail,.int .i64 x.gen,.slice bd ld cd,.int .i64 x.vI,.bool x.down,.bool x.vH] 29)) 29 #[.int .i64 0,.int .i64 0,.int .i64 0,.slice none 0 0,.int .i64 0,.int .i64 0,.int .i64 0,.int .i64 0,.int .i64 0,.slice none 0 0,.int .i64 0,.bool false,.bool false];have D0:=(h.alloc (.cells #[.int .i64 x.id,.int .i64 x.n,.int .i64 x.s,.slice bm lm cm,.int .i64 x.lost,.int .i64 x.vG,.int .i64 x.seq,.int .i64 x.tail,.int .i64 x.gen,.slice bd ld cd,.int .i64 x.vI,.bool x.down,.bool x.vH] 29)).alloc (.cells #[.int .i64 0,.int .i64 0,.int .i64 0,.slice none 0 0,.int .i64 0,.int .i64 0,.int .i64 0,.int .i64 0,.int .i64 0,.slice none 0 0,.int .i64 0,.bool false,.bool false] 29);have B0:But g (g+1) w ((w.alloc (.cells #[.int .i64 x.id,.int .i64 x.n,.int .i64 x.s,.slice bm lm cm,.int .i64 x.lost,.int .i64 x.vG,.int .i64 x.seq,.int .i64 x.tail,.int .i64 x.gen,.slice bd ld cd,.int .i64 x.vI,.bool x.down,.bool x.vH] 29)).alloc (.cells #[.int .i64 0,.int .i64 0,.int .i64 0,.slice none 0 0,.int .i64 0,.int .i64 0,.int .i64 0,.int .i64 0,.int .i64 0,.slice none 0 0,.int .i64 0,.bool false,.bool false] 29)):=((But.refl g (g+1) w).alloc _).alloc _;have hz:(w.alloc (.cells #[.int .i64 x.id,.int .i64 x.n,.int .i64 x.s,.slice bm lm cm,.int .i64 x.lost,.int .i64 x.vG,.int .i64 x.seq,.int .i64 x.tail,.int .i64 x.gen,.slice bd ld cd,.int .i64 x.vI,.bool x.down,.bool x.vH] 29)).heap.size=w.heap.size+1:=by simp
 rw [hz] at R0;clear hz h;unfold aC;go_enter Tryz.func84,Tryz.ntmps84
 go_wp2_with fail
 generalize (w.alloc (.cells #[.int .i64 x.id,.int .i64 x.n,.int .i64 x.s,.slice bm lm cm,.int .i64 x.lost,.int .i64 x.vG,.int .i64 x.seq,.int .i64 x.tail,.int .i64 x.gen,.slice bd ld cd,.int .i64 x.vI,.bool x.down,.bool x.vH] 29)).alloc (.cells #[.int .i64 0,.int .i64 0,.int .i64 0,.slice none 0 0,.int .i64 0,.int .i64 0,.int .i64 0,.int .i64 0,.int .i64 0,.slice none 0 0,.int .i64 0,.bool false,.bool false] 29)=w0 at X0 R0 D0 B0 ⊢;obtain ⟨B,hB⟩:∃B,w.heap.size+1=B:=⟨_,rfl⟩;rw [hB] at R0 ⊢;have hBB:w.heap.size<B:=by omega
 clear hB;refine (oK D0 2 (by omega) (by omega)).mono ?_
 rintro e w1 ⟨o,rfl,d1,b1⟩;have X1:=X0.kept (b1.block _ X0.lt (by omega));have R1:=R0.kept (b1.block _ R0.lt (by omega));have B1:=aa (B0.trans b1);clear X0 R0 D0 B0 b1;cases o
 . skip
   have zW:=R1.lt;have hbt:=bN B [(0,.int .i64 x.id),(1,.int .i64 x.n),(2,.int .i64 x.s),(3,.slice bm lm cm),(4,.int .i64 x.lost),(5,.int .i64 x.vG),(6,.int .i64 x.seq),(7,.int .i64 x.tail),(8,.int .i64 x.gen),(9,.slice bd ld cd),(10,.int .i64 x.vI),(11,.bool x.down),(12,.bool x.vH)] w1;have HO:Hid (∃u:Int,Ending.returned (.agg #[.int .i64 x.id,.int .i64 x.n,.int .i64 x.s,.slice bm lm cm,.int .i64 x.lost,.int .i64 x.vG,.int .i64 x.seq,.int .i64 x.tail,.int .i64 x.gen,.slice bd ld cd,.int .i64 x.vI,.bool x.down,.bool x.vH])=.returned (.agg (aC { x with vI:=u } (.slice bm lm cm) (.slice bd ld cd)))/\(u=x.vI∨x.vI=-1/\0<=u/\u<14)/\aO (bK w1 B [(0,.int .i64 x.id),(1,.int .i64 x.n),(2,.int .i64 x.s),(3,.slice bm lm cm),(4,.int .i64 x.lost),(5,.int .i64 x.vG),(6,.int .i64 x.seq),(7,.int .i64 x.tail),(8,.int .i64 x.gen),(9,.slice bd ld cd),(10,.int .i64 x.vI),(11,.bool x.down),(12,.bool x.vH)]) g a lb cb zs/\But g (g+1) w (bK w1 B [(0,.int .i64 x.id),(1,.int .i64 x.n),(2,.int .i64 x.s),(3,.slice bm lm cm),(4,.int .i64 x.lost),(5,.int .i64 x.vG),(6,.int .i64 x.seq),(7,.int .i64 x.tail),(8,.int .i64 x.gen),(9,.slice bd ld cd),(10,.int .i64 x.vI),(11,.bool x.down),(12,.bool x.vH)])):=⟨x.vI,rfl,.inl rfl,d1.lower (hbt.below (B:=w.heap.size) (by omega) (by omega)) hg,jZ B1.out hbt⟩;unfold aC at HO;simp only [bK] at HO
   obtain ⟨t0,t1,t2,t3,t4,t5,t6,t7,t8,t9,t10,t11,t12⟩:=X1.cells13;obtain ⟨s0,s1,s2,s3,s4,s5,s6,s7,s8,s9,s10,s11,s12⟩:=R1.cells13;have fz:=R1.frozen;clear X1 R1 d1 hbt;go_wp2
   refine bodyPost_ret (v:=.agg #[.int .i64 x.id,.int .i64 x.n,.int .i64 x.s,.slice bm lm cm,.int .i64 x.lost,.int .i64 x.vG,.int .i64 x.seq,.int .i64 x.tail,.int .i64 x.gen,.slice bd ld cd,.int .i64 x.vI,.bool x.down,.bool x.vH]) (by simp [results,Tryz.results84,go_sem,s0,s1,s2,s3,s4,s5,s6,s7,s8,s9,s10,s11,s12]) rfl ?_
   exact HO.out
 by_cases hf:x.vI=-1
 . have c10:=X1.cell 10
   have hf10:w1.cell? ⟨w.heap.size,10,none⟩=some (.int .i64 (-1)):=by rw [c10];simp [hf]
   clear c10;go_wp2_with fail
   refine (bJ d1 14 (by omega) (by omega)).mono ?_
   rintro e w2 ⟨f,rfl,f0,f1,d2,b2⟩;have X2:=X1.kept (b2.block _ X1.lt (by omega));have R2:=R1.kept (b2.block _ R1.lt (by omega));have X3:Box (w2.setCell ⟨w.heap.size,10,none⟩ (.int .i64 f)) w.heap.size 29 #[.int .i64 x.id,.int .i64 x.n,.int .i64 x.s,.slice bm lm cm,.int .i64 x.lost,.int .i64 x.vG,.int .i64 x.seq,.int .i64 x.tail,.int .i64 x.gen,.slice bd ld cd,.int .i64 f,.bool x.down,.bool x.vH]:=by simpa using X2.set 10 (.int .i64 f)
   have zW2:=R2.lt;have bs:But w.heap.size (w.heap.size+1) w2 (w2.setCell ⟨w.heap.size,10,none⟩ (.int .i64 f)):=But.setCell (Nat.le_refl _) (Nat.lt_succ_self _) _;have R3:=R2.kept (bs.block _ R2.lt (by omega));have B3:=aa (jZ (B1.out.trans b2) bs);have d3:=d2.lower (bs.below (B:=w.heap.size) (by omega) (by omega)) hg;have fzX:=X2.frozen;have x10:w2.cell? ⟨w.heap.size,10,none⟩=some (.int .i64 x.vI):=by rw [X2.cell 10];simp
   clear X1 R1 d1 d2 b2 X2 R2 bs B1 hf10;go_upto_region 3 with fail
   generalize w2.setCell ⟨w.heap.size,10,none⟩ (.int .i64 f)=w3 at X3 R3 B3 d3 ⊢;clear fzX x10;have zW:=R3.lt;have hbt:=bN B [(0,.int .i64 x.id),(1,.int .i64 x.n),(2,.int .i64 x.s),(3,.slice bm lm cm),(4,.int .i64 x.lost),(5,.int .i64 x.vG),(6,.int .i64 x.seq),(7,.int .i64 x.tail),(8,.int .i64 x.gen),(9,.slice bd ld cd),(10,.int .i64 f),(11,.bool x.down),(12,.bool x.vH)] w3;have HO:Hid (∃u:Int,Ending.returned (.agg #[.int .i64 x.id,.int .i64 x.n,.int .i64 x.s,.slice bm lm cm,.int .i64 x.lost,.int .i64 x.vG,.int .i64 x.seq,.int .i64 x.tail,.int .i64 x.gen,.slice bd ld cd,.int .i64 f,.bool x.down,.bool x.vH])=.returned (.agg (aC { x with vI:=u } (.slice bm lm cm) (.slice bd ld cd)))/\(u=x.vI∨x.vI=-1/\0<=u/\u<14)/\aO (bK w3 B [(0,.int .i64 x.id),(1,.int .i64 x.n),(2,.int .i64 x.s),(3,.slice bm lm cm),(4,.int .i64 x.lost),(5,.int .i64 x.vG),(6,.int .i64 x.seq),(7,.int .i64 x.tail),(8,.int .i64 x.gen),(9,.slice bd ld cd),(10,.int .i64 f),(11,.bool x.down),(12,.bool x.vH)]) g a lb cb zs/\But g (g+1) w (bK w3 B [(0,.int .i64 x.id),(1,.int .i64 x.n),(2,.int .i64 x.s),(3,.slice bm lm cm),(4,.int .i64 x.lost),(5,.int .i64 x.vG),(6,.int .i64 x.seq),(7,.int .i64 x.tail),(8,.int .i64 x.gen),(9,.slice bd ld cd),(10,.int .i64 f),(11,.bool x.down),(12,.bool x.vH)])):=⟨f,rfl,.inr ⟨hf,f0,by omega⟩,d3.lower (hbt.below (B:=w.heap.size) (by omega) (by omega)) hg,jZ B3.out hbt⟩;unfold aC at HO;simp only [bK] at HO
   obtain ⟨t0,t1,t2,t3,t4,t5,t6,t7,t8,t9,t10,t11,t12⟩:=X3.cells13;obtain ⟨s0,s1,s2,s3,s4,s5,s6,s7,s8,s9,s10,s11,s12⟩:=R3.cells13;have fz:=R3.frozen;clear X3 R3 d3 hbt;go_wp2
   refine bodyPost_ret (v:=.agg #[.int .i64 x.id,.int .i64 x.n,.int .i64 x.s,.slice bm lm cm,.int .i64 x.lost,.int .i64 x.vG,.int .i64 x.seq,.int .i64 x.tail,.int .i64 x.gen,.slice bd ld cd,.int .i64 f,.bool x.down,.bool x.vH]) (by simp [results,Tryz.results84,go_sem,s0,s1,s2,s3,s4,s5,s6,s7,s8,s9,s10,s11,s12]) rfl ?_
   exact HO.out
 have c10:=X1.cell 10;have hf10:w1.cell? ⟨w.heap.size,10,none⟩=some (.int .i64 x.vI):=by rw [c10];simp
 clear c10;have zW:=R1.lt;have hbt:=bN B [(0,.int .i64 x.id),(1,.int .i64 x.n),(2,.int .i64 x.s),(3,.slice bm lm cm),(4,.int .i64 x.lost),(5,.int .i64 x.vG),(6,.int .i64 x.seq),(7,.int .i64 x.tail),(8,.int .i64 x.gen),(9,.slice bd ld cd),(10,.int .i64 x.vI),(11,.bool x.down),(12,.bool x.vH)] w1;have HO:Hid (∃u:Int,Ending.returned (.agg #[.int .i64 x.id,.int .i64 x.n,.int .i64 x.s,.slice bm lm cm,.int .i64 x.lost,.int .i64 x.vG,.int .i64 x.seq,.int .i64 x.tail,.int .i64 x.gen,.slice bd ld cd,.int .i64 x.vI,.bool x.down,.bool x.vH])=.returned (.agg (aC { x with vI:=u } (.slice bm lm cm) (.slice bd ld cd)))/\(u=x.vI∨x.vI=-1/\0<=u/\u<14)/\aO (bK w1 B [(0,.int .i64 x.id),(1,.int .i64 x.n),(2,.int .i64 x.s),(3,.slice bm lm cm),(4,.int .i64 x.lost),(5,.int .i64 x.vG),(6,.int .i64 x.seq),(7,.int .i64 x.tail),(8,.int .i64 x.gen),(9,.slice bd ld cd),(10,.int .i64 x.vI),(11,.bool x.down),(12,.bool x.vH)]) g a lb cb zs/\But g (g+1) w (bK w1 B [(0,.int .i64 x.id),(1,.int .i64 x.n),(2,.int .i64 x.s),(3,.slice bm lm cm),(4,.int .i64 x.lost),(5,.int .i64 x.vG),(6,.int .i64 x.seq),(7,.int .i64 x.tail),(8,.int .i64 x.gen),(9,.slice bd ld cd),(10,.int .i64 x.vI),(11,.bool x.down),(12,.bool x.vH)])):=⟨x.vI,rfl,.inl rfl,d1.lower (hbt.below (B:=w.heap.size) (by omega) (by omega)) hg,jZ B1.out hbt⟩;unfold aC at HO;simp only [bK] at HO
 obtain ⟨t0,t1,t2,t3,t4,t5,t6,t7,t8,t9,t10,t11,t12⟩:=X1.cells13;obtain ⟨s0,s1,s2,s3,s4,s5,s6,s7,s8,s9,s10,s11,s12⟩:=R1.cells13;have fz:=R1.frozen;clear X1 R1 d1 hbt;go_wp2
 refine bodyPost_ret (v:=.agg #[.int .i64 x.id,.int .i64 x.n,.int .i64 x.s,.slice bm lm cm,.int .i64 x.lost,.int .i64 x.vG,.int .i64 x.seq,.int .i64 x.tail,.int .i64 x.gen,.slice bd ld cd,.int .i64 x.vI,.bool x.down,.bool x.vH]) (by simp [results,Tryz.results84,go_sem,s0,s1,s2,s3,s4,s5,s6,s7,s8,s9,s10,s11,s12]) rfl ?_
 exact HO.out
theorem iE (w:World) (a:Option Addr) (lb cb:Nat) (zs:List Int) (hz:zs.length=lb) (hr:aK .u8 w a zs) (hby:∀n∈zs,0<=n/\n<=255) (hlb:lb<=2097152):
 Calls Tryz.prog 22 #[.slice a lb cb] w fun e w'=>DrwE w e w':=by
 have hA:=ae w (.cells #[.int .i64 0,.int .i64 0,.int .i64 0,.slice none 0 0,.int .i64 0,.int .i64 0,.int .i64 0,.int .i64 0,.int .i64 0,.slice none 0 0,.int .i64 0,.bool false,.bool false] 29);have X:=Box.new w 29 #[.int .i64 0,.int .i64 0,.int .i64 0,.slice none 0 0,.int .i64 0,.int .i64 0,.int .i64 0,.int .i64 0,.int .i64 0,.slice none 0 0,.int .i64 0,.bool false,.bool false];have zA:=X.lt;have AH:=aa (hr.ahead hz);go_enter Tryz.func22,Tryz.ntmps22
 go_wp2_with fail
 generalize w.alloc (.cells #[.int .i64 0,.int .i64 0,.int .i64 0,.slice none 0 0,.int .i64 0,.int .i64 0,.int .i64 0,.int .i64 0,.int .i64 0,.slice none 0 0,.int .i64 0,.bool false,.bool false] 29)=W at hA X zA ⊢;refine (oE _ _ _ _ zs hz (hr.below hA) hlb).mono ?_
 rintro e w1 ⟨rfl,hc1,hb1⟩;have D1:aO w1 W.heap.size a lb cb zs:=⟨hc1,hz,(hr.below hA).below hb1,hby,hlb,(hr.below hA).ahead hz⟩;have B1:=Below.andThen hA hb1;have X1:=X.below hb1 zA;have zc:=D1.lt;clear hc1 hA X hb1;go_wp2_with fail
 refine (mW _ _ _ _ 12 hlb (by omega)).mono ?_
 rintro e wq ⟨n,rfl,n0,n1,hq⟩;subst hq;go_wp2_with fail
 refine (oJ D1 n n0 (by omega)).mono ?_
 rintro e w2 ⟨x,ms,ds,vm,vd,cvm,cvd,fd,rfl,hm,hd,rd,hwt,D2,b2⟩;have S2:Hid (D8 w w2 w.heap.size wq.heap.size w2.heap.size W.heap.size a lb cb zs #[.int .i64 0,.int .i64 0,.int .i64 0,.slice none 0 0,.int .i64 0,.int .i64 0,.int .i64 0,.int .i64 0,.int .i64 0,.slice none 0 0,.int .i64 0,.bool false,.bool false] x ms ds vm vd cvm cvd fd):=⟨D2,B1.trans (b2.mono (by omega)),X1.below b2 zA,hm,hd,fun b hb=>⟨rd b hb,hd.lt b hb⟩,rfl,zA,zc,b2.size,Nat.le_refl _,AH.out,hwt⟩;clear D1 D2 B1 X1 hm hd rd hwt b2 AH;have nb:=ae w2 (.cells #[.int .i64 x.id,.int .i64 x.n,.int .i64 x.s,.slice vm ms.length cvm,.int .i64 x.lost,.int .i64 x.vG,.int .i64 x.seq,.int .i64 x.tail,.int .i64 x.gen,.slice vd ds.length cvd,.int .i64 x.vI,.bool x.down,.bool x.vH] 29);have Y:=Box.new w2 29 #[.int .i64 x.id,.int .i64 x.n,.int .i64 x.s,.slice vm ms.length cvm,.int .i64 x.lost,.int .i64 x.vG,.int .i64 x.seq,.int .i64 x.tail,.int .i64 x.gen,.slice vd ds.length cvd,.int .i64 x.vI,.bool x.down,.bool x.vH];have S3:=aa (S2.out.below nb);clear S2 nb;unfold aC;go_upto_region 3 with fail
 generalize w2.alloc (.cells #[.int .i64 x.id,.int .i64 x.n,.int .i64 x.s,.slice vm ms.length cvm,.int .i64 x.lost,.int .i64 x.vG,.int .i64 x.seq,.int .i64 x.tail,.int .i64 x.gen,.slice vd ds.length cvd,.int .i64 x.vI,.bool x.down,.bool x.vH] 29)=w3 at S3 Y ⊢;generalize w2.heap.size=B at S3 Y ⊢;obtain ⟨y0,y1,y2,y3,y4,y5,y6,y7,y8,y9,y10,y11,y12⟩:=Y.cells13;go_wp2_with fail
 refine (mX S3.out.1 x vm vd ms.length cvm ds.length cvd).mono ?_
 rintro e w4 ⟨f,rfl,_,D4,b4⟩;have S4:=aa ((S3.out.draw D4 b4).num (x':={x with vI:=f}) rfl);clear S3 D4 b4 Y y0 y1 y2 y3 y4 y5 y6 y7 y8 y9 y10 y11 y12;have HO:=aa S4.out.out;obtain ⟨_,_,RX,_⟩:=S4.out;unfold aC at HO ⊢;simp only [bK] at HO
 obtain ⟨r0,r1,r2,r3,r4,r5,r6,r7,r8,r9,r10,r11,r12⟩:=RX.cells13;have fzr:=RX.frozen;clear RX S4;go_wp2
 refine bodyPost_ret (by simp [results,Tryz.results22,go_sem,r0,r1,r2,r3,r4,r5,r6,r7,r8,r9,r10,r11,r12];rfl) rfl ?_
 exact HO.out
theorem pp (w:World) (a:Option Addr) (lb cb:Nat) (zs:List Int) (hz:zs.length=lb) (hr:aK .u8 w a zs) (hby:∀n∈zs,0<=n/\n<=255) (hlb:lb<=2097152):
 Calls Tryz.prog 23 #[.slice a lb cb] w fun e w'=>DrwE w e w':=by
 have hA:=ae w (.cells #[.int .i64 0,.int .i64 0,.int .i64 0,.slice none 0 0,.int .i64 0,.int .i64 0,.int .i64 0,.int .i64 0,.int .i64 0,.slice none 0 0,.int .i64 0,.bool false,.bool false] 29);have X:=Box.new w 29 #[.int .i64 0,.int .i64 0,.int .i64 0,.slice none 0 0,.int .i64 0,.int .i64 0,.int .i64 0,.int .i64 0,.int .i64 0,.slice none 0 0,.int .i64 0,.bool false,.bool false];have zA:=X.lt;go_enter Tryz.func23,Tryz.ntmps23
 go_wp2_with fail
 generalize w.alloc (.cells #[.int .i64 0,.int .i64 0,.int .i64 0,.slice none 0 0,.int .i64 0,.int .i64 0,.int .i64 0,.int .i64 0,.int .i64 0,.slice none 0 0,.int .i64 0,.bool false,.bool false] 29)=W at hA X zA ⊢;refine (iE _ _ _ _ zs hz (hr.below hA) hby hlb).mono ?_
 rintro e w2 ⟨v,rfl,hv⟩;obtain ⟨_,_,_,_,_,_,_,_,_,_,_,_,_,hB2⟩:=id hv;obtain ⟨x,ms,ds,vm,vd,cvm,cvd,rfl,HO0⟩:=hv.out rfl zA hA;have HO:=aa HO0;have RX:=X.below hB2 zA;unfold aC at HO ⊢;simp only [bK] at HO
 obtain ⟨r0,r1,r2,r3,r4,r5,r6,r7,r8,r9,r10,r11,r12⟩:=RX.cells13;have fzr:=RX.frozen;clear RX X hA HO0;go_wp2
 refine bodyPost_ret (by simp [results,Tryz.results23,go_sem,r0,r1,r2,r3,r4,r5,r6,r7,r8,r9,r10,r11,r12];rfl) rfl ?_
 exact HO.out
theorem ny (w:World) (a:Option Addr) (lb cb:Nat) (zs:List Int) (hz:zs.length=lb) (hr:aK .u8 w a zs) (hby:∀n∈zs,0<=n/\n<=255) (hlb:lb<=2097152):
 Calls Tryz.prog 24 #[.slice a lb cb] w fun e w'=>DrwE w e w':=by
 have hA:=ae w (.cells #[.int .i64 0,.int .i64 0,.int .i64 0,.slice none 0 0,.int .i64 0,.int .i64 0,.int .i64 0,.int .i64 0,.int .i64 0,.slice none 0 0,.int .i64 0,.bool false,.bool false] 29);have X:=Box.new w 29 #[.int .i64 0,.int .i64 0,.int .i64 0,.slice none 0 0,.int .i64 0,.int .i64 0,.int .i64 0,.int .i64 0,.int .i64 0,.slice none 0 0,.int .i64 0,.bool false,.bool false];have zA:=X.lt;go_enter Tryz.func24,Tryz.ntmps24
 go_wp2_with fail
 generalize w.alloc (.cells #[.int .i64 0,.int .i64 0,.int .i64 0,.slice none 0 0,.int .i64 0,.int .i64 0,.int .i64 0,.int .i64 0,.int .i64 0,.slice none 0 0,.int .i64 0,.bool false,.bool false] 29)=W at hA X zA ⊢;refine (iE _ _ _ _ zs hz (hr.below hA) hby hlb).mono ?_
 rintro e w2 ⟨v,rfl,hv⟩;obtain ⟨_,_,_,_,_,_,_,_,_,_,_,_,_,hB2⟩:=id hv;obtain ⟨x,ms,ds,vm,vd,cvm,cvd,rfl,HO0⟩:=hv.out rfl zA hA;have HO:=aa HO0;have RX:=X.below hB2 zA;unfold aC at HO ⊢;simp only [bK] at HO
 obtain ⟨r0,r1,r2,r3,r4,r5,r6,r7,r8,r9,r10,r11,r12⟩:=RX.cells13;have fzr:=RX.frozen;clear RX X hA HO0;go_wp2
 refine bodyPost_ret (by simp [results,Tryz.results24,go_sem,r0,r1,r2,r3,r4,r5,r6,r7,r8,r9,r10,r11,r12];rfl) rfl ?_
 exact HO.out
end Go.Proofs.YtejeekndbnpmoaaGreat

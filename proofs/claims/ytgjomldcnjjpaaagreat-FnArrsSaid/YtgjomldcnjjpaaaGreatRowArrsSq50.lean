/-
 What is drawn of chapter 7 besides the array: how great (l1Size), some numbers (l7Some). No condition but the cursor's, and at most 64 numbers.
-/
import Derived.Test.YtgjomldcnjjpaaaGreatRowArrsSq49
import Derived.Test.YtgjomldcnjjpaaaGreatRowArrsSq37
import Derived.Test.YtgjomldcnjjpaaaGreatRowArrsSq46
import Derived.Test.YtgjomldcnjjpaaaGreatRowArrsSq16
import Derived.Test.YtgjomldcnjjpaaaGreatRowArrsSq10
import Derived.Test.YtgjomldcnjjpaaaGreatRowArrsSq19
import Derived.Test.YtgjomldcnjjpaaaGreatRowArrsSq4
import Derived.Test.YtgjomldcnjjpaaaGreatRowArrsSq21

set_option maxRecDepth 100000
set_option maxHeartbeats 8000000
set_option linter.unusedSimpArgs false

namespace Go.Proofs.YtgjomldcnjjpaaaGreat
open Go.RowKit

theorem wP {id n s:Int} (hg:bL n s=true) (hi:inB id 1 60000=true):cG 0 (dM id n s,dr id n s) []:=by
 have hB:iu id n s=true:=by unfold iu;rw [hg,hi];rfl
 obtain ⟨g1,g2,g3,g4⟩:=aB.1 hg;have hx:dM id n s=⟨id,n,s,-1,0,0,0,0,-1,false,false⟩:=by unfold dM;rw [if_pos hB]
 have hm:dr id n s=eo id n s n.toNat:=by unfold dr;rw [if_pos hB]
 refine ⟨bD.2 ?_,?_,?_,?_,?_⟩
 . rw [hx,hm]
   refine ⟨hg,hi,eg.2 ⟨fun i d hd=>?_,?_⟩,rfl,?_,?_⟩
   . unfold eo at hd
     have hil:i<n.toNat:=by have:=(List.getElem?_eq_some_iff.1 hd).1;simpa using this
     rw [List.getElem?_map,List.getElem?_range hil] at hd;simp only [Option.map_some,Option.some.injEq] at hd
     subst hd;have hP:=kc (js (role:=(i:Int)) hg hi (by omega) (by omega));have hl:=gx (dE (dB id n s (i:Int))) s.toNat s.toNat (Nat.le_refl _);refine ⟨(eB _ _ _).2 ⟨fun x hx=>?_,by simp [mg],rfl,?_,by simp [mg]⟩,?_,fun hf=>?_⟩
     . obtain ⟨q,hq⟩:=List.mem_iff_getElem?.1 hx
       have hq':(ex (dE (dB id n s (i:Int))) s.toNat s.toNat)[q]?=some x:=hq;have hql:=(List.getElem?_eq_some_iff.1 hq').1;rw [jt (Nat.le_refl _) (by omega)] at hq';simp only [Option.some.injEq] at hq'
       subst hq';split
       . exact hP
       split<;>rfl
     . rw [aG]
       show (1:Int)<=((ex (dE (dB id n s (i:Int))) s.toNat s.toNat).length:Int)/\((ex (dE (dB id n s (i:Int))) s.toNat s.toNat).length:Int)<=20
       omega
     . show ((ex (dE (dB id n s (i:Int))) s.toNat s.toNat).length:Int)=6+s
       omega
     cases hf
   . unfold eo
     simp
     omega
   . unfold dU
     simp only [Bool.and_eq_true,aG,Bool.or_eq_true,Bool.not_eq_true',decide_eq_true_eq,decide_eq_false_iff_not]
     exact ⟨⟨by omega,by omega⟩,⟨by omega,by omega⟩,.inr trivial⟩
   rw [gl];simp
 . rw [hx];exact ⟨rfl,rfl⟩
 . rw [hx]
 . rw [hx];exact Int.le_refl _
 rw [hx];exact Int.le_refl _
def wQ (w:World) (g:Nat) (a:Option Addr) (lb cb:Nat) (zs:List Int) (G:Int) (e:Ending) (w':World):Prop:=
 ∃(q:aq×List ai) (ds:List aH) (bm bd:Option Addr) (cm cd:Nat) (fm fd:List Nat),e=.returned (.agg (bH q.1 (.slice bm q.2.length cm) (.slice bd ds.length cd)))/\(bI 119 55).Mine w' [.slice bm q.2.length cm] q.2 fm/\(aW 93).Mine w' [.slice bd ds.length cd] ds fd/\(∀b∈fm,b∉fd)/\(∀b∈fm,w.heap.size<=b)/\(∀b∈fd,w.heap.size<=b)/\cG G q ds/\br w' g a lb cb zs/\Fr w.heap.size g w w'
theorem vi {w:World} {g lb cb:Nat} {a:Option Addr} {zs:List Int} (h:br w g a lb cb zs):
 Calls Tryz.prog 92 #[.pointer (some ⟨g,0,none⟩)] w fun e w'=>∃n s:Int,e=.returned (.agg #[.int .i64 n,.int .i64 s])/\bL n s=true/\br w' g a lb cb zs/\But g (g+1) w w':=by
 have hg:=h.lt;have R0:=Box.new w 25 #[.int .i64 0,.int .i64 0];have D0:=h.alloc (.cells #[.int .i64 0,.int .i64 0] 25);have hz:(w.alloc (.cells #[.int .i64 0,.int .i64 0] 25)).heap.size=w.heap.size+1:=by simp
 have b0:But g (g+1) w (w.alloc (.cells #[.int .i64 0,.int .i64 0] 25)):=But.of_below (af w _);have hz':w.heap.size+1<=(w.alloc (.cells #[.int .i64 0,.int .i64 0] 25)).heap.size:=by omega
 clear hz h;go_enter Tryz.func92,Tryz.ntmps92
 go_wp2_with fail
 generalize w.alloc (.cells #[.int .i64 0,.int .i64 0] 25)=w0 at R0 D0 b0 hz' ⊢;refine (bX D0 3 (by omega) (by omega)).mono ?_
 rintro e w1 ⟨x,rfl,x0,x1,d1,b1⟩;have R1:=R0.kept (b1.block w.heap.size R0.lt (by omega));have B1:=b0.trans b1;have z1:=b1.size;have gw1:IntKind.i64.wrap (3+x)=3+x:=IntWalk.i64_in _ (by omega);clear R0 D0 b0 b1;go_wp2_with fail
 refine (bX d1 4 (by omega) (by omega)).mono ?_
 rintro e w2 ⟨y,rfl,y0,y1,d2,b2⟩;have R2:=R1.kept (b2.block w.heap.size R1.lt (by omega));have gw2:IntKind.i64.wrap (1+y)=1+y:=IntWalk.i64_in _ (by omega);have z2:=b2.size;have s0:=R2.cell 0;have s1:=R2.cell 1;have fz:=R2.frozen;have HG:Hid (bL (3+x) (1+y)=true):=aB.2 ⟨by omega,by omega,by omega,by omega⟩;have bs:But w.heap.size (w.heap.size+1) w2 ((w2.setCell ⟨w.heap.size,0,none⟩ (.int .i64 (3+x))).setCell ⟨w.heap.size,1,none⟩ (.int .i64 (1+y))):=(But.setCell (by omega) (by omega) _).trans (But.setCell (by omega) (by omega) _);have HD:=aa (d2.lower (bs.below (B:=w.heap.size) (Nat.le_refl _) (by omega)) hg);have HB:Hid (But g (g+1) w ((w2.setCell ⟨w.heap.size,0,none⟩ (.int .i64 (3+x))).setCell ⟨w.heap.size,1,none⟩ (.int .i64 (1+y)))):=by
  have h2:=B1.trans b2;refine ⟨bs.os.trans h2.os,bs.tape.trans h2.tape,bs.output.trans h2.output,Nat.le_trans h2.size bs.size,fun k hk ho=>?_⟩
  rw [bs.block k (by have:=h2.size;omega) (by omega),h2.block k hk ho]
 clear R1 R2 d1 d2 b2 B1 bs;go_wp2
 refine bodyPost_ret (v:=.agg #[.int .i64 (3+x),.int .i64 (1+y)]) (by simp [results,Tryz.results92,go_sem,s0,s1]) rfl ?_
 exact ⟨_,_,rfl,HG.out,HD.out,HB.out⟩
theorem tI {w:World} {g lb cb:Nat} {a:Option Addr} {zs:List Int} (h:br w g a lb cb zs) (most:Int) (h0:0<=most) (h1:most<=200):
 Calls Tryz.prog 62 #[.pointer (some ⟨g,0,none⟩),.int .i64 most] w fun e w'=>wQ w g a lb cb zs 30000 e w':=by
 have hg:=h.lt;have R0:=Box.new w 31 #[.int .i64 0,.int .i64 0,.int .i64 0,.slice none 0 0,.int .i64 0,.int .i64 0,.int .i64 0,.int .i64 0,.int .i64 0,.slice none 0 0,.int .i64 0,.bool false,.bool false];have D0:=h.alloc (.cells #[.int .i64 0,.int .i64 0,.int .i64 0,.slice none 0 0,.int .i64 0,.int .i64 0,.int .i64 0,.int .i64 0,.int .i64 0,.slice none 0 0,.int .i64 0,.bool false,.bool false] 31);have B0:Fr w.heap.size g w (w.alloc (.cells #[.int .i64 0,.int .i64 0,.int .i64 0,.slice none 0 0,.int .i64 0,.int .i64 0,.int .i64 0,.int .i64 0,.int .i64 0,.slice none 0 0,.int .i64 0,.bool false,.bool false] 31)):=Fr.ofBelow (af w _) (Nat.le_refl _);have hz':w.heap.size+1<=(w.alloc (.cells #[.int .i64 0,.int .i64 0,.int .i64 0,.slice none 0 0,.int .i64 0,.int .i64 0,.int .i64 0,.int .i64 0,.int .i64 0,.slice none 0 0,.int .i64 0,.bool false,.bool false] 31)).heap.size:=by simp
 clear h;go_enter Tryz.func62,Tryz.ntmps62
 go_wp2_with fail
 generalize w.alloc (.cells #[.int .i64 0,.int .i64 0,.int .i64 0,.slice none 0 0,.int .i64 0,.int .i64 0,.int .i64 0,.int .i64 0,.int .i64 0,.slice none 0 0,.int .i64 0,.bool false,.bool false] 31)=w0 at R0 D0 B0 hz' ⊢;refine (bX D0 2 (by omega) (by omega)).mono ?_
 rintro e w1 ⟨x,rfl,x0,x1,d1,b1⟩;have R1:=R0.kept (b1.block w.heap.size R0.lt (by omega));have B1:=B0.trans (b1.fr (by omega));have z1:=b1.size;have gw1:IntKind.i64.wrap (1+x)=1+x:=IntWalk.i64_in _ (by omega);clear R0 D0 B0 b1;go_wp2_with fail
 refine (vi d1).mono ?_
 rintro e w2 ⟨n,s,rfl,hgeo,d2,b2⟩;have R2:=R1.kept (b2.block w.heap.size R1.lt (by omega));have B2:=B1.trans (b2.fr (by omega));have z2:=b2.size;clear R1 d1 B1 b2;have HGD:=aa (wP (id:=1+x) hgeo (aG.2 ⟨by omega,by omega⟩));go_wp2_with fail
 refine (jp _ (1+x) n s).mono ?_
 rintro e w3 ⟨am,cm,rfl,o3,b3⟩;generalize dM (1+x) n s=y at HGD ⊢;generalize dr (1+x) n s=ms at HGD o3 ⊢;have bn:=af w3 (.cells #[.int .i64 y.id,.int .i64 y.n,.int .i64 y.s,.slice am ms.length cm,.int .i64 y.lost,.int .i64 y.xW,.int .i64 y.seq,.int .i64 y.tail,.int .i64 y.gen,.slice none 0 0,.int .i64 y.xY,.bool y.down,.bool y.xX] 31);have R4:=(R2.below b3 R2.lt).alloc (.cells #[.int .i64 y.id,.int .i64 y.n,.int .i64 y.s,.slice am ms.length cm,.int .i64 y.lost,.int .i64 y.xW,.int .i64 y.seq,.int .i64 y.tail,.int .i64 y.gen,.slice none 0 0,.int .i64 y.xY,.bool y.down,.bool y.xX] 31);have B4:=(B2.trans (Fr.ofBelow b3 (by omega))).trans (Fr.ofBelow bn (by have:=b3.size;omega));have z3:=b3.size;have Y:=Box.new w3 31 #[.int .i64 y.id,.int .i64 y.n,.int .i64 y.s,.slice am ms.length cm,.int .i64 y.lost,.int .i64 y.xW,.int .i64 y.seq,.int .i64 y.tail,.int .i64 y.gen,.slice none 0 0,.int .i64 y.xY,.bool y.down,.bool y.xX];have zY:=Y.lt;have D4:=(d2.lower b3 (by omega)).alloc (.cells #[.int .i64 y.id,.int .i64 y.n,.int .i64 y.s,.slice am ms.length cm,.int .i64 y.lost,.int .i64 y.xW,.int .i64 y.seq,.int .i64 y.tail,.int .i64 y.gen,.slice none 0 0,.int .i64 y.xY,.bool y.down,.bool y.xX] 31);obtain ⟨fm,mm,rm⟩:=(o3.below bn).mine;have S4:Hid (At6 (w3.alloc (.cells #[.int .i64 y.id,.int .i64 y.n,.int .i64 y.s,.slice am ms.length cm,.int .i64 y.lost,.int .i64 y.xW,.int .i64 y.seq,.int .i64 y.tail,.int .i64 y.gen,.slice none 0 0,.int .i64 y.xY,.bool y.down,.bool y.xX] 31)) g a lb cb zs (w.heap.size+1) w3.heap.size 0):=⟨(y,ms),[],fm,[],D4,⟨am,none,cm,0,Y,mm,⟨.inl ⟨rfl,rfl,rfl⟩,List.nodup_nil⟩,fun _ _=>by simp,fun hm=>by have:=rm _ hm;omega,by simp⟩,HGD.out,⟨by omega,by omega,by omega⟩,fun b hb=>by have:=rm b hb;omega,by simp⟩;clear R2 B2 d2 b3 o3 bn Y mm rm D4 HGD;have hmf:IntKind.i64.wrap (most+1)=most+1:=IntWalk.i64_in _ (by omega);go_wp2_with fail
 generalize w3.alloc (.cells #[.int .i64 y.id,.int .i64 y.n,.int .i64 y.s,.slice am ms.length cm,.int .i64 y.lost,.int .i64 y.xW,.int .i64 y.seq,.int .i64 y.tail,.int .i64 y.gen,.slice none 0 0,.int .i64 y.xY,.bool y.down,.bool y.xX] 31)=w4 at R4 B4 zY S4 ⊢;obtain ⟨B,hB⟩:∃B,w3.heap.size=B:=⟨_,rfl⟩;rw [hB] at zY S4 ⊢;have zB:w.heap.size<B:=by omega
 clear hB;have HS:=S4.out;obtain ⟨qq,dd,ff,fe,HS⟩:=HS;have D4:=HS.1;clear HS;refine (bX D4 (most+1) (by omega) (by omega)).mono ?_
 rintro e w5 ⟨t,rfl,t0,t1,d5,b5⟩;have z5:=b5.size;have zW4:w.heap.size+1<=w4.heap.size:=by omega
 have R5:=R4.kept (b5.block w.heap.size R4.lt (by omega));have B5:=aa (B4.trans (b5.fr (by omega)));have S5:Hid (At6 w5 g a lb cb zs (w.heap.size+1) B 0):=by
  obtain ⟨q,ds,fm,fd,h⟩:=S4.out;exact ⟨q,ds,fm,fd,h.draw d5 b5⟩
 clear S4 R4 B4 d5 b5 D4;obtain ⟨k,rfl⟩:=Int.eq_ofNat_of_zero_le t0;have hk:k<=200:=by omega
 have HR5:=aa R5;clear R5 t0 t1;go_wp2
 go_loopw [6] (fun iv wr=>∃j:Nat,j<=200/\iv=.int .i64 j/\At6 wr g a lb cb zs (w.heap.size+1) B (101*(200-(j:Int)))/\Fr (w.heap.size+1) g w5 wr) (fun iv _=>(intOf iv).toNat)
 case atStart=>exact ⟨k,hk,rfl,S5.out.more (by omega),Fr.refl _ _ _⟩
 obtain ⟨j,hj,rfl,hA,hF⟩:=hrel;have zr:=hF.size;by_cases hj0:0<j
 . have HT:=aa (tG wr g a lb cb zs (w.heap.size+1) B _ hA (by omega))
   have HF:=aa hF;have k1:(j:Int)>0:=by omega
   have k2:(0:Int)<(j:Int):=by omega
   clear hA hF;go_wp2_with fail
   refine HT.out.mono ?_
   rintro e w6 ⟨rfl,hA,hF⟩;have HN:Hid (At6 w6 g a lb cb zs (w.heap.size+1) B (101*(200-((j-1:Nat):Int)))):=hA.more (by omega);have HF2:=aa (HF.out.trans hF);clear hA hF HT;go_wp2
   go_roundw
   case rel=>exact ⟨j-1,by omega,by go_num,HN.out,HF2.out⟩
   case measure=>simp [intOf];omega
 have k1:¬(j:Int)>0:=by omega
 obtain ⟨⟨q0,n0⟩,ds,fm,fd,D,⟨bm,bd,cm2,cd2,Y,mm,md,hr,r1,r2⟩,GD,⟨e1,e2,e3⟩,hm,hd⟩:=hA;dsimp only at Y mm
 have R6:=hF.box HR5.out (by omega) (by omega);have B6:=B5.out.trans (⟨hF.os,hF.tape,hF.output,hF.size,fun k hk hne=>hF.block k (by omega) hne⟩:Fr w.heap.size g w5 wr);have hbt:=dj w.heap.size [(0,.int .i64 q0.id),(1,.int .i64 q0.n),(2,.int .i64 q0.s),(3,.slice bm n0.length cm2),(4,.int .i64 q0.lost),(5,.int .i64 q0.xW),(6,.int .i64 q0.seq),(7,.int .i64 q0.tail),(8,.int .i64 q0.gen),(9,.slice bd ds.length cd2),(10,.int .i64 q0.xY),(11,.bool q0.down),(12,.bool q0.xX)] wr;have HO:Hid (wQ w g a lb cb zs 30000 (.returned (.agg (bH q0 (.slice bm n0.length cm2) (.slice bd ds.length cd2)))) (fa wr w.heap.size [(0,.int .i64 q0.id),(1,.int .i64 q0.n),(2,.int .i64 q0.s),(3,.slice bm n0.length cm2),(4,.int .i64 q0.lost),(5,.int .i64 q0.xW),(6,.int .i64 q0.seq),(7,.int .i64 q0.tail),(8,.int .i64 q0.gen),(9,.slice bd ds.length cd2),(10,.int .i64 q0.xY),(11,.bool q0.down),(12,.bool q0.xX)])):=⟨(q0,n0),ds,bm,bd,cm2,cd2,fm,fd,rfl,mm.but hbt (fun b hb=>by have:=hm b hb;omega),md.but hbt (fun b hb=>by have:=hd b hb;omega),hr,fun b hb=>by have:=hm b hb;omega,fun b hb=>by have:=hd b hb;omega,GD.more (by omega),D.lower (hbt.below (B:=w.heap.size) (Nat.le_refl _) (by omega)) hg,B6.trans ⟨hbt.os,hbt.tape,hbt.output,hbt.size,fun k hk _=>hbt.block k (by omega) (by omega)⟩⟩;unfold bH at HO Y;simp only [fa] at HO
 obtain ⟨t0,t1,t2,t3,t4,t5,t6,t7,t8,t9,t10,t11,t12⟩:=Y.cells13;obtain ⟨s0,s1,s2,s3,s4,s5,s6,s7,s8,s9,s10,s11,s12⟩:=R6.cells13;have fz:=R6.frozen;clear Y mm md R6 B6 hbt D GD hF;go_wp2
 refine bodyPost_ret (v:=.agg #[.int .i64 q0.id,.int .i64 q0.n,.int .i64 q0.s,.slice bm n0.length cm2,.int .i64 q0.lost,.int .i64 q0.xW,.int .i64 q0.seq,.int .i64 q0.tail,.int .i64 q0.gen,.slice bd ds.length cd2,.int .i64 q0.xY,.bool q0.down,.bool q0.xX]) (by simp [results,Tryz.results62,go_sem,s0,s1,s2,s3,s4,s5,s6,s7,s8,s9,s10,s11,s12]) rfl ?_
 exact HO.out
def Any6 (w:World) (g:Nat) (a:Option Addr) (lb cb:Nat) (zs:List Int) (e:Ending) (w':World):Prop:=
 ∃(x:aq) (ms:List ai) (ds:List aH) (vm vd:Option Addr) (cvm cvd:Nat) (fd:List Nat),e=.returned (.agg (bH x (.slice vm ms.length cvm) (.slice vd ds.length cvd)))/\(bI 119 55).In w' w.heap.size w'.heap.size [.slice vm ms.length cvm] ms/\(aW 93).Mine w' [.slice vd ds.length cvd] ds fd/\(∀b∈fd,w.heap.size<=b)/\(bh ms ds<=100000/\-64<=x.n/\x.n<=64)/\br w' g a lb cb zs/\Below g w w'
def T6 (w W:World) (g R B lb cb:Nat) (a:Option Addr) (zs:List Int) (x:aq) (ms:List ai) (ds:List aH) (vm vd:Option Addr) (cvm cvd:Nat) (fd:List Nat):Prop:=
 br W g a lb cb zs/\Below g w W/\Box W R 31 #[.int .i64 0,.int .i64 0,.int .i64 0,.slice none 0 0,.int .i64 0,.int .i64 0,.int .i64 0,.int .i64 0,.int .i64 0,.slice none 0 0,.int .i64 0,.bool false,.bool false]/\Box W B 31 (bH x (.slice vm ms.length cvm) (.slice vd ds.length cvd))/\(bI 119 55).In W (R+1) W.heap.size [.slice vm ms.length cvm] ms/\(aW 93).Mine W [.slice vd ds.length cvd] ds fd/\(∀b∈fd,R<b)/\g<R/\w.heap.size<=R/\R<B/\(bh ms ds<=100000/\-64<=x.n/\x.n<=64)
def S6 (w W:World) (g R B lb cb:Nat) (a:Option Addr) (zs:List Int) (x:aq) (ms:List ai) (ds:List aH) (vm vd:Option Addr) (cvm cvd:Nat) (fm fd:List Nat):Prop:=
 br W g a lb cb zs/\Below g w W/\Box W R 31 #[.int .i64 0,.int .i64 0,.int .i64 0,.slice none 0 0,.int .i64 0,.int .i64 0,.int .i64 0,.int .i64 0,.int .i64 0,.slice none 0 0,.int .i64 0,.bool false,.bool false]/\Box W B 31 (bH x (.slice vm ms.length cvm) (.slice vd ds.length cvd))/\(bI 119 55).Mine W [.slice vm ms.length cvm] ms fm/\(aW 93).Mine W [.slice vd ds.length cvd] ds fd/\(∀b∈fm,b∉fd/\R<b/\b≠B)/\(∀b∈fd,R<b/\b≠B)/\g<R/\w.heap.size<=R/\R<B/\(bh ms ds<=20000/\-64<=x.n/\x.n<=64)
theorem wR {G:Int} {x:aq} {ms:List ai} {ds:List aH} (h:cG G (x,ms) ds):3<=ms.length/\ms.length<=5:=by
 obtain ⟨p1,_,p3,_⟩:=bD.1 h.1;have g1:=aB.1 p1;have m1:=(eg.1 p3).2;dsimp only at g1 m1
 omega
theorem good_n {G:Int} {x:aq} {ms:List ai} {ds:List aH} (h:cG G (x,ms) ds):-64<=x.n/\x.n<=64:=by
 obtain ⟨p1,_⟩:=bD.1 h.1;have g1:=aB.1 p1;dsimp only at g1
 omega
theorem vj {G:Int} {x:aq} {ms:List ai} {ds:List aH} (h:cG G (x,ms) ds):∀(k:Nat) (d:ai),ms[k]?=some d->6<d.1.length:=fun k d hd=>by
 obtain ⟨p1,_,p3,_⟩:=bD.1 h.1;have g1:=aB.1 p1;have m1:=((eg.1 p3).1 k d hd).2.1;dsimp only at g1 m1
 omega
theorem S6.tail {w W:World} {g R B lb cb:Nat} {a:Option Addr} {zs:List Int} {x:aq} {ms:List ai} {ds:List aH} {vm vd:Option Addr} {cvm cvd:Nat} {fm fd:List Nat} (h:S6 w W g R B lb cb a zs x ms ds vm vd cvm cvd fm fd):T6 w W g R B lb cb a zs x ms ds vm vd cvm cvd fd:=by
 obtain ⟨h1,h2,h3,h4,h5,h6,h7,h8,h9,h10,h11,h12⟩:=h;exact ⟨h1,h2,h3,h4,h5.toIn (fun b hb=>⟨(h7 b hb).2.1,h5.lt b hb⟩),h6,fun b hb=>(h8 b hb).1,h9,h10,h11,by omega⟩
theorem S6.below {w W:World} {g R B lb cb:Nat} {a:Option Addr} {zs:List Int} {x:aq} {ms:List ai} {ds:List aH} {vm vd:Option Addr} {cvm cvd:Nat} {fm fd:List Nat} {W':World} (h:S6 w W g R B lb cb a zs x ms ds vm vd cvm cvd fm fd) (hb:Below W.heap.size W W'):S6 w W' g R B lb cb a zs x ms ds vm vd cvm cvd fm fd:=by
 obtain ⟨h1,h2,h3,h4,h5,h6,h7,h8,h9,h10,h11,h12⟩:=h;have z:=h3.lt;exact ⟨h1.lower hb (by omega),h2.trans (hb.mono (by omega)),h3.below hb h3.lt,h4.below hb h4.lt,h5.below hb,h6.below hb,h7,h8,h9,h10,h11,h12⟩
theorem S6.draw {w W:World} {g R B lb cb:Nat} {a:Option Addr} {zs:List Int} {x:aq} {ms:List ai} {ds:List aH} {vm vd:Option Addr} {cvm cvd:Nat} {fm fd:List Nat} {W':World} (h:S6 w W g R B lb cb a zs x ms ds vm vd cvm cvd fm fd) (hd:br W' g a lb cb zs) (hb:But g (g+1) W W'):S6 w W' g R B lb cb a zs x ms ds vm vd cvm cvd fm fd:=by
 obtain ⟨h1,h2,h3,h4,h5,h6,h7,h8,h9,h10,h11,h12⟩:=h;have z:=h3.lt;exact ⟨hd,h2.trans (hb.below (Nat.le_refl _) (by omega)),h3.kept (hb.block _ h3.lt (by omega)),h4.kept (hb.block _ h4.lt (by omega)),h5.but hb (fun b hb'=>by have:=(h7 b hb').2.1;omega),h6.but hb (fun b hb'=>by have:=(h8 b hb').1;omega),h7,h8,h9,h10,h11,h12⟩
theorem S6.set {w W:World} {g R B lb cb:Nat} {a:Option Addr} {zs:List Int} {x:aq} {ms:List ai} {ds:List aH} {vm vd:Option Addr} {cvm cvd:Nat} {fm fd:List Nat} {x':aq} (h:S6 w W g R B lb cb a zs x ms ds vm vd cvm cvd fm fd) (hn:-64<=x'.n/\x'.n<=64) (j:Nat) (v:Value) (hx:(bH x (.slice vm ms.length cvm) (.slice vd ds.length cvd)).setIfInBounds j v=bH x' (.slice vm ms.length cvm) (.slice vd ds.length cvd)):S6 w (W.setCell ⟨B,j,none⟩ v) g R B lb cb a zs x' ms ds vm vd cvm cvd fm fd:=by
 obtain ⟨h1,h2,h3,h4,h5,h6,h7,h8,h9,h10,h11,h12⟩:=h;have z:=h3.lt;have hbt:But B (B+1) W (W.setCell ⟨B,j,none⟩ v):=But.setCell (Nat.le_refl _) (Nat.lt_succ_self _) v;exact ⟨h1.lower (hbt.below (B:=g+1) (by omega) (by omega)) (by omega),h2.trans (hbt.below (by omega) (by omega)),h3.kept (hbt.block _ h3.lt (by omega)),hx▸h4.set j v,h5.setCell (fun hm=>(h7 B hm).2.2 rfl) v,h6.setCell (fun hm=>(h8 B hm).2 rfl) v,h7,h8,h9,h10,h11,h12.1,hn⟩
theorem S6.nb {w W:World} {g R B lb cb:Nat} {a:Option Addr} {zs:List Int} {x:aq} {ms:List ai} {ds:List aH} {vm vd:Option Addr} {cvm cvd:Nat} {fm fd:List Nat} (h:S6 w W g R B lb cb a zs x ms ds vm vd cvm cvd fm fd):-64<=x.n/\x.n<=64:=h.2.2.2.2.2.2.2.2.2.2.2.2
theorem T6.out {w W:World} {g R B lb cb:Nat} {a:Option Addr} {zs:List Int} {x:aq} {ms:List ai} {ds:List aH} {vm vd:Option Addr} {cvm cvd:Nat} {fd:List Nat} (h:T6 w W g R B lb cb a zs x ms ds vm vd cvm cvd fd):Any6 w g a lb cb zs (.returned (.agg (bH x (.slice vm ms.length cvm) (.slice vd ds.length cvd)))) (fa W R [(0,.int .i64 x.id),(1,.int .i64 x.n),(2,.int .i64 x.s),(3,.slice vm ms.length cvm),(4,.int .i64 x.lost),(5,.int .i64 x.xW),(6,.int .i64 x.seq),(7,.int .i64 x.tail),(8,.int .i64 x.gen),(9,.slice vd ds.length cvd),(10,.int .i64 x.xY),(11,.bool x.down),(12,.bool x.xX)]):=by
 obtain ⟨h1,h2,h3,h4,h5,h6,h7,h8,h9,h10,h11⟩:=h;have z:=h3.lt;have hbt:=dj R [(0,.int .i64 x.id),(1,.int .i64 x.n),(2,.int .i64 x.s),(3,.slice vm ms.length cvm),(4,.int .i64 x.lost),(5,.int .i64 x.xW),(6,.int .i64 x.seq),(7,.int .i64 x.tail),(8,.int .i64 x.gen),(9,.slice vd ds.length cvd),(10,.int .i64 x.xY),(11,.bool x.down),(12,.bool x.xX)] W;exact ⟨x,ms,ds,vm,vd,cvm,cvd,fd,rfl,(h5.but hbt (.inr (Nat.le_refl _))).widen (by omega) hbt.size,h6.but hbt (fun b hb=>by have:=h7 b hb;omega),fun b hb=>by have:=h7 b hb;omega,h11,h1.lower (hbt.below (B:=g+1) (by omega) (by omega)) (by omega),h2.trans (hbt.below (by omega) (by omega))⟩
theorem uj {t:Ty} {E:TypeId} {w:World} {g n cap:Nat} {d:List t.D} {fp:List Nat} (h:(ce t E).Mine w [.slice (some ⟨g,0,none⟩) n cap] d fp):g∈fp:=by
 obtain ⟨h,_⟩:=h;rcases h with ⟨h1,_⟩|⟨b,cap',cur,fps,h1,_,_,_,_,hf,_⟩
 . simp at h1
 simp at h1
 rw [hf,h1.1];simp
theorem sC (l:List Nat) (k y:Nat):du (l.set k y)<=du l+y:=by
 induction l generalizing k with
 | nil=>simp [du]
 | cons h t ih=>
  cases k with
  | zero=>simp only [List.set_cons_zero,du,List.foldr_cons];omega
  | succ k=>simp only [List.set_cons_succ,du,List.foldr_cons] at ih ⊢;have:=ih k;omega
theorem oK (ms:List ai) (k:Nat) (d:ai):aQ (ms.set k d)<=aQ ms+aM d:=by
 unfold aQ;rw [List.map_set,List.length_set];have:=sC (ms.map aM) k (aM d);omega
theorem sD (ss:List (List Int)) (k:Nat) (d:List Int):cA (ss.set k d)<=cA ss+d.length:=by
 unfold cA;rw [List.map_set,List.length_set];have:=sC (ss.map List.length) k d.length;omega
theorem S6.put {w W:World} {g R B lb cb:Nat} {a:Option Addr} {zs:List Int} {x:aq} {ms:List ai} {ds:List aH} {vd:Option Addr} {cvm cvd:Nat} {fm fd:List Nat} {gm k l:Nat} {v0 v1 v2 v3:Value} {d:ai} (h:S6 w W g R B lb cb a zs x ms ds (some ⟨gm,0,none⟩) vd cvm cvd fm fd) (hk:k<ms.length) (hx:(cu 119).In W l W.heap.size [v0,v1,v2,v3] d) (hl:B<l) (hlm:∀b∈fm,b<l) (hwt:aM d<=2000) (hgm:gm∈fm):
 (∀q,q<4->∃old,W.cell? ⟨gm,k*4+q,none⟩=some old)/\(∀q,W.frozen? ⟨gm,q,none⟩=false)/\T6 w (gL W gm (k*4) v0 v1 v2 v3) g R B lb cb a zs x (ms.set k d) ds (some ⟨gm,0,none⟩) vd cvm cvd fd:=by
 obtain ⟨h1,h2,h3,h4,h5,h6,h7,h8,h9,h10,h11,h12⟩:=h;have z:=h3.lt;obtain ⟨c0,c1,c2⟩:=vW (lo:=R+1) (hi:=W.heap.size) h5 hk hx (.inl (hlm gm hgm)) (fun b hb=>⟨(h7 b hb).2.1,h5.lt b hb⟩) (by omega) (Nat.le_refl _);have ht:=mj W gm (k*4) v0 v1 v2 v3;have g1:=(h7 gm hgm).2.1;have hbl:Below (g+1) W (gL W gm (k*4) v0 v1 v2 v3):=ht.belowN (by omega) (fun b hb=>by simp at hb;omega);refine ⟨c0,c1,h1.lower hbl (by omega),h2.trans (hbl.mono (by omega)),h3.turned ht (by simp;omega),?_,?_,h6.kept ht (fun b hb hn=>by simp at hn;exact (h7 gm hgm).1 (hn▸hb)),fun b hb=>(h8 b hb).1,h9,h10,h11,?_⟩
 . rw [List.length_set]
   exact h4.turned ht (by simp;exact fun e=>(h7 gm hgm).2.2 e.symm)
 . rw [List.length_set,fI]
   exact c2
 have:=oK ms k d;unfold bh at h12 ⊢;omega
theorem S6.ent {w W:World} {g R B lb cb:Nat} {a:Option Addr} {zs:List Int} {x:aq} {ms:List ai} {ds:List aH} {vm vd:Option Addr} {cvm cvd:Nat} {fm fd:List Nat} {W1 W2:World} {gq cap N:Nat} {y:aH} {fp:List Nat} (h:S6 w W g R B lb cb a zs x ms ds vm vd cvm cvd fm fd) (hb:Below W.heap.size W W1) (hM:(aW 93).Mine W2 [.slice (some ⟨gq,0,none⟩) (ds.length+1) cap] (ds++[y]) fp) (hf:∀b∈fp,b∈fd∨N<=b) (hN:B<N) (ht:aA fd W1 W2) (hy:y.2.length<=13):
 T6 w (W2.setCell ⟨B,9,none⟩ (.slice (some ⟨gq,0,none⟩) (ds.length+1) cap)) g R B lb cb a zs x ms (ds++[y]) vm (some ⟨gq,0,none⟩) cvm cap fp:=by
 obtain ⟨h1,h2,h3,h4,h5,h6,h7,h8,h9,h10,h11,h12⟩:=h.below hb;have z:=h3.lt;have z2:=ht.size;have hBf:B∉fp:=fun hm=>by
  rcases hf B hm with h|h
  . exact (h8 B h).2 rfl
  omega
 have hbl:Below (g+1) W1 W2:=ht.belowN (by omega) (fun b hb=>by have:=(h8 b hb).1;omega);have k3:=h3.turned ht (fun hm=>by have:=(h8 R hm).1;omega);have k4:=h4.turned ht (fun hm=>(h8 B hm).2 rfl);have k5:=h5.kept ht (fun b hb=>(h7 b hb).1);have hbt:But B (B+1) W2 (W2.setCell ⟨B,9,none⟩ (.slice (some ⟨gq,0,none⟩) (ds.length+1) cap)):=But.setCell (Nat.le_refl _) (Nat.lt_succ_self _) _;have k5':=k5.setCell (j:=9) (fun hm=>(h7 B hm).2.2 rfl) (.slice (some ⟨gq,0,none⟩) (ds.length+1) cap);refine ⟨(h1.lower hbl (by omega)).lower (hbt.below (B:=g+1) (by omega) (by omega)) (by omega),(h2.trans (hbl.mono (by omega))).trans (hbt.below (by omega) (by omega)),k3.kept (hbt.block _ k3.lt (by omega)),?_,k5'.toIn (fun b hb=>⟨(h7 b hb).2.1,k5'.lt b hb⟩),?_,fun b hb=>?_,h9,h10,h11,?_⟩
 . have:=k4.set 9 (.slice (some ⟨gq,0,none⟩) (ds.length+1) cap)
   rw [List.length_append];exact this
 . rw [List.length_append]
   exact hM.setCell (j:=9) hBf _
 . rcases hf b hb with h|h
   . exact (h8 b h).1
   omega
 unfold bh at h12 ⊢;rw [kV];have:aX [y]=1+y.2.length:=by simp [aX,du]
 omega
theorem S6.sec {w W:World} {g R B lb cb:Nat} {a:Option Addr} {zs:List Int} {x:aq} {ms:List ai} {ds:List aH} {vd:Option Addr} {cvm cvd:Nat} {fm fd:List Nat} {gm k q l:Nat} {v:Value} {z:List Int} {d:ai} (h:S6 w W g R B lb cb a zs x ms ds (some ⟨gm,0,none⟩) vd cvm cvd fm fd) (hd:ms[k]?=some d) (hq:q<d.1.length) (hx:aD.In W l W.heap.size [v] z) (hl:B<l) (hlm:∀b∈fm,b<l) (hz:z.length<=13):
 ∃gs c0,W.cell? ⟨gm,k*4,none⟩=some (.slice (some ⟨gs,0,none⟩) d.1.length c0)/\gs∈fm/\(∃old,W.cell? ⟨gs,q,none⟩=some old)/\W.frozen? ⟨gs,q,none⟩=false/\T6 w (W.setCell ⟨gs,q,none⟩ v) g R B lb cb a zs x (ms.set k (d.1.set q z,d.2)) ds (some ⟨gm,0,none⟩) vd cvm cvd fd:=by
 obtain ⟨ss,cs,f,bs⟩:=d;obtain ⟨h1,h2,h3,h4,h5,h6,h7,h8,h9,h10,h11,h12⟩:=h;have zz:=h3.lt;obtain ⟨gs,c0,e1,e2,e3,e4,e5,e6⟩:=vY (lo:=R+1) (hi:=W.heap.size) h5 hd hq hx (fun b hb=>.inl (hlm b hb)) (fun b hb=>⟨(h7 b hb).2.1,h5.lt b hb⟩) (by omega) (Nat.le_refl _);have g1:=(h7 gs e2).2.1;have hbt:But gs (gs+1) W (W.setCell ⟨gs,q,none⟩ v):=But.setCell (Nat.le_refl _) (Nat.lt_succ_self _) _;refine ⟨gs,c0,e1,e2,e4,e5,h1.lower (hbt.below (B:=g+1) (by omega) (by omega)) (by omega),h2.trans (hbt.below (by omega) (by omega)),h3.kept (hbt.block _ h3.lt (by omega)),?_,?_,h6.setCell (fun hm=>(h7 gs e2).1 hm) v,fun b hb=>(h8 b hb).1,h9,h10,h11,?_⟩
 . rw [List.length_set]
   exact h4.kept (hbt.block _ h4.lt (by have:=(h7 gs e2).2.2;omega))
 . rw [List.length_set]
   simpa using e6
 have w1:=oK ms k (ss.set q z,cs,f,bs);have w2:=sD ss q z;have w3:=ei hd;unfold aM at w1 w3;unfold bh at h12 ⊢;dsimp only at w1 w3 ⊢
 omega
theorem oM (w:World) (a:Option Addr) (lb cb:Nat) (most:Int) (hl:lb<=2097152) (h3:3<=most):
 Calls Tryz.prog 28 #[.slice a lb cb,.int .i64 most] w fun e w'=>∃n:Int,e=.returned (.int .i64 n)/\0<=n/\n<=most/\w'=w:=by
 have hs:IntKind.i64.wrap (3+(lb:Int) / 12)=3+(lb:Int) / 12:=IntWalk.i64_in _ (by omega);go_enter Tryz.func28,Tryz.ntmps28
 by_cases hc:most<3+(lb:Int) / 12
 . go_wp2
   go_ret
   exact ⟨_,rfl,by omega,by omega,rfl⟩
 go_wp2
 go_ret
 exact ⟨_,rfl,by omega,by omega,rfl⟩
end Go.Proofs.YtgjomldcnjjpaaaGreat

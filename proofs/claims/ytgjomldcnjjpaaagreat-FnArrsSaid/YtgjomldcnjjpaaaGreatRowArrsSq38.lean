/-
 The walk of the specification's l2Any: a drawn disk, bent or not; it reads as some data that weighs little, through blocks that are new. Condition: at most 2097152 bytes to draw from.
-/
import Derived.Test.YtgjomldcnjjpaaaGreatRowArrsSq35
import Derived.Test.YtgjomldcnjjpaaaGreatRowArrsSq13
import Derived.Test.YtgjomldcnjjpaaaGreatRowArrsSq14
import Derived.Test.YtgjomldcnjjpaaaGreatRowArrsSq5
import Derived.Deep.Cut

set_option maxRecDepth 100000
set_option maxHeartbeats 8000000
set_option linter.unusedSimpArgs false

namespace Go.Proofs.YtgjomldcnjjpaaaGreat
open Go.RowKit

theorem eI {w:World} {g lb cb:Nat} {a:Option Addr} {zs:List Int} (h:br w g a lb cb zs):br w.drew g a lb cb zs:=⟨h.cur,h.len,h.reads.draw,h.bytes,h.few,h.ahead⟩
theorem mL {ss:List (List Int)} {cs:List (Int×List Int)} {f:Bool} {bs:List Int} {A B C:Nat} (h1:ss.length<=A) (h2:∀x∈ss,x.length<=B) (h3:cs.length<=A) (h4:∀x∈cs,x.2.length<=B) (h5:bs.length<=C):aM (ss,cs,f,bs)<=2*(A+A*B)+C:=by
 have key:∀(l:List Nat),(∀x∈l,x<=B)->du l<=l.length*B:=by
  intro l;induction l with
  | nil=>intro _;simp [du]
  | cons x l ih=>
   intro h;have e1:=ih (fun y hy=>h y (List.mem_cons_of_mem _ hy));have e2:=h x List.mem_cons_self;simp only [du,List.foldr_cons,List.length_cons] at *
   rw [Nat.add_mul];omega
 have k1:=key (ss.map List.length) (fun x hx=>by obtain ⟨y,hy,rfl⟩:=List.mem_map.1 hx;exact h2 y hy);have k2:=key (cs.map fun x=>x.2.length) (fun x hx=>by obtain ⟨y,hy,rfl⟩:=List.mem_map.1 hx;exact h4 y hy);rw [List.length_map] at k1 k2;have e1:ss.length*B<=A*B:=Nat.mul_le_mul_right _ h1;have e2:cs.length*B<=A*B:=Nat.mul_le_mul_right _ h3;unfold aM cA aX;dsimp only
 omega
def wX (g lb cb:Nat) (a:Option Addr) (zs:List Int) (w:World) (e:Ending) (w':World):Prop:=
 ∃v0 v1 v3 ss cs f bs,e=.returned (.agg #[v0,v1,.bool f,v3])/\aU.In w' w.heap.size w'.heap.size [v0] ss/\(aW 119).In w' w.heap.size w'.heap.size [v1] cs/\aD.In w' w.heap.size w'.heap.size [v3] bs/\aM (ss,cs,f,bs)<=2000/\br w' g a lb cb zs/\But g (g+1) w w'
theorem vk {w:World} {g lb cb:Nat} {a:Option Addr} {zs:List Int} (h:br w g a lb cb zs):
 Calls Tryz.prog 63 #[.pointer (some ⟨g,0,none⟩)] w fun e w'=>wX g lb cb a zs w e w':=by
 have hA:Below w.heap.size w (w.alloc (.cells #[.slice none 0 0,.slice none 0 0,.bool false,.slice none 0 0] 55)):=(Below.refl _ _).alloc (Nat.le_refl _) _;have X:=Box.new w 55 #[.slice none 0 0,.slice none 0 0,.bool false,.slice none 0 0];have D0:=h.alloc (.cells #[.slice none 0 0,.slice none 0 0,.bool false,.slice none 0 0] 55);have hsz:(w.alloc (.cells #[.slice none 0 0,.slice none 0 0,.bool false,.slice none 0 0] 55)).heap.size=w.heap.size+1:=by simp
 have hg:=h.lt;go_enter Tryz.func63,Tryz.ntmps63
 go_wp2_with fail
 refine (tJ D0).mono ?_
 rintro e w1 ⟨v0,v1,v3,ss,cs,bs,rfl,o1,hM,hc7,hb7,hs3,hs7,D1,b1⟩;obtain ⟨m0,l0,c0,m1,l1,c1,m3,l3,c3,hv0,hv1,hv3⟩:=cU o1;subst hv0 hv1 hv3;obtain ⟨hS12,hC12⟩:=io hM;have X1:Box w1 w.heap.size 55 _:=X.kept (b1.block _ (by omega) (by omega));have B1:=(But.of_below (lo:=g) (hi:=g+1) hA).trans b1;have z1:=b1.size;rw [hsz] at o1 z1;clear X b1 hA D0 hsz hM;have Y2:=Box.new w1 55 #[.slice m0 l0 c0,.slice m1 l1 c1,.bool false,.slice m3 l3 c3];have X2:=X1.alloc (.cells #[.slice m0 l0 c0,.slice m1 l1 c1,.bool false,.slice m3 l3 c3] 55);have D2:=D1.alloc (.cells #[.slice m0 l0 c0,.slice m1 l1 c1,.bool false,.slice m3 l3 c3] 55);have B2:=B1.alloc (.cells #[.slice m0 l0 c0,.slice m1 l1 c1,.bool false,.slice m3 l3 c3] 55);have o2:=o1.below ((Below.refl _ _).alloc (Nat.le_refl _) (.cells #[.slice m0 l0 c0,.slice m1 l1 c1,.bool false,.slice m3 l3 c3] 55));have z2:=Y2.lt;clear X1 D1 B1 o1;go_wp2_with fail
 generalize w1.alloc (.cells #[.slice m0 l0 c0,.slice m1 l1 c1,.bool false,.slice m3 l3 c3] 55)=W2 at Y2 X2 D2 B2 z2 o2 ⊢;generalize w1.heap.size=BM at Y2 X2 D2 B2 z2 o2 z1 ⊢;refine (bX D2 14 (by omega) (by omega)).mono ?_
 rintro e w3 ⟨x,rfl,hx0,hx1,D3,b3⟩;have Y3:Box w3 BM 55 _:=Y2.kept (b3.block _ (by omega) (by omega));have X3:Box w3 w.heap.size 55 _:=X2.kept (b3.block _ (by omega) (by omega));have B3:=B2.trans b3;have o3:=o2.but b3 (.inr (by omega));have z3:=Y3.lt;clear Y2 X2 D2 B2 b3 o2 z2;obtain ⟨f0,f1,f3,M0,M1,M3,r0,r1,r3⟩:=pZ o3
 -- the end: what is there is handed out
 have key:∀(u:World) (s0 s1 s3:Value) (f:Bool) (ss':List (List Int)) (cs':List (Int×List Int)) (bs':List Int),Box u w.heap.size 55 #[.slice none 0 0,.slice none 0 0,.bool false,.slice none 0 0]->aU.In u (w.heap.size+1) u.heap.size [s0] ss'->(aW 119).In u (w.heap.size+1) u.heap.size [s1] cs'->aD.In u (w.heap.size+1) u.heap.size [s3] bs'->aM (ss',cs',f,bs')<=2000->br u g a lb cb zs->But g (g+1) w u ->
  wX g lb cb a zs w (.returned (.agg #[s0,s1,.bool f,s3])) ((((u.setCell ⟨w.heap.size,0,none⟩ (s0)).setCell ⟨w.heap.size,1,none⟩ (s1)).setCell ⟨w.heap.size,2,none⟩ (.bool f)).setCell ⟨w.heap.size,3,none⟩ (s3)):=by
  intro u s0 s1 s3 f ss' cs' bs' _ i0 i1 i3 hw D B;have hbt:But w.heap.size (w.heap.size+1) u ((((u.setCell ⟨w.heap.size,0,none⟩ (s0)).setCell ⟨w.heap.size,1,none⟩ (s1)).setCell ⟨w.heap.size,2,none⟩ (.bool f)).setCell ⟨w.heap.size,3,none⟩ (s3)):=(((But.setCell (by omega) (by omega) _).trans (But.setCell (by omega) (by omega) _)).trans (But.setCell (by omega) (by omega) _)).trans (But.setCell (by omega) (by omega) _);have hz:=hbt.size;exact ⟨s0,s1,s3,ss',cs',f,bs',rfl,(i0.but hbt (.inr (Nat.le_refl _))).widen (by omega) hz,(i1.but hbt (.inr (Nat.le_refl _))).widen (by omega) hz,(i3.but hbt (.inr (Nat.le_refl _))).widen (by omega) hz,hw,D.lower (hbt.below (Nat.le_refl _) B.size) hg,B.thenBelow (hbt.below (Nat.le_refl _) B.size)⟩
 have fin:∀(u:World) (s0 s1 s3:Value) (f:Bool),Box u w.heap.size 55 #[.slice none 0 0,.slice none 0 0,.bool false,.slice none 0 0]->Box ((((u.setCell ⟨w.heap.size,0,none⟩ (s0)).setCell ⟨w.heap.size,1,none⟩ (s1)).setCell ⟨w.heap.size,2,none⟩ (.bool f)).setCell ⟨w.heap.size,3,none⟩ (s3)) w.heap.size 55 #[s0,s1,.bool f,s3]:=fun u s0 s1 s3 f x=>(((x.set 0 s0).set 1 s1).set 2 (.bool f)).set 3 s3;by_cases hn0:x=0
 . subst hn0
   have hl0:=(ag M0.rd).1;obtain ⟨g0,hg0⟩:∃g0,m0=some ⟨g0,0,none⟩:=by
    rcases qu M0 with h0|h0
    . omega
    exact h0
   subst hg0;have gm0:g0∈f0:=by
    rcases M0.1 with ⟨h1,_⟩|⟨b,cap',cur,fps,h1,_,_,_,_,h6,_⟩
    . simp at h1
    simp only [List.cons.injEq,Value.slice.injEq,Option.some.injEq,Addr.mk.injEq,and_true] at h1
    obtain ⟨rfl,rfl,rfl⟩:=h1;rw [h6];exact List.mem_cons_self
   have rg0:=r0 g0 gm0;have hne:Hid (BM≠g0):=by unfold Hid;omega
   have i1:(0:Int)<(l0:Int):=by omega
   have i2:0<l0:=by omega
   clear hl0;have Y3c:=aa Y3;have HM0:=aa M0;have HM1:=aa M1;have HM3:=aa M3;have HX3:=aa X3;have HD3:=aa D3;have HB3:=aa B3;have yc:w3.cell? ⟨BM,0,none⟩=some (.slice (some ⟨g0,0,none⟩) l0 c0):=Y3.cell 0;have yd:w3.drew.cell? ⟨BM,0,none⟩=some (.slice (some ⟨g0,0,none⟩) l0 c0):=yc;have hSc:∀u:World,Box u BM 55 #[.slice (some ⟨g0,0,none⟩) l0 c0,.slice m1 l1 c1,.bool false,.slice m3 l3 c3]->u.cell? ⟨BM,0,none⟩=some (.slice (some ⟨g0,0,none⟩) l0 c0):=fun u b=>b.cell 0;clear Y3 M0 M1 M3 X3 D3 B3 o3;go_wp2_with fail
   go_region_held3 (fun u=>u.cell? ⟨BM,0,none⟩=some (.slice (some ⟨g0,0,none⟩) l0 c0))
    (first|(with_reducible exact hSc _ (Y4.out.other hne.out 0 _))|(with_reducible exact hSc _ Y4.out)|(with_reducible exact yd)|(with_reducible exact yc)|go_keep)
    (first
     | (go_at_call 64;refine (lV (eI HD3.out)).mono ?_;rintro e w4 ⟨v4,xs,rfl,hx13,ho4,D4,b4⟩;have b4':But g (g+1) w3 w4:=(by exact (But.refl g (g+1) w3).drewN 1 |>.trans b4);have Y4:=aa (Box.kept Y3c.out (b4'.block _ (by omega) (by omega)));have X4:=aa (Box.kept HX3.out (b4'.block _ (by omega) (by omega)));have M04:=HM0.out.but b4' (fun b hb=>by have:=r0 b hb;omega);have M14:=aa (HM1.out.but b4' (fun b hb=>by have:=r1 b hb;omega));have M34:=aa (HM3.out.but b4' (fun b hb=>by have:=r3 b hb;omega));obtain ⟨av,cv,hv4,_,_⟩:=ho4.shape;obtain ⟨fx,Mx,rx⟩:=jq ho4;have lx:∀b∈fx,w3.heap.size<=b:=(fun b hb=>(World.ownsRow.lt ho4 b (rx b hb).1).1);subst hv4;obtain ⟨⟨old,hold⟩,hfz,_,fp',MS,rS⟩:=im rfl M04 i2 Mx (fun b hb hb'=>by have:=lx b hb;have:=r0 b hb';omega);have HMS:=aa MS;have HD4:=aa D4;have HB4:=aa (HB3.out.trans b4');have z4:=b4'.size;have HRX:=aa rx;have HLX:=aa lx;have HRS:=aa rS;clear MS D4 b4 b4' Mx rx lx rS M04 ho4))
   have hbt:But g0 (g0+1) w4 (w4.setCell ⟨g0,0,none⟩ (.slice av xs.length cv)):=But.setCell (by omega) (by omega) _;have XE:Box (w4.setCell ⟨g0,0,none⟩ (.slice av xs.length cv)) w.heap.size 55 _:=X4.out.kept (hbt.block _ (by have:=X4.out.lt;omega) (by omega));have YE:Box (w4.setCell ⟨g0,0,none⟩ (.slice av xs.length cv)) BM 55 _:=Y4.out.other hne.out 0 _;have DE:=HD4.out.lower (hbt.below (Nat.le_refl _) (by omega)) (by omega);have BE:=HB4.out.thenBelow (hbt.below (by omega) (by omega));have ze:=hbt.size;have HI0:=aa (HMS.out.toIn (lo:=w.heap.size+1) (hi:=(w4.setCell ⟨g0,0,none⟩ (.slice av xs.length cv)).heap.size) (fun b hb=>by
    rcases HRS.out b hb with h1|h1
    . have:=r0 b h1
      omega
    have h2:=HRX.out b h1;have h3:=HLX.out b h1;omega))
   have HI1:=aa ((M14.out.kept (fq:=[g0]) (aA.setCell (g:=g0) (j:=0) (.slice av xs.length cv) (by simp)) (fun b hb hb'=>by simp at hb';subst hb';exact (r1 _ hb).2.2.1 gm0)).toIn (lo:=w.heap.size+1) (hi:=(w4.setCell ⟨g0,0,none⟩ (.slice av xs.length cv)).heap.size) (fun b hb=>by have:=r1 b hb;omega));have HI3:=aa ((M34.out.kept (fq:=[g0]) (aA.setCell (g:=g0) (j:=0) (.slice av xs.length cv) (by simp)) (fun b hb hb'=>by simp at hb';subst hb';exact (r3 _ hb).2.2.1 gm0)).toIn (lo:=w.heap.size+1) (hi:=(w4.setCell ⟨g0,0,none⟩ (.slice av xs.length cv)).heap.size) (fun b hb=>by have:=r3 b hb;omega));have HW:Hid (aM (ss.set 0 xs,cs,false,bs)<=2000):=Nat.le_trans (mL (A:=7) (B:=13) (C:=7) (by rw [List.length_set];exact hs7) (fun x hx=>by
    rcases List.mem_or_eq_of_mem_set hx with h|h
    . exact Nat.le_trans (hS12 x h) (by omega)
    rw [h];exact hx13) hc7 (fun x hx=>Nat.le_trans (hC12 x hx) (by omega)) hb7) (by decide)
   clear hbt hold hfz;obtain ⟨y0,y1,y2,y3⟩:=YE.cells4;obtain ⟨x0,x1,x2,x3⟩:=XE.cells4;have fz:=XE.frozen;obtain ⟨p0,p1,p2,p3⟩:=(fin _ (.slice (some ⟨g0,0,none⟩) l0 c0) (.slice m1 l1 c1) (.slice m3 l3 c3) false XE).cells4;have K:=aa (key _ (.slice (some ⟨g0,0,none⟩) l0 c0) (.slice m1 l1 c1) (.slice m3 l3 c3) false _ cs bs XE HI0.out HI1.out HI3.out HW.out DE BE);clear key fin XE DE BE;go_wp2
   refine bodyPost_ret (v:=.agg #[.slice (some ⟨g0,0,none⟩) l0 c0,.slice m1 l1 c1,.bool false,.slice m3 l3 c3]) (by simp [results,Tryz.results63,go_sem,p0,p1,p2,p3]) rfl ?_
   exact K.out
 by_cases hn1:x=1
 . subst hn1
   have n0:((1:Int)==0)=false:=by decide
   obtain ⟨i1,hi1,hz10,hz11,hz12⟩:=info_parts Tryz.infoWr;have L1:Hid (cs.length+1<=maxLen):=by unfold Hid maxLen;omega
   have L2:Hid ((cs.length+1)*32<=140737488355328):=by unfold Hid;omega
   have yd:w3.drew.cell? ⟨BM,1,none⟩=some (.slice m1 l1 c1):=Y3.cell 1;have ye:(w3.alloc (.cells #[.int .i64 (-1),.int .i64 0,.int .i64 9] 3)).drew.cell? ⟨BM,1,none⟩=some (.slice m1 l1 c1):=(Y3.alloc (.cells #[.int .i64 (-1),.int .i64 0,.int .i64 9] 3)).cell 1;have HR:Hid (aJ .i64 (w3.alloc (.cells #[.int .i64 (-1),.int .i64 0,.int .i64 9] 3)).drew (some ⟨w3.heap.size,0,none⟩) [-1,0,9]):=aJ.new _ _ _ _ _ rfl;have HDA:=aa (eI (D3.alloc (.cells #[.int .i64 (-1),.int .i64 0,.int .i64 9] 3)));have Y3c:=aa Y3;have HM0:=aa M0;have HM1:=aa M1;have HM3:=aa M3;have HX3:=aa X3;have HB3:=aa B3;have hgw:=D3.lt;clear Y3 M0 M1 M3 X3 D3 B3 o3;go_wp2_with fail
   refine ao.start (S:=fun u=>u.cell? ⟨BM,1,none⟩=some (.slice m1 l1 c1)) (k:=11) (by kernel_rfl) ?_
   refine ao.take (i:=0) (v:=?_) rfl (by kernel_rfl) (by kernel_rfl) (by kernel_rfl) (by kernel_rfl) (fun _ _ _ h=>h) (Or.inl ⟨by rfl,?_⟩) yd ?_
   rotate_left 1
   . (intro w hSw;(try dsimp only at hSw);go_split_ands;go_simp;first|done|with_reducible rfl)
   simp only [Act.put,List.setIfInBounds_toArray,List.set_cons_zero,List.set_cons_succ]
   refine ao.take (i:=1) (v:=?_) rfl (by kernel_rfl) (by kernel_rfl) (by kernel_rfl) (by kernel_rfl) (fun _ _ _ h=>h) (Or.inl ⟨by rfl,?_⟩) yd ?_
   rotate_left 1
   . (intro w hSw;(try dsimp only at hSw);go_split_ands;go_simp;first|done|with_reducible rfl)
   simp only [Act.put,List.setIfInBounds_toArray,List.set_cons_zero,List.set_cons_succ]
   refine ao.take (i:=2) (v:=?_) rfl (by kernel_rfl) (by kernel_rfl) (by kernel_rfl) (by kernel_rfl) (fun _ _ _ h=>h) (Or.inl ⟨by rfl,?_⟩) yd ?_
   rotate_left 1
   . (intro w hSw;(try dsimp only at hSw);go_split_ands;go_simp;first|done|with_reducible rfl)
   simp only [Act.put,List.setIfInBounds_toArray,List.set_cons_zero,List.set_cons_succ]
   refine ao.take (i:=5) (v:=?_) rfl (by kernel_rfl) (by kernel_rfl) (by kernel_rfl) (by kernel_rfl) (fun _ _ _ h=>h) (Or.inl ⟨by rfl,?_⟩) yd ?_
   rotate_left 1
   . (intro w hSw;(try dsimp only at hSw);go_split_ands;go_simp;first|done|with_reducible rfl)
   simp only [Act.put,List.setIfInBounds_toArray,List.set_cons_zero,List.set_cons_succ]
   refine ao.one (i:=3) (by kernel_rfl) rfl (fun K hK=>?_)
   go_simp
   refine hK.out _ _ (fun _=>ye) ?_
   clear hK K;refine ao.one (i:=4) (by kernel_rfl) rfl (fun K hK=>?_)
   go_simp
   refine (lg HDA.out _ 3 _ [-1,0,9] rfl HR.out (fun x hx=>by simp at hx;subst hx;exact hgw) (by omega) (by omega)).mono ?_
   rintro e w4 ⟨y,rfl,_,D4,b4⟩;have b4':But g (g+1) w3 w4:=((But.refl g (g+1) w3).alloc (.cells #[.int .i64 (-1),.int .i64 0,.int .i64 9] 3)).trans (by exact ⟨b4.os,b4.tape,b4.output,b4.size,b4.block⟩);have z4:=b4'.size;have Y4:Hid (Box w4 BM 55 #[.slice m0 l0 c0,.slice m1 l1 c1,.bool false,.slice m3 l3 c3]):=Y3c.out.kept (b4'.block _ (by omega) (by omega));have X4:Hid (Box w4 w.heap.size 55 #[.slice none 0 0,.slice none 0 0,.bool false,.slice none 0 0]):=HX3.out.kept (b4'.block _ (by omega) (by omega));have M04:=aa (HM0.out.but b4' (fun b hb=>by have:=r0 b hb;omega));have M14:=aa (HM1.out.but b4' (fun b hb=>by have:=r1 b hb;omega));have M34:=aa (HM3.out.but b4' (fun b hb=>by have:=r3 b hb;omega));have HD4:=aa D4;have HB4:=aa (HB3.out.trans b4');have cc1:w4.cell? ⟨BM,1,none⟩=some (.slice m1 l1 c1):=Y4.out.cell 1;clear b4 b4' D4 HDA HR Y3c HM0 HM1 HM3 HX3 HB3;go_wp2_with fail
   refine hK.out _ _ (fun _=>cc1) ?_
   clear hK K;refine ao.one (i:=6) (by kernel_rfl) rfl (fun K hK=>?_)
   go_simp
   refine (lV HD4.out).mono ?_
   rintro e w5 ⟨v5,xs,rfl,hx13,ho5,D5,b5⟩;have z5:=b5.size;have Y5:Hid (Box w5 BM 55 #[.slice m0 l0 c0,.slice m1 l1 c1,.bool false,.slice m3 l3 c3]):=Y4.out.kept (b5.block _ (by omega) (by omega));have X5:Hid (Box w5 w.heap.size 55 #[.slice none 0 0,.slice none 0 0,.bool false,.slice none 0 0]):=X4.out.kept (b5.block _ (by omega) (by omega));have M05:=aa (M04.out.but b5 (fun b hb=>by have:=r0 b hb;omega));have M15:=aa (M14.out.but b5 (fun b hb=>by have:=r1 b hb;omega));have M35:=aa (M34.out.but b5 (fun b hb=>by have:=r3 b hb;omega));have HD5:=aa D5;have HB5:=aa (HB4.out.trans b5);obtain ⟨av,cv,hv5,_,_⟩:=ho5.shape;obtain ⟨fx,Mx,rx⟩:=jq ho5;have lx:∀b∈fx,w4.heap.size<=b:=fun b hb=>(World.ownsRow.lt ho5 b (rx b hb).1).1;subst hv5;have cc1:w5.cell? ⟨BM,1,none⟩=some (.slice m1 l1 c1):=Y5.out.cell 1;have cc2:(w5.alloc (.cells #[.int .i64 y,.slice av xs.length cv] 119)).cell? ⟨BM,1,none⟩=some (.slice m1 l1 c1):=(Y5.out.alloc _).cell 1;have HMX:=aa Mx;have HRX:=aa rx;have HLX:=aa lx;clear b5 D5 ho5 Mx rx lx M04 M14 M34 HD4 HB4 X4 Y4;go_wp2_with fail
   refine hK.out _ _ (fun _=>cc1) ?_
   clear hK K;refine ao.take (i:=7) (v:=?_) rfl (by kernel_rfl) (by kernel_rfl) (by kernel_rfl) (by kernel_rfl) (fun _ _ _ h=>h) (Or.inl ⟨by rfl,?_⟩) cc1 ?_
   rotate_left 1
   . (intro w hSw;(try dsimp only at hSw);go_split_ands;go_simp;first|done|with_reducible rfl)
   simp only [Act.put,List.setIfInBounds_toArray,List.set_cons_zero,List.set_cons_succ]
   refine ao.one (i:=8) (by kernel_rfl) rfl (fun K hK=>?_)
   go_simp
   refine hK.out _ _ (fun _=>cc2) ?_
   clear hK K;refine ao.one (i:=9) (by kernel_rfl) rfl (fun K hK=>?_)
   refine cS tWr (by rfl) _ _ 53 (by rfl) 119 i1 (.agg #[.int .i64 0,.slice none 0 0]) 32 Tryz.underlying53 hi1 hz10 hz11 hz12 rfl Nat.zero_lt_two (.slice m1 l1 c1) cs f1 (by rfl) ?_ ⟨w5.heap.size,0,none⟩ 1 [.int .i64 y,.slice av xs.length cv] (y,xs) fx (by rfl) ?_ ?_ ?_ ?_ L1.out L2.out ?_
   . exact M15.out.alloc _
   . exact (eE y HMX.out).alloc _
   . intro b hb hb'
     have h1:=r1 b hb;have h2:=HLX.out b hb';omega
   . exact bN _ _ _
   . intro u hu
     simp at hu
     rcases hu with hu|hu<;>(rw [hu];rfl)
   intro gA cap wA fpA n1 n2 n3;have nB:BM∉f1:=fun hm=>by have:=r1 _ hm;omega
   have nR:w.heap.size∉f1:=fun hm=>by have:=r1 _ hm;omega
   have ya:Box wA BM 55 #[.slice m0 l0 c0,.slice m1 l1 c1,.bool false,.slice m3 l3 c3]:=(Y5.out.alloc _).turned n3 nB;have xa:Box wA w.heap.size 55 #[.slice none 0 0,.slice none 0 0,.bool false,.slice none 0 0]:=(X5.out.alloc _).turned n3 nR;have r9:wA.cell? ⟨BM,1,none⟩=some (.slice m1 l1 c1):=ya.cell 1;have fzB:=ya.frozen 1;have zA:=n3.size;have zA':(w5.alloc (.cells #[.int .i64 y,.slice av xs.length cv] 119)).heap.size=w5.heap.size+1:=by simp
   have tA:Below (w.heap.size+1) (w5.alloc (.cells #[.int .i64 y,.slice av xs.length cv] 119)) wA:=n3.below (by omega) (fun b hb=>(r1 b hb).1);have YA:=aa ya;have XA:=aa xa;have N1:=aa n1;have N2:=aa n2;have DA:=aa ((HD5.out.alloc (.cells #[.int .i64 y,.slice av xs.length cv] 119)).lower tA (by omega));have BA:=aa ((HB5.out.alloc (.cells #[.int .i64 y,.slice av xs.length cv] 119)).thenBelow (tA.mono (by omega)));have I0:=aa ((M05.out.alloc (.cells #[.int .i64 y,.slice av xs.length cv] 119)).kept n3 (fun b hb hb'=>(r0 b hb).2.2.1 hb'));have I3:=aa ((M35.out.alloc (.cells #[.int .i64 y,.slice av xs.length cv] 119)).kept n3 (fun b hb hb'=>(r3 b hb).2.2.2 hb'));clear ya xa n1 n2 n3 tA M05 M15 M35 HD5 HB5 X5 Y5;refine hK.out _ _ (fun _=>r9) ?_
   clear hK K;simp only [Act.put,List.setIfInBounds_toArray,List.set_cons_zero,List.set_cons_succ]
   refine ao.take (i:=10) (v:=?_) rfl (by kernel_rfl) (by kernel_rfl) (by kernel_rfl) (by kernel_rfl) (fun _ _ _ h=>h) (Or.inl ⟨by rfl,?_⟩) r9 ?_
   rotate_left 1
   . (intro w hSw;(try dsimp only at hSw);go_split_ands;go_simp;first|done|with_reducible rfl)
   simp only [Act.put,List.setIfInBounds_toArray,List.set_cons_zero,List.set_cons_succ]
   refine ao.one (i:=11) (by kernel_rfl) rfl (fun K hK=>?_)
   go_simp
   refine hK.out _ _ (fun h=>absurd rfl h) ?_
   clear hK K;refine ao.done (by kernel_rfl) ?_ _
   have hbt:But BM (BM+1) wA (wA.setCell ⟨BM,1,none⟩ (.slice (some ⟨gA,0,none⟩) (cs.length+1) cap)):=But.setCell (by omega) (by omega) _;have ze:=hbt.size;have XE:Box (wA.setCell ⟨BM,1,none⟩ (.slice (some ⟨gA,0,none⟩) (cs.length+1) cap)) w.heap.size 55 _:=XA.out.other (by omega) 1 _;have YE:=YA.out.set 1 (.slice (some ⟨gA,0,none⟩) (cs.length+1) cap);have DE:=DA.out.lower (hbt.below (Nat.le_refl _) (by omega)) (by omega);have BE:=BA.out.thenBelow (hbt.below (by omega) (by omega));have HI0:=aa ((I0.out.but hbt (fun b hb=>by have:=r0 b hb;omega)).toIn (lo:=w.heap.size+1) (hi:=(wA.setCell ⟨BM,1,none⟩ (.slice (some ⟨gA,0,none⟩) (cs.length+1) cap)).heap.size) (fun b hb=>by have:=r0 b hb;omega));have HI3:=aa ((I3.out.but hbt (fun b hb=>by have:=r3 b hb;omega)).toIn (lo:=w.heap.size+1) (hi:=(wA.setCell ⟨BM,1,none⟩ (.slice (some ⟨gA,0,none⟩) (cs.length+1) cap)).heap.size) (fun b hb=>by have:=r3 b hb;omega));have hfA:∀b∈fpA,w.heap.size+1<=b/\b<wA.heap.size/\b≠BM:=fun b hb=>by
    have hlt:=N1.out.lt b hb;rcases N2.out b hb with h1|h1|h1
    . have:=r1 b h1
      omega
    . have:=HLX.out b h1
      omega
    omega
   have HI1:=aa ((N1.out.but hbt (fun b hb=>by have:=hfA b hb;omega)).toIn (lo:=w.heap.size+1) (hi:=(wA.setCell ⟨BM,1,none⟩ (.slice (some ⟨gA,0,none⟩) (cs.length+1) cap)).heap.size) (fun b hb=>by have:=hfA b hb;omega));have HW:Hid (aM (ss,cs++[(y,xs)],false,bs)<=2000):=Nat.le_trans (mL (A:=8) (B:=13) (C:=7) (Nat.le_trans hs7 (by omega)) (fun x hx=>Nat.le_trans (hS12 x hx) (by omega)) (by rw [List.length_append];simp;omega) (fun x hx=>by
    rcases List.mem_append.1 hx with h|h
    . exact Nat.le_trans (hC12 x h) (by omega)
    simp at h;rw [h];exact hx13) hb7) (by decide)
   clear hbt hfA fzB r9 yd ye cc1 cc2;obtain ⟨y0,y1,y2,y3⟩:=YE.cells4;obtain ⟨x0,x1,x2,x3⟩:=XE.cells4;have fz:=XE.frozen;obtain ⟨p0,p1,p2,p3⟩:=(fin _ (.slice m0 l0 c0) (.slice (some ⟨gA,0,none⟩) (cs.length+1) cap) (.slice m3 l3 c3) false XE).cells4;have K:=aa (key _ (.slice m0 l0 c0) (.slice (some ⟨gA,0,none⟩) (cs.length+1) cap) (.slice m3 l3 c3) false _ _ _ XE HI0.out HI1.out HI3.out HW.out DE BE);clear key fin XE DE BE;go_wp2
   refine bodyPost_ret (v:=.agg #[.slice m0 l0 c0,.slice (some ⟨gA,0,none⟩) (cs.length+1) cap,.bool false,.slice m3 l3 c3]) (by simp [results,Tryz.results63,go_sem,p0,p1,p2,p3]) rfl ?_
   exact K.out
 by_cases hn2:x=2
 . subst hn2
   have n0:((2:Int)==0)=false:=by decide
   have n1:((2:Int)==1)=false:=by decide
   obtain ⟨i3,hi3,hz30,hz31,hz32⟩:=info_parts Tryz.info3;have L1:Hid (bs.length+1<=maxLen):=by unfold Hid maxLen;omega
   have L2:Hid ((bs.length+1)*8<=140737488355328):=by unfold Hid;omega
   have yd:w3.drew.cell? ⟨BM,3,none⟩=some (.slice m3 l3 c3):=Y3.cell 3;have ye:(w3.alloc (.cells #[.int .i64 (-1),.int .i64 0,.int .i64 9] 3)).drew.cell? ⟨BM,3,none⟩=some (.slice m3 l3 c3):=(Y3.alloc (.cells #[.int .i64 (-1),.int .i64 0,.int .i64 9] 3)).cell 3;have HR:Hid (aJ .i64 (w3.alloc (.cells #[.int .i64 (-1),.int .i64 0,.int .i64 9] 3)).drew (some ⟨w3.heap.size,0,none⟩) [-1,0,9]):=aJ.new _ _ _ _ _ rfl;have HDA:=aa (eI (D3.alloc (.cells #[.int .i64 (-1),.int .i64 0,.int .i64 9] 3)));have Y3c:=aa Y3;have HM0:=aa M0;have HM1:=aa M1;have HM3:=aa M3;have HX3:=aa X3;have HB3:=aa B3;have hgw:=D3.lt;clear Y3 M0 M1 M3 X3 D3 B3 o3;go_wp2_with fail
   refine ao.start (S:=fun u=>u.cell? ⟨BM,3,none⟩=some (.slice m3 l3 c3)) (k:=8) (by kernel_rfl) ?_
   refine ao.take (i:=0) (v:=?_) rfl (by kernel_rfl) (by kernel_rfl) (by kernel_rfl) (by kernel_rfl) (fun _ _ _ h=>h) (Or.inl ⟨by rfl,?_⟩) yd ?_
   rotate_left 1
   . (intro w hSw;(try dsimp only at hSw);go_split_ands;go_simp;first|done|with_reducible rfl)
   simp only [Act.put,List.setIfInBounds_toArray,List.set_cons_zero,List.set_cons_succ]
   refine ao.take (i:=1) (v:=?_) rfl (by kernel_rfl) (by kernel_rfl) (by kernel_rfl) (by kernel_rfl) (fun _ _ _ h=>h) (Or.inl ⟨by rfl,?_⟩) yd ?_
   rotate_left 1
   . (intro w hSw;(try dsimp only at hSw);go_split_ands;go_simp;first|done|with_reducible rfl)
   simp only [Act.put,List.setIfInBounds_toArray,List.set_cons_zero,List.set_cons_succ]
   refine ao.take (i:=2) (v:=?_) rfl (by kernel_rfl) (by kernel_rfl) (by kernel_rfl) (by kernel_rfl) (fun _ _ _ h=>h) (Or.inl ⟨by rfl,?_⟩) yd ?_
   rotate_left 1
   . (intro w hSw;(try dsimp only at hSw);go_split_ands;go_simp;first|done|with_reducible rfl)
   simp only [Act.put,List.setIfInBounds_toArray,List.set_cons_zero,List.set_cons_succ]
   refine ao.one (i:=3) (by kernel_rfl) rfl (fun K hK=>?_)
   go_simp
   refine hK.out _ _ (fun _=>ye) ?_
   clear hK K;refine ao.one (i:=4) (by kernel_rfl) rfl (fun K hK=>?_)
   go_simp
   refine (lg HDA.out _ 3 _ [-1,0,9] rfl HR.out (fun x hx=>by simp at hx;subst hx;exact hgw) (by omega) (by omega)).mono ?_
   rintro e w4 ⟨y,rfl,_,D4,b4⟩;have b4':But g (g+1) w3 w4:=((But.refl g (g+1) w3).alloc (.cells #[.int .i64 (-1),.int .i64 0,.int .i64 9] 3)).trans (by exact ⟨b4.os,b4.tape,b4.output,b4.size,b4.block⟩);have z4:=b4'.size;have Y4:Hid (Box w4 BM 55 #[.slice m0 l0 c0,.slice m1 l1 c1,.bool false,.slice m3 l3 c3]):=Y3c.out.kept (b4'.block _ (by omega) (by omega));have X4:Hid (Box w4 w.heap.size 55 #[.slice none 0 0,.slice none 0 0,.bool false,.slice none 0 0]):=HX3.out.kept (b4'.block _ (by omega) (by omega));have M04:=aa (HM0.out.but b4' (fun b hb=>by have:=r0 b hb;omega));have M14:=aa (HM1.out.but b4' (fun b hb=>by have:=r1 b hb;omega));have M34:=aa (HM3.out.but b4' (fun b hb=>by have:=r3 b hb;omega));have HD4:=aa D4;have HB4:=aa (HB3.out.trans b4');have cc1:w4.cell? ⟨BM,3,none⟩=some (.slice m3 l3 c3):=Y4.out.cell 3;have cc2:(w4.alloc (.cells #[.int .i64 y] 3)).cell? ⟨BM,3,none⟩=some (.slice m3 l3 c3):=(Y4.out.alloc _).cell 3;clear b4 b4' D4 HDA HR Y3c HM0 HM1 HM3 HX3 HB3;go_wp2_with fail
   refine hK.out _ _ (fun _=>cc1) ?_
   clear hK K;refine ao.one (i:=5) (by kernel_rfl) rfl (fun K hK=>?_)
   go_simp
   refine hK.out _ _ (fun _=>cc2) ?_
   clear hK K;refine ao.one (i:=6) (by kernel_rfl) rfl (fun K hK=>?_)
   refine cS eT (by rfl) _ _ 42 (by rfl) 3 i3 (.int .i64 0) 8 Tryz.underlying42 hi3 hz30 hz31 hz32 rfl Nat.zero_lt_one (.slice m3 l3 c3) bs f3 (by rfl) ?_ ⟨w4.heap.size,0,none⟩ 1 [.int .i64 y] y [] (by rfl) ?_ ?_ ?_ ?_ L1.out L2.out ?_
   . exact M34.out.alloc _
   . exact ⟨⟨rfl,rfl⟩,List.nodup_nil⟩
   . intro b hb hb'
     simp at hb'
   . exact bN _ _ _
   . intro u hu
     simp at hu
     rw [hu];rfl
   intro gA cap wA fpA n1 n2 n3;have nB:BM∉f3:=fun hm=>by have:=r3 _ hm;omega
   have nR:w.heap.size∉f3:=fun hm=>by have:=r3 _ hm;omega
   have ya:Box wA BM 55 #[.slice m0 l0 c0,.slice m1 l1 c1,.bool false,.slice m3 l3 c3]:=(Y4.out.alloc _).turned n3 nB;have xa:Box wA w.heap.size 55 #[.slice none 0 0,.slice none 0 0,.bool false,.slice none 0 0]:=(X4.out.alloc _).turned n3 nR;have r9:wA.cell? ⟨BM,3,none⟩=some (.slice m3 l3 c3):=ya.cell 3;have fzB:=ya.frozen 3;have zA:=n3.size;have zA':(w4.alloc (.cells #[.int .i64 y] 3)).heap.size=w4.heap.size+1:=by simp
   have tA:Below (w.heap.size+1) (w4.alloc (.cells #[.int .i64 y] 3)) wA:=n3.below (by omega) (fun b hb=>(r3 b hb).1);have YA:=aa ya;have XA:=aa xa;have N1:=aa n1;have N2:=aa n2;have DA:=aa ((HD4.out.alloc (.cells #[.int .i64 y] 3)).lower tA (by omega));have BA:=aa ((HB4.out.alloc (.cells #[.int .i64 y] 3)).thenBelow (tA.mono (by omega)));have I0:=aa ((M04.out.alloc (.cells #[.int .i64 y] 3)).kept n3 (fun b hb hb'=>(r0 b hb).2.2.2 hb'));have I1:=aa ((M14.out.alloc (.cells #[.int .i64 y] 3)).kept n3 (fun b hb hb'=>(r1 b hb).2.2.2 hb'));clear ya xa n1 n2 n3 tA M04 M14 M34 HD4 HB4 X4 Y4;refine hK.out _ _ (fun _=>r9) ?_
   clear hK K;simp only [Act.put,List.setIfInBounds_toArray,List.set_cons_zero,List.set_cons_succ]
   refine ao.take (i:=7) (v:=?_) rfl (by kernel_rfl) (by kernel_rfl) (by kernel_rfl) (by kernel_rfl) (fun _ _ _ h=>h) (Or.inl ⟨by rfl,?_⟩) r9 ?_
   rotate_left 1
   . (intro w hSw;(try dsimp only at hSw);go_split_ands;go_simp;first|done|with_reducible rfl)
   simp only [Act.put,List.setIfInBounds_toArray,List.set_cons_zero,List.set_cons_succ]
   refine ao.one (i:=8) (by kernel_rfl) rfl (fun K hK=>?_)
   go_simp
   refine hK.out _ _ (fun h=>absurd rfl h) ?_
   clear hK K;refine ao.done (by kernel_rfl) ?_ _
   have hbt:But BM (BM+1) wA (wA.setCell ⟨BM,3,none⟩ (.slice (some ⟨gA,0,none⟩) (bs.length+1) cap)):=But.setCell (by omega) (by omega) _;have ze:=hbt.size;have XE:Box (wA.setCell ⟨BM,3,none⟩ (.slice (some ⟨gA,0,none⟩) (bs.length+1) cap)) w.heap.size 55 _:=XA.out.other (by omega) 3 _;have YE:=YA.out.set 3 (.slice (some ⟨gA,0,none⟩) (bs.length+1) cap);have DE:=DA.out.lower (hbt.below (Nat.le_refl _) (by omega)) (by omega);have BE:=BA.out.thenBelow (hbt.below (by omega) (by omega));have HI0:=aa ((I0.out.but hbt (fun b hb=>by have:=r0 b hb;omega)).toIn (lo:=w.heap.size+1) (hi:=(wA.setCell ⟨BM,3,none⟩ (.slice (some ⟨gA,0,none⟩) (bs.length+1) cap)).heap.size) (fun b hb=>by have:=r0 b hb;omega));have HI1:=aa ((I1.out.but hbt (fun b hb=>by have:=r1 b hb;omega)).toIn (lo:=w.heap.size+1) (hi:=(wA.setCell ⟨BM,3,none⟩ (.slice (some ⟨gA,0,none⟩) (bs.length+1) cap)).heap.size) (fun b hb=>by have:=r1 b hb;omega));have hfA:∀b∈fpA,w.heap.size+1<=b/\b<wA.heap.size/\b≠BM:=fun b hb=>by
    have hlt:=N1.out.lt b hb;rcases N2.out b hb with h1|h1|h1
    . have:=r3 b h1
      omega
    . simp at h1
    omega
   have HI3:=aa ((N1.out.but hbt (fun b hb=>by have:=hfA b hb;omega)).toIn (lo:=w.heap.size+1) (hi:=(wA.setCell ⟨BM,3,none⟩ (.slice (some ⟨gA,0,none⟩) (bs.length+1) cap)).heap.size) (fun b hb=>by have:=hfA b hb;omega));have HW:Hid (aM (ss,cs,false,bs++[y])<=2000):=Nat.le_trans (mL (A:=7) (B:=12) (C:=8) hs7 hS12 hc7 hC12 (by rw [List.length_append];simp;omega)) (by decide);clear hbt hfA fzB r9 yd ye cc1 cc2;obtain ⟨y0,y1,y2,y3⟩:=YE.cells4;obtain ⟨x0,x1,x2,x3⟩:=XE.cells4;have fz:=XE.frozen;obtain ⟨p0,p1,p2,p3⟩:=(fin _ (.slice m0 l0 c0) (.slice m1 l1 c1) (.slice (some ⟨gA,0,none⟩) (bs.length+1) cap) false XE).cells4;have K:=aa (key _ (.slice m0 l0 c0) (.slice m1 l1 c1) (.slice (some ⟨gA,0,none⟩) (bs.length+1) cap) false _ _ _ XE HI0.out HI1.out HI3.out HW.out DE BE);clear key fin XE DE BE;go_wp2
   refine bodyPost_ret (v:=.agg #[.slice m0 l0 c0,.slice m1 l1 c1,.bool false,.slice (some ⟨gA,0,none⟩) (bs.length+1) cap]) (by simp [results,Tryz.results63,go_sem,p0,p1,p2,p3]) rfl ?_
   exact K.out
 by_cases hn3:x=3
 . subst hn3
   have n0:((3:Int)==0)=false:=by decide
   have n1:((3:Int)==1)=false:=by decide
   have n2:((3:Int)==2)=false:=by decide
   obtain ⟨y0,y1,y2,y3⟩:=Y3.cells4;have HW0:Hid (aM (ss,cs,false,bs)<=2097152):=Nat.le_trans (mL hs7 hS12 hc7 hC12 hb7) (by decide);go_wp2_with fail
   refine (iT _ 119 _ _ _ _ _ _ _ _ _ ss cs false bs M0.rd M1.rd M3.rd HW0.out).mono ?_
   rintro e w4 ⟨t0,t1,t3,rfl,o4,b4⟩;obtain ⟨d0,k0,e0,d1,k1,e1,d3,k3,e3,ht0,ht1,ht3⟩:=cU o4;subst ht0 ht1 ht3;have Y4:=Y3.below b4 Y3.lt;have X4:=X3.below b4 X3.lt;have D4:=D3.lower b4 D3.lt;have B4:=B3.trans (But.of_below b4);have z4:=b4.size;clear y0 y1 y2 y3 Y3 X3 D3 B3 b4 o3 M0 M1 M3 r0 r1 r3;obtain ⟨f0,f1,f3,M0,M1,M3,r0,r1,r3⟩:=pZ o4;have hbt:But BM (BM+1) w4 ((((w4.setCell ⟨BM,0,none⟩ (.slice d0 k0 e0)).setCell ⟨BM,1,none⟩ (.slice d1 k1 e1)).setCell ⟨BM,2,none⟩ (.bool true)).setCell ⟨BM,3,none⟩ (.slice d3 k3 e3)):=(((But.setCell (by omega) (by omega) _).trans (But.setCell (by omega) (by omega) _)).trans (But.setCell (by omega) (by omega) _)).trans (But.setCell (by omega) (by omega) _);have XE:Box ((((w4.setCell ⟨BM,0,none⟩ (.slice d0 k0 e0)).setCell ⟨BM,1,none⟩ (.slice d1 k1 e1)).setCell ⟨BM,2,none⟩ (.bool true)).setCell ⟨BM,3,none⟩ (.slice d3 k3 e3)) w.heap.size 55 _:=X4.kept (hbt.block _ (by omega) (by omega));have YE:Box ((((w4.setCell ⟨BM,0,none⟩ (.slice d0 k0 e0)).setCell ⟨BM,1,none⟩ (.slice d1 k1 e1)).setCell ⟨BM,2,none⟩ (.bool true)).setCell ⟨BM,3,none⟩ (.slice d3 k3 e3)) BM 55 _:=(((Y4.set 0 (.slice d0 k0 e0)).set 1 (.slice d1 k1 e1)).set 2 (.bool true)).set 3 (.slice d3 k3 e3);have DE:=D4.lower (hbt.below (Nat.le_refl _) (by omega)) (by omega);have BE:=B4.thenBelow (hbt.below (by omega) (by omega));have ze:=hbt.size;have HI0:=aa (((M0.toIn (lo:=w.heap.size+1+(w3.heap.size-(w.heap.size+1))) (hi:=w4.heap.size) (fun b hb=>by have:=r0 b hb;omega)).but hbt (.inr (by omega))).widen (lo':=w.heap.size+1) (by omega) ze);have HI1:=aa (((M1.toIn (lo:=w.heap.size+1+(w3.heap.size-(w.heap.size+1))) (hi:=w4.heap.size) (fun b hb=>by have:=r1 b hb;omega)).but hbt (.inr (by omega))).widen (lo':=w.heap.size+1) (by omega) ze);have HI3:=aa (((M3.toIn (lo:=w.heap.size+1+(w3.heap.size-(w.heap.size+1))) (hi:=w4.heap.size) (fun b hb=>by have:=r3 b hb;omega)).but hbt (.inr (by omega))).widen (lo':=w.heap.size+1) (by omega) ze);have HW:Hid (aM (ss,[],true,bs)<=2000):=Nat.le_trans (mL hs7 hS12 (by simp) (by simp) hb7) (by decide);obtain ⟨y0,y1,y2,y3⟩:=Y4.cells4;have gz:=Y4.frozen;clear o4 M0 M1 M3 r0 r1 r3 X4 D4 B4 hbt;obtain ⟨y0,y1,y2,y3⟩:=YE.cells4;obtain ⟨x0,x1,x2,x3⟩:=XE.cells4;have fz:=XE.frozen;obtain ⟨p0,p1,p2,p3⟩:=(fin _ (.slice d0 k0 e0) (.slice d1 k1 e1) (.slice d3 k3 e3) true XE).cells4;have K:=aa (key _ (.slice d0 k0 e0) (.slice d1 k1 e1) (.slice d3 k3 e3) true ss [] bs XE HI0.out HI1.out HI3.out HW.out DE BE);clear key fin XE DE BE;go_wp2
   refine bodyPost_ret (v:=.agg #[.slice d0 k0 e0,.slice d1 k1 e1,.bool true,.slice d3 k3 e3]) (by simp [results,Tryz.results63,go_sem,p0,p1,p2,p3]) rfl ?_
   exact K.out
 by_cases hn4:x=4
 . subst hn4
   have n0:((4:Int)==0)=false:=by decide
   have n1:((4:Int)==1)=false:=by decide
   have n2:((4:Int)==2)=false:=by decide
   have n3:((4:Int)==3)=false:=by decide
   obtain ⟨i1,hi1,hz10,hz11,hz12⟩:=info_parts Tryz.infoWr;have HY:=aa Y3;have HM0:=aa M0;have HM1:=aa M1;have HM3:=aa M3;have HX:=aa X3;have HD:=aa D3;have HB:=aa B3;have HKEY:=aa key;have HFIN:=aa fin;have HS12:=aa hS12;have HC12:=aa hC12;clear Y3 M0 M1 M3 X3 D3 B3 o3 key fin hS12 hC12;go_wp2_with fail
   go_loopw [50] (fun _ wr=>∃(a1:Option Addr) (q1 cp:Nat) (ds:List (Int×List Int)) (fq:List Nat),Hid (Box wr BM 55 #[.slice m0 l0 c0,.slice a1 q1 cp,.bool false,.slice m3 l3 c3])/\Hid ((aW 119).Mine wr [.slice a1 q1 cp] ds fq)/\Hid (∀b∈fq,b∈f1∨w3.heap.size<=b)/\Hid (ds.length<=61/\∀x∈ds,x.2.length<=12)/\Hid (aU.Mine wr [.slice m0 l0 c0] ss f0)/\Hid (aD.Mine wr [.slice m3 l3 c3] bs f3)/\Hid (Box wr w.heap.size 55 #[.slice none 0 0,.slice none 0 0,.bool false,.slice none 0 0])/\Hid (br wr g a lb cb zs)/\Hid (But g (g+1) w wr)/\w3.heap.size<=wr.heap.size)
    (fun _ wr=>62-(match wr.cell? ⟨BM,1,none⟩ with|some (.slice _ n _)=>n|_=>0))
   case atStart=>exact ⟨m1,l1,c1,cs,f1,HY,HM1,fun b hb=>.inl hb,⟨by omega,HC12.out⟩,HM0,HM3,HX,HD,HB,Nat.le_refl _⟩
   obtain ⟨a1,q1,cp,ds,fq,RY,RM,RF,RL,R0,R3,RX,RD,RB,rz⟩:=hrel;clear HY HM0 HM1 HM3 HX HD HB;have yc:wr.cell? ⟨BM,1,none⟩=some (.slice a1 q1 cp):=RY.out.cell 1;have yd:wr.drew.cell? ⟨BM,1,none⟩=some (.slice a1 q1 cp):=yc;have HQ:=aa (ag RM.out.rd).1;have hq61:q1<=61:=by have h1:=HQ.out;have h2:=RL.out.1;omega
   have hSc:∀u:World,Box u BM 55 #[.slice m0 l0 c0,.slice a1 q1 cp,.bool false,.slice m3 l3 c3]->u.cell? ⟨BM,1,none⟩=some (.slice a1 q1 cp):=fun u b=>b.cell 1;have gww:∀y:Int,0<=y->y<=2->IntKind.i64.wrap (59+y)=59+y:=fun y h0 h1=>IntWalk.i64_in _ (by omega);go_wp2_with fail
   go_region_held3 (fun u=>u.cell? ⟨BM,1,none⟩=some (.slice a1 q1 cp))
    (first|(with_reducible exact hSc _ Y4.out)|(with_reducible exact yd)|(with_reducible exact yc)|go_keep)
    (first
     | (go_at_call 54;refine (bX (eI RD.out) 3 (by omega) (by omega)).mono ?_;rintro e w4 ⟨y,rfl,hy0,hy1,D4,b4⟩;have b4':But g (g+1) wr w4:=(by exact (But.refl g (g+1) wr).drewN 1 |>.trans b4);have hy2:y<=2:=(by omega);have gw:=gww y hy0 hy2;have Y4:=aa (Box.kept RY.out (b4'.block _ (by omega) (by omega)));have X4:=aa (Box.kept RX.out (b4'.block _ (by omega) (by omega)));have z4:=b4'.size;have M04:=aa (R0.out.but b4' (fun b hb=>by have:=r0 b hb;omega));have M34:=aa (R3.out.but b4' (fun b hb=>by have:=r3 b hb;omega));have M14:=aa (RM.out.but b4' (fun b hb=>by rcases RF.out b hb with h1|h1;(have:=r1 b h1;omega);omega));have HD4:=aa D4;have HB4:=aa (RB.out.trans b4');clear b4 b4' D4))
   clear yc yd gww;have yc:w4.cell? ⟨BM,1,none⟩=some (.slice a1 q1 cp):=Y4.out.cell 1;by_cases hlt:(q1:Int)<59+y
   . have L1:Hid (ds.length+1<=maxLen):=by have h1:=RL.out.1;unfold Hid maxLen;omega
     have L2:Hid ((ds.length+1)*32<=140737488355328):=by have h1:=RL.out.1;unfold Hid;omega
     have hq60:q1<=60:=by omega
     go_wp2_with (at_builtin;refine cO tWr rfl _ _ 53 rfl 119 i1 (.agg #[.int .i64 0,.slice none 0 0]) 32 Tryz.underlying53 hi1 hz10 hz11 hz12 rfl Nat.zero_lt_two (.slice a1 q1 cp) ds fq rfl (M14.out.alloc _) ⟨w4.heap.size,0,none⟩ 1 [.int .i64 0,.slice none 0 0] (0,[]) [] rfl (eE 0 (cP _)) (fun b _ hb'=>by simp at hb') (bN _ _ _) (fun u hu=>by simp at hu;rcases hu with hu|hu<;>(rw [hu];rfl)) L1.out L2.out ?_;intro v6 w6 fp6 n1 n2 n3;obtain ⟨a6,cp6,hv6⟩:=aC n1.rd;rw [List.length_append,List.length_singleton] at hv6;subst hv6;have nB:BM∉fq:=(fun hm=>by rcases RF.out _ hm with h1|h1;(have:=r1 _ h1;omega);omega);have nR:w.heap.size∉fq:=(fun hm=>by rcases RF.out _ hm with h1|h1;(have:=r1 _ h1;omega);omega);have y6:Box w6 BM 55 #[.slice m0 l0 c0,.slice a1 q1 cp,.bool false,.slice m3 l3 c3]:=(Y4.out.alloc _).turned n3 nB;have x6:Box w6 w.heap.size 55 #[.slice none 0 0,.slice none 0 0,.bool false,.slice none 0 0]:=(X4.out.alloc _).turned n3 nR;have yc6:w6.cell? ⟨BM,1,none⟩=some (.slice a1 q1 cp):=y6.cell 1;have fz6:=y6.frozen 1;have zA:=n3.size;have zA':(w4.alloc (.cells #[.int .i64 0,.slice none 0 0] 119)).heap.size=w4.heap.size+1:=(by simp);have tA:Below (w.heap.size+1) (w4.alloc (.cells #[.int .i64 0,.slice none 0 0] 119)) w6:=n3.below (by omega) (fun b hb=>by rcases RF.out b hb with h1|h1;(have:=r1 b h1;omega);omega);have Y6:=aa y6;have X6:=aa x6;have N1:=aa n1;have N2:=aa n2;have D6:=aa ((HD4.out.alloc (.cells #[.int .i64 0,.slice none 0 0] 119)).lower tA (by omega));have B6:=aa ((HB4.out.alloc (.cells #[.int .i64 0,.slice none 0 0] 119)).thenBelow (tA.mono (by omega)));have M06:=aa ((M04.out.alloc (.cells #[.int .i64 0,.slice none 0 0] 119)).kept n3 (fun b hb hb'=>by rcases RF.out b hb' with h1|h1;(exact (r0 b hb).2.2.1 h1);(have:=r0 b hb;omega)));have M36:=aa ((M34.out.alloc (.cells #[.int .i64 0,.slice none 0 0] 119)).kept n3 (fun b hb hb'=>by rcases RF.out b hb' with h1|h1;(exact (r3 b hb).2.2.2 h1);(have:=r3 b hb;omega)));clear n1 n2 n3 tA y6 x6)
     go_roundw
     case rel=>
      have hbt:But BM (BM+1) w6 (w6.setCell ⟨BM,1,none⟩ (.slice a6 (ds.length+1) cp6)):=But.setCell (by omega) (by omega) _;have nb6:∀b∈fp6,b≠BM:=fun b hb e=>by
       subst e;rcases N2.out _ hb with h1|h1|h1
       . rcases RF.out _ h1 with h2|h2
         . have:=r1 _ h2
           omega
         omega
       . simp at h1
       omega
      refine ⟨a6,_,cp6,ds++[(0,[])],fp6,Y6.out.set 1 _,N1.out.but hbt (fun b hb=>by have:=nb6 b hb;omega),fun b hb=>?_,⟨by rw [List.length_append,List.length_singleton];have:=HQ.out;omega,fun x hx=>?_⟩,M06.out.but hbt (fun b hb=>by have:=r0 b hb;omega),M36.out.but hbt (fun b hb=>by have:=r3 b hb;omega),X6.out.other (by omega) 1 _,D6.out.lower (hbt.below (Nat.le_refl _) (by omega)) (by omega),B6.out.thenBelow (hbt.below (by omega) (by omega)),Nat.le_trans (by omega) hbt.size⟩
      . rcases N2.out b hb with h1|h1|h1
        . exact RF.out b h1
        . simp at h1
        exact .inr (by omega)
      rcases List.mem_append.1 hx with h1|h1
      . exact RL.out.2 x h1
      simp at h1
      rw [h1];simp
     case measure=>
      have hcz:((w6.setCell ⟨BM,1,none⟩ (.slice a6 (ds.length+1) cp6))).cell? ⟨BM,1,none⟩=some (.slice a6 (ds.length+1) cp6):=(Y6.out.set 1 _).cell 1;have hcw:wr.cell? ⟨BM,1,none⟩=some (.slice a1 q1 cp):=RY.out.cell 1;rw [hcz,hcw];have:=HQ.out;show 62-(ds.length+1)<62-q1
      omega
   have XE:=X4.out;have DE:=HD4.out;have BE:=HB4.out;have key:=HKEY.out;have fin:=HFIN.out;have HI0:=aa (M04.out.toIn (lo:=w.heap.size+1) (hi:=w4.heap.size) (fun b hb=>by have:=r0 b hb;omega));have HI3:=aa (M34.out.toIn (lo:=w.heap.size+1) (hi:=w4.heap.size) (fun b hb=>by have:=r3 b hb;omega));have HI1:=aa (M14.out.toIn (lo:=w.heap.size+1) (hi:=w4.heap.size) (fun b hb=>by
    have h2:=M14.out.lt b hb;rcases RF.out b hb with h1|h1
    . have:=r1 b h1
      omega
    omega))
   have HW:Hid (aM (ss,ds,false,bs)<=2000):=Nat.le_trans (mL (A:=61) (B:=12) (C:=7) (Nat.le_trans hs7 (by omega)) HS12.out RL.out.1 RL.out.2 hb7) (by decide);have YE:=Y4.out;clear yc;obtain ⟨y0,y1,y2,y3⟩:=YE.cells4;obtain ⟨x0,x1,x2,x3⟩:=XE.cells4;have fz:=XE.frozen;obtain ⟨p0,p1,p2,p3⟩:=(fin _ (.slice m0 l0 c0) (.slice a1 q1 cp) (.slice m3 l3 c3) false XE).cells4;have K:=aa (key _ (.slice m0 l0 c0) (.slice a1 q1 cp) (.slice m3 l3 c3) false _ _ _ XE HI0.out HI1.out HI3.out HW.out DE BE);clear key fin XE DE BE;go_wp2
   refine bodyPost_ret (v:=.agg #[.slice m0 l0 c0,.slice a1 q1 cp,.bool false,.slice m3 l3 c3]) (by simp [results,Tryz.results63,go_sem,p0,p1,p2,p3]) rfl ?_
   exact K.out
 by_cases hn5:x=5
 . subst hn5
   have n0:((5:Int)==0)=false:=by decide
   have n1:((5:Int)==1)=false:=by decide
   have n2:((5:Int)==2)=false:=by decide
   have n3:((5:Int)==3)=false:=by decide
   have n4:((5:Int)==4)=false:=by decide
   have XE:Box ((w3.setCell ⟨BM,0,none⟩ (.slice (some ⟨w3.heap.size,0,none⟩) 0 0)).alloc (.cells #[] 42)) w.heap.size 55 _:=(X3.other (by omega) 0 _).alloc _;have YE:=(Y3.set 0 (.slice (some ⟨w3.heap.size,0,none⟩) 0 0)).alloc (.cells #[] 42);have bu:Below BM w3 ((w3.setCell ⟨BM,0,none⟩ (.slice (some ⟨w3.heap.size,0,none⟩) 0 0)).alloc (.cells #[] 42)):=((Below.refl BM w3).setCell (p:=⟨BM,0,none⟩) (Nat.le_refl _) _).alloc (by rw [World.size_setCell];omega) _;have DE:=D3.lower bu (by omega);have BE:=B3.thenBelow (bu.mono (by omega));have HZB:=aa bu.size;have HI1:=aa ((M1.toIn (lo:=w.heap.size+1) (hi:=BM) (fun b hb=>by have:=r1 b hb;omega)).under bu (Nat.le_refl _));have HI3:=aa ((M3.toIn (lo:=w.heap.size+1) (hi:=BM) (fun b hb=>by have:=r3 b hb;omega)).under bu (Nat.le_refl _));have HW:Hid (aM ([],cs,false,bs)<=2000):=Nat.le_trans (mL (by simp) (by simp) hc7 hC12 hb7) (by decide);have g0:=Y3.cell 0;have gz:=Y3.frozen 0;have HXE:=aa XE;have HYE:=aa YE;have HDE:=aa DE;have HBE:=aa BE;have HKEY:=aa key;have HFIN:=aa fin;clear o3 M0 M1 M3 r0 r1 r3 X3 D3 B3 bu Y3 XE YE DE BE key fin;go_upto_region 16 with fail
   generalize ((w3.setCell ⟨BM,0,none⟩ (.slice (some ⟨w3.heap.size,0,none⟩) 0 0)).alloc (.cells #[] 42))=w5 at HXE HYE HDE HBE HI1 HI3 HZB ⊢;have XE:=HXE.out;have YE:=HYE.out;have DE:=HDE.out;have BE:=HBE.out;have key:=HKEY.out;have fin:=HFIN.out;clear g0 gz HXE HYE HDE HBE HKEY HFIN;obtain ⟨y0,y1,y2,y3⟩:=YE.cells4;obtain ⟨x0,x1,x2,x3⟩:=XE.cells4;have fz:=XE.frozen;obtain ⟨p0,p1,p2,p3⟩:=(fin _ (.slice (some ⟨w3.heap.size,0,none⟩) 0 0) (.slice m1 l1 c1) (.slice m3 l3 c3) false XE).cells4;have K:=aa (key _ (.slice (some ⟨w3.heap.size,0,none⟩) 0 0) (.slice m1 l1 c1) (.slice m3 l3 c3) false [] cs bs XE (nil_in _ _ _ _) (HI1.out.widen (Nat.le_refl _) (by have:=HZB.out;omega)) (HI3.out.widen (Nat.le_refl _) (by have:=HZB.out;omega)) HW.out DE BE);clear key fin XE DE BE;go_wp2
   refine bodyPost_ret (v:=.agg #[.slice (some ⟨w3.heap.size,0,none⟩) 0 0,.slice m1 l1 c1,.bool false,.slice m3 l3 c3]) (by simp [results,Tryz.results63,go_sem,p0,p1,p2,p3]) rfl ?_
   exact K.out
 skip
 have n0:(x==0)=false:=by simpa using hn0
 have n1:(x==1)=false:=by simpa using hn1
 have n2:(x==2)=false:=by simpa using hn2
 have n3:(x==3)=false:=by simpa using hn3
 have n4:(x==4)=false:=by simpa using hn4
 have n5:(x==5)=false:=by simpa using hn5
 have XE:=X3;have DE:=D3;have BE:=B3;have HI0:=aa (M0.toIn (lo:=w.heap.size+1) (hi:=w3.heap.size) (fun b hb=>by have:=r0 b hb;omega));have HI1:=aa (M1.toIn (lo:=w.heap.size+1) (hi:=w3.heap.size) (fun b hb=>by have:=r1 b hb;omega));have HI3:=aa (M3.toIn (lo:=w.heap.size+1) (hi:=w3.heap.size) (fun b hb=>by have:=r3 b hb;omega));have HW:Hid (aM (ss,cs,false,bs)<=2000):=Nat.le_trans (mL hs7 hS12 hc7 hC12 hb7) (by decide);clear o3 M0 M1 M3 r0 r1 r3 X3 D3 B3;obtain ⟨y0,y1,y2,y3⟩:=Y3.cells4;obtain ⟨x0,x1,x2,x3⟩:=XE.cells4;have fz:=XE.frozen;obtain ⟨p0,p1,p2,p3⟩:=(fin _ (.slice m0 l0 c0) (.slice m1 l1 c1) (.slice m3 l3 c3) false XE).cells4;have K:=aa (key w3 _ _ _ false ss cs bs XE HI0.out HI1.out HI3.out HW.out DE BE);clear key fin XE DE BE;go_wp2
 refine bodyPost_ret (v:=.agg #[.slice m0 l0 c0,.slice m1 l1 c1,.bool false,.slice m3 l3 c3]) (by simp [results,Tryz.results63,go_sem,p0,p1,p2,p3]) rfl ?_
 exact K.out
end Go.Proofs.YtgjomldcnjjpaaaGreat

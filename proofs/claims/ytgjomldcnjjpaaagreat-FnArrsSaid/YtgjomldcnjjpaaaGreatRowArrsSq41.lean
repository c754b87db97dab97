/-
 The walk of the program's newMem: a disk of a new array, in memory of its own. Condition: the array's numbers are right.
-/
import Derived.Test.YtgjomldcnjjpaaaGreatRowArrsSq37
import Derived.Test.YtgjomldcnjjpaaaGreatRowArrsSq25
import Derived.Test.YtgjomldcnjjpaaaGreatRowArrsSq4

set_option maxRecDepth 100000
set_option maxHeartbeats 8000000
set_option linter.unusedSimpArgs false

namespace Go.Proofs.YtgjomldcnjjpaaaGreat
open Go.RowKit

theorem qW {G A:Nat->World->Option Addr->Nat->Option Addr->Nat->Nat->Option Addr->Nat->Nat->Option Addr->Nat->Nat->Prop} {C:Prop} (main:∀BO WF x0 x1 x2 x3 x4 x5 x6 x7 x8 x9 x10,A BO WF x0 x1 x2 x3 x4 x5 x6 x7 x8 x9 x10->G BO WF x0 x1 x2 x3 x4 x5 x6 x7 x8 x9 x10) (use:Hid (∀BO WF x0 x1 x2 x3 x4 x5 x6 x7 x8 x9 x10,A BO WF x0 x1 x2 x3 x4 x5 x6 x7 x8 x9 x10->G BO WF x0 x1 x2 x3 x4 x5 x6 x7 x8 x9 x10)->C):C:=use main
def wO (w:World) (n:Int) (k:Nat) (P:List Int) (B:Nat) (wr:World) (j:Nat):Prop:=
 ∃(v0 v1 v3:Value) (lo hi:Nat),Box wr B 55 #[v0,v1,.bool false,v3]/\(cu 119).Own wr lo hi [v0,v1,.bool false,v3] (bC (6+(k:Int)),dG P j,false,[])/\w.heap.size+1<lo/\hi<=wr.heap.size/\(hi<=B∨B<lo)/\w.heap.size+1<B /\
  Box wr (w.heap.size+1) 55 #[.slice none 0 0,.slice none 0 0,.bool false,.slice none 0 0]/\bK wr w.heap.size 25 n (k:Int)/\Below w.heap.size w wr
theorem sB {w w6:World} {n:Int} {k:Nat} {P:List Int} {B j:Nat} {v0 v1 v3 u0 u1 u3:Value} {lo hi:Nat} (xb:Box w6 B 55 #[v0,v1,.bool false,v3]) (o:(cu 119).Own w6 lo hi [u0,u1,.bool false,u3] (bC (6+(k:Int)),dG P j,false,[]))
 (r1:w.heap.size+1<lo) (r2:hi<=w6.heap.size) (r3:hi<=B∨B<lo) (r4:w.heap.size+1<B) (xr:Box w6 (w.heap.size+1) 55 #[.slice none 0 0,.slice none 0 0,.bool false,.slice none 0 0]) (g:bK w6 w.heap.size 25 n (k:Int)) (hb:Below w.heap.size w w6):wO w n k P B (dZ w6 B u0 u1 (.bool false) u3) j:=by
 have hbt:=dz w6 B u0 u1 (.bool false) u3;have hz:=hbt.size;have hbl:Below B w6 (dZ w6 B u0 u1 (.bool false) u3):=⟨hbt.os,hbt.tape,hbt.output,hbt.size,fun k hk=>hbt.block k (by have:=xb.lt;omega) (.inl hk)⟩;exact ⟨u0,u1,u3,lo,hi,ka xb _ _ _ _,o.but hbt (by omega),r1,by omega,r3,r4,xr.below hbl r4,g.below hbl (by omega),hb.trans (hbl.mono (by omega))⟩
theorem tH (w:World) (id n role:Int) (k:Nat) (hg:bL n (k:Int)=true) (hid:inB id 1 60000=true) (hr0:0<=role) (hr1:role<n):
 Calls Tryz.prog 26 #[.int .i64 id,.agg #[.int .i64 n,.int .i64 (k:Int)],.int .i64 role] w fun e w'=>∃v0 v1 v3,e=.returned (.agg #[v0,v1,.bool false,v3])/\(cu 119).Own w' w.heap.size w'.heap.size [v0,v1,.bool false,v3] (ex (dE (dB id n (k:Int) role)) k k,[],false,[])/\Below w.heap.size w w':=by
 obtain ⟨g1,g2,g3,g4⟩:=aB.1 hg;have hk8:k<=8:=by omega
 have hk1:1<=k:=by omega
 have hsup:=js hg hid hr0 hr1;obtain ⟨hn1,hn2⟩:=uw (k:=k) hk8 hsup rfl;have hP:=kc hsup;generalize hPP:dE (dB id n (k:Int) role)=P at hn1 hn2 hP ⊢;have HN:=aa (And.intro hn1 hn2);have HP:=aa hP;have HWT0:Hid (aM (bC (6+(k:Int)),[],false,[])<=2097152):=by
  have h:=sV (j:=0) hP hk8 (Nat.zero_le _);unfold Hid;unfold aM aX at h ⊢;simp only [List.length_nil,List.map_nil,show du []=0 from rfl] at h ⊢
  omega
 clear hn1 hn2 hP hPP hsup;have hA:=(af w (.cells #[.int .i64 n,.int .i64 (k:Int)] 25)).alloc (by simp) (.cells #[.slice none 0 0,.slice none 0 0,.bool false,.slice none 0 0] 55);have G0:bK ((w.alloc (.cells #[.int .i64 n,.int .i64 (k:Int)] 25)).alloc (.cells #[.slice none 0 0,.slice none 0 0,.bool false,.slice none 0 0] 55)) w.heap.size 25 n (k:Int):=(bK.new w 25 n (k:Int)).below (af _ _) (by simp);have X0:=Box.new (w.alloc (.cells #[.int .i64 n,.int .i64 (k:Int)] 25)) 55 #[.slice none 0 0,.slice none 0 0,.bool false,.slice none 0 0];rw [World.size_alloc] at X0;have zG:=G0.lt;have zX:=X0.lt;obtain ⟨k0,k1⟩:=G0.cells;go_enter Tryz.func26,Tryz.ntmps26
 go_wp2_with fail
 generalize (w.alloc (.cells #[.int .i64 n,.int .i64 (k:Int)] 25)).alloc (.cells #[.slice none 0 0,.slice none 0 0,.bool false,.slice none 0 0] 55)=W at hA G0 X0 zG zX k0 k1 ⊢;refine' qW (G:=_) (A:=fun BO WF xa xc ya0 yl0 yc0 ya1 yl1 yc1 ya3 yl3 yc3=>Below W.heap.size W WF/\Box WF BO 55 #[.slice ya0 yl0 yc0,.slice ya1 yl1 yc1,.bool false,.slice ya3 yl3 yc3]/\∃lo hi,(cu 119).Own WF lo hi [.slice ya0 yl0 yc0,.slice ya1 yl1 yc1,.bool false,.slice ya3 yl3 yc3] (bC (6+(k:Int)),dG P 0,false,[])/\W.heap.size<=BO/\BO<WF.heap.size/\(BO<lo∨hi<=BO)/\W.heap.size<=lo/\hi<=WF.heap.size) ?main1 (fun key=>?use1)
 case use1=>
  have K0:Hid (W.drew.cell? ⟨w.heap.size,0,none⟩=some (.int .i64 n)/\W.drew.cell? ⟨w.heap.size,1,none⟩=some (.int .i64 (k:Int))):=⟨k0,k1⟩;have KA:Hid ((W.alloc (.cells #[.slice none 0 0,.slice none 0 0,.bool false,.slice none 0 0] 55)).drew.cell? ⟨w.heap.size,0,none⟩=some (.int .i64 n)/\(W.alloc (.cells #[.slice none 0 0,.slice none 0 0,.bool false,.slice none 0 0] 55)).drew.cell? ⟨w.heap.size,1,none⟩=some (.int .i64 (k:Int))):=⟨(((af W (.cells #[.slice none 0 0,.slice none 0 0,.bool false,.slice none 0 0] 55))).cell (p:=⟨w.heap.size,0,none⟩) zG).trans k0,(((af W (.cells #[.slice none 0 0,.slice none 0 0,.bool false,.slice none 0 0] 55))).cell (p:=⟨w.heap.size,1,none⟩) zG).trans k1⟩;go_region_held3 (fun w'=>w'.cell? ⟨w.heap.size,0,none⟩=some (.int .i64 n)/\w'.cell? ⟨w.heap.size,1,none⟩=some (.int .i64 (k:Int)))
   (first|(with_reducible exact ⟨((FHB.out).cell (p:=⟨w.heap.size,0,none⟩) zG).trans k0,((FHB.out).cell (p:=⟨w.heap.size,1,none⟩) zG).trans k1⟩)|(with_reducible exact ⟨((hbva3.out).cell (p:=⟨w.heap.size,0,none⟩) zG).trans k0,((hbva3.out).cell (p:=⟨w.heap.size,1,none⟩) zG).trans k1⟩)|(with_reducible exact ⟨((hbva3.out.alloc hbva3.out.size (.cells #[.slice none 0 0,.slice none 0 0,.bool false,.slice none 0 0] 55)).cell (p:=⟨w.heap.size,0,none⟩) zG).trans k0,((hbva3.out.alloc hbva3.out.size (.cells #[.slice none 0 0,.slice none 0 0,.bool false,.slice none 0 0] 55)).cell (p:=⟨w.heap.size,1,none⟩) zG).trans k1⟩)|(with_reducible exact ⟨((hbva2.out).cell (p:=⟨w.heap.size,0,none⟩) zG).trans k0,((hbva2.out).cell (p:=⟨w.heap.size,1,none⟩) zG).trans k1⟩)|(with_reducible exact ⟨((hbva2.out.alloc hbva2.out.size (.cells #[.slice none 0 0,.slice none 0 0,.bool false,.slice none 0 0] 55)).cell (p:=⟨w.heap.size,0,none⟩) zG).trans k0,((hbva2.out.alloc hbva2.out.size (.cells #[.slice none 0 0,.slice none 0 0,.bool false,.slice none 0 0] 55)).cell (p:=⟨w.heap.size,1,none⟩) zG).trans k1⟩)|(with_reducible exact ⟨((hbva1.out).cell (p:=⟨w.heap.size,0,none⟩) zG).trans k0,((hbva1.out).cell (p:=⟨w.heap.size,1,none⟩) zG).trans k1⟩)|(with_reducible exact ⟨((hbva1.out.alloc hbva1.out.size (.cells #[.slice none 0 0,.slice none 0 0,.bool false,.slice none 0 0] 55)).cell (p:=⟨w.heap.size,0,none⟩) zG).trans k0,((hbva1.out.alloc hbva1.out.size (.cells #[.slice none 0 0,.slice none 0 0,.bool false,.slice none 0 0] 55)).cell (p:=⟨w.heap.size,1,none⟩) zG).trans k1⟩)|(with_reducible exact K0.out)|(with_reducible exact KA.out)|go_keep)
   (first
    | (go_at_call 58;refine (dw _ n (k:Int) ⟨g3,g4⟩).mono ?_;rintro e va1 ⟨rfl,cc⟩;have cc1:Below W.drew.heap.size W.drew va1:=(by with_reducible exact cc);have b':Below W.heap.size W va1:=Below.andThen ((Below.refl W.heap.size W).drew) cc1;have hbva1:=aa b';clear cc cc1 b')
    | (go_at_call 58;refine (dw _ n (k:Int) ⟨g3,g4⟩).mono ?_;rintro e va1 ⟨rfl,cc⟩;have cc1:Below (W.alloc (.cells #[.slice none 0 0,.slice none 0 0,.bool false,.slice none 0 0] 55)).drew.heap.size (W.alloc (.cells #[.slice none 0 0,.slice none 0 0,.bool false,.slice none 0 0] 55)).drew va1:=(by with_reducible exact cc);have b':Below W.heap.size W va1:=Below.andThen ((af W (.cells #[.slice none 0 0,.slice none 0 0,.bool false,.slice none 0 0] 55)).drew) cc1;have xo':=(show Box (W.alloc (.cells #[.slice none 0 0,.slice none 0 0,.bool false,.slice none 0 0] 55)).drew W.heap.size 55 #[.slice none 0 0,.slice none 0 0,.bool false,.slice none 0 0] from Box.new W _ _).below cc1 (by simp);have XOva1:=aa xo';have hbva1:=aa b';clear cc cc1 b' xo')
    | (go_at_call 57;have xo:=XOva1.out;refine (gH _ (6+(k:Int))).mono ?_;rintro e va2 ⟨xa,xc,rfl,o,cc⟩;have cc1:Below va1.heap.size va1 va2:=(by with_reducible exact cc);have b':Below W.heap.size W va2:=Below.andThen (hbva1.out) cc1;have Yva2:=aa o;have xo':=xo.below cc1 xo.lt;have XOva2:=aa xo';have hbva2:=aa b';clear cc cc1 b' o xo xo')
    | (go_at_call 57;refine (gH _ (6+(k:Int))).mono ?_;rintro e va2 ⟨xa,xc,rfl,o,cc⟩;have cc1:Below va1.heap.size va1 va2:=(by with_reducible exact cc);have b':Below W.heap.size W va2:=Below.andThen (hbva1.out) cc1;have Yva2:=aa o;have hbva2:=aa b';clear cc cc1 b' o)
    | (go_at_call 57;refine (gH _ (6+(k:Int))).mono ?_;rintro e va2 ⟨xa,xc,rfl,o,cc⟩;have cc1:Below (va1.alloc (.cells #[.slice none 0 0,.slice none 0 0,.bool false,.slice none 0 0] 55)).heap.size (va1.alloc (.cells #[.slice none 0 0,.slice none 0 0,.bool false,.slice none 0 0] 55)) va2:=(by with_reducible exact cc);have b':Below W.heap.size W va2:=Below.andThen ((hbva1.out.alloc hbva1.out.size (.cells #[.slice none 0 0,.slice none 0 0,.bool false,.slice none 0 0] 55))) cc1;have Yva2:=aa o;have xo':=(show Box (va1.alloc (.cells #[.slice none 0 0,.slice none 0 0,.bool false,.slice none 0 0] 55)) va1.heap.size 55 #[.slice none 0 0,.slice none 0 0,.bool false,.slice none 0 0] from Box.new va1 _ _).below cc1 (by simp);have XOva2:=aa xo';have hbva2:=aa b';clear cc cc1 b' o xo')
    | (go_at_call 56;have xo:Box va2 W.heap.size 55 #[.slice none 0 0,.slice none 0 0,.bool false,.slice none 0 0]:=(by with_reducible exact XOva2.out);refine (dL _ 119 _ _ _ _ _ _ _ _ _ (bC (6+(k:Int))) [] false [] (dB id n (k:Int) role) (by with_reducible exact (Yva2.out).rd) (bS _ 0 0).rd (bS _ 0 0).rd HWT0.out).mono ?_;rintro e va3 ⟨u0,u1,u3,rfl,o,cc⟩;have cc1:Below va2.heap.size va2 va3:=(by with_reducible exact cc);rw [HN.out.1,HN.out.2] at o;obtain ⟨ya0,yl0,yc0,ya1,yl1,yc1,ya3,yl3,yc3,hv0,hv1,hv3⟩:=bZ o;subst hv0 hv1 hv3;have b':Below W.heap.size W va3:=Below.andThen (hbva2.out) cc1;have Yva3:=aa ((Yva2.out).below cc1);have xo':=xo.below cc1 xo.lt;have hbva3:=aa b';have zb:=(hbva2.out).size;have zc:=cc1.size;have zx:=xo'.lt;have zd:=XOva2.out.lt;obtain ⟨s0,s1,s2,s3⟩:=xo'.cells4;have u0:=xo'.frozen 0;have u1:=xo'.frozen 1;have u2:=xo'.frozen 2;have u3:=xo'.frozen 3;have hbs:=dz va3 (W.heap.size) (.slice ya0 yl0 yc0) (.slice ya1 yl1 yc1) (.bool false) (.slice ya3 yl3 yc3);have zs:=hbs.size;have FHB:=aa (b'.trans (hbs.below (B:=W.heap.size) (by omega) (by omega)));have FXB:=aa (ka xo' (.slice ya0 yl0 yc0) (.slice ya1 yl1 yc1) (.bool false) (.slice ya3 yl3 yc3));have FOW:=aa (o.but hbs (.inr (by omega)));have FZ:Hid (W.heap.size<=W.heap.size/\W.heap.size<(dZ va3 (W.heap.size) (.slice ya0 yl0 yc0) (.slice ya1 yl1 yc1) (.bool false) (.slice ya3 yl3 yc3)).heap.size/\(W.heap.size<va2.heap.size∨va3.heap.size<=W.heap.size)/\W.heap.size<=va2.heap.size/\va3.heap.size<=(dZ va3 (W.heap.size) (.slice ya0 yl0 yc0) (.slice ya1 yl1 yc1) (.bool false) (.slice ya3 yl3 yc3)).heap.size):=(by unfold Hid;omega);unfold dZ at FHB FXB FOW FZ;clear cc cc1 b' xo xo' zb zc o zd zx hbs zs)
    | (go_at_call 56;have xo:Box va2 va1.heap.size 55 #[.slice none 0 0,.slice none 0 0,.bool false,.slice none 0 0]:=(by with_reducible exact XOva2.out);refine (dL _ 119 _ _ _ _ _ _ _ _ _ (bC (6+(k:Int))) [] false [] (dB id n (k:Int) role) (by with_reducible exact (Yva2.out).rd) (bS _ 0 0).rd (bS _ 0 0).rd HWT0.out).mono ?_;rintro e va3 ⟨u0,u1,u3,rfl,o,cc⟩;have cc1:Below va2.heap.size va2 va3:=(by with_reducible exact cc);rw [HN.out.1,HN.out.2] at o;obtain ⟨ya0,yl0,yc0,ya1,yl1,yc1,ya3,yl3,yc3,hv0,hv1,hv3⟩:=bZ o;subst hv0 hv1 hv3;have b':Below W.heap.size W va3:=Below.andThen (hbva2.out) cc1;have Yva3:=aa ((Yva2.out).below cc1);have xo':=xo.below cc1 xo.lt;have hbva3:=aa b';have zb:=(hbva2.out).size;have zc:=cc1.size;have zx:=xo'.lt;have zd:=XOva2.out.lt;obtain ⟨s0,s1,s2,s3⟩:=xo'.cells4;have u0:=xo'.frozen 0;have u1:=xo'.frozen 1;have u2:=xo'.frozen 2;have u3:=xo'.frozen 3;have hbs:=dz va3 (va1.heap.size) (.slice ya0 yl0 yc0) (.slice ya1 yl1 yc1) (.bool false) (.slice ya3 yl3 yc3);have zs:=hbs.size;have zq:=hbva1.out.size;have FHB:=aa (b'.trans (hbs.below (B:=W.heap.size) (by omega) (by omega)));have FXB:=aa (ka xo' (.slice ya0 yl0 yc0) (.slice ya1 yl1 yc1) (.bool false) (.slice ya3 yl3 yc3));have FOW:=aa (o.but hbs (.inr (by omega)));have FZ:Hid (W.heap.size<=va1.heap.size/\va1.heap.size<(dZ va3 (va1.heap.size) (.slice ya0 yl0 yc0) (.slice ya1 yl1 yc1) (.bool false) (.slice ya3 yl3 yc3)).heap.size/\(va1.heap.size<va2.heap.size∨va3.heap.size<=va1.heap.size)/\W.heap.size<=va2.heap.size/\va3.heap.size<=(dZ va3 (va1.heap.size) (.slice ya0 yl0 yc0) (.slice ya1 yl1 yc1) (.bool false) (.slice ya3 yl3 yc3)).heap.size):=(by unfold Hid;omega);unfold dZ at FHB FXB FOW FZ;clear cc cc1 b' xo xo' zb zc o zd zx hbs zs zq)
    | (go_at_call 56;refine (dL _ 119 _ _ _ _ _ _ _ _ _ (bC (6+(k:Int))) [] false [] (dB id n (k:Int) role) (by with_reducible exact (Yva2.out).rd) (bS _ 0 0).rd (bS _ 0 0).rd HWT0.out).mono ?_;rintro e va3 ⟨u0,u1,u3,rfl,o,cc⟩;have cc1:Below va2.heap.size va2 va3:=(by with_reducible exact cc);rw [HN.out.1,HN.out.2] at o;obtain ⟨ya0,yl0,yc0,ya1,yl1,yc1,ya3,yl3,yc3,hv0,hv1,hv3⟩:=bZ o;subst hv0 hv1 hv3;have b':Below W.heap.size W va3:=Below.andThen (hbva2.out) cc1;have Yva3:=aa ((Yva2.out).below cc1);have hbva3:=aa b';have zb:=(hbva2.out).size;have zc:=cc1.size;have zf:(va3.alloc (.cells #[.slice ya0 yl0 yc0,.slice ya1 yl1 yc1,.bool false,.slice ya3 yl3 yc3] 55)).heap.size=va3.heap.size+1:=(by simp);have FHB:=aa (b'.alloc b'.size (.cells #[.slice ya0 yl0 yc0,.slice ya1 yl1 yc1,.bool false,.slice ya3 yl3 yc3] 55));have FXB:=aa (Box.new va3 55 #[.slice ya0 yl0 yc0,.slice ya1 yl1 yc1,.bool false,.slice ya3 yl3 yc3]);have FOW:=aa (o.below (af va3 (.cells #[.slice ya0 yl0 yc0,.slice ya1 yl1 yc1,.bool false,.slice ya3 yl3 yc3] 55)));have FZ:Hid (W.heap.size<=va3.heap.size/\va3.heap.size<(va3.alloc (.cells #[.slice ya0 yl0 yc0,.slice ya1 yl1 yc1,.bool false,.slice ya3 yl3 yc3] 55)).heap.size/\(va3.heap.size<va2.heap.size∨va3.heap.size<=va3.heap.size)/\W.heap.size<=va2.heap.size/\va3.heap.size<=(va3.alloc (.cells #[.slice ya0 yl0 yc0,.slice ya1 yl1 yc1,.bool false,.slice ya3 yl3 yc3] 55)).heap.size):=(by unfold Hid;omega);clear cc cc1 b' zb zc o zf)
    | (go_at_call 56;refine (dL _ 119 _ _ _ _ _ _ _ _ _ (bC (6+(k:Int))) [] false [] (dB id n (k:Int) role) (by with_reducible exact ((Yva2.out.below (af va2 (.cells #[.slice none 0 0,.slice none 0 0,.bool false,.slice none 0 0] 55)))).rd) (bS _ 0 0).rd (bS _ 0 0).rd HWT0.out).mono ?_;rintro e va3 ⟨u0,u1,u3,rfl,o,cc⟩;have cc1:Below (va2.alloc (.cells #[.slice none 0 0,.slice none 0 0,.bool false,.slice none 0 0] 55)).heap.size (va2.alloc (.cells #[.slice none 0 0,.slice none 0 0,.bool false,.slice none 0 0] 55)) va3:=(by with_reducible exact cc);rw [HN.out.1,HN.out.2] at o;obtain ⟨ya0,yl0,yc0,ya1,yl1,yc1,ya3,yl3,yc3,hv0,hv1,hv3⟩:=bZ o;subst hv0 hv1 hv3;have b':Below W.heap.size W va3:=Below.andThen ((hbva2.out.alloc hbva2.out.size (.cells #[.slice none 0 0,.slice none 0 0,.bool false,.slice none 0 0] 55))) cc1;have Yva3:=aa (((Yva2.out.below (af va2 (.cells #[.slice none 0 0,.slice none 0 0,.bool false,.slice none 0 0] 55)))).below cc1);have xo':=(show Box (va2.alloc (.cells #[.slice none 0 0,.slice none 0 0,.bool false,.slice none 0 0] 55)) va2.heap.size 55 #[.slice none 0 0,.slice none 0 0,.bool false,.slice none 0 0] from Box.new va2 _ _).below cc1 (by simp);have hbva3:=aa b';have zb:=((hbva2.out.alloc hbva2.out.size (.cells #[.slice none 0 0,.slice none 0 0,.bool false,.slice none 0 0] 55))).size;have zc:=cc1.size;have zx:=xo'.lt;have zj:(va2.alloc (.cells #[.slice none 0 0,.slice none 0 0,.bool false,.slice none 0 0] 55)).heap.size=va2.heap.size+1:=(by simp);obtain ⟨s0,s1,s2,s3⟩:=xo'.cells4;have u0:=xo'.frozen 0;have u1:=xo'.frozen 1;have u2:=xo'.frozen 2;have u3:=xo'.frozen 3;have hbs:=dz va3 (va2.heap.size) (.slice ya0 yl0 yc0) (.slice ya1 yl1 yc1) (.bool false) (.slice ya3 yl3 yc3);have zs:=hbs.size;have zq:=hbva2.out.size;have FHB:=aa (b'.trans (hbs.below (B:=W.heap.size) (by omega) (by omega)));have FXB:=aa (ka xo' (.slice ya0 yl0 yc0) (.slice ya1 yl1 yc1) (.bool false) (.slice ya3 yl3 yc3));have FOW:=aa (o.but hbs (.inr (by omega)));have FZ:Hid (W.heap.size<=va2.heap.size/\va2.heap.size<(dZ va3 (va2.heap.size) (.slice ya0 yl0 yc0) (.slice ya1 yl1 yc1) (.bool false) (.slice ya3 yl3 yc3)).heap.size/\(va2.heap.size<(va2.alloc (.cells #[.slice none 0 0,.slice none 0 0,.bool false,.slice none 0 0] 55)).heap.size∨va3.heap.size<=va2.heap.size)/\W.heap.size<=(va2.alloc (.cells #[.slice none 0 0,.slice none 0 0,.bool false,.slice none 0 0] 55)).heap.size/\va3.heap.size<=(dZ va3 (va2.heap.size) (.slice ya0 yl0 yc0) (.slice ya1 yl1 yc1) (.bool false) (.slice ya3 yl3 yc3)).heap.size):=(by unfold Hid;omega);unfold dZ at FHB FXB FOW FZ;clear cc cc1 b' xo' zb zc o zj zx hbs zs zq)
   )
  . generalize va3.alloc (.cells #[.slice ya0 yl0 yc0,.slice ya1 yl1 yc1,.bool false,.slice ya3 yl3 yc3] 55)=WN at FHB FXB FOW FZ ⊢
    generalize hBN:va3.heap.size=BN at FXB FZ FOW ⊢;exact key.out BN WN xa xc ya0 yl0 yc0 ya1 yl1 yc1 ya3 yl3 yc3 ⟨FHB.out,FXB.out,_,_,FOW.out,by first|exact FZ.out|(have fz:=FZ.out;have z1:=FHB.out.size;omega)⟩
  . generalize ((((va3).setCell ⟨va2.heap.size,0,none⟩ (.slice ya0 yl0 yc0)).setCell ⟨va2.heap.size,1,none⟩ (.slice ya1 yl1 yc1)).setCell ⟨va2.heap.size,2,none⟩ (.bool false)).setCell ⟨va2.heap.size,3,none⟩ (.slice ya3 yl3 yc3)=WN at FHB FXB FOW FZ ⊢
    generalize hBN:va2.heap.size=BN at FXB FZ FOW ⊢;exact key.out BN WN xa xc ya0 yl0 yc0 ya1 yl1 yc1 ya3 yl3 yc3 ⟨FHB.out,FXB.out,_,_,FOW.out,by first|exact FZ.out|(have fz:=FZ.out;have z1:=FHB.out.size;omega)⟩
  . generalize ((((va3).setCell ⟨va1.heap.size,0,none⟩ (.slice ya0 yl0 yc0)).setCell ⟨va1.heap.size,1,none⟩ (.slice ya1 yl1 yc1)).setCell ⟨va1.heap.size,2,none⟩ (.bool false)).setCell ⟨va1.heap.size,3,none⟩ (.slice ya3 yl3 yc3)=WN at FHB FXB FOW FZ ⊢
    generalize hBN:va1.heap.size=BN at FXB FZ FOW ⊢;exact key.out BN WN xa xc ya0 yl0 yc0 ya1 yl1 yc1 ya3 yl3 yc3 ⟨FHB.out,FXB.out,_,_,FOW.out,by first|exact FZ.out|(have fz:=FZ.out;have z1:=FHB.out.size;omega)⟩
  generalize ((((va3).setCell ⟨W.heap.size,0,none⟩ (.slice ya0 yl0 yc0)).setCell ⟨W.heap.size,1,none⟩ (.slice ya1 yl1 yc1)).setCell ⟨W.heap.size,2,none⟩ (.bool false)).setCell ⟨W.heap.size,3,none⟩ (.slice ya3 yl3 yc3)=WN at FHB FXB FOW FZ ⊢;generalize hBN:W.heap.size=BN at FXB FZ FOW ⊢;exact key.out BN WN xa xc ya0 yl0 yc0 ya1 yl1 yc1 ya3 yl3 yc3 ⟨FHB.out,FXB.out,_,_,FOW.out,by first|exact FZ.out|(have fz:=FZ.out;have z1:=FHB.out.size;omega)⟩
 rintro BO WF xa xc ya0 yl0 yc0 ya1 yl1 yc1 ya3 yl3 yc3 ⟨hb,xb,lo,hi,ow,zr1,zr2,zr3,zr4,zr5⟩;have zW:w.heap.size+1<W.heap.size:=zX;have S0:wO w n k P BO WF 0:=⟨_,_,_,lo,hi,xb,ow,by omega,zr5,by omega,by omega,X0.below hb zX,G0.below hb zG,Below.andThen hA hb⟩;obtain ⟨p0,p1⟩:=(G0.below hb zG).cells;clear hb xb ow zr3 zr4 zr5 X0 G0 hA k0 k1;go_wp2
 clear p0 p1;go_loopw [22] (fun i wr=>∃j:Nat,j<=k/\i=.int .i64 j/\wO w n k P BO wr j) (fun i _=>k-(intOf i).toNat)
 case atStart=>exact ⟨0,Nat.zero_le _,rfl,S0⟩
 clear S0;obtain ⟨j,hj,rfl,v0,v1,v3,lo2,hi2,xb,ob,r1,r2,r3,r4,xr,gb,hb⟩:=hrel;obtain ⟨a0,l0,c0,a1,l1,c1,a3,l3,c3,hv0,hv1,hv3⟩:=bZ ob;subst hv0 hv1 hv3;have zb:=xb.lt;have zw:=hb.size;by_cases hjk:j<k
 . have i2:(j:Int)<(k:Int):=by omega
   have xn:=xb.alloc (.cells #[.int .i64 0] 3);have bn:=af wr (.cells #[.int .i64 0] 3);have hS:wr.drew.cell? ⟨BO,0,none⟩=some (.slice a0 l0 c0)/\wr.drew.cell? ⟨BO,1,none⟩=some (.slice a1 l1 c1)/\wr.drew.cell? ⟨BO,2,none⟩=some (.bool false)/\wr.drew.cell? ⟨BO,3,none⟩=some (.slice a3 l3 c3):=xb.cells4;have hS1:(wr.alloc (.cells #[.int .i64 0] 3)).drew.cell? ⟨BO,0,none⟩=some (.slice a0 l0 c0)/\(wr.alloc (.cells #[.int .i64 0] 3)).drew.cell? ⟨BO,1,none⟩=some (.slice a1 l1 c1)/\(wr.alloc (.cells #[.int .i64 0] 3)).drew.cell? ⟨BO,2,none⟩=some (.bool false)/\(wr.alloc (.cells #[.int .i64 0] 3)).drew.cell? ⟨BO,3,none⟩=some (.slice a3 l3 c3):=xn.cells4;have OB:=aa (ob.below bn);have XB:=aa xn;have XR:=aa (xr.below bn (by omega));have GB:=aa (gb.below bn (by omega));have HB:=aa (hb.trans (bn.mono zw));have RL:Hid (aD.Rd (wr.alloc (.cells #[.int .i64 0] 3)) [.slice (some ⟨wr.heap.size,0,none⟩) 1 1] [0]):=(aS (bk.lit .i64 3 wr [0] 1 #[.int .i64 0] rfl rfl (by unfold maxLen;omega))).rd;have HWT:=aa (sV (j:=j) HP.out hk8 hj);have HNW:=aa (ux HP.out hk8 hjk);have zn:(wr.alloc (.cells #[.int .i64 0] 3)).heap.size=wr.heap.size+1:=by simp
   clear xb ob xr gb hb xn bn;go_wp2_with fail
   refine bM.start (S:=fun w'=>w'.cell? ⟨BO,0,none⟩=some (.slice a0 l0 c0)/\w'.cell? ⟨BO,1,none⟩=some (.slice a1 l1 c1)/\w'.cell? ⟨BO,2,none⟩=some (.bool false)/\w'.cell? ⟨BO,3,none⟩=some (.slice a3 l3 c3)) (k:=8) (by kernel_rfl) ?_
   refine bM.take (i:=0) (v:=?_) rfl (by kernel_rfl) (by kernel_rfl) (by kernel_rfl) (by kernel_rfl) (fun _ _ _ h=>h) (Or.inl ⟨by rfl,?_⟩) hS ?_
   rotate_left 1
   . (intro w hSw;(try dsimp only at hSw);go_split_ands;go_simp;first|done|with_reducible rfl)
   simp only [Act.put,List.setIfInBounds_toArray,List.set_cons_zero,List.set_cons_succ]
   refine bM.take (i:=1) (v:=?_) rfl (by kernel_rfl) (by kernel_rfl) (by kernel_rfl) (by kernel_rfl) (fun _ _ _ h=>h) (Or.inl ⟨by rfl,?_⟩) hS ?_
   rotate_left 1
   . (intro w hSw;(try dsimp only at hSw);go_split_ands;go_simp;first|done|with_reducible rfl)
   simp only [Act.put,List.setIfInBounds_toArray,List.set_cons_zero,List.set_cons_succ]
   refine bM.two (i:=2) (i':=3) (by kernel_rfl) rfl rfl (fun K hK=>?_) (fun K hK=>?_)
   . go_simp
     refine (dA _ _).mono ?_
     rintro e w5 ⟨rfl,h5⟩;subst h5;go_wp2_with fail
     refine hK.out _ _ (fun _=>hS) ?_
     clear hK K;refine bM.one (i:=3) (by kernel_rfl) rfl (fun K hK=>?_)
     go_simp
     refine hK.out _ _ (fun _=>hS1) ?_
     clear hK K;refine bM.one (i:=4) (by kernel_rfl) rfl (fun K hK=>?_)
     go_simp
     obtain ⟨p0,p1,p3⟩:=eN OB.out;refine (dy _ 119 _ _ _ _ _ _ _ _ _ _ _ _ (bC (6+(k:Int))) (dG P j) false [] (bE (j:Int)) [0] p0.drew p1.drew p3.drew RL.out.drew HWT.out (by omega)).mono ?_
     rintro e w7 ⟨u0,u1,u3,rfl,o7,hb7'⟩;have hb7:Below (wr.alloc (.cells #[.int .i64 0] 3)).heap.size (wr.alloc (.cells #[.int .i64 0] 3)) w7:=(Below.refl _ _).drew.trans hb7';have zd:(wr.alloc (.cells #[.int .i64 0] 3)).drew.heap.size=(wr.alloc (.cells #[.int .i64 0] 3)).heap.size:=rfl;rw [HNW.out.1,HNW.out.2,zd] at o7;obtain ⟨d0,k0,f0,d1,k1,f1,d3,k3,f3,hv0,hv1,hv3⟩:=bZ o7;subst hv0 hv1 hv3;have z7:=hb7.size;have xb7:=XB.out.below hb7 (by omega);have RN:=aa (sB xb7 o7 (by omega) (Nat.le_refl _) (.inr (by omega)) r4 (XR.out.below hb7 (by omega)) (GB.out.below hb7 (by omega)) (HB.out.trans (hb7.mono (by omega))));unfold dZ at RN;have hS7:w7.cell? ⟨BO,0,none⟩=some (.slice a0 l0 c0)/\w7.cell? ⟨BO,1,none⟩=some (.slice a1 l1 c1)/\w7.cell? ⟨BO,2,none⟩=some (.bool false)/\w7.cell? ⟨BO,3,none⟩=some (.slice a3 l3 c3):=xb7.cells4;obtain ⟨q0,q1,q2,q3⟩:=xb7.cells4;have fz:=xb7.frozen;clear o7 hb7 hb7' xb7 p0 p1 p3 OB XB XR GB HB RL HWT HNW zd;go_wp2_with fail
     refine hK.out _ _ (fun _=>hS7) ?_
     clear hK K;refine bM.take (i:=5) (v:=?_) rfl (by kernel_rfl) (by kernel_rfl) (by kernel_rfl) (by kernel_rfl) (fun _ _ _ h=>h) (Or.inl ⟨by rfl,?_⟩) hS7 ?_
     rotate_left 1
     . (intro w hSw;(try dsimp only at hSw);go_split_ands;go_simp;first|done|with_reducible rfl)
     simp only [Act.put,List.setIfInBounds_toArray,List.set_cons_zero,List.set_cons_succ]
     refine bM.take (i:=6) (v:=?_) rfl (by kernel_rfl) (by kernel_rfl) (by kernel_rfl) (by kernel_rfl) (fun _ _ _ h=>h) (Or.inl ⟨by rfl,?_⟩) hS7 ?_
     rotate_left 1
     . (intro w hSw;(try dsimp only at hSw);go_split_ands;go_simp;first|done|with_reducible rfl)
     simp only [Act.put,List.setIfInBounds_toArray,List.set_cons_zero,List.set_cons_succ]
     refine bM.two (i:=7) (i':=8) (by kernel_rfl) rfl rfl (fun K hK=>?_) (fun K hK=>?_)
     . go_simp
       refine hK.out _ _ (fun _=>hS7) ?_
       clear hK K;refine bM.one (i:=8) (by kernel_rfl) rfl (fun K hK=>?_)
       go_simp
       refine hK.out _ _ (fun h=>absurd rfl h) ?_
       clear hK K;refine bM.done (by kernel_rfl) ?_ _
       go_wp2
       go_roundw
       case rel=>exact ⟨j+1,by omega,by go_num,RN.out⟩
       case measure=>simp [intOf];omega
     go_simp
     refine hK.out _ _ (fun h=>absurd rfl h) ?_
     clear hK K;refine bM.late (i:=7) (by kernel_rfl) rfl (by kernel_rfl) (fun K hK=>?_)
     go_simp
     refine hK.out _ _ ?_
     clear hK K;refine bM.done (by kernel_rfl) ?_ _
     go_wp2
     go_roundw
     case rel=>exact ⟨j+1,by omega,by go_num,RN.out⟩
     case measure=>simp [intOf];omega
   go_simp
   refine hK.out _ _ (fun _=>hS1) ?_
   clear hK K;refine bM.one (i:=2) (by kernel_rfl) rfl (fun K hK=>?_)
   go_simp
   refine (dA _ _).mono ?_
   rintro e w5 ⟨rfl,h5⟩;subst h5;go_wp2_with fail
   refine hK.out _ _ (fun _=>hS1) ?_
   clear hK K;refine bM.one (i:=4) (by kernel_rfl) rfl (fun K hK=>?_)
   go_simp
   obtain ⟨p0,p1,p3⟩:=eN OB.out;refine (dy _ 119 _ _ _ _ _ _ _ _ _ _ _ _ (bC (6+(k:Int))) (dG P j) false [] (bE (j:Int)) [0] p0.drew p1.drew p3.drew RL.out.drew HWT.out (by omega)).mono ?_
   rintro e w7 ⟨u0,u1,u3,rfl,o7,hb7'⟩;have hb7:Below (wr.alloc (.cells #[.int .i64 0] 3)).heap.size (wr.alloc (.cells #[.int .i64 0] 3)) w7:=(Below.refl _ _).drew.trans hb7';have zd:(wr.alloc (.cells #[.int .i64 0] 3)).drew.heap.size=(wr.alloc (.cells #[.int .i64 0] 3)).heap.size:=rfl;rw [HNW.out.1,HNW.out.2,zd] at o7;obtain ⟨d0,k0,f0,d1,k1,f1,d3,k3,f3,hv0,hv1,hv3⟩:=bZ o7;subst hv0 hv1 hv3;have z7:=hb7.size;have xb7:=XB.out.below hb7 (by omega);have RN:=aa (sB xb7 o7 (by omega) (Nat.le_refl _) (.inr (by omega)) r4 (XR.out.below hb7 (by omega)) (GB.out.below hb7 (by omega)) (HB.out.trans (hb7.mono (by omega))));unfold dZ at RN;have hS7:w7.cell? ⟨BO,0,none⟩=some (.slice a0 l0 c0)/\w7.cell? ⟨BO,1,none⟩=some (.slice a1 l1 c1)/\w7.cell? ⟨BO,2,none⟩=some (.bool false)/\w7.cell? ⟨BO,3,none⟩=some (.slice a3 l3 c3):=xb7.cells4;obtain ⟨q0,q1,q2,q3⟩:=xb7.cells4;have fz:=xb7.frozen;clear o7 hb7 hb7' xb7 p0 p1 p3 OB XB XR GB HB RL HWT HNW zd;go_wp2_with fail
   refine hK.out _ _ (fun _=>hS7) ?_
   clear hK K;refine bM.take (i:=5) (v:=?_) rfl (by kernel_rfl) (by kernel_rfl) (by kernel_rfl) (by kernel_rfl) (fun _ _ _ h=>h) (Or.inl ⟨by rfl,?_⟩) hS7 ?_
   rotate_left 1
   . (intro w hSw;(try dsimp only at hSw);go_split_ands;go_simp;first|done|with_reducible rfl)
   simp only [Act.put,List.setIfInBounds_toArray,List.set_cons_zero,List.set_cons_succ]
   refine bM.take (i:=6) (v:=?_) rfl (by kernel_rfl) (by kernel_rfl) (by kernel_rfl) (by kernel_rfl) (fun _ _ _ h=>h) (Or.inl ⟨by rfl,?_⟩) hS7 ?_
   rotate_left 1
   . (intro w hSw;(try dsimp only at hSw);go_split_ands;go_simp;first|done|with_reducible rfl)
   simp only [Act.put,List.setIfInBounds_toArray,List.set_cons_zero,List.set_cons_succ]
   refine bM.two (i:=7) (i':=8) (by kernel_rfl) rfl rfl (fun K hK=>?_) (fun K hK=>?_)
   . go_simp
     refine hK.out _ _ (fun _=>hS7) ?_
     clear hK K;refine bM.one (i:=8) (by kernel_rfl) rfl (fun K hK=>?_)
     go_simp
     refine hK.out _ _ (fun h=>absurd rfl h) ?_
     clear hK K;refine bM.done (by kernel_rfl) ?_ _
     go_wp2
     go_roundw
     case rel=>exact ⟨j+1,by omega,by go_num,RN.out⟩
     case measure=>simp [intOf];omega
   go_simp
   refine hK.out _ _ (fun h=>absurd rfl h) ?_
   clear hK K;refine bM.late (i:=7) (by kernel_rfl) rfl (by kernel_rfl) (fun K hK=>?_)
   go_simp
   refine hK.out _ _ ?_
   clear hK K;refine bM.done (by kernel_rfl) ?_ _
   go_wp2
   go_roundw
   case rel=>exact ⟨j+1,by omega,by go_num,RN.out⟩
   case measure=>simp [intOf];omega
 have ej:j=k:=by omega
 subst ej;obtain ⟨q0,q1,q2,q3⟩:=xb.cells4;have HF:=aa (uy HP.out hk8);have hwt:=sV (j:=j) HP.out hk8 (Nat.le_refl _);obtain ⟨p0,p1,p3⟩:=eN ob;go_wp2_with fail
 refine (lw _ 119 _ _ _ _ _ _ _ _ _ (bC (6+(j:Int))) (dG P j) false [] p0 p1 p3 hwt).mono ?_
 rintro e w8 ⟨u0,u1,u3,rfl,o8,b8⟩;rw [HF.out.1,HF.out.2] at o8;obtain ⟨d0,k0,f0,d1,k1,f1,d3,k3,f3,hv0,hv1,hv3⟩:=bZ o8;subst hv0 hv1 hv3;have x8:=xr.below b8 (by omega);obtain ⟨s0,s1,s2,s3⟩:=x8.cells4;have fz:=x8.frozen;have hbt:=dz w8 (w.heap.size+1) (.slice d0 k0 f0) (.slice d1 k1 f1) (.bool false) (.slice d3 k3 f3);have z8:=b8.size;have zt:=hbt.size;have FO:=aa ((o8.but hbt (.inr (by omega))).widen (lo':=w.heap.size) (hi':=(dZ w8 (w.heap.size+1) (.slice d0 k0 f0) (.slice d1 k1 f1) (.bool false) (.slice d3 k3 f3)).heap.size) (by omega) hbt.size);have FB:=aa (Below.andBut (hb.trans (b8.mono zw)) hbt (by omega));unfold dZ at FO FB;clear hbt o8 b8 x8 xb ob xr gb hb p0 p1 p3 q0 q1 q2 q3 zt;go_wp2
 refine bodyPost_ret (v:=.agg #[.slice d0 k0 f0,.slice d1 k1 f1,.bool false,.slice d3 k3 f3]) (by simp [results,Tryz.results26,go_sem,s0,s1,s2,s3]) rfl ?_
 exact ⟨_,_,_,rfl,FO.out,FB.out⟩
end Go.Proofs.YtgjomldcnjjpaaaGreat

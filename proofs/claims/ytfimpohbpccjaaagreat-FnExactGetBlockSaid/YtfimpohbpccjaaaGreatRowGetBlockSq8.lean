/-
 What the row's reading says of arguments with depth, in these texts' own words. No condition.
-/
import Derived.Test.YtfimpohbpccjaaaGreatRowGetBlockSq6
import Derived.Test.YtfimpohbpccjaaaGreatRowGetBlockSq5
import Derived.Maps.Own
import Derived.Maps.OwnSet
import Derived.Maps.OwnOps
import Derived.Maps.Views
import Derived.Test.YtfimpohbpccjaaaGreatRowGetBlockSq3
import Derived.ProofKit
import Derived.OpenShut
import Derived.Lib.SmallJoins
import Derived.Deep.Slices
import Derived.Deep.SlicePairs

set_option maxRecDepth 100000
set_option maxHeartbeats 8000000
set_option linter.unusedSimpArgs false

namespace Go.Proofs.YtfimpohbpccjaaaGreat
open Go.RowKit Go.Maps
def dF (v:Value):Option (DataW Value×List MemPlace):=some (.held v,[])
def bL (l:List (Int×List Int)) (q:Int):Option (List Int):=l.foldl (fun acc x=>if x.1=q then some x.2 else acc) none
theorem eF (l:List (Int×List Int)) (x:Int×List Int) (q:Int):bL (l++[x]) q=if x.1=q then some x.2 else bL l q:=by
 unfold bL;rw [List.foldl_append];rfl
def cP (w:World) (l:List (Int×List Int)) (D:DataW Value):Prop:=
 ∀q:Int,(bL l q=none->Maps.has D (.int .i64 q)=false)/\∀zs,bL l q=some zs->Maps.has D (.int .i64 q)=true/\∃a n cap,(∀z,D.atKey (.int .i64 q) z=.held (.agg #[.int .i64 q,.slice a n cap]))/\aI.Rd w [.slice a n cap] zs
theorem cP.nil (w:World):cP w [] (.map []):=fun q=>⟨fun _=>rfl,fun zs h=>by simp [bL] at h⟩
theorem cP.step {w:World} {l:List (Int×List Int)} {D:DataW Value} (h:cP w l D) (hD:IsMap D) (x0:Int) (x1:List Int) (a:Option Addr) (n cap:Nat) (hr:aI.Rd w [.slice a n cap] x1):
 cP w (l++[(x0,x1)]) (D.put (.int .i64 x0) (.held (.agg #[.int .i64 x0,.slice a n cap]))):=by
 intro q;rw [eF];by_cases hq:x0=q
 . subst hq
   simp only [if_true]
   refine ⟨fun e=>by simp at e,fun zs e=>?_⟩
   simp at e
   subst e;have hk:WideAt.IsKeyLit (.int .i64 x0):=trivial;exact ⟨has_put_same hD hk _,a,n,cap,fun z=>atKey_put_same hD hk _ _,hr⟩
 simp only [hq,if_false]
 have hne:(Lit.int .i64 q)≠Lit.int .i64 x0:=fun e=>by simp at e;exact hq e.symm
 refine ⟨fun e=>?_,fun zs e=>?_⟩
 . rw [has_put_other hne]
   exact (h q).1 e
 obtain ⟨h1,a',n',c',h2,h3⟩:=(h q).2 zs e;exact ⟨by rw [has_put_other hne];exact h1,a',n',c',fun z=>by rw [atKey_put_other hne];exact h2 z,h3⟩
theorem gC:Keyed Tryz.prog 3:=int_keyed Tryz.underlying3
theorem il (w0 w:World) (hb0:Below w0.heap.size w0 w) (E:TypeId) (a:Option Addr) (n cap:Nat) (d:List (Int×List Int)) (h:(aV E).Rd w0 [.slice a n cap] d) (hn:n<=2097152) (hd:∀x∈d,0<=x.1/\x.1<=20):
 Calls Tryz.prog 121 #[.slice a n cap] w fun e w'=>e=.returned (.map (some w.heap.size))/\Below w.heap.size w w'/\∃D,w'.ownsMap Tryz.prog 3 dF w.heap.size n D/\cP w0 d D:=by
 obtain ⟨hl,hc,hm⟩:=ag h;have hmm:=@run_makeMap Tryz.prog;go_enter Tryz.func121,Tryz.ntmps121
 go_wp2
 clear hmm;go_loopw [9] (fun i wr=>∃j:Nat,j<=n/\i=.int .i64 j/\Below w.heap.size w wr/\∃D,wr.ownsMap Tryz.prog 3 dF w.heap.size j D/\cP w0 (d.take j) D) (fun i _=>n-(intOf i).toNat)
 case atStart=>exact ⟨0,Nat.zero_le _,rfl,(Below.refl _ _).alloc (Nat.le_refl _) _,_,World.ownsMap_made _ _ _ _,cP.nil _⟩
 obtain ⟨j,hj,rfl,hb,D,ho,hL⟩:=hrel;by_cases hjn:j<n
 . rcases aX rfl h with h0'|⟨b,off,rfl,hbl,hcs⟩
   . omega
   have hdj:d[j]?=some (d[j]'(by omega)):=List.getElem?_eq_getElem (by omega);have hmem:d[j]'(by omega)∈d:=List.getElem_mem _;have htk:d.take (j+1)=d.take j++[d[j]'(by omega)]:=List.take_succ_eq_append_getElem (by omega);generalize d[j]'(by omega)=x at hdj hmem htk;have hx:=hd x hmem;obtain ⟨v0,v1,hv0,hv1,hrv⟩:=hcs j x hdj;obtain ⟨rfl,hrv'⟩:=bN hrv;obtain ⟨av,cv,rfl⟩:=aq hrv';have hbr:=hb0.trans (hb.mono hb0.size);have p0:=(hbr.cell (p:=⟨b,off+j*2,none⟩) hbl).trans hv0;have p1:=(hbr.cell (p:=⟨b,off+j*2+1,none⟩) hbl).trans hv1;clear hbr;obtain ⟨x0,x1⟩:=x;simp only at p0 p1 hrv' hx
   have HL:=ab (hL.step ho.isMap x0 x1 av x1.length cv hrv');have HK:=ab (htk);have HO:=ab (ho.alloc (.cells #[.int .i64 x0,.slice av x1.length cv] 98));have hkey:keyOf Tryz.prog 3 (.int .i64 x0)=some (.int .i64 x0):=keyOf_int_mk Tryz.underlying3 (WalkArith.wf_i64 (by omega));have HKEY:=ab hkey;have HB:=ab (hb.alloc hb.size (.cells #[.int .i64 x0,.slice av x1.length cv] 98));clear hcs hdj hv0 hv1 hrv hrv' hmem htk ho hL hkey;go_wp2_with (at_mapUpdate;refine wpList_mapUpdate_own _ rfl _ _ _ 144 rfl 3 98 gC Tryz.underlying144 dF w.heap.size j D rfl ?_ ?_ _ _ (.int .i64 x0) rfl rfl ?_ (.held (.agg #[.int .i64 x0,.slice av x1.length cv])) [] rfl ?_;exact HO.out;unfold maxLen;omega;exact HKEY.out;intro w1 hown1 hgrow1;have HO1:=ab hown1;have HG1:=ab hgrow1;clear hown1 hgrow1)
   have hB1:Below w.heap.size w w1:=HB.out.grown HG1.out HB.out.size (fun k hk=>by cases hk;exact Nat.le_refl _);clear HB HG1 HO hb;go_roundw
   case rel=>exact ⟨j+1,by omega,by go_num,hB1,_,HO1.out,by rw [HK.out];exact HL.out⟩
   case measure=>simp [intOf];omega
 have e:j=n:=by omega
 subst e;rw [List.take_of_length_le (by omega)] at hL;go_wp2
 go_ret
 exact ⟨rfl,hb,D,ho,hL⟩
theorem gD (w:World) (E:TypeId) (a:Option Addr) (n cap:Nat) (d:List (Int×List Int)) (h:(aV E).Rd w [.slice a n cap] d) (hn:n<=2097152) (hd:∀x∈d,0<=x.1/\x.1<=20):
 Calls Tryz.prog 121 #[.slice a n cap] w fun e w'=>e=.returned (.map (some w.heap.size))/\Below w.heap.size w w'/\∃D,w'.ownsMap Tryz.prog 3 dF w.heap.size n D/\cP w d D:=il w w (Below.refl _ _) E a n cap d h hn hd
theorem iZ {q:Int} (h0:0<=q) (h1:q<=2097152):keyOf Tryz.prog 3 (.int .i64 q)=some (.int .i64 q):=keyOf_int_mk Tryz.underlying3 (WalkArith.wf_i64 (by omega))
theorem iI (w:World):(zeroValue 98).run Tryz.prog w=.ok (.agg #[.int .i64 0,.slice none 0 0]) w:=by kernel_rfl
theorem im {w:World} {ops:Array Oper} {rest:List Oper} {o:Oper} {a:Act} {Q:Exit->Act->World->Prop} (hg:o.guard=none) (m x:Operand) (hop:o.op=Op.lookup 144 m x true) (b n:Nat) (D:DataW Value) (w0:World) (d:List (Int×List Int)) (q:Int) (zs:List Int)
 (hm:a.eval m=.map (some b)) (hown:w.ownsMap Tryz.prog 3 dF b n D) (hx:a.eval x=.int .i64 q) (hkey:keyOf Tryz.prog 3 (.int .i64 q)=some (.int .i64 q)) (hL:cP w0 d D) (hs:bL d q=some zs)
 (hK:∀a' c',aI.Rd w0 [.slice a' zs.length c'] zs->wpList Tryz.prog ops Q rest (a.put o.dst (.tuple #[.agg #[.int .i64 q,.slice a' zs.length c'],.bool true])) w):wpList Tryz.prog ops Q (o :: rest) a w:=by
 obtain ⟨h1,a',n',c',h2,h3⟩:=(hL q).2 zs hs;obtain ⟨hl,_,_⟩:=ag h3;subst hl;refine wpList_lookup_own_ok w hg m x _ hop 3 98 gC Tryz.underlying144 dF (iI w) (.held (.agg #[.int .i64 0,.slice none 0 0])) [] rfl b n D hm hown _ _ hx hkey ?_
 intro v ps hv;rw [h2] at hv;have hv':v=.agg #[.int .i64 q,.slice a' zs.length c']:=by simp [dF] at hv;exact hv.1
 subst hv';rw [h1];exact hK a' c' h3
theorem io {w:World} {ops:Array Oper} {rest:List Oper} {o:Oper} {a:Act} {Q:Exit->Act->World->Prop} (hg:o.guard=none) (m x:Operand) (hop:o.op=Op.lookup 144 m x true) (b n:Nat) (D:DataW Value) (w0:World) (d:List (Int×List Int)) (q:Int)
 (hm:a.eval m=.map (some b)) (hown:w.ownsMap Tryz.prog 3 dF b n D) (hx:a.eval x=.int .i64 q) (hkey:keyOf Tryz.prog 3 (.int .i64 q)=some (.int .i64 q)) (hL:cP w0 d D) (hs:bL d q=none)
 (hK:wpList Tryz.prog ops Q rest (a.put o.dst (.tuple #[.agg #[.int .i64 0,.slice none 0 0],.bool false])) w):wpList Tryz.prog ops Q (o :: rest) a w:=by
 have h1:=(hL q).1 hs;refine wpList_lookup_own_ok w hg m x _ hop 3 98 gC Tryz.underlying144 dF (iI w) (.held (.agg #[.int .i64 0,.slice none 0 0])) [] rfl b n D hm hown _ _ hx hkey ?_
 intro v ps hv;rw [Maps.atKey_of_not_has h1] at hv;have hv':v=.agg #[.int .i64 0,.slice none 0 0]:=by simp [dF] at hv;exact hv.1
 subst hv';rw [h1];exact hK
end Go.Proofs.YtfimpohbpccjaaaGreat

namespace Go.Proofs.YtfimpohbpccjaaaGreat
open Go.RowKit

theorem gE {ss:List (List Int)} {cs:List (Int×List Int)} {bs:List Int} (h:bT ss cs bs=true):∀x∈cs,0<=x.1/\x.1<=20:=by
 unfold bT at h;simp only [Bool.and_eq_true,List.all_eq_true] at h
 obtain ⟨_,h2,_,h4,_⟩:=h;intro x hx;have h5:=h2 x hx;unfold wrB inB at h5;unfold inB at h4;simp at h4 h5
 omega
theorem iJ {ss:List (List Int)} {cs:List (Int×List Int)} {bs:List Int} (h:bT ss cs bs=true):ss.length<=20:=by
 unfold bT at h;simp only [Bool.and_eq_true] at h
 obtain ⟨_,_,_,h4,_⟩:=h;unfold inB at h4;simp at h4
 omega
theorem fj (q:Int) (zs:List Int):∀(l:List (Int×List Int)) (acc:Option (List Int)),l.foldl (fun acc x=>if x.1=q then some x.2 else acc) acc=some zs->acc=some zs∨(q,zs)∈l
 | [],acc,h=>.inl h
 | x :: l,acc,h=>by
  rw [List.foldl_cons] at h;rcases fj q zs l _ h with h1|h1
  . by_cases hx:x.1=q
    . rw [if_pos hx] at h1
      simp at h1
      right
      rw [←hx,←h1];exact List.mem_cons_self
    rw [if_neg hx] at h1;exact .inl h1
  exact .inr (List.mem_cons_of_mem _ h1)
theorem ip {l:List (Int×List Int)} {q:Int} {zs:List Int} (h:bL l q=some zs):(q,zs)∈l:=by
 rcases fj q zs l none h with h1|h1
 . simp at h1
 exact h1
theorem iK {l:List (Int×List Int)} {q:Int} {zs:List Int} {N:Nat} (hw:aA l<=N) (h:bL l q=some zs):zs.length<=N:=by
 obtain ⟨j,hj⟩:=List.mem_iff_getElem?.1 (ip h);exact Nat.le_trans (bE hj) hw
def aK (ss:List (List Int)) (cs:List (Int×List Int)) (f:Bool) (bs:List Int) (n:Int):Bool:=bT ss cs bs&&(!f&&(inB n 0 ((ss.length:Int)-1)&&!inL bs n))
def dG (ss:List (List Int)) (n:Int):List Int:=ss.getD n.toNat []
def aY (ss:List (List Int)) (cs:List (Int×List Int)) (f:Bool) (bs:List Int) (n:Int):List Int:=if aK ss cs f bs n=true then (bL cs n).getD (dG ss n) else []
theorem ei (w:World) (E:TypeId) (a0 a1 a3:Option Addr) (n0 c0 n1 c1 n3 c3:Nat) (ss:List (List Int)) (cs:List (Int×List Int)) (f:Bool) (bs:List Int) (n:Int) (h0:bj.Rd w [.slice a0 n0 c0] ss) (h1:(aV E).Rd w [.slice a1 n1 c1] cs) (h3:aI.Rd w [.slice a3 n3 c3] bs) (hw:aF (ss,cs,f,bs)<=2097152):
 Calls Tryz.prog 88 #[.agg #[.slice a0 n0 c0,.slice a1 n1 c1,.bool f,.slice a3 n3 c3],.int .i64 n] w fun e w'=>∃a' l c',e=.returned (.tuple #[.slice a' l c',.bool (aK ss cs f bs n)])/\aI.Own w' w.heap.size w'.heap.size [.slice a' l c'] (aY ss cs f bs n)/\Below w.heap.size w w':=by
 obtain ⟨hl0,_,hm0⟩:=ag h0;obtain ⟨hl1,_,hm1⟩:=ag h1;obtain ⟨hl3,_,hm3⟩:=ag h3;have hw3:n3<=2097152:=by unfold aF at hw;simp only at hw;omega
 have hw0:aB ss<=2097152:=by unfold aF at hw;simp only at hw;omega
 have hw1:aA cs<=2097152:=by unfold aF at hw;simp only at hw;omega
 have hn0:n0<=2097152:=by unfold aB at hw0;omega
 have hn1:n1<=2097152:=by unfold aA at hw1;omega
 have hA:Below w.heap.size w (w.alloc (.cells #[.slice a0 n0 c0,.slice a1 n1 c1,.bool f,.slice a3 n3 c3] 66)):=(Below.refl _ _).alloc (Nat.le_refl _) _;have xm:=Box.new w 66 #[.slice a0 n0 c0,.slice a1 n1 c1,.bool f,.slice a3 n3 c3];have g0:=h0.below hA;have g1:=h1.below hA;have g3:=h3.below hA;obtain ⟨q0,q1,q2,q3⟩:=xm.cells4;have zm:=xm.lt;have fin:∀w1,Below w.heap.size w w1->aI.Own (w1.alloc (.cells #[] 3)) w.heap.size (w1.alloc (.cells #[] 3)).heap.size [.slice (some ⟨w1.heap.size,0,none⟩) 0 0] []/\Below w.heap.size w (w1.alloc (.cells #[] 3)):=by
  intro w1 hb;have hs:=hb.size;exact ⟨(aC (aT.lit .i64 3 w1 [] 0 #[] rfl rfl (by unfold maxLen;omega))).widen hs (Nat.le_refl _),hb.alloc hb.size _⟩
 by_cases hM:bT ss cs bs=true
 . by_cases hf:f=true
   . subst hf
     have hro:aK ss cs true bs n=false:=by unfold aK;rw [hM];rfl
     have hrd:aY ss cs true bs n=[]:=by unfold aY;rw [hro];rfl
     rw [hro,hrd];clear hro hrd;go_enter Tryz.func88,Tryz.ntmps88
     go_wp2_with fail
     generalize hW:w.alloc (.cells #[.slice a0 n0 c0,.slice a1 n1 c1,.bool true,.slice a3 n3 c3] 66)=W at hA g0 g1 g3 q0 q1 q2 q3 zm ⊢;clear hW xm;refine (aM _ E _ _ _ _ _ _ _ _ _ ss cs true bs g0 g1 g3 hw).mono ?_
     rintro e w1 ⟨rfl,b1⟩;have r0:=(b1.cell (p:=⟨w.heap.size,0,none⟩) zm).trans q0;have r1:=(b1.cell (p:=⟨w.heap.size,1,none⟩) zm).trans q1;have r2:=(b1.cell (p:=⟨w.heap.size,2,none⟩) zm).trans q2;have r3:=(b1.cell (p:=⟨w.heap.size,3,none⟩) zm).trans q3;have B1:=Below.andThen hA b1;have z1:=Nat.lt_of_lt_of_le zm b1.size;clear q0 q1 q2 q3;go_wp2
     go_ret2
     exact ⟨_,_,_,rfl,(fin _ B1).1,(fin _ B1).2⟩
   have hf:f=false:=by simpa using hf
   subst hf;by_cases hI:inB n 0 ((n0:Int)-1)=true
   . by_cases hB:inL bs n=true
     . have hro:aK ss cs false bs n=false:=by unfold aK;rw [hM,hl0,hI,hB];rfl
       have hrd:aY ss cs false bs n=[]:=by unfold aY;rw [hro];rfl
       rw [hro,hrd];clear hro hrd;go_enter Tryz.func88,Tryz.ntmps88
       go_wp2_with fail
       generalize hW:w.alloc (.cells #[.slice a0 n0 c0,.slice a1 n1 c1,.bool false,.slice a3 n3 c3] 66)=W at hA g0 g1 g3 q0 q1 q2 q3 zm ⊢;clear hW xm;refine (aM _ E _ _ _ _ _ _ _ _ _ ss cs false bs g0 g1 g3 hw).mono ?_
       rintro e w1 ⟨rfl,b1⟩;have r0:=(b1.cell (p:=⟨w.heap.size,0,none⟩) zm).trans q0;have r1:=(b1.cell (p:=⟨w.heap.size,1,none⟩) zm).trans q1;have r2:=(b1.cell (p:=⟨w.heap.size,2,none⟩) zm).trans q2;have r3:=(b1.cell (p:=⟨w.heap.size,3,none⟩) zm).trans q3;have B1:=Below.andThen hA b1;have z1:=Nat.lt_of_lt_of_le zm b1.size;clear q0 q1 q2 q3;have gw:IntKind.i64.wrap ((n0:Int)-1)=(n0:Int)-1:=IntWalk.i64_in _ (by omega);go_wp2_with fail
       refine (al _ _ _ _).mono ?_
       rintro e w2 ⟨rfl,hw2⟩;subst w2;have k3:=g3.below b1;go_wp2_with fail
       refine (fi _ _ _ _ bs _ hl3 (az k3).1 hw3).mono ?_
       rintro e w3 ⟨rfl,s3⟩;have B3:=Below.andSame B1 s3;go_wp2
       go_ret2
       exact ⟨_,_,_,rfl,(fin _ B3).1,(fin _ B3).2⟩
     have hB:inL bs n=false:=by simpa using hB
     have hro:aK ss cs false bs n=true:=by unfold aK;rw [hM,hl0,hI,hB];rfl
     have hrd:aY ss cs false bs n=(bL cs n).getD (dG ss n):=by unfold aY;rw [hro];rfl
     rw [hro,hrd];clear hro hrd;have hI':0<=n/\n<=(n0:Int)-1:=by unfold inB at hI;simpa using hI
     obtain ⟨k,rfl⟩:∃k:Nat,n=(k:Int):=⟨n.toNat,by omega⟩;have hk:k<n0:=by omega
     go_enter Tryz.func88,Tryz.ntmps88
     go_wp2_with fail
     generalize hW:w.alloc (.cells #[.slice a0 n0 c0,.slice a1 n1 c1,.bool false,.slice a3 n3 c3] 66)=W at hA g0 g1 g3 q0 q1 q2 q3 zm ⊢;clear hW xm;refine (aM _ E _ _ _ _ _ _ _ _ _ ss cs false bs g0 g1 g3 hw).mono ?_
     rintro e w1 ⟨rfl,b1⟩;have r0:=(b1.cell (p:=⟨w.heap.size,0,none⟩) zm).trans q0;have r1:=(b1.cell (p:=⟨w.heap.size,1,none⟩) zm).trans q1;have r2:=(b1.cell (p:=⟨w.heap.size,2,none⟩) zm).trans q2;have r3:=(b1.cell (p:=⟨w.heap.size,3,none⟩) zm).trans q3;have B1:=Below.andThen hA b1;have z1:=Nat.lt_of_lt_of_le zm b1.size;clear q0 q1 q2 q3;have gw:IntKind.i64.wrap ((n0:Int)-1)=(n0:Int)-1:=IntWalk.i64_in _ (by omega);go_wp2_with fail
     refine (al _ _ _ _).mono ?_
     rintro e w2 ⟨rfl,hw2⟩;subst w2;have k3:=g3.below b1;go_wp2_with fail
     refine (fi _ _ _ _ bs _ hl3 (az k3).1 hw3).mono ?_
     rintro e w3 ⟨rfl,s3⟩;have B3:=Below.andSame B1 s3;have m0:=(s3.cell _).trans r0;have m1:=(s3.cell _).trans r1;have b3:=Below.andSame b1 s3;have y1:=g1.below b3;rcases cT rfl g0 with h0'|⟨b,off,rfl,hbl,hcs⟩
     . omega
     have hdj:ss[k]?=some (ss[k]'(by omega)):=List.getElem?_eq_getElem (by omega);generalize ss[k]'(by omega)=x at hdj;have hil:=dr hdj;obtain ⟨v,hv,hrv⟩:=hcs k x hdj;obtain ⟨av,cv,rfl⟩:=aq hrv;have mv:=(b3.cell (p:=⟨b,off+k,none⟩) hbl).trans hv;have hrx:=hrv.below b3;have hgx:dG ss (k:Int)=x:=by unfold dG;rw [Int.toNat_natCast,List.getD_eq_getElem?_getD,hdj];rfl
     have HGX:=ab hgx;have HY:=ab y1;have HX:=ab hrx;have HB3:=ab B3;have i1:(0:Int)<=(k:Int):=by omega
     have i2:(k:Int)<(n0:Int):=by omega
     clear hcs hdj hv hrv hgx y1 hrx B3 b3 r0 r1 r2 r3 g0 g1 g3 k3 B1 b1 s3 hA fin hB hI hI' hM;go_wp2
     go_loopw [6,7] (fun sv i wr=>∃(j:Nat) (aj:Option Addr) (lj cj:Nat),j<=n1/\i=.int .i64 j/\sv=.slice aj lj cj/\aI.Rd w3 [.slice aj lj cj] ((bL (cs.take j) (k:Int)).getD x)/\lj<=2097152/\aG w3 wr) (fun _ i _=>n1-(intOf i).toNat)
     case atStart=>exact ⟨0,av,x.length,cv,Nat.zero_le _,rfl,rfl,HX.out,by omega,aG.refl _⟩
     obtain ⟨j,aj,lj,cj,hj,rfl,rfl,hrj,hlj,hs⟩:=hrel;have p1:=(hs.cell _).trans m1;have HRJ:=ab hrj;by_cases hjn:j<n1
     . rcases aX rfl HY.out with h0'|⟨bb,ob,rfl,hbb,hcs⟩
       . omega
       have hdj:cs[j]?=some (cs[j]'(by omega)):=List.getElem?_eq_getElem (by omega);have htk:cs.take (j+1)=cs.take j++[cs[j]'(by omega)]:=List.take_succ_eq_append_getElem (by omega);generalize cs[j]'(by omega)=y at hdj htk;have hil2:=bE hdj;obtain ⟨v0,v1,hv0,hv1,hry⟩:=hcs j y hdj;obtain ⟨rfl,hry'⟩:=bN hry;obtain ⟨ay,cy,rfl⟩:=aq hry';have u0:=(hs.cell ⟨bb,ob+j*2,none⟩).trans hv0;have u1:=(hs.cell ⟨bb,ob+j*2+1,none⟩).trans hv1;obtain ⟨y0,y1⟩:=y;simp only at u0 u1 hry' hil2
       have hls:=eF (cs.take j) (y0,y1) (k:Int);rw [←htk] at hls;have HRY:=ab hry';by_cases hy:y0=(k:Int)
       . have HLS:Hid (bL (cs.take (j+1)) (k:Int)=some y1):=by unfold Hid;rw [hls];simp [hy]
         subst hy;clear hcs hdj hv0 hv1 hry hry' htk hls hrj;go_wp2
         go_roundw
         case rel=>exact ⟨j+1,ay,y1.length,cy,by omega,by go_num,rfl,by rw [HLS.out];exact HRY.out,by omega,hs⟩
         case measure=>simp [intOf];omega
       have HLS:Hid (bL (cs.take (j+1)) (k:Int)=bL (cs.take j) (k:Int)):=by unfold Hid;rw [hls];simp [hy]
       clear hcs hdj hv0 hv1 hry hry' htk hls hrj;go_wp2
       go_roundw
       case rel=>exact ⟨j+1,aj,lj,cj,by omega,by go_num,rfl,by rw [HLS.out];exact HRJ.out,hlj,hs⟩
       case measure=>simp [intOf];omega
     have e:j=n1:=by omega
     subst e;rw [List.take_of_length_le (by omega)] at hrj;have HF:=ab hrj;have HZ:Hid ((bL cs (k:Int)).getD (dG ss (k:Int))=(bL cs (k:Int)).getD x):=by unfold Hid;rw [HGX.out]
     generalize (bL cs (k:Int)).getD x=zs at hrj HF HZ;obtain ⟨i0,hi,hz0,hz1,hz2⟩:=info_parts Tryz.info3;have hBr:=Below.andSame HB3.out hs;have hsr:=hBr.size;have hO:aT .i64 3 (wr.alloc (.cells #[] 3)) wr.heap.size (.slice (some ⟨wr.heap.size,0,none⟩) 0 0) []:=aT.lit .i64 3 wr [] 0 #[] rfl rfl (by unfold maxLen;omega);have hA2:Below wr.heap.size wr (wr.alloc (.cells #[] 3)):=(Below.refl _ _).alloc (Nat.le_refl _) _;obtain ⟨hr,hlz,_,_⟩:=az ((hrj.same hs).below hA2);have HO:=ab hO;have HR:=ab hr;have HA2:=ab (Below.andThen hBr hA2);clear hO hr hA2 hBr HRJ;match aj,hrj,HR,HF with
     | none,hrj,_,_=>
      obtain ⟨rfl,rfl,rfl⟩:=fs hrj;clear hrj;go_wp2_with (at_builtin;refine wpList_append_own_none rfl _ _ 42 rfl wr.heap.size 3 i0 1 Tryz.underlying42 hi _ 0 [] rfl ?_ rfl ?_;exact HO.out)
      go_ret2
      exact ⟨_,_,_,rfl,by rw [HZ.out];exact (aC HO.out).widen hsr (Nat.le_refl _),HA2.out⟩
     | some ad,hrj,HR,_=>
      clear hrj;go_wp2_with (at_builtin;refine cc .i64 rfl _ _ 42 rfl wr.heap.size 3 i0 (.int .i64 0) 8 Tryz.underlying42 hi hz0 hz1 hz2 rfl _ [] rfl ?_ ad lj cj zs rfl hlz ?_ (by unfold maxLen;simp;omega) (by simp;omega) (by simp) ?_;exact HO.out;exact HR.out;intro v' w9 ho9 hb9;obtain ⟨a9,c9,hv9,_⟩:=ho9.shape;rw [List.nil_append,hlz] at hv9;rw [List.nil_append] at ho9;subst hv9)
      go_ret2
      exact ⟨_,_,_,rfl,by rw [HZ.out];exact (aC ho9).widen hsr (Nat.le_refl _),HA2.out.trans (hb9.mono hsr)⟩
   have hI:inB n 0 ((n0:Int)-1)=false:=by simpa using hI
   have hro:aK ss cs false bs n=false:=by unfold aK;rw [hM,hl0,hI];rfl
   have hrd:aY ss cs false bs n=[]:=by unfold aY;rw [hro];rfl
   rw [hro,hrd];clear hro hrd;go_enter Tryz.func88,Tryz.ntmps88
   go_wp2_with fail
   generalize hW:w.alloc (.cells #[.slice a0 n0 c0,.slice a1 n1 c1,.bool false,.slice a3 n3 c3] 66)=W at hA g0 g1 g3 q0 q1 q2 q3 zm ⊢;clear hW xm;refine (aM _ E _ _ _ _ _ _ _ _ _ ss cs false bs g0 g1 g3 hw).mono ?_
   rintro e w1 ⟨rfl,b1⟩;have r0:=(b1.cell (p:=⟨w.heap.size,0,none⟩) zm).trans q0;have r1:=(b1.cell (p:=⟨w.heap.size,1,none⟩) zm).trans q1;have r2:=(b1.cell (p:=⟨w.heap.size,2,none⟩) zm).trans q2;have r3:=(b1.cell (p:=⟨w.heap.size,3,none⟩) zm).trans q3;have B1:=Below.andThen hA b1;have z1:=Nat.lt_of_lt_of_le zm b1.size;clear q0 q1 q2 q3;have gw:IntKind.i64.wrap ((n0:Int)-1)=(n0:Int)-1:=IntWalk.i64_in _ (by omega);go_wp2_with fail
   refine (al _ _ _ _).mono ?_
   rintro e w2 ⟨rfl,hw2⟩;subst w2;go_wp2
   go_ret2
   exact ⟨_,_,_,rfl,(fin _ B1).1,(fin _ B1).2⟩
 have hM:bT ss cs bs=false:=by simpa using hM
 have hro:aK ss cs f bs n=false:=by unfold aK;rw [hM];rfl
 have hrd:aY ss cs f bs n=[]:=by unfold aY;rw [hro];rfl
 rw [hro,hrd];clear hro hrd;go_enter Tryz.func88,Tryz.ntmps88
 go_wp2_with fail
 generalize hW:w.alloc (.cells #[.slice a0 n0 c0,.slice a1 n1 c1,.bool f,.slice a3 n3 c3] 66)=W at hA g0 g1 g3 q0 q1 q2 q3 zm ⊢;clear hW xm;refine (aM _ E _ _ _ _ _ _ _ _ _ ss cs f bs g0 g1 g3 hw).mono ?_
 rintro e w1 ⟨rfl,b1⟩;have r0:=(b1.cell (p:=⟨w.heap.size,0,none⟩) zm).trans q0;have r1:=(b1.cell (p:=⟨w.heap.size,1,none⟩) zm).trans q1;have r2:=(b1.cell (p:=⟨w.heap.size,2,none⟩) zm).trans q2;have r3:=(b1.cell (p:=⟨w.heap.size,3,none⟩) zm).trans q3;have B1:=Below.andThen hA b1;have z1:=Nat.lt_of_lt_of_le zm b1.size;clear q0 q1 q2 q3;go_wp2
 go_ret2
 exact ⟨_,_,_,rfl,(fin _ B1).1,(fin _ B1).2⟩
end Go.Proofs.YtfimpohbpccjaaaGreat

namespace Go.Proofs.YtfimpohbpccjaaaGreat
open Go.RowKit Go.ChangeShapes Go.WideShapes Go.ChangeAt Go.Joins Go.Deep
section
variable {H:Type} {enc:TypeId×Value->H} {P:Program} {w:World} {held:Bool}
theorem ec {t q:TypeId} {fuel:Nat} {v:Value} {x:DataW H×List MemPlace} (ht:P.underlying t=some (.slice q)) (hq:P.underlying q=some (.int .i64)) (cq:P.cellsOf q=1)
 (h:DataW.trod enc P w 0 (fun _=>true) held fuel t [v]=some x):∃zs,aI.Rd w [v] zs:=by
 rcases open_ints ht hq cq h with ⟨hcs,_⟩|⟨a,len,cap,zs,hcs,_,hl,hm,hz,_,hcell,hwz⟩
 . simp at hcs
   subst hcs;exact ⟨[],ew (.inl rfl) (Nat.le_refl _) (by simp) (fun _=>rfl)⟩
 simp at hcs
 subst hcs;have hr:iB .i64 w (some a) len cap zs:=.inr ⟨_,rfl,hl,hm,by simpa using hz,hcell,hwz⟩;obtain ⟨h1,h2,_,_⟩:=hr.reads;refine ⟨zs.take len,?_⟩
 have:=ew (E:=3) (cap:=cap) h1 (by omega) (by unfold maxLen at hm;omega) (by simp);rw [h2] at this;exact this
theorem gQ {t:Ty} {E:TypeId} {a:Addr} {len cap:Nat} (hl:len<=cap) (hm:cap<=9223372036854775807) (cs:Nat->List Value) (hn:0<t.n) (hcl:∀i,i<len->(cs i).length=t.n)
 (hc:∀i,i<len->∀j,j<t.n->w.cell? (a.add (i*t.n+j))=(cs i)[j]?) (hx:∀i,i<len->∃x,t.Rd w (cs i) x):∃d,(bF t E).Rd w [.slice (some a) len cap] d:=by
 have each:∀i,i<len->∃y:t.D×List Nat,t.rd w (cs i) y.1 y.2:=by
  intro i hi;obtain ⟨x,fp,h⟩:=hx i hi;exact ⟨(x,fp),h⟩
 by_cases h0:len=0
 . subst h0
   exact ⟨[],[],some a,cap,rfl,by simp,hm,.inl ⟨rfl,rfl,by simp⟩⟩
 have hne:Nonempty (t.D×List Nat):=by
  obtain ⟨y,_⟩:=each 0 (by omega);exact ⟨y⟩
 have hch:∃f:Nat->t.D×List Nat,∀i,i<len->t.rd w (cs i) (f i).1 (f i).2:=by
  refine ⟨fun i=>if h:i<len then Classical.choose (each i h) else Classical.choice hne,fun i hi=>?_⟩
  simp only [dif_pos hi]
  exact Classical.choose_spec (each i hi)
 obtain ⟨f,hf⟩:=hch;obtain ⟨b,off,spot⟩:=a;have hc0:=hc 0 (by omega) 0 hn;have hsome:∃v0,(cs 0)[0]?=some v0:=⟨(cs 0)[0]'(by rw [hcl 0 (by omega)];exact hn),List.getElem?_eq_getElem _⟩;obtain ⟨v0,hv0⟩:=hsome;rw [hv0] at hc0;have hspot:spot=none:=by simpa [Addr.add] using World.cell?_spot hc0
 subst hspot;have ea:∀k,(⟨b,off,none⟩:Addr).add k=⟨b,off+k,none⟩:=by
  intro k;unfold Addr.add;split<;>simp_all
 rw [ea] at hc0;have hblt:b<w.heap.size:=World.block_lt_of_cell? w _ hc0;refine ⟨(List.range len).map fun i=>(f i).1,b :: ((List.range len).map fun i=>(f i).2).flatten,_,cap,by simp,by simpa using hl,hm,.inr ⟨b,off,(List.range len).map fun i=>(f i).2,rfl,hblt,rfl,by simp,fun i x hxi=>?_⟩⟩
 have hi:i<len:=by
  have:=(List.getElem?_eq_some_iff.1 hxi).1;simpa using this
 rw [List.getElem?_map,List.getElem?_range hi] at hxi;simp at hxi
 subst hxi;refine ⟨(f i).2,cs i,by rw [List.getElem?_map,List.getElem?_range hi];rfl,hf i hi,fun j hj=>?_⟩
 rw [←ea];exact hc i hi j hj
theorem gR {t e q:TypeId} {fuel:Nat} {v:Value} {x:DataW H×List MemPlace} (ht:P.underlying t=some (.slice e)) (he:P.underlying e=some (.slice q)) (hq:P.underlying q=some (.int .i64)) (ce:P.cellsOf e=1) (cq:P.cellsOf q=1)
 (h:DataW.trod enc P w 0 (fun _=>true) held fuel t [v]=some x):∃d,bj.Rd w [v] d:=by
 rcases open_slice1 ht ce h with ⟨hcs,_⟩|⟨a,len,cap,m,n,V,D,Pl,hcs,_,hl,hm,hmm,_,hx⟩
 . simp at hcs
   subst hcs;exact ⟨[],[],none,0,rfl,by simp,by simp,.inl ⟨rfl,rfl,fun _=>rfl⟩⟩
 simp at hcs
 subst hcs;simp only [if_true] at hmm
 refine gQ hl (by unfold maxLen at hm;omega) (fun i=>[V i]) (by decide) (fun _ _=>rfl) (fun i hi j hj=>?_) (fun i hi=>ec he hq cq (hx i (by omega)).2)
 have hj0:j=0:=by have:j<1:=hj;omega
 subst hj0;have:=(hx i (by omega)).1;show w.cell? (a.add (i*1+0))=some (V i)
 rw [Nat.mul_one,Nat.add_zero];exact this
theorem ge {t e q:TypeId} {f0 f1:Field} {E:TypeId} {fuel:Nat} {v:Value} {x:DataW H×List MemPlace} (ht:P.underlying t=some (.slice e)) (he:P.underlying e=some (.struct #[f0,f1])) (ce:P.cellsOf e=2) (o0:f0.offset=0) (o1:f1.offset=1) (c0:P.cellsOf f0.type=1) (c1:P.cellsOf f1.type=1)
 (hi0:P.underlying f0.type=some (.int .i64)) (hi1:P.underlying f1.type=some (.slice q)) (hq:P.underlying q=some (.int .i64)) (cq:P.cellsOf q=1)
 (h:DataW.trod enc P w 0 (fun _=>true) held fuel t [v]=some x):∃d,(aV E).Rd w [v] d:=by
 rcases open_slice_pairs ht he ce o0 o1 c0 c1 h with ⟨hcs,_⟩|⟨a,len,cap,m,n,V0,V1,D0,D1,P0,P1,hcs,_,hl,hm,hmm,_,hx⟩
 . simp at hcs
   subst hcs;exact ⟨[],[],none,0,rfl,by simp,by simp,.inl ⟨rfl,rfl,fun _=>rfl⟩⟩
 simp at hcs
 subst hcs;simp only [if_true] at hmm
 refine gQ hl (by unfold maxLen at hm;omega) (fun i=>[V0 i,V1 i]) (by decide) (fun _ _=>rfl) (fun i hi j hj=>?_) (fun i hi=>?_)
 . have hj2:j<2:=hj
   obtain ⟨h0,h1,_⟩:=hx i (by omega);match j,hj2 with
   | 0,_=>exact h0
   | 1,_=>exact h1
 obtain ⟨_,_,h2,h3⟩:=hx i (by omega);obtain ⟨y,hy,_,_⟩:=DataW.trod_int hi0 h2;obtain ⟨zs,hzs⟩:=ec hi1 hq cq h3;simp at hy
 exact ⟨(y,zs),by rw [hy];exact dg (t:=dq) (vs:=[_]) ⟨[],rfl,rfl⟩ hzs⟩
end
end Go.Proofs.YtfimpohbpccjaaaGreat


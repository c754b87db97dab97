/-
 The walk of the specification's l6Copy: the same array in memory of its own. Condition: it weighs at most 2097152.
-/
import Derived.Test.YtgjomldcnjjpaaaGreatRowArrsSq11
import Derived.Test.YtgjomldcnjjpaaaGreatRowArrsSq2
import Derived.Test.YtgjomldcnjjpaaaGreatRowArrsSq9
import Derived.Test.YtgjomldcnjjpaaaGreatRowArrsSq8
import Derived.Test.YtgjomldcnjjpaaaGreatRowArrsSq5
import Derived.Test.YtgjomldcnjjpaaaGreatRowArrsSq10
import Derived.WideLaws
import Derived.Test.YtgjomldcnjjpaaaGreatRowArrsSq1

set_option maxRecDepth 100000
set_option maxHeartbeats 8000000
set_option linter.unusedSimpArgs false

namespace Go.Proofs.YtgjomldcnjjpaaaGreat
open Go.RowKit

theorem nine9 {l:List Int} (h:l.length=9):∃a b c d e f g i j:Int,l=[a,b,c,d,e,f,g,i,j]:=by
 match l,h with
 | [a,b,c,d,e,f,g,i,j],_=>exact ⟨a,b,c,d,e,f,g,i,j,rfl⟩
def dE (x:Sup):List Int:=if ft x=true then [21317,x.id,x.gen,x.role,x.n,x.s,x.tail,x.lost+1,x.xW] else []
theorem tL {x:Sup} (h:ft x=true):dE x=[21317,x.id,x.gen,x.role,x.n,x.s,x.tail,x.lost+1,x.xW]:=by unfold dE;rw [if_pos h]
theorem rn {x:Sup} (h:ft x=false):dE x=[]:=by unfold dE;rw [if_neg (by simp [h])]
theorem ln (w:World) (x:Sup) (hx:ft x=true):Calls Tryz.prog 106 #[.agg #[.int .i64 x.id,.int .i64 x.gen,.int .i64 x.role,.int .i64 x.n,.int .i64 x.s,.int .i64 x.tail,.int .i64 x.lost,.int .i64 x.xW]] w fun e w'=>e=.returned (.agg #[.int .i64 21317,.int .i64 x.id,.int .i64 x.gen,.int .i64 x.role,.int .i64 x.n,.int .i64 x.s,.int .i64 x.tail,.int .i64 (x.lost+1),.int .i64 x.xW])/\Below w.heap.size w w':=by
 obtain ⟨_,hl,_⟩:=eV.1 hx;have gw:IntKind.i64.wrap (x.lost+1)=x.lost+1:=IntWalk.i64_in _ (by have:=(eV.1 hx).1;omega);clear hl hx;go_enter Tryz.func106,Tryz.ntmps106
 go_wp2
 refine bodyPost_ret (v:=.agg #[.int .i64 21317,.int .i64 x.id,.int .i64 x.gen,.int .i64 x.role,.int .i64 x.n,.int .i64 x.s,.int .i64 x.tail,.int .i64 (x.lost+1),.int .i64 x.xW]) (by simp [results,Tryz.results106,go_sem]) rfl ?_
 refine ⟨rfl,?_⟩
 exact (af w _).alloc (by simp) _
theorem ij (w:World) (x:Sup):Calls Tryz.prog 44 #[.agg #[.int .i64 x.id,.int .i64 x.gen,.int .i64 x.role,.int .i64 x.n,.int .i64 x.s,.int .i64 x.tail,.int .i64 x.lost,.int .i64 x.xW]] w fun e w'=>∃a l c,e=.returned (.slice a l c)/\aD.Own w' w.heap.size w'.heap.size [.slice a l c] (dE x)/\Below w.heap.size w w':=by
 have hA:=af w (.cells #[.int .i64 x.id,.int .i64 x.gen,.int .i64 x.role,.int .i64 x.n,.int .i64 x.s,.int .i64 x.tail,.int .i64 x.lost,.int .i64 x.xW] 71);have X:=Box.new w 71 #[.int .i64 x.id,.int .i64 x.gen,.int .i64 x.role,.int .i64 x.n,.int .i64 x.s,.int .i64 x.tail,.int .i64 x.lost,.int .i64 x.xW];obtain ⟨k0,k1,k2,k3,k4,k5,k6,k7⟩:=X.cells8;have zA:=X.lt;go_enter Tryz.func44,Tryz.ntmps44
 go_wp2_with fail
 generalize w.alloc (.cells #[.int .i64 x.id,.int .i64 x.gen,.int .i64 x.role,.int .i64 x.n,.int .i64 x.s,.int .i64 x.tail,.int .i64 x.lost,.int .i64 x.xW] 71)=W at hA X k0 k1 k2 k3 k4 k5 k6 k7 zA ⊢;refine (mM _ _).mono ?_
 rintro e w1 ⟨rfl,b1⟩;have X1:=X.below b1 zA;have B1:=Below.andThen hA b1;clear k0 k1 k2 k3 k4 k5 k6 k7 X b1 hA zA;obtain ⟨k0,k1,k2,k3,k4,k5,k6,k7⟩:=X1.cells8;by_cases hx:ft x=true
 . have gw:IntKind.i64.wrap (x.lost+1)=x.lost+1:=IntWalk.i64_in _ (by have:=eV.1 hx;omega)
   have HX:=aa (tL hx);go_wp2
   go_ret
   refine ⟨_,_,_,rfl,?_,B1.alloc B1.size _⟩
   rw [HX.out];exact (aS (bk.lit .i64 3 w1 [21317,x.id,x.gen,x.role,x.n,x.s,x.tail,x.lost+1,x.xW] 9 _ (by simp) rfl (by unfold maxLen;omega))).widen B1.size (Nat.le_refl _)
 have hx':ft x=false:=by simpa using hx
 have HX:=aa (rn hx');go_wp2
 go_ret
 refine ⟨_,_,_,rfl,?_,B1.alloc B1.size _⟩
 rw [HX.out];exact (aS (bk.lit .i64 3 w1 [] 0 #[] rfl rfl (by unfold maxLen;omega))).widen B1.size (Nat.le_refl _)
theorem ik (w:World) (x:Sup):Calls Tryz.prog 86 #[.agg #[.int .i64 x.id,.int .i64 x.gen,.int .i64 x.role,.int .i64 x.n,.int .i64 x.s,.int .i64 x.tail,.int .i64 x.lost,.int .i64 x.xW]] w fun e w'=>∃a l c,e=.returned (.slice a l c)/\aD.Own w' w.heap.size w'.heap.size [.slice a l c] (dE x)/\Below w.heap.size w w':=by
 have hA:=af w (.cells #[.int .i64 x.id,.int .i64 x.gen,.int .i64 x.role,.int .i64 x.n,.int .i64 x.s,.int .i64 x.tail,.int .i64 x.lost,.int .i64 x.xW] 71);have X:=Box.new w 71 #[.int .i64 x.id,.int .i64 x.gen,.int .i64 x.role,.int .i64 x.n,.int .i64 x.s,.int .i64 x.tail,.int .i64 x.lost,.int .i64 x.xW];obtain ⟨k0,k1,k2,k3,k4,k5,k6,k7⟩:=X.cells8;have zA:=X.lt;go_enter Tryz.func86,Tryz.ntmps86
 go_wp2_with fail
 generalize w.alloc (.cells #[.int .i64 x.id,.int .i64 x.gen,.int .i64 x.role,.int .i64 x.n,.int .i64 x.s,.int .i64 x.tail,.int .i64 x.lost,.int .i64 x.xW] 71)=W at hA X k0 k1 k2 k3 k4 k5 k6 k7 zA ⊢;refine (eC _ _).mono ?_
 rintro e w1 ⟨rfl,b1⟩;have X1:=X.below b1 zA;have B1:=Below.andThen hA b1;clear k0 k1 k2 k3 k4 k5 k6 k7 X b1 hA zA;obtain ⟨k0,k1,k2,k3,k4,k5,k6,k7⟩:=X1.cells8;by_cases hx:ft x=true
 . have HX:=aa (tL hx)
   go_wp2_with fail
   refine (ln _ _ hx).mono ?_
   rintro e w2 ⟨rfl,b2⟩;have B2:=Below.andThen B1 b2;clear k0 k1 k2 k3 k4 k5 k6 k7 X1 b2 B1;have hR:aD.Rd (w2.alloc (.cells #[.int .i64 21317,.int .i64 x.id,.int .i64 x.gen,.int .i64 x.role,.int .i64 x.n,.int .i64 x.s,.int .i64 x.tail,.int .i64 (x.lost+1),.int .i64 x.xW] 133)) [.slice (some ⟨w2.heap.size,0,none⟩) 9 9] [21317,x.id,x.gen,x.role,x.n,x.s,x.tail,x.lost+1,x.xW]:=sK (zs:=[21317,x.id,x.gen,x.role,x.n,x.s,x.tail,x.lost+1,x.xW]) (aJ.new .i64 w2 133 _ _ (by simp)) (by simp) (by omega) (by simp);have B3:=B2.alloc B2.size (.cells #[.int .i64 21317,.int .i64 x.id,.int .i64 x.gen,.int .i64 x.role,.int .i64 x.n,.int .i64 x.s,.int .i64 x.tail,.int .i64 (x.lost+1),.int .i64 x.xW] 133);have z3:=B3.size;go_wp2_with fail
   generalize w2.alloc (.cells #[.int .i64 21317,.int .i64 x.id,.int .i64 x.gen,.int .i64 x.role,.int .i64 x.n,.int .i64 x.s,.int .i64 x.tail,.int .i64 (x.lost+1),.int .i64 x.xW] 133)=w3 at hR B3 z3 ⊢;refine (bP _ _ _ _ _ hR (by omega)).mono ?_
   rintro e w4 ⟨a',c',rfl,o4,b4⟩;go_wp2
   go_ret
   refine ⟨_,_,_,rfl,?_,Below.andThen B3 b4⟩
   rw [HX.out];exact o4.widen z3 (Nat.le_refl _)
 have hx':ft x=false:=by simpa using hx
 have HX:=aa (rn hx');go_wp2
 go_ret
 refine ⟨_,_,_,rfl,?_,B1.alloc B1.size _⟩
 rw [HX.out];exact (aS (bk.lit .i64 3 w1 [] 0 #[] rfl rfl (by unfold maxLen;omega))).widen B1.size (Nat.le_refl _)
theorem iY (g:Int) (w:World) (h:0<=g):Calls Tryz.prog 85 #[.int .i64 g] w fun e w'=>e=.returned (.int .i64 (g % 2))/\w'=w:=by
 have e1:g.tmod 2=g % 2:=Int.tmod_eq_emod_of_nonneg h;go_enter Tryz.func85,Tryz.ntmps85
 go_wp2
 go_ret
 exact ⟨aF (by first|rfl|exact e1),rfl⟩
theorem de {w w':World} {e:Ending} {n0 n1 n3:Nat} {ss:List (List Int)} {cs:List (Int×List Int)} {f:Bool} {bs:List Int} (hl0:ss.length=n0) (hl1:cs.length=n1) (hl3:bs.length=n3)
 (h:∃v0 v1 v3 m1 m2,e=.returned (.agg #[v0,v1,.bool f,v3])/\aD.Own w' w.heap.size m1 [v3] bs/\aU.Own w' m1 m2 [v0] ss/\(aW 119).Own w' m2 w'.heap.size [v1] cs/\m1<=m2/\w.heap.size<=m1/\m2<=w'.heap.size/\Below w.heap.size w w'):
 ∃b0 b1 b3 e0 e1 e3 m1 m2,e=.returned (.agg #[.slice b0 n0 e0,.slice b1 n1 e1,.bool f,.slice b3 n3 e3])/\aD.Own w' w.heap.size m1 [.slice b3 n3 e3] bs/\aU.Own w' m1 m2 [.slice b0 n0 e0] ss/\(aW 119).Own w' m2 w'.heap.size [.slice b1 n1 e1] cs/\m1<=m2/\w.heap.size<=m1/\m2<=w'.heap.size/\Below w.heap.size w w':=by
 obtain ⟨v0,v1,v3,m1,m2,rfl,o3,o0,o1,r⟩:=h;obtain ⟨b0,e0,hv0⟩:=aC o0.rd;obtain ⟨b1,e1,hv1⟩:=aC o1.rd;obtain ⟨b3,e3,hv3⟩:=aC o3.rd;rw [hl0] at hv0;rw [hl1] at hv1;rw [hl3] at hv3;subst hv0 hv1 hv3;exact ⟨b0,b1,b3,e0,e1,e3,m1,m2,rfl,o3,o0,o1,r⟩
theorem iT (w:World) (E:TypeId) (a0 a1 a3:Option Addr) (n0 c0 n1 c1 n3 c3:Nat) (ss:List (List Int)) (cs:List (Int×List Int)) (f:Bool) (bs:List Int) (h0:aU.Rd w [.slice a0 n0 c0] ss) (h1:(aW E).Rd w [.slice a1 n1 c1] cs) (h3:aD.Rd w [.slice a3 n3 c3] bs) (hw:aM (ss,cs,f,bs)<=2097152):
 Calls Tryz.prog 95 #[.agg #[.slice a0 n0 c0,.slice a1 n1 c1,.bool f,.slice a3 n3 c3]] w fun e w'=>∃v0 v1 v3,e=.returned (.agg #[v0,v1,.bool true,v3])/\(cu 119).Own w' w.heap.size w'.heap.size [v0,v1,.bool true,v3] (ss,[],true,bs)/\Below w.heap.size w w':=by
 obtain ⟨hl0,_,hm0⟩:=ag h0;obtain ⟨hl1,_,hm1⟩:=ag h1;obtain ⟨hl3,_,hm3⟩:=ag h3;have hA:Below w.heap.size w ((w.alloc (.cells #[.slice a0 n0 c0,.slice a1 n1 c1,.bool f,.slice a3 n3 c3] 55)).alloc (.cells #[.slice none 0 0,.slice none 0 0,.bool false,.slice none 0 0] 55)):=((Below.refl _ _).alloc (Nat.le_refl _) _).alloc (by simp) _;have xr:Box ((w.alloc (.cells #[.slice a0 n0 c0,.slice a1 n1 c1,.bool f,.slice a3 n3 c3] 55)).alloc (.cells #[.slice none 0 0,.slice none 0 0,.bool false,.slice none 0 0] 55)) (w.heap.size+1) 55 #[.slice none 0 0,.slice none 0 0,.bool false,.slice none 0 0]:=by
  have:=Box.new (w.alloc (.cells #[.slice a0 n0 c0,.slice a1 n1 c1,.bool f,.slice a3 n3 c3] 55)) 55 #[.slice none 0 0,.slice none 0 0,.bool false,.slice none 0 0];rw [show (w.alloc (.cells #[.slice a0 n0 c0,.slice a1 n1 c1,.bool f,.slice a3 n3 c3] 55)).heap.size=w.heap.size+1 by simp] at this;exact this
 go_enter Tryz.func95,Tryz.ntmps95
 go_wp2_with fail
 generalize hW:(w.alloc (.cells #[.slice a0 n0 c0,.slice a1 n1 c1,.bool f,.slice a3 n3 c3] 55)).alloc (.cells #[.slice none 0 0,.slice none 0 0,.bool false,.slice none 0 0] 55)=W at hA xr ⊢;clear hW;have zr:=xr.lt;refine (fE _ E _ _ _ _ _ _ _ _ _ ss cs f bs (h0.below hA) (h1.below hA) (h3.below hA) hw).mono ?_
 intro e w1 hc;obtain ⟨b0,b1,b3,e0,e1,e3,m1,m2,rfl,o3,o0,o1,r1,r2,r3,bb⟩:=de hl0 hl1 hl3 hc;clear hc;have z1:=bb.size;have ba:Below w1.heap.size w1 ((w1.alloc (.cells #[.slice b0 n0 e0,.slice (some ⟨w1.heap.size+1,0,none⟩) 0 0,.bool true,.slice b3 n3 e3] 55)).alloc (.cells #[] 119)):=((Below.refl _ _).alloc (Nat.le_refl _) _).alloc (by simp) _;have sW:w.heap.size+2<=W.heap.size:=by omega
 have yr:=(xr.below bb zr).below ba (by omega);have k0:=o0.below ba;have k3:=o3.below ba;have kb:=hA.trans ((bb.mono (by omega:w.heap.size<=W.heap.size)).trans (ba.mono (by omega)));have kl:(aW 119).Own ((w1.alloc (.cells #[.slice b0 n0 e0,.slice (some ⟨w1.heap.size+1,0,none⟩) 0 0,.bool true,.slice b3 n3 e3] 55)).alloc (.cells #[] 119)) (w1.heap.size+1) (w1.heap.size+2) [.slice (some ⟨w1.heap.size+1,0,none⟩) 0 0] []:=by
  have:=ig (t:=tWr) (E:=119) (w1.alloc (.cells #[.slice b0 n0 e0,.slice (some ⟨w1.heap.size+1,0,none⟩) 0 0,.bool true,.slice b3 n3 e3] 55));rw [show (w1.alloc (.cells #[.slice b0 n0 e0,.slice (some ⟨w1.heap.size+1,0,none⟩) 0 0,.bool true,.slice b3 n3 e3] 55)).heap.size=w1.heap.size+1 by simp] at this;exact this.own (fun b hb=>by simp at hb;omega)
 have HZ:Hid (((w1.alloc (.cells #[.slice b0 n0 e0,.slice (some ⟨w1.heap.size+1,0,none⟩) 0 0,.bool true,.slice b3 n3 e3] 55)).alloc (.cells #[] 119)).heap.size=w1.heap.size+2):=by unfold Hid;simp
 obtain ⟨p0,p1,p2,p3⟩:=yr.cells4;have fz:=yr.frozen;clear o0 o1 o3;go_wp2
 generalize ((w1.alloc (.cells #[.slice b0 n0 e0,.slice (some ⟨w1.heap.size+1,0,none⟩) 0 0,.bool true,.slice b3 n3 e3] 55)).alloc (.cells #[] 119))=w2 at ba yr k0 k3 kb kl HZ p0 p1 p2 p3 fz ⊢;have z2:=HZ.out;have hbt:But (w.heap.size+1) (w.heap.size+2) w2 ((((w2.setCell ⟨w.heap.size+1,0,none⟩ (.slice b0 n0 e0)).setCell ⟨w.heap.size+1,1,none⟩ (.slice (some ⟨w1.heap.size+1,0,none⟩) 0 0)).setCell ⟨w.heap.size+1,2,none⟩ (.bool true)).setCell ⟨w.heap.size+1,3,none⟩ (.slice b3 n3 e3)):=
  (((But.setCell (by omega) (by omega) _).trans (But.setCell (by omega) (by omega) _)).trans (But.setCell (by omega) (by omega) _)).trans (But.setCell (by omega) (by omega) _)
 have z3:=hbt.size;refine bodyPost_ret (v:=.agg #[.slice b0 n0 e0,.slice (some ⟨w1.heap.size+1,0,none⟩) 0 0,.bool true,.slice b3 n3 e3]) (by simp [results,Tryz.results95,go_sem,p0,p1,p2,p3]) rfl ?_
 refine ⟨_,_,_,rfl,cH (k0.but hbt (by omega)) (kl.but hbt (by omega)) (k3.but hbt (by omega)) (by omega) (by omega) (by omega) (by omega) (by omega) (by omega),Below.andBut kb hbt (by omega)⟩
end Go.Proofs.YtgjomldcnjjpaaaGreat

namespace Go.Proofs.YtgjomldcnjjpaaaGreat
open Go.RowKit Go.Maps
def ib (w:World) (ks:List (Int×List Int)) (j:Nat) (D:DataW Value):Prop:=
 ∀q:Nat,j<=q->(cB ks (q:Int)=none->Maps.has D (.int .i64 q)=false)/\∀zs,cB ks (q:Int)=some zs->Maps.has D (.int .i64 q)=true/\∃a cap,(∀z,D.atKey (.int .i64 q) z=.held (.agg #[.int .i64 q,.slice a zs.length cap]))/\aD.Rd w [.slice a zs.length cap] zs
theorem fG.rest {w:World} {ks:List (Int×List Int)} {D:DataW Value} (h:fG w ks D):ib w ks 0 D:=fun q _=>⟨(h q).1,fun zs hz=>by
 obtain ⟨h1,a,n,cap,h2,h3⟩:=(h q).2 zs hz;obtain ⟨hl,_,_⟩:=ag h3;subst hl;exact ⟨h1,a,cap,h2,h3⟩⟩
theorem ib.next {w:World} {ks:List (Int×List Int)} {j:Nat} {D:DataW Value} (h:ib w ks j D):ib w ks (j+1) D:=fun q hq=>h q (by omega)
theorem ib.del {w:World} {ks:List (Int×List Int)} {j:Nat} {D:DataW Value} (h:ib w ks j D):ib w ks (j+1) (D.del (.int .i64 j)):=by
 intro q hq;have hne:(Lit.int .i64 (q:Int))≠Lit.int .i64 (j:Int):=fun e=>by simp at e;omega
 obtain ⟨h1,h2⟩:=h q (by omega);refine ⟨fun e=>by rw [has_del_other hne];exact h1 e,fun zs e=>?_⟩
 obtain ⟨h3,a,cap,h4,h5⟩:=h2 zs e;exact ⟨by rw [has_del_other hne];exact h3,a,cap,fun z=>by rw [atKey_del_other hne];exact h4 z,h5⟩
theorem ib.empty {w:World} {ks:List (Int×List Int)} {j:Nat} {D:DataW Value} (h:ib w ks j D) (hD:IsMap D) (hz:Maps.size D=0):∀q:Nat,j<=q->cB ks (q:Int)=none:=by
 intro q hq;cases hl:cB ks (q:Int) with
 | none=>rfl
 | some zs=>
  have h1:=((h q hq).2 zs hl).1;obtain ⟨es,rfl⟩:=hD;have h2:es=[]:=List.eq_nil_of_length_eq_zero hz;subst h2;simp [Maps.has] at h1
theorem ut {w:World} {ops:Array Oper} {rest:List Oper} {o:Oper} {a:Act} {Q:Exit->Act->World->Prop} (hg:o.guard=none) (m x:Operand) (hop:o.op=Op.lookup 136 m x true) (b n:Nat) (D:DataW Value) (q:Int) (v:Value)
 (hm:a.eval m=.map (some b)) (hown:w.ownsMap Tryz.prog 3 fy b n D) (hx:a.eval x=.int .i64 q) (hkey:keyOf Tryz.prog 3 (.int .i64 q)=some (.int .i64 q)) (h1:Maps.has D (.int .i64 q)=true) (h2:∀z,D.atKey (.int .i64 q) z=.held v)
 (hK:wpList Tryz.prog ops Q rest (a.put o.dst (.tuple #[v,.bool true])) w):wpList Tryz.prog ops Q (o :: rest) a w:=by
 refine wpList_lookup_own_ok w hg m x _ hop 3 119 lq Tryz.underlying136 fy (qw w) (.held (.agg #[.int .i64 0,.slice none 0 0])) [] rfl b n D hm hown _ _ hx hkey ?_
 intro v' ps hv;rw [h2] at hv;have hv':v'=v:=by simp [fy] at hv;exact hv.1
 subst hv';rw [h1];exact hK
theorem uu {w:World} {ops:Array Oper} {rest:List Oper} {o:Oper} {a:Act} {Q:Exit->Act->World->Prop} (hg:o.guard=none) (m x:Operand) (hop:o.op=Op.lookup 136 m x true) (b n:Nat) (D:DataW Value) (q:Int)
 (hm:a.eval m=.map (some b)) (hown:w.ownsMap Tryz.prog 3 fy b n D) (hx:a.eval x=.int .i64 q) (hkey:keyOf Tryz.prog 3 (.int .i64 q)=some (.int .i64 q)) (h1:Maps.has D (.int .i64 q)=false)
 (hK:wpList Tryz.prog ops Q rest (a.put o.dst (.tuple #[.agg #[.int .i64 0,.slice none 0 0],.bool false])) w):wpList Tryz.prog ops Q (o :: rest) a w:=by
 refine wpList_lookup_own_ok w hg m x _ hop 3 119 lq Tryz.underlying136 fy (qw w) (.held (.agg #[.int .i64 0,.slice none 0 0])) [] rfl b n D hm hown _ _ hx hkey ?_
 intro v ps hv;rw [Maps.atKey_of_not_has h1] at hv;have hv':v=.agg #[.int .i64 0,.slice none 0 0]:=by simp [fy] at hv;exact hv.1
 subst hv';rw [h1];exact hK
theorem Below.grows {w w':World} (h:Below w.heap.size w w'):w.grownBy w' none:=⟨h.os,h.tape,h.output,h.size,fun k hk _=>h.block k hk⟩
theorem sR (w:World) (E Ek:TypeId) (a0 a1 a3 ak:Option Addr) (n0 c0 n1 c1 n3 c3 nk ck:Nat) (ss:List (List Int)) (cs:List (Int×List Int)) (f:Bool) (bs:List Int) (h0:aU.Rd w [.slice a0 n0 c0] ss) (h1:(aW E).Rd w [.slice a1 n1 c1] cs) (h3:aD.Rd w [.slice a3 n3 c3] bs) (hw:aM (ss,cs,f,bs)<=2097152) (ks:List (Int×List Int)) (hk:(aW Ek).Rd w [.slice ak nk ck] ks) (hwk:aX ks<=2097152) (hks:∀x∈ks,0<=x.1/\x.1<=20) (hn20:n0<=20):
 Calls Tryz.prog 91 #[.agg #[.slice a0 n0 c0,.slice a1 n1 c1,.bool f,.slice a3 n3 c3],.slice ak nk ck] w fun e w'=>∃v0 v1 v3,e=.returned (.agg #[v0,v1,.bool f,v3])/\(cu 119).Own w' w.heap.size w'.heap.size [v0,v1,.bool f,v3] (dJ ss ks,[],f,bs)/\Below w.heap.size w w':=by
 obtain ⟨hl0,_,hm0⟩:=ag h0;obtain ⟨hl1,_,hm1⟩:=ag h1;obtain ⟨hl3,_,hm3⟩:=ag h3;have hA:Below w.heap.size w ((w.alloc (.cells #[.slice a0 n0 c0,.slice a1 n1 c1,.bool f,.slice a3 n3 c3] 55)).alloc (.cells #[.slice none 0 0,.slice none 0 0,.bool false,.slice none 0 0] 55)):=((Below.refl _ _).alloc (Nat.le_refl _) _).alloc (by simp) _;have xr:Box ((w.alloc (.cells #[.slice a0 n0 c0,.slice a1 n1 c1,.bool f,.slice a3 n3 c3] 55)).alloc (.cells #[.slice none 0 0,.slice none 0 0,.bool false,.slice none 0 0] 55)) (w.heap.size+1) 55 #[.slice none 0 0,.slice none 0 0,.bool false,.slice none 0 0]:=by
  have:=Box.new (w.alloc (.cells #[.slice a0 n0 c0,.slice a1 n1 c1,.bool f,.slice a3 n3 c3] 55)) 55 #[.slice none 0 0,.slice none 0 0,.bool false,.slice none 0 0];rw [show (w.alloc (.cells #[.slice a0 n0 c0,.slice a1 n1 c1,.bool f,.slice a3 n3 c3] 55)).heap.size=w.heap.size+1 by simp] at this;exact this
 go_enter Tryz.func91,Tryz.ntmps91
 go_wp2_with fail
 generalize hW:(w.alloc (.cells #[.slice a0 n0 c0,.slice a1 n1 c1,.bool f,.slice a3 n3 c3] 55)).alloc (.cells #[.slice none 0 0,.slice none 0 0,.bool false,.slice none 0 0] 55)=W at hA xr ⊢;clear hW;have zr:=xr.lt;refine (eP _ E _ _ _ _ _ _ _ _ _ ss cs f bs (h0.below hA) (h1.below hA) (h3.below hA) hw).mono ?_
 intro e w1 hc;obtain ⟨b0,b1,b3,e0,e1,e3,m1,m2,rfl,o3,o0,o1,r1,r2,r3,bb⟩:=de hl0 hl1 hl3 hc;clear hc;have z1:=bb.size;obtain ⟨hlk,_,hmk⟩:=ag hk;have hnk:nk<=2097152:=by unfold aX at hwk;omega
 have sW:w.heap.size+2<=W.heap.size:=by omega
 have ba:Below w1.heap.size w1 (w1.alloc (.cells #[.slice b0 n0 e0,.slice none 0 0,.bool f,.slice b3 n3 e3] 55)):=(Below.refl _ _).alloc (Nat.le_refl _) _;have yo:=Box.new w1 55 #[.slice b0 n0 e0,.slice none 0 0,.bool f,.slice b3 n3 e3];have yr:=(xr.below bb zr).below ba (by omega);have k0:=o0.below ba;have k3:=o3.below ba;have kb:=hA.trans ((bb.mono (by omega:w.heap.size<=W.heap.size)).trans (ba.mono (by omega)));have zo:=yo.lt;clear o0 o1 o3;have YO:=aa yo;have YR:=aa yr;have K0:=aa k0;have K3:=aa k3;have KB:=aa kb;clear yo yr k0 k3 xr;go_wp2_with fail
 generalize w1.alloc (.cells #[.slice b0 n0 e0,.slice none 0 0,.bool f,.slice b3 n3 e3] 55)=w2 at ba YO YR K0 K3 KB kb zo ⊢;have z2:=ba.size;refine (pP w w2 kb Ek ak nk ck ks hk hnk hks).mono ?_
 rintro e w3 ⟨rfl,b3',D,hown,hL⟩;have z3:=b3'.size;have XO:=aa (YO.out.below b3' (by omega));have XR:=aa (YR.out.below b3' (by omega));have L0:=aa (K0.out.below b3');have L3:=aa (K3.out.below b3');have LB:=aa (KB.out.trans (b3'.mono (by omega)));have HOW:=aa hown;have HL:=aa hL;clear YO YR K0 K3 KB kb b3' hown hL ba;have hgs:∃gS,(n0=0∨b0=some ⟨gS,0,none⟩)/\m1<=gS/\gS<w3.heap.size/\gS≠w1.heap.size:=by
  rcases L0.out.rowShape with h|⟨g,rfl⟩
  . exact ⟨w2.heap.size,.inl h,by omega,HOW.out.lt,by omega⟩
  obtain ⟨fq,mq,rq⟩:=L0.out.mine;have hgm:=(fF mq).1;have:=rq g hgm;exact ⟨g,.inr rfl,by omega,by omega,by omega⟩
 obtain ⟨gS,hg0,hg1,hg2,hg3⟩:=hgs;obtain ⟨fpS0,mS0,rS0⟩:=L0.out.mine;have MS0:=aa mS0;have RS0:=aa rS0;clear mS0 rS0;obtain ⟨x0,x1,x2,x3⟩:=XO.out.cells4;go_wp2
 clear x0 x1 x2 x3;have hB3:=HOW.out.lt;go_loopw [7] (fun i wr=>∃(j:Nat) (Dm:DataW Value) (fpS:List Nat),j<=n0/\i=.int .i64 j/\aA [gS,w2.heap.size] w3 wr/\aU.Mine wr [.slice b0 n0 e0] (gF ss ks j) fpS/\(∀b∈fpS,m1<=b/\(b<m2∨w3.heap.size<=b))/\wr.ownsMap Tryz.prog 3 fy w2.heap.size nk Dm/\ib w ks j Dm) (fun i _=>n0-(intOf i).toNat)
 case atStart=>exact ⟨0,D,fpS0,Nat.zero_le _,rfl,aA.refl _ _,by rw [sO];exact MS0.out,fun b hb=>by have:=RS0.out b hb;omega,HOW.out,HL.out.rest⟩
 obtain ⟨j,Dm,fpS,hj,rfl,tn,hS,hfp,how,hR⟩:=hrel;have hs:=tn.size;have xo:=XO.out.turned tn (by simp;omega);obtain ⟨q0,q1,q2,q3⟩:=xo.cells4;have hlen:=how.len Tryz.underlying136 3;have hszn:=how.size_le;generalize hsz:Maps.size Dm=sz at hlen hszn;have HSZ:=aa hsz;clear hsz;by_cases hjn:j<n0
 . have k1:(0:Int)<=(j:Int):=by omega
   have k2:(j:Int)<(n0:Int):=by omega
   by_cases hpos:0<sz
   . have k5:(0:Int)<(sz:Int):=by omega
     have HKEY:=aa (tM (q:=(j:Int)) (by omega) (by omega));have HOWR:=aa how;have HRR:=aa hR;have HFP:=aa hfp;have HSS:=aa hS;have TN:=aa tn;have XOR:=aa xo;clear how hR hfp hS tn xo;cases hlw:cB ks (j:Int) with
     | none=>
      have HN:=aa ((HRR.out j (Nat.le_refl _)).1 hlw);have HP:=aa (sQ (ss:=ss) hlw);have MA:=aa (HSS.out.alloc (.cells #[.int .i64 0,.slice none 0 0] 119));have TA:=aa (TN.out.alloc (.cells #[.int .i64 0,.slice none 0 0] 119));have OA:=aa (HOWR.out.alloc (.cells #[.int .i64 0,.slice none 0 0] 119));clear hlw;go_wp2_with (at_lookup;refine uu rfl _ _ rfl w2.heap.size nk Dm (j:Int) rfl HOWR.out rfl HKEY.out HN.out ?_)
      go_roundw
      case rel=>exact ⟨j+1,Dm,fpS,by omega,by go_num,TA.out,by rw [HP.out];exact MA.out,HFP.out,OA.out,HRR.out.next⟩
      case measure=>simp [intOf];omega
     | some zs=>
      obtain ⟨hh1,la,lc,hh2,hh3⟩:=(HRR.out j (Nat.le_refl _)).2 zs hlw;have H1:=aa hh1;have H2:=aa hh2;have HP:=aa (sP (ss:=ss) (by omega) hlw);have hzl:zs.length<=2097152:=nn hwk hlw;rcases hg0 with hg0|hg0
      . omega
      subst hg0;have bA:Below wr.heap.size wr (wr.alloc (.cells #[.int .i64 (j:Int),.slice la zs.length lc] 119)):=(Below.refl _ _).alloc (Nat.le_refl _) _;have zA:wr.heap.size<(wr.alloc (.cells #[.int .i64 (j:Int),.slice la zs.length lc] 119)).heap.size:=by simp
      have XW:=aa (Box.new wr 119 #[.int .i64 (j:Int),.slice la zs.length lc]);have XOA:=aa (XOR.out.alloc (.cells #[.int .i64 (j:Int),.slice la zs.length lc] 119));have MA:=aa (HSS.out.alloc (.cells #[.int .i64 (j:Int),.slice la zs.length lc] 119));have TA:=aa (TN.out.alloc (.cells #[.int .i64 (j:Int),.slice la zs.length lc] 119));have OA:=aa (HOWR.out.alloc (.cells #[.int .i64 (j:Int),.slice la zs.length lc] 119));have RD:=aa (hh3.below (LB.out.trans ((TN.out.below (N:=w.heap.size) (by omega) (by simp;omega)).trans (bA.mono (by omega)))));clear hlw hh1 hh2 hh3 bA;go_wp2_with (at_lookup;refine ut rfl _ _ rfl w2.heap.size nk Dm (j:Int) (.agg #[.int .i64 (j:Int),.slice la zs.length lc]) rfl HOWR.out rfl HKEY.out H1.out H2.out ?_)
      generalize wr.alloc (.cells #[.int .i64 (j:Int),.slice la zs.length lc] 119)=w8 at XW XOA MA TA OA RD zA ⊢;have zT:=TA.out.size;have hSc:∀w',Box w' w1.heap.size 55 #[.slice (some ⟨gS,0,none⟩) n0 e0,.slice none 0 0,.bool f,.slice b3 n3 e3]->Box w' wr.heap.size 119 #[.int .i64 (j:Int),.slice la zs.length lc]->w'.cell? ⟨w1.heap.size,0,none⟩=some (.slice (some ⟨gS,0,none⟩) n0 e0)/\w'.cell? ⟨wr.heap.size,1,none⟩=some (.slice la zs.length lc):=fun w' e1 e2=>⟨e1.cell 0,e2.cell 1⟩;have hSd:∀w',Box w' w1.heap.size 55 #[.slice (some ⟨gS,0,none⟩) n0 e0,.slice none 0 0,.bool f,.slice b3 n3 e3]->Box w' wr.heap.size 119 #[.int .i64 (j:Int),.slice la zs.length lc]->w'.drew.cell? ⟨w1.heap.size,0,none⟩=some (.slice (some ⟨gS,0,none⟩) n0 e0)/\w'.drew.cell? ⟨wr.heap.size,1,none⟩=some (.slice la zs.length lc):=hSc;have nO:Hid (w1.heap.size≠gS):=by unfold Hid;omega
      have nW:Hid (wr.heap.size≠gS):=by unfold Hid;omega
      go_region_held3 (fun w'=>w'.cell? ⟨w1.heap.size,0,none⟩=some (.slice (some ⟨gS,0,none⟩) n0 e0)/\w'.cell? ⟨wr.heap.size,1,none⟩=some (.slice la zs.length lc))
       (first|(with_reducible exact hSd w8 XOA.out XW.out)|(with_reducible exact hSc wc XOC.out XWC.out)|(with_reducible exact hSc _ (XOC.out.other nO.out _ _) (XWC.out.other nW.out _ _))|go_keep)
       (first
        | (go_at_call 88;refine (bP _ _ _ _ zs (by exact RD.out.drew) (by omega)).mono ?_;rintro e wc ⟨ac,cc,rfl,oc,hbc⟩;have hbc':Below w8.heap.size w8 wc:=(by exact (Below.refl w8.heap.size w8).drew.trans hbc);have XOC:=aa (XOA.out.below hbc' (by omega));have XWC:=aa (XW.out.below hbc' (by omega));have mc:=MA.out.below hbc';have hlt:=MA.out.lt;obtain ⟨fpx,mx,rx⟩:=Ty.Own.mine (lo:=w8.heap.size) oc;obtain ⟨⟨old,cOld⟩,fz,hgm,fpA,mA,rA⟩:=im (j:=j) rfl mc hjn mx (fun b hb hb'=>by have h1:=hlt b hb';have h2:=rx b hb;omega);have MX:=aa mA;have RA:=aa rA;have RX:=aa rx;have HBC:=aa hbc';have HGM:=aa hgm;clear mc hlt mx rx oc hbc hbc' mA rA hgm))
      have zc:=HBC.out.size;have OD:=aa ((OA.out.kept (Below.grows HBC.out) (by simp)).setCell (a:=⟨gS,j,none⟩) (by simp only;have h1:=HFP.out gS HGM.out;omega) (.slice ac zs.length cc));have hfA:∀b∈fpA,m1<=b/\(b<m2∨w3.heap.size<=b):=fun b hb=>by
       rcases RA.out b hb with h|h
       . exact HFP.out b h
       have:=RX.out b h;omega
      have TD:=aa ((TA.out.trans (aA.ofBelow HBC.out _)).trans (aA.setCell (w:=wc) (g:=gS) (j:=j) (.slice ac zs.length cc) (List.mem_cons_self:gS∈[gS,w2.heap.size])));have HFA:=aa hfA;clear hfA XOC XWC XOA XW nO nW hSc hSd RA RX HBC MA TA OA RD cOld fz H1 H2;go_wp2_with (at_delete;refine wpList_delete_own _ rfl _ _ 136 3 rfl 119 lq Tryz.underlying136 fy w2.heap.size nk Dm rfl OD.out _ _ rfl HKEY.out ?_;intro wD hownD hturnD;have HOD:=aa hownD;have HTD:=aa hturnD.grown;clear hownD hturnD)
      have tD:aA [w2.heap.size] (wc.setCell ⟨gS,j,none⟩ (.slice ac zs.length cc)) wD:=⟨HTD.out.os,HTD.out.tape,HTD.out.output,HTD.out.size,fun k hk hf=>HTD.out.block k hk (by simp at hf ⊢;exact hf)⟩;have TF:=aa (TD.out.trans (tD.mono (fun b hb=>List.mem_cons_of_mem _ hb)));have MF:=aa (MX.out.kept tD (fun b hb hb'=>by have h1:=HFA.out b hb;simp at hb';omega));clear tD TD MX HTD OD;go_roundw
      case rel=>exact ⟨j+1,Dm.del (.int .i64 (j:Int)),fpA,by omega,by go_num,TF.out,by rw [HP.out];exact MF.out,HFA.out,HOD.out,HRR.out.del⟩
      case measure=>simp [intOf];omega
   have HD:Hid (gF ss ks j=dJ ss ks):=pR (fun k hk hkl=>hR.empty how.isMap (by have:=HSZ.out;omega) k hk);have k5:¬(0:Int)<(sz:Int):=by omega
   have K0':=hS.own (lo:=m1) (hi:=wr.heap.size) (fun b hb=>by have h1:=hfp b hb;have h2:=hS.lt b hb;omega);have xr:=XR.out.turned tn (by simp;omega);obtain ⟨p0,p1,p2,p3⟩:=xr.cells4;have fz:=xr.frozen;have K3':=L3.out.but (tn.but (lo:=m1) (hi:=w3.heap.size) (by simp;omega)) (.inl (Nat.le_refl _));have KB':=LB.out.trans (tn.below (N:=w.heap.size) (by omega) (by simp;omega));have hbt:But (w.heap.size+1) (w.heap.size+2) wr ((((wr.setCell ⟨w.heap.size+1,0,none⟩ (.slice b0 n0 e0)).setCell ⟨w.heap.size+1,1,none⟩ (.slice none 0 0)).setCell ⟨w.heap.size+1,2,none⟩ (.bool f)).setCell ⟨w.heap.size+1,3,none⟩ (.slice b3 n3 e3)):=
    (((But.setCell (by omega) (by omega) _).trans (But.setCell (by omega) (by omega) _)).trans (But.setCell (by omega) (by omega) _)).trans (But.setCell (by omega) (by omega) _)
   have z9:=hbt.size;have FIN:Hid ((cu 119).Own ((((wr.setCell ⟨w.heap.size+1,0,none⟩ (.slice b0 n0 e0)).setCell ⟨w.heap.size+1,1,none⟩ (.slice none 0 0)).setCell ⟨w.heap.size+1,2,none⟩ (.bool f)).setCell ⟨w.heap.size+1,3,none⟩ (.slice b3 n3 e3)) w.heap.size ((((wr.setCell ⟨w.heap.size+1,0,none⟩ (.slice b0 n0 e0)).setCell ⟨w.heap.size+1,1,none⟩ (.slice none 0 0)).setCell ⟨w.heap.size+1,2,none⟩ (.bool f)).setCell ⟨w.heap.size+1,3,none⟩ (.slice b3 n3 e3)).heap.size [.slice b0 n0 e0,.slice none 0 0,.bool f,.slice b3 n3 e3] (gF ss ks j,[],f,bs)):=(cH (K0'.but hbt (by omega)) (bS _ wr.heap.size wr.heap.size) (K3'.but hbt (by omega)) (by omega) (by omega) (by omega) (by omega) (by omega) (by omega));have FB:=aa (Below.andBut KB' hbt (by omega));clear K0' K3' KB' xr hS tn how hR hfp hbt xo;go_wp2
   refine bodyPost_ret (v:=.agg #[.slice b0 n0 e0,.slice none 0 0,.bool f,.slice b3 n3 e3]) (by simp [results,Tryz.results91,go_sem,p0,p1,p2,p3]) rfl ?_
   exact ⟨_,_,_,rfl,by rw [←HD.out];exact FIN.out,FB.out⟩
 have e:n0=j:=by omega
 subst e;have HD:Hid (gF ss ks n0=dJ ss ks):=pR (fun k hk hkl=>by omega);have K0':=hS.own (lo:=m1) (hi:=wr.heap.size) (fun b hb=>by have h1:=hfp b hb;have h2:=hS.lt b hb;omega);have xr:=XR.out.turned tn (by simp;omega);obtain ⟨p0,p1,p2,p3⟩:=xr.cells4;have fz:=xr.frozen;have K3':=L3.out.but (tn.but (lo:=m1) (hi:=w3.heap.size) (by simp;omega)) (.inl (Nat.le_refl _));have KB':=LB.out.trans (tn.below (N:=w.heap.size) (by omega) (by simp;omega));have hbt:But (w.heap.size+1) (w.heap.size+2) wr ((((wr.setCell ⟨w.heap.size+1,0,none⟩ (.slice b0 n0 e0)).setCell ⟨w.heap.size+1,1,none⟩ (.slice none 0 0)).setCell ⟨w.heap.size+1,2,none⟩ (.bool f)).setCell ⟨w.heap.size+1,3,none⟩ (.slice b3 n3 e3)):=
  (((But.setCell (by omega) (by omega) _).trans (But.setCell (by omega) (by omega) _)).trans (But.setCell (by omega) (by omega) _)).trans (But.setCell (by omega) (by omega) _)
 have z9:=hbt.size;have FIN:Hid ((cu 119).Own ((((wr.setCell ⟨w.heap.size+1,0,none⟩ (.slice b0 n0 e0)).setCell ⟨w.heap.size+1,1,none⟩ (.slice none 0 0)).setCell ⟨w.heap.size+1,2,none⟩ (.bool f)).setCell ⟨w.heap.size+1,3,none⟩ (.slice b3 n3 e3)) w.heap.size ((((wr.setCell ⟨w.heap.size+1,0,none⟩ (.slice b0 n0 e0)).setCell ⟨w.heap.size+1,1,none⟩ (.slice none 0 0)).setCell ⟨w.heap.size+1,2,none⟩ (.bool f)).setCell ⟨w.heap.size+1,3,none⟩ (.slice b3 n3 e3)).heap.size [.slice b0 n0 e0,.slice none 0 0,.bool f,.slice b3 n3 e3] (gF ss ks n0,[],f,bs)):=(cH (K0'.but hbt (by omega)) (bS _ wr.heap.size wr.heap.size) (K3'.but hbt (by omega)) (by omega) (by omega) (by omega) (by omega) (by omega) (by omega));have FB:=aa (Below.andBut KB' hbt (by omega));clear K0' K3' KB' xr hS tn how hR hfp hbt xo;go_wp2
 refine bodyPost_ret (v:=.agg #[.slice b0 n0 e0,.slice none 0 0,.bool f,.slice b3 n3 e3]) (by simp [results,Tryz.results91,go_sem,p0,p1,p2,p3]) rfl ?_
 exact ⟨_,_,_,rfl,by rw [←HD.out];exact FIN.out,FB.out⟩
end Go.Proofs.YtgjomldcnjjpaaaGreat


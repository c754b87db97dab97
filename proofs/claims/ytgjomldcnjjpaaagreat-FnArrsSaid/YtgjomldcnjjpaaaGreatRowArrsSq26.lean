/-
 The words of a stripe's blocks (data6), and the walks of the specification's looks for them. Condition: the array weighs at most 2097152.
-/
import Derived.Test.YtgjomldcnjjpaaaGreatRowArrsSq20
import Derived.Test.YtgjomldcnjjpaaaGreatRowArrsSq10
import Derived.Test.YtgjomldcnjjpaaaGreatRowArrsSq4
import Derived.Test.YtgjomldcnjjpaaaGreatRowArrsSq11
import Derived.Test.YtgjomldcnjjpaaaGreatRowArrsSq3

set_option maxRecDepth 100000
set_option maxHeartbeats 8000000
set_option linter.unusedSimpArgs false

namespace Go.Proofs.YtgjomldcnjjpaaaGreat
open Go.RowKit

def mQ (ms:List ai) (m:Int):ai:=ms.getD m.toNat ([],[],false,[])
def ta (ms:List ai) (m s:Int):List Int:=bp (mQ ms m).1 (mQ ms m).2.1 (mQ ms m).2.2.1 (mQ ms m).2.2.2 (bE s)
def dv (x:aq) (ms:List ai) (m s:Int):Bool:=dC x ms m s&&(aV (mQ ms m).1 (mQ ms m).2.1 (mQ ms m).2.2.1 (mQ ms m).2.2.2 (bE s)&&decide ((ta ms m s).length=1))
def dl (x:aq) (ms:List ai) (m s:Int):Int:=if dv x ms m s=true then (ta ms m s).getD 0 0 else 0
theorem pU {x:aq} {ms:List ai} {m s:Int} (h:dC x ms m s=false):dv x ms m s=false:=by unfold dv;rw [h];rfl
theorem vI {x:aq} {ms:List ai} {m s:Int} (h:dv x ms m s=false):dl x ms m s=0:=by unfold dl;rw [if_neg (by simp [h])]
theorem rJ {x:aq} {ms:List ai} {m s:Int} (h:dv x ms m s=true):dl x ms m s=(ta ms m s).getD 0 0:=by unfold dl;rw [if_pos h]
theorem xq {x:aq} {ms:List ai} {m s:Int} (h:dC x ms m s=true):0<=m/\m<(ms.length:Int):=by
 unfold dC inB at h;simp only [Bool.and_eq_true,decide_eq_true_eq] at h
 omega
theorem fi {x:aq} {ms:List ai} {m s:Int} (h:dv x ms m s=false):Ending.returned (.tuple #[.int .i64 0,.bool false])=.returned (.tuple #[.int .i64 (dl x ms m s),.bool (dv x ms m s)]):=by rw [vI h,h]
theorem tb (w:World) (E F:TypeId) (x:aq) (am ad:Option Addr) (nm cm nd cd:Nat) (ms:List ai) (m s:Int) (h0:(bI E F).Rd w [.slice am nm cm] ms) (hw:aQ ms<=2097152):
 Calls Tryz.prog 150 #[.agg #[.int .i64 x.id,.int .i64 x.n,.int .i64 x.s,.slice am nm cm,.int .i64 x.lost,.int .i64 x.xW,.int .i64 x.seq,.int .i64 x.tail,.int .i64 x.gen,.slice ad nd cd,.int .i64 x.xY,.bool x.down,.bool x.xX],.int .i64 m,.int .i64 s] w fun e w'=>e=.returned (.tuple #[.int .i64 (dl x ms m s),.bool (dv x ms m s)])/\Below w.heap.size w w':=by
 obtain ⟨hl,hc,hm⟩:=ag h0;have hnm:nm<=2097152:=by unfold aQ at hw;omega
 have hA:=af w (.cells #[.int .i64 x.id,.int .i64 x.n,.int .i64 x.s,.slice am nm cm,.int .i64 x.lost,.int .i64 x.xW,.int .i64 x.seq,.int .i64 x.tail,.int .i64 x.gen,.slice ad nd cd,.int .i64 x.xY,.bool x.down,.bool x.xX] 31);have X:=Box.new w 31 #[.int .i64 x.id,.int .i64 x.n,.int .i64 x.s,.slice am nm cm,.int .i64 x.lost,.int .i64 x.xW,.int .i64 x.seq,.int .i64 x.tail,.int .i64 x.gen,.slice ad nd cd,.int .i64 x.xY,.bool x.down,.bool x.xX];obtain ⟨k0,k1,k2,k3,k4,k5,k6,k7,k8,k9,k10,k11,k12⟩:=X.cells13;have zA:=X.lt;have h1:=h0.below hA;go_enter Tryz.func150,Tryz.ntmps150
 go_wp2_with fail
 generalize w.alloc (.cells #[.int .i64 x.id,.int .i64 x.n,.int .i64 x.s,.slice am nm cm,.int .i64 x.lost,.int .i64 x.xW,.int .i64 x.seq,.int .i64 x.tail,.int .i64 x.gen,.slice ad nd cd,.int .i64 x.xY,.bool x.down,.bool x.xX] 31)=W at hA X zA h1 k0 k1 k2 k3 k4 k5 k6 k7 k8 k9 k10 k11 k12 ⊢;refine (fh _ E F x _ _ _ _ _ _ ms m s h1 hw).mono ?_
 rintro e w1 ⟨rfl,b1⟩;have X1:=X.below b1 zA;have B1:=Below.andThen hA b1;have h2:=h1.below b1;clear k0 k1 k2 k3 k4 k5 k6 k7 k8 k9 k10 k11 k12 X b1 hA zA h1;obtain ⟨k0,k1,k2,k3,k4,k5,k6,k7,k8,k9,k10,k11,k12⟩:=X1.cells13;cases hlv:dC x ms m s
 . have HF:=aa (fi (pU hlv))
   go_wp2
   refine bodyPost_ret (v:=.tuple #[.int .i64 0,.bool false]) (by simp [results,Tryz.results150,go_sem]) rfl ?_
   exact ⟨HF.out,B1⟩
 obtain ⟨m1,m2⟩:=xq hlv;obtain ⟨j,rfl⟩:=Int.eq_ofNat_of_zero_le m1;rcases eb rfl h2 with h0'|⟨b,off,rfl,hbl,hcs⟩
 . omega
 have hdj:ms[j]?=some (ms[j]'(by omega)):=List.getElem?_eq_getElem (by omega);generalize ms[j]'(by omega)=d at hdj;obtain ⟨v0,v1,v2,v3,hv0,hv1,hv2,hv3,hrv⟩:=hcs j d hdj;obtain ⟨a0,c0,a1,c1,a3,c3,ss,cs,f,bs,rfl,rfl,rfl,rfl,rfl,r0,r1,r3⟩:=fV hrv;have hwm:=Nat.le_trans (ei hdj) hw;have hmd:mQ ms (j:Int)=(ss,cs,f,bs):=by unfold mQ;rw [Int.toNat_natCast,List.getD_eq_getElem?_getD,hdj];rfl
 have hsec:ta ms (j:Int) s=bp ss cs f bs (bE s):=by unfold ta;rw [hmd]
 have hhas:dv x ms (j:Int) s=(aV ss cs f bs (bE s)&&decide ((bp ss cs f bs (bE s)).length=1)):=by unfold dv;rw [hlv,hsec,hmd];rfl
 have hwd:dv x ms (j:Int) s=true->dl x ms (j:Int) s=(bp ss cs f bs (bE s)).getD 0 0:=fun h=>by rw [rJ h,hsec]
 have HH:=aa hhas;have HWD:=aa hwd;have i1:(0:Int)<=(j:Int):=by omega
 have i2:(j:Int)<(nm:Int):=by omega
 clear hcs hrv hdj hmd hsec hhas hwd m1 m2;have zb:b<w1.heap.size:=hbl;have zx:=X1.lt;go_wp2_with fail
 refine wp_region_held_drew (S:=fun w'=>w'.cell? ⟨w.heap.size,3,none⟩=some (.slice (some ⟨b,off,none⟩) nm cm)/\w'.cell? ⟨b,off+j*4,none⟩=some (.slice a0 ss.length c0)/\w'.cell? ⟨b,off+j*4+1,none⟩=some (.slice a1 cs.length c1)/\w'.cell? ⟨b,off+j*4+2,none⟩=some (.bool f)/\w'.cell? ⟨b,off+j*4+3,none⟩=some (.slice a3 bs.length c3)) (by kernel_rfl) ?_ (fun xV=>?_)
 . exact ⟨k3,hv0,hv1,hv2,hv3⟩
 refine aI (i:=0) (v:=?_) rfl (by kernel_rfl) (by kernel_rfl) (by kernel_rfl) (fun _ _ _ h=>h) (by kernel_rfl) ?_ xV ?_
 rotate_left 1
 . (intro w hSw;(try dsimp only at hSw);go_split_ands;go_simp;first|done|with_reducible rfl)
 simp only [Act.put,List.setIfInBounds_toArray,List.set_cons_zero,List.set_cons_succ]
 refine aI (i:=1) (v:=?_) rfl (by kernel_rfl) (by kernel_rfl) (by kernel_rfl) (fun _ _ _ h=>h) (by kernel_rfl) ?_ xV ?_
 rotate_left 1
 . (intro w hSw;(try dsimp only at hSw);go_split_ands;go_simp;first|done|with_reducible rfl)
 simp only [Act.put,List.setIfInBounds_toArray,List.set_cons_zero,List.set_cons_succ]
 refine aI (i:=2) (v:=?_) rfl (by kernel_rfl) (by kernel_rfl) (by kernel_rfl) (fun _ _ _ h=>h) (by kernel_rfl) ?_ xV ?_
 rotate_left 1
 . (intro w hSw;(try dsimp only at hSw);go_split_ands;go_simp;first|done|with_reducible rfl)
 simp only [Act.put,List.setIfInBounds_toArray,List.set_cons_zero,List.set_cons_succ]
 refine aI (i:=3) (v:=?_) rfl (by kernel_rfl) (by kernel_rfl) (by kernel_rfl) (fun _ _ _ h=>h) (by kernel_rfl) ?_ xV ?_
 rotate_left 1
 . (intro w hSw;(try dsimp only at hSw);go_split_ands;go_simp;first|done|with_reducible rfl)
 simp only [Act.put,List.setIfInBounds_toArray,List.set_cons_zero,List.set_cons_succ]
 refine aI (i:=4) (v:=?_) rfl (by kernel_rfl) (by kernel_rfl) (by kernel_rfl) (fun _ _ _ h=>h) (by kernel_rfl) ?_ xV ?_
 rotate_left 1
 . (intro w hSw;(try dsimp only at hSw);go_split_ands;go_simp;first|done|with_reducible rfl)
 simp only [Act.put,List.setIfInBounds_toArray,List.set_cons_zero,List.set_cons_succ]
 refine aI (i:=5) (v:=?_) rfl (by kernel_rfl) (by kernel_rfl) (by kernel_rfl) (fun _ _ _ h=>h) (by kernel_rfl) ?_ xV ?_
 rotate_left 1
 . (intro w hSw;(try dsimp only at hSw);go_split_ands;go_simp;first|done|with_reducible rfl)
 simp only [Act.put,List.setIfInBounds_toArray,List.set_cons_zero,List.set_cons_succ]
 refine aw (i:=6) (by kernel_rfl) rfl (by kernel_rfl) (fun K hK=>?_)
 go_simp
 refine (cF _ _).mono ?_
 rintro e w2 ⟨rfl,hw2⟩;subst hw2;go_wp2_with fail
 clear xV;refine hK.out _ _ ?_ (fun xV=>?_)
 . exact ⟨k3,hv0,hv1,hv2,hv3⟩
 clear hK K;refine aw (i:=7) (by kernel_rfl) rfl (by kernel_rfl) (fun K hK=>?_)
 go_simp
 refine (mN _ E _ _ _ _ _ _ _ _ _ ss cs f bs (bE s) r0.drew r1.drew r3.drew hwm).mono ?_
 rintro e w3 ⟨a',l,c',rfl,o3,b3⟩;have b3':Below w1.heap.size w1 w3:=(Below.refl w1.heap.size w1).drew.trans b3;clear b3;go_wp2_with fail
 clear xV;refine hK.out _ _ ?_ (fun xV=>?_)
 . exact ⟨(b3'.cell (p:=⟨w.heap.size,3,none⟩) zx).trans k3,(b3'.cell (p:=⟨b,off+j*4,none⟩) zb).trans hv0,(b3'.cell (p:=⟨b,off+j*4+1,none⟩) zb).trans hv1,(b3'.cell (p:=⟨b,off+j*4+2,none⟩) zb).trans hv2,(b3'.cell (p:=⟨b,off+j*4+3,none⟩) zb).trans hv3⟩
 clear hK K;refine aI (i:=8) (v:=?_) rfl (by kernel_rfl) (by kernel_rfl) (by kernel_rfl) (fun _ _ _ h=>h) (by kernel_rfl) ?_ xV ?_
 rotate_left 1
 . (intro w hSw;(try dsimp only at hSw);go_split_ands;go_simp;first|done|with_reducible rfl)
 simp only [Act.put,List.setIfInBounds_toArray,List.set_cons_zero,List.set_cons_succ]
 refine aI (i:=9) (v:=?_) rfl (by kernel_rfl) (by kernel_rfl) (by kernel_rfl) (fun _ _ _ h=>h) (by kernel_rfl) ?_ xV ?_
 rotate_left 1
 . (intro w hSw;(try dsimp only at hSw);go_split_ands;go_simp;first|done|with_reducible rfl)
 simp only [Act.put,List.setIfInBounds_toArray,List.set_cons_zero,List.set_cons_succ]
 refine aI (i:=10) (v:=?_) rfl (by kernel_rfl) (by kernel_rfl) (by kernel_rfl) (fun _ _ _ h=>h) (by kernel_rfl) ?_ xV ?_
 rotate_left 1
 . (intro w hSw;(try dsimp only at hSw);go_split_ands;go_simp;first|done|with_reducible rfl)
 simp only [Act.put,List.setIfInBounds_toArray,List.set_cons_zero,List.set_cons_succ]
 refine aI (i:=11) (v:=?_) rfl (by kernel_rfl) (by kernel_rfl) (by kernel_rfl) (fun _ _ _ h=>h) (by kernel_rfl) ?_ xV ?_
 rotate_left 1
 . (intro w hSw;(try dsimp only at hSw);go_split_ands;go_simp;first|done|with_reducible rfl)
 simp only [Act.put,List.setIfInBounds_toArray,List.set_cons_zero,List.set_cons_succ]
 refine aI (i:=12) (v:=?_) rfl (by kernel_rfl) (by kernel_rfl) (by kernel_rfl) (fun _ _ _ h=>h) (by kernel_rfl) ?_ xV ?_
 rotate_left 1
 . (intro w hSw;(try dsimp only at hSw);go_split_ands;go_simp;first|done|with_reducible rfl)
 simp only [Act.put,List.setIfInBounds_toArray,List.set_cons_zero,List.set_cons_succ]
 refine wpAnyH_done (by kernel_rfl) ?_ _
 clear xV;have B3:=Below.andThen B1 b3';obtain ⟨rd3,hl3,_,_⟩:=aR o3.rd;clear o3 b3' r0 r1 r3 hv0 hv1 hv2 hv3 k0 k1 k2 k3 k4 k5 k6 k7 k8 k9 k10 k11 k12 X1 B1 h2;generalize bp ss cs f bs (bE s)=L at rd3 hl3 HH HWD;generalize aV ss cs f bs (bE s)=ok at HH ⊢;cases ok
 . have HF:=aa (fi (x:=x) (ms:=ms) (m:=(j:Int)) (s:=s) (by rw [HH.out];rfl))
   go_wp2
   refine bodyPost_ret (v:=.tuple #[.int .i64 0,.bool false]) (by simp [results,Tryz.results150,go_sem]) rfl ?_
   exact ⟨HF.out,B3⟩
 by_cases h1:l=1
 . subst h1
   obtain ⟨z,rfl⟩:∃z,L=[z]:=by
    match L,hl3 with
    | [z],_=>exact ⟨z,rfl⟩
   have hT:dv x ms (j:Int) s=true:=by rw [HH.out];rfl
   have HF:Hid (Ending.returned (.tuple #[.int .i64 z,.bool true])=.returned (.tuple #[.int .i64 (dl x ms (j:Int) s),.bool (dv x ms (j:Int) s)])):=by unfold Hid;rw [HWD.out hT,hT];rfl
   rcases rd3.cases with h0''|⟨b',off',rfl,hb',hc'⟩
   . simp at h0''
   have q0:w3.cell? ⟨b',off',none⟩=some (.int .i64 z):=hc' 0 (by simp);clear hc' hT;go_wp2
   refine bodyPost_ret (v:=.tuple #[.int .i64 z,.bool true]) (by simp [results,Tryz.results150,go_sem]) rfl ?_
   exact ⟨HF.out,B3⟩
 have HF:=aa (fi (x:=x) (ms:=ms) (m:=(j:Int)) (s:=s) (by rw [HH.out,hl3];simp [h1]));have e1:((l:Int)==1)=false:=by simp;omega
 have e2:((l:Int) !=1)=true:=by simp;omega
 go_wp2
 refine bodyPost_ret (v:=.tuple #[.int .i64 0,.bool false]) (by simp [results,Tryz.results150,go_sem]) rfl ?_
 exact ⟨HF.out,B3⟩
def cJ (x:aq) (ms:List ai) (s:Int) (j:Nat):List Int:=(List.range j).map fun (i:Nat)=>dl x ms (i:Int) s
def bV (x:aq) (ms:List ai) (s:Int) (j:Nat):List Nat:=(List.range j).filter fun (i:Nat)=>!dv x ms (i:Int) s
def gc:List Nat->Int
 | []=>-1
 | p :: _=>(p:Int)
def cV (x:aq) (ms:List ai) (s:Int):Bool:=decide ((bV x ms s x.n.toNat).length<=1)
def dc (x:aq) (ms:List ai) (s:Int):List Int:=
 match bV x ms s x.n.toNat with
 | []=>cJ x ms s x.n.toNat
 | [p]=>(cJ x ms s x.n.toNat).set p (dO (cJ x ms s x.n.toNat) (p:Int) x.n.toNat)
 | _=>[]
theorem nE (x:aq) (ms:List ai) (s:Int) (j:Nat):cJ x ms s (j+1)=cJ x ms s j++[dl x ms (j:Int) s]:=by unfold cJ;rw [List.range_succ,List.map_append];rfl
theorem eQ (x:aq) (ms:List ai) (s:Int) (j:Nat):(cJ x ms s j).length=j:=by unfold cJ;simp
theorem ju {x:aq} {ms:List ai} {s:Int} {j:Nat} (h:dv x ms (j:Int) s=true):bV x ms s (j+1)=bV x ms s j:=by unfold bV;rw [List.range_succ,List.filter_append];simp [h]
theorem kg {x:aq} {ms:List ai} {s:Int} {j:Nat} (h:dv x ms (j:Int) s=false):bV x ms s (j+1)=bV x ms s j++[j]:=by unfold bV;rw [List.range_succ,List.filter_append];simp [h]
theorem nF (x:aq) (ms:List ai) (s:Int) (j k:Nat) (h:j<=k):(bV x ms s j).length<=(bV x ms s k).length:=by
 induction k with
 | zero=>
  obtain rfl:j=0:=by omega
  exact Nat.le_refl _
 | succ k ih=>
  rcases Nat.lt_or_ge k j with h1|h1
  . obtain rfl:j=k+1:=by omega
    exact Nat.le_refl _
  refine Nat.le_trans (ih h1) ?_
  cases hh:dv x ms (k:Int) s with
  | true=>rw [ju hh];exact Nat.le_refl _
  | false=>rw [kg hh];simp
theorem rK {x:aq} {ms:List ai} {s:Int} {j p:Nat} (h:p∈bV x ms s j):p<j:=by
 unfold bV at h;exact List.mem_range.1 (List.mem_filter.1 h).1
theorem pW {x:aq} {ms:List ai} {s:Int} {j:Nat} (h:2<=(bV x ms s j).length) (hj:j<=x.n.toNat):cV x ms s=false/\dc x ms s=[]:=by
 have h2:=Nat.le_trans h (nF x ms s j x.n.toNat hj);refine ⟨by unfold cV;simp;omega,?_⟩
 unfold dc;match hm:bV x ms s x.n.toNat,h2 with
 | _ :: _ :: _,_=>rfl
theorem jL {x:aq} {ms:List ai} {s:Int} (h:bV x ms s x.n.toNat=[]):cV x ms s=true/\dc x ms s=cJ x ms s x.n.toNat:=by
 refine ⟨by unfold cV;rw [h];rfl,?_⟩
 unfold dc;rw [h]
theorem lE {x:aq} {ms:List ai} {s:Int} {p:Nat} (h:bV x ms s x.n.toNat=[p]):cV x ms s=true/\dc x ms s=(cJ x ms s x.n.toNat).set p (dO (cJ x ms s x.n.toNat) (p:Int) x.n.toNat):=by
 refine ⟨by unfold cV;rw [h];rfl,?_⟩
 unfold dc;rw [h]
theorem jM {k:IntKind} {E:TypeId} {w:World} {lo:Nat} {v:Value} {zs:List Int} (h:bk k E w lo v zs) (hn:0<zs.length):∃g cap,v=.slice (some ⟨g,0,none⟩) zs.length cap/\lo<=g/\g<w.heap.size/\zs.length<=cap/\cap<=maxLen:=by
 rcases h.2 with ⟨_,h0⟩|⟨g,cap,cur,hv,hb,hg,hnc,hcm,_⟩
 . omega
 exact ⟨g,cap,hv,hb,(Array.getElem?_eq_some_iff.1 hg).1,hnc,hcm⟩
theorem gP {l:List Nat} (h:l.length<=1):l=[]∨∃p,l=[p]:=by
 match l,h with
 | [],_=>exact .inl rfl
 | [p],_=>exact .inr ⟨p,rfl⟩
theorem mn (w:World) (E F:TypeId) (x:aq) (am ad:Option Addr) (nm cm nd cd:Nat) (ms:List ai) (s:Int) (h0:(bI E F).Rd w [.slice am nm cm] ms) (hw:aQ ms<=2097152) (hg:bL x.n x.s=true):
 Calls Tryz.prog 135 #[.agg #[.int .i64 x.id,.int .i64 x.n,.int .i64 x.s,.slice am nm cm,.int .i64 x.lost,.int .i64 x.xW,.int .i64 x.seq,.int .i64 x.tail,.int .i64 x.gen,.slice ad nd cd,.int .i64 x.xY,.bool x.down,.bool x.xX],.int .i64 s] w fun e w'=>∃a' l' c',e=.returned (.tuple #[.slice a' l' c',.bool (cV x ms s)])/\aD.Own w' w.heap.size w'.heap.size [.slice a' l' c'] (dc x ms s)/\Below w.heap.size w w':=by
 obtain ⟨g1,g2,g3,g4⟩:=aB.1 hg;obtain ⟨n,hn⟩:∃n:Nat,x.n=(n:Int):=⟨x.n.toNat,by omega⟩;have hnt:x.n.toNat=n:=by omega
 have HN:=aa hn;have HNT:=aa hnt;have hn5:n<=5:=by omega
 clear hn hnt;obtain ⟨i0,hi,hz0,hz1,hz2⟩:=info_parts Tryz.info3;have hA:=af w (.cells #[.int .i64 x.id,.int .i64 x.n,.int .i64 x.s,.slice am nm cm,.int .i64 x.lost,.int .i64 x.xW,.int .i64 x.seq,.int .i64 x.tail,.int .i64 x.gen,.slice ad nd cd,.int .i64 x.xY,.bool x.down,.bool x.xX] 31);have X:=Box.new w 31 #[.int .i64 x.id,.int .i64 x.n,.int .i64 x.s,.slice am nm cm,.int .i64 x.lost,.int .i64 x.xW,.int .i64 x.seq,.int .i64 x.tail,.int .i64 x.gen,.slice ad nd cd,.int .i64 x.xY,.bool x.down,.bool x.xX];have zA:=X.lt;have h1:=h0.below hA;go_enter Tryz.func135,Tryz.ntmps135
 go_wp2
 have zW:(w.alloc (.cells #[.int .i64 x.id,.int .i64 x.n,.int .i64 x.s,.slice am nm cm,.int .i64 x.lost,.int .i64 x.xW,.int .i64 x.seq,.int .i64 x.tail,.int .i64 x.gen,.slice ad nd cd,.int .i64 x.xY,.bool x.down,.bool x.xX] 31)).heap.size=w.heap.size+1:=by simp
 have ZW:=aa zW;clear zW;generalize w.alloc (.cells #[.int .i64 x.id,.int .i64 x.n,.int .i64 x.s,.slice am nm cm,.int .i64 x.lost,.int .i64 x.xW,.int .i64 x.seq,.int .i64 x.tail,.int .i64 x.gen,.slice ad nd cd,.int .i64 x.xY,.bool x.down,.bool x.xX] 31)=W at hA X zA h1 ZW ⊢;have hO:bk .i64 3 (W.alloc (.cells #[] 3)) W.heap.size (.slice (some ⟨W.heap.size,0,none⟩) 0 0) []:=bk.lit .i64 3 W [] 0 #[] rfl rfl (by unfold maxLen;omega);go_loopw [6,7,8] (fun v lo i wr=>∃j:Nat,j<=n/\i=.int .i64 j/\lo=.int .i64 (gc (bV x ms s j))/\(bV x ms s j).length<=1/\bk .i64 3 wr W.heap.size v (cJ x ms s j)/\Below W.heap.size W wr) (fun _ _ i _=>n-(intOf i).toNat)
 case atStart=>exact ⟨0,Nat.zero_le _,rfl,rfl,Nat.zero_le _,by first|exact hO|(rw [ZW.out] at hO;rw [ZW.out];exact hO),(Below.refl _ _).alloc (Nat.le_refl _) _⟩
 obtain ⟨j,hj,rfl,rfl,hm1,ho,hb⟩:=hrel;have Xr:=X.below hb zA;obtain ⟨k0,k1,k2,k3,k4,k5,k6,k7,k8,k9,k10,k11,k12⟩:=Xr.cells13;have zs:=hb.size;by_cases hjn:j<n
 . have hlt:(j:Int)<x.n:=by have:=HN.out;omega
   go_wp2_with fail
   refine (tb _ E F x _ _ _ _ _ _ ms (j:Int) s (h1.below hb) hw).mono ?_
   rintro e w1 ⟨rfl,b1⟩;have X1:=Xr.below b1 Xr.lt;have B1:=hb.trans (b1.mono hb.size);have o1:=ho.below b1 (Nat.le_refl _);have z1:=b1.size;clear k0 k1 k2 k3 k4 k5 k6 k7 k8 k9 k10 k11 k12 Xr b1 ho hb;have hs1:=nE x ms s j;have hlen:=eQ x ms s j;cases hh:dv x ms (j:Int) s
   . have hmn:=kg hh
     rcases gP hm1 with h00|⟨p,hp⟩
     . have hl0:gc (bV x ms s j)=-1:=by rw [h00];rfl
       have hl1:gc (bV x ms s (j+1))=(j:Int):=by rw [hmn,h00];rfl
       have hc1:(bV x ms s (j+1)).length<=1:=by rw [hmn,h00];exact Nat.le_refl _
       have HL1:=aa hl1;have HC1:=aa hc1;rw [hl0];clear hmn h00 hl0 hl1 hc1;generalize dl x ms (j:Int) s=y at hs1 ⊢;have HS:=aa hs1;clear hs1;go_wp2_with (at_builtin;refine dt .i64 (by rfl) _ _ 42 (by rfl) W.heap.size 3 i0 _ 8 Tryz.underlying42 hi hz0 hz1 hz2 rfl _ (cJ x ms s j) (by rfl) (o1.alloc _) ⟨w1.heap.size,0,none⟩ 1 1 [y] (by rfl) rfl (aJ.new _ _ _ _ _ rfl) ?h1 ?h2 ?h3 ?_)
       case h1=>unfold maxLen;omega
       case h2=>omega
       case h3=>simp;omega
       intro v' w2 o2 b2;have B2:=aa ((B1.alloc B1.size (.cells #[.int .i64 y] 3)).trans b2);rw [←HS.out] at o2;have O2:=aa o2;clear b2 o2 o1 B1;go_wp2
       go_roundw
       case rel=>exact ⟨j+1,by omega,by go_num,by rw [HL1.out],HC1.out,O2.out,B2.out⟩
       case measure=>simp [intOf];omega
     have hl0:gc (bV x ms s j)=(p:Int):=by rw [hp];rfl
     obtain ⟨t1,t2⟩:=pW (x:=x) (ms:=ms) (s:=s) (j:=j+1) (by rw [hmn,hp];exact Nat.le_refl _) (by have:=HNT.out;omega);have HT1:=aa t1;have HT2:=aa t2;rw [hl0];clear hmn hp hl0 t1 t2 hs1;have hp0:(0:Int)<=(p:Int):=by omega
     have FO:=aa ((aS (bk.lit .i64 3 w1 [] 0 #[] rfl rfl (by unfold maxLen;omega))).widen (lo':=w.heap.size) (by omega) (Nat.le_refl _));have FB:=aa (hA.trans ((B1.alloc B1.size (.cells #[] 3)).mono hA.size));go_wp2
     refine bodyPost_ret (v:=.tuple #[.slice (some ⟨w1.heap.size,0,none⟩) 0 0,.bool false]) (by simp [results,Tryz.results135,go_sem]) rfl ?_
     exact ⟨_,_,_,by rw [HT1.out],by rw [HT2.out];exact FO.out,FB.out⟩
   have hmy:=ju hh;have HL1:Hid (gc (bV x ms s (j+1))=gc (bV x ms s j)):=by unfold Hid;rw [hmy]
   have HC1:Hid ((bV x ms s (j+1)).length<=1):=by unfold Hid;rw [hmy];exact hm1
   clear hmy;generalize dl x ms (j:Int) s=y at hs1 ⊢;have HS:=aa hs1;clear hs1;go_wp2_with (at_builtin;refine dt .i64 (by rfl) _ _ 42 (by rfl) W.heap.size 3 i0 _ 8 Tryz.underlying42 hi hz0 hz1 hz2 rfl _ (cJ x ms s j) (by rfl) (o1.alloc _) ⟨w1.heap.size,0,none⟩ 1 1 [y] (by rfl) rfl (aJ.new _ _ _ _ _ rfl) ?h1 ?h2 ?h3 ?_)
   case h1=>unfold maxLen;omega
   case h2=>omega
   case h3=>simp;omega
   intro v' w2 o2 b2;have B2:=aa ((B1.alloc B1.size (.cells #[.int .i64 y] 3)).trans b2);rw [←HS.out] at o2;have O2:=aa o2;clear b2 o2 o1 B1;go_wp2
   go_roundw
   case rel=>exact ⟨j+1,by omega,by go_num,by rw [HL1.out],HC1.out,O2.out,B2.out⟩
   case measure=>simp [intOf];omega
 have ej:j=n:=by omega
 subst ej;have hge:x.n<=(j:Int):=by have:=HN.out;omega
 have hlen:=eQ x ms s j;rcases gP hm1 with h00|⟨p,hp⟩
 . have hl0:gc (bV x ms s j)=-1:=by rw [h00];rfl
   obtain ⟨t1,t2⟩:=jL (x:=x) (ms:=ms) (s:=s) (by rw [HNT.out];exact h00);rw [HNT.out] at t2;have HT1:=aa t1;have HT2:=aa t2;rw [hl0];clear h00 hl0 t1 t2;obtain ⟨go,co,hv,hgl,hgh,hlc,hcm⟩:=jM ho (by have:=HN.out;omega);rw [hlen] at hv hlc;subst hv;have FO:=aa ((aS ho).widen (lo':=w.heap.size) (by omega) (Nat.le_refl _));have FB:=aa (hA.trans (hb.mono hA.size));clear ho hb Xr hlen hm1 hcm hlc hj hjn hgh;go_wp2
   refine bodyPost_ret (v:=.tuple #[.slice (some ⟨go,0,none⟩) j co,.bool true]) (by simp [results,Tryz.results135,go_sem]) rfl ?_
   exact ⟨_,_,_,by rw [HT1.out],by rw [HT2.out];exact FO.out,FB.out⟩
 have hl0:gc (bV x ms s j)=(p:Int):=by rw [hp];rfl
 have hpj:p<j:=rK (x:=x) (ms:=ms) (s:=s) (by rw [hp];simp);obtain ⟨t1,t2⟩:=lE (x:=x) (ms:=ms) (s:=s) (p:=p) (by rw [HNT.out];exact hp);rw [HNT.out] at t2;have HT1:=aa t1;have HT2:=aa t2;rw [hl0];clear hp hl0 t1 t2;have hp0:(0:Int)<=(p:Int):=by omega
 have hp1:(p:Int)<(j:Int):=by omega
 obtain ⟨go,co,hv,hgl,hgh,hlc,hcm⟩:=jM ho (by omega);rw [hlen] at hv hlc;subst hv;go_wp2_with fail
 refine (jz _ _ _ _ (cJ x ms s j) (p:Int) hlen ho.reads (by omega)).mono ?_
 rintro e w1 ⟨rfl,hs1⟩;have O1:=ho.own.same hs1;have B1:=hb.trans (hs1.below _);have z1:=hs1.size;obtain ⟨c1,f1,O2,t2⟩:=O1.store p hpj (dO (cJ x ms s j) (p:Int) j);have FO:=aa ((aS O2.1).widen (lo':=w.heap.size) (by omega) (Nat.le_refl _));have FB:=aa (hA.trans ((B1.trans (t2.below (B:=W.heap.size) (Nat.le_refl _) B1.size)).mono hA.size));generalize (cJ x ms s j).getD p 0=y at c1;generalize dO (cJ x ms s j) (p:Int) j=q at FO FB HT2 ⊢;clear O1 O2 t2 ho hb hs1 Xr;go_wp2
 refine bodyPost_ret (v:=.tuple #[.slice (some ⟨go,0,none⟩) j co,.bool true]) (by simp [results,Tryz.results135,go_sem]) rfl ?_
 exact ⟨_,_,_,by rw [HT1.out],by rw [HT2.out];exact FO.out,FB.out⟩
def mR (x:aq) (ms:List ai) (ds:List (Int×List Int)) (s:Int):Bool:=bf x ms ds&&(!x.xX&&inB s 0 (x.s-1))
def cZ (x:aq) (ms:List ai) (ds:List (Int×List Int)) (s:Int):Bool:=mR x ms ds s&&cV {x with xX:=false} ms s
def fj (x:aq) (ms:List ai) (ds:List (Int×List Int)) (s:Int):List Int:=if mR x ms ds s=true then dc {x with xX:=false} ms s else []
def fB (x:aq) (s:Int) (l:List Int) (j:Nat):List Int:=(List.range j).map fun (i:Nat)=>l.getD (fX x.n x.s s (i:Int)).toNat 0
theorem nI (x:aq) (s:Int) (l:List Int) (j:Nat):fB x s l (j+1)=fB x s l j++[l.getD (fX x.n x.s s (j:Int)).toNat 0]:=by unfold fB;rw [List.range_succ,List.map_append];rfl
theorem iC (x:aq) (s:Int) (l:List Int) (j:Nat):(fB x s l j).length=j:=by unfold fB;simp
def gd (x:aq) (ms:List ai) (s:Int):List Int:=if cV x ms s=true then fB x s (dc x ms s) (x.n.toNat-1) else []
theorem jN {x:aq} {ms:List ai} {s:Int} (h:cV x ms s=true):(dc x ms s).length=x.n.toNat:=by
 unfold cV at h;rcases gP (of_decide_eq_true h) with h0|⟨p,hp⟩
 . rw [(jL h0).2,eQ]
 rw [(lE hp).2,List.length_set,eQ]
theorem aJ.ahead6 {k:IntKind} {w:World} {a:Option Addr} {zs:List Int} (h:aJ k w a zs) (hn:0<zs.length):∀q,a=some q->q.block<w.heap.size:=by
 intro q hq;rcases h.cases with h1|⟨b,off,rfl,hlt,_⟩
 . omega
 simp at hq
 subst hq;exact hlt
theorem tU {n s t i:Int} (hg:bL n s=true) (ht:inB t 0 (s-1)=true) (h0:0<=i) (h1:i<n-1):0<=fX n s t i/\fX n s t i<n:=by
 obtain ⟨g1,g2,g3,g4⟩:=aB.1 hg;have hs:gy n s t i=true:=by
  unfold gy bJ;rw [hg,ht];unfold inB;simp
  omega
 unfold fX;rw [if_pos hs];exact ⟨Int.emod_nonneg _ (by omega),Int.emod_lt_of_pos _ (by omega)⟩
theorem tc (w:World) (E F:TypeId) (x:aq) (am ad:Option Addr) (nm cm nd cd:Nat) (ms:List ai) (s:Int) (h0:(bI E F).Rd w [.slice am nm cm] ms) (hw:aQ ms<=2097152) (hg:bL x.n x.s=true) (ht:inB s 0 (x.s-1)=true):
 Calls Tryz.prog 147 #[.agg #[.int .i64 x.id,.int .i64 x.n,.int .i64 x.s,.slice am nm cm,.int .i64 x.lost,.int .i64 x.xW,.int .i64 x.seq,.int .i64 x.tail,.int .i64 x.gen,.slice ad nd cd,.int .i64 x.xY,.bool x.down,.bool x.xX],.int .i64 s] w fun e w'=>∃a' l' c',e=.returned (.tuple #[.slice a' l' c',.bool (cV x ms s)])/\aD.Own w' w.heap.size w'.heap.size [.slice a' l' c'] (gd x ms s)/\Below w.heap.size w w':=by
 obtain ⟨g1,g2,g3,g4⟩:=aB.1 hg;obtain ⟨n,hn⟩:∃n:Nat,x.n=(n:Int):=⟨x.n.toNat,by omega⟩;have hnt:x.n.toNat=n:=by omega
 have HN:=aa hn;have HNT:=aa hnt;have hn5:3<=n/\n<=5:=by omega
 clear hn hnt;have hwn:IntKind.i64.wrap (x.n-1)=x.n-1:=IntWalk.i64_in _ (by omega);obtain ⟨i0,hi,hz0,hz1,hz2⟩:=info_parts Tryz.info3;have hA:=af w (.cells #[.int .i64 x.id,.int .i64 x.n,.int .i64 x.s,.slice am nm cm,.int .i64 x.lost,.int .i64 x.xW,.int .i64 x.seq,.int .i64 x.tail,.int .i64 x.gen,.slice ad nd cd,.int .i64 x.xY,.bool x.down,.bool x.xX] 31);have X:=Box.new w 31 #[.int .i64 x.id,.int .i64 x.n,.int .i64 x.s,.slice am nm cm,.int .i64 x.lost,.int .i64 x.xW,.int .i64 x.seq,.int .i64 x.tail,.int .i64 x.gen,.slice ad nd cd,.int .i64 x.xY,.bool x.down,.bool x.xX];obtain ⟨k0,k1,k2,k3,k4,k5,k6,k7,k8,k9,k10,k11,k12⟩:=X.cells13;have zA:=X.lt;have h1:=h0.below hA;go_enter Tryz.func147,Tryz.ntmps147
 go_wp2_with fail
 generalize w.alloc (.cells #[.int .i64 x.id,.int .i64 x.n,.int .i64 x.s,.slice am nm cm,.int .i64 x.lost,.int .i64 x.xW,.int .i64 x.seq,.int .i64 x.tail,.int .i64 x.gen,.slice ad nd cd,.int .i64 x.xY,.bool x.down,.bool x.xX] 31)=W at hA X zA h1 k0 k1 k2 k3 k4 k5 k6 k7 k8 k9 k10 k11 k12 ⊢;refine (mn _ E F x _ _ _ _ _ _ ms s h1 hw hg).mono ?_
 rintro e w1 ⟨aL,lL,cL,rfl,oL,b1⟩;have X1:=X.below b1 zA;have B1:=Below.andThen hA b1;clear k0 k1 k2 k3 k4 k5 k6 k7 k8 k9 k10 k11 k12 X b1 hA zA h1;have hO:bk .i64 3 (w1.alloc (.cells #[] 3)) w1.heap.size (.slice (some ⟨w1.heap.size,0,none⟩) 0 0) []:=bk.lit .i64 3 w1 [] 0 #[] rfl rfl (by unfold maxLen;omega);have b2:=af w1 (.cells #[] 3);cases hok:cV x ms s
 . have hD:gd x ms s=[]:=by unfold gd;rw [hok];rfl
   have X2:=X1.below b2 X1.lt;obtain ⟨k0,k1,k2,k3,k4,k5,k6,k7,k8,k9,k10,k11,k12⟩:=X2.cells13;have FO:=aa ((aS hO).widen (lo':=w.heap.size) B1.size (Nat.le_refl _));have FB:=aa (B1.trans (b2.mono B1.size));have HD:=aa hD;clear hD;go_wp2
   go_loopw [8,9] (fun v i wr=>v=.slice (some ⟨w1.heap.size,0,none⟩) 0 0/\i=.int .i64 0/\wr=w1.alloc (.cells #[] 3)) (fun _ i _=>0)
   case atStart=>exact ⟨rfl,rfl,rfl⟩
   obtain ⟨rfl,rfl,rfl⟩:=hrel;have h03:(0:Int)<x.n-1:=by omega
   go_wp2
   refine bodyPost_ret (v:=.tuple #[.slice (some ⟨w1.heap.size,0,none⟩) 0 0,.bool false]) (by simp [results,Tryz.results147,go_sem]) rfl ?_
   exact ⟨_,_,_,by rw [hok],by rw [HD.out];exact FO.out,FB.out⟩
 have hD:gd x ms s=fB x s (dc x ms s) (n-1):=by unfold gd;rw [hok,HNT.out];rfl
 have hwl:=jN hok;rw [HNT.out] at hwl;obtain ⟨rdL,hlL,hncL,_⟩:=aR oL.rd;generalize dc x ms s=L at hD hwl rdL hlL;have HD:=aa hD;have hlLn:lL=n:=by omega
 subst hlLn;clear hD oL;have rd2:=rdL.below b2;have X2:=X1.below b2 X1.lt;have B2:=B1.trans (b2.mono B1.size);have z2:w1.heap.size<(w1.alloc (.cells #[] 3)).heap.size:=by simp
 go_wp2
 generalize w1.alloc (.cells #[] 3)=W2 at hO b2 rd2 X2 B2 z2 ⊢;have sL:∀q,aL=some q->q.block<w1.heap.size:=rdL.ahead6 (by omega);go_loopw [8,9] (fun v i wr=>∃j:Nat,j<=lL-1/\i=.int .i64 j/\bk .i64 3 wr w1.heap.size v (fB x s L j)/\Below w1.heap.size W2 wr) (fun _ i _=>lL-1-(intOf i).toNat)
 case atStart=>exact ⟨0,Nat.zero_le _,rfl,by first|exact hO|simpa [fB] using hO,Below.refl _ _⟩
 obtain ⟨j,hj,rfl,ho,hb⟩:=hrel;have Xr:=X2.below hb X1.lt;obtain ⟨k0,k1,k2,k3,k4,k5,k6,k7,k8,k9,k10,k11,k12⟩:=Xr.cells13;have zr:=hb.size;have rdr:=rd2.old sL hb;by_cases hjn:j<lL-1
 . have hlt:(j:Int)<x.n-1:=by have:=HN.out;omega
   obtain ⟨d0,d1⟩:=tU (i:=(j:Int)) hg ht (by omega) hlt;go_wp2_with fail
   refine (nH _ _ _ _ _).mono ?_
   rintro e w3 ⟨rfl,b3⟩;have X3:=Xr.below b3 Xr.lt;have o3:=ho.below b3 (Nat.le_refl _);have B3:=hb.trans (b3.mono (by omega));have rd3:=rdr.below b3;have z3:=b3.size;clear k0 k1 k2 k3 k4 k5 k6 k7 k8 k9 k10 k11 k12 Xr b3 ho hb rdr;have hs1:=nI x s L j;have hlen:=iC x s L j;have d2:=HN.out;generalize fX x.n x.s s (j:Int)=dk at d0 d1 hs1 ⊢;obtain ⟨q,rfl⟩:=Int.eq_ofNat_of_zero_le d0;have hq:q<lL:=by omega
   rw [Int.toNat_natCast] at hs1;rcases rd3.cases with hx|⟨b,off,rfl,hbl,hcs⟩
   . omega
   have qc:=hcs q (by omega);generalize L.getD q 0=y at qc hs1;have HS:=aa hs1;have q1:(0:Int)<=(q:Int):=by omega
   have q2:(q:Int)<(lL:Int):=by omega
   clear hcs hs1 d0 d1 d2 rd3;go_wp2_with (at_builtin;refine dt .i64 (by rfl) _ _ 42 (by rfl) w1.heap.size 3 i0 _ 8 Tryz.underlying42 hi hz0 hz1 hz2 rfl _ (fB x s L j) (by rfl) (o3.alloc _) ⟨w3.heap.size,0,none⟩ 1 1 [y] (by rfl) rfl (aJ.new _ _ _ _ _ rfl) ?h1 ?h2 ?h3 ?_)
   case h1=>unfold maxLen;omega
   case h2=>omega
   case h3=>simp;omega
   intro v' w4 o4 b4;have B4:=aa ((B3.alloc (by omega) (.cells #[.int .i64 y] 3)).trans b4);rw [←HS.out] at o4;have O4:=aa o4;clear b4 o4 o3 B3;go_wp2
   go_roundw
   case rel=>exact ⟨j+1,by omega,by go_num,O4.out,B4.out⟩
   case measure=>simp [intOf];omega
 have ej:j=lL-1:=by omega
 have hge:x.n-1<=(j:Int):=by have:=HN.out;omega
 have hlen:=iC x s L j;obtain ⟨go,co,hv,hgl,hgh,hlc,hcm⟩:=jM ho (by omega);rw [hlen] at hv hlc;subst hv;have FO:=aa ((aS ho).widen (lo':=w.heap.size) B1.size (Nat.le_refl _));have FB:=aa (B2.trans (hb.mono B1.size));have HD2:Hid (gd x ms s=fB x s L j):=by unfold Hid;rw [HD.out,ej]
 clear ho hb Xr hlen hcm hlc hjn hgh rdr ej hj;go_wp2
 refine bodyPost_ret (v:=.tuple #[.slice (some ⟨go,0,none⟩) j co,.bool true]) (by simp [results,Tryz.results147,go_sem]) rfl ?_
 exact ⟨_,_,_,rfl,by rw [HD2.out];exact FO.out,FB.out⟩
def jb (x:aq) (ms:List ai) (ds:List (Int×List Int)) (s:Int):List Int:=if mR x ms ds s=true then gd {x with xX:=false} ms s else []
end Go.Proofs.YtgjomldcnjjpaaaGreat

/-
 The words of a stripe, and of its blocks, are few. No condition.
-/
import Derived.Test.YtfimpohbpccjaaaRowWordsSq14
import Derived.Test.YtfimpohbpccjaaaRowWordsSq9
import Derived.Test.YtfimpohbpccjaaaRowWordsSq1
import Derived.Test.YtfimpohbpccjaaaRowWordsSq3

set_option maxRecDepth 100000
set_option maxHeartbeats 8000000
set_option linter.unusedSimpArgs false

namespace Go.Proofs.Ytfimpohbpccjaaa
open Go.RowKit

def dH (ms:List aD) (m:Int):aD:=ms.getD m.toNat ([],[],false,[])
def fO (ms:List aD) (m s:Int):List Int:=aN (dH ms m).1 (dH ms m).2.1 (dH ms m).2.2.1 (dH ms m).2.2.2 (aR s)
def bl (x:aF) (ms:List aD) (m s:Int):Bool:=cc x ms m s&&(aI (dH ms m).1 (dH ms m).2.1 (dH ms m).2.2.1 (dH ms m).2.2.2 (aR s)&&decide ((fO ms m s).length=1))
def bo (x:aF) (ms:List aD) (m s:Int):Int:=if bl x ms m s=true then (fO ms m s).getD 0 0 else 0
theorem gE {x:aF} {ms:List aD} {m s:Int} (h:cc x ms m s=false):bl x ms m s=false:=by unfold bl;rw [h];rfl
theorem gV {x:aF} {ms:List aD} {m s:Int} (h:bl x ms m s=false):bo x ms m s=0:=by unfold bo;rw [if_neg (by simp [h])]
theorem eY {x:aF} {ms:List aD} {m s:Int} (h:bl x ms m s=true):bo x ms m s=(fO ms m s).getD 0 0:=by unfold bo;rw [if_pos h]
theorem ia {x:aF} {ms:List aD} {m s:Int} (h:cc x ms m s=true):0<=m/\m<(ms.length:Int):=by
 unfold cc inB at h;simp only [Bool.and_eq_true,decide_eq_true_eq] at h
 omega
theorem bL {x:aF} {ms:List aD} {m s:Int} (h:bl x ms m s=false):Ending.returned (.tuple #[.int .i64 0,.bool false])=.returned (.tuple #[.int .i64 (bo x ms m s),.bool (bl x ms m s)]):=by rw [gV h,h]
theorem fP (w:World) (E F:TypeId) (x:aF) (am ad:Option Addr) (nm cm nd cd:Nat) (ms:List aD) (m s:Int) (h0:(aY E F).Rd w [.slice am nm cm] ms) (hw:az ms<=2097152):
 Calls Try.prog 60 #[.agg #[.int .i64 x.id,.int .i64 x.n,.int .i64 x.s,.slice am nm cm,.int .i64 x.lost,.int .i64 x.il,.int .i64 x.seq,.int .i64 x.tail,.int .i64 x.gen,.slice ad nd cd,.int .i64 x.io,.bool x.down,.bool x.im],.int .i64 m,.int .i64 s] w fun e w'=>e=.returned (.tuple #[.int .i64 (bo x ms m s),.bool (bl x ms m s)])/\Below w.heap.size w w':=by
 obtain ⟨hl,hc,hm⟩:=af h0;have hnm:nm<=2097152:=by unfold az at hw;omega
 have hA:=ai w (.cells #[.int .i64 x.id,.int .i64 x.n,.int .i64 x.s,.slice am nm cm,.int .i64 x.lost,.int .i64 x.il,.int .i64 x.seq,.int .i64 x.tail,.int .i64 x.gen,.slice ad nd cd,.int .i64 x.io,.bool x.down,.bool x.im] 34);have X:=Box.new w 34 #[.int .i64 x.id,.int .i64 x.n,.int .i64 x.s,.slice am nm cm,.int .i64 x.lost,.int .i64 x.il,.int .i64 x.seq,.int .i64 x.tail,.int .i64 x.gen,.slice ad nd cd,.int .i64 x.io,.bool x.down,.bool x.im];obtain ⟨k0,k1,k2,k3,k4,k5,k6,k7,k8,k9,k10,k11,k12⟩:=X.cells13;have zA:=X.lt;have h1:=h0.below hA;go_enter Try.func60,Try.ntmps60
 go_wp2_with fail
 generalize w.alloc (.cells #[.int .i64 x.id,.int .i64 x.n,.int .i64 x.s,.slice am nm cm,.int .i64 x.lost,.int .i64 x.il,.int .i64 x.seq,.int .i64 x.tail,.int .i64 x.gen,.slice ad nd cd,.int .i64 x.io,.bool x.down,.bool x.im] 34)=W at hA X zA h1 k0 k1 k2 k3 k4 k5 k6 k7 k8 k9 k10 k11 k12 ⊢;refine (dU _ E F x _ _ _ _ _ _ ms m s h1 hw).mono ?_
 rintro e w1 ⟨rfl,b1⟩;have X1:=X.below b1 zA;have B1:=Below.andThen hA b1;have h2:=h1.below b1;clear k0 k1 k2 k3 k4 k5 k6 k7 k8 k9 k10 k11 k12 X b1 hA zA h1;obtain ⟨k0,k1,k2,k3,k4,k5,k6,k7,k8,k9,k10,k11,k12⟩:=X1.cells13;cases hlv:cc x ms m s
 . have HF:=ab (bL (gE hlv))
   go_wp2
   refine bodyPost_ret (v:=.tuple #[.int .i64 0,.bool false]) (by simp [results,Try.results60,go_sem]) rfl ?_
   exact ⟨HF.out,B1⟩
 obtain ⟨m1,m2⟩:=ia hlv;obtain ⟨j,rfl⟩:=Int.eq_ofNat_of_zero_le m1;rcases bH rfl h2 with h0'|⟨b,off,rfl,hbl,hcs⟩
 . omega
 have hdj:ms[j]?=some (ms[j]'(by omega)):=List.getElem?_eq_getElem (by omega);generalize ms[j]'(by omega)=d at hdj;obtain ⟨v0,v1,v2,v3,hv0,hv1,hv2,hv3,hrv⟩:=hcs j d hdj;obtain ⟨a0,c0,a1,c1,a3,c3,ss,cs,f,bs,rfl,rfl,rfl,rfl,rfl,r0,r1,r3⟩:=cV hrv;have hwm:=Nat.le_trans (bM hdj) hw;have hmd:dH ms (j:Int)=(ss,cs,f,bs):=by unfold dH;rw [Int.toNat_natCast,List.getD_eq_getElem?_getD,hdj];rfl
 have hsec:fO ms (j:Int) s=aN ss cs f bs (aR s):=by unfold fO;rw [hmd]
 have hhas:bl x ms (j:Int) s=(aI ss cs f bs (aR s)&&decide ((aN ss cs f bs (aR s)).length=1)):=by unfold bl;rw [hlv,hsec,hmd];rfl
 have hwd:bl x ms (j:Int) s=true->bo x ms (j:Int) s=(aN ss cs f bs (aR s)).getD 0 0:=fun h=>by rw [eY h,hsec]
 have HH:=ab hhas;have HWD:=ab hwd;have i1:(0:Int)<=(j:Int):=by omega
 have i2:(j:Int)<(nm:Int):=by omega
 clear hcs hrv hdj hmd hsec hhas hwd m1 m2;have zb:b<w1.heap.size:=hbl;have zx:=X1.lt;go_wp2_with fail
 refine wp_region_held_drew (S:=fun w'=>w'.cell? ⟨w.heap.size,3,none⟩=some (.slice (some ⟨b,off,none⟩) nm cm)/\w'.cell? ⟨b,off+j*4,none⟩=some (.slice a0 ss.length c0)/\w'.cell? ⟨b,off+j*4+1,none⟩=some (.slice a1 cs.length c1)/\w'.cell? ⟨b,off+j*4+2,none⟩=some (.bool f)/\w'.cell? ⟨b,off+j*4+3,none⟩=some (.slice a3 bs.length c3)) (by kernel_rfl) ?_ (fun ik=>?_)
 . exact ⟨k3,hv0,hv1,hv2,hv3⟩
 refine ah (i:=0) (v:=?_) rfl (by kernel_rfl) (by kernel_rfl) (by kernel_rfl) (fun _ _ _ h=>h) (by kernel_rfl) ?_ ik ?_
 rotate_left 1
 . (intro w hSw;(try dsimp only at hSw);go_split_ands;go_simp;first|done|with_reducible rfl)
 simp only [Act.put,List.setIfInBounds_toArray,List.set_cons_zero,List.set_cons_succ]
 refine ah (i:=1) (v:=?_) rfl (by kernel_rfl) (by kernel_rfl) (by kernel_rfl) (fun _ _ _ h=>h) (by kernel_rfl) ?_ ik ?_
 rotate_left 1
 . (intro w hSw;(try dsimp only at hSw);go_split_ands;go_simp;first|done|with_reducible rfl)
 simp only [Act.put,List.setIfInBounds_toArray,List.set_cons_zero,List.set_cons_succ]
 refine ah (i:=2) (v:=?_) rfl (by kernel_rfl) (by kernel_rfl) (by kernel_rfl) (fun _ _ _ h=>h) (by kernel_rfl) ?_ ik ?_
 rotate_left 1
 . (intro w hSw;(try dsimp only at hSw);go_split_ands;go_simp;first|done|with_reducible rfl)
 simp only [Act.put,List.setIfInBounds_toArray,List.set_cons_zero,List.set_cons_succ]
 refine ah (i:=3) (v:=?_) rfl (by kernel_rfl) (by kernel_rfl) (by kernel_rfl) (fun _ _ _ h=>h) (by kernel_rfl) ?_ ik ?_
 rotate_left 1
 . (intro w hSw;(try dsimp only at hSw);go_split_ands;go_simp;first|done|with_reducible rfl)
 simp only [Act.put,List.setIfInBounds_toArray,List.set_cons_zero,List.set_cons_succ]
 refine ah (i:=4) (v:=?_) rfl (by kernel_rfl) (by kernel_rfl) (by kernel_rfl) (fun _ _ _ h=>h) (by kernel_rfl) ?_ ik ?_
 rotate_left 1
 . (intro w hSw;(try dsimp only at hSw);go_split_ands;go_simp;first|done|with_reducible rfl)
 simp only [Act.put,List.setIfInBounds_toArray,List.set_cons_zero,List.set_cons_succ]
 refine ah (i:=5) (v:=?_) rfl (by kernel_rfl) (by kernel_rfl) (by kernel_rfl) (fun _ _ _ h=>h) (by kernel_rfl) ?_ ik ?_
 rotate_left 1
 . (intro w hSw;(try dsimp only at hSw);go_split_ands;go_simp;first|done|with_reducible rfl)
 simp only [Act.put,List.setIfInBounds_toArray,List.set_cons_zero,List.set_cons_succ]
 refine ag (i:=6) (by kernel_rfl) rfl (by kernel_rfl) (fun K hK=>?_)
 go_simp
 refine (dW _ _).mono ?_
 rintro e w2 ⟨rfl,hw2⟩;subst hw2;go_wp2_with fail
 clear ik;refine hK.out _ _ ?_ (fun ik=>?_)
 . exact ⟨k3,hv0,hv1,hv2,hv3⟩
 clear hK K;refine ag (i:=7) (by kernel_rfl) rfl (by kernel_rfl) (fun K hK=>?_)
 go_simp
 refine (dG _ E _ _ _ _ _ _ _ _ _ ss cs f bs (aR s) r0.drew r1.drew r3.drew hwm).mono ?_
 rintro e w3 ⟨a',l,c',rfl,o3,b3⟩;have b3':Below w1.heap.size w1 w3:=(Below.refl w1.heap.size w1).drew.trans b3;clear b3;go_wp2_with fail
 clear ik;refine hK.out _ _ ?_ (fun ik=>?_)
 . exact ⟨(b3'.cell (p:=⟨w.heap.size,3,none⟩) zx).trans k3,(b3'.cell (p:=⟨b,off+j*4,none⟩) zb).trans hv0,(b3'.cell (p:=⟨b,off+j*4+1,none⟩) zb).trans hv1,(b3'.cell (p:=⟨b,off+j*4+2,none⟩) zb).trans hv2,(b3'.cell (p:=⟨b,off+j*4+3,none⟩) zb).trans hv3⟩
 clear hK K;refine ah (i:=8) (v:=?_) rfl (by kernel_rfl) (by kernel_rfl) (by kernel_rfl) (fun _ _ _ h=>h) (by kernel_rfl) ?_ ik ?_
 rotate_left 1
 . (intro w hSw;(try dsimp only at hSw);go_split_ands;go_simp;first|done|with_reducible rfl)
 simp only [Act.put,List.setIfInBounds_toArray,List.set_cons_zero,List.set_cons_succ]
 refine ah (i:=9) (v:=?_) rfl (by kernel_rfl) (by kernel_rfl) (by kernel_rfl) (fun _ _ _ h=>h) (by kernel_rfl) ?_ ik ?_
 rotate_left 1
 . (intro w hSw;(try dsimp only at hSw);go_split_ands;go_simp;first|done|with_reducible rfl)
 simp only [Act.put,List.setIfInBounds_toArray,List.set_cons_zero,List.set_cons_succ]
 refine ah (i:=10) (v:=?_) rfl (by kernel_rfl) (by kernel_rfl) (by kernel_rfl) (fun _ _ _ h=>h) (by kernel_rfl) ?_ ik ?_
 rotate_left 1
 . (intro w hSw;(try dsimp only at hSw);go_split_ands;go_simp;first|done|with_reducible rfl)
 simp only [Act.put,List.setIfInBounds_toArray,List.set_cons_zero,List.set_cons_succ]
 refine ah (i:=11) (v:=?_) rfl (by kernel_rfl) (by kernel_rfl) (by kernel_rfl) (fun _ _ _ h=>h) (by kernel_rfl) ?_ ik ?_
 rotate_left 1
 . (intro w hSw;(try dsimp only at hSw);go_split_ands;go_simp;first|done|with_reducible rfl)
 simp only [Act.put,List.setIfInBounds_toArray,List.set_cons_zero,List.set_cons_succ]
 refine ah (i:=12) (v:=?_) rfl (by kernel_rfl) (by kernel_rfl) (by kernel_rfl) (fun _ _ _ h=>h) (by kernel_rfl) ?_ ik ?_
 rotate_left 1
 . (intro w hSw;(try dsimp only at hSw);go_split_ands;go_simp;first|done|with_reducible rfl)
 simp only [Act.put,List.setIfInBounds_toArray,List.set_cons_zero,List.set_cons_succ]
 refine wpAnyH_done (by kernel_rfl) ?_ _
 clear ik;have B3:=Below.andThen B1 b3';obtain ⟨rd3,hl3,_,_⟩:=ap o3.rd;clear o3 b3' r0 r1 r3 hv0 hv1 hv2 hv3 k0 k1 k2 k3 k4 k5 k6 k7 k8 k9 k10 k11 k12 X1 B1 h2;generalize aN ss cs f bs (aR s)=L at rd3 hl3 HH HWD;generalize aI ss cs f bs (aR s)=ok at HH ⊢;cases ok
 . have HF:=ab (bL (x:=x) (ms:=ms) (m:=(j:Int)) (s:=s) (by rw [HH.out];rfl))
   go_wp2
   refine bodyPost_ret (v:=.tuple #[.int .i64 0,.bool false]) (by simp [results,Try.results60,go_sem]) rfl ?_
   exact ⟨HF.out,B3⟩
 by_cases h1:l=1
 . subst h1
   obtain ⟨z,rfl⟩:∃z,L=[z]:=by
    match L,hl3 with
    | [z],_=>exact ⟨z,rfl⟩
   have hT:bl x ms (j:Int) s=true:=by rw [HH.out];rfl
   have HF:Hid (Ending.returned (.tuple #[.int .i64 z,.bool true])=.returned (.tuple #[.int .i64 (bo x ms (j:Int) s),.bool (bl x ms (j:Int) s)])):=by unfold Hid;rw [HWD.out hT,hT];rfl
   rcases rd3.cases with h0''|⟨b',off',rfl,hb',hc'⟩
   . simp at h0''
   have q0:w3.cell? ⟨b',off',none⟩=some (.int .i64 z):=hc' 0 (by simp);clear hc' hT;go_wp2
   refine bodyPost_ret (v:=.tuple #[.int .i64 z,.bool true]) (by simp [results,Try.results60,go_sem]) rfl ?_
   exact ⟨HF.out,B3⟩
 have HF:=ab (bL (x:=x) (ms:=ms) (m:=(j:Int)) (s:=s) (by rw [HH.out,hl3];simp [h1]));have e1:((l:Int)==1)=false:=by simp;omega
 have e2:((l:Int) !=1)=true:=by simp;omega
 go_wp2
 refine bodyPost_ret (v:=.tuple #[.int .i64 0,.bool false]) (by simp [results,Try.results60,go_sem]) rfl ?_
 exact ⟨HF.out,B3⟩
def bj (x:aF) (ms:List aD) (s:Int) (j:Nat):List Int:=(List.range j).map fun (i:Nat)=>bo x ms (i:Int) s
def aQ (x:aF) (ms:List aD) (s:Int) (j:Nat):List Nat:=(List.range j).filter fun (i:Nat)=>!bl x ms (i:Int) s
def cf:List Nat->Int
 | []=>-1
 | p :: _=>(p:Int)
def cE (x:aF) (ms:List aD) (s:Int):Bool:=decide ((aQ x ms s x.n.toNat).length<=1)
def bO (x:aF) (ms:List aD) (s:Int):List Int:=
 match aQ x ms s x.n.toNat with
 | []=>bj x ms s x.n.toNat
 | [p]=>(bj x ms s x.n.toNat).set p (br (bj x ms s x.n.toNat) (p:Int) x.n.toNat)
 | _=>[]
theorem dY (x:aF) (ms:List aD) (s:Int) (j:Nat):bj x ms s (j+1)=bj x ms s j++[bo x ms (j:Int) s]:=by unfold bj;rw [List.range_succ,List.map_append];rfl
theorem bP (x:aF) (ms:List aD) (s:Int) (j:Nat):(bj x ms s j).length=j:=by unfold bj;simp
theorem dD {x:aF} {ms:List aD} {s:Int} {j:Nat} (h:bl x ms (j:Int) s=true):aQ x ms s (j+1)=aQ x ms s j:=by unfold aQ;rw [List.range_succ,List.filter_append];simp [h]
theorem dZ {x:aF} {ms:List aD} {s:Int} {j:Nat} (h:bl x ms (j:Int) s=false):aQ x ms s (j+1)=aQ x ms s j++[j]:=by unfold aQ;rw [List.range_succ,List.filter_append];simp [h]
theorem fR (x:aF) (ms:List aD) (s:Int) (j k:Nat) (h:j<=k):(aQ x ms s j).length<=(aQ x ms s k).length:=by
 induction k with
 | zero=>
  obtain rfl:j=0:=by omega
  exact Nat.le_refl _
 | succ k ih=>
  rcases Nat.lt_or_ge k j with h1|h1
  . obtain rfl:j=k+1:=by omega
    exact Nat.le_refl _
  refine Nat.le_trans (ih h1) ?_
  cases hh:bl x ms (k:Int) s with
  | true=>rw [dD hh];exact Nat.le_refl _
  | false=>rw [dZ hh];simp
theorem eZ {x:aF} {ms:List aD} {s:Int} {j p:Nat} (h:p∈aQ x ms s j):p<j:=by
 unfold aQ at h;exact List.mem_range.1 (List.mem_filter.1 h).1
theorem eE {x:aF} {ms:List aD} {s:Int} {j:Nat} (h:2<=(aQ x ms s j).length) (hj:j<=x.n.toNat):cE x ms s=false/\bO x ms s=[]:=by
 have h2:=Nat.le_trans h (fR x ms s j x.n.toNat hj);refine ⟨by unfold cE;simp;omega,?_⟩
 unfold bO;match hm:aQ x ms s x.n.toNat,h2 with
 | _ :: _ :: _,_=>rfl
theorem eb {x:aF} {ms:List aD} {s:Int} (h:aQ x ms s x.n.toNat=[]):cE x ms s=true/\bO x ms s=bj x ms s x.n.toNat:=by
 refine ⟨by unfold cE;rw [h];rfl,?_⟩
 unfold bO;rw [h]
theorem eF {x:aF} {ms:List aD} {s:Int} {p:Nat} (h:aQ x ms s x.n.toNat=[p]):cE x ms s=true/\bO x ms s=(bj x ms s x.n.toNat).set p (br (bj x ms s x.n.toNat) (p:Int) x.n.toNat):=by
 refine ⟨by unfold cE;rw [h];rfl,?_⟩
 unfold bO;rw [h]
theorem ec {k:IntKind} {E:TypeId} {w:World} {lo:Nat} {v:Value} {zs:List Int} (h:aS k E w lo v zs) (hn:0<zs.length):∃g cap,v=.slice (some ⟨g,0,none⟩) zs.length cap/\lo<=g/\g<w.heap.size/\zs.length<=cap/\cap<=maxLen:=by
 rcases h.2 with ⟨_,h0⟩|⟨g,cap,cur,hv,hb,hg,hnc,hcm,_⟩
 . omega
 exact ⟨g,cap,hv,hb,(Array.getElem?_eq_some_iff.1 hg).1,hnc,hcm⟩
theorem cX {l:List Nat} (h:l.length<=1):l=[]∨∃p,l=[p]:=by
 match l,h with
 | [],_=>exact .inl rfl
 | [p],_=>exact .inr ⟨p,rfl⟩
theorem fd (w:World) (E F:TypeId) (x:aF) (am ad:Option Addr) (nm cm nd cd:Nat) (ms:List aD) (s:Int) (h0:(aY E F).Rd w [.slice am nm cm] ms) (hw:az ms<=2097152) (hg:cp x.n x.s=true):
 Calls Try.prog 38 #[.agg #[.int .i64 x.id,.int .i64 x.n,.int .i64 x.s,.slice am nm cm,.int .i64 x.lost,.int .i64 x.il,.int .i64 x.seq,.int .i64 x.tail,.int .i64 x.gen,.slice ad nd cd,.int .i64 x.io,.bool x.down,.bool x.im],.int .i64 s] w fun e w'=>∃a' l' c',e=.returned (.tuple #[.slice a' l' c',.bool (cE x ms s)])/\aA.Own w' w.heap.size w'.heap.size [.slice a' l' c'] (bO x ms s)/\Below w.heap.size w w':=by
 obtain ⟨g1,g2,g3,g4⟩:=aW.1 hg;obtain ⟨n,hn⟩:∃n:Nat,x.n=(n:Int):=⟨x.n.toNat,by omega⟩;have hnt:x.n.toNat=n:=by omega
 have HN:=ab hn;have HNT:=ab hnt;have hn5:n<=5:=by omega
 clear hn hnt;obtain ⟨i0,hi,hz0,hz1,hz2⟩:=info_parts Try.info3;have hA:=ai w (.cells #[.int .i64 x.id,.int .i64 x.n,.int .i64 x.s,.slice am nm cm,.int .i64 x.lost,.int .i64 x.il,.int .i64 x.seq,.int .i64 x.tail,.int .i64 x.gen,.slice ad nd cd,.int .i64 x.io,.bool x.down,.bool x.im] 34);have X:=Box.new w 34 #[.int .i64 x.id,.int .i64 x.n,.int .i64 x.s,.slice am nm cm,.int .i64 x.lost,.int .i64 x.il,.int .i64 x.seq,.int .i64 x.tail,.int .i64 x.gen,.slice ad nd cd,.int .i64 x.io,.bool x.down,.bool x.im];have zA:=X.lt;have h1:=h0.below hA;go_enter Try.func38,Try.ntmps38
 go_wp2
 have zW:(w.alloc (.cells #[.int .i64 x.id,.int .i64 x.n,.int .i64 x.s,.slice am nm cm,.int .i64 x.lost,.int .i64 x.il,.int .i64 x.seq,.int .i64 x.tail,.int .i64 x.gen,.slice ad nd cd,.int .i64 x.io,.bool x.down,.bool x.im] 34)).heap.size=w.heap.size+1:=by simp
 have ZW:=ab zW;clear zW;generalize w.alloc (.cells #[.int .i64 x.id,.int .i64 x.n,.int .i64 x.s,.slice am nm cm,.int .i64 x.lost,.int .i64 x.il,.int .i64 x.seq,.int .i64 x.tail,.int .i64 x.gen,.slice ad nd cd,.int .i64 x.io,.bool x.down,.bool x.im] 34)=W at hA X zA h1 ZW ⊢;have hO:aS .i64 3 (W.alloc (.cells #[] 3)) W.heap.size (.slice (some ⟨W.heap.size,0,none⟩) 0 0) []:=aS.lit .i64 3 W [] 0 #[] rfl rfl (by unfold maxLen;omega);go_loopw [6,7,8] (fun v lo i wr=>∃j:Nat,j<=n/\i=.int .i64 j/\lo=.int .i64 (cf (aQ x ms s j))/\(aQ x ms s j).length<=1/\aS .i64 3 wr W.heap.size v (bj x ms s j)/\Below W.heap.size W wr) (fun _ _ i _=>n-(intOf i).toNat)
 case atStart=>exact ⟨0,Nat.zero_le _,rfl,rfl,Nat.zero_le _,by first|exact hO|(rw [ZW.out] at hO;rw [ZW.out];exact hO),(Below.refl _ _).alloc (Nat.le_refl _) _⟩
 obtain ⟨j,hj,rfl,rfl,hm1,ho,hb⟩:=hrel;have Xr:=X.below hb zA;obtain ⟨k0,k1,k2,k3,k4,k5,k6,k7,k8,k9,k10,k11,k12⟩:=Xr.cells13;have zs:=hb.size;by_cases hjn:j<n
 . have hlt:(j:Int)<x.n:=by have:=HN.out;omega
   go_wp2_with fail
   refine (fP _ E F x _ _ _ _ _ _ ms (j:Int) s (h1.below hb) hw).mono ?_
   rintro e w1 ⟨rfl,b1⟩;have X1:=Xr.below b1 Xr.lt;have B1:=hb.trans (b1.mono hb.size);have o1:=ho.below b1 (Nat.le_refl _);have z1:=b1.size;clear k0 k1 k2 k3 k4 k5 k6 k7 k8 k9 k10 k11 k12 Xr b1 ho hb;have hs1:=dY x ms s j;have hlen:=bP x ms s j;cases hh:bl x ms (j:Int) s
   . have hmn:=dZ hh
     rcases cX hm1 with h00|⟨p,hp⟩
     . have hl0:cf (aQ x ms s j)=-1:=by rw [h00];rfl
       have hl1:cf (aQ x ms s (j+1))=(j:Int):=by rw [hmn,h00];rfl
       have hc1:(aQ x ms s (j+1)).length<=1:=by rw [hmn,h00];exact Nat.le_refl _
       have HL1:=ab hl1;have HC1:=ab hc1;rw [hl0];clear hmn h00 hl0 hl1 hc1;generalize bo x ms (j:Int) s=y at hs1 ⊢;have HS:=ab hs1;clear hs1;go_wp2_with (at_builtin;refine cP .i64 (by rfl) _ _ 38 (by rfl) W.heap.size 3 i0 _ 8 Try.underlying38 hi hz0 hz1 hz2 rfl _ (bj x ms s j) (by rfl) (o1.alloc _) ⟨w1.heap.size,0,none⟩ 1 1 [y] (by rfl) rfl (aL.new _ _ _ _ _ rfl) ?h1 ?h2 ?h3 ?_)
       case h1=>unfold maxLen;omega
       case h2=>omega
       case h3=>simp;omega
       intro v' w2 o2 b2;have B2:=ab ((B1.alloc B1.size (.cells #[.int .i64 y] 3)).trans b2);rw [←HS.out] at o2;have O2:=ab o2;clear b2 o2 o1 B1;go_wp2
       go_roundw
       case rel=>exact ⟨j+1,by omega,by go_num,by rw [HL1.out],HC1.out,O2.out,B2.out⟩
       case measure=>simp [intOf];omega
     have hl0:cf (aQ x ms s j)=(p:Int):=by rw [hp];rfl
     obtain ⟨t1,t2⟩:=eE (x:=x) (ms:=ms) (s:=s) (j:=j+1) (by rw [hmn,hp];exact Nat.le_refl _) (by have:=HNT.out;omega);have HT1:=ab t1;have HT2:=ab t2;rw [hl0];clear hmn hp hl0 t1 t2 hs1;have hp0:(0:Int)<=(p:Int):=by omega
     have FO:=ab ((aH (aS.lit .i64 3 w1 [] 0 #[] rfl rfl (by unfold maxLen;omega))).widen (lo':=w.heap.size) (by omega) (Nat.le_refl _));have FB:=ab (hA.trans ((B1.alloc B1.size (.cells #[] 3)).mono hA.size));go_wp2
     refine bodyPost_ret (v:=.tuple #[.slice (some ⟨w1.heap.size,0,none⟩) 0 0,.bool false]) (by simp [results,Try.results38,go_sem]) rfl ?_
     exact ⟨_,_,_,by rw [HT1.out],by rw [HT2.out];exact FO.out,FB.out⟩
   have hmy:=dD hh;have HL1:Hid (cf (aQ x ms s (j+1))=cf (aQ x ms s j)):=by unfold Hid;rw [hmy]
   have HC1:Hid ((aQ x ms s (j+1)).length<=1):=by unfold Hid;rw [hmy];exact hm1
   clear hmy;generalize bo x ms (j:Int) s=y at hs1 ⊢;have HS:=ab hs1;clear hs1;go_wp2_with (at_builtin;refine cP .i64 (by rfl) _ _ 38 (by rfl) W.heap.size 3 i0 _ 8 Try.underlying38 hi hz0 hz1 hz2 rfl _ (bj x ms s j) (by rfl) (o1.alloc _) ⟨w1.heap.size,0,none⟩ 1 1 [y] (by rfl) rfl (aL.new _ _ _ _ _ rfl) ?h1 ?h2 ?h3 ?_)
   case h1=>unfold maxLen;omega
   case h2=>omega
   case h3=>simp;omega
   intro v' w2 o2 b2;have B2:=ab ((B1.alloc B1.size (.cells #[.int .i64 y] 3)).trans b2);rw [←HS.out] at o2;have O2:=ab o2;clear b2 o2 o1 B1;go_wp2
   go_roundw
   case rel=>exact ⟨j+1,by omega,by go_num,by rw [HL1.out],HC1.out,O2.out,B2.out⟩
   case measure=>simp [intOf];omega
 have ej:j=n:=by omega
 subst ej;have hge:x.n<=(j:Int):=by have:=HN.out;omega
 have hlen:=bP x ms s j;rcases cX hm1 with h00|⟨p,hp⟩
 . have hl0:cf (aQ x ms s j)=-1:=by rw [h00];rfl
   obtain ⟨t1,t2⟩:=eb (x:=x) (ms:=ms) (s:=s) (by rw [HNT.out];exact h00);rw [HNT.out] at t2;have HT1:=ab t1;have HT2:=ab t2;rw [hl0];clear h00 hl0 t1 t2;obtain ⟨go,co,hv,hgl,hgh,hlc,hcm⟩:=ec ho (by have:=HN.out;omega);rw [hlen] at hv hlc;subst hv;have FO:=ab ((aH ho).widen (lo':=w.heap.size) (by omega) (Nat.le_refl _));have FB:=ab (hA.trans (hb.mono hA.size));clear ho hb Xr hlen hm1 hcm hlc hj hjn hgh;go_wp2
   refine bodyPost_ret (v:=.tuple #[.slice (some ⟨go,0,none⟩) j co,.bool true]) (by simp [results,Try.results38,go_sem]) rfl ?_
   exact ⟨_,_,_,by rw [HT1.out],by rw [HT2.out];exact FO.out,FB.out⟩
 have hl0:cf (aQ x ms s j)=(p:Int):=by rw [hp];rfl
 have hpj:p<j:=eZ (x:=x) (ms:=ms) (s:=s) (by rw [hp];simp);obtain ⟨t1,t2⟩:=eF (x:=x) (ms:=ms) (s:=s) (p:=p) (by rw [HNT.out];exact hp);rw [HNT.out] at t2;have HT1:=ab t1;have HT2:=ab t2;rw [hl0];clear hp hl0 t1 t2;have hp0:(0:Int)<=(p:Int):=by omega
 have hp1:(p:Int)<(j:Int):=by omega
 obtain ⟨go,co,hv,hgl,hgh,hlc,hcm⟩:=ec ho (by omega);rw [hlen] at hv hlc;subst hv;go_wp2_with fail
 refine (dh _ _ _ _ (bj x ms s j) (p:Int) hlen ho.reads (by omega)).mono ?_
 rintro e w1 ⟨rfl,hs1⟩;have O1:=ho.own.same hs1;have B1:=hb.trans (hs1.below _);have z1:=hs1.size;obtain ⟨c1,f1,O2,t2⟩:=O1.store p hpj (br (bj x ms s j) (p:Int) j);have FO:=ab ((aH O2.1).widen (lo':=w.heap.size) (by omega) (Nat.le_refl _));have FB:=ab (hA.trans ((B1.trans (t2.below (B:=W.heap.size) (Nat.le_refl _) B1.size)).mono hA.size));generalize (bj x ms s j).getD p 0=y at c1;generalize br (bj x ms s j) (p:Int) j=q at FO FB HT2 ⊢;clear O1 O2 t2 ho hb hs1 Xr;go_wp2
 refine bodyPost_ret (v:=.tuple #[.slice (some ⟨go,0,none⟩) j co,.bool true]) (by simp [results,Try.results38,go_sem]) rfl ?_
 exact ⟨_,_,_,by rw [HT1.out],by rw [HT2.out];exact FO.out,FB.out⟩
def dI (x:aF) (ms:List aD) (ds:List (Int×List Int)) (s:Int):Bool:=aX x ms ds&&(!x.im&&inB s 0 (x.s-1))
def aO (x:aF) (ms:List aD) (ds:List (Int×List Int)) (s:Int):Bool:=dI x ms ds s&&cE {x with im:=false} ms s
def aT (x:aF) (ms:List aD) (ds:List (Int×List Int)) (s:Int):List Int:=if dI x ms ds s=true then bO {x with im:=false} ms s else []
theorem eq (w:World) (E F G:TypeId) (x:aF) (am ad:Option Addr) (nm cm nd cd:Nat) (ms:List aD) (ds:List (Int×List Int)) (s:Int) (h0:(aY E F).Rd w [.slice am nm cm] ms) (h1:(aP G).Rd w [.slice ad nd cd] ds) (hw:bc ms ds<=2097152):
 Calls Try.prog 13 #[.agg #[.int .i64 x.id,.int .i64 x.n,.int .i64 x.s,.slice am nm cm,.int .i64 x.lost,.int .i64 x.il,.int .i64 x.seq,.int .i64 x.tail,.int .i64 x.gen,.slice ad nd cd,.int .i64 x.io,.bool x.down,.bool x.im],.int .i64 s] w fun e w'=>∃a' l' c',e=.returned (.tuple #[.slice a' l' c',.bool (aO x ms ds s)])/\aA.Own w' w.heap.size w'.heap.size [.slice a' l' c'] (aT x ms ds s)/\Below w.heap.size w w':=by
 have hwm:az ms<=2097152:=by unfold bc at hw;omega
 have hA:=ai w (.cells #[.int .i64 x.id,.int .i64 x.n,.int .i64 x.s,.slice am nm cm,.int .i64 x.lost,.int .i64 x.il,.int .i64 x.seq,.int .i64 x.tail,.int .i64 x.gen,.slice ad nd cd,.int .i64 x.io,.bool x.down,.bool x.im] 34);have X:=Box.new w 34 #[.int .i64 x.id,.int .i64 x.n,.int .i64 x.s,.slice am nm cm,.int .i64 x.lost,.int .i64 x.il,.int .i64 x.seq,.int .i64 x.tail,.int .i64 x.gen,.slice ad nd cd,.int .i64 x.io,.bool x.down,.bool x.im];obtain ⟨k0,k1,k2,k3,k4,k5,k6,k7,k8,k9,k10,k11,k12⟩:=X.cells13;have zA:=X.lt;have r0:=h0.below hA;have r1:=h1.below hA;go_enter Try.func13,Try.ntmps13
 go_wp2_with fail
 generalize w.alloc (.cells #[.int .i64 x.id,.int .i64 x.n,.int .i64 x.s,.slice am nm cm,.int .i64 x.lost,.int .i64 x.il,.int .i64 x.seq,.int .i64 x.tail,.int .i64 x.gen,.slice ad nd cd,.int .i64 x.io,.bool x.down,.bool x.im] 34)=W at hA X zA r0 r1 k0 k1 k2 k3 k4 k5 k6 k7 k8 k9 k10 k11 k12 ⊢;refine (eo _ E F G x _ _ _ _ _ _ ms ds r0 r1 hw).mono ?_
 rintro e w1 ⟨rfl,b1⟩;have X1:=X.below b1 zA;have B1:=Below.andThen hA b1;have q1:=r0.below b1;clear k0 k1 k2 k3 k4 k5 k6 k7 k8 k9 k10 k11 k12 X b1 hA zA r0 r1;obtain ⟨k0,k1,k2,k3,k4,k5,k6,k7,k8,k9,k10,k11,k12⟩:=X1.cells13;cases ha:aX x ms ds
 . skip
   have HF:Hid (aO x ms ds s=false/\aT x ms ds s=[]):=by unfold Hid aO aT dI;simp [ha]
   have FO:=ab ((aH (aS.lit .i64 3 w1 [] 0 #[] rfl rfl (by unfold maxLen;omega))).widen (lo':=w.heap.size) B1.size (Nat.le_refl _));have FB:=ab (B1.alloc B1.size (.cells #[] 3));go_wp2
   refine bodyPost_ret (v:=.tuple #[.slice (some ⟨w1.heap.size,0,none⟩) 0 0,.bool false]) (by simp [results,Try.results13,go_sem]) rfl ?_
   exact ⟨_,_,_,by rw [HF.out.1],by rw [HF.out.2];exact FO.out,FB.out⟩
 have hg:cp x.n x.s=true:=by unfold aX at ha;simp only [Bool.and_eq_true] at ha;exact ha.1
 obtain ⟨g1,g2,g3,g4⟩:=aW.1 hg;have hws:IntKind.i64.wrap (x.s-1)=x.s-1:=IntWalk.i64_in _ (by omega);cases hbr:x.im
 . rw [hbr] at k12
   go_wp2_with fail
   refine (al _ _ _ _).mono ?_
   rintro e wq ⟨rfl,hq⟩;obtain rfl:=hq.symm;cases hin:inB s 0 (x.s-1)
   . skip
     have HF:Hid (aO x ms ds s=false/\aT x ms ds s=[]):=by unfold Hid aO aT dI;simp [hin]
     have FO:=ab ((aH (aS.lit .i64 3 w1 [] 0 #[] rfl rfl (by unfold maxLen;omega))).widen (lo':=w.heap.size) B1.size (Nat.le_refl _));have FB:=ab (B1.alloc B1.size (.cells #[] 3));go_wp2
     refine bodyPost_ret (v:=.tuple #[.slice (some ⟨w1.heap.size,0,none⟩) 0 0,.bool false]) (by simp [results,Try.results13,go_sem]) rfl ?_
     exact ⟨_,_,_,by rw [HF.out.1],by rw [HF.out.2];exact FO.out,FB.out⟩
   have HF:Hid (aO x ms ds s=cE {x with im:=false} ms s/\aT x ms ds s=bO {x with im:=false} ms s):=by unfold Hid aO aT dI;rw [ha,hbr,hin];simp
   rw [hbr] at X1;go_wp2_with fail
   refine (fd _ E F {x with im:=false} _ _ _ _ _ _ ms s q1 hwm hg).mono ?_
   rintro e w2 ⟨a',l',c',rfl,o2,b2⟩;have FB:=Below.andThen B1 b2;have FO:=o2.widen (lo':=w.heap.size) B1.size (Nat.le_refl _);go_wp2
   refine bodyPost_ret (v:=.tuple #[.slice a' l' c',.bool (cE {x with im:=false} ms s)]) (by simp [results,Try.results13,go_sem]) rfl ?_
   exact ⟨_,_,_,by rw [HF.out.1],by rw [HF.out.2];exact FO,FB⟩
 rw [hbr] at k12;have HF:Hid (aO x ms ds s=false/\aT x ms ds s=[]):=by unfold Hid aO aT dI;simp [hbr]
 have FO:=ab ((aH (aS.lit .i64 3 w1 [] 0 #[] rfl rfl (by unfold maxLen;omega))).widen (lo':=w.heap.size) B1.size (Nat.le_refl _));have FB:=ab (B1.alloc B1.size (.cells #[] 3));go_wp2
 refine bodyPost_ret (v:=.tuple #[.slice (some ⟨w1.heap.size,0,none⟩) 0 0,.bool false]) (by simp [results,Try.results13,go_sem]) rfl ?_
 exact ⟨_,_,_,by rw [HF.out.1],by rw [HF.out.2];exact FO.out,FB.out⟩
theorem gY {x:aF} {ms:List aD} {ds:List (Int×List Int)} {s:Int} (h:dI x ms ds s=true):x.n<=5:=by
 unfold dI aX at h;simp only [Bool.and_eq_true] at h
 exact (aW.1 h.1.1).2.1
theorem gH (x:aF) (ms:List aD) (s:Int) (h:x.n<=5):(bO x ms s).length<=5:=by
 unfold bO;split
 . rw [bP];omega
 . rw [List.length_set,bP];omega
 simp
theorem fT (x:aF) (ms:List aD) (ds:List (Int×List Int)) (s:Int):(aT x ms ds s).length<=5:=by
 unfold aT;split
 . rename_i h
   have hx:x.n<=5:=gY h;exact gH _ _ _ hx
 simp
theorem ef {w:World} {lo hi l:Nat} {a:Option Addr} {c:Nat} {zs ps:List Int} {pl:Nat} (h:aA.Own w lo hi [.slice a l c] zs) (hp:zs=ps) (hl:ps.length=pl):l=pl/\aA.Own w lo hi [.slice a pl c] ps:=by
 subst hp;have h2:=(ap h.rd).2.1;have:l=pl:=by omega
 subst this;exact ⟨rfl,h⟩
end Go.Proofs.Ytfimpohbpccjaaa

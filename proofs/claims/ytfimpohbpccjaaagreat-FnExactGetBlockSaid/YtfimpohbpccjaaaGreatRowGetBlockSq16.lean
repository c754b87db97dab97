/-
 The words of a stripe's blocks (data6), and the walks of the specification's looks for them. Condition: the array weighs at most 2097152.
-/
import Derived.Test.YtfimpohbpccjaaaGreatRowGetBlockSq13
import Derived.Test.YtfimpohbpccjaaaGreatRowGetBlockSq8
import Derived.Test.YtfimpohbpccjaaaGreatRowGetBlockSq3
import Derived.Test.YtfimpohbpccjaaaGreatRowGetBlockSq4

set_option maxRecDepth 100000
set_option maxHeartbeats 8000000
set_option linter.unusedSimpArgs false

namespace Go.Proofs.YtfimpohbpccjaaaGreat
open Go.RowKit

def ek (ms:List ax) (m:Int):ax:=ms.getD m.toNat ([],[],false,[])
def gF (ms:List ax) (m s:Int):List Int:=aY (ek ms m).1 (ek ms m).2.1 (ek ms m).2.2.1 (ek ms m).2.2.2 (bc s)
def bA (x:aw) (ms:List ax) (m s:Int):Bool:=cz x ms m s&&(aK (ek ms m).1 (ek ms m).2.1 (ek ms m).2.2.1 (ek ms m).2.2.2 (bc s)&&decide ((gF ms m s).length=1))
def bC (x:aw) (ms:List ax) (m s:Int):Int:=if bA x ms m s=true then (gF ms m s).getD 0 0 else 0
theorem iq {x:aw} {ms:List ax} {m s:Int} (h:cz x ms m s=false):bA x ms m s=false:=by unfold bA;rw [h];rfl
theorem iL {x:aw} {ms:List ax} {m s:Int} (h:bA x ms m s=false):bC x ms m s=0:=by unfold bC;rw [if_neg (by simp [h])]
theorem fS {x:aw} {ms:List ax} {m s:Int} (h:bA x ms m s=true):bC x ms m s=(gF ms m s).getD 0 0:=by unfold bC;rw [if_pos h]
theorem ja {x:aw} {ms:List ax} {m s:Int} (h:cz x ms m s=true):0<=m/\m<(ms.length:Int):=by
 unfold cz inB at h;simp only [Bool.and_eq_true,decide_eq_true_eq] at h
 omega
theorem bV {x:aw} {ms:List ax} {m s:Int} (h:bA x ms m s=false):Ending.returned (.tuple #[.int .i64 0,.bool false])=.returned (.tuple #[.int .i64 (bC x ms m s),.bool (bA x ms m s)]):=by rw [iL h,h]
theorem gG (w:World) (E F:TypeId) (x:aw) (am ad:Option Addr) (nm cm nd cd:Nat) (ms:List ax) (m s:Int) (h0:(bf E F).Rd w [.slice am nm cm] ms) (hw:aE ms<=2097152):
 Calls Tryz.prog 67 #[.agg #[.int .i64 x.id,.int .i64 x.n,.int .i64 x.s,.slice am nm cm,.int .i64 x.lost,.int .i64 x.jh,.int .i64 x.seq,.int .i64 x.tail,.int .i64 x.gen,.slice ad nd cd,.int .i64 x.jj,.bool x.down,.bool x.ji],.int .i64 m,.int .i64 s] w fun e w'=>e=.returned (.tuple #[.int .i64 (bC x ms m s),.bool (bA x ms m s)])/\Below w.heap.size w w':=by
 obtain ⟨hl,hc,hm⟩:=ag h0;have hnm:nm<=2097152:=by unfold aE at hw;omega
 have hA:=af w (.cells #[.int .i64 x.id,.int .i64 x.n,.int .i64 x.s,.slice am nm cm,.int .i64 x.lost,.int .i64 x.jh,.int .i64 x.seq,.int .i64 x.tail,.int .i64 x.gen,.slice ad nd cd,.int .i64 x.jj,.bool x.down,.bool x.ji] 35);have X:=Box.new w 35 #[.int .i64 x.id,.int .i64 x.n,.int .i64 x.s,.slice am nm cm,.int .i64 x.lost,.int .i64 x.jh,.int .i64 x.seq,.int .i64 x.tail,.int .i64 x.gen,.slice ad nd cd,.int .i64 x.jj,.bool x.down,.bool x.ji];obtain ⟨k0,k1,k2,k3,k4,k5,k6,k7,k8,k9,k10,k11,k12⟩:=X.cells13;have zA:=X.lt;have h1:=h0.below hA;go_enter Tryz.func67,Tryz.ntmps67
 go_wp2_with fail
 generalize w.alloc (.cells #[.int .i64 x.id,.int .i64 x.n,.int .i64 x.s,.slice am nm cm,.int .i64 x.lost,.int .i64 x.jh,.int .i64 x.seq,.int .i64 x.tail,.int .i64 x.gen,.slice ad nd cd,.int .i64 x.jj,.bool x.down,.bool x.ji] 35)=W at hA X zA h1 k0 k1 k2 k3 k4 k5 k6 k7 k8 k9 k10 k11 k12 ⊢;refine (eA _ E F x _ _ _ _ _ _ ms m s h1 hw).mono ?_
 rintro e w1 ⟨rfl,b1⟩;have X1:=X.below b1 zA;have B1:=Below.andThen hA b1;have h2:=h1.below b1;clear k0 k1 k2 k3 k4 k5 k6 k7 k8 k9 k10 k11 k12 X b1 hA zA h1;obtain ⟨k0,k1,k2,k3,k4,k5,k6,k7,k8,k9,k10,k11,k12⟩:=X1.cells13;cases hlv:cz x ms m s
 . have HF:=ab (bV (iq hlv))
   go_wp2
   refine bodyPost_ret (v:=.tuple #[.int .i64 0,.bool false]) (by simp [results,Tryz.results67,go_sem]) rfl ?_
   exact ⟨HF.out,B1⟩
 obtain ⟨m1,m2⟩:=ja hlv;obtain ⟨j,rfl⟩:=Int.eq_ofNat_of_zero_le m1;rcases bS rfl h2 with h0'|⟨b,off,rfl,hbl,hcs⟩
 . omega
 have hdj:ms[j]?=some (ms[j]'(by omega)):=List.getElem?_eq_getElem (by omega);generalize ms[j]'(by omega)=d at hdj;obtain ⟨v0,v1,v2,v3,hv0,hv1,hv2,hv3,hrv⟩:=hcs j d hdj;obtain ⟨a0,c0,a1,c1,a3,c3,ss,cs,f,bs,rfl,rfl,rfl,rfl,rfl,r0,r1,r3⟩:=dl hrv;have hwm:=Nat.le_trans (cE hdj) hw;have hmd:ek ms (j:Int)=(ss,cs,f,bs):=by unfold ek;rw [Int.toNat_natCast,List.getD_eq_getElem?_getD,hdj];rfl
 have hsec:gF ms (j:Int) s=aY ss cs f bs (bc s):=by unfold gF;rw [hmd]
 have hhas:bA x ms (j:Int) s=(aK ss cs f bs (bc s)&&decide ((aY ss cs f bs (bc s)).length=1)):=by unfold bA;rw [hlv,hsec,hmd];rfl
 have hwd:bA x ms (j:Int) s=true->bC x ms (j:Int) s=(aY ss cs f bs (bc s)).getD 0 0:=fun h=>by rw [fS h,hsec]
 have HH:=ab hhas;have HWD:=ab hwd;have i1:(0:Int)<=(j:Int):=by omega
 have i2:(j:Int)<(nm:Int):=by omega
 clear hcs hrv hdj hmd hsec hhas hwd m1 m2;have zb:b<w1.heap.size:=hbl;have zx:=X1.lt;go_wp2_with fail
 refine wp_region_held_drew (S:=fun w'=>w'.cell? ⟨w.heap.size,3,none⟩=some (.slice (some ⟨b,off,none⟩) nm cm)/\w'.cell? ⟨b,off+j*4,none⟩=some (.slice a0 ss.length c0)/\w'.cell? ⟨b,off+j*4+1,none⟩=some (.slice a1 cs.length c1)/\w'.cell? ⟨b,off+j*4+2,none⟩=some (.bool f)/\w'.cell? ⟨b,off+j*4+3,none⟩=some (.slice a3 bs.length c3)) (by kernel_rfl) ?_ (fun jg=>?_)
 . exact ⟨k3,hv0,hv1,hv2,hv3⟩
 refine ak (i:=0) (v:=?_) rfl (by kernel_rfl) (by kernel_rfl) (by kernel_rfl) (fun _ _ _ h=>h) (by kernel_rfl) ?_ jg ?_
 rotate_left 1
 . (intro w hSw;(try dsimp only at hSw);go_split_ands;go_simp;first|done|with_reducible rfl)
 simp only [Act.put,List.setIfInBounds_toArray,List.set_cons_zero,List.set_cons_succ]
 refine ak (i:=1) (v:=?_) rfl (by kernel_rfl) (by kernel_rfl) (by kernel_rfl) (fun _ _ _ h=>h) (by kernel_rfl) ?_ jg ?_
 rotate_left 1
 . (intro w hSw;(try dsimp only at hSw);go_split_ands;go_simp;first|done|with_reducible rfl)
 simp only [Act.put,List.setIfInBounds_toArray,List.set_cons_zero,List.set_cons_succ]
 refine ak (i:=2) (v:=?_) rfl (by kernel_rfl) (by kernel_rfl) (by kernel_rfl) (fun _ _ _ h=>h) (by kernel_rfl) ?_ jg ?_
 rotate_left 1
 . (intro w hSw;(try dsimp only at hSw);go_split_ands;go_simp;first|done|with_reducible rfl)
 simp only [Act.put,List.setIfInBounds_toArray,List.set_cons_zero,List.set_cons_succ]
 refine ak (i:=3) (v:=?_) rfl (by kernel_rfl) (by kernel_rfl) (by kernel_rfl) (fun _ _ _ h=>h) (by kernel_rfl) ?_ jg ?_
 rotate_left 1
 . (intro w hSw;(try dsimp only at hSw);go_split_ands;go_simp;first|done|with_reducible rfl)
 simp only [Act.put,List.setIfInBounds_toArray,List.set_cons_zero,List.set_cons_succ]
 refine ak (i:=4) (v:=?_) rfl (by kernel_rfl) (by kernel_rfl) (by kernel_rfl) (fun _ _ _ h=>h) (by kernel_rfl) ?_ jg ?_
 rotate_left 1
 . (intro w hSw;(try dsimp only at hSw);go_split_ands;go_simp;first|done|with_reducible rfl)
 simp only [Act.put,List.setIfInBounds_toArray,List.set_cons_zero,List.set_cons_succ]
 refine ak (i:=5) (v:=?_) rfl (by kernel_rfl) (by kernel_rfl) (by kernel_rfl) (fun _ _ _ h=>h) (by kernel_rfl) ?_ jg ?_
 rotate_left 1
 . (intro w hSw;(try dsimp only at hSw);go_split_ands;go_simp;first|done|with_reducible rfl)
 simp only [Act.put,List.setIfInBounds_toArray,List.set_cons_zero,List.set_cons_succ]
 refine ah (i:=6) (by kernel_rfl) rfl (by kernel_rfl) (fun K hK=>?_)
 go_simp
 refine (eD _ _).mono ?_
 rintro e w2 ⟨rfl,hw2⟩;subst hw2;go_wp2_with fail
 clear jg;refine hK.out _ _ ?_ (fun jg=>?_)
 . exact ⟨k3,hv0,hv1,hv2,hv3⟩
 clear hK K;refine ah (i:=7) (by kernel_rfl) rfl (by kernel_rfl) (fun K hK=>?_)
 go_simp
 refine (ei _ E _ _ _ _ _ _ _ _ _ ss cs f bs (bc s) r0.drew r1.drew r3.drew hwm).mono ?_
 rintro e w3 ⟨a',l,c',rfl,o3,b3⟩;have b3':Below w1.heap.size w1 w3:=(Below.refl w1.heap.size w1).drew.trans b3;clear b3;go_wp2_with fail
 clear jg;refine hK.out _ _ ?_ (fun jg=>?_)
 . exact ⟨(b3'.cell (p:=⟨w.heap.size,3,none⟩) zx).trans k3,(b3'.cell (p:=⟨b,off+j*4,none⟩) zb).trans hv0,(b3'.cell (p:=⟨b,off+j*4+1,none⟩) zb).trans hv1,(b3'.cell (p:=⟨b,off+j*4+2,none⟩) zb).trans hv2,(b3'.cell (p:=⟨b,off+j*4+3,none⟩) zb).trans hv3⟩
 clear hK K;refine ak (i:=8) (v:=?_) rfl (by kernel_rfl) (by kernel_rfl) (by kernel_rfl) (fun _ _ _ h=>h) (by kernel_rfl) ?_ jg ?_
 rotate_left 1
 . (intro w hSw;(try dsimp only at hSw);go_split_ands;go_simp;first|done|with_reducible rfl)
 simp only [Act.put,List.setIfInBounds_toArray,List.set_cons_zero,List.set_cons_succ]
 refine ak (i:=9) (v:=?_) rfl (by kernel_rfl) (by kernel_rfl) (by kernel_rfl) (fun _ _ _ h=>h) (by kernel_rfl) ?_ jg ?_
 rotate_left 1
 . (intro w hSw;(try dsimp only at hSw);go_split_ands;go_simp;first|done|with_reducible rfl)
 simp only [Act.put,List.setIfInBounds_toArray,List.set_cons_zero,List.set_cons_succ]
 refine ak (i:=10) (v:=?_) rfl (by kernel_rfl) (by kernel_rfl) (by kernel_rfl) (fun _ _ _ h=>h) (by kernel_rfl) ?_ jg ?_
 rotate_left 1
 . (intro w hSw;(try dsimp only at hSw);go_split_ands;go_simp;first|done|with_reducible rfl)
 simp only [Act.put,List.setIfInBounds_toArray,List.set_cons_zero,List.set_cons_succ]
 refine ak (i:=11) (v:=?_) rfl (by kernel_rfl) (by kernel_rfl) (by kernel_rfl) (fun _ _ _ h=>h) (by kernel_rfl) ?_ jg ?_
 rotate_left 1
 . (intro w hSw;(try dsimp only at hSw);go_split_ands;go_simp;first|done|with_reducible rfl)
 simp only [Act.put,List.setIfInBounds_toArray,List.set_cons_zero,List.set_cons_succ]
 refine ak (i:=12) (v:=?_) rfl (by kernel_rfl) (by kernel_rfl) (by kernel_rfl) (fun _ _ _ h=>h) (by kernel_rfl) ?_ jg ?_
 rotate_left 1
 . (intro w hSw;(try dsimp only at hSw);go_split_ands;go_simp;first|done|with_reducible rfl)
 simp only [Act.put,List.setIfInBounds_toArray,List.set_cons_zero,List.set_cons_succ]
 refine wpAnyH_done (by kernel_rfl) ?_ _
 clear jg;have B3:=Below.andThen B1 b3';obtain ⟨rd3,hl3,_,_⟩:=az o3.rd;clear o3 b3' r0 r1 r3 hv0 hv1 hv2 hv3 k0 k1 k2 k3 k4 k5 k6 k7 k8 k9 k10 k11 k12 X1 B1 h2;generalize aY ss cs f bs (bc s)=L at rd3 hl3 HH HWD;generalize aK ss cs f bs (bc s)=ok at HH ⊢;cases ok
 . have HF:=ab (bV (x:=x) (ms:=ms) (m:=(j:Int)) (s:=s) (by rw [HH.out];rfl))
   go_wp2
   refine bodyPost_ret (v:=.tuple #[.int .i64 0,.bool false]) (by simp [results,Tryz.results67,go_sem]) rfl ?_
   exact ⟨HF.out,B3⟩
 by_cases h1:l=1
 . subst h1
   obtain ⟨z,rfl⟩:∃z,L=[z]:=by
    match L,hl3 with
    | [z],_=>exact ⟨z,rfl⟩
   have hT:bA x ms (j:Int) s=true:=by rw [HH.out];rfl
   have HF:Hid (Ending.returned (.tuple #[.int .i64 z,.bool true])=.returned (.tuple #[.int .i64 (bC x ms (j:Int) s),.bool (bA x ms (j:Int) s)])):=by unfold Hid;rw [HWD.out hT,hT];rfl
   rcases rd3.cases with h0''|⟨b',off',rfl,hb',hc'⟩
   . simp at h0''
   have q0:w3.cell? ⟨b',off',none⟩=some (.int .i64 z):=hc' 0 (by simp);clear hc' hT;go_wp2
   refine bodyPost_ret (v:=.tuple #[.int .i64 z,.bool true]) (by simp [results,Tryz.results67,go_sem]) rfl ?_
   exact ⟨HF.out,B3⟩
 have HF:=ab (bV (x:=x) (ms:=ms) (m:=(j:Int)) (s:=s) (by rw [HH.out,hl3];simp [h1]));have e1:((l:Int)==1)=false:=by simp;omega
 have e2:((l:Int) !=1)=true:=by simp;omega
 go_wp2
 refine bodyPost_ret (v:=.tuple #[.int .i64 0,.bool false]) (by simp [results,Tryz.results67,go_sem]) rfl ?_
 exact ⟨HF.out,B3⟩
def bt (x:aw) (ms:List ax) (s:Int) (j:Nat):List Int:=(List.range j).map fun (i:Nat)=>bC x ms (i:Int) s
def aZ (x:aw) (ms:List ax) (s:Int) (j:Nat):List Nat:=(List.range j).filter fun (i:Nat)=>!bA x ms (i:Int) s
def cA:List Nat->Int
 | []=>-1
 | p :: _=>(p:Int)
def bw (x:aw) (ms:List ax) (s:Int):Bool:=decide ((aZ x ms s x.n.toNat).length<=1)
def bM (x:aw) (ms:List ax) (s:Int):List Int:=
 match aZ x ms s x.n.toNat with
 | []=>bt x ms s x.n.toNat
 | [p]=>(bt x ms s x.n.toNat).set p (bG (bt x ms s x.n.toNat) (p:Int) x.n.toNat)
 | _=>[]
theorem eH (x:aw) (ms:List ax) (s:Int) (j:Nat):bt x ms s (j+1)=bt x ms s j++[bC x ms (j:Int) s]:=by unfold bt;rw [List.range_succ,List.map_append];rfl
theorem ch (x:aw) (ms:List ax) (s:Int) (j:Nat):(bt x ms s j).length=j:=by unfold bt;simp
theorem dT {x:aw} {ms:List ax} {s:Int} {j:Nat} (h:bA x ms (j:Int) s=true):aZ x ms s (j+1)=aZ x ms s j:=by unfold aZ;rw [List.range_succ,List.filter_append];simp [h]
theorem eI {x:aw} {ms:List ax} {s:Int} {j:Nat} (h:bA x ms (j:Int) s=false):aZ x ms s (j+1)=aZ x ms s j++[j]:=by unfold aZ;rw [List.range_succ,List.filter_append];simp [h]
theorem gI (x:aw) (ms:List ax) (s:Int) (j k:Nat) (h:j<=k):(aZ x ms s j).length<=(aZ x ms s k).length:=by
 induction k with
 | zero=>
  obtain rfl:j=0:=by omega
  exact Nat.le_refl _
 | succ k ih=>
  rcases Nat.lt_or_ge k j with h1|h1
  . obtain rfl:j=k+1:=by omega
    exact Nat.le_refl _
  refine Nat.le_trans (ih h1) ?_
  cases hh:bA x ms (k:Int) s with
  | true=>rw [dT hh];exact Nat.le_refl _
  | false=>rw [eI hh];simp
theorem fU {x:aw} {ms:List ax} {s:Int} {j p:Nat} (h:p∈aZ x ms s j):p<j:=by
 unfold aZ at h;exact List.mem_range.1 (List.mem_filter.1 h).1
theorem fk {x:aw} {ms:List ax} {s:Int} {j:Nat} (h:2<=(aZ x ms s j).length) (hj:j<=x.n.toNat):bw x ms s=false/\bM x ms s=[]:=by
 have h2:=Nat.le_trans h (gI x ms s j x.n.toNat hj);refine ⟨by unfold bw;simp;omega,?_⟩
 unfold bM;match hm:aZ x ms s x.n.toNat,h2 with
 | _ :: _ :: _,_=>rfl
theorem dK {x:aw} {ms:List ax} {s:Int} (h:aZ x ms s x.n.toNat=[]):bw x ms s=true/\bM x ms s=bt x ms s x.n.toNat:=by
 refine ⟨by unfold bw;rw [h];rfl,?_⟩
 unfold bM;rw [h]
theorem dU {x:aw} {ms:List ax} {s:Int} {p:Nat} (h:aZ x ms s x.n.toNat=[p]):bw x ms s=true/\bM x ms s=(bt x ms s x.n.toNat).set p (bG (bt x ms s x.n.toNat) (p:Int) x.n.toNat):=by
 refine ⟨by unfold bw;rw [h];rfl,?_⟩
 unfold bM;rw [h]
theorem dL {k:IntKind} {E:TypeId} {w:World} {lo:Nat} {v:Value} {zs:List Int} (h:aT k E w lo v zs) (hn:0<zs.length):∃g cap,v=.slice (some ⟨g,0,none⟩) zs.length cap/\lo<=g/\g<w.heap.size/\zs.length<=cap/\cap<=maxLen:=by
 rcases h.2 with ⟨_,h0⟩|⟨g,cap,cur,hv,hb,hg,hnc,hcm,_⟩
 . omega
 exact ⟨g,cap,hv,hb,(Array.getElem?_eq_some_iff.1 hg).1,hnc,hcm⟩
theorem cQ {l:List Nat} (h:l.length<=1):l=[]∨∃p,l=[p]:=by
 match l,h with
 | [],_=>exact .inl rfl
 | [p],_=>exact .inr ⟨p,rfl⟩
theorem fV (w:World) (E F:TypeId) (x:aw) (am ad:Option Addr) (nm cm nd cd:Nat) (ms:List ax) (s:Int) (h0:(bf E F).Rd w [.slice am nm cm] ms) (hw:aE ms<=2097152) (hg:bo x.n x.s=true):
 Calls Tryz.prog 48 #[.agg #[.int .i64 x.id,.int .i64 x.n,.int .i64 x.s,.slice am nm cm,.int .i64 x.lost,.int .i64 x.jh,.int .i64 x.seq,.int .i64 x.tail,.int .i64 x.gen,.slice ad nd cd,.int .i64 x.jj,.bool x.down,.bool x.ji],.int .i64 s] w fun e w'=>∃a' l' c',e=.returned (.tuple #[.slice a' l' c',.bool (bw x ms s)])/\aI.Own w' w.heap.size w'.heap.size [.slice a' l' c'] (bM x ms s)/\Below w.heap.size w w':=by
 obtain ⟨g1,g2,g3,g4⟩:=ap.1 hg;obtain ⟨n,hn⟩:∃n:Nat,x.n=(n:Int):=⟨x.n.toNat,by omega⟩;have hnt:x.n.toNat=n:=by omega
 have HN:=ab hn;have HNT:=ab hnt;have hn5:n<=5:=by omega
 clear hn hnt;obtain ⟨i0,hi,hz0,hz1,hz2⟩:=info_parts Tryz.info3;have hA:=af w (.cells #[.int .i64 x.id,.int .i64 x.n,.int .i64 x.s,.slice am nm cm,.int .i64 x.lost,.int .i64 x.jh,.int .i64 x.seq,.int .i64 x.tail,.int .i64 x.gen,.slice ad nd cd,.int .i64 x.jj,.bool x.down,.bool x.ji] 35);have X:=Box.new w 35 #[.int .i64 x.id,.int .i64 x.n,.int .i64 x.s,.slice am nm cm,.int .i64 x.lost,.int .i64 x.jh,.int .i64 x.seq,.int .i64 x.tail,.int .i64 x.gen,.slice ad nd cd,.int .i64 x.jj,.bool x.down,.bool x.ji];have zA:=X.lt;have h1:=h0.below hA;go_enter Tryz.func48,Tryz.ntmps48
 go_wp2
 have zW:(w.alloc (.cells #[.int .i64 x.id,.int .i64 x.n,.int .i64 x.s,.slice am nm cm,.int .i64 x.lost,.int .i64 x.jh,.int .i64 x.seq,.int .i64 x.tail,.int .i64 x.gen,.slice ad nd cd,.int .i64 x.jj,.bool x.down,.bool x.ji] 35)).heap.size=w.heap.size+1:=by simp
 have ZW:=ab zW;clear zW;generalize w.alloc (.cells #[.int .i64 x.id,.int .i64 x.n,.int .i64 x.s,.slice am nm cm,.int .i64 x.lost,.int .i64 x.jh,.int .i64 x.seq,.int .i64 x.tail,.int .i64 x.gen,.slice ad nd cd,.int .i64 x.jj,.bool x.down,.bool x.ji] 35)=W at hA X zA h1 ZW ⊢;have hO:aT .i64 3 (W.alloc (.cells #[] 3)) W.heap.size (.slice (some ⟨W.heap.size,0,none⟩) 0 0) []:=aT.lit .i64 3 W [] 0 #[] rfl rfl (by unfold maxLen;omega);go_loopw [6,7,8] (fun v lo i wr=>∃j:Nat,j<=n/\i=.int .i64 j/\lo=.int .i64 (cA (aZ x ms s j))/\(aZ x ms s j).length<=1/\aT .i64 3 wr W.heap.size v (bt x ms s j)/\Below W.heap.size W wr) (fun _ _ i _=>n-(intOf i).toNat)
 case atStart=>exact ⟨0,Nat.zero_le _,rfl,rfl,Nat.zero_le _,by first|exact hO|(rw [ZW.out] at hO;rw [ZW.out];exact hO),(Below.refl _ _).alloc (Nat.le_refl _) _⟩
 obtain ⟨j,hj,rfl,rfl,hm1,ho,hb⟩:=hrel;have Xr:=X.below hb zA;obtain ⟨k0,k1,k2,k3,k4,k5,k6,k7,k8,k9,k10,k11,k12⟩:=Xr.cells13;have zs:=hb.size;by_cases hjn:j<n
 . have hlt:(j:Int)<x.n:=by have:=HN.out;omega
   go_wp2_with fail
   refine (gG _ E F x _ _ _ _ _ _ ms (j:Int) s (h1.below hb) hw).mono ?_
   rintro e w1 ⟨rfl,b1⟩;have X1:=Xr.below b1 Xr.lt;have B1:=hb.trans (b1.mono hb.size);have o1:=ho.below b1 (Nat.le_refl _);have z1:=b1.size;clear k0 k1 k2 k3 k4 k5 k6 k7 k8 k9 k10 k11 k12 Xr b1 ho hb;have hs1:=eH x ms s j;have hlen:=ch x ms s j;cases hh:bA x ms (j:Int) s
   . have hmn:=eI hh
     rcases cQ hm1 with h00|⟨p,hp⟩
     . have hl0:cA (aZ x ms s j)=-1:=by rw [h00];rfl
       have hl1:cA (aZ x ms s (j+1))=(j:Int):=by rw [hmn,h00];rfl
       have hc1:(aZ x ms s (j+1)).length<=1:=by rw [hmn,h00];exact Nat.le_refl _
       have HL1:=ab hl1;have HC1:=ab hc1;rw [hl0];clear hmn h00 hl0 hl1 hc1;generalize bC x ms (j:Int) s=y at hs1 ⊢;have HS:=ab hs1;clear hs1;go_wp2_with (at_builtin;refine cc .i64 (by rfl) _ _ 42 (by rfl) W.heap.size 3 i0 _ 8 Tryz.underlying42 hi hz0 hz1 hz2 rfl _ (bt x ms s j) (by rfl) (o1.alloc _) ⟨w1.heap.size,0,none⟩ 1 1 [y] (by rfl) rfl (aQ.new _ _ _ _ _ rfl) ?h1 ?h2 ?h3 ?_)
       case h1=>unfold maxLen;omega
       case h2=>omega
       case h3=>simp;omega
       intro v' w2 o2 b2;have B2:=ab ((B1.alloc B1.size (.cells #[.int .i64 y] 3)).trans b2);rw [←HS.out] at o2;have O2:=ab o2;clear b2 o2 o1 B1;go_wp2
       go_roundw
       case rel=>exact ⟨j+1,by omega,by go_num,by rw [HL1.out],HC1.out,O2.out,B2.out⟩
       case measure=>simp [intOf];omega
     have hl0:cA (aZ x ms s j)=(p:Int):=by rw [hp];rfl
     obtain ⟨t1,t2⟩:=fk (x:=x) (ms:=ms) (s:=s) (j:=j+1) (by rw [hmn,hp];exact Nat.le_refl _) (by have:=HNT.out;omega);have HT1:=ab t1;have HT2:=ab t2;rw [hl0];clear hmn hp hl0 t1 t2 hs1;have hp0:(0:Int)<=(p:Int):=by omega
     have FO:=ab ((aC (aT.lit .i64 3 w1 [] 0 #[] rfl rfl (by unfold maxLen;omega))).widen (lo':=w.heap.size) (by omega) (Nat.le_refl _));have FB:=ab (hA.trans ((B1.alloc B1.size (.cells #[] 3)).mono hA.size));go_wp2
     refine bodyPost_ret (v:=.tuple #[.slice (some ⟨w1.heap.size,0,none⟩) 0 0,.bool false]) (by simp [results,Tryz.results48,go_sem]) rfl ?_
     exact ⟨_,_,_,by rw [HT1.out],by rw [HT2.out];exact FO.out,FB.out⟩
   have hmy:=dT hh;have HL1:Hid (cA (aZ x ms s (j+1))=cA (aZ x ms s j)):=by unfold Hid;rw [hmy]
   have HC1:Hid ((aZ x ms s (j+1)).length<=1):=by unfold Hid;rw [hmy];exact hm1
   clear hmy;generalize bC x ms (j:Int) s=y at hs1 ⊢;have HS:=ab hs1;clear hs1;go_wp2_with (at_builtin;refine cc .i64 (by rfl) _ _ 42 (by rfl) W.heap.size 3 i0 _ 8 Tryz.underlying42 hi hz0 hz1 hz2 rfl _ (bt x ms s j) (by rfl) (o1.alloc _) ⟨w1.heap.size,0,none⟩ 1 1 [y] (by rfl) rfl (aQ.new _ _ _ _ _ rfl) ?h1 ?h2 ?h3 ?_)
   case h1=>unfold maxLen;omega
   case h2=>omega
   case h3=>simp;omega
   intro v' w2 o2 b2;have B2:=ab ((B1.alloc B1.size (.cells #[.int .i64 y] 3)).trans b2);rw [←HS.out] at o2;have O2:=ab o2;clear b2 o2 o1 B1;go_wp2
   go_roundw
   case rel=>exact ⟨j+1,by omega,by go_num,by rw [HL1.out],HC1.out,O2.out,B2.out⟩
   case measure=>simp [intOf];omega
 have ej:j=n:=by omega
 subst ej;have hge:x.n<=(j:Int):=by have:=HN.out;omega
 have hlen:=ch x ms s j;rcases cQ hm1 with h00|⟨p,hp⟩
 . have hl0:cA (aZ x ms s j)=-1:=by rw [h00];rfl
   obtain ⟨t1,t2⟩:=dK (x:=x) (ms:=ms) (s:=s) (by rw [HNT.out];exact h00);rw [HNT.out] at t2;have HT1:=ab t1;have HT2:=ab t2;rw [hl0];clear h00 hl0 t1 t2;obtain ⟨go,co,hv,hgl,hgh,hlc,hcm⟩:=dL ho (by have:=HN.out;omega);rw [hlen] at hv hlc;subst hv;have FO:=ab ((aC ho).widen (lo':=w.heap.size) (by omega) (Nat.le_refl _));have FB:=ab (hA.trans (hb.mono hA.size));clear ho hb Xr hlen hm1 hcm hlc hj hjn hgh;go_wp2
   refine bodyPost_ret (v:=.tuple #[.slice (some ⟨go,0,none⟩) j co,.bool true]) (by simp [results,Tryz.results48,go_sem]) rfl ?_
   exact ⟨_,_,_,by rw [HT1.out],by rw [HT2.out];exact FO.out,FB.out⟩
 have hl0:cA (aZ x ms s j)=(p:Int):=by rw [hp];rfl
 have hpj:p<j:=fU (x:=x) (ms:=ms) (s:=s) (by rw [hp];simp);obtain ⟨t1,t2⟩:=dU (x:=x) (ms:=ms) (s:=s) (p:=p) (by rw [HNT.out];exact hp);rw [HNT.out] at t2;have HT1:=ab t1;have HT2:=ab t2;rw [hl0];clear hp hl0 t1 t2;have hp0:(0:Int)<=(p:Int):=by omega
 have hp1:(p:Int)<(j:Int):=by omega
 obtain ⟨go,co,hv,hgl,hgh,hlc,hcm⟩:=dL ho (by omega);rw [hlen] at hv hlc;subst hv;go_wp2_with fail
 refine (dC _ _ _ _ (bt x ms s j) (p:Int) hlen ho.reads (by omega)).mono ?_
 rintro e w1 ⟨rfl,hs1⟩;have O1:=ho.own.same hs1;have B1:=hb.trans (hs1.below _);have z1:=hs1.size;obtain ⟨c1,f1,O2,t2⟩:=O1.store p hpj (bG (bt x ms s j) (p:Int) j);have FO:=ab ((aC O2.1).widen (lo':=w.heap.size) (by omega) (Nat.le_refl _));have FB:=ab (hA.trans ((B1.trans (t2.below (B:=W.heap.size) (Nat.le_refl _) B1.size)).mono hA.size));generalize (bt x ms s j).getD p 0=y at c1;generalize bG (bt x ms s j) (p:Int) j=q at FO FB HT2 ⊢;clear O1 O2 t2 ho hb hs1 Xr;go_wp2
 refine bodyPost_ret (v:=.tuple #[.slice (some ⟨go,0,none⟩) j co,.bool true]) (by simp [results,Tryz.results48,go_sem]) rfl ?_
 exact ⟨_,_,_,by rw [HT1.out],by rw [HT2.out];exact FO.out,FB.out⟩
def el (x:aw) (ms:List ax) (ds:List (Int×List Int)) (s:Int):Bool:=aS x ms ds&&(!x.ji&&inB s 0 (x.s-1))
def bi (x:aw) (ms:List ax) (ds:List (Int×List Int)) (s:Int):Bool:=el x ms ds s&&bw {x with ji:=false} ms s
def bW (x:aw) (ms:List ax) (ds:List (Int×List Int)) (s:Int):List Int:=if el x ms ds s=true then bM {x with ji:=false} ms s else []
def bZ (x:aw) (s:Int) (l:List Int) (j:Nat):List Int:=(List.range j).map fun (i:Nat)=>l.getD (cx x.n x.s s (i:Int)).toNat 0
theorem eL (x:aw) (s:Int) (l:List Int) (j:Nat):bZ x s l (j+1)=bZ x s l j++[l.getD (cx x.n x.s s (j:Int)).toNat 0]:=by unfold bZ;rw [List.range_succ,List.map_append];rfl
theorem de (x:aw) (s:Int) (l:List Int) (j:Nat):(bZ x s l j).length=j:=by unfold bZ;simp
def cX (x:aw) (ms:List ax) (s:Int):List Int:=if bw x ms s=true then bZ x s (bM x ms s) (x.n.toNat-1) else []
theorem eM {x:aw} {ms:List ax} {s:Int} (h:bw x ms s=true):(bM x ms s).length=x.n.toNat:=by
 unfold bw at h;rcases cQ (of_decide_eq_true h) with h0|⟨p,hp⟩
 . rw [(dK h0).2,ch]
 rw [(dU hp).2,List.length_set,ch]
theorem aQ.ahead6 {k:IntKind} {w:World} {a:Option Addr} {zs:List Int} (h:aQ k w a zs) (hn:0<zs.length):∀q,a=some q->q.block<w.heap.size:=by
 intro q hq;rcases h.cases with h1|⟨b,off,rfl,hlt,_⟩
 . omega
 simp at hq
 subst hq;exact hlt
theorem gX {n s t i:Int} (hg:bo n s=true) (ht:inB t 0 (s-1)=true) (h0:0<=i) (h1:i<n-1):0<=cx n s t i/\cx n s t i<n:=by
 obtain ⟨g1,g2,g3,g4⟩:=ap.1 hg;have hs:cH n s t i=true:=by
  unfold cH aH;rw [hg,ht];unfold inB;simp
  omega
 unfold cx;rw [if_pos hs];exact ⟨Int.emod_nonneg _ (by omega),Int.emod_lt_of_pos _ (by omega)⟩
theorem gJ (w:World) (E F:TypeId) (x:aw) (am ad:Option Addr) (nm cm nd cd:Nat) (ms:List ax) (s:Int) (h0:(bf E F).Rd w [.slice am nm cm] ms) (hw:aE ms<=2097152) (hg:bo x.n x.s=true) (ht:inB s 0 (x.s-1)=true):
 Calls Tryz.prog 31 #[.agg #[.int .i64 x.id,.int .i64 x.n,.int .i64 x.s,.slice am nm cm,.int .i64 x.lost,.int .i64 x.jh,.int .i64 x.seq,.int .i64 x.tail,.int .i64 x.gen,.slice ad nd cd,.int .i64 x.jj,.bool x.down,.bool x.ji],.int .i64 s] w fun e w'=>∃a' l' c',e=.returned (.tuple #[.slice a' l' c',.bool (bw x ms s)])/\aI.Own w' w.heap.size w'.heap.size [.slice a' l' c'] (cX x ms s)/\Below w.heap.size w w':=by
 obtain ⟨g1,g2,g3,g4⟩:=ap.1 hg;obtain ⟨n,hn⟩:∃n:Nat,x.n=(n:Int):=⟨x.n.toNat,by omega⟩;have hnt:x.n.toNat=n:=by omega
 have HN:=ab hn;have HNT:=ab hnt;have hn5:3<=n/\n<=5:=by omega
 clear hn hnt;have hwn:IntKind.i64.wrap (x.n-1)=x.n-1:=IntWalk.i64_in _ (by omega);obtain ⟨i0,hi,hz0,hz1,hz2⟩:=info_parts Tryz.info3;have hA:=af w (.cells #[.int .i64 x.id,.int .i64 x.n,.int .i64 x.s,.slice am nm cm,.int .i64 x.lost,.int .i64 x.jh,.int .i64 x.seq,.int .i64 x.tail,.int .i64 x.gen,.slice ad nd cd,.int .i64 x.jj,.bool x.down,.bool x.ji] 35);have X:=Box.new w 35 #[.int .i64 x.id,.int .i64 x.n,.int .i64 x.s,.slice am nm cm,.int .i64 x.lost,.int .i64 x.jh,.int .i64 x.seq,.int .i64 x.tail,.int .i64 x.gen,.slice ad nd cd,.int .i64 x.jj,.bool x.down,.bool x.ji];obtain ⟨k0,k1,k2,k3,k4,k5,k6,k7,k8,k9,k10,k11,k12⟩:=X.cells13;have zA:=X.lt;have h1:=h0.below hA;go_enter Tryz.func31,Tryz.ntmps31
 go_wp2_with fail
 generalize w.alloc (.cells #[.int .i64 x.id,.int .i64 x.n,.int .i64 x.s,.slice am nm cm,.int .i64 x.lost,.int .i64 x.jh,.int .i64 x.seq,.int .i64 x.tail,.int .i64 x.gen,.slice ad nd cd,.int .i64 x.jj,.bool x.down,.bool x.ji] 35)=W at hA X zA h1 k0 k1 k2 k3 k4 k5 k6 k7 k8 k9 k10 k11 k12 ⊢;refine (fV _ E F x _ _ _ _ _ _ ms s h1 hw hg).mono ?_
 rintro e w1 ⟨aL,lL,cL,rfl,oL,b1⟩;have X1:=X.below b1 zA;have B1:=Below.andThen hA b1;clear k0 k1 k2 k3 k4 k5 k6 k7 k8 k9 k10 k11 k12 X b1 hA zA h1;have hO:aT .i64 3 (w1.alloc (.cells #[] 3)) w1.heap.size (.slice (some ⟨w1.heap.size,0,none⟩) 0 0) []:=aT.lit .i64 3 w1 [] 0 #[] rfl rfl (by unfold maxLen;omega);have b2:=af w1 (.cells #[] 3);cases hok:bw x ms s
 . have hD:cX x ms s=[]:=by unfold cX;rw [hok];rfl
   have X2:=X1.below b2 X1.lt;obtain ⟨k0,k1,k2,k3,k4,k5,k6,k7,k8,k9,k10,k11,k12⟩:=X2.cells13;have FO:=ab ((aC hO).widen (lo':=w.heap.size) B1.size (Nat.le_refl _));have FB:=ab (B1.trans (b2.mono B1.size));have HD:=ab hD;clear hD;go_wp2
   go_loopw [8,9] (fun v i wr=>v=.slice (some ⟨w1.heap.size,0,none⟩) 0 0/\i=.int .i64 0/\wr=w1.alloc (.cells #[] 3)) (fun _ i _=>0)
   case atStart=>exact ⟨rfl,rfl,rfl⟩
   obtain ⟨rfl,rfl,rfl⟩:=hrel;have h03:(0:Int)<x.n-1:=by omega
   go_wp2
   refine bodyPost_ret (v:=.tuple #[.slice (some ⟨w1.heap.size,0,none⟩) 0 0,.bool false]) (by simp [results,Tryz.results31,go_sem]) rfl ?_
   exact ⟨_,_,_,by rw [hok],by rw [HD.out];exact FO.out,FB.out⟩
 have hD:cX x ms s=bZ x s (bM x ms s) (n-1):=by unfold cX;rw [hok,HNT.out];rfl
 have hwl:=eM hok;rw [HNT.out] at hwl;obtain ⟨rdL,hlL,hncL,_⟩:=az oL.rd;generalize bM x ms s=L at hD hwl rdL hlL;have HD:=ab hD;have hlLn:lL=n:=by omega
 subst hlLn;clear hD oL;have rd2:=rdL.below b2;have X2:=X1.below b2 X1.lt;have B2:=B1.trans (b2.mono B1.size);have z2:w1.heap.size<(w1.alloc (.cells #[] 3)).heap.size:=by simp
 go_wp2
 generalize w1.alloc (.cells #[] 3)=W2 at hO b2 rd2 X2 B2 z2 ⊢;have sL:∀q,aL=some q->q.block<w1.heap.size:=rdL.ahead6 (by omega);go_loopw [8,9] (fun v i wr=>∃j:Nat,j<=lL-1/\i=.int .i64 j/\aT .i64 3 wr w1.heap.size v (bZ x s L j)/\Below w1.heap.size W2 wr) (fun _ i _=>lL-1-(intOf i).toNat)
 case atStart=>exact ⟨0,Nat.zero_le _,rfl,by first|exact hO|simpa [bZ] using hO,Below.refl _ _⟩
 obtain ⟨j,hj,rfl,ho,hb⟩:=hrel;have Xr:=X2.below hb X1.lt;obtain ⟨k0,k1,k2,k3,k4,k5,k6,k7,k8,k9,k10,k11,k12⟩:=Xr.cells13;have zr:=hb.size;have rdr:=rd2.old sL hb;by_cases hjn:j<lL-1
 . have hlt:(j:Int)<x.n-1:=by have:=HN.out;omega
   obtain ⟨d0,d1⟩:=gX (i:=(j:Int)) hg ht (by omega) hlt;go_wp2_with fail
   refine (eK _ _ _ _ _).mono ?_
   rintro e w3 ⟨rfl,b3⟩;have X3:=Xr.below b3 Xr.lt;have o3:=ho.below b3 (Nat.le_refl _);have B3:=hb.trans (b3.mono (by omega));have rd3:=rdr.below b3;have z3:=b3.size;clear k0 k1 k2 k3 k4 k5 k6 k7 k8 k9 k10 k11 k12 Xr b3 ho hb rdr;have hs1:=eL x s L j;have hlen:=de x s L j;have d2:=HN.out;generalize cx x.n x.s s (j:Int)=dk at d0 d1 hs1 ⊢;obtain ⟨q,rfl⟩:=Int.eq_ofNat_of_zero_le d0;have hq:q<lL:=by omega
   rw [Int.toNat_natCast] at hs1;rcases rd3.cases with hx|⟨b,off,rfl,hbl,hcs⟩
   . omega
   have qc:=hcs q (by omega);generalize L.getD q 0=y at qc hs1;have HS:=ab hs1;have q1:(0:Int)<=(q:Int):=by omega
   have q2:(q:Int)<(lL:Int):=by omega
   clear hcs hs1 d0 d1 d2 rd3;go_wp2_with (at_builtin;refine cc .i64 (by rfl) _ _ 42 (by rfl) w1.heap.size 3 i0 _ 8 Tryz.underlying42 hi hz0 hz1 hz2 rfl _ (bZ x s L j) (by rfl) (o3.alloc _) ⟨w3.heap.size,0,none⟩ 1 1 [y] (by rfl) rfl (aQ.new _ _ _ _ _ rfl) ?h1 ?h2 ?h3 ?_)
   case h1=>unfold maxLen;omega
   case h2=>omega
   case h3=>simp;omega
   intro v' w4 o4 b4;have B4:=ab ((B3.alloc (by omega) (.cells #[.int .i64 y] 3)).trans b4);rw [←HS.out] at o4;have O4:=ab o4;clear b4 o4 o3 B3;go_wp2
   go_roundw
   case rel=>exact ⟨j+1,by omega,by go_num,O4.out,B4.out⟩
   case measure=>simp [intOf];omega
 have ej:j=lL-1:=by omega
 have hge:x.n-1<=(j:Int):=by have:=HN.out;omega
 have hlen:=de x s L j;obtain ⟨go,co,hv,hgl,hgh,hlc,hcm⟩:=dL ho (by omega);rw [hlen] at hv hlc;subst hv;have FO:=ab ((aC ho).widen (lo':=w.heap.size) B1.size (Nat.le_refl _));have FB:=ab (B2.trans (hb.mono B1.size));have HD2:Hid (cX x ms s=bZ x s L j):=by unfold Hid;rw [HD.out,ej]
 clear ho hb Xr hlen hcm hlc hjn hgh rdr ej hj;go_wp2
 refine bodyPost_ret (v:=.tuple #[.slice (some ⟨go,0,none⟩) j co,.bool true]) (by simp [results,Tryz.results31,go_sem]) rfl ?_
 exact ⟨_,_,_,rfl,by rw [HD2.out];exact FO.out,FB.out⟩
def dy (x:aw) (ms:List ax) (ds:List (Int×List Int)) (s:Int):List Int:=if el x ms ds s=true then cX {x with ji:=false} ms s else []
end Go.Proofs.YtfimpohbpccjaaaGreat

/-
 Where an entry is put among others that ascend: plain lemmas. No condition; nothing of the program is named here.
-/
import Derived.Test.YtgjomldcnjjpaaaGreatRowArrsSq26
import Derived.Test.YtgjomldcnjjpaaaGreatRowArrsSq3
import Derived.Test.YtgjomldcnjjpaaaGreatRowArrsSq22
import Derived.Test.YtgjomldcnjjpaaaGreatRowArrsSq1
import Derived.Test.YtgjomldcnjjpaaaGreatRowArrsSq17
import Derived.Test.YtgjomldcnjjpaaaGreatRowArrsSq27
import Derived.Test.YtgjomldcnjjpaaaGreatRowArrsSq19

set_option maxRecDepth 100000
set_option maxHeartbeats 8000000
set_option linter.unusedSimpArgs false

namespace Go.Proofs.YtgjomldcnjjpaaaGreat
open Go.RowKit

def cT (x:aq) (ms:List ai) (ds:List (Int×List Int)) (s:Int):Bool:=bf x ms ds&&(inB s 0 (x.s-1)&&decide ((bV x ms s x.n.toNat).length=0))
def je (x:aq) (ms:List ai) (ds:List (Int×List Int)) (s:Int):Int:=if cT x ms ds s=true then fJ (cJ x ms s x.n.toNat) else 0
def gR (x:aq) (ms:List ai) (ds:List (Int×List Int)) (j:Nat):List Nat:=(List.range j).filter fun (t:Nat)=>!cT x ms ds (t:Int)
def jO (x:aq) (ms:List ai) (ds:List (Int×List Int)):Int:=if bf x ms ds=true then ((gR x ms ds x.s.toNat).length:Int) else 0
def km (x:aq) (ms:List ai) (ds:List (Int×List Int)) (j:Nat):Bool:=(List.range j).all fun (t:Nat)=>!(cT x ms ds (t:Int)&&decide (je x ms ds (t:Int)≠0))
def lI (x:aq) (ms:List ai) (ds:List (Int×List Int)):Bool:=km x ms ds x.s.toNat
theorem nM {x:aq} {ms:List ai} {ds:List (Int×List Int)} {s:Int} (h:cT x ms ds s=false):je x ms ds s=0:=by unfold je;rw [if_neg (by simp [h])]
theorem nN {x:aq} {ms:List ai} {ds:List (Int×List Int)} {s:Int} {j:Nat} (hj:j<x.n.toNat) (h:dv x ms (j:Int) s=false):cT x ms ds s=false:=by
 have h1:=nF x ms s (j+1) x.n.toNat (by omega);rw [kg h,List.length_append] at h1;unfold cT;have:decide ((bV x ms s x.n.toNat).length=0)=false:=by simp only [decide_eq_false_iff_not];simp at h1;omega
 rw [this];simp
theorem uJ {x:aq} {ms:List ai} {s:Int} {j:Nat} (h0:bV x ms s j=[]) (h:dv x ms (j:Int) s=true):bV x ms s (j+1)=[]:=by rw [ju h,h0]
theorem uK {x:aq} {ms:List ai} {ds:List (Int×List Int)} {s:Int} (ha:bf x ms ds=true) (hs:inB s 0 (x.s-1)=true) (h:bV x ms s x.n.toNat=[]):cT x ms ds s=true/\je x ms ds s=fJ (cJ x ms s x.n.toNat):=by
 have h1:cT x ms ds s=true:=by unfold cT;rw [ha,hs,h];rfl
 exact ⟨h1,by unfold je;rw [if_pos h1]⟩
theorem uN {x:aq} {ms:List ai} {ds:List (Int×List Int)} {j:Nat} (h:cT x ms ds (j:Int)=true):(gR x ms ds (j+1)).length=(gR x ms ds j).length:=by unfold gR;rw [List.range_succ,List.filter_append];simp [h]
theorem vN {x:aq} {ms:List ai} {ds:List (Int×List Int)} {j:Nat} (h:cT x ms ds (j:Int)=false):(gR x ms ds (j+1)).length=(gR x ms ds j).length+1:=by unfold gR;rw [List.range_succ,List.filter_append];simp [h]
theorem vO (x:aq) (ms:List ai) (ds:List (Int×List Int)) (j:Nat):(gR x ms ds j).length<=j:=by unfold gR;exact Nat.le_trans (List.length_filter_le _ _) (by simp)
theorem nP (x:aq) (ms:List ai) (ds:List (Int×List Int)) (j:Nat):km x ms ds (j+1)=(km x ms ds j&&!(cT x ms ds (j:Int)&&decide (je x ms ds (j:Int)≠0))):=by unfold km;rw [List.range_succ,List.all_append];simp
theorem uO {x:aq} {ms:List ai} {ds:List (Int×List Int)} {j k:Nat} (h:km x ms ds j=false) (hk:j<=k):km x ms ds k=false:=by
 induction k with
 | zero=>
  obtain rfl:j=0:=by omega
  exact h
 | succ k ih=>
  rcases Nat.lt_or_ge k j with h1|h1
  . obtain rfl:j=k+1:=by omega
    exact h
  rw [nP,ih h1];rfl
theorem xC {x:aq} {ms:List ai} {ds:List (Int×List Int)} (h:bf x ms ds=false):jO x ms ds=0:=by unfold jO;rw [if_neg (by simp [h])]
theorem xD {x:aq} {ms:List ai} {ds:List (Int×List Int)} (h:bf x ms ds=true):jO x ms ds=((gR x ms ds x.s.toNat).length:Int):=by unfold jO;rw [if_pos h]
theorem nT (w:World) (E:TypeId) (a0 a1 a3:Option Addr) (n0 c0 n1 c1 n3 c3:Nat) (ss:List (List Int)) (cs:List (Int×List Int)) (f:Bool) (bs:List Int) (n:Int) (h0:aU.Rd w [.slice a0 n0 c0] ss) (h1:(aW E).Rd w [.slice a1 n1 c1] cs) (h3:aD.Rd w [.slice a3 n3 c3] bs) (hw:aM (ss,cs,f,bs)<=2097152):
 Calls Tryz.prog 179 #[.agg #[.slice a0 n0 c0,.slice a1 n1 c1,.bool f,.slice a3 n3 c3],.int .i64 n] w fun e w'=>∃a' l c',e=.returned (.tuple #[.slice a' l c',.bool (aV ss cs f bs n)])/\aD.Own w' w.heap.size w'.heap.size [.slice a' l c'] (bp ss cs f bs n)/\Below w.heap.size w w':=by
 have hA:=af w (.cells #[.slice a0 n0 c0,.slice a1 n1 c1,.bool f,.slice a3 n3 c3] 98);have X:=Box.new w 98 #[.slice a0 n0 c0,.slice a1 n1 c1,.bool f,.slice a3 n3 c3];have k0:=X.cell 0;have k1:=X.cell 1;have k2:=X.cell 2;have k3:=X.cell 3;have r0:=h0.below hA;have r1:=h1.below hA;have r3:=h3.below hA;have zA:=hA.size;go_enter Tryz.func179,Tryz.ntmps179
 go_wp2_with fail
 refine (iU _ E _ _ _ _ _ _ _ _ _ ss cs f bs n r0 r1 r3 hw).mono ?_
 rintro e w1 ⟨a',l,c',rfl,o1,b1⟩;have HO:=aa (o1.widen (lo':=w.heap.size) zA (Nat.le_refl _));have HB:=aa (Below.andThen hA b1);clear o1 b1 k0 k1 k2 k3 r0 r1 r3 X;go_wp2
 refine bodyPost_ret (v:=.tuple #[.slice a' l c',.bool (aV ss cs f bs n)]) (by simp [results,Tryz.results179,go_sem]) rfl ?_
 exact ⟨_,_,_,rfl,HO.out,HB.out⟩
theorem rP (w:World) (n:Int):Calls Tryz.prog 181 #[.agg #[],.int .i64 n] w fun e w'=>∃a' c',e=.returned (.tuple #[.slice a' 0 c',.bool false])/\Below w.heap.size w w':=by
 have hA:=(af w (.cells #[] 104)).alloc (by simp) (.cells #[] 3);go_enter Tryz.func181,Tryz.ntmps181
 go_wp2
 refine bodyPost_ret (v:=.tuple #[.slice (some ⟨w.heap.size+1,0,none⟩) 0 0,.bool false]) (by simp [results,Tryz.results181,go_sem]) rfl ?_
 exact ⟨_,_,rfl,hA⟩
theorem rQ {x:aq} {ms:List ai} {j:Nat} {s:Int} {d:ai} (h:ms[j]?=some d):dC x ms (j:Int) s=(!d.2.2.1&&(!decide ((j:Int)=x.lost)||decide (s<x.xW))):=by
 have hj:=(List.getElem?_eq_some_iff.1 h).1;unfold dC;rw [show inB (j:Int) 0 ((ms.length:Int)-1)=true from aG.2 (by omega),Int.toNat_natCast,List.getD_eq_getElem?_getD,h];rfl
theorem vT {ms:List ai} {j:Nat} {d:ai} (h:ms[j]?=some d):mQ ms (j:Int)=d:=by unfold mQ;rw [Int.toNat_natCast,List.getD_eq_getElem?_getD,h];rfl
theorem xG {x:aq} {ms:List ai} {j:Nat} {s:Int} {ss:List (List Int)} {cs:List (Int×List Int)} {f:Bool} {bs:List Int} (h:ms[j]?=some (ss,cs,f,bs)):dv x ms (j:Int) s=(dC x ms (j:Int) s&&(aV ss cs f bs (bE s)&&decide ((bp ss cs f bs (bE s)).length=1)))/\(dv x ms (j:Int) s=true->dl x ms (j:Int) s=(bp ss cs f bs (bE s)).getD 0 0):=by
 have hm:=vT h;have hsec:ta ms (j:Int) s=bp ss cs f bs (bE s):=by unfold ta;rw [hm]
 refine ⟨by unfold dv;rw [hsec,hm],fun h=>by rw [rJ h,hsec]⟩
theorem pI (w:World) (x:aq) (ms:List ai) (j:Nat) (s:Int) (hd:dv x ms (j:Int) s=false):
 Calls Tryz.prog 80 #[.iface 104 (.agg #[]),.int .i64 s] w fun e w'=>e=.returned (.tuple #[.int .i64 (dl x ms (j:Int) s),.bool (dv x ms (j:Int) s)])/\Below w.heap.size w w':=by
 have na : ∀ w, Sem.run Tryz.prog (nilAhead (284 + 1) 104 (.agg #[]) "loop.example/g00398/impl.read") w = .ok (some false) w := fun w => by kernel_rfl
 have HD:=aa hd;clear hd;go_enter Tryz.func80,Tryz.ntmps80
 go_wp2_with fail
 refine wp_region_held_drew (S:=fun w'=>Below w.heap.size w w') (by kernel_rfl) ?_ (fun xV=>?_)
 . exact (Below.refl _ _).drew
 refine aI (i:=0) (v:=?_) rfl (by kernel_rfl) (by kernel_rfl) (by kernel_rfl) (fun _ _ _ h=>h) (by kernel_rfl) ?_ xV ?_
 rotate_left 1
 . (intro w hSw;(try dsimp only at hSw);go_split_ands;go_simp;first|done|with_reducible rfl)
 simp only [Act.put,List.setIfInBounds_toArray,List.set_cons_zero,List.set_cons_succ]
 refine aI (i:=1) (v:=?_) rfl (by kernel_rfl) (by kernel_rfl) (by kernel_rfl) (fun _ _ _ h=>h) (by kernel_rfl) ?_ xV ?_
 rotate_left 1
 . (intro w hSw;(try dsimp only at hSw);go_split_ands;go_simp;first|done|with_reducible rfl)
 simp only [Act.put,List.setIfInBounds_toArray,List.set_cons_zero,List.set_cons_succ]
 refine aI (i:=3) (v:=?_) rfl (by kernel_rfl) (by kernel_rfl) (by kernel_rfl) (fun _ _ _ h=>h) (by kernel_rfl) ?_ xV ?_
 rotate_left 1
 . (intro w hSw;(try dsimp only at hSw);go_split_ands;go_simp;first|done|with_reducible rfl)
 simp only [Act.put,List.setIfInBounds_toArray,List.set_cons_zero,List.set_cons_succ]
 refine aI (i:=4) (v:=?_) rfl (by kernel_rfl) (by kernel_rfl) (by kernel_rfl) (fun _ _ _ h=>h) (by kernel_rfl) ?_ xV ?_
 rotate_left 1
 . (intro w hSw;(try dsimp only at hSw);go_split_ands;go_simp;first|done|with_reducible rfl)
 simp only [Act.put,List.setIfInBounds_toArray,List.set_cons_zero,List.set_cons_succ]
 refine aI (i:=5) (v:=?_) rfl (by kernel_rfl) (by kernel_rfl) (by kernel_rfl) (fun _ _ _ h=>h) (by kernel_rfl) ?_ xV ?_
 rotate_left 1
 . (intro w hSw;(try dsimp only at hSw);go_split_ands;go_simp;first|done|with_reducible rfl)
 simp only [Act.put,List.setIfInBounds_toArray,List.set_cons_zero,List.set_cons_succ]
 refine aw (i:=2) (by kernel_rfl) rfl (by kernel_rfl) (fun K hK=>?_)
 go_simp
 refine (dA _ _).mono ?_
 rintro e w1 ⟨rfl,h1⟩;subst h1;go_wp2_with fail
 clear xV;refine hK.out _ _ ?_ (fun xV=>?_)
 . exact (Below.refl _ _).drew
 clear hK K;refine aw (i:=6) (by kernel_rfl) rfl (by kernel_rfl) (fun K hK=>?_)
 go_simp
 refine (rP _ _).mono ?_
 rintro e w2 ⟨a',c',rfl,b2⟩;have b2':Below w.heap.size w w2:=(Below.refl w.heap.size w).drew.trans b2;clear b2;go_wp2_with fail
 clear xV;refine hK.out _ _ ?_ (fun xV=>?_)
 . exact b2'
 clear hK K;refine aI (i:=7) (v:=?_) rfl (by kernel_rfl) (by kernel_rfl) (by kernel_rfl) (fun _ _ _ h=>h) (by kernel_rfl) ?_ xV ?_
 rotate_left 1
 . (intro w hSw;(try dsimp only at hSw);go_split_ands;go_simp;first|done|with_reducible rfl)
 simp only [Act.put,List.setIfInBounds_toArray,List.set_cons_zero,List.set_cons_succ]
 refine aI (i:=8) (v:=?_) rfl (by kernel_rfl) (by kernel_rfl) (by kernel_rfl) (fun _ _ _ h=>h) (by kernel_rfl) ?_ xV ?_
 rotate_left 1
 . (intro w hSw;(try dsimp only at hSw);go_split_ands;go_simp;first|done|with_reducible rfl)
 simp only [Act.put,List.setIfInBounds_toArray,List.set_cons_zero,List.set_cons_succ]
 refine aI (i:=9) (v:=?_) rfl (by kernel_rfl) (by kernel_rfl) (by kernel_rfl) (fun _ _ _ h=>h) (by kernel_rfl) ?_ xV ?_
 rotate_left 1
 . (intro w hSw;(try dsimp only at hSw);go_split_ands;go_simp;first|done|with_reducible rfl)
 simp only [Act.put,List.setIfInBounds_toArray,List.set_cons_zero,List.set_cons_succ]
 refine aI (i:=10) (v:=?_) rfl (by kernel_rfl) (by kernel_rfl) (by kernel_rfl) (fun _ _ _ h=>h) (by kernel_rfl) ?_ xV ?_
 rotate_left 1
 . (intro w hSw;(try dsimp only at hSw);go_split_ands;go_simp;first|done|with_reducible rfl)
 simp only [Act.put,List.setIfInBounds_toArray,List.set_cons_zero,List.set_cons_succ]
 refine aI (i:=11) (v:=?_) rfl (by kernel_rfl) (by kernel_rfl) (by kernel_rfl) (fun _ _ _ h=>h) (by kernel_rfl) ?_ xV ?_
 rotate_left 1
 . (intro w hSw;(try dsimp only at hSw);go_split_ands;go_simp;first|done|with_reducible rfl)
 simp only [Act.put,List.setIfInBounds_toArray,List.set_cons_zero,List.set_cons_succ]
 refine wpAnyH_done (by kernel_rfl) ?_ _
 clear xV;have HB:=aa b2';go_wp2
 refine bodyPost_ret (v:=.tuple #[.int .i64 0,.bool false]) (by simp [results,Tryz.results80,go_sem]) rfl ?_
 exact ⟨fi HD.out,HB.out⟩
theorem rR (w:World) (E:TypeId) (x:aq) (ms:List ai) (j:Nat) (s:Int) (a0 a1 a3:Option Addr) (c0 c1 c3:Nat) (ss:List (List Int)) (cs:List (Int×List Int)) (bs:List Int) (h0:aU.Rd w [.slice a0 ss.length c0] ss) (h1:(aW E).Rd w [.slice a1 cs.length c1] cs) (h3:aD.Rd w [.slice a3 bs.length c3] bs) (hw:aM (ss,cs,false,bs)<=2097152) (hd:dv x ms (j:Int) s=(decide (s<x.xW)&&(aV ss cs false bs (bE s)&&decide ((bp ss cs false bs (bE s)).length=1)))) (hv:dv x ms (j:Int) s=true->dl x ms (j:Int) s=(bp ss cs false bs (bE s)).getD 0 0):
 Calls Tryz.prog 80 #[.iface 102 (.agg #[.slice a0 ss.length c0,.slice a1 cs.length c1,.bool false,.slice a3 bs.length c3,.int .i64 x.xW]),.int .i64 s] w fun e w'=>e=.returned (.tuple #[.int .i64 (dl x ms (j:Int) s),.bool (dv x ms (j:Int) s)])/\Below w.heap.size w w':=by
 have na : ∀ w, Sem.run Tryz.prog (nilAhead (284 + 1) 102 (.agg #[.slice a0 ss.length c0, .slice a1 cs.length c1, .bool false, .slice a3 bs.length c3, .int .i64 x.xW]) "loop.example/g00398/impl.read") w = .ok (some false) w := fun w => by kernel_rfl
 have HD:=aa hd;have HV:=aa hv;clear hd hv;go_enter Tryz.func80,Tryz.ntmps80
 go_wp2_with fail
 refine wp_region_held_drew (S:=fun w'=>Below w.heap.size w w') (by kernel_rfl) ?_ (fun xV=>?_)
 . exact (Below.refl _ _).drew
 refine aI (i:=0) (v:=?_) rfl (by kernel_rfl) (by kernel_rfl) (by kernel_rfl) (fun _ _ _ h=>h) (by kernel_rfl) ?_ xV ?_
 rotate_left 1
 . (intro w hSw;(try dsimp only at hSw);go_split_ands;go_simp;first|done|with_reducible rfl)
 simp only [Act.put,List.setIfInBounds_toArray,List.set_cons_zero,List.set_cons_succ]
 refine aI (i:=1) (v:=?_) rfl (by kernel_rfl) (by kernel_rfl) (by kernel_rfl) (fun _ _ _ h=>h) (by kernel_rfl) ?_ xV ?_
 rotate_left 1
 . (intro w hSw;(try dsimp only at hSw);go_split_ands;go_simp;first|done|with_reducible rfl)
 simp only [Act.put,List.setIfInBounds_toArray,List.set_cons_zero,List.set_cons_succ]
 refine aI (i:=3) (v:=?_) rfl (by kernel_rfl) (by kernel_rfl) (by kernel_rfl) (fun _ _ _ h=>h) (by kernel_rfl) ?_ xV ?_
 rotate_left 1
 . (intro w hSw;(try dsimp only at hSw);go_split_ands;go_simp;first|done|with_reducible rfl)
 simp only [Act.put,List.setIfInBounds_toArray,List.set_cons_zero,List.set_cons_succ]
 refine aI (i:=4) (v:=?_) rfl (by kernel_rfl) (by kernel_rfl) (by kernel_rfl) (fun _ _ _ h=>h) (by kernel_rfl) ?_ xV ?_
 rotate_left 1
 . (intro w hSw;(try dsimp only at hSw);go_split_ands;go_simp;first|done|with_reducible rfl)
 simp only [Act.put,List.setIfInBounds_toArray,List.set_cons_zero,List.set_cons_succ]
 refine aI (i:=5) (v:=?_) rfl (by kernel_rfl) (by kernel_rfl) (by kernel_rfl) (fun _ _ _ h=>h) (by kernel_rfl) ?_ xV ?_
 rotate_left 1
 . (intro w hSw;(try dsimp only at hSw);go_split_ands;go_simp;first|done|with_reducible rfl)
 simp only [Act.put,List.setIfInBounds_toArray,List.set_cons_zero,List.set_cons_succ]
 refine aw (i:=2) (by kernel_rfl) rfl (by kernel_rfl) (fun K hK=>?_)
 go_simp
 refine (dA _ _).mono ?_
 rintro e w1 ⟨rfl,h1⟩;subst h1;go_wp2_with fail
 clear xV;refine hK.out _ _ ?_ (fun xV=>?_)
 . exact (Below.refl _ _).drew
 clear hK K;refine aw (i:=6) (by kernel_rfl) rfl (by kernel_rfl) (fun K hK=>?_)
 go_simp
 refine (nT _ E _ _ _ _ _ _ _ _ _ ss cs false bs _ h0.drew h1.drew h3.drew hw).mono ?_
 rintro e w2 ⟨a',l,c',rfl,o2,b2⟩;have b2':Below w.heap.size w w2:=(Below.refl w.heap.size w).drew.trans b2;clear b2;go_wp2_with fail
 clear xV;refine hK.out _ _ ?_ (fun xV=>?_)
 . exact b2'
 clear hK K;refine aI (i:=7) (v:=?_) rfl (by kernel_rfl) (by kernel_rfl) (by kernel_rfl) (fun _ _ _ h=>h) (by kernel_rfl) ?_ xV ?_
 rotate_left 1
 . (intro w hSw;(try dsimp only at hSw);go_split_ands;go_simp;first|done|with_reducible rfl)
 simp only [Act.put,List.setIfInBounds_toArray,List.set_cons_zero,List.set_cons_succ]
 refine aI (i:=8) (v:=?_) rfl (by kernel_rfl) (by kernel_rfl) (by kernel_rfl) (fun _ _ _ h=>h) (by kernel_rfl) ?_ xV ?_
 rotate_left 1
 . (intro w hSw;(try dsimp only at hSw);go_split_ands;go_simp;first|done|with_reducible rfl)
 simp only [Act.put,List.setIfInBounds_toArray,List.set_cons_zero,List.set_cons_succ]
 refine aI (i:=9) (v:=?_) rfl (by kernel_rfl) (by kernel_rfl) (by kernel_rfl) (fun _ _ _ h=>h) (by kernel_rfl) ?_ xV ?_
 rotate_left 1
 . (intro w hSw;(try dsimp only at hSw);go_split_ands;go_simp;first|done|with_reducible rfl)
 simp only [Act.put,List.setIfInBounds_toArray,List.set_cons_zero,List.set_cons_succ]
 refine aI (i:=10) (v:=?_) rfl (by kernel_rfl) (by kernel_rfl) (by kernel_rfl) (fun _ _ _ h=>h) (by kernel_rfl) ?_ xV ?_
 rotate_left 1
 . (intro w hSw;(try dsimp only at hSw);go_split_ands;go_simp;first|done|with_reducible rfl)
 simp only [Act.put,List.setIfInBounds_toArray,List.set_cons_zero,List.set_cons_succ]
 refine aI (i:=11) (v:=?_) rfl (by kernel_rfl) (by kernel_rfl) (by kernel_rfl) (fun _ _ _ h=>h) (by kernel_rfl) ?_ xV ?_
 rotate_left 1
 . (intro w hSw;(try dsimp only at hSw);go_split_ands;go_simp;first|done|with_reducible rfl)
 simp only [Act.put,List.setIfInBounds_toArray,List.set_cons_zero,List.set_cons_succ]
 refine wpAnyH_done (by kernel_rfl) ?_ _
 clear xV;have HO:=aa o2;clear o2;cases hok:aV ss cs false bs (bE s)
 . have HF:Hid (dv x ms (j:Int) s=false):=by unfold Hid;rw [HD.out,hok];simp
   go_wp2
   refine bodyPost_ret (v:=.tuple #[.int .i64 0,.bool false]) (by simp [results,Tryz.results80,go_sem]) rfl ?_
   exact ⟨fi HF.out,b2'⟩
 go_wp2_with fail
 refine (nS _ _ _ _ _ _ _ _ _ _ _ _ _).mono ?_
 rintro e w3 ⟨rfl,b3⟩;have B3:=aa (Below.andThen b2' b3);have o3:=HO.out.below b3;clear b3;obtain ⟨hr,hln,_⟩:=aR o3.rd;cases hbu:decide (s<x.xW)
 . have HF:Hid (dv x ms (j:Int) s=false):=by unfold Hid;rw [HD.out,hbu];rfl
   go_wp2
   refine bodyPost_ret (v:=.tuple #[.int .i64 0,.bool false]) (by simp [results,Tryz.results80,go_sem]) rfl ?_
   exact ⟨fi HF.out,B3.out⟩
 skip
 have HD2:Hid (dv x ms (j:Int) s=decide ((bp ss cs false bs (bE s)).length=1)):=by unfold Hid;rw [HD.out,hok,hbu];simp
 generalize hps:bp ss cs false bs (bE s)=ps at hr hln HD2 HV;have HPS:=aa hps;clear hps;by_cases h1:l=1
 . subst h1
   have hT:dv x ms (j:Int) s=true:=by rw [HD2.out,hln];rfl
   have hV:=HV.out hT;obtain ⟨y,rfl⟩:∃y,ps=[y]:=by match ps,hln with|[y],_=>exact ⟨y,rfl⟩
   rcases hr with h0'|⟨b,off,rfl,hbl,hrr⟩
   . simp at h0'
   have hc:w3.cell? ⟨b,off,none⟩=some (.int .i64 y):=hrr 0 (by simp);go_wp2
   refine bodyPost_ret (v:=.tuple #[.int .i64 y,.bool true]) (by simp [results,Tryz.results80,go_sem]) rfl ?_
   exact ⟨by rw [hV,hT];rfl,B3.out⟩
 have HF:Hid (dv x ms (j:Int) s=false):=by unfold Hid;rw [HD2.out,hln];simpa using h1
 have hl1:((l:Int)==1)=false:=by simp;omega
 have hl2:((l:Int) !=1)=true:=by simp;omega
 go_wp2
 refine bodyPost_ret (v:=.tuple #[.int .i64 0,.bool false]) (by simp [results,Tryz.results80,go_sem]) rfl ?_
 exact ⟨fi HF.out,B3.out⟩
theorem qI (w:World) (E:TypeId) (x:aq) (ms:List ai) (j:Nat) (s:Int) (a0 a1 a3:Option Addr) (c0 c1 c3:Nat) (ss:List (List Int)) (cs:List (Int×List Int)) (bs:List Int) (h0:aU.Rd w [.slice a0 ss.length c0] ss) (h1:(aW E).Rd w [.slice a1 cs.length c1] cs) (h3:aD.Rd w [.slice a3 bs.length c3] bs) (hw:aM (ss,cs,false,bs)<=2097152) (hd:dv x ms (j:Int) s=(true&&(aV ss cs false bs (bE s)&&decide ((bp ss cs false bs (bE s)).length=1)))) (hv:dv x ms (j:Int) s=true->dl x ms (j:Int) s=(bp ss cs false bs (bE s)).getD 0 0):
 Calls Tryz.prog 80 #[.iface 100 (.agg #[.slice a0 ss.length c0,.slice a1 cs.length c1,.bool false,.slice a3 bs.length c3]),.int .i64 s] w fun e w'=>e=.returned (.tuple #[.int .i64 (dl x ms (j:Int) s),.bool (dv x ms (j:Int) s)])/\Below w.heap.size w w':=by
 have na : ∀ w, Sem.run Tryz.prog (nilAhead (284 + 1) 100 (.agg #[.slice a0 ss.length c0, .slice a1 cs.length c1, .bool false, .slice a3 bs.length c3]) "loop.example/g00398/impl.read") w = .ok (some false) w := fun w => by kernel_rfl
 have HD:=aa hd;have HV:=aa hv;clear hd hv;go_enter Tryz.func80,Tryz.ntmps80
 go_wp2_with fail
 refine wp_region_held_drew (S:=fun w'=>Below w.heap.size w w') (by kernel_rfl) ?_ (fun xV=>?_)
 . exact (Below.refl _ _).drew
 refine aI (i:=0) (v:=?_) rfl (by kernel_rfl) (by kernel_rfl) (by kernel_rfl) (fun _ _ _ h=>h) (by kernel_rfl) ?_ xV ?_
 rotate_left 1
 . (intro w hSw;(try dsimp only at hSw);go_split_ands;go_simp;first|done|with_reducible rfl)
 simp only [Act.put,List.setIfInBounds_toArray,List.set_cons_zero,List.set_cons_succ]
 refine aI (i:=1) (v:=?_) rfl (by kernel_rfl) (by kernel_rfl) (by kernel_rfl) (fun _ _ _ h=>h) (by kernel_rfl) ?_ xV ?_
 rotate_left 1
 . (intro w hSw;(try dsimp only at hSw);go_split_ands;go_simp;first|done|with_reducible rfl)
 simp only [Act.put,List.setIfInBounds_toArray,List.set_cons_zero,List.set_cons_succ]
 refine aI (i:=3) (v:=?_) rfl (by kernel_rfl) (by kernel_rfl) (by kernel_rfl) (fun _ _ _ h=>h) (by kernel_rfl) ?_ xV ?_
 rotate_left 1
 . (intro w hSw;(try dsimp only at hSw);go_split_ands;go_simp;first|done|with_reducible rfl)
 simp only [Act.put,List.setIfInBounds_toArray,List.set_cons_zero,List.set_cons_succ]
 refine aI (i:=4) (v:=?_) rfl (by kernel_rfl) (by kernel_rfl) (by kernel_rfl) (fun _ _ _ h=>h) (by kernel_rfl) ?_ xV ?_
 rotate_left 1
 . (intro w hSw;(try dsimp only at hSw);go_split_ands;go_simp;first|done|with_reducible rfl)
 simp only [Act.put,List.setIfInBounds_toArray,List.set_cons_zero,List.set_cons_succ]
 refine aI (i:=5) (v:=?_) rfl (by kernel_rfl) (by kernel_rfl) (by kernel_rfl) (fun _ _ _ h=>h) (by kernel_rfl) ?_ xV ?_
 rotate_left 1
 . (intro w hSw;(try dsimp only at hSw);go_split_ands;go_simp;first|done|with_reducible rfl)
 simp only [Act.put,List.setIfInBounds_toArray,List.set_cons_zero,List.set_cons_succ]
 refine aw (i:=2) (by kernel_rfl) rfl (by kernel_rfl) (fun K hK=>?_)
 go_simp
 refine (dA _ _).mono ?_
 rintro e w1 ⟨rfl,h1⟩;subst h1;go_wp2_with fail
 clear xV;refine hK.out _ _ ?_ (fun xV=>?_)
 . exact (Below.refl _ _).drew
 clear hK K;refine aw (i:=6) (by kernel_rfl) rfl (by kernel_rfl) (fun K hK=>?_)
 go_simp
 refine (nT _ E _ _ _ _ _ _ _ _ _ ss cs false bs _ h0.drew h1.drew h3.drew hw).mono ?_
 rintro e w2 ⟨a',l,c',rfl,o2,b2⟩;have b2':Below w.heap.size w w2:=(Below.refl w.heap.size w).drew.trans b2;clear b2;go_wp2_with fail
 clear xV;refine hK.out _ _ ?_ (fun xV=>?_)
 . exact b2'
 clear hK K;refine aI (i:=7) (v:=?_) rfl (by kernel_rfl) (by kernel_rfl) (by kernel_rfl) (fun _ _ _ h=>h) (by kernel_rfl) ?_ xV ?_
 rotate_left 1
 . (intro w hSw;(try dsimp only at hSw);go_split_ands;go_simp;first|done|with_reducible rfl)
 simp only [Act.put,List.setIfInBounds_toArray,List.set_cons_zero,List.set_cons_succ]
 refine aI (i:=8) (v:=?_) rfl (by kernel_rfl) (by kernel_rfl) (by kernel_rfl) (fun _ _ _ h=>h) (by kernel_rfl) ?_ xV ?_
 rotate_left 1
 . (intro w hSw;(try dsimp only at hSw);go_split_ands;go_simp;first|done|with_reducible rfl)
 simp only [Act.put,List.setIfInBounds_toArray,List.set_cons_zero,List.set_cons_succ]
 refine aI (i:=9) (v:=?_) rfl (by kernel_rfl) (by kernel_rfl) (by kernel_rfl) (fun _ _ _ h=>h) (by kernel_rfl) ?_ xV ?_
 rotate_left 1
 . (intro w hSw;(try dsimp only at hSw);go_split_ands;go_simp;first|done|with_reducible rfl)
 simp only [Act.put,List.setIfInBounds_toArray,List.set_cons_zero,List.set_cons_succ]
 refine aI (i:=10) (v:=?_) rfl (by kernel_rfl) (by kernel_rfl) (by kernel_rfl) (fun _ _ _ h=>h) (by kernel_rfl) ?_ xV ?_
 rotate_left 1
 . (intro w hSw;(try dsimp only at hSw);go_split_ands;go_simp;first|done|with_reducible rfl)
 simp only [Act.put,List.setIfInBounds_toArray,List.set_cons_zero,List.set_cons_succ]
 refine aI (i:=11) (v:=?_) rfl (by kernel_rfl) (by kernel_rfl) (by kernel_rfl) (fun _ _ _ h=>h) (by kernel_rfl) ?_ xV ?_
 rotate_left 1
 . (intro w hSw;(try dsimp only at hSw);go_split_ands;go_simp;first|done|with_reducible rfl)
 simp only [Act.put,List.setIfInBounds_toArray,List.set_cons_zero,List.set_cons_succ]
 refine wpAnyH_done (by kernel_rfl) ?_ _
 clear xV;have HO:=aa o2;clear o2;cases hok:aV ss cs false bs (bE s)
 . have HF:Hid (dv x ms (j:Int) s=false):=by unfold Hid;rw [HD.out,hok];simp
   go_wp2
   refine bodyPost_ret (v:=.tuple #[.int .i64 0,.bool false]) (by simp [results,Tryz.results80,go_sem]) rfl ?_
   exact ⟨fi HF.out,b2'⟩
 go_wp2_with fail
 refine (mB _ _ _ _ _ _ _ _ _ _ _ _).mono ?_
 rintro e w3 ⟨rfl,b3⟩;have B3:=aa (Below.andThen b2' b3);have o3:=HO.out.below b3;clear b3;obtain ⟨hr,hln,_⟩:=aR o3.rd;have HD2:Hid (dv x ms (j:Int) s=decide ((bp ss cs false bs (bE s)).length=1)):=by unfold Hid;rw [HD.out,hok];simp
 generalize hps:bp ss cs false bs (bE s)=ps at hr hln HD2 HV;have HPS:=aa hps;clear hps;by_cases h1:l=1
 . subst h1
   have hT:dv x ms (j:Int) s=true:=by rw [HD2.out,hln];rfl
   have hV:=HV.out hT;obtain ⟨y,rfl⟩:∃y,ps=[y]:=by match ps,hln with|[y],_=>exact ⟨y,rfl⟩
   rcases hr with h0'|⟨b,off,rfl,hbl,hrr⟩
   . simp at h0'
   have hc:w3.cell? ⟨b,off,none⟩=some (.int .i64 y):=hrr 0 (by simp);go_wp2
   refine bodyPost_ret (v:=.tuple #[.int .i64 y,.bool true]) (by simp [results,Tryz.results80,go_sem]) rfl ?_
   exact ⟨by rw [hV,hT];rfl,B3.out⟩
 have HF:Hid (dv x ms (j:Int) s=false):=by unfold Hid;rw [HD2.out,hln];simpa using h1
 have hl1:((l:Int)==1)=false:=by simp;omega
 have hl2:((l:Int) !=1)=true:=by simp;omega
 go_wp2
 refine bodyPost_ret (v:=.tuple #[.int .i64 0,.bool false]) (by simp [results,Tryz.results80,go_sem]) rfl ?_
 exact ⟨fi HF.out,B3.out⟩
theorem lQ {e:aH}:∀(ds L:List aH),(∀d∈ds,¬d.1=e.1)->ds.foldl (fP e) (L,true)=(L++ds,true)
 | [],L,_=>by simp
 | d :: ds,L,h=>by
  rw [List.foldl_cons,tY (h d List.mem_cons_self),lQ ds _ (fun d hd=>h d (List.mem_cons_of_mem _ hd))];simp
theorem qi {e:aH}:∀(ds L:List aH),(∀d∈ds,d.1<e.1)->ds.foldl (fP e) (L,false)=(L++ds,false)
 | [],L,_=>by simp
 | d :: ds,L,h=>by
  have h1:=h d List.mem_cons_self;rw [List.foldl_cons,tX (by omega) (by omega),qi ds _ (fun d hd=>h d (List.mem_cons_of_mem _ hd))];simp
theorem wH {ds:List aH} {k:Nat} {d:aH} (h:d∈ds.drop k):∃i,k<=i/\ds[i]?=some d:=by
 obtain ⟨i,hi⟩:=List.mem_iff_getElem?.1 h;rw [List.getElem?_drop] at hi;exact ⟨k+i,by omega,hi⟩
theorem sk {ds:List aH} {k:Nat} {d:aH} (h:d∈ds.take k):∃i,i<k/\ds[i]?=some d:=by
 obtain ⟨i,hi⟩:=List.mem_iff_getElem?.1 h;rw [List.getElem?_take] at hi;split at hi
 . exact ⟨i,by assumption,hi⟩
 simp at hi
theorem xS {ds:List aH} {t:Int} {ys:List Int} {k:Nat} {r:Bool} (ha:rM ds) (h:pe ds t k r):mT ds (t,ys)=ds.take k++[(t,ys)]++ds.drop (if r=true then k+1 else k):=by
 obtain ⟨h1,h2,h3,h4⟩:=h;have hq:gj ds (t,ys) ds.length=(ds.drop k).foldl (fP (t,ys)) (ds.take k,false):=by
  unfold gj;rw [List.take_of_length_le (Nat.le_refl _)];conv=>lhs;rw [←List.take_append_drop k ds]
  rw [List.foldl_append,qi (ds.take k) [] (fun d hd=>by obtain ⟨i,hi,hd⟩:=sk hd;exact h2 i d hi hd)];simp
 unfold mT;rw [hq];rcases h4 with ⟨rfl,d,hk,hdt⟩|⟨rfl,hk⟩
 . have hkl:=(List.getElem?_eq_some_iff.1 hk).1
   have hdr:ds.drop k=d :: ds.drop (k+1):=by
    rw [List.drop_eq_getElem_cons hkl];have:=(List.getElem?_eq_some_iff.1 hk).2;rw [this]
   rw [hdr,List.foldl_cons,tV (by show t<=d.1;omega) hdt,lQ _ _ (fun d' hd' h'=>by
    obtain ⟨i,hi,hd'⟩:=wH hd';have:=ha.1 k i d d' (by omega) hk hd';have:d'.1=t:=h';omega)]
   simp
 cases hdr:ds.drop k with
 | nil=>simp [hdr]
 | cons d l=>
  have hd:d∈ds.drop k:=by rw [hdr];exact List.mem_cons_self
  have hkd:ds[k]?=some d:=by
   have:(ds.drop k)[0]?=some d:=by rw [hdr];rfl
   rwa [List.getElem?_drop] at this
  have a1:=h3 k d (Nat.le_refl _) hkd;have a2:=hk d hkd;rw [List.foldl_cons,tW (by show t<=d.1;exact a1) a2,lQ _ _ (fun d' hd' h'=>by
   obtain ⟨i,hi,hd'⟩:=wH (show d'∈ds.drop k by rw [hdr];exact List.mem_cons_of_mem _ hd');have:=h3 i d' hi hd';have h'':d'.1=t:=h';by_cases hik:i=k
   . subst hik
     exact hk d' hd' h''
   have:=ha.1 k i d d' (by omega) hkd hd';omega)]
  simp [hdr]
theorem xT {ds:List aH} (ha:rM ds) (t:Int):∃k r,pe ds t k r:=by
 have h:∀m,m<=ds.length->(∃k,k<=m/\(∀(i:Nat) (e:aH),i<k->ds[i]?=some e->e.1<t)/\(∀(i:Nat) (e:aH),k<=i->i<m->ds[i]?=some e->t<=e.1)):=by
  intro m;induction m with
  | zero=>intro _;exact ⟨0,Nat.le_refl _,fun i e hi=>by omega,fun i e _ hi=>by omega⟩
  | succ m ih=>
   intro hm;obtain ⟨k,hk,h1,h2⟩:=ih (by omega);have hmm:=List.getElem?_eq_getElem (show m<ds.length by omega);by_cases hlt:(ds[m]'(by omega)).1<t
   . refine ⟨m+1,Nat.le_refl _,fun i e hi he=>?_,fun i e h3 h4=>by omega⟩
     by_cases him:i=m
     . subst him
       rw [hmm] at he;simp at he
       rw [←he];exact hlt
     have:=ha.1 i m e _ (by omega) he hmm;omega
   refine ⟨k,by omega,h1,fun i e h3 h4 he=>?_⟩
   by_cases him:i=m
   . subst him
     rw [hmm] at he;simp at he
     rw [←he];omega
   exact h2 i e h3 (by omega) he
 obtain ⟨k,hk,h1,h2⟩:=h ds.length (Nat.le_refl _);have h3:∀(i:Nat) (e:aH),k<=i->ds[i]?=some e->t<=e.1:=fun i e hi he=>h2 i e hi (List.getElem?_eq_some_iff.1 he).1 he;cases hkd:ds[k]? with
 | none=>exact ⟨k,false,hk,h1,h3,.inr ⟨rfl,fun e he=>by rw [hkd] at he;cases he⟩⟩
 | some d=>
  by_cases hd:d.1=t
  . exact ⟨k,true,hk,h1,h3,.inl ⟨rfl,d,hkd,hd⟩⟩
  exact ⟨k,false,hk,h1,h3,.inr ⟨rfl,fun e he=>by rw [hkd] at he;cases he;exact hd⟩⟩
end Go.Proofs.YtgjomldcnjjpaaaGreat

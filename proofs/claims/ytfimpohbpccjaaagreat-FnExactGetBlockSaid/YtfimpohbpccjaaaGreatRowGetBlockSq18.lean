/-
 The walks of what a disk reads in each of its states, and of the word that it holds of a stripe. Condition: the disk weighs at most 2097152.
-/
import Derived.Test.YtfimpohbpccjaaaGreatRowGetBlockSq11
import Derived.Test.YtfimpohbpccjaaaGreatRowGetBlockSq16
import Derived.Test.YtfimpohbpccjaaaGreatRowGetBlockSq13
import Derived.Test.YtfimpohbpccjaaaGreatRowGetBlockSq4
import Derived.Test.YtfimpohbpccjaaaGreatRowGetBlockSq7
import Derived.Test.YtfimpohbpccjaaaGreatRowGetBlockSq15
import Derived.Test.YtfimpohbpccjaaaGreatRowGetBlockSq3
import Derived.Test.YtfimpohbpccjaaaGreatRowGetBlockSq9

set_option maxRecDepth 100000
set_option maxHeartbeats 8000000
set_option linter.unusedSimpArgs false

namespace Go.Proofs.YtfimpohbpccjaaaGreat
open Go.RowKit

def ok8 (x:aw) (ms:List ax) (ds:List (Int×List Int)) (s:Int):Bool:=if at8 ds s=-1 then !x.ji&&bw x ms s else true
def cC (x:aw) (ms:List ax) (ds:List (Int×List Int)) (s:Int):List Int:=if at8 ds s=-1 then (if x.ji=true then [] else cX x ms s) else (ds.getD (at8 ds s).toNat (0,[])).2
theorem fy (w:World) (E F G:TypeId) (x:aw) (am ad:Option Addr) (nm cm nd cd:Nat) (ms:List ax) (ds:List (Int×List Int)) (s:Int) (h0:(bf E F).Rd w [.slice am nm cm] ms) (h1:(aV G).Rd w [.slice ad nd cd] ds) (hw:bh ms ds<=2097152) (hg:bo x.n x.s=true) (ht:inB s 0 (x.s-1)=true):
 Calls Tryz.prog 12 #[.agg #[.int .i64 x.id,.int .i64 x.n,.int .i64 x.s,.slice am nm cm,.int .i64 x.lost,.int .i64 x.jh,.int .i64 x.seq,.int .i64 x.tail,.int .i64 x.gen,.slice ad nd cd,.int .i64 x.jj,.bool x.down,.bool x.ji],.int .i64 s] w fun e w'=>∃a' l' c',e=.returned (.tuple #[.slice a' l' c',.bool (ok8 x ms ds s)])/\aI.Own w' w.heap.size w'.heap.size [.slice a' l' c'] (cC x ms ds s)/\Below w.heap.size w w':=by
 obtain ⟨i0,hi,hz0,hz1,hz2⟩:=info_parts Tryz.info3;have hwm:aE ms<=2097152:=by unfold bh at hw;omega
 have hwd:aA ds<=2097152:=by unfold bh at hw;omega
 obtain ⟨hl1,_,_⟩:=ag h1;have hnd:nd<=2097152:=by unfold aA at hwd;omega
 have hA:=af w (.cells #[.int .i64 x.id,.int .i64 x.n,.int .i64 x.s,.slice am nm cm,.int .i64 x.lost,.int .i64 x.jh,.int .i64 x.seq,.int .i64 x.tail,.int .i64 x.gen,.slice ad nd cd,.int .i64 x.jj,.bool x.down,.bool x.ji] 35);have X0:=Box.new w 35 #[.int .i64 x.id,.int .i64 x.n,.int .i64 x.s,.slice am nm cm,.int .i64 x.lost,.int .i64 x.jh,.int .i64 x.seq,.int .i64 x.tail,.int .i64 x.gen,.slice ad nd cd,.int .i64 x.jj,.bool x.down,.bool x.ji];have zX:=X0.lt;have r0:=h0.below hA;have r1:=h1.below hA;obtain ⟨k0,k1,k2,k3,k4,k5,k6,k7,k8,k9,k10,k11,k12⟩:=X0.cells13;go_enter Tryz.func12,Tryz.ntmps12
 go_wp2_with fail
 generalize w.alloc (.cells #[.int .i64 x.id,.int .i64 x.n,.int .i64 x.s,.slice am nm cm,.int .i64 x.lost,.int .i64 x.jh,.int .i64 x.seq,.int .i64 x.tail,.int .i64 x.gen,.slice ad nd cd,.int .i64 x.jj,.bool x.down,.bool x.ji] 35)=W at hA X0 zX r0 r1 k0 k1 k2 k3 k4 k5 k6 k7 k8 k9 k10 k11 k12 ⊢;refine (iG _ G x _ _ _ _ _ _ ds s r1 hnd).mono ?_
 rintro e w1 ⟨rfl,b1⟩;have X1:=X0.below b1 zX;have p0:=r0.below b1;have p1:=r1.below b1;have B1:=Below.andThen hA b1;clear k0 k1 k2 k3 k4 k5 k6 k7 k8 k9 k10 k11 k12 X0 r0 r1 b1 hA zX;obtain ⟨k0,k1,k2,k3,k4,k5,k6,k7,k8,k9,k10,k11,k12⟩:=X1.cells13;rcases fg ds s with hat|⟨j,d,hat,hdj,hds⟩
 . have HK:Hid (ok8 x ms ds s=(!x.ji&&bw x ms s)):=by unfold Hid ok8;rw [if_pos hat]
   have HD:Hid (cC x ms ds s=if x.ji=true then [] else cX x ms s):=by unfold Hid cC;rw [if_pos hat]
   rw [hat];clear hat;cases hbr:x.ji
   . have HK2:Hid (ok8 x ms ds s=bw {x with ji:=false} ms s):=by unfold Hid;rw [HK.out,hbr];rfl
     have HD2:Hid (cC x ms ds s=cX {x with ji:=false} ms s):=by unfold Hid;rw [HD.out,hbr,if_neg (by simp)];rfl
     rw [hbr] at k12;clear hbr HK HD;go_wp2_with fail
     refine (gJ _ E F {x with ji:=false} _ _ _ _ _ _ ms s p0 hwm hg ht).mono ?_
     rintro e w2 ⟨a2,l2,c2,rfl,o2,b2⟩;have HO:=ab (o2.widen (lo':=w.heap.size) (hi':=w2.heap.size) B1.size (Nat.le_refl _));have HB:=ab (Below.andThen B1 b2);clear o2 b2 B1 X1 p0 p1 k0 k1 k2 k3 k4 k5 k6 k7 k8 k9 k10 k11 k12;go_wp2
     refine bodyPost_ret (v:=.tuple #[.slice a2 l2 c2,.bool (bw {x with ji:=false} ms s)]) (by simp [results,Tryz.results12,go_sem]) rfl ?_
     exact ⟨a2,l2,c2,by rw [HK2.out],by rw [HD2.out];exact HO.out,HB.out⟩
   have HK2:Hid (ok8 x ms ds s=false):=by unfold Hid;rw [HK.out,hbr];rfl
   have HD2:Hid (cC x ms ds s=[]):=by unfold Hid;rw [HD.out,hbr,if_pos rfl]
   rw [hbr] at k12;clear hbr HK HD;have HO:=ab ((aC (aT.lit .i64 3 w1 [] 0 #[] rfl rfl (by unfold maxLen;omega))).widen (lo':=w.heap.size) B1.size (Nat.le_refl _));have HB:=ab (Below.andThen B1 (af w1 (.cells #[] 3)));clear B1 X1 p0 p1;go_wp2
   refine bodyPost_ret (v:=.tuple #[.slice (some ⟨w1.heap.size,0,none⟩) 0 0,.bool false]) (by simp [results,Tryz.results12,go_sem]) rfl ?_
   exact ⟨_,_,_,by rw [HK2.out],by rw [HD2.out];exact HO.out,HB.out⟩
 have HK:Hid (ok8 x ms ds s=true):=by unfold Hid ok8;rw [if_neg (by omega)]
 have HD:Hid (cC x ms ds s=d.2):=by unfold Hid cC;rw [if_neg (by omega),hat,Int.toNat_natCast,List.getD_eq_getElem?_getD,hdj];rfl
 have hjl:=(List.getElem?_eq_some_iff.1 hdj).1;have hil:=bE hdj;rcases aX rfl p1 with h9|⟨b,off,rfl,hbl,hcs⟩
 . omega
 obtain ⟨u0,u1,hv0,hv1,hrv⟩:=hcs j d hdj;obtain ⟨rfl,hrv'⟩:=bN hrv;obtain ⟨av,cv,rfl⟩:=aq hrv';rw [hat];obtain ⟨y,ys⟩:=d;simp only at hv0 hv1 hrv' hil HD
 have hB:=af w1 (.cells #[] 3);have hO:aT .i64 3 (w1.alloc (.cells #[] 3)) w1.heap.size (.slice (some ⟨w1.heap.size,0,none⟩) 0 0) []:=aT.lit .i64 3 w1 [] 0 #[] rfl rfl (by unfold maxLen;omega);have q0:=(hB.cell (p:=⟨b,off+j*2,none⟩) hbl).trans hv0;have q1:=(hB.cell (p:=⟨b,off+j*2+1,none⟩) hbl).trans hv1;have c9:=(hB.cell (p:=⟨w.heap.size,9,none⟩) X1.lt).trans k9;have k1:(0:Int)<=(j:Int):=by omega
 have k2:(j:Int)<(nd:Int):=by omega
 have rv:=hrv'.below hB;have BB:=ab (Below.andThen B1 hB);have HR:=ab rv;obtain ⟨hr,hl,_,_⟩:=az rv;have zB:=B1.size;clear hat hdj hds hcs hrv hrv' B1 X1 p0 p1 hB rv;match av,hr,HR with
 | none,_,HR=>
  have hn:=fs HR.out;obtain ⟨hn0,hc0,hy0⟩:=hn;subst hc0;have hn0':ys.length=0:=hn0;rw [hn0'] at q1 hv1;have FO:=ab ((aC hO).widen (lo':=w.heap.size) zB (Nat.le_refl _));go_wp2_with (at_builtin;refine wpList_append_own_none rfl _ _ 42 rfl w1.heap.size 3 i0 1 Tryz.underlying42 hi _ 0 [] rfl hO rfl ?_)
  refine bodyPost_ret (v:=.tuple #[.slice (some ⟨w1.heap.size,0,none⟩) 0 0,.bool true]) (by simp [results,Tryz.results12,go_sem]) rfl ?_
  exact ⟨_,_,_,by rw [HK.out],by rw [HD.out,hy0];exact FO.out,BB.out⟩
 | some adr,hr,_=>
  go_wp2_with (at_builtin;refine cc .i64 rfl _ _ 42 rfl w1.heap.size 3 i0 (.int .i64 0) 8 Tryz.underlying42 hi hz0 hz1 hz2 rfl _ [] rfl hO adr ys.length cv ys rfl rfl hr (by unfold maxLen;simp;omega) (by simp;omega) (by simp) ?_;intro v' w2 ho1 hb1;obtain ⟨a1,c1,hv1',_⟩:=ho1.shape;rw [List.nil_append] at hv1' ho1;subst hv1')
  have FO:=ab ((aC ho1).widen (lo':=w.heap.size) zB (Nat.le_refl _));have FB:=ab (BB.out.trans (hb1.mono zB));refine bodyPost_ret (v:=.tuple #[.slice a1 ys.length c1,.bool true]) (by simp [results,Tryz.results12,go_sem]) rfl ?_
  exact ⟨_,_,_,by rw [HK.out],by rw [HD.out];exact FO.out,FB.out⟩
theorem eN {n s b:Int} (hg:bo n s=true) (hb:aU n s b=true):0<=ao n s b/\ao n s b<=s-1/\0<=aR n s b/\aR n s b<n-1:=by
 obtain ⟨g1,g2,g3,g4⟩:=ap.1 hg;have hb2:=hb;unfold aU bg at hb2;rw [if_pos hg] at hb2;have h3:=aP.1 hb2;unfold ao aR;rw [if_pos hb,if_pos hb];have h1:=Int.emod_nonneg b (show n-1≠0 by omega);have h2:=Int.emod_lt_of_pos b (show (0:Int)<n-1 by omega);have h5:b / (n-1)<s:=Int.ediv_lt_of_lt_mul (by omega) (by omega);have h4:0<=b / (n-1):=Int.ediv_nonneg h3.1 (by omega);exact ⟨h4,by omega,h1,h2⟩
theorem fW {x:aw} {ms:List ax} {ds:List EntD} {s:Int} (ha:aS x ms ds=true) (hk:ok8 x ms ds s=true):((cC x ms ds s).length:Int)=x.n-1:=by
 unfold aS dd at ha;simp only [Bool.and_eq_true] at ha
 obtain ⟨hg,_,_,he,_⟩:=ha;obtain ⟨g1,g2,_⟩:=ap.1 hg;rcases fg ds s with hat|⟨j,d,hat,hdj,_⟩
 . unfold ok8 at hk
   rw [if_pos hat] at hk;simp only [Bool.and_eq_true,Bool.not_eq_true'] at hk
   unfold cC cX;rw [if_pos hat,if_neg (by simp [hk.1]),if_pos hk.2,de];omega
 have h1:=cg.1 he j d hdj;unfold bJ at h1;simp only [Bool.and_eq_true,decide_eq_true_eq] at h1
 unfold cC;rw [if_neg (by omega),hat,Int.toNat_natCast,List.getD_eq_getElem?_getD,hdj];exact h1.2.1
def bu (x:aw) (ms:List ax) (ds:List (Int×List Int)) (b:Int):Int:=if da x ms ds=0 then (if aU x.n x.s b=true then 0 else 2) else da x ms ds
theorem iy {x:aw} {ms:List ax} {ds:List (Int×List Int)} (b:Int):dv x ms ds (ao x.n x.s b)=bu x ms ds b:=by
 unfold dv bu;by_cases h:da x ms ds=0
 . rw [if_pos h,if_pos h]
   have hg:=cW (eB h).1;by_cases hb:aU x.n x.s b=true
   . obtain ⟨h1,h2,_⟩:=eN hg hb
     rw [if_pos hb,if_pos];unfold aH;rw [hg,aP.2 ⟨h1,h2⟩];rfl
   rw [if_neg hb,if_neg];unfold aH ao;rw [if_neg hb,hg,Bool.true_and,aP];omega
 rw [if_neg h,if_neg h]
theorem gY {x:aw} {ms:List ax} {ds:List (Int×List Int)} {b:Int} (h:bu x ms ds b=0):da x ms ds=0/\aS x ms ds=true/\x.down=false/\aU x.n x.s b=true:=by
 unfold bu at h;by_cases ha:da x ms ds=0
 . rw [if_pos ha] at h
   by_cases hb:aU x.n x.s b=true
   . exact ⟨ha,(eB ha).1,(eB ha).2,hb⟩
   rw [if_neg hb] at h;omega
 rw [if_neg ha] at h;exact absurd h ha
def df (x:aw) (ms:List ax) (ds:List (Int×List Int)) (b:Int):Int:=if bu x ms ds b=0 then (if ok8 x ms ds (ao x.n x.s b)=true then 0 else 5) else bu x ms ds b
def dX (x:aw) (ms:List ax) (ds:List (Int×List Int)) (b:Int):Int:=if bu x ms ds b=0/\ok8 x ms ds (ao x.n x.s b)=true then (cC x ms ds (ao x.n x.s b)).getD (aR x.n x.s b).toNat 0 else 0
theorem eO (w:World) (E:TypeId) (a0 a1 a3:Option Addr) (n0 c0 n1 c1 n3 c3:Nat) (ss:List (List Int)) (cs:List (Int×List Int)) (f:Bool) (bs:List Int) (n:Int) (h0:bj.Rd w [.slice a0 n0 c0] ss) (h1:(aV E).Rd w [.slice a1 n1 c1] cs) (h3:aI.Rd w [.slice a3 n3 c3] bs) (hw:aF (ss,cs,f,bs)<=2097152):
 Calls Tryz.prog 117 #[.agg #[.slice a0 n0 c0,.slice a1 n1 c1,.bool f,.slice a3 n3 c3],.int .i64 n] w fun e w'=>∃a' l c',e=.returned (.tuple #[.slice a' l c',.bool (aK ss cs f bs n)])/\aI.Own w' w.heap.size w'.heap.size [.slice a' l c'] (aY ss cs f bs n)/\Below w.heap.size w w':=by
 have hA:=af w (.cells #[.slice a0 n0 c0,.slice a1 n1 c1,.bool f,.slice a3 n3 c3] 119);have X:=Box.new w 119 #[.slice a0 n0 c0,.slice a1 n1 c1,.bool f,.slice a3 n3 c3];have k0:=X.cell 0;have k1:=X.cell 1;have k2:=X.cell 2;have k3:=X.cell 3;have r0:=h0.below hA;have r1:=h1.below hA;have r3:=h3.below hA;have zA:=hA.size;go_enter Tryz.func117,Tryz.ntmps117
 go_wp2_with fail
 refine (eq _ E _ _ _ _ _ _ _ _ _ ss cs f bs n r0 r1 r3 hw).mono ?_
 rintro e w1 ⟨a',l,c',rfl,o1,b1⟩;have HO:=ab (o1.widen (lo':=w.heap.size) zA (Nat.le_refl _));have HB:=ab (Below.andThen hA b1);clear o1 b1 k0 k1 k2 k3 r0 r1 r3 X;go_wp2
 refine bodyPost_ret (v:=.tuple #[.slice a' l c',.bool (aK ss cs f bs n)]) (by simp [results,Tryz.results117,go_sem]) rfl ?_
 exact ⟨_,_,_,rfl,HO.out,HB.out⟩
theorem fY (w:World) (n:Int):Calls Tryz.prog 116 #[.agg #[],.int .i64 n] w fun e w'=>∃a' c',e=.returned (.tuple #[.slice a' 0 c',.bool false])/\Below w.heap.size w w':=by
 have hA:=(af w (.cells #[] 117)).alloc (by simp) (.cells #[] 3);go_enter Tryz.func116,Tryz.ntmps116
 go_wp2
 refine bodyPost_ret (v:=.tuple #[.slice (some ⟨w.heap.size+1,0,none⟩) 0 0,.bool false]) (by simp [results,Tryz.results116,go_sem]) rfl ?_
 exact ⟨_,_,rfl,hA⟩
theorem iP {x:aw} {ms:List ax} {j:Nat} {s:Int} {d:ax} (h:ms[j]?=some d):cz x ms (j:Int) s=(!d.2.2.1&&(!decide ((j:Int)=x.lost)||decide (s<x.jh))):=by
 have hj:=(List.getElem?_eq_some_iff.1 h).1;unfold cz;rw [show inB (j:Int) 0 ((ms.length:Int)-1)=true from aP.2 (by omega),Int.toNat_natCast,List.getD_eq_getElem?_getD,h];rfl
theorem iQ {ms:List ax} {j:Nat} {d:ax} (h:ms[j]?=some d):ek ms (j:Int)=d:=by unfold ek;rw [Int.toNat_natCast,List.getD_eq_getElem?_getD,h];rfl
theorem je {x:aw} {ms:List ax} {j:Nat} {s:Int} {ss:List (List Int)} {cs:List (Int×List Int)} {f:Bool} {bs:List Int} (h:ms[j]?=some (ss,cs,f,bs)):bA x ms (j:Int) s=(cz x ms (j:Int) s&&(aK ss cs f bs (bc s)&&decide ((aY ss cs f bs (bc s)).length=1)))/\(bA x ms (j:Int) s=true->bC x ms (j:Int) s=(aY ss cs f bs (bc s)).getD 0 0):=by
 have hm:=iQ h;have hsec:gF ms (j:Int) s=aY ss cs f bs (bc s):=by unfold gF;rw [hm]
 refine ⟨by unfold bA;rw [hsec,hm],fun h=>by rw [fS h,hsec]⟩
theorem eV (w:World) (x:aw) (ms:List ax) (j:Nat) (s:Int) (hd:bA x ms (j:Int) s=false):
 Calls Tryz.prog 79 #[.iface 117 (.agg #[]),.int .i64 s] w fun e w'=>e=.returned (.tuple #[.int .i64 (bC x ms (j:Int) s),.bool (bA x ms (j:Int) s)])/\Below w.heap.size w w':=by
 have na : ∀ w, Sem.run Tryz.prog (nilAhead (246 + 1) 117 (.agg #[]) "loop.example/g00398/impl.read") w = .ok (some false) w := fun w => by kernel_rfl
 have HD:=ab hd;clear hd;go_enter Tryz.func79,Tryz.ntmps79
 go_wp2_with fail
 refine wp_region_held_drew (S:=fun w'=>Below w.heap.size w w') (by kernel_rfl) ?_ (fun jg=>?_)
 . exact (Below.refl _ _).drew
 refine ak (i:=0) (v:=?_) rfl (by kernel_rfl) (by kernel_rfl) (by kernel_rfl) (fun _ _ _ h=>h) (by kernel_rfl) ?_ jg ?_
 rotate_left 1
 . (intro w hSw;(try dsimp only at hSw);go_split_ands;go_simp;first|done|with_reducible rfl)
 simp only [Act.put,List.setIfInBounds_toArray,List.set_cons_zero,List.set_cons_succ]
 refine ak (i:=1) (v:=?_) rfl (by kernel_rfl) (by kernel_rfl) (by kernel_rfl) (fun _ _ _ h=>h) (by kernel_rfl) ?_ jg ?_
 rotate_left 1
 . (intro w hSw;(try dsimp only at hSw);go_split_ands;go_simp;first|done|with_reducible rfl)
 simp only [Act.put,List.setIfInBounds_toArray,List.set_cons_zero,List.set_cons_succ]
 refine ak (i:=3) (v:=?_) rfl (by kernel_rfl) (by kernel_rfl) (by kernel_rfl) (fun _ _ _ h=>h) (by kernel_rfl) ?_ jg ?_
 rotate_left 1
 . (intro w hSw;(try dsimp only at hSw);go_split_ands;go_simp;first|done|with_reducible rfl)
 simp only [Act.put,List.setIfInBounds_toArray,List.set_cons_zero,List.set_cons_succ]
 refine ak (i:=4) (v:=?_) rfl (by kernel_rfl) (by kernel_rfl) (by kernel_rfl) (fun _ _ _ h=>h) (by kernel_rfl) ?_ jg ?_
 rotate_left 1
 . (intro w hSw;(try dsimp only at hSw);go_split_ands;go_simp;first|done|with_reducible rfl)
 simp only [Act.put,List.setIfInBounds_toArray,List.set_cons_zero,List.set_cons_succ]
 refine ak (i:=5) (v:=?_) rfl (by kernel_rfl) (by kernel_rfl) (by kernel_rfl) (fun _ _ _ h=>h) (by kernel_rfl) ?_ jg ?_
 rotate_left 1
 . (intro w hSw;(try dsimp only at hSw);go_split_ands;go_simp;first|done|with_reducible rfl)
 simp only [Act.put,List.setIfInBounds_toArray,List.set_cons_zero,List.set_cons_succ]
 refine ah (i:=2) (by kernel_rfl) rfl (by kernel_rfl) (fun K hK=>?_)
 go_simp
 refine (bU _ _).mono ?_
 rintro e w1 ⟨rfl,h1⟩;subst h1;go_wp2_with fail
 clear jg;refine hK.out _ _ ?_ (fun jg=>?_)
 . exact (Below.refl _ _).drew
 clear hK K;refine ah (i:=6) (by kernel_rfl) rfl (by kernel_rfl) (fun K hK=>?_)
 go_simp
 refine (fY _ _).mono ?_
 rintro e w2 ⟨a',c',rfl,b2⟩;have b2':Below w.heap.size w w2:=(Below.refl w.heap.size w).drew.trans b2;clear b2;go_wp2_with fail
 clear jg;refine hK.out _ _ ?_ (fun jg=>?_)
 . exact b2'
 clear hK K;refine ak (i:=7) (v:=?_) rfl (by kernel_rfl) (by kernel_rfl) (by kernel_rfl) (fun _ _ _ h=>h) (by kernel_rfl) ?_ jg ?_
 rotate_left 1
 . (intro w hSw;(try dsimp only at hSw);go_split_ands;go_simp;first|done|with_reducible rfl)
 simp only [Act.put,List.setIfInBounds_toArray,List.set_cons_zero,List.set_cons_succ]
 refine ak (i:=8) (v:=?_) rfl (by kernel_rfl) (by kernel_rfl) (by kernel_rfl) (fun _ _ _ h=>h) (by kernel_rfl) ?_ jg ?_
 rotate_left 1
 . (intro w hSw;(try dsimp only at hSw);go_split_ands;go_simp;first|done|with_reducible rfl)
 simp only [Act.put,List.setIfInBounds_toArray,List.set_cons_zero,List.set_cons_succ]
 refine ak (i:=9) (v:=?_) rfl (by kernel_rfl) (by kernel_rfl) (by kernel_rfl) (fun _ _ _ h=>h) (by kernel_rfl) ?_ jg ?_
 rotate_left 1
 . (intro w hSw;(try dsimp only at hSw);go_split_ands;go_simp;first|done|with_reducible rfl)
 simp only [Act.put,List.setIfInBounds_toArray,List.set_cons_zero,List.set_cons_succ]
 refine ak (i:=10) (v:=?_) rfl (by kernel_rfl) (by kernel_rfl) (by kernel_rfl) (fun _ _ _ h=>h) (by kernel_rfl) ?_ jg ?_
 rotate_left 1
 . (intro w hSw;(try dsimp only at hSw);go_split_ands;go_simp;first|done|with_reducible rfl)
 simp only [Act.put,List.setIfInBounds_toArray,List.set_cons_zero,List.set_cons_succ]
 refine ak (i:=11) (v:=?_) rfl (by kernel_rfl) (by kernel_rfl) (by kernel_rfl) (fun _ _ _ h=>h) (by kernel_rfl) ?_ jg ?_
 rotate_left 1
 . (intro w hSw;(try dsimp only at hSw);go_split_ands;go_simp;first|done|with_reducible rfl)
 simp only [Act.put,List.setIfInBounds_toArray,List.set_cons_zero,List.set_cons_succ]
 refine wpAnyH_done (by kernel_rfl) ?_ _
 clear jg;have HB:=ab b2';go_wp2
 refine bodyPost_ret (v:=.tuple #[.int .i64 0,.bool false]) (by simp [results,Tryz.results79,go_sem]) rfl ?_
 exact ⟨bV HD.out,HB.out⟩
theorem fZ (w:World) (E:TypeId) (x:aw) (ms:List ax) (j:Nat) (s:Int) (a0 a1 a3:Option Addr) (c0 c1 c3:Nat) (ss:List (List Int)) (cs:List (Int×List Int)) (bs:List Int) (h0:bj.Rd w [.slice a0 ss.length c0] ss) (h1:(aV E).Rd w [.slice a1 cs.length c1] cs) (h3:aI.Rd w [.slice a3 bs.length c3] bs) (hw:aF (ss,cs,false,bs)<=2097152) (hd:bA x ms (j:Int) s=(decide (s<x.jh)&&(aK ss cs false bs (bc s)&&decide ((aY ss cs false bs (bc s)).length=1)))) (hv:bA x ms (j:Int) s=true->bC x ms (j:Int) s=(aY ss cs false bs (bc s)).getD 0 0):
 Calls Tryz.prog 79 #[.iface 121 (.agg #[.slice a0 ss.length c0,.slice a1 cs.length c1,.bool false,.slice a3 bs.length c3,.int .i64 x.jh]),.int .i64 s] w fun e w'=>e=.returned (.tuple #[.int .i64 (bC x ms (j:Int) s),.bool (bA x ms (j:Int) s)])/\Below w.heap.size w w':=by
 have na : ∀ w, Sem.run Tryz.prog (nilAhead (246 + 1) 121 (.agg #[.slice a0 ss.length c0, .slice a1 cs.length c1, .bool false, .slice a3 bs.length c3, .int .i64 x.jh]) "loop.example/g00398/impl.read") w = .ok (some false) w := fun w => by kernel_rfl
 have HD:=ab hd;have HV:=ab hv;clear hd hv;go_enter Tryz.func79,Tryz.ntmps79
 go_wp2_with fail
 refine wp_region_held_drew (S:=fun w'=>Below w.heap.size w w') (by kernel_rfl) ?_ (fun jg=>?_)
 . exact (Below.refl _ _).drew
 refine ak (i:=0) (v:=?_) rfl (by kernel_rfl) (by kernel_rfl) (by kernel_rfl) (fun _ _ _ h=>h) (by kernel_rfl) ?_ jg ?_
 rotate_left 1
 . (intro w hSw;(try dsimp only at hSw);go_split_ands;go_simp;first|done|with_reducible rfl)
 simp only [Act.put,List.setIfInBounds_toArray,List.set_cons_zero,List.set_cons_succ]
 refine ak (i:=1) (v:=?_) rfl (by kernel_rfl) (by kernel_rfl) (by kernel_rfl) (fun _ _ _ h=>h) (by kernel_rfl) ?_ jg ?_
 rotate_left 1
 . (intro w hSw;(try dsimp only at hSw);go_split_ands;go_simp;first|done|with_reducible rfl)
 simp only [Act.put,List.setIfInBounds_toArray,List.set_cons_zero,List.set_cons_succ]
 refine ak (i:=3) (v:=?_) rfl (by kernel_rfl) (by kernel_rfl) (by kernel_rfl) (fun _ _ _ h=>h) (by kernel_rfl) ?_ jg ?_
 rotate_left 1
 . (intro w hSw;(try dsimp only at hSw);go_split_ands;go_simp;first|done|with_reducible rfl)
 simp only [Act.put,List.setIfInBounds_toArray,List.set_cons_zero,List.set_cons_succ]
 refine ak (i:=4) (v:=?_) rfl (by kernel_rfl) (by kernel_rfl) (by kernel_rfl) (fun _ _ _ h=>h) (by kernel_rfl) ?_ jg ?_
 rotate_left 1
 . (intro w hSw;(try dsimp only at hSw);go_split_ands;go_simp;first|done|with_reducible rfl)
 simp only [Act.put,List.setIfInBounds_toArray,List.set_cons_zero,List.set_cons_succ]
 refine ak (i:=5) (v:=?_) rfl (by kernel_rfl) (by kernel_rfl) (by kernel_rfl) (fun _ _ _ h=>h) (by kernel_rfl) ?_ jg ?_
 rotate_left 1
 . (intro w hSw;(try dsimp only at hSw);go_split_ands;go_simp;first|done|with_reducible rfl)
 simp only [Act.put,List.setIfInBounds_toArray,List.set_cons_zero,List.set_cons_succ]
 refine ah (i:=2) (by kernel_rfl) rfl (by kernel_rfl) (fun K hK=>?_)
 go_simp
 refine (bU _ _).mono ?_
 rintro e w1 ⟨rfl,h1⟩;subst h1;go_wp2_with fail
 clear jg;refine hK.out _ _ ?_ (fun jg=>?_)
 . exact (Below.refl _ _).drew
 clear hK K;refine ah (i:=6) (by kernel_rfl) rfl (by kernel_rfl) (fun K hK=>?_)
 go_simp
 refine (eO _ E _ _ _ _ _ _ _ _ _ ss cs false bs _ h0.drew h1.drew h3.drew hw).mono ?_
 rintro e w2 ⟨a',l,c',rfl,o2,b2⟩;have b2':Below w.heap.size w w2:=(Below.refl w.heap.size w).drew.trans b2;clear b2;go_wp2_with fail
 clear jg;refine hK.out _ _ ?_ (fun jg=>?_)
 . exact b2'
 clear hK K;refine ak (i:=7) (v:=?_) rfl (by kernel_rfl) (by kernel_rfl) (by kernel_rfl) (fun _ _ _ h=>h) (by kernel_rfl) ?_ jg ?_
 rotate_left 1
 . (intro w hSw;(try dsimp only at hSw);go_split_ands;go_simp;first|done|with_reducible rfl)
 simp only [Act.put,List.setIfInBounds_toArray,List.set_cons_zero,List.set_cons_succ]
 refine ak (i:=8) (v:=?_) rfl (by kernel_rfl) (by kernel_rfl) (by kernel_rfl) (fun _ _ _ h=>h) (by kernel_rfl) ?_ jg ?_
 rotate_left 1
 . (intro w hSw;(try dsimp only at hSw);go_split_ands;go_simp;first|done|with_reducible rfl)
 simp only [Act.put,List.setIfInBounds_toArray,List.set_cons_zero,List.set_cons_succ]
 refine ak (i:=9) (v:=?_) rfl (by kernel_rfl) (by kernel_rfl) (by kernel_rfl) (fun _ _ _ h=>h) (by kernel_rfl) ?_ jg ?_
 rotate_left 1
 . (intro w hSw;(try dsimp only at hSw);go_split_ands;go_simp;first|done|with_reducible rfl)
 simp only [Act.put,List.setIfInBounds_toArray,List.set_cons_zero,List.set_cons_succ]
 refine ak (i:=10) (v:=?_) rfl (by kernel_rfl) (by kernel_rfl) (by kernel_rfl) (fun _ _ _ h=>h) (by kernel_rfl) ?_ jg ?_
 rotate_left 1
 . (intro w hSw;(try dsimp only at hSw);go_split_ands;go_simp;first|done|with_reducible rfl)
 simp only [Act.put,List.setIfInBounds_toArray,List.set_cons_zero,List.set_cons_succ]
 refine ak (i:=11) (v:=?_) rfl (by kernel_rfl) (by kernel_rfl) (by kernel_rfl) (fun _ _ _ h=>h) (by kernel_rfl) ?_ jg ?_
 rotate_left 1
 . (intro w hSw;(try dsimp only at hSw);go_split_ands;go_simp;first|done|with_reducible rfl)
 simp only [Act.put,List.setIfInBounds_toArray,List.set_cons_zero,List.set_cons_succ]
 refine wpAnyH_done (by kernel_rfl) ?_ _
 clear jg;have HO:=ab o2;clear o2;cases hok:aK ss cs false bs (bc s)
 . have HF:Hid (bA x ms (j:Int) s=false):=by unfold Hid;rw [HD.out,hok];simp
   go_wp2
   refine bodyPost_ret (v:=.tuple #[.int .i64 0,.bool false]) (by simp [results,Tryz.results79,go_sem]) rfl ?_
   exact ⟨bV HF.out,b2'⟩
 go_wp2_with fail
 refine (gM _ _ _ _ _ _ _ _ _ _ _ _ _).mono ?_
 rintro e w3 ⟨rfl,b3⟩;have B3:=ab (Below.andThen b2' b3);have o3:=HO.out.below b3;clear b3;obtain ⟨hr,hln,_⟩:=az o3.rd;cases hbu:decide (s<x.jh)
 . have HF:Hid (bA x ms (j:Int) s=false):=by unfold Hid;rw [HD.out,hbu];rfl
   go_wp2
   refine bodyPost_ret (v:=.tuple #[.int .i64 0,.bool false]) (by simp [results,Tryz.results79,go_sem]) rfl ?_
   exact ⟨bV HF.out,B3.out⟩
 skip
 have HD2:Hid (bA x ms (j:Int) s=decide ((aY ss cs false bs (bc s)).length=1)):=by unfold Hid;rw [HD.out,hok,hbu];simp
 generalize hps:aY ss cs false bs (bc s)=ps at hr hln HD2 HV;have HPS:=ab hps;clear hps;by_cases h1:l=1
 . subst h1
   have hT:bA x ms (j:Int) s=true:=by rw [HD2.out,hln];rfl
   have hV:=HV.out hT;obtain ⟨y,rfl⟩:∃y,ps=[y]:=by match ps,hln with|[y],_=>exact ⟨y,rfl⟩
   rcases hr with h0'|⟨b,off,rfl,hbl,hrr⟩
   . simp at h0'
   have hc:w3.cell? ⟨b,off,none⟩=some (.int .i64 y):=hrr 0 (by simp);go_wp2
   refine bodyPost_ret (v:=.tuple #[.int .i64 y,.bool true]) (by simp [results,Tryz.results79,go_sem]) rfl ?_
   exact ⟨by rw [hV,hT];rfl,B3.out⟩
 have HF:Hid (bA x ms (j:Int) s=false):=by unfold Hid;rw [HD2.out,hln];simpa using h1
 have hl1:((l:Int)==1)=false:=by simp;omega
 have hl2:((l:Int) !=1)=true:=by simp;omega
 go_wp2
 refine bodyPost_ret (v:=.tuple #[.int .i64 0,.bool false]) (by simp [results,Tryz.results79,go_sem]) rfl ?_
 exact ⟨bV HF.out,B3.out⟩
theorem fA (w:World) (E:TypeId) (x:aw) (ms:List ax) (j:Nat) (s:Int) (a0 a1 a3:Option Addr) (c0 c1 c3:Nat) (ss:List (List Int)) (cs:List (Int×List Int)) (bs:List Int) (h0:bj.Rd w [.slice a0 ss.length c0] ss) (h1:(aV E).Rd w [.slice a1 cs.length c1] cs) (h3:aI.Rd w [.slice a3 bs.length c3] bs) (hw:aF (ss,cs,false,bs)<=2097152) (hd:bA x ms (j:Int) s=(true&&(aK ss cs false bs (bc s)&&decide ((aY ss cs false bs (bc s)).length=1)))) (hv:bA x ms (j:Int) s=true->bC x ms (j:Int) s=(aY ss cs false bs (bc s)).getD 0 0):
 Calls Tryz.prog 79 #[.iface 123 (.agg #[.slice a0 ss.length c0,.slice a1 cs.length c1,.bool false,.slice a3 bs.length c3]),.int .i64 s] w fun e w'=>e=.returned (.tuple #[.int .i64 (bC x ms (j:Int) s),.bool (bA x ms (j:Int) s)])/\Below w.heap.size w w':=by
 have na : ∀ w, Sem.run Tryz.prog (nilAhead (246 + 1) 123 (.agg #[.slice a0 ss.length c0, .slice a1 cs.length c1, .bool false, .slice a3 bs.length c3]) "loop.example/g00398/impl.read") w = .ok (some false) w := fun w => by kernel_rfl
 have HD:=ab hd;have HV:=ab hv;clear hd hv;go_enter Tryz.func79,Tryz.ntmps79
 go_wp2_with fail
 refine wp_region_held_drew (S:=fun w'=>Below w.heap.size w w') (by kernel_rfl) ?_ (fun jg=>?_)
 . exact (Below.refl _ _).drew
 refine ak (i:=0) (v:=?_) rfl (by kernel_rfl) (by kernel_rfl) (by kernel_rfl) (fun _ _ _ h=>h) (by kernel_rfl) ?_ jg ?_
 rotate_left 1
 . (intro w hSw;(try dsimp only at hSw);go_split_ands;go_simp;first|done|with_reducible rfl)
 simp only [Act.put,List.setIfInBounds_toArray,List.set_cons_zero,List.set_cons_succ]
 refine ak (i:=1) (v:=?_) rfl (by kernel_rfl) (by kernel_rfl) (by kernel_rfl) (fun _ _ _ h=>h) (by kernel_rfl) ?_ jg ?_
 rotate_left 1
 . (intro w hSw;(try dsimp only at hSw);go_split_ands;go_simp;first|done|with_reducible rfl)
 simp only [Act.put,List.setIfInBounds_toArray,List.set_cons_zero,List.set_cons_succ]
 refine ak (i:=3) (v:=?_) rfl (by kernel_rfl) (by kernel_rfl) (by kernel_rfl) (fun _ _ _ h=>h) (by kernel_rfl) ?_ jg ?_
 rotate_left 1
 . (intro w hSw;(try dsimp only at hSw);go_split_ands;go_simp;first|done|with_reducible rfl)
 simp only [Act.put,List.setIfInBounds_toArray,List.set_cons_zero,List.set_cons_succ]
 refine ak (i:=4) (v:=?_) rfl (by kernel_rfl) (by kernel_rfl) (by kernel_rfl) (fun _ _ _ h=>h) (by kernel_rfl) ?_ jg ?_
 rotate_left 1
 . (intro w hSw;(try dsimp only at hSw);go_split_ands;go_simp;first|done|with_reducible rfl)
 simp only [Act.put,List.setIfInBounds_toArray,List.set_cons_zero,List.set_cons_succ]
 refine ak (i:=5) (v:=?_) rfl (by kernel_rfl) (by kernel_rfl) (by kernel_rfl) (fun _ _ _ h=>h) (by kernel_rfl) ?_ jg ?_
 rotate_left 1
 . (intro w hSw;(try dsimp only at hSw);go_split_ands;go_simp;first|done|with_reducible rfl)
 simp only [Act.put,List.setIfInBounds_toArray,List.set_cons_zero,List.set_cons_succ]
 refine ah (i:=2) (by kernel_rfl) rfl (by kernel_rfl) (fun K hK=>?_)
 go_simp
 refine (bU _ _).mono ?_
 rintro e w1 ⟨rfl,h1⟩;subst h1;go_wp2_with fail
 clear jg;refine hK.out _ _ ?_ (fun jg=>?_)
 . exact (Below.refl _ _).drew
 clear hK K;refine ah (i:=6) (by kernel_rfl) rfl (by kernel_rfl) (fun K hK=>?_)
 go_simp
 refine (eO _ E _ _ _ _ _ _ _ _ _ ss cs false bs _ h0.drew h1.drew h3.drew hw).mono ?_
 rintro e w2 ⟨a',l,c',rfl,o2,b2⟩;have b2':Below w.heap.size w w2:=(Below.refl w.heap.size w).drew.trans b2;clear b2;go_wp2_with fail
 clear jg;refine hK.out _ _ ?_ (fun jg=>?_)
 . exact b2'
 clear hK K;refine ak (i:=7) (v:=?_) rfl (by kernel_rfl) (by kernel_rfl) (by kernel_rfl) (fun _ _ _ h=>h) (by kernel_rfl) ?_ jg ?_
 rotate_left 1
 . (intro w hSw;(try dsimp only at hSw);go_split_ands;go_simp;first|done|with_reducible rfl)
 simp only [Act.put,List.setIfInBounds_toArray,List.set_cons_zero,List.set_cons_succ]
 refine ak (i:=8) (v:=?_) rfl (by kernel_rfl) (by kernel_rfl) (by kernel_rfl) (fun _ _ _ h=>h) (by kernel_rfl) ?_ jg ?_
 rotate_left 1
 . (intro w hSw;(try dsimp only at hSw);go_split_ands;go_simp;first|done|with_reducible rfl)
 simp only [Act.put,List.setIfInBounds_toArray,List.set_cons_zero,List.set_cons_succ]
 refine ak (i:=9) (v:=?_) rfl (by kernel_rfl) (by kernel_rfl) (by kernel_rfl) (fun _ _ _ h=>h) (by kernel_rfl) ?_ jg ?_
 rotate_left 1
 . (intro w hSw;(try dsimp only at hSw);go_split_ands;go_simp;first|done|with_reducible rfl)
 simp only [Act.put,List.setIfInBounds_toArray,List.set_cons_zero,List.set_cons_succ]
 refine ak (i:=10) (v:=?_) rfl (by kernel_rfl) (by kernel_rfl) (by kernel_rfl) (fun _ _ _ h=>h) (by kernel_rfl) ?_ jg ?_
 rotate_left 1
 . (intro w hSw;(try dsimp only at hSw);go_split_ands;go_simp;first|done|with_reducible rfl)
 simp only [Act.put,List.setIfInBounds_toArray,List.set_cons_zero,List.set_cons_succ]
 refine ak (i:=11) (v:=?_) rfl (by kernel_rfl) (by kernel_rfl) (by kernel_rfl) (fun _ _ _ h=>h) (by kernel_rfl) ?_ jg ?_
 rotate_left 1
 . (intro w hSw;(try dsimp only at hSw);go_split_ands;go_simp;first|done|with_reducible rfl)
 simp only [Act.put,List.setIfInBounds_toArray,List.set_cons_zero,List.set_cons_succ]
 refine wpAnyH_done (by kernel_rfl) ?_ _
 clear jg;have HO:=ab o2;clear o2;cases hok:aK ss cs false bs (bc s)
 . have HF:Hid (bA x ms (j:Int) s=false):=by unfold Hid;rw [HD.out,hok];simp
   go_wp2
   refine bodyPost_ret (v:=.tuple #[.int .i64 0,.bool false]) (by simp [results,Tryz.results79,go_sem]) rfl ?_
   exact ⟨bV HF.out,b2'⟩
 go_wp2_with fail
 refine (fX _ _ _ _ _ _ _ _ _ _ _ _).mono ?_
 rintro e w3 ⟨rfl,b3⟩;have B3:=ab (Below.andThen b2' b3);have o3:=HO.out.below b3;clear b3;obtain ⟨hr,hln,_⟩:=az o3.rd;have HD2:Hid (bA x ms (j:Int) s=decide ((aY ss cs false bs (bc s)).length=1)):=by unfold Hid;rw [HD.out,hok];simp
 generalize hps:aY ss cs false bs (bc s)=ps at hr hln HD2 HV;have HPS:=ab hps;clear hps;by_cases h1:l=1
 . subst h1
   have hT:bA x ms (j:Int) s=true:=by rw [HD2.out,hln];rfl
   have hV:=HV.out hT;obtain ⟨y,rfl⟩:∃y,ps=[y]:=by match ps,hln with|[y],_=>exact ⟨y,rfl⟩
   rcases hr with h0'|⟨b,off,rfl,hbl,hrr⟩
   . simp at h0'
   have hc:w3.cell? ⟨b,off,none⟩=some (.int .i64 y):=hrr 0 (by simp);go_wp2
   refine bodyPost_ret (v:=.tuple #[.int .i64 y,.bool true]) (by simp [results,Tryz.results79,go_sem]) rfl ?_
   exact ⟨by rw [hV,hT];rfl,B3.out⟩
 have HF:Hid (bA x ms (j:Int) s=false):=by unfold Hid;rw [HD2.out,hln];simpa using h1
 have hl1:((l:Int)==1)=false:=by simp;omega
 have hl2:((l:Int) !=1)=true:=by simp;omega
 go_wp2
 refine bodyPost_ret (v:=.tuple #[.int .i64 0,.bool false]) (by simp [results,Tryz.results79,go_sem]) rfl ?_
 exact ⟨bV HF.out,B3.out⟩
end Go.Proofs.YtfimpohbpccjaaaGreat

/-
 The specification's CanLose walked. Condition: the array weighs at most 2097152.
-/
import Derived.Test.YtejokiafgbjdaaaGreatRowFailsBentSq27
import Derived.Test.YtejokiafgbjdaaaGreatRowFailsBentSq17
import Derived.Test.YtejokiafgbjdaaaGreatRowFailsBentSq26
import Derived.Test.YtejokiafgbjdaaaGreatRowFailsBentSq6
import Derived.Test.YtejokiafgbjdaaaGreatRowFailsBentSq10
import Derived.Test.YtejokiafgbjdaaaGreatRowFailsBentSq24

set_option maxRecDepth 100000
set_option maxHeartbeats 8000000
set_option linter.unusedSimpArgs false

namespace Go.Proofs.YtejokiafgbjdaaaGreat
open Go.RowKit

theorem jR {e:aE}:∀(ds L:List aE),(∀d∈ds,¬d.1=e.1)->ds.foldl (eS e) (L,true)=(L++ds,true)
 | [],L,_=>by simp
 | d :: ds,L,h=>by
  rw [List.foldl_cons,rE (h d List.mem_cons_self),jR ds _ (fun d hd=>h d (List.mem_cons_of_mem _ hd))];simp
theorem nE {e:aE}:∀(ds L:List aE),(∀d∈ds,d.1<e.1)->ds.foldl (eS e) (L,false)=(L++ds,false)
 | [],L,_=>by simp
 | d :: ds,L,h=>by
  have h1:=h d List.mem_cons_self;rw [List.foldl_cons,rB (by omega) (by omega),nE ds _ (fun d hd=>h d (List.mem_cons_of_mem _ hd))];simp
theorem tw {ds:List aE} {k:Nat} {d:aE} (h:d∈ds.drop k):∃i,k<=i/\ds[i]?=some d:=by
 obtain ⟨i,hi⟩:=List.mem_iff_getElem?.1 h;rw [List.getElem?_drop] at hi;exact ⟨k+i,by omega,hi⟩
theorem pA {ds:List aE} {k:Nat} {d:aE} (h:d∈ds.take k):∃i,i<k/\ds[i]?=some d:=by
 obtain ⟨i,hi⟩:=List.mem_iff_getElem?.1 h;rw [List.getElem?_take] at hi;split at hi
 . exact ⟨i,by assumption,hi⟩
 simp at hi
theorem uv {ds:List aE} {t:Int} {ys:List Int} {k:Nat} {r:Bool} (ha:Asc8 ds) (h:Spot ds t k r):kP ds (t,ys)=ds.take k++[(t,ys)]++ds.drop (if r=true then k+1 else k):=by
 obtain ⟨h1,h2,h3,h4⟩:=h;have hq:fu ds (t,ys) ds.length=(ds.drop k).foldl (eS (t,ys)) (ds.take k,false):=by
  unfold fu;rw [List.take_of_length_le (Nat.le_refl _)];conv=>lhs;rw [←List.take_append_drop k ds]
  rw [List.foldl_append,nE (ds.take k) [] (fun d hd=>by obtain ⟨i,hi,hd⟩:=pA hd;exact h2 i d hi hd)];simp
 unfold kP;rw [hq];rcases h4 with ⟨rfl,d,hk,hdt⟩|⟨rfl,hk⟩
 . have hkl:=(List.getElem?_eq_some_iff.1 hk).1
   have hdr:ds.drop k=d :: ds.drop (k+1):=by
    rw [List.drop_eq_getElem_cons hkl];have:=(List.getElem?_eq_some_iff.1 hk).2;rw [this]
   rw [hdr,List.foldl_cons,ru (by show t<=d.1;omega) hdt,jR _ _ (fun d' hd' h'=>by
    obtain ⟨i,hi,hd'⟩:=tw hd';have:=ha.1 k i d d' (by omega) hk hd';have:d'.1=t:=h';omega)]
   simp
 cases hdr:ds.drop k with
 | nil=>simp [hdr]
 | cons d l=>
  have hd:d∈ds.drop k:=by rw [hdr];exact List.mem_cons_self
  have hkd:ds[k]?=some d:=by
   have:(ds.drop k)[0]?=some d:=by rw [hdr];rfl
   rwa [List.getElem?_drop] at this
  have a1:=h3 k d (Nat.le_refl _) hkd;have a2:=hk d hkd;rw [List.foldl_cons,ry (by show t<=d.1;exact a1) a2,jR _ _ (fun d' hd' h'=>by
   obtain ⟨i,hi,hd'⟩:=tw (show d'∈ds.drop k by rw [hdr];exact List.mem_cons_of_mem _ hd');have:=h3 i d' hi hd';have h'':d'.1=t:=h';by_cases hik:i=k
   . subst hik
     exact hk d' hd' h''
   have:=ha.1 k i d d' (by omega) hkd hd';omega)]
  simp [hdr]
theorem uw {ds:List aE} (ha:Asc8 ds) (t:Int):∃k r,Spot ds t k r:=by
 have h:∀m,m<=ds.length->(∃k,k<=m/\(∀(i:Nat) (e:aE),i<k->ds[i]?=some e->e.1<t)/\(∀(i:Nat) (e:aE),k<=i->i<m->ds[i]?=some e->t<=e.1)):=by
  intro m;induction m with
  | zero=>intro _;exact ⟨0,Nat.le_refl _,fun i e hi=>by omega,fun i e _ hi=>by omega⟩
  | succ m ih=>
   intro hm;obtain ⟨k,hk,h1,h2⟩:=ih (by omega);have hmm:=List.getElem?_eq_getElem (show m<ds.length by omega);by_cases hlt:(ds[m]'(by omega)).1<t
   . refine ⟨m+1,Nat.le_refl _,fun i e hi he=>?_,fun i e h3 h4=>by omega⟩
     by_cases him:i=m
     . subst him
       rw [hmm] at he;simp at he
       rw [←he];exact hlt
     have:=ha.1 i m e _ (by omega) he hmm;omega
   refine ⟨k,by omega,h1,fun i e h3 h4 he=>?_⟩
   by_cases him:i=m
   . subst him
     rw [hmm] at he;simp at he
     rw [←he];omega
   exact h2 i e h3 (by omega) he
 obtain ⟨k,hk,h1,h2⟩:=h ds.length (Nat.le_refl _);have h3:∀(i:Nat) (e:aE),k<=i->ds[i]?=some e->t<=e.1:=fun i e hi he=>h2 i e hi (List.getElem?_eq_some_iff.1 he).1 he;cases hkd:ds[k]? with
 | none=>exact ⟨k,false,hk,h1,h3,.inr ⟨rfl,fun e he=>by rw [hkd] at he;cases he⟩⟩
 | some d=>
  by_cases hd:d.1=t
  . exact ⟨k,true,hk,h1,h3,.inl ⟨rfl,d,hkd,hd⟩⟩
  exact ⟨k,false,hk,h1,h3,.inr ⟨rfl,fun e he=>by rw [hkd] at he;cases he;exact hd⟩⟩
def ok8 (x:al) (ms:List ai) (ds:List (Int×List Int)) (s:Int):Bool:=if at8 ds s=-1 then !x.uH&&cQ x ms s else true
def iV (x:al) (ms:List ai) (ds:List (Int×List Int)) (s:Int):List Int:=if at8 ds s=-1 then (if x.uH=true then [] else gT x ms s) else (ds.getD (at8 ds s).toNat (0,[])).2
theorem oD (w:World) (E F G:TypeId) (x:al) (am ad:Option Addr) (nm cm nd cd:Nat) (ms:List ai) (ds:List (Int×List Int)) (s:Int) (h0:(bk E F).Rd w [.slice am nm cm] ms) (h1:(aU G).Rd w [.slice ad nd cd] ds) (hw:aM ms ds<=2097152) (hg:bI x.n x.s=true) (ht:inB s 0 (x.s-1)=true):
 Calls Tryz.prog 51 #[.agg #[.int .i64 x.id,.int .i64 x.n,.int .i64 x.s,.slice am nm cm,.int .i64 x.lost,.int .i64 x.uG,.int .i64 x.seq,.int .i64 x.tail,.int .i64 x.gen,.slice ad nd cd,.int .i64 x.uI,.bool x.down,.bool x.uH],.int .i64 s] w fun e w'=>∃a' l' c',e=.returned (.tuple #[.slice a' l' c',.bool (ok8 x ms ds s)])/\aA.Own w' w.heap.size w'.heap.size [.slice a' l' c'] (iV x ms ds s)/\Below w.heap.size w w':=by
 obtain ⟨i0,hi,hz0,hz1,hz2⟩:=info_parts Tryz.info3;have hwm:aK ms<=2097152:=by unfold aM at hw;omega
 have hwd:aY ds<=2097152:=by unfold aM at hw;omega
 obtain ⟨hl1,_,_⟩:=ae h1;have hnd:nd<=2097152:=by unfold aY at hwd;omega
 have hA:=ah w (.cells #[.int .i64 x.id,.int .i64 x.n,.int .i64 x.s,.slice am nm cm,.int .i64 x.lost,.int .i64 x.uG,.int .i64 x.seq,.int .i64 x.tail,.int .i64 x.gen,.slice ad nd cd,.int .i64 x.uI,.bool x.down,.bool x.uH] 29);have X0:=Box.new w 29 #[.int .i64 x.id,.int .i64 x.n,.int .i64 x.s,.slice am nm cm,.int .i64 x.lost,.int .i64 x.uG,.int .i64 x.seq,.int .i64 x.tail,.int .i64 x.gen,.slice ad nd cd,.int .i64 x.uI,.bool x.down,.bool x.uH];have zX:=X0.lt;have r0:=h0.below hA;have r1:=h1.below hA;obtain ⟨k0,k1,k2,k3,k4,k5,k6,k7,k8,k9,k10,k11,k12⟩:=X0.cells13;go_enter Tryz.func51,Tryz.ntmps51
 go_wp2_with fail
 generalize w.alloc (.cells #[.int .i64 x.id,.int .i64 x.n,.int .i64 x.s,.slice am nm cm,.int .i64 x.lost,.int .i64 x.uG,.int .i64 x.seq,.int .i64 x.tail,.int .i64 x.gen,.slice ad nd cd,.int .i64 x.uI,.bool x.down,.bool x.uH] 29)=W at hA X0 zX r0 r1 k0 k1 k2 k3 k4 k5 k6 k7 k8 k9 k10 k11 k12 ⊢;refine (oX _ G x _ _ _ _ _ _ ds s r1 hnd).mono ?_
 rintro e w1 ⟨rfl,b1⟩;have X1:=X0.below b1 zX;have p0:=r0.below b1;have p1:=r1.below b1;have B1:=Below.andThen hA b1;clear k0 k1 k2 k3 k4 k5 k6 k7 k8 k9 k10 k11 k12 X0 r0 r1 b1 hA zX;obtain ⟨k0,k1,k2,k3,k4,k5,k6,k7,k8,k9,k10,k11,k12⟩:=X1.cells13;rcases gy ds s with hat|⟨j,d,hat,hdj,hds⟩
 . have HK:Hid (ok8 x ms ds s=(!x.uH&&cQ x ms s)):=by unfold Hid ok8;rw [if_pos hat]
   have HD:Hid (iV x ms ds s=if x.uH=true then [] else gT x ms s):=by unfold Hid iV;rw [if_pos hat]
   rw [hat];clear hat;cases hbr:x.uH
   . have HK2:Hid (ok8 x ms ds s=cQ {x with uH:=false} ms s):=by unfold Hid;rw [HK.out,hbr];rfl
     have HD2:Hid (iV x ms ds s=gT {x with uH:=false} ms s):=by unfold Hid;rw [HD.out,hbr,if_neg (by simp)];rfl
     rw [hbr] at k12;clear hbr HK HD;go_wp2_with fail
     refine (qz _ E F {x with uH:=false} _ _ _ _ _ _ ms s p0 hwm hg ht).mono ?_
     rintro e w2 ⟨a2,l2,c2,rfl,o2,b2⟩;have HO:=aa (o2.widen (lo':=w.heap.size) (hi':=w2.heap.size) B1.size (Nat.le_refl _));have HB:=aa (Below.andThen B1 b2);clear o2 b2 B1 X1 p0 p1 k0 k1 k2 k3 k4 k5 k6 k7 k8 k9 k10 k11 k12;go_wp2
     refine bodyPost_ret (v:=.tuple #[.slice a2 l2 c2,.bool (cQ {x with uH:=false} ms s)]) (by simp [results,Tryz.results51,go_sem]) rfl ?_
     exact ⟨a2,l2,c2,by rw [HK2.out],by rw [HD2.out];exact HO.out,HB.out⟩
   have HK2:Hid (ok8 x ms ds s=false):=by unfold Hid;rw [HK.out,hbr];rfl
   have HD2:Hid (iV x ms ds s=[]):=by unfold Hid;rw [HD.out,hbr,if_pos rfl]
   rw [hbr] at k12;clear hbr HK HD;have HO:=aa ((bh (br.lit .i64 3 w1 [] 0 #[] rfl rfl (by unfold maxLen;omega))).widen (lo':=w.heap.size) B1.size (Nat.le_refl _));have HB:=aa (Below.andThen B1 (ah w1 (.cells #[] 3)));clear B1 X1 p0 p1;go_wp2
   refine bodyPost_ret (v:=.tuple #[.slice (some ⟨w1.heap.size,0,none⟩) 0 0,.bool false]) (by simp [results,Tryz.results51,go_sem]) rfl ?_
   exact ⟨_,_,_,by rw [HK2.out],by rw [HD2.out];exact HO.out,HB.out⟩
 have HK:Hid (ok8 x ms ds s=true):=by unfold Hid ok8;rw [if_neg (by omega)]
 have HD:Hid (iV x ms ds s=d.2):=by unfold Hid iV;rw [if_neg (by omega),hat,Int.toNat_natCast,List.getD_eq_getElem?_getD,hdj];rfl
 have hjl:=(List.getElem?_eq_some_iff.1 hdj).1;have hil:=bV hdj;rcases cO rfl p1 with h9|⟨b,off,rfl,hbl,hcs⟩
 . omega
 obtain ⟨u0,u1,hv0,hv1,hrv⟩:=hcs j d hdj;obtain ⟨rfl,hrv'⟩:=eB hrv;obtain ⟨av,cv,rfl⟩:=aw hrv';rw [hat];obtain ⟨y,ys⟩:=d;simp only at hv0 hv1 hrv' hil HD
 have hB:=ah w1 (.cells #[] 3);have hO:br .i64 3 (w1.alloc (.cells #[] 3)) w1.heap.size (.slice (some ⟨w1.heap.size,0,none⟩) 0 0) []:=br.lit .i64 3 w1 [] 0 #[] rfl rfl (by unfold maxLen;omega);have q0:=(hB.cell (p:=⟨b,off+j*2,none⟩) hbl).trans hv0;have q1:=(hB.cell (p:=⟨b,off+j*2+1,none⟩) hbl).trans hv1;have c9:=(hB.cell (p:=⟨w.heap.size,9,none⟩) X1.lt).trans k9;have k1:(0:Int)<=(j:Int):=by omega
 have k2:(j:Int)<(nd:Int):=by omega
 have rv:=hrv'.below hB;have BB:=aa (Below.andThen B1 hB);have HR:=aa rv;obtain ⟨hr,hl,_,_⟩:=aO rv;have zB:=B1.size;clear hat hdj hds hcs hrv hrv' B1 X1 p0 p1 hB rv;match av,hr,HR with
 | none,_,HR=>
  have hn:=lg HR.out;obtain ⟨hn0,hc0,hy0⟩:=hn;subst hc0;have hn0':ys.length=0:=hn0;rw [hn0'] at q1 hv1;have FO:=aa ((bh hO).widen (lo':=w.heap.size) zB (Nat.le_refl _));go_wp2_with (at_builtin;refine wpList_append_own_none rfl _ _ 52 rfl w1.heap.size 3 i0 1 Tryz.underlying52 hi _ 0 [] rfl hO rfl ?_)
  refine bodyPost_ret (v:=.tuple #[.slice (some ⟨w1.heap.size,0,none⟩) 0 0,.bool true]) (by simp [results,Tryz.results51,go_sem]) rfl ?_
  exact ⟨_,_,_,by rw [HK.out],by rw [HD.out,hy0];exact FO.out,BB.out⟩
 | some adr,hr,_=>
  go_wp2_with (at_builtin;refine cY .i64 rfl _ _ 52 rfl w1.heap.size 3 i0 (.int .i64 0) 8 Tryz.underlying52 hi hz0 hz1 hz2 rfl _ [] rfl hO adr ys.length cv ys rfl rfl hr (by unfold maxLen;simp;omega) (by simp;omega) (by simp) ?_;intro v' w2 ho1 hb1;obtain ⟨a1,c1,hv1',_⟩:=ho1.shape;rw [List.nil_append] at hv1' ho1;subst hv1')
  have FO:=aa ((bh ho1).widen (lo':=w.heap.size) zB (Nat.le_refl _));have FB:=aa (BB.out.trans (hb1.mono zB));refine bodyPost_ret (v:=.tuple #[.slice a1 ys.length c1,.bool true]) (by simp [results,Tryz.results51,go_sem]) rfl ?_
  exact ⟨_,_,_,by rw [HK.out],by rw [HD.out];exact FO.out,FB.out⟩
def nH (x:al) (ms:List ai) (ds:List aE) (b n:Int):List aE:=if ok8 x ms ds (cC x.n x.s b)=true then kP ds (cC x.n x.s b,(iV x ms ds (cC x.n x.s b)).set (fE x.n x.s b).toNat n) else ds
def rF (x:al) (ms:List ai) (ds:List aE) (b:Int):Int:=if ok8 x ms ds (cC x.n x.s b)=true then 0 else 5
theorem pC {n s b:Int} (hg:bI n s=true) (hb:cZ n s b=true):0<=cC n s b/\cC n s b<=s-1/\0<=fE n s b/\fE n s b<n-1:=by
 obtain ⟨g1,g2,g3,g4⟩:=az.1 hg;have hb2:=hb;unfold cZ bf at hb2;rw [if_pos hg] at hb2;have h3:=aG.1 hb2;unfold cC fE;rw [if_pos hb,if_pos hb];have h1:=Int.emod_nonneg b (show n-1≠0 by omega);have h2:=Int.emod_lt_of_pos b (show (0:Int)<n-1 by omega);have h5:b / (n-1)<s:=Int.ediv_lt_of_lt_mul (by omega) (by omega);have h4:0<=b / (n-1):=Int.ediv_nonneg h3.1 (by omega);exact ⟨h4,by omega,h1,h2⟩
theorem pD {x:al} {ms:List ai} {ds:List aE} {s:Int} (ha:aX x ms ds=true) (hk:ok8 x ms ds s=true):((iV x ms ds s).length:Int)=x.n-1:=by
 unfold aX dU at ha;simp only [Bool.and_eq_true] at ha
 obtain ⟨hg,_,_,he,_⟩:=ha;obtain ⟨g1,g2,_⟩:=az.1 hg;rcases gy ds s with hat|⟨j,d,hat,hdj,_⟩
 . unfold ok8 at hk
   rw [if_pos hat] at hk;simp only [Bool.and_eq_true,Bool.not_eq_true'] at hk
   unfold iV gT;rw [if_pos hat,if_neg (by simp [hk.1]),if_pos hk.2,jS];omega
 have h1:=dj.1 he j d hdj;unfold cW at h1;simp only [Bool.and_eq_true,decide_eq_true_eq] at h1
 unfold iV;rw [if_neg (by omega),hat,Int.toNat_natCast,List.getD_eq_getElem?_getD,hdj];exact h1.2.1
theorem se (w:World) (B:Nat) (x:al) (ms:List ai) (ds:List aE) (fm fd:List Nat) (h:aD w B x ms ds fm fd) (ha:aX x ms ds=true) (hw:aM ms ds<=2097152) (hl:ds.length<=500000) (b n:Int) (hb:cZ x.n x.s b=true):
 Calls Tryz.prog 60 #[.pointer (some ⟨B,0,none⟩),.int .i64 b,.int .i64 n] w fun e w'=>e=.returned (.int .i64 (rF x ms ds b))/\∃fd',aD w' B x ms (nH x ms ds b n) fm fd'/\aq (B :: fd) w w'/\∀b∈fd',b∈fd∨w.heap.size<=b:=by
 have hg:bI x.n x.s=true:=by
  unfold aX at ha;simp only [Bool.and_eq_true] at ha
  exact ha.1
 obtain ⟨s1,s2,i1,i2⟩:=pC hg hb;have hdl:=fun hk=>pD (s:=cC x.n x.s b) ha hk;have HV:Hid (nH x ms ds b n=if ok8 x ms ds (cC x.n x.s b)=true then kP ds (cC x.n x.s b,(iV x ms ds (cC x.n x.s b)).set (fE x.n x.s b).toNat n) else ds):=rfl;have HC:Hid (rF x ms ds b=if ok8 x ms ds (cC x.n x.s b)=true then 0 else 5):=rfl;have ht:inB (cC x.n x.s b) 0 (x.s-1)=true:=aG.2 ⟨s1,s2⟩;have HA:=aa h;have hlB:=h.lt;have hlm:=h.ltm;obtain ⟨bm,bd,cm,cd,X,hm,hd,hr,r1,r2⟩:=h;unfold aC at X;obtain ⟨k0,k1,k2,k3,k4,k5,k6,k7,k8,k9,k10,k11,k12⟩:=X.cells13;have HM:=aa hm.rd;have HD:=aa hd.rd;have HX:=aa X;clear X hm hd hr r1 r2 ha;go_enter Tryz.func60,Tryz.ntmps60
 go_wp2_with fail
 refine (jN _ x.n x.s b).mono ?_
 rintro e w1 ⟨rfl,b1⟩;have X1:=HX.out.below b1 hlB;have m1:=HM.out.below b1;have d1:=HD.out.below b1;have z1:=b1.size;clear k0 k1 k2 k3 k4 k5 k6 k7 k8 k9 k10 k11 k12;obtain ⟨k0,k1,k2,k3,k4,k5,k6,k7,k8,k9,k10,k11,k12⟩:=X1.cells13;generalize hS:cC x.n x.s b=s at hdl HV HC ht s1 s2 ⊢;clear hS;go_wp2_with fail
 refine (oD _ 142 78 61 x _ _ _ _ _ _ ms ds s m1 d1 hw hg ht).mono ?_
 rintro e w2 ⟨a2,l2,c2,rfl,o2,b2⟩;have X2:=X1.below b2 (by omega);have B2:=Below.andThen b1 b2;have z2:=b2.size;clear k0 k1 k2 k3 k4 k5 k6 k7 k8 k9 k10 k11 k12 X1 m1 d1 b1 b2;cases hok:ok8 x ms ds s
 . have HV2:Hid (nH x ms ds b n=ds/\rF x ms ds b=5):=by unfold Hid;rw [HV.out,HC.out,hok];exact ⟨rfl,rfl⟩
   have HA2:=aa (HA.out.below B2);have HT:=aa (aq.ofBelow B2 (B :: fd));clear hok B2 o2 X2;go_wp2
   go_ret
   refine ⟨aP HV2.out.2.symm,fd,?_,HT.out,fun b hb=>.inl hb⟩
   rw [HV2.out.1];exact HA2.out
 have HV2:Hid (nH x ms ds b n=kP ds (s,(iV x ms ds s).set (fE x.n x.s b).toNat n)/\rF x ms ds b=0):=by unfold Hid;rw [HV.out,HC.out,hok];exact ⟨rfl,rfl⟩
 have hlen:=hdl hok;clear hok hdl;obtain ⟨rfl,_⟩:=ae o2.rd;obtain ⟨fe,me,re⟩:=o2.mine;obtain ⟨k0,k1,k2,k3,k4,k5,k6,k7,k8,k9,k10,k11,k12⟩:=X2.cells13;go_wp2_with fail
 refine (kT _ x.n x.s b).mono ?_
 rintro e w3 ⟨rfl,b3⟩;have B3:=Below.andThen B2 b3;have m3:=me.below b3;have z3:=b3.size;generalize fE x.n x.s b=ix at i1 i2 HV2 ⊢;obtain ⟨i,rfl⟩:=Int.eq_ofNat_of_zero_le i1;rw [Int.toNat_natCast] at HV2;generalize iV x ms ds s=zs at m3 me hlen HV2 ⊢;have hil:i<zs.length:=by omega
 obtain ⟨g,rfl⟩:=bG m3 (by omega);obtain ⟨⟨old,ho⟩,fz,hgf,fe',ms',rs'⟩:=gx (t:=eo) (v:=.int .i64 n) (x:=n) (f:=[]) rfl m3 hil ⟨⟨rfl,rfl⟩,by simp⟩ (by simp);have i3:(i:Int)<(zs.length:Int):=by omega
 have BS:Below w.heap.size w (w3.setCell ⟨g,i,none⟩ (.int .i64 n)):=B3.setCell (show w.heap.size<=g by have:=(re g hgf).1;omega) _;have re2:∀b∈fe',w.heap.size<=b:=fun b hb=>by
  rcases rs' b hb with h|h
  . have:=(re b h).1;omega
  simp at h
 have HA3:=aa (HA.out.below BS);have HP:=aa (sb _ B x ms ds fm fd HA3.out s (some ⟨g,0,none⟩) c2 (zs.set i n) fe' (by rw [List.length_set];exact ms') (fun hm=>by have:=re2 _ hm;omega) (fun b hb hm=>by have h1:=re2 b hb;have h2:=hlm.1 b hm;omega) (fun b hb hm=>by have h1:=re2 b hb;have h2:=hlm.2 b hm;omega) hl);rw [List.length_set] at HP;have HBS:=aa BS;have RE:=aa re2;clear k0 k1 k2 k3 k4 k5 k6 k7 k8 k9 k10 k11 k12 X2 me re B2 b3 B3 m3 ms' rs' BS o2 re2 HM HD HX HA;go_wp2_with fail
 refine HP.out.mono ?_
 rintro e w5 ⟨rfl,fd5,hA5,hT5,hf5⟩;have HA5:=aa hA5;have HT:Hid (aq (B :: fd) w w5):=⟨hT5.os.trans HBS.out.os,hT5.tape.trans HBS.out.tape,hT5.output.trans HBS.out.output,Nat.le_trans HBS.out.size hT5.size,fun k hk hn=>by
  rw [hT5.block k (Nat.lt_of_lt_of_le hk HBS.out.size) (fun hm=>by
   rcases List.mem_cons.1 hm with e|hm
   . exact hn (by rw [e];exact List.mem_cons_self)
   rcases List.mem_append.1 hm with hm|hm
   . exact hn (List.mem_cons_of_mem _ hm)
   have:=RE.out k hm;omega),HBS.out.block k hk]⟩
 have HF:Hid (∀b∈fd5,b∈fd∨w.heap.size<=b):=fun b hb=>by
  rcases hf5 b hb with h|h|h
  . exact .inl h
  . exact .inr (RE.out b h)
  exact .inr (Nat.le_trans HBS.out.size h)
 clear hA5 hT5 hf5 HP;go_wp2
 go_ret
 refine ⟨aP HV2.out.2.symm,fd5,?_,HT.out,HF.out⟩
 rw [HV2.out.1];exact HA5.out
theorem lf (w:World) (E F G:TypeId) (x:al) (am ad:Option Addr) (nm cm nd cd:Nat) (ms:List ai) (ds:List (Int×List Int)) (m:Int) (h0:(bk E F).Rd w [.slice am nm cm] ms) (h1:(aU G).Rd w [.slice ad nd cd] ds) (hw:aM ms ds<=2097152):
 Calls Tryz.prog 29 #[.agg #[.int .i64 x.id,.int .i64 x.n,.int .i64 x.s,.slice am nm cm,.int .i64 x.lost,.int .i64 x.uG,.int .i64 x.seq,.int .i64 x.tail,.int .i64 x.gen,.slice ad nd cd,.int .i64 x.uI,.bool x.down,.bool x.uH],.int .i64 m] w fun e w'=>e=.returned (.bool (dE x ms ds m))/\Below w.heap.size w w':=by
 have hwm:aK ms<=2097152:=by unfold aM at hw;omega
 obtain ⟨hl,hcp,hcm⟩:=ae h0;have hA:=ah w (.cells #[.int .i64 x.id,.int .i64 x.n,.int .i64 x.s,.slice am nm cm,.int .i64 x.lost,.int .i64 x.uG,.int .i64 x.seq,.int .i64 x.tail,.int .i64 x.gen,.slice ad nd cd,.int .i64 x.uI,.bool x.down,.bool x.uH] 29);have X:=Box.new w 29 #[.int .i64 x.id,.int .i64 x.n,.int .i64 x.s,.slice am nm cm,.int .i64 x.lost,.int .i64 x.uG,.int .i64 x.seq,.int .i64 x.tail,.int .i64 x.gen,.slice ad nd cd,.int .i64 x.uI,.bool x.down,.bool x.uH];have zA:=X.lt;obtain ⟨k0,k1,k2,k3,k4,k5,k6,k7,k8,k9,k10,k11,k12⟩:=X.cells13;have r0:=h0.below hA;have r1:=h1.below hA;go_enter Tryz.func29,Tryz.ntmps29
 go_wp2_with fail
 generalize w.alloc (.cells #[.int .i64 x.id,.int .i64 x.n,.int .i64 x.s,.slice am nm cm,.int .i64 x.lost,.int .i64 x.uG,.int .i64 x.seq,.int .i64 x.tail,.int .i64 x.gen,.slice ad nd cd,.int .i64 x.uI,.bool x.down,.bool x.uH] 29)=W at hA X zA r0 r1 k0 k1 k2 k3 k4 k5 k6 k7 k8 k9 k10 k11 k12 ⊢;refine (eP _ E F G x _ _ _ _ _ _ ms ds r0 r1 hw).mono ?_
 rintro e w1 ⟨rfl,b1⟩;have X1:=X.below b1 zA;have B1:=Below.andThen hA b1;have q1:=r0.below b1;clear k0 k1 k2 k3 k4 k5 k6 k7 k8 k9 k10 k11 k12 X b1 hA zA r0 r1;obtain ⟨k0,k1,k2,k3,k4,k5,k6,k7,k8,k9,k10,k11,k12⟩:=X1.cells13;cases ha:aX x ms ds
 . skip
   have HF:Hid (dE x ms ds m=false):=iM (by unfold jk;rw [ha];rfl);have FB:=aa B1;go_wp2
   go_ret
   exact ⟨ag (by rw [HF.out]),FB.out⟩
 have hmn:(ms.length:Int)=x.n/\3<=x.n/\x.n<=5:=by unfold aX bS at ha;simp only [Bool.and_eq_true,az,decide_eq_true_eq] at ha;exact ⟨ha.2.2.1.2,ha.1.1,ha.1.2.1⟩
 have HA:=aa ha;clear ha;cases hbr:x.uH
 case true=>
  rw [hbr] at k12;have HBR:=aa hbr;clear hbr;have HF:Hid (dE x ms ds m=false):=iM (by unfold jk;rw [HBR.out];simp);have FB:=aa B1;go_wp2
  go_ret
  exact ⟨ag (by rw [HF.out]),FB.out⟩
 rw [hbr] at k12;have HBR:=aa hbr;clear hbr;have hw1:IntKind.i64.wrap ((nm:Int)-1)=(nm:Int)-1:=IntWalk.i64_in _ (by omega);go_wp2_with fail
 refine (aB _ _ _ _).mono ?_
 rintro e wq ⟨rfl,hq⟩;obtain rfl:=hq.symm;have hnl:((nm:Int)-1)=((ms.length:Int)-1):=by omega
 cases hin:inB m 0 ((nm:Int)-1)
 . skip
   have HF:Hid (dE x ms ds m=false):=iM (by unfold jk;rw [hnl] at hin;rw [hin];simp);have FB:=aa B1;go_wp2
   go_ret
   exact ⟨ag (by rw [HF.out]),FB.out⟩
 have HIN:Hid (inB m 0 ((ms.length:Int)-1)=true):=by unfold Hid;rw [←hnl];exact hin
 by_cases l1:x.lost=-1
 . have e1:(x.lost !=-1)=false:=by simp [l1]
   have HL1:=aa l1;clear l1;have HCO:Hid (dE x ms ds m=!gc ms m ms.length):=oP (by unfold jk;rw [HA.out,HIN.out,HBR.out,HL1.out];rfl);skip
   rcases cF rfl q1 with h0'|⟨b,off,rfl,hbl,hcs⟩
   . omega
   have hdn:bp 0=6:=rfl;go_wp2
   go_loopw [5] (fun i wr=>∃j:Nat,j<=nm/\i=.int .i64 j/\gc ms m j=false/\aH w1 wr) (fun i _=>nm-(intOf i).toNat)
   case atStart=>exact ⟨0,Nat.zero_le _,rfl,rfl,aH.refl _⟩
   obtain ⟨j,hj,rfl,ho,hs⟩:=hrel;have c3:=(hs.cell _).trans k3;by_cases hjn:j<nm
   . obtain ⟨d,hdj⟩:∃d,ms[j]?=some d:=⟨_,List.getElem?_eq_getElem (by omega)⟩
     obtain ⟨v0,v1,v2,v3,y0,y1,y2,y3,hrv⟩:=hcs j d hdj;have hwd:=cD hdj;obtain ⟨a0,c0,a1,c1,a3,c3',ss,cs,f,bs,rfl,rfl,rfl,rfl,rfl,p0,p1,p3⟩:=dP hrv;obtain ⟨R3,hl3,_,_⟩:=aO p3;have hbs:bs.length<=2097152:=by unfold aJ at hwd;dsimp only at hwd;omega
     have i1:(0:Int)<=(j:Int):=by omega
     have i3:(j:Int)<(nm:Int):=by omega
     have HO:=aa ho;clear p0 p1 p3 hrv y0 y1 y2 ho hwd;have y3r:=(hs.cell _).trans y3;obtain ⟨wo,hwo⟩:∃x,x=wr:=⟨_,rfl⟩;subst hwo;go_wp2
     go_loopw [6] (fun i wr=>∃k:Nat,k<=bs.length/\i=.int .i64 k/\((j:Int)≠m->fZ (bs.take k)=false)/\aH w1 wr) (fun i _=>bs.length-(intOf i).toNat)
     case atStart=>exact ⟨0,Nat.zero_le _,rfl,fun _=>rfl,hs⟩
     clear c3 y3r hs;obtain ⟨k,hk,rfl,hsp,hs⟩:=hrel;have c3:=(hs.cell _).trans k3;have z3:=(hs.cell _).trans y3;by_cases hkn:k<bs.length
     . rcases R3.cases with h0'|⟨b3,o3,rfl,hb3,hc3⟩
       . omega
       have e3:=(hs.cell ⟨b3,o3+k,none⟩).trans (hc3 k hkn);have k1:(0:Int)<=(k:Int):=by omega
       have k2':(k:Int)<(bs.length:Int):=by omega
       by_cases hjm:(j:Int)=m
       . have g1:((j:Int) !=m)=false:=by simp [hjm]
         have HSP:=aa (show (j:Int)≠m->fZ (bs.take (k+1))=false from fun h=>absurd hjm h);generalize bs.getD k 0=y at e3;clear hjm hsp hc3;go_wp2_with fail
         go_quiet (fail)
         go_wp2
         go_roundw
         case rel=>exact ⟨k+1,by omega,by go_num,HSP.out,hs.drewN _⟩
         case measure=>simp [intOf];omega
       have g1:((j:Int) !=m)=true:=by simp [hjm]
       by_cases hge:bp 0<=bs.getD k 0
       . have HF:Hid (dE x ms ds m=false):=by unfold Hid;rw [HCO.out,oQ hdj hjm (oR hkn hge)];rfl
         generalize bs.getD k 0=y at e3 hge;clear hjm hsp hc3;go_wp2_with fail
         go_quiet ((go_at_call 85;exact Calls.quiet_of_same (aV _ _)))
         go_wp2
         go_ret
         exact ⟨ag (by rw [HF.out]),Below.andSame B1 (hs.drewN _)⟩
       have HSP:=aa (show (j:Int)≠m->fZ (bs.take (k+1))=false from fun _=>mK hkn hge (hsp hjm));generalize bs.getD k 0=y at e3 hge;clear hjm hsp hc3;go_wp2_with fail
       go_quiet ((go_at_call 85;exact Calls.quiet_of_same (aV _ _)))
       go_wp2
       go_roundw
       case rel=>exact ⟨k+1,by omega,by go_num,HSP.out,hs.drewN _⟩
       case measure=>simp [intOf];omega
     have ek:k=bs.length:=by omega
     have HO2:=aa (km hdj (fun h=>by have:=hsp h;rw [ek,List.take_length] at this;exact this) HO.out);clear hsp ek;go_wp2
     go_roundw
     case rel=>exact ⟨j+1,by omega,by go_num,HO2.out,hs⟩
     case measure=>simp [intOf];omega
   have ej:j=ms.length:=by omega
   have HF:Hid (dE x ms ds m=true):=by unfold Hid;rw [HCO.out,←ej,ho];rfl
   clear ej ho;go_wp2
   go_ret
   exact ⟨ag (by rw [HF.out]),Below.andSame B1 hs⟩
 have e1:(x.lost !=-1)=true:=by simp [l1]
 by_cases l2:x.lost=m
 . have e2:(x.lost !=m)=false:=by simp [l2]
   have HL1:=aa l2;clear l1 l2;have HCO:Hid (dE x ms ds m=!gc ms m ms.length):=oP (by unfold jk;rw [HA.out,HIN.out,HBR.out,HL1.out];simp);skip
   rcases cF rfl q1 with h0'|⟨b,off,rfl,hbl,hcs⟩
   . omega
   have hdn:bp 0=6:=rfl;go_wp2
   go_loopw [5] (fun i wr=>∃j:Nat,j<=nm/\i=.int .i64 j/\gc ms m j=false/\aH w1 wr) (fun i _=>nm-(intOf i).toNat)
   case atStart=>exact ⟨0,Nat.zero_le _,rfl,rfl,aH.refl _⟩
   obtain ⟨j,hj,rfl,ho,hs⟩:=hrel;have c3:=(hs.cell _).trans k3;by_cases hjn:j<nm
   . obtain ⟨d,hdj⟩:∃d,ms[j]?=some d:=⟨_,List.getElem?_eq_getElem (by omega)⟩
     obtain ⟨v0,v1,v2,v3,y0,y1,y2,y3,hrv⟩:=hcs j d hdj;have hwd:=cD hdj;obtain ⟨a0,c0,a1,c1,a3,c3',ss,cs,f,bs,rfl,rfl,rfl,rfl,rfl,p0,p1,p3⟩:=dP hrv;obtain ⟨R3,hl3,_,_⟩:=aO p3;have hbs:bs.length<=2097152:=by unfold aJ at hwd;dsimp only at hwd;omega
     have i1:(0:Int)<=(j:Int):=by omega
     have i3:(j:Int)<(nm:Int):=by omega
     have HO:=aa ho;clear p0 p1 p3 hrv y0 y1 y2 ho hwd;have y3r:=(hs.cell _).trans y3;obtain ⟨wo,hwo⟩:∃x,x=wr:=⟨_,rfl⟩;subst hwo;go_wp2
     go_loopw [6] (fun i wr=>∃k:Nat,k<=bs.length/\i=.int .i64 k/\((j:Int)≠m->fZ (bs.take k)=false)/\aH w1 wr) (fun i _=>bs.length-(intOf i).toNat)
     case atStart=>exact ⟨0,Nat.zero_le _,rfl,fun _=>rfl,hs⟩
     clear c3 y3r hs;obtain ⟨k,hk,rfl,hsp,hs⟩:=hrel;have c3:=(hs.cell _).trans k3;have z3:=(hs.cell _).trans y3;by_cases hkn:k<bs.length
     . rcases R3.cases with h0'|⟨b3,o3,rfl,hb3,hc3⟩
       . omega
       have e3:=(hs.cell ⟨b3,o3+k,none⟩).trans (hc3 k hkn);have k1:(0:Int)<=(k:Int):=by omega
       have k2':(k:Int)<(bs.length:Int):=by omega
       by_cases hjm:(j:Int)=m
       . have g1:((j:Int) !=m)=false:=by simp [hjm]
         have HSP:=aa (show (j:Int)≠m->fZ (bs.take (k+1))=false from fun h=>absurd hjm h);generalize bs.getD k 0=y at e3;clear hjm hsp hc3;go_wp2_with fail
         go_quiet (fail)
         go_wp2
         go_roundw
         case rel=>exact ⟨k+1,by omega,by go_num,HSP.out,hs.drewN _⟩
         case measure=>simp [intOf];omega
       have g1:((j:Int) !=m)=true:=by simp [hjm]
       by_cases hge:bp 0<=bs.getD k 0
       . have HF:Hid (dE x ms ds m=false):=by unfold Hid;rw [HCO.out,oQ hdj hjm (oR hkn hge)];rfl
         generalize bs.getD k 0=y at e3 hge;clear hjm hsp hc3;go_wp2_with fail
         go_quiet ((go_at_call 85;exact Calls.quiet_of_same (aV _ _)))
         go_wp2
         go_ret
         exact ⟨ag (by rw [HF.out]),Below.andSame B1 (hs.drewN _)⟩
       have HSP:=aa (show (j:Int)≠m->fZ (bs.take (k+1))=false from fun _=>mK hkn hge (hsp hjm));generalize bs.getD k 0=y at e3 hge;clear hjm hsp hc3;go_wp2_with fail
       go_quiet ((go_at_call 85;exact Calls.quiet_of_same (aV _ _)))
       go_wp2
       go_roundw
       case rel=>exact ⟨k+1,by omega,by go_num,HSP.out,hs.drewN _⟩
       case measure=>simp [intOf];omega
     have ek:k=bs.length:=by omega
     have HO2:=aa (km hdj (fun h=>by have:=hsp h;rw [ek,List.take_length] at this;exact this) HO.out);clear hsp ek;go_wp2
     go_roundw
     case rel=>exact ⟨j+1,by omega,by go_num,HO2.out,hs⟩
     case measure=>simp [intOf];omega
   have ej:j=ms.length:=by omega
   have HF:Hid (dE x ms ds m=true):=by unfold Hid;rw [HCO.out,←ej,ho];rfl
   clear ej ho;go_wp2
   go_ret
   exact ⟨ag (by rw [HF.out]),Below.andSame B1 hs⟩
 have e2:(x.lost !=m)=true:=by simp [l2]
 have HL1:=aa (show (decide (x.lost=-1)||decide (x.lost=m))=false by simp [l1,l2]);clear l1 l2;have HF:Hid (dE x ms ds m=false):=iM (by unfold jk;rw [HL1.out];simp);have FB:=aa B1;go_wp2
 go_ret
 exact ⟨ag (by rw [HF.out]),FB.out⟩
end Go.Proofs.YtejokiafgbjdaaaGreat

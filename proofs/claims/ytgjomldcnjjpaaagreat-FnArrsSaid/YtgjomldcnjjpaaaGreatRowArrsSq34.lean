/-
 The codes of both sides that ask for no block. Condition: the array weighs at most 2097152.
-/
import Derived.Test.YtgjomldcnjjpaaaGreatRowArrsSq29
import Derived.Test.YtgjomldcnjjpaaaGreatRowArrsSq27
import Derived.Test.YtgjomldcnjjpaaaGreatRowArrsSq3
import Derived.Test.YtgjomldcnjjpaaaGreatRowArrsSq5
import Derived.Test.YtgjomldcnjjpaaaGreatRowArrsSq22
import Derived.Test.YtgjomldcnjjpaaaGreatRowArrsSq31
import Derived.Test.YtgjomldcnjjpaaaGreatRowArrsSq30
import Derived.Test.YtgjomldcnjjpaaaGreatRowArrsSq26
import Derived.Test.YtgjomldcnjjpaaaGreatRowArrsSq20

set_option maxRecDepth 100000
set_option maxHeartbeats 8000000
set_option linter.unusedSimpArgs false

namespace Go.Proofs.YtgjomldcnjjpaaaGreat
open Go.RowKit

def pY (x:aq) (ms:List ai) (ds:List aH) (b n:Int):List aH:=if ok8 x ms ds (aO x.n x.s b)=true then mT ds (aO x.n x.s b,(fO x ms ds (aO x.n x.s b)).set (ch x.n x.s b).toNat n) else ds
def tZ (x:aq) (ms:List ai) (ds:List aH) (b:Int):Int:=if ok8 x ms ds (aO x.n x.s b)=true then 0 else 5
theorem ki {n s b:Int} (hg:bL n s=true) (hb:bU n s b=true):0<=aO n s b/\aO n s b<=s-1/\0<=ch n s b/\ch n s b<n-1:=by
 obtain ⟨g1,g2,g3,g4⟩:=aB.1 hg;have hb2:=hb;unfold bU aN at hb2;rw [if_pos hg] at hb2;have h3:=aG.1 hb2;unfold aO ch;rw [if_pos hb,if_pos hb];have h1:=Int.emod_nonneg b (show n-1≠0 by omega);have h2:=Int.emod_lt_of_pos b (show (0:Int)<n-1 by omega);have h5:b / (n-1)<s:=Int.ediv_lt_of_lt_mul (by omega) (by omega);have h4:0<=b / (n-1):=Int.ediv_nonneg h3.1 (by omega);exact ⟨h4,by omega,h1,h2⟩
theorem nJ {x:aq} {ms:List ai} {ds:List aH} {s:Int} (ha:bf x ms ds=true) (hk:ok8 x ms ds s=true):((fO x ms ds s).length:Int)=x.n-1:=by
 unfold bf ey at ha;simp only [Bool.and_eq_true] at ha
 obtain ⟨hg,_,_,he,_⟩:=ha;obtain ⟨g1,g2,_⟩:=aB.1 hg;rcases iA ds s with hat|⟨j,d,hat,hdj,_⟩
 . unfold ok8 at hk
   rw [if_pos hat] at hk;simp only [Bool.and_eq_true,Bool.not_eq_true'] at hk
   unfold fO gd;rw [if_pos hat,if_neg (by simp [hk.1]),if_pos hk.2,iC];omega
 have h1:=dR.1 he j d hdj;unfold dI at h1;simp only [Bool.and_eq_true,decide_eq_true_eq] at h1
 unfold fO;rw [if_neg (by omega),hat,Int.toNat_natCast,List.getD_eq_getElem?_getD,hdj];exact h1.2.1
theorem uG (w:World) (B:Nat) (x:aq) (ms:List ai) (ds:List aH) (fm fd:List Nat) (h:aK w B x ms ds fm fd) (ha:bf x ms ds=true) (hw:bh ms ds<=2097152) (hl:ds.length<=500000) (b n:Int) (hb:bU x.n x.s b=true):
 Calls Tryz.prog 109 #[.pointer (some ⟨B,0,none⟩),.int .i64 b,.int .i64 n] w fun e w'=>e=.returned (.int .i64 (tZ x ms ds b))/\∃fd',aK w' B x ms (pY x ms ds b n) fm fd'/\aA (B :: fd) w w'/\∀b∈fd',b∈fd∨w.heap.size<=b:=by
 have hg:bL x.n x.s=true:=by
  unfold bf at ha;simp only [Bool.and_eq_true] at ha
  exact ha.1
 obtain ⟨s1,s2,i1,i2⟩:=ki hg hb;have hdl:=fun hk=>nJ (s:=aO x.n x.s b) ha hk;have HV:Hid (pY x ms ds b n=if ok8 x ms ds (aO x.n x.s b)=true then mT ds (aO x.n x.s b,(fO x ms ds (aO x.n x.s b)).set (ch x.n x.s b).toNat n) else ds):=rfl;have HC:Hid (tZ x ms ds b=if ok8 x ms ds (aO x.n x.s b)=true then 0 else 5):=rfl;have ht:inB (aO x.n x.s b) 0 (x.s-1)=true:=aG.2 ⟨s1,s2⟩;have HA:=aa h;have hlB:=h.lt;have hlm:=h.ltm;obtain ⟨bm,bd,cm,cd,X,hm,hd,hr,r1,r2⟩:=h;unfold bH at X;obtain ⟨k0,k1,k2,k3,k4,k5,k6,k7,k8,k9,k10,k11,k12⟩:=X.cells13;have HM:=aa hm.rd;have HD:=aa hd.rd;have HX:=aa X;clear X hm hd hr r1 r2 ha;go_enter Tryz.func109,Tryz.ntmps109
 go_wp2_with fail
 refine (lF _ x.n x.s b).mono ?_
 rintro e w1 ⟨rfl,b1⟩;have X1:=HX.out.below b1 hlB;have m1:=HM.out.below b1;have d1:=HD.out.below b1;have z1:=b1.size;clear k0 k1 k2 k3 k4 k5 k6 k7 k8 k9 k10 k11 k12;obtain ⟨k0,k1,k2,k3,k4,k5,k6,k7,k8,k9,k10,k11,k12⟩:=X1.cells13;generalize hS:aO x.n x.s b=s at hdl HV HC ht s1 s2 ⊢;clear hS;go_wp2_with fail
 refine (qD _ 119 55 93 x _ _ _ _ _ _ ms ds s m1 d1 hw hg ht).mono ?_
 rintro e w2 ⟨a2,l2,c2,rfl,o2,b2⟩;have X2:=X1.below b2 (by omega);have B2:=Below.andThen b1 b2;have z2:=b2.size;clear k0 k1 k2 k3 k4 k5 k6 k7 k8 k9 k10 k11 k12 X1 m1 d1 b1 b2;cases hok:ok8 x ms ds s
 . have HV2:Hid (pY x ms ds b n=ds/\tZ x ms ds b=5):=by unfold Hid;rw [HV.out,HC.out,hok];exact ⟨rfl,rfl⟩
   have HA2:=aa (HA.out.below B2);have HT:=aa (aA.ofBelow B2 (B :: fd));clear hok B2 o2 X2;go_wp2
   go_ret
   refine ⟨aF HV2.out.2.symm,fd,?_,HT.out,fun b hb=>.inl hb⟩
   rw [HV2.out.1];exact HA2.out
 have HV2:Hid (pY x ms ds b n=mT ds (s,(fO x ms ds s).set (ch x.n x.s b).toNat n)/\tZ x ms ds b=0):=by unfold Hid;rw [HV.out,HC.out,hok];exact ⟨rfl,rfl⟩
 have hlen:=hdl hok;clear hok hdl;obtain ⟨rfl,_⟩:=ag o2.rd;obtain ⟨fe,me,re⟩:=o2.mine;obtain ⟨k0,k1,k2,k3,k4,k5,k6,k7,k8,k9,k10,k11,k12⟩:=X2.cells13;go_wp2_with fail
 refine (mS _ x.n x.s b).mono ?_
 rintro e w3 ⟨rfl,b3⟩;have B3:=Below.andThen B2 b3;have m3:=me.below b3;have z3:=b3.size;generalize ch x.n x.s b=ix at i1 i2 HV2 ⊢;obtain ⟨i,rfl⟩:=Int.eq_ofNat_of_zero_le i1;rw [Int.toNat_natCast] at HV2;generalize fO x ms ds s=zs at m3 me hlen HV2 ⊢;have hil:i<zs.length:=by omega
 obtain ⟨g,rfl⟩:=cY m3 (by omega);obtain ⟨⟨old,ho⟩,fz,hgf,fe',ms',rs'⟩:=im (t:=eT) (v:=.int .i64 n) (x:=n) (f:=[]) rfl m3 hil ⟨⟨rfl,rfl⟩,by simp⟩ (by simp);have i3:(i:Int)<(zs.length:Int):=by omega
 have BS:Below w.heap.size w (w3.setCell ⟨g,i,none⟩ (.int .i64 n)):=B3.setCell (show w.heap.size<=g by have:=(re g hgf).1;omega) _;have re2:∀b∈fe',w.heap.size<=b:=fun b hb=>by
  rcases rs' b hb with h|h
  . have:=(re b h).1;omega
  simp at h
 have HA3:=aa (HA.out.below BS);have HP:=aa (uF _ B x ms ds fm fd HA3.out s (some ⟨g,0,none⟩) c2 (zs.set i n) fe' (by rw [List.length_set];exact ms') (fun hm=>by have:=re2 _ hm;omega) (fun b hb hm=>by have h1:=re2 b hb;have h2:=hlm.1 b hm;omega) (fun b hb hm=>by have h1:=re2 b hb;have h2:=hlm.2 b hm;omega) hl);rw [List.length_set] at HP;have HBS:=aa BS;have RE:=aa re2;clear k0 k1 k2 k3 k4 k5 k6 k7 k8 k9 k10 k11 k12 X2 me re B2 b3 B3 m3 ms' rs' BS o2 re2 HM HD HX HA;go_wp2_with fail
 refine HP.out.mono ?_
 rintro e w5 ⟨rfl,fd5,hA5,hT5,hf5⟩;have HA5:=aa hA5;have HT:Hid (aA (B :: fd) w w5):=⟨hT5.os.trans HBS.out.os,hT5.tape.trans HBS.out.tape,hT5.output.trans HBS.out.output,Nat.le_trans HBS.out.size hT5.size,fun k hk hn=>by
  rw [hT5.block k (Nat.lt_of_lt_of_le hk HBS.out.size) (fun hm=>by
   rcases List.mem_cons.1 hm with e|hm
   . exact hn (by rw [e];exact List.mem_cons_self)
   rcases List.mem_append.1 hm with hm|hm
   . exact hn (List.mem_cons_of_mem _ hm)
   have:=RE.out k hm;omega),HBS.out.block k hk]⟩
 have HF:Hid (∀b∈fd5,b∈fd∨w.heap.size<=b):=fun b hb=>by
  rcases hf5 b hb with h|h|h
  . exact .inl h
  . exact .inr (RE.out b h)
  exact .inr (Nat.le_trans HBS.out.size h)
 clear hA5 hT5 hf5 HP;go_wp2
 go_ret
 refine ⟨aF HV2.out.2.symm,fd5,?_,HT.out,HF.out⟩
 rw [HV2.out.1];exact HA5.out
def hY (x:aq) (ms:List ai) (ds:List (Int×List Int)) (b:Int):Int:=if jc x ms ds=0 then (if bU x.n x.s b=true then 0 else 2) else jc x ms ds
theorem uH {x:aq} {ms:List ai} {ds:List (Int×List Int)} (b:Int):jd x ms ds (aO x.n x.s b)=hY x ms ds b:=by
 unfold jd hY;by_cases h:jc x ms ds=0
 . rw [if_pos h,if_pos h]
   have hg:=kj (nK h).1;by_cases hb:bU x.n x.s b=true
   . obtain ⟨h1,h2,_⟩:=ki hg hb
     rw [if_pos hb,if_pos];unfold bJ;rw [hg,aG.2 ⟨h1,h2⟩];rfl
   rw [if_neg hb,if_neg];unfold bJ aO;rw [if_neg hb,hg,Bool.true_and,aG];omega
 rw [if_neg h,if_neg h]
theorem xA {x:aq} {ms:List ai} {ds:List (Int×List Int)} {b:Int} (h:hY x ms ds b=0):jc x ms ds=0/\bf x ms ds=true/\x.down=false/\bU x.n x.s b=true:=by
 unfold hY at h;by_cases ha:jc x ms ds=0
 . rw [if_pos ha] at h
   by_cases hb:bU x.n x.s b=true
   . exact ⟨ha,(nK ha).1,(nK ha).2,hb⟩
   rw [if_neg hb] at h;omega
 rw [if_neg ha] at h;exact absurd h ha
def iV (x:aq) (ms:List ai) (ds:List (Int×List Int)) (b:Int):Int:=if hY x ms ds b=0 then (if ok8 x ms ds (aO x.n x.s b)=true then 0 else 5) else hY x ms ds b
def qF (x:aq) (ms:List ai) (ds:List (Int×List Int)) (b:Int):Int:=if hY x ms ds b=0/\ok8 x ms ds (aO x.n x.s b)=true then (fO x ms ds (aO x.n x.s b)).getD (ch x.n x.s b).toNat 0 else 0
def nL (x:aq) (ms:List ai) (ds:List (Int×List Int)) (j:Nat):List Int:=(List.range j).map fun (t:Nat)=>qF x ms ds (t:Int)
def mt (x:aq) (ms:List ai) (ds:List (Int×List Int)) (j:Nat):Bool:=(List.range j).all fun (t:Nat)=>decide (iV x ms ds (t:Int)=0)
def mu (x:aq) (ms:List ai) (ds:List (Int×List Int)):List Int:=if mt x ms ds (aN x.n x.s).toNat=true then nL x ms ds (aN x.n x.s).toNat else []
theorem uI (x:aq) (ms:List ai) (ds:List (Int×List Int)) (j:Nat):nL x ms ds (j+1)=nL x ms ds j++[qF x ms ds (j:Int)]:=by unfold nL;rw [List.range_succ,List.map_append];rfl
theorem vM (x:aq) (ms:List ai) (ds:List (Int×List Int)) (j:Nat):(nL x ms ds j).length=j:=by unfold nL;simp
theorem td {x:aq} {ms:List ai} {ds:List (Int×List Int)} {j:Nat} (h:mt x ms ds j=true) (h1:iV x ms ds (j:Int)=0):mt x ms ds (j+1)=true:=by unfold mt at h ⊢;rw [List.range_succ,List.all_append,h];simp [h1]
theorem xB {x:aq} {ms:List ai} {ds:List (Int×List Int)} {j:Nat} (h:¬iV x ms ds (j:Int)=0) (hk:j<(aN x.n x.s).toNat):mu x ms ds=[]:=by
 have:mt x ms ds (aN x.n x.s).toNat=false:=by
  unfold mt;rw [List.all_eq_false];exact ⟨j,by simpa using hk,by simp [h]⟩
 unfold mu;rw [if_neg (by simp [this])]
theorem con_of {x:aq} {ms:List ai} {ds:List (Int×List Int)} (h:mt x ms ds (aN x.n x.s).toNat=true):mu x ms ds=nL x ms ds (aN x.n x.s).toNat:=by unfold mu;rw [if_pos h]
theorem mz (n s:Int):0<=aN n s/\aN n s<=32:=by
 cases hg:bL n s
 . rw [eJ hg];omega
 obtain ⟨g1,g2,g3,g4⟩:=aB.1 hg;have h1:=gZ hg;rw [fD hg];have h2:s*(n-1)<=8*(n-1):=Int.mul_le_mul_of_nonneg_right g4 (by omega);have h3:0<=s*(n-1):=Int.mul_nonneg (by omega) (by omega);omega
theorem nU (w:World) (E:TypeId) (x:aq) (ms:List ai) (j:Nat) (v:Value) (s:Int) (hd:vR w E x ms j v) (hw:aQ ms<=2097152):
 Calls Tryz.prog 80 #[v,.int .i64 s] w fun e w'=>e=.returned (.tuple #[.int .i64 (dl x ms (j:Int) s),.bool (dv x ms (j:Int) s)])/\Below w.heap.size w w':=by
 obtain ⟨a0,a1,a3,c0,c1,c3,ss,cs,f,bs,hj,r0,r1,r3,h⟩:=hd;have hwm:=Nat.le_trans (ei hj) hw;obtain ⟨hh,hv⟩:=xG (x:=x) (s:=s) hj;have hl:=rQ (x:=x) (s:=s) hj;rcases h with ⟨rfl,rfl⟩|⟨rfl,hx,rfl⟩|⟨rfl,hx,rfl⟩
 . exact pI w x ms j s (by rw [hh,hl];rfl)
 . exact rR w E x ms j s a0 a1 a3 c0 c1 c3 ss cs bs r0 r1 r3 hwm (by rw [hh,hl];simp [hx]) hv
 exact qI w E x ms j s a0 a1 a3 c0 c1 c3 ss cs bs r0 r1 r3 hwm (by rw [hh,hl];simp [hx]) hv
theorem uS (w:World) (E:TypeId) (x:aq) (ms:List ai) (j:Nat) (v:Value) (s:Int) (hd:vR w E x ms j v):
 Calls Tryz.prog 38 #[v,.int .i64 s] w fun e w'=>e=.returned (.bool (dC x ms (j:Int) s))/\Below w.heap.size w w':=by
 obtain ⟨a0,a1,a3,c0,c1,c3,ss,cs,f,bs,hj,r0,r1,r3,h⟩:=hd;have hl:=rQ (x:=x) (s:=s) hj;rcases h with ⟨rfl,rfl⟩|⟨rfl,hx,rfl⟩|⟨rfl,hx,rfl⟩
 . refine (qH w s).mono ?_
   rintro e w' ⟨rfl,rfl⟩;exact ⟨ah (by rw [hl];rfl),Below.refl _ _⟩
 . refine (nS w _ _ _ _ _ _ _ _ _ _ _ _).mono ?_
   rintro e w' ⟨rfl,b⟩;exact ⟨ah (by rw [hl];simp [hx]),b⟩
 refine (mB w _ _ _ _ _ _ _ _ _ _ _).mono ?_
 rintro e w' ⟨rfl,b⟩;exact ⟨ah (by rw [hl];simp [hx]),b⟩
theorem jg (w:World) (E F G:TypeId) (x:aq) (am ad:Option Addr) (nm cm nd cd:Nat) (ms:List ai) (ds:List (Int×List Int)) (m s:Int) (h0:(bI E F).Rd w [.slice am nm cm] ms) (_:(aW G).Rd w [.slice ad nd cd] ds) (hw:bh ms ds<=2097152):
 Calls Tryz.prog 11 #[.agg #[.int .i64 x.id,.int .i64 x.n,.int .i64 x.s,.slice am nm cm,.int .i64 x.lost,.int .i64 x.xW,.int .i64 x.seq,.int .i64 x.tail,.int .i64 x.gen,.slice ad nd cd,.int .i64 x.xY,.bool x.down,.bool x.xX],.int .i64 m,.int .i64 s] w fun e w'=>e=.returned (.bool (dC x ms m s))/\Below w.heap.size w w':=by
 have hwm:aQ ms<=2097152:=by unfold bh at hw;omega
 obtain ⟨hl,hc,hm⟩:=ag h0;have hA:=af w (.cells #[.int .i64 x.id,.int .i64 x.n,.int .i64 x.s,.slice am nm cm,.int .i64 x.lost,.int .i64 x.xW,.int .i64 x.seq,.int .i64 x.tail,.int .i64 x.gen,.slice ad nd cd,.int .i64 x.xY,.bool x.down,.bool x.xX] 31);have X:=Box.new w 31 #[.int .i64 x.id,.int .i64 x.n,.int .i64 x.s,.slice am nm cm,.int .i64 x.lost,.int .i64 x.xW,.int .i64 x.seq,.int .i64 x.tail,.int .i64 x.gen,.slice ad nd cd,.int .i64 x.xY,.bool x.down,.bool x.xX];obtain ⟨k0,k1,k2,k3,k4,k5,k6,k7,k8,k9,k10,k11,k12⟩:=X.cells13;have r0:=h0.below hA;have zA:=X.lt;go_enter Tryz.func11,Tryz.ntmps11
 go_wp2_with fail
 generalize w.alloc (.cells #[.int .i64 x.id,.int .i64 x.n,.int .i64 x.s,.slice am nm cm,.int .i64 x.lost,.int .i64 x.xW,.int .i64 x.seq,.int .i64 x.tail,.int .i64 x.gen,.slice ad nd cd,.int .i64 x.xY,.bool x.down,.bool x.xX] 31)=W at hA X zA r0 k0 k1 k2 k3 k4 k5 k6 k7 k8 k9 k10 k11 k12 ⊢;refine (rN _ x _ _ _ _ _ _ m).mono ?_
 rintro e w1 ⟨rfl,b1⟩;have X1:=X.below b1 zA;have B1:=Below.andThen hA b1;have q1:=r0.below b1;clear k0 k1 k2 k3 k4 k5 k6 k7 k8 k9 k10 k11 k12 X b1 hA zA r0;obtain ⟨k0,k1,k2,k3,k4,k5,k6,k7,k8,k9,k10,k11,k12⟩:=X1.cells13;cases hi:inB m 0 ((nm:Int)-1)
 . have HF:Hid (dC x ms m s=false):=by unfold Hid dC;rw [hl,hi];rfl
   go_wp2
   go_ret
   exact ⟨ah HF.out.symm,B1⟩
 have hi2:=aG.1 hi;obtain ⟨j,rfl⟩:=Int.eq_ofNat_of_zero_le hi2.1;go_wp2_with fail
 refine (jR _ E F x _ _ _ _ _ _ ms j q1 hwm (by omega)).mono ?_
 rintro e w2 ⟨v,rfl,hd,b2⟩;have B2:=Below.andThen B1 b2;clear k0 k1 k2 k3 k4 k5 k6 k7 k8 k9 k10 k11 k12 X1 b2 B1 q1;go_wp2_with fail
 refine (uS _ E x ms j v s hd).mono ?_
 rintro e w3 ⟨rfl,b3⟩;have B3:=Below.andThen B2 b3;clear b3 B2 hd;go_wp2
 go_ret
 exact ⟨rfl,B3⟩
theorem fill6 (x:aq) (ms:List ai) (s:Int) (n j:Nat) (h:j<n):(cJ x ms s j++List.replicate (n-j) (0:Int)).set j (dl x ms (j:Int) s)=cJ x ms s (j+1)++List.replicate (n-(j+1)) (0:Int):=by
 have e:n-j=(n-(j+1))+1:=by omega
 rw [List.set_append,if_neg (by rw [eQ];omega),eQ,Nat.sub_self,e,List.replicate_succ,List.set_cons_zero,nE,List.append_assoc];rfl
theorem pJ (w:World) (E F G:TypeId) (x:aq) (am ad:Option Addr) (nm cm nd cd:Nat) (ms:List ai) (ds:List (Int×List Int)) (s:Int) (h0:(bI E F).Rd w [.slice am nm cm] ms) (h1:(aW G).Rd w [.slice ad nd cd] ds) (hw:bh ms ds<=2097152):
 Calls Tryz.prog 125 #[.agg #[.int .i64 x.id,.int .i64 x.n,.int .i64 x.s,.slice am nm cm,.int .i64 x.lost,.int .i64 x.xW,.int .i64 x.seq,.int .i64 x.tail,.int .i64 x.gen,.slice ad nd cd,.int .i64 x.xY,.bool x.down,.bool x.xX],.int .i64 s] w fun e w'=>∃a' l' c',e=.returned (.tuple #[.slice a' l' c',.bool (cZ x ms ds s)])/\aD.Own w' w.heap.size w'.heap.size [.slice a' l' c'] (fj x ms ds s)/\Below w.heap.size w w':=by
 have hwm:aQ ms<=2097152:=by unfold bh at hw;omega
 obtain ⟨hl,hc,hm⟩:=ag h0;obtain ⟨i0,hi,hz0,hz1,hz2⟩:=info_parts Tryz.info3;have hA:=af w (.cells #[.int .i64 x.id,.int .i64 x.n,.int .i64 x.s,.slice am nm cm,.int .i64 x.lost,.int .i64 x.xW,.int .i64 x.seq,.int .i64 x.tail,.int .i64 x.gen,.slice ad nd cd,.int .i64 x.xY,.bool x.down,.bool x.xX] 31);have X:=Box.new w 31 #[.int .i64 x.id,.int .i64 x.n,.int .i64 x.s,.slice am nm cm,.int .i64 x.lost,.int .i64 x.xW,.int .i64 x.seq,.int .i64 x.tail,.int .i64 x.gen,.slice ad nd cd,.int .i64 x.xY,.bool x.down,.bool x.xX];obtain ⟨k0,k1,k2,k3,k4,k5,k6,k7,k8,k9,k10,k11,k12⟩:=X.cells13;have zA:=X.lt;have r0:=h0.below hA;have r1:=h1.below hA;go_enter Tryz.func125,Tryz.ntmps125
 go_wp2_with fail
 generalize w.alloc (.cells #[.int .i64 x.id,.int .i64 x.n,.int .i64 x.s,.slice am nm cm,.int .i64 x.lost,.int .i64 x.xW,.int .i64 x.seq,.int .i64 x.tail,.int .i64 x.gen,.slice ad nd cd,.int .i64 x.xY,.bool x.down,.bool x.xX] 31)=W at hA X zA r0 r1 k0 k1 k2 k3 k4 k5 k6 k7 k8 k9 k10 k11 k12 ⊢;refine (dx _ E F G x _ _ _ _ _ _ ms ds r0 r1 hw).mono ?_
 rintro e w1 ⟨rfl,b1⟩;have X1:=X.below b1 zA;have B1:=Below.andThen hA b1;have q1:=r0.below b1;clear k0 k1 k2 k3 k4 k5 k6 k7 k8 k9 k10 k11 k12 X b1 hA zA r0 r1;obtain ⟨k0,k1,k2,k3,k4,k5,k6,k7,k8,k9,k10,k11,k12⟩:=X1.cells13;cases ha:bf x ms ds
 . skip
   have HF:Hid (cZ x ms ds s=false/\fj x ms ds s=[]):=by unfold Hid cZ fj mR;simp [ha]
   have FO:=aa ((aS (bk.lit .i64 3 w1 [] 0 #[] rfl rfl (by unfold maxLen;omega))).widen (lo':=w.heap.size) B1.size (Nat.le_refl _));have FB:=aa (B1.alloc B1.size (.cells #[] 3));go_wp2
   refine bodyPost_ret (v:=.tuple #[.slice (some ⟨w1.heap.size,0,none⟩) 0 0,.bool false]) (by simp [results,Tryz.results125,go_sem]) rfl ?_
   exact ⟨_,_,_,by rw [HF.out.1],by rw [HF.out.2];exact FO.out,FB.out⟩
 have hg:bL x.n x.s=true:=by unfold bf at ha;simp only [Bool.and_eq_true] at ha;exact ha.1
 have hmn:(ms.length:Int)=x.n:=by unfold bf cI at ha;simp only [Bool.and_eq_true,decide_eq_true_eq] at ha;exact ha.2.2.1.2
 have HMN:=aa hmn;clear hmn;obtain ⟨g1,g2,g3,g4⟩:=aB.1 hg;cases hbr:x.xX
 . rw [hbr] at k12
   go_wp2_with fail
   refine (bQ _ x.n x.s s).mono ?_
   rintro e w2 ⟨rfl,b2⟩;have X2:=X1.below b2 X1.lt;have B2:=Below.andThen B1 b2;have q2:=q1.below b2;clear k0 k1 k2 k3 k4 k5 k6 k7 k8 k9 k10 k11 k12 X1 b2 B1 q1;have hst:=iL (x:=x) (y:=s) hg;cases hin:bJ x.n x.s s
   . skip
     have HF:Hid (cZ x ms ds s=false/\fj x ms ds s=[]):=by unfold Hid cZ fj mR;rw [←hst,hin];simp
     have FO:=aa ((aS (bk.lit .i64 3 w2 [] 0 #[] rfl rfl (by unfold maxLen;omega))).widen (lo':=w.heap.size) B2.size (Nat.le_refl _));have FB:=aa (B2.alloc B2.size (.cells #[] 3));go_wp2
     refine bodyPost_ret (v:=.tuple #[.slice (some ⟨w2.heap.size,0,none⟩) 0 0,.bool false]) (by simp [results,Tryz.results125,go_sem]) rfl ?_
     exact ⟨_,_,_,by rw [HF.out.1],by rw [HF.out.2];exact FO.out,FB.out⟩
   have HF:Hid (cZ x ms ds s=cV x ms s/\fj x ms ds s=dc x ms s):=by unfold Hid cZ fj mR;rw [ha,hbr,←hst,hin];exact ⟨rfl,rfl⟩
   clear hst hbr ha hin;obtain ⟨n,hn⟩:∃n:Nat,x.n=(n:Int):=⟨x.n.toNat,by omega⟩;have HN:=aa hn;have HNT:Hid (x.n.toNat=n):=by unfold Hid;omega
   have hn5:n<=5:=by omega
   have hn3:3<=n:=by omega
   have hnm:n=nm:=by have:=HMN.out;omega
   have HNM:=aa hnm;clear hnm;obtain ⟨k0,k1,k2,k3,k4,k5,k6,k7,k8,k9,k10,k11,k12⟩:=X2.cells13;rw [hn] at k1;clear hn k0 k2 k3 k4 k5 k6 k7 k8 k9 k10 k11 k12;have hb3:i0.bytes*n<=281474976710656:=by rw [hz2];omega
   have hm3:n<=maxLen:=by unfold maxLen;omega
   go_wp2_with (at_make;refine wpList_make_full _ rfl _ _ 42 rfl w2.heap.size 3 i0 (.int .i64 0) 1 Tryz.underlying42 hi hz0 hz1 _ _ _ _ n rfl rfl rfl rfl hb3 hm3 (Nat.le_refl _) ?_;intro w3 hown hgrow)
   have hO:bk .i64 3 w3 w2.heap.size (.slice (some ⟨w2.heap.size,0,none⟩) n n) (List.replicate n 0):=by
    rw [ie] at hown;unfold bk;rw [List.length_replicate];exact hown
   have hO1:=hO.own;have hB1:Below w2.heap.size w2 w3:=(Below.refl _ _).grown hgrow (Nat.le_refl _) (by simp);have zw:w2.heap.size<w3.heap.size:=hO1.2 _ rfl;generalize w3.heap.size=hi1 at hO1 zw;clear hown hgrow hO k1;go_loopw [7,32] (fun lo i wr=>∃j:Nat,j<=n/\i=.int .i64 j/\lo=.int .i64 (gc (bV x ms s j))/\(bV x ms s j).length<=1/\Own .i64 3 wr w2.heap.size hi1 (.slice (some ⟨w2.heap.size,0,none⟩) n n) (cJ x ms s j++List.replicate (n-j) 0)/\Below w2.heap.size w2 wr) (fun _ i _=>n-(intOf i).toNat)
   case atStart=>exact ⟨0,Nat.zero_le _,rfl,rfl,Nat.zero_le _,by simpa [cJ] using hO1,hB1⟩
   clear hO1 hB1;obtain ⟨j,hj,rfl,rfl,hm1,ho,hb⟩:=hrel;have Xr:=X2.below hb X2.lt;have zs:=hb.size;by_cases hlt:j<n
   . obtain ⟨k0,k1,k2,k3,k4,k5,k6,k7,k8,k9,k10,k11,k12⟩:=Xr.cells13
     have hlt':(j:Int)<(n:Int):=by omega
     go_wp2_with fail
     refine (jR _ E F x _ _ _ _ _ _ ms j (q2.below hb) hwm (by have:=HNM.out;omega)).mono ?_
     rintro e w5 ⟨v,rfl,hd,b5⟩;have o5:=ho.below b5;have B5:=hb.trans (b5.mono zs);clear k0 k1 k2 k3 k4 k5 k6 k7 k8 k9 k10 k11 k12 Xr b5 ho hb;go_wp2_with fail
     refine (nU _ E x ms j v s hd hwm).mono ?_
     rintro e w6 ⟨rfl,b6⟩;have o6:=o5.below b6;have B6:=B5.trans (b6.mono B5.size);clear b6 o5 B5 hd;have hfs:=fill6 x ms s n j hlt;obtain ⟨hcy,hfy,hst,hbt⟩:=o6.store j hlt (dl x ms (j:Int) s);rw [hfs] at hst;have HST:=aa hst;have HB:Hid (Below w2.heap.size w2 (w6.setCell ⟨w2.heap.size,j,none⟩ (.int .i64 (dl x ms (j:Int) s)))):=B6.setCell (Nat.le_refl _) _;have hj0:(0:Int)<=(j:Int):=Int.natCast_nonneg _;clear hst hbt hfs;generalize (cJ x ms s j++List.replicate (n-j) 0).getD j 0=old at hcy;cases hh:dv x ms (j:Int) s
     . have hmn:=kg hh
       rcases gP hm1 with h00|⟨p,hp⟩
       . have hl0:gc (bV x ms s j)=-1:=by rw [h00];rfl
         have hl1:gc (bV x ms s (j+1))=(j:Int):=by rw [hmn,h00];rfl
         have hc1:(bV x ms s (j+1)).length<=1:=by rw [hmn,h00];exact Nat.le_refl _
         have HL1:=aa hl1;have HC1:=aa hc1;rw [hl0];clear hmn h00 hl0 hl1 hc1 B6 o6;generalize dl x ms (j:Int) s=y at HST HB ⊢;go_wp2
         go_roundw
         case rel=>exact ⟨j+1,by omega,by go_num,by rw [HL1.out],HC1.out,HST.out,HB.out⟩
         case measure=>simp [intOf];omega
       have hl0:gc (bV x ms s j)=(p:Int):=by rw [hp];rfl
       obtain ⟨t1,t2⟩:=pW (x:=x) (ms:=ms) (s:=s) (j:=j+1) (by rw [hmn,hp];exact Nat.le_refl _) (by have:=HNT.out;omega);have HT1:=aa t1;have HT2:=aa t2;rw [hl0];have hp0:((p:Int) !=-1)=true:=by simp
       have hp1:((p:Int)==-1)=false:=by simp
       clear hmn hp hl0 t1 t2 HST HB;have FO:=aa ((aS (bk.lit .i64 3 w6 [] 0 #[] rfl rfl (by unfold maxLen;omega))).widen (lo':=w.heap.size) (Nat.le_trans B2.size B6.size) (Nat.le_refl _));have FB:=aa (B2.trans ((B6.alloc B6.size (.cells #[] 3)).mono B2.size));clear B6 o6;go_wp2
       refine bodyPost_ret (v:=.tuple #[.slice (some ⟨w6.heap.size,0,none⟩) 0 0,.bool false]) (by simp [results,Tryz.results125,go_sem]) rfl ?_
       exact ⟨_,_,_,by rw [HF.out.1,HT1.out],by rw [HF.out.2,HT2.out];exact FO.out,FB.out⟩
     have hmy:=ju hh;have HL1:Hid (gc (bV x ms s (j+1))=gc (bV x ms s j)):=by unfold Hid;rw [hmy]
     have HC1:Hid ((bV x ms s (j+1)).length<=1):=by unfold Hid;rw [hmy];exact hm1
     clear hmy B6 o6;generalize dl x ms (j:Int) s=y at HST HB ⊢;go_wp2
     go_roundw
     case rel=>exact ⟨j+1,by omega,by go_num,by rw [HL1.out],HC1.out,HST.out,HB.out⟩
     case measure=>simp [intOf];omega
   have ej:j=n:=by omega
   subst ej;rw [Nat.sub_self,List.replicate_zero,List.append_nil] at ho;have hlen:=eQ x ms s j;rcases gP hm1 with h00|⟨p,hp⟩
   . have hl0:gc (bV x ms s j)=-1:=by rw [h00];rfl
     obtain ⟨t1,t2⟩:=jL (x:=x) (ms:=ms) (s:=s) (by rw [HNT.out];exact h00);rw [HNT.out] at t2;have HT1:=aa t1;have HT2:=aa t2;rw [hl0];clear h00 hl0 t1 t2;have FO:=aa ((aS ho.1).widen (lo':=w.heap.size) B2.size (Nat.le_refl _));have FB:=aa (B2.trans (hb.mono B2.size));clear ho hb Xr hlen hm1 hj hlt;go_wp2
     refine bodyPost_ret (v:=.tuple #[.slice (some ⟨w2.heap.size,0,none⟩) j j,.bool true]) (by simp [results,Tryz.results125,go_sem]) rfl ?_
     exact ⟨_,_,_,by rw [HF.out.1,HT1.out],by rw [HF.out.2,HT2.out];exact FO.out,FB.out⟩
   have hl0:gc (bV x ms s j)=(p:Int):=by rw [hp];rfl
   have hpj:p<j:=rK (x:=x) (ms:=ms) (s:=s) (by rw [hp];simp);obtain ⟨t1,t2⟩:=lE (x:=x) (ms:=ms) (s:=s) (p:=p) (by rw [HNT.out];exact hp);rw [HNT.out] at t2;have HT1:=aa t1;have HT2:=aa t2;rw [hl0];clear hp hl0 t1 t2;have hp0:((p:Int) !=-1)=true:=by simp
   have hp1:((p:Int)==-1)=false:=by simp
   have hp2:(0:Int)<=(p:Int):=by omega
   have hp3:(p:Int)<(j:Int):=by omega
   go_wp2_with fail
   refine (jy _ _ _ _ (cJ x ms s j) (p:Int) hlen ho.reads (by omega)).mono ?_
   rintro e w7 ⟨rfl,hs7⟩;have O1:=ho.same hs7;have B7:=hb.trans (hs7.below _);obtain ⟨c1,f1,O2,t2⟩:=O1.store p hpj (dO (cJ x ms s j) (p:Int) j);have FO:=aa ((aS O2.1).widen (lo':=w.heap.size) B2.size (Nat.le_refl _));have FB:=aa (B2.trans ((B7.setCell (p:=⟨w2.heap.size,p,none⟩) (Nat.le_refl _) (.int .i64 (dO (cJ x ms s j) (p:Int) j))).mono B2.size));generalize (cJ x ms s j).getD p 0=y at c1;generalize dO (cJ x ms s j) (p:Int) j=q at FO FB HT2 ⊢;clear O1 O2 t2 ho hb hs7 Xr B7;go_wp2
   refine bodyPost_ret (v:=.tuple #[.slice (some ⟨w2.heap.size,0,none⟩) j j,.bool true]) (by simp [results,Tryz.results125,go_sem]) rfl ?_
   exact ⟨_,_,_,by rw [HF.out.1,HT1.out],by rw [HF.out.2,HT2.out];exact FO.out,FB.out⟩
 rw [hbr] at k12;have HF:Hid (cZ x ms ds s=false/\fj x ms ds s=[]):=by unfold Hid cZ fj mR;simp [hbr]
 have FO:=aa ((aS (bk.lit .i64 3 w1 [] 0 #[] rfl rfl (by unfold maxLen;omega))).widen (lo':=w.heap.size) B1.size (Nat.le_refl _));have FB:=aa (B1.alloc B1.size (.cells #[] 3));go_wp2
 refine bodyPost_ret (v:=.tuple #[.slice (some ⟨w1.heap.size,0,none⟩) 0 0,.bool false]) (by simp [results,Tryz.results125,go_sem]) rfl ?_
 exact ⟨_,_,_,by rw [HF.out.1],by rw [HF.out.2];exact FO.out,FB.out⟩
theorem sy (w:World) (E F G:TypeId) (x:aq) (am ad:Option Addr) (nm cm nd cd:Nat) (ms:List ai) (ds:List (Int×List Int)) (h0:(bI E F).Rd w [.slice am nm cm] ms) (h1:(aW G).Rd w [.slice ad nd cd] ds) (hw:bh ms ds<=2097152):
 Calls Tryz.prog 103 #[.agg #[.int .i64 x.id,.int .i64 x.n,.int .i64 x.s,.slice am nm cm,.int .i64 x.lost,.int .i64 x.xW,.int .i64 x.seq,.int .i64 x.tail,.int .i64 x.gen,.slice ad nd cd,.int .i64 x.xY,.bool x.down,.bool x.xX]] w fun e w'=>e=.returned (.int .i64 (jc x ms ds))/\Below w.heap.size w w':=by
 have hA:=af w (.cells #[.int .i64 x.id,.int .i64 x.n,.int .i64 x.s,.slice am nm cm,.int .i64 x.lost,.int .i64 x.xW,.int .i64 x.seq,.int .i64 x.tail,.int .i64 x.gen,.slice ad nd cd,.int .i64 x.xY,.bool x.down,.bool x.xX] 31);have X:=Box.new w 31 #[.int .i64 x.id,.int .i64 x.n,.int .i64 x.s,.slice am nm cm,.int .i64 x.lost,.int .i64 x.xW,.int .i64 x.seq,.int .i64 x.tail,.int .i64 x.gen,.slice ad nd cd,.int .i64 x.xY,.bool x.down,.bool x.xX];have zX:=X.lt;obtain ⟨k0,k1,k2,k3,k4,k5,k6,k7,k8,k9,k10,k11,k12⟩:=X.cells13;have r0:=h0.below hA;have r1:=h1.below hA;have HV:Hid (jc x ms ds=if bf x ms ds=true then (if x.down=true then 6 else 0) else 1):=rfl;go_enter Tryz.func103,Tryz.ntmps103
 go_wp2_with fail
 generalize w.alloc (.cells #[.int .i64 x.id,.int .i64 x.n,.int .i64 x.s,.slice am nm cm,.int .i64 x.lost,.int .i64 x.xW,.int .i64 x.seq,.int .i64 x.tail,.int .i64 x.gen,.slice ad nd cd,.int .i64 x.xY,.bool x.down,.bool x.xX] 31)=W at hA X zX r0 r1 k0 k1 k2 k3 k4 k5 k6 k7 k8 k9 k10 k11 k12 ⊢;refine (dx _ E F G x _ _ _ _ _ _ ms ds r0 r1 hw).mono ?_
 rintro e w1 ⟨rfl,b1⟩;have X1:=X.below b1 zX;have HB:=aa (Below.andThen hA b1);clear k0 k1 k2 k3 k4 k5 k6 k7 k8 k9 k10 k11 k12 X r0 r1 b1 hA;obtain ⟨k0,k1,k2,k3,k4,k5,k6,k7,k8,k9,k10,k11,k12⟩:=X1.cells13;clear X1;cases ha:bf x ms ds
 . have HR:Hid (1=jc x ms ds):=by unfold Hid;rw [HV.out,if_neg (by simp [ha])]
   clear ha;go_wp2
   go_ret
   exact ⟨aF HR.out,HB.out⟩
 cases hd:x.down
 . have HR:Hid (0=jc x ms ds):=by unfold Hid;rw [HV.out,if_pos ha,if_neg (by simp [hd])]
   rw [hd] at k11;clear ha hd;go_wp2
   go_ret
   exact ⟨aF HR.out,HB.out⟩
 have HR:Hid (6=jc x ms ds):=by unfold Hid;rw [HV.out,if_pos ha,if_pos hd]
 rw [hd] at k11;clear ha hd;go_wp2
 go_ret
 exact ⟨aF HR.out,HB.out⟩
theorem oG (w:World) (E F G:TypeId) (x:aq) (am ad:Option Addr) (nm cm nd cd:Nat) (ms:List ai) (ds:List (Int×List Int)) (s:Int) (h0:(bI E F).Rd w [.slice am nm cm] ms) (h1:(aW G).Rd w [.slice ad nd cd] ds) (hw:bh ms ds<=2097152):
 Calls Tryz.prog 77 #[.agg #[.int .i64 x.id,.int .i64 x.n,.int .i64 x.s,.slice am nm cm,.int .i64 x.lost,.int .i64 x.xW,.int .i64 x.seq,.int .i64 x.tail,.int .i64 x.gen,.slice ad nd cd,.int .i64 x.xY,.bool x.down,.bool x.xX],.int .i64 s] w fun e w'=>e=.returned (.int .i64 (jd x ms ds s))/\Below w.heap.size w w':=by
 have hA:=af w (.cells #[.int .i64 x.id,.int .i64 x.n,.int .i64 x.s,.slice am nm cm,.int .i64 x.lost,.int .i64 x.xW,.int .i64 x.seq,.int .i64 x.tail,.int .i64 x.gen,.slice ad nd cd,.int .i64 x.xY,.bool x.down,.bool x.xX] 31);have X:=Box.new w 31 #[.int .i64 x.id,.int .i64 x.n,.int .i64 x.s,.slice am nm cm,.int .i64 x.lost,.int .i64 x.xW,.int .i64 x.seq,.int .i64 x.tail,.int .i64 x.gen,.slice ad nd cd,.int .i64 x.xY,.bool x.down,.bool x.xX];have zX:=X.lt;obtain ⟨k0,k1,k2,k3,k4,k5,k6,k7,k8,k9,k10,k11,k12⟩:=X.cells13;have r0:=h0.below hA;have r1:=h1.below hA;have HV:Hid (jd x ms ds s=if jc x ms ds=0 then (if bJ x.n x.s s=true then 0 else 2) else jc x ms ds):=rfl;go_enter Tryz.func77,Tryz.ntmps77
 go_wp2_with fail
 generalize w.alloc (.cells #[.int .i64 x.id,.int .i64 x.n,.int .i64 x.s,.slice am nm cm,.int .i64 x.lost,.int .i64 x.xW,.int .i64 x.seq,.int .i64 x.tail,.int .i64 x.gen,.slice ad nd cd,.int .i64 x.xY,.bool x.down,.bool x.xX] 31)=W at hA X zX r0 r1 k0 k1 k2 k3 k4 k5 k6 k7 k8 k9 k10 k11 k12 ⊢;refine (sy _ E F G x _ _ _ _ _ _ ms ds r0 r1 hw).mono ?_
 rintro e w1 ⟨rfl,b1⟩;have X1:=X.below b1 zX;have zX1:=X1.lt;have HB:=aa (Below.andThen hA b1);clear k0 k1 k2 k3 k4 k5 k6 k7 k8 k9 k10 k11 k12 X r0 r1 b1 hA;obtain ⟨k0,k1,k2,k3,k4,k5,k6,k7,k8,k9,k10,k11,k12⟩:=X1.cells13;clear X1;generalize jc x ms ds=q at HV ⊢;by_cases hq:q=0
 . subst hq
   have HV2:Hid (jd x ms ds s=if bJ x.n x.s s=true then 0 else 2):=by unfold Hid;rw [HV.out,if_pos rfl]
   clear HV;go_wp2_with fail
   refine (bQ _ x.n x.s s).mono ?_
   rintro e w2 ⟨rfl,b2⟩;have HB2:=aa (Below.andThen HB.out b2);clear k0 k1 k2 k3 k4 k5 k6 k7 k8 k9 k10 k11 k12 b2 HB;cases hb:bJ x.n x.s s
   . have HR:Hid (2=jd x ms ds s):=by unfold Hid;rw [HV2.out,if_neg (by simp [hb])]
     clear hb;go_wp2
     go_ret
     exact ⟨aF HR.out,HB2.out⟩
   have HR:Hid (0=jd x ms ds s):=by unfold Hid;rw [HV2.out,if_pos hb]
   clear hb;go_wp2
   go_ret
   exact ⟨aF HR.out,HB2.out⟩
 have HR:Hid (q=jd x ms ds s):=by unfold Hid;rw [HV.out,if_neg hq]
 have e0:(q !=0)=true:=by simpa using hq
 clear hq HV;go_wp2
 go_ret
 exact ⟨aF HR.out,HB.out⟩
end Go.Proofs.YtgjomldcnjjpaaaGreat

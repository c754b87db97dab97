/-
 The walk of the specification's l7Code. Condition: the array weighs at most 2097152, at most 2097152 words.
-/
import Derived.Test.YtejokiafgbjdaaaGreatRowFailsBentSq34
import Derived.Test.YtejokiafgbjdaaaGreatRowFailsBentSq33
import Derived.Test.YtejokiafgbjdaaaGreatRowFailsBentSq14
import Derived.Test.YtejokiafgbjdaaaGreatRowFailsBentSq7
import Derived.Test.YtejokiafgbjdaaaGreatRowFailsBentSq3
import Derived.Test.YtejokiafgbjdaaaGreatRowFailsBentSq6
import Derived.Test.YtejokiafgbjdaaaGreatRowFailsBentSq22
import Derived.Test.YtejokiafgbjdaaaGreatRowFailsBentSq5
import Derived.Test.YtejokiafgbjdaaaGreatRowFailsBentSq2

set_option maxRecDepth 100000
set_option maxHeartbeats 8000000
set_option linter.unusedSimpArgs false

namespace Go.Proofs.YtejokiafgbjdaaaGreat
open Go.RowKit

def jp (x:al) (ms:List ai) (ds:List (Int×List Int)):al×List ai:=if (aX x ms ds&&!x.down&&decide (x.gen<60000))=true then cP (x,ms) else (x,ms)
theorem ia {x:al} {ms:List ai} {ds:List (Int×List Int)} (h:aX x ms ds=true):3<=x.n/\x.n<=5/\(ms.length:Int)=x.n:=by
 unfold aX bS at h;simp only [Bool.and_eq_true,az,decide_eq_true_eq] at h
 exact ⟨h.1.1,h.1.2.1,h.2.2.1.2⟩
theorem lJ {ns:List ai} (h:bJ ns) (hl:ns.length<=5):aK ns<=10005:=by
 have h1:=dA (ns.map aJ) 2000 (fun y hy=>by
  obtain ⟨d,hd,rfl⟩:=List.mem_map.1 hy;obtain ⟨i,hi⟩:=List.mem_iff_getElem?.1 hd;obtain ⟨ss,cs,f,bs⟩:=d;exact dB (h i _ hi) f)
 rw [List.length_map] at h1;unfold aK;omega
theorem nv {x:al} {ms:List ai} {ds:List (Int×List Int)} {q:al×List ai} (h:aX x ms ds=true) (hk:bJ q.2) (hl:q.2.length=ms.length) (hw:aM ms ds<=1048576):aM q.2 ds<=2097152:=by
 have h1:=ia h;have h2:=lJ hk (by omega);unfold aM at hw ⊢;omega
theorem po {q:al×List ai} (h:bJ q.2) (hf:q.1.uI<=1000):bJ (cP q).2/\(cP q).2.length=q.2.length:=by
 obtain ⟨a,b,c⟩:=ei (q:=({q.1 with gen:=q.1.gen+1},q.2)) h hf q.2.length;obtain ⟨a2,_,c2⟩:=eU (q:=cX ({q.1 with gen:=q.1.gen+1},q.2) q.2.length) a b.2.2.2.2.2.2.2.2.2.1 q.2.length;exact ⟨a2,c2.trans c⟩
def eE (q:al×List ai) (n:Int) (s:List Int) (j:Nat):al×List ai:=(List.range j).foldl (fun q i=>eZ q i n s) q
def qm (q:al×List ai) (y z:Int) (zs:List Int):al×List ai:=bw (eE q (fh y) (jO y z zs) q.2.length) q.2.length
theorem lS (q:al×List ai) (n:Int) (s:List Int) (j:Nat):eE q n s (j+1)=eZ (eE q n s j) j n s:=by unfold eE;rw [List.range_succ,List.foldl_append];rfl
theorem iD {q:al×List ai} (n:Int) (s:List Int) (h:bJ q.2) (hf:q.1.uI<=1000):∀j,bJ (eE q n s j).2/\dg q.1 (eE q n s j).1/\(eE q n s j).2.length=q.2.length
 | 0=>⟨h,dg.refl hf,rfl⟩
 | j+1=>by
  obtain ⟨h1,h2,h3⟩:=iD n s h hf j;rw [lS];exact ⟨ot h1,h2.trans (fK _ _ h2.2.2.2.2.2.2.2.2.2.1),by unfold eZ;rw [iO];exact h3⟩
theorem tm (x y:Int) (zs:List Int):(jO x y zs).length<=zs.length+4:=by unfold jO;split<;>simp
theorem nw (w:World) (B:Nat) (x:al) (ms:List ai) (ds:List (Int×List Int)) (fm fd:List Nat) (h:aD w B x ms ds fm fd) (hf:x.uI<=1000) (hM:bJ ms) (y z:Int) (ar:Option Addr) (nr cr:Nat) (zs:List Int) (fr:List Nat) (h5:aA.Mine w [.slice ar nr cr] zs fr) (h5B:B∉fr) (h5f:∀b∈fr,b∉fm) (hnr:nr<=2000000):
 Calls Tryz.prog 185 #[.pointer (some ⟨B,0,none⟩),.agg #[.int .i64 y,.int .i64 z,.slice ar nr cr]] w fun e w'=>e=.returned (.tuple #[])/\∃fm',aD w' B (qm (x,ms) y z zs).1 (qm (x,ms) y z zs).2 ds fm' fd/\aI B fm w fm' w':=by
 have hzl:=(ae h5.rd).1;have HK:Hid (∀j,_):=fun j=>iD (q:=(x,ms)) (fh y) (jO y z zs) hM hf j;have HRK:Hid (qm (x,ms) y z zs=bw (eE (x,ms) (fh y) (jO y z zs) ms.length) ms.length):=rfl;obtain ⟨P,hPP⟩:∃P,jO y z zs=P:=⟨_,rfl⟩;have hPl:P.length<=nr+4:=by rw [←hPP,←hzl];exact tm y z zs
 have HPP:=aa hPP;rw [hPP] at HK HRK;clear hPP;have hA:=ah w (.cells #[.int .i64 y,.int .i64 z,.slice ar nr cr] 153);have YB:=Box.new w 153 #[.int .i64 y,.int .i64 z,.slice ar nr cr];have zY:=YB.lt;have zB:=h.lt;have hlm:=h.ltm.1;have hlr:=h5.lt;have A0:=aa (h.below hA);have M5:=aa (h5.below hA);have BA:=aa hA;have hmx:∃cm0,ms.length<=cm0/\cm0<=9223372036854775807:=by
  obtain ⟨_,_,cm0,_,_,hm0,_⟩:=h;exact ⟨cm0,(ae hm0.rd).2⟩
 obtain ⟨cm0,hmx⟩:=hmx;go_enter Tryz.func185,Tryz.ntmps185
 go_wp2
 have zW:(w.alloc (.cells #[.int .i64 y,.int .i64 z,.slice ar nr cr] 153)).heap.size=w.heap.size+1:=by simp
 have YH:=aa YB;clear YB hA;generalize w.alloc (.cells #[.int .i64 y,.int .i64 z,.slice ar nr cr] 153)=W at A0 M5 BA YH zY zW ⊢;go_loopw [4] (fun i wr=>∃(j:Nat) (fm1:List Nat),j<=ms.length/\i=.int .i64 j/\aD wr B (eE (x,ms) (fh y) P j).1 (eE (x,ms) (fh y) P j).2 ds fm1 fd/\aI B fm W fm1 wr) (fun i _=>ms.length-(intOf i).toNat)
 case atStart=>exact ⟨0,fm,Nat.zero_le _,rfl,A0.out,aI.refl _ _ _⟩
 obtain ⟨j,fm1,hj,rfl,hA,hMv⟩:=hrel;obtain ⟨hMj,hsj,hlj⟩:=HK.out j;have hfj:=hsj.2.2.2.2.2.2.2.2.2.1;have HS:=aa (lS (x,ms) (fh y) P j);generalize hst:eE (x,ms) (fh y) P j=st at hA hMj hsj hlj hfj HS;have HST:=aa hst;clear hst;obtain ⟨y1,ns⟩:=st;dsimp only at hA hMj hsj hlj hfj HS
 clear hsj;have HA:=aa hA;obtain ⟨bm,bd,cm,cd,X,hmm,hdd,hr,r1,r2⟩:=hA;rw [hlj] at X;unfold aC at X;have k3:=X.cells13.2.2.2.1;clear hmm hdd hr r1 r2 X;have yb:=hMv.box YH.out (by omega) (fun hm=>by have:=hlm _ hm;omega);have m5:=hMv.mine M5.out h5B h5f;have zw:=hMv.size;have zr:=HA.out.lt;by_cases hjn:j<ms.length
 . have i2:(j:Int)<(ms.length:Int):=by omega
   obtain ⟨y0,y1',y2'⟩:=yb.cells3;have MV:=aa hMv;have RD:=aa ((aO m5.rd).1);have zyb:=yb.lt;have YBH:=aa yb;clear hMv m5 yb;have hS:wr.drew.cell? ⟨w.heap.size,0,none⟩=some (.int .i64 y)/\wr.drew.cell? ⟨w.heap.size,1,none⟩=some (.int .i64 z)/\wr.drew.cell? ⟨w.heap.size,2,none⟩=some (.slice ar nr cr):=⟨y0,y1',y2'⟩;go_wp2_with fail
   refine wp_region_held_drew (S:=fun w'=>w'.cell? ⟨w.heap.size,0,none⟩=some (.int .i64 y)/\w'.cell? ⟨w.heap.size,1,none⟩=some (.int .i64 z)/\w'.cell? ⟨w.heap.size,2,none⟩=some (.slice ar nr cr)) (by kernel_rfl) ?_ (fun uF=>?_)
   . exact hS
   refine ab 0 uF ?_
   refine ab 1 uF ?_
   refine ab 2 uF ?_
   refine ab 3 uF ?_
   refine ab 5 uF ?_
   refine au (i:=4) (by kernel_rfl) rfl (by kernel_rfl) (fun K hK=>?_)
   go_simp
   refine (lP _ _).mono ?_
   rintro e w9 ⟨rfl,h9⟩;subst h9;go_wp2_with fail
   clear uF;refine hK.out _ _ ?_ (fun uF=>?_)
   . exact hS
   clear hK K;refine au (i:=6) (by kernel_rfl) rfl (by kernel_rfl) (fun K hK=>?_)
   go_simp
   refine (lR _ y z _ _ _ zs hzl RD.out.draw (by omega)).mono ?_
   rintro e w2 ⟨ap,lp,cp,rfl,o2,b2'⟩;have b2:Below wr.heap.size wr w2:=(Below.refl wr.heap.size wr).drew.trans b2';have o2b:aA.Own w2 wr.heap.size w2.heap.size [.slice ap lp cp] P:=by rw [←HPP.out];exact o2
   obtain ⟨fpp,mp,rp⟩:=o2b.mine;have hlp:lp<=2000004:=by have h1:=(ae o2b.rd).1;omega
   have hS2:w2.cell? ⟨w.heap.size,0,none⟩=some (.int .i64 y)/\w2.cell? ⟨w.heap.size,1,none⟩=some (.int .i64 z)/\w2.cell? ⟨w.heap.size,2,none⟩=some (.slice ar nr cr):=⟨(b2.cell (p:=⟨w.heap.size,0,none⟩) zyb).trans y0,(b2.cell (p:=⟨w.heap.size,1,none⟩) zyb).trans y1',(b2.cell (p:=⟨w.heap.size,2,none⟩) zyb).trans y2'⟩;have A2:=aa (HA.out.below b2);have LT:=aa HA.out.ltm;have MV2:=aa (MV.out.below b2);have YB2:=aa (YBH.out.below b2 zyb);have MP:=aa mp;have RP:=aa rp;have z2:=b2.size;clear y0 y1' y2' o2 o2b b2 b2' mp rp MV HA YBH RD;go_wp2_with fail
   clear uF;refine hK.out _ _ ?_ (fun uF=>?_)
   . exact hS2
   clear hK K;refine au (i:=7) (by kernel_rfl) rfl (by kernel_rfl) (fun K hK=>?_)
   go_simp
   refine (gN _ B y1 ns ds fm1 fd A2.out hfj hMj j (by omega) _ _ _ _ P fpp MP.out (fun hm=>by have:=RP.out _ hm;omega) (fun b hb hm=>by have h1:=RP.out b hb;have h2:=LT.out.1 b hm;omega) (by omega)).mono ?_
   rintro e w3 ⟨rfl,fm3,hA3,hMv3⟩;have HM3:=aa (MV2.out.trans hMv3);have YB3:=HM3.out.box YH.out (by omega) (fun hm=>by have:=hlm _ hm;omega);have hS3:w3.cell? ⟨w.heap.size,0,none⟩=some (.int .i64 y)/\w3.cell? ⟨w.heap.size,1,none⟩=some (.int .i64 z)/\w3.cell? ⟨w.heap.size,2,none⟩=some (.slice ar nr cr):=YB3.cells3;have HA3:Hid (aD w3 B (eE (x,ms) (fh y) P (j+1)).1 (eE (x,ms) (fh y) P (j+1)).2 ds fm3 fd):=by unfold Hid;rw [HS.out];exact hA3
   clear hA3 hMv3 A2 MV2 MP RP LT hS2 YB2 YB3;go_wp2_with fail
   clear uF;refine hK.out _ _ ?_ (fun uF=>?_)
   . exact hS3
   clear hK K;refine wpAnyH_done (by kernel_rfl) ?_ _
   clear uF;clear hS hS3;go_wp2
   go_roundw
   case rel=>exact ⟨j+1,fm3,by omega,by go_num,HA3.out,HM3.out⟩
   case measure=>simp [intOf];omega
 have ej:j=ms.length:=by omega
 subst ej;have HMV:=aa (((aI.refl B fm w).below BA.out).trans hMv);clear hMv m5 yb;go_wp2_with fail
 refine (ja _ B y1 ns ds fm1 fd HA.out hfj hMj).mono ?_
 rintro e w3 ⟨rfl,fm3,hA3,hMv3⟩;clear k3;go_wp2
 refine bodyPost_end (v:=.tuple #[]) (results_none rfl _ _ _) rfl ?_
 exact ⟨rfl,fm3,by rw [HRK.out,HST.out,←hlj];exact hA3,HMV.out.trans hMv3⟩
def wr1 (q:al×List ai):al×List ai:=if 4<=q.1.seq-q.1.tail then dQ q else q
def wr2 (q:al×List ai) (s:Int) (zs:List Int):al×List ai:=qm q q.1.seq s zs
def wr3 (q:al×List ai) (s:Int) (zs:List Int):al×List ai:=bj ({q.1 with seq:=q.1.seq+1},q.2) s (fD q.1.n q.1.s s) zs q.2.length
def ou (q:al×List ai) (s:Int) (zs:List Int):al×List ai:=if (wr2 q s zs).1.down=true then wr2 q s zs else wr3 (wr2 q s zs) s zs
def aQ (q:al×List ai) (s:Int) (zs:List Int):al×List ai:=if (wr1 q).1.down=true then wr1 q else ou (wr1 q) s zs
def cI (x:al) (ms:List ai) (ds:List (Int×List Int)) (s:Int) (zs:List Int):Int:=
 if (aX x ms ds&&(decide ((zs.length:Int)=x.n-1)&&cE zs))=false then 1 else if x.down=true then 6 else if inB s 0 (x.s-1)=false then 2 else if x.uH=true then 5 else if x.seq=60000∨59990<=x.gen then 7 else 0
def dY (x:al) (ms:List ai) (ds:List (Int×List Int)) (s:Int) (zs:List Int):al×List ai:=if cI x ms ds s zs=0 then aQ (x,ms) s zs else (x,ms)
def dt (x:al) (ms:List ai) (ds:List (Int×List Int)) (s:Int) (zs:List Int):Int:=if cI x ms ds s zs=0 then (if (aQ (x,ms) s zs).1.down=true then 6 else 0) else cI x ms ds s zs
theorem jP {x:al} {ms:List ai} {ds:List (Int×List Int)} {s:Int} {zs:List Int} (h:cI x ms ds s zs=0):aX x ms ds=true/\(zs.length:Int)=x.n-1/\cE zs=true/\x.down=false/\inB s 0 (x.s-1)=true/\x.uH=false/\¬x.seq=60000/\x.gen<59990:=by
 unfold cI at h;split at h
 . cases h
 rename_i h1
 split at h
 . cases h
 rename_i h2
 split at h
 . cases h
 rename_i h3
 split at h
 . cases h
 rename_i h4
 split at h
 . cases h
 rename_i h5
 simp only [Bool.not_eq_false,Bool.and_eq_true,decide_eq_true_eq] at h1
 refine ⟨h1.1,h1.2.1,h1.2.2,by simpa using h2,by simpa using h3,by simpa using h4,fun e=>h5 (.inl e),?_⟩
 have:¬59990<=x.gen:=fun e=>h5 (.inr e);omega
def Fit (q q':al×List ai):Prop:=bJ q'.2/\q'.2.length=q.2.length/\q'.1.n=q.1.n/\q'.1.s=q.1.s/\q'.1.seq=q.1.seq/\q'.1.uI<=1000
theorem Fit.trans {a b c:al×List ai} (h:Fit a b) (k:Fit b c):Fit a c:=⟨k.1,k.2.1.trans h.2.1,k.2.2.1.trans h.2.2.1,k.2.2.2.1.trans h.2.2.2.1,k.2.2.2.2.1.trans h.2.2.2.2.1,k.2.2.2.2.2⟩
theorem lT {q q':al×List ai} (h1:bJ q'.2) (h2:dg q.1 q'.1) (h3:q'.2.length=q.2.length):Fit q q':=⟨h1,h3,h2.2.1,h2.2.2.1,h2.2.2.2.2.2.1,h2.2.2.2.2.2.2.2.2.2.1⟩
theorem lU {q:al×List ai} (h:bJ q.2) (hf:q.1.uI<=1000) (j:Nat):Fit q (bw q j):=by
 obtain ⟨a,b,c⟩:=eU h hf j;exact lT a b c
theorem tp {q:al×List ai} (h:bJ q.2) (hf:q.1.uI<=1000):Fit q (cP q):=by
 obtain ⟨a,b,c⟩:=ei (q:=({q.1 with gen:=q.1.gen+1},q.2)) h hf q.2.length;have h1:=lT (q:=({q.1 with gen:=q.1.gen+1},q.2)) a b c;exact Fit.trans (show Fit q (cX ({q.1 with gen:=q.1.gen+1},q.2) q.2.length) from h1) (lU a h1.2.2.2.2.2 _)
theorem rW {q:al×List ai} (h:bJ q.2) (hf:q.1.uI<=1000):Fit q (dQ q):=by
 have h1:=lU h hf q.2.length;unfold dQ;split
 . exact h1
 exact h1.trans (tp (q:=({(bw q q.2.length).1 with tail:=(bw q q.2.length).1.seq},(bw q q.2.length).2)) h1.1 h1.2.2.2.2.2)
theorem rk {q:al×List ai} (h:bJ q.2) (hf:q.1.uI<=1000):Fit q (wr1 q):=by
 unfold wr1;split
 . exact rW h hf
 exact ⟨h,rfl,rfl,rfl,rfl,hf⟩
theorem tq {q:al×List ai} (h:bJ q.2) (hf:q.1.uI<=1000) (n:Int) (s:List Int) (j:Nat):Fit q (eE q n s j):=by
 obtain ⟨a,b,c⟩:=iD n s h hf j;exact lT a b c
theorem oz {q:al×List ai} (h:bJ q.2) (hf:q.1.uI<=1000) (s:Int) (zs:List Int):Fit q (wr2 q s zs):=by
 have h1:=tq h hf (fh q.1.seq) (jO q.1.seq s zs) q.2.length;exact h1.trans (lU h1.1 h1.2.2.2.2.2 _)
theorem oA {q:al×List ai} (h:bJ q.2) (hf:q.1.uI<=1000) (s:Int) (zs:List Int):bJ (aQ q s zs).2/\(aQ q s zs).2.length=q.2.length:=by
 have h1:=rk h hf;unfold aQ;split
 . exact ⟨h1.1,h1.2.1⟩
 have h2:=h1.trans (oz h1.1 h1.2.2.2.2.2 s zs);unfold ou;split
 . exact ⟨h2.1,h2.2.1⟩
 obtain ⟨a,_,c⟩:=ib (q:=({(wr2 (wr1 q) s zs).1 with seq:=(wr2 (wr1 q) s zs).1.seq+1},(wr2 (wr1 q) s zs).2)) s (fD (wr2 (wr1 q) s zs).1.n (wr2 (wr1 q) s zs).1.s s) zs h2.1 h2.2.2.2.2.2 (wr2 (wr1 q) s zs).2.length;exact ⟨a,c.trans h2.2.1⟩
theorem rX (x:Sup):(dH x).length<=9:=by unfold dH;split<;>simp
theorem ic (w:World) (B:Nat) (x:al) (ms:List ai) (ds:List (Int×List Int)) (fm fd:List Nat) (h:aD w B x ms ds fm fd) (hf:x.uI<=1000) (hM:bJ ms) (hg0:0<=x.gen) (hg1:x.gen<=60000):
 Calls Tryz.prog 139 #[.pointer (some ⟨B,0,none⟩)] w fun e w'=>e=.returned (.tuple #[])/\∃fm',aD w' B (cP (x,ms)).1 (cP (x,ms)).2 ds fm' fd/\aI B fm w fm' w':=by
 obtain ⟨x1,hx1⟩:∃x1:al,x1={x with gen:=x.gen+1}:=⟨_,rfl⟩;have hf1:x1.uI<=1000:=by rw [hx1];exact hf
 have hgen:x1.gen=x.gen+1:=by rw [hx1]
 have hgw:IntKind.i64.wrap (x.gen+1)=x.gen+1:=IntWalk.i64_in _ (by omega);have HK:Hid (∀j,_):=fun j=>ei (q:=(x1,ms)) hM hf1 j;have HMK:Hid (cP (x,ms)=bw (cX (x1,ms) ms.length) ms.length):=by rw [hx1];rfl
 obtain ⟨bm0,bd0,cm0,cd0,X0,hm0,hd0,hr0,r10,r20⟩:=h;have hmx:=(ae hm0.rd).2;have A1:Hid (aD (w.setCell ⟨B,8,none⟩ (.int .i64 (x.gen+1))) B x1 ms ds fm fd):=by
  unfold Hid;rw [hx1];exact ⟨bm0,bd0,cm0,cd0,X0.set 8 (.int .i64 (x.gen+1)),hm0.setCell (g:=B) (j:=8) r10 _,hd0.setCell (g:=B) (j:=8) r20 _,hr0,r10,r20⟩
 have M1:=aa (aI.set (B:=B) (j:=8) (fm:=fm) (w:=w) (.int .i64 (x.gen+1)));unfold aC at X0;obtain ⟨k0,k1,k2,k3,k4,k5,k6,k7,k8,k9,k10,k11,k12⟩:=X0.cells13;have fz:=X0.frozen;have hgn:0<=x1.gen/\x1.gen<=60001:=by omega
 clear X0 hm0 hd0 hr0 r10 r20 hx1 hgen;go_enter Tryz.func139,Tryz.ntmps139
 go_wp2
 generalize w.setCell ⟨B,8,none⟩ (.int .i64 (x.gen+1))=W at A1 M1 ⊢;clear k0 k1 k2 k3 k4 k5 k6 k7 k8 k9 k10 k11 k12 fz;go_loopw [2] (fun i wr=>∃(j:Nat) (fm1:List Nat),j<=ms.length/\i=.int .i64 j/\aD wr B (cX (x1,ms) j).1 (cX (x1,ms) j).2 ds fm1 fd/\aI B fm w fm1 wr) (fun i _=>ms.length-(intOf i).toNat)
 case atStart=>exact ⟨0,fm,Nat.zero_le _,rfl,A1.out,M1.out⟩
 clear A1 M1;obtain ⟨j,fm1,hj,rfl,hA,hMv⟩:=hrel;obtain ⟨hMj,hsj,hlj⟩:=HK.out j;have hfj:=hsj.2.2.2.2.2.2.2.2.2.1;have hgj:=hsj.2.2.2.2.2.2.2.1;have HS:=aa (hY (x1,ms) j);generalize hst:cX (x1,ms) j=st at hA hMj hsj hlj hfj hgj HS;have HST:=aa hst;clear hst;obtain ⟨y,ns⟩:=st;dsimp only at hA hMj hsj hlj hfj hgj HS
 have hgy:0<=y.gen/\y.gen<=60001:=by omega
 clear hgj hsj;have HA:=aa hA;obtain ⟨bm,bd,cm,cd,X,hmm,hdd,hr,r1,r2⟩:=hA;rw [hlj] at X;unfold aC at X;have zB:=X.lt;have XH:=aa X;obtain ⟨k0,k1,k2,k3,k4,k5,k6,k7,k8,k9,k10,k11,k12⟩:=X.cells13;clear hmm hdd hr r1 r2 X;by_cases hjn:j<ms.length
 . have i2:(j:Int)<(ms.length:Int):=by omega
   have t2:y.gen.tmod 2=y.gen % 2:=Int.tmod_eq_emod_of_nonneg hgy.1;have t3:IntKind.i64.wrap (y.gen % 2)=y.gen % 2:=IntWalk.i64_in _ (by omega);have t4:¬(2:Int)=0:=by omega
   have MV:=aa hMv;clear hMv;have hS:wr.drew.cell? ⟨B,0,none⟩=some (.int .i64 y.id)/\wr.drew.cell? ⟨B,1,none⟩=some (.int .i64 y.n)/\wr.drew.cell? ⟨B,2,none⟩=some (.int .i64 y.s)/\wr.drew.cell? ⟨B,4,none⟩=some (.int .i64 y.lost)/\wr.drew.cell? ⟨B,5,none⟩=some (.int .i64 y.uG)/\wr.drew.cell? ⟨B,7,none⟩=some (.int .i64 y.tail)/\wr.drew.cell? ⟨B,8,none⟩=some (.int .i64 y.gen):=⟨k0,k1,k2,k4,k5,k7,k8⟩;go_wp2_with fail
   refine wp_region_held_drew (S:=fun w'=>w'.cell? ⟨B,0,none⟩=some (.int .i64 y.id)/\w'.cell? ⟨B,1,none⟩=some (.int .i64 y.n)/\w'.cell? ⟨B,2,none⟩=some (.int .i64 y.s)/\w'.cell? ⟨B,4,none⟩=some (.int .i64 y.lost)/\w'.cell? ⟨B,5,none⟩=some (.int .i64 y.uG)/\w'.cell? ⟨B,7,none⟩=some (.int .i64 y.tail)/\w'.cell? ⟨B,8,none⟩=some (.int .i64 y.gen)) (by kernel_rfl) ?_ (fun uF=>?_)
   . exact hS
   refine ab 0 uF ?_
   refine ab 1 uF ?_
   refine ab 2 uF ?_
   refine ab 3 uF ?_
   refine ab 4 uF ?_
   refine ab 5 uF ?_
   refine ab 6 uF ?_
   refine ab 7 uF ?_
   refine ab 8 uF ?_
   refine ab 9 uF ?_
   refine ab 10 uF ?_
   refine ab 11 uF ?_
   refine ab 12 uF ?_
   refine ab 13 uF ?_
   refine ab 14 uF ?_
   refine ab 15 uF ?_
   refine ab 16 uF ?_
   refine ab 17 uF ?_
   refine ab 18 uF ?_
   refine ab 19 uF ?_
   refine ab 20 uF ?_
   refine ab 21 uF ?_
   refine ab 22 uF ?_
   refine ab 23 uF ?_
   refine ab 24 uF ?_
   refine ab 25 uF ?_
   refine ab 26 uF ?_
   refine ab 27 uF ?_
   refine ab 28 uF ?_
   refine ab 29 uF ?_
   refine ab 30 uF ?_
   refine ab 31 uF ?_
   refine ab 32 uF ?_
   refine ab 33 uF ?_
   refine ab 34 uF ?_
   refine ab 35 uF ?_
   refine ab 36 uF ?_
   refine ab 37 uF ?_
   refine ab 38 uF ?_
   refine au (i:=39) (by kernel_rfl) rfl (by kernel_rfl) (fun K hK=>?_)
   go_simp
   refine (gG _ (gk y j)).mono ?_
   rintro e w2 ⟨ap,lp,cp,rfl,o2,b2'⟩;have b2:Below wr.heap.size wr w2:=(Below.refl wr.heap.size wr).drew.trans b2';have o2b:aA.Own w2 wr.heap.size w2.heap.size [.slice ap lp cp] (dH (gk y j)):=o2;obtain ⟨fpp,mp,rp⟩:=o2b.mine;have hlp:lp<=9:=by have h1:=(ae o2b.rd).1;have h2:=rX (gk y j);omega
   have hS2:w2.cell? ⟨B,0,none⟩=some (.int .i64 y.id)/\w2.cell? ⟨B,1,none⟩=some (.int .i64 y.n)/\w2.cell? ⟨B,2,none⟩=some (.int .i64 y.s)/\w2.cell? ⟨B,4,none⟩=some (.int .i64 y.lost)/\w2.cell? ⟨B,5,none⟩=some (.int .i64 y.uG)/\w2.cell? ⟨B,7,none⟩=some (.int .i64 y.tail)/\w2.cell? ⟨B,8,none⟩=some (.int .i64 y.gen):=⟨(b2.cell (p:=⟨B,0,none⟩) zB).trans k0,(b2.cell (p:=⟨B,1,none⟩) zB).trans k1,(b2.cell (p:=⟨B,2,none⟩) zB).trans k2,(b2.cell (p:=⟨B,4,none⟩) zB).trans k4,(b2.cell (p:=⟨B,5,none⟩) zB).trans k5,(b2.cell (p:=⟨B,7,none⟩) zB).trans k7,(b2.cell (p:=⟨B,8,none⟩) zB).trans k8⟩;have A2:=aa (HA.out.below b2);have LT:=aa HA.out.ltm;have MV2:=aa (MV.out.below b2);have MP:=aa mp;have RP:=aa rp;clear k0 k1 k2 k3 k4 k5 k6 k7 k8 k9 k10 k11 k12 o2 o2b b2 b2' mp rp MV HA;go_wp2_with fail
   clear uF;refine hK.out _ _ ?_ (fun uF=>?_)
   . exact hS2
   clear hK K;refine au (i:=40) (by kernel_rfl) rfl (by kernel_rfl) (fun K hK=>?_)
   go_simp
   refine (gN _ B y ns ds fm1 fd A2.out hfj hMj j (by omega) _ _ _ _ (dH (gk y j)) fpp MP.out (fun hm=>by have:=RP.out _ hm;omega) (fun b hb hm=>by have h1:=RP.out b hb;have h2:=LT.out.1 b hm;omega) (by omega)).mono ?_
   rintro e w3 ⟨rfl,fm3,hA3,hMv3⟩;have hsm:dg y (eZ (y,ns) j (y.gen % 2) (dH (gk y j))).1:=fK _ _ hfj;have hS3:w3.cell? ⟨B,0,none⟩=some (.int .i64 y.id)/\w3.cell? ⟨B,1,none⟩=some (.int .i64 y.n)/\w3.cell? ⟨B,2,none⟩=some (.int .i64 y.s)/\w3.cell? ⟨B,4,none⟩=some (.int .i64 y.lost)/\w3.cell? ⟨B,5,none⟩=some (.int .i64 y.uG)/\w3.cell? ⟨B,7,none⟩=some (.int .i64 y.tail)/\w3.cell? ⟨B,8,none⟩=some (.int .i64 y.gen):=by
    obtain ⟨_,_,_,_,X3,_⟩:=hA3;unfold aC at X3;obtain ⟨k0,k1,k2,k3,k4,k5,k6,k7,k8,k9,k10,k11,k12⟩:=X3.cells13;obtain ⟨e1,e2,e3,e4,e5,e6,e7,e8,_⟩:=hsm;rw [e1] at k0;rw [e2] at k1;rw [e3] at k2;rw [e4] at k4;rw [e5] at k5;rw [e7] at k7;rw [e8] at k8;exact ⟨k0,k1,k2,k4,k5,k7,k8⟩
   have HA3:Hid (aD w3 B (cX (x1,ms) (j+1)).1 (cX (x1,ms) (j+1)).2 ds fm3 fd):=by unfold Hid;rw [HS.out];exact hA3
   have HM3:=aa (MV2.out.trans hMv3);clear hA3 hMv3 A2 MV2 MP RP LT hS2 hsm;go_wp2_with fail
   clear uF;refine hK.out _ _ ?_ (fun uF=>?_)
   . exact hS3
   clear hK K;refine wpAnyH_done (by kernel_rfl) ?_ _
   clear uF;clear hS hS3;go_wp2
   go_roundw
   case rel=>exact ⟨j+1,fm3,by omega,by go_num,HA3.out,HM3.out⟩
   case measure=>simp [intOf];omega
 have ej:j=ms.length:=by omega
 subst ej;have HMV:=aa hMv;clear hMv;go_wp2_with fail
 refine (ja _ B y ns ds fm1 fd HA.out hfj hMj).mono ?_
 rintro e w3 ⟨rfl,fm3,hA3,hMv3⟩;clear k0 k1 k2 k3 k4 k5 k6 k7 k8 k9 k10 k11 k12;go_wp2
 refine bodyPost_end (v:=.tuple #[]) (results_none rfl _ _ _) rfl ?_
 exact ⟨rfl,fm3,by rw [HMK.out,HST.out,←hlj];exact hA3,HMV.out.trans hMv3⟩
theorem iE (w:World) (B:Nat) (x:al) (ms:List ai) (ds:List (Int×List Int)) (fm fd:List Nat) (h:aD w B x ms ds fm fd) (hf:x.uI<=1000) (hM:bJ ms) (hg0:0<=x.gen) (hg1:x.gen<=60000):
 Calls Tryz.prog 158 #[.pointer (some ⟨B,0,none⟩)] w fun e w'=>e=.returned (.tuple #[])/\∃fm',aD w' B (dQ (x,ms)).1 (dQ (x,ms)).2 ds fm' fd/\aI B fm w fm' w':=by
 obtain ⟨hMj,hsj,hlj⟩:=eU (q:=(x,ms)) hM hf ms.length;have hfj:=hsj.2.2.2.2.2.2.2.2.2.1;have hgj:=hsj.2.2.2.2.2.2.2.1;have HC:Hid (dQ (x,ms)=if (bw (x,ms) ms.length).1.down=true then bw (x,ms) ms.length else cP ({(bw (x,ms) ms.length).1 with tail:=(bw (x,ms) ms.length).1.seq},(bw (x,ms) ms.length).2)):=rfl;go_enter Tryz.func158,Tryz.ntmps158
 go_wp2_with fail
 refine (ja _ B x ms ds fm fd h hf hM).mono ?_
 rintro e w1 ⟨rfl,fm1,hA,hMv⟩;generalize bw (x,ms) ms.length=st at hA hMj hsj hlj hfj hgj HC;obtain ⟨y,ns⟩:=st;dsimp only at hA hMj hsj hlj hfj hgj HC
 have HA:=aa hA;obtain ⟨bm,bd,cm,cd,X,hmm,hdd,hr,r1,r2⟩:=hA;have X0:=X;unfold aC at X0;obtain ⟨k0,k1,k2,k3,k4,k5,k6,k7,k8,k9,k10,k11,k12⟩:=X0.cells13;have fz:=X0.frozen;cases hdn:y.down
 . rw [hdn] at k11
   have HC2:Hid (dQ (x,ms)=cP ({y with tail:=y.seq},ns)):=by unfold Hid;rw [HC.out,if_neg (by simp [hdn])]
   have A2:Hid (aD (w1.setCell ⟨B,7,none⟩ (.int .i64 y.seq)) B {y with tail:=y.seq} ns ds fm1 fd):=⟨bm,bd,cm,cd,X.set 7 (.int .i64 y.seq),hmm.setCell (g:=B) (j:=7) r1 _,hdd.setCell (g:=B) (j:=7) r2 _,hr,r1,r2⟩;have M2:=aa (hMv.trans (aI.set (B:=B) (j:=7) (fm:=fm1) (.int .i64 y.seq)));clear X X0 hmm hdd hMv HA hdn;go_wp2_with fail
   refine (ic _ B {y with tail:=y.seq} ns ds fm1 fd A2.out hfj hMj (by dsimp only;omega) (by dsimp only;omega)).mono ?_
   rintro e w3 ⟨rfl,fm3,hA3,hMv3⟩;clear k0 k1 k2 k3 k4 k5 k6 k7 k8 k9 k10 k11 k12 fz;go_wp2
   refine bodyPost_end (v:=.tuple #[]) (results_none rfl _ _ _) rfl ?_
   exact ⟨rfl,fm3,by rw [HC2.out];exact hA3,M2.out.trans hMv3⟩
 rw [hdn] at k11;have HC2:Hid (dQ (x,ms)=(y,ns)):=by unfold Hid;rw [HC.out,if_pos hdn]
 clear X X0 hmm hdd hdn;go_wp2
 refine bodyPost_ret (v:=.tuple #[]) (by simp [results,Tryz.results158,go_sem]) rfl ?_
 exact ⟨rfl,fm1,by rw [HC2.out];exact HA.out,hMv⟩
theorem qo (w:World) (E F G:TypeId) (x:al) (am ad:Option Addr) (nm cm nd cd:Nat) (ms:List ai) (ds:List (Int×List Int)) (h0:(bk E F).Rd w [.slice am nm cm] ms) (h1:(aU G).Rd w [.slice ad nd cd] ds) (hw:aM ms ds<=2097152) (s:Int) (ar:Option Addr) (cr:Nat) (zs:List Int) (h5:aA.Rd w [.slice ar zs.length cr] zs) (hz5:zs.length<=2097152):
 Calls Tryz.prog 124 #[.agg #[.int .i64 x.id,.int .i64 x.n,.int .i64 x.s,.slice am nm cm,.int .i64 x.lost,.int .i64 x.uG,.int .i64 x.seq,.int .i64 x.tail,.int .i64 x.gen,.slice ad nd cd,.int .i64 x.uI,.bool x.down,.bool x.uH],.int .i64 s,.slice ar zs.length cr] w fun e w'=>e=.returned (.int .i64 (cI x ms ds s zs))/\Below w.heap.size w w':=by
 have hA:=ah w (.cells #[.int .i64 x.id,.int .i64 x.n,.int .i64 x.s,.slice am nm cm,.int .i64 x.lost,.int .i64 x.uG,.int .i64 x.seq,.int .i64 x.tail,.int .i64 x.gen,.slice ad nd cd,.int .i64 x.uI,.bool x.down,.bool x.uH] 29);have X0:=Box.new w 29 #[.int .i64 x.id,.int .i64 x.n,.int .i64 x.s,.slice am nm cm,.int .i64 x.lost,.int .i64 x.uG,.int .i64 x.seq,.int .i64 x.tail,.int .i64 x.gen,.slice ad nd cd,.int .i64 x.uI,.bool x.down,.bool x.uH];have zX:=X0.lt;have r0:=h0.below hA;have r1:=h1.below hA;have r5:=h5.below hA;obtain ⟨k0,k1,k2,k3,k4,k5,k6,k7,k8,k9,k10,k11,k12⟩:=X0.cells13;go_enter Tryz.func124,Tryz.ntmps124
 go_wp2_with fail
 generalize w.alloc (.cells #[.int .i64 x.id,.int .i64 x.n,.int .i64 x.s,.slice am nm cm,.int .i64 x.lost,.int .i64 x.uG,.int .i64 x.seq,.int .i64 x.tail,.int .i64 x.gen,.slice ad nd cd,.int .i64 x.uI,.bool x.down,.bool x.uH] 29)=W at hA X0 zX r0 r1 r5 k0 k1 k2 k3 k4 k5 k6 k7 k8 k9 k10 k11 k12 ⊢;refine (eP _ E F G x _ _ _ _ _ _ ms ds r0 r1 hw).mono ?_
 rintro e w1 ⟨rfl,b1⟩;have X1:=X0.below b1 zX;have p5:=r5.below b1;have B1:=Below.andThen hA b1;clear k0 k1 k2 k3 k4 k5 k6 k7 k8 k9 k10 k11 k12 X0 r0 r1 r5 b1 hA zX;obtain ⟨k0,k1,k2,k3,k4,k5,k6,k7,k8,k9,k10,k11,k12⟩:=X1.cells13;cases ha:aX x ms ds
 . have HV:Hid (cI x ms ds s zs=1):=by unfold Hid cI;rw [ha,Bool.false_and,if_pos rfl]
   clear ha;have HB:=aa B1;clear B1;go_wp2
   go_ret
   exact ⟨aP HV.out.symm,HB.out⟩
 have hln:=ia ha;have hrg:x.seq<=60000/\1<=x.s/\x.s<=8/\bI x.n x.s=true:=by
  unfold aX dM at ha;simp only [Bool.and_eq_true,aG,decide_eq_true_eq] at ha
  obtain ⟨hgeo,_,_,_,_,htl,hsq2,hst,_⟩:=ha;have:=az.1 hgeo;exact ⟨hsq2.2,this.2.2.1,this.2.2.2,hgeo⟩
 obtain ⟨hn3,hn5,hnl⟩:=hln;clear hnl;obtain ⟨hq6,hs1,hs8,hgeo⟩:=hrg;have wn:IntKind.i64.wrap (x.n-1)=x.n-1:=IntWalk.i64_in _ (by omega);have ws:IntKind.i64.wrap (x.s-1)=x.s-1:=IntWalk.i64_in _ (by omega);by_cases hzl:(zs.length:Int)=x.n-1
 . have hne:((zs.length:Int) !=x.n-1)=false:=by simp [hzl]
   have HZL:=aa hzl;have h12:zs.length<=12:=by omega
   have hsec:da zs=cE zs:=by unfold da;rw [decide_eq_true h12,Bool.true_and]
   have HSEC:=aa hsec;clear hzl hsec h12;have X2:=X1;have q5:=p5;have B2:=B1;clear X1 p5 B1;go_wp2_with fail
   refine (dy _ _ _ _ zs rfl (aO q5).1 hz5).mono ?_
   rintro e w3 ⟨rfl,hw3⟩;subst hw3;have X3:=X2;have B3:=B2;clear k0 k1 k2 k3 k4 k5 k6 k7 k8 k9 k10 k11 k12 X2 q5 B2;obtain ⟨k0,k1,k2,k3,k4,k5,k6,k7,k8,k9,k10,k11,k12⟩:=X3.cells13;cases haw:cE zs
   . have HV:Hid (cI x ms ds s zs=1):=by unfold Hid cI;rw [ha,haw,Bool.and_false,Bool.and_false,if_pos rfl]
     clear haw ha;have HB:=aa B3;clear B3;go_wp2
     go_ret
     exact ⟨aP HV.out.symm,HB.out⟩
   have HU:Hid (cI x ms ds s zs=if x.down=true then 6 else if inB s 0 (x.s-1)=false then 2 else if x.uH=true then 5 else if x.seq=60000∨59990<=x.gen then 7 else 0):=by unfold Hid cI;rw [ha,haw,decide_eq_true HZL.out,if_neg (by simp)]
   clear haw ha;cases hdn:x.down
   . rw [hdn] at k11
     have HU2:Hid (cI x ms ds s zs=if inB s 0 (x.s-1)=false then 2 else if x.uH=true then 5 else if x.seq=60000∨59990<=x.gen then 7 else 0):=by unfold Hid;rw [HU.out,hdn,if_neg (by simp)]
     clear hdn HU;go_wp2_with fail
     refine (aB s 0 (x.s-1) _).mono ?_
     rintro e w4 ⟨rfl,hw4⟩;subst hw4;have X4:=X3;have B4:=B3;clear X3 B3;cases hin:inB s 0 (x.s-1)
     . have HV:Hid (cI x ms ds s zs=2):=by unfold Hid;rw [HU2.out,hin,if_pos rfl]
       clear hin;have HB:=aa B4;clear B4;go_wp2
       go_ret
       exact ⟨aP HV.out.symm,HB.out⟩
     have HU3:Hid (cI x ms ds s zs=if x.uH=true then 5 else if x.seq=60000∨59990<=x.gen then 7 else 0):=by unfold Hid;rw [HU2.out,hin,if_neg (by simp)]
     clear hin HU2;cases hbr:x.uH
     . rw [hbr] at k12
       have HU4:Hid (cI x ms ds s zs=if x.seq=60000∨59990<=x.gen then 7 else 0):=by unfold Hid;rw [HU3.out,hbr,if_neg (by simp)]
       clear hbr HU3;by_cases hq:x.seq=60000
       . have HV:Hid (cI x ms ds s zs=7):=by unfold Hid;rw [HU4.out,if_pos (.inl hq)]
         have e1:(x.seq==60000)=true:=by simpa using hq
         have e2:decide (60000<=x.seq)=true:=by simp;omega
         have e3:60000<=x.seq:=by omega
         clear hq;have HB:=aa B4;clear B4;go_wp2
         go_ret
         exact ⟨aP HV.out.symm,HB.out⟩
       have e1:(x.seq==60000)=false:=by simpa using hq
       have e2:¬60000<=x.seq:=by omega
       have e3:decide (60000<=x.seq)=false:=by simp;omega
       by_cases hgn:59990<=x.gen
       . have HV:Hid (cI x ms ds s zs=7):=by unfold Hid;rw [HU4.out,if_pos (.inr hgn)]
         clear hq;have HB:=aa B4;clear B4;go_wp2
         go_ret
         exact ⟨aP HV.out.symm,HB.out⟩
       have HV:Hid (cI x ms ds s zs=0):=by unfold Hid;rw [HU4.out,if_neg (fun h=>h.elim hq hgn)]
       clear hq;have HB:=aa B4;clear B4;go_wp2
       go_ret
       exact ⟨aP HV.out.symm,HB.out⟩
     rw [hbr] at k12;have HV:Hid (cI x ms ds s zs=5):=by unfold Hid;rw [HU3.out,hbr,if_pos rfl]
     clear hbr;have HB:=aa B4;clear B4;go_wp2
     go_ret
     exact ⟨aP HV.out.symm,HB.out⟩
   rw [hdn] at k11;have HV:Hid (cI x ms ds s zs=6):=by unfold Hid;rw [HU.out,hdn,if_pos rfl]
   clear hdn;have HB:=aa B3;clear B3;go_wp2
   go_ret
   exact ⟨aP HV.out.symm,HB.out⟩
 have hne:((zs.length:Int) !=x.n-1)=true:=by simpa using hzl
 have HV:Hid (cI x ms ds s zs=1):=by unfold Hid cI;rw [ha,decide_eq_false hzl,Bool.false_and,Bool.and_false,if_pos rfl]
 clear hzl;have X2:=X1;have q5:=p5;have B2:=B1;clear X1 p5 B1;clear ha;have HB:=aa B2;clear B2;go_wp2
 go_ret
 exact ⟨aP HV.out.symm,HB.out⟩
end Go.Proofs.YtejokiafgbjdaaaGreat
